import PyProof.Rows.All
import Wide.All
import OpenK.AllK
import Wide.FinOn
import HandS.ForMost
import HandS.TupAny
import HandS.IsInst
import HandS.Wide
import HandS.Steps
import HandS.RaiseMore
import HandS.Iter
import HandS.SortInts
import HandS.Style
import PyProof.AutoSeq1
import HandS.WordsDict
import HandS.WordsExc
import HandS.ExcInit
import HandS.Gcd
import HandS.ForExc
import HandS.ExcField
import HandS.Conv
import HandS.Comp
import HandS.Set
import HandS.Strs
import HandS.Zip
import KE.GoesMore
import HandS.CallLocal
import HandS.More
import PySem.Challenge.RW_carryclaim_k09_whole_operations_on_range
set_option Elab.async false
set_option linter.all false
set_option maxRecDepth 100000
set_option maxHeartbeats 1000000
/-! Plain data over the hand layer: what a piece of the program does, as a function of plain values. -/
namespace Pd
open PySem L2

/-! ### plain values -/
inductive D where
  | non | bl (b : Bool) | int (i : Int) | str (x : Str) | tup (xs : List D) | lst (xs : List D) | rol (xs : List D) | adr (i : Nat) | raw (v : V) | xcp (a dd : Addr) (ns : List Str) (ds : List D)
/-- an object that changes -/
inductive MO where
  | lst (xs : List D)
  | ins (C : Addr) (fs : List (Str × D))
  | dct (kvs : List (L2.Key × D))
abbrev Rho := List (Option D)
abbrev PM := List MO
/-- what comes of a piece: a value and the objects; an exception; nothing that is told -/
inductive Out (A : Type) where
  | ok (a : A) (M : PM)
  | exn (c : Value) (fs : Option (List (Str × D))) (M : PM)
  | bad
def Out.bind {A B : Type} : Out A → (A → PM → Out B) → Out B
  | .ok a M, g => g a M
  | .exn c fs M, _ => .exn c fs M
  | .bad, _ => .bad
@[simp] theorem Out.bind_ok {A B : Type} (a : A) (M : PM) (g : A → PM → Out B) : (Out.ok a M).bind g = g a M := rfl
@[simp] theorem Out.bind_exn {A B : Type} (c : Value) (fs : Option (List (Str × D))) (M : PM) (g : A → PM → Out B) : (Out.exn c fs M : Out A).bind g = .exn c fs M := rfl
@[simp] theorem Out.bind_bad {A B : Type} (g : A → PM → Out B) : (Out.bad : Out A).bind g = .bad := rfl

/-! ### how they lie -/
def K0 : Hp := fun _ => none
def TupAt (K : PySem.W.Frag) (α : List Addr) (H : Hp) (p : Addr) (xs : List V) : Prop := (Rd H p (.tup xs) ∧ p ∉ α) ∨ SqT K K0 p xs
def LstAt (α : List Addr) (H : Hp) (p : Addr) (xs : List V) : Prop := H p = some (.lst xs) ∧ p ∉ α
/-- a list that is only read: the script, a constant -/
def RolAt (K : PySem.W.Frag) (α : List Addr) (H : Hp) (p : Addr) (xs : List V) : Prop := (Rd H p (.lst xs) ∧ p ∉ α) ∨ SqL K K0 p xs
section
variable {K : PySem.W.Frag} {α α' α'' : List Addr} {H H' H'' : Hp} {p a : Addr} {xs : List V}
theorem rd0 {u : HO} (h : Rd K0 p u) : False := by
  rcases h with h | ⟨o, h⟩
  · cases h
  · cases h
theorem TupAt.sq (h : TupAt K α H p xs) : SqT K H p xs := by
  rcases h with h | h
  · exact .inl h.1
  · rcases h with h | h
    · exact (rd0 h).elim
    · exact .inr h
theorem LstAt.sq (h : LstAt α H p xs) : SqL K H p xs := .of h.1
theorem RolAt.sq (h : RolAt K α H p xs) : SqL K H p xs := by
  rcases h with h | h
  · exact .inl h.1
  · rcases h with h | h
    · exact (rd0 h).elim
    · exact .inr h
/-- from one moment to a later one: new objects that change come behind; all else that was tracked stands -/
structure Step (α : List Addr) (H : Hp) (α' : List Addr) (H' : Hp) : Prop where
  ext : ∃ β, α' = α ++ β ∧ ∀ b, b ∈ β → H b = none
  pr : ∀ a o, H a = some o → a ∉ α → H' a = some o
theorem Step.refl (α : List Addr) (H : Hp) : Step α H α H := ⟨⟨[], by simp, fun _ h => by cases h⟩, fun _ _ h _ => h⟩
theorem Step.out (s : Step α H α' H') {o : HO} (h : H a = some o) (n : a ∉ α) : a ∉ α' := by
  obtain ⟨β, rfl, hb⟩ := s.ext
  intro q
  rcases List.mem_append.mp q with q | q
  · exact n q
  · rw [hb a q] at h
    cases h
theorem Step.trans (s : Step α H α' H') (t : Step α' H' α'' H'') (k : ∀ b, b ∈ α → H b ≠ none → H' b ≠ none) : Step α H α'' H'' := by
  refine ⟨?_, fun a o h n => t.pr a o (s.pr a o h n) (s.out h n)⟩
  obtain ⟨β, e, hb⟩ := s.ext
  obtain ⟨γ, e', hc⟩ := t.ext
  refine ⟨β ++ γ, by rw [e', e, List.append_assoc], fun b hb' => ?_⟩
  rcases List.mem_append.mp hb' with q | q
  · exact hb b q
  · cases h : H b with
    | none => rfl
    | some o =>
      have z := hc b q
      by_cases n : b ∈ α
      · exact absurd z (k b n (by rw [h]; exact fun q => nomatch q))
      · rw [s.pr b o h n] at z
        cases z
theorem TupAt.step (s : Step α H α' H') (h : TupAt K α H p xs) : TupAt K α' H' p xs := by
  rcases h with ⟨h | ⟨o, h⟩, n⟩ | h
  · exact .inl ⟨.inl (s.pr _ _ h n), s.out h n⟩
  · exact .inl ⟨.inr ⟨o, s.pr _ _ h n⟩, s.out h n⟩
  · exact .inr h
theorem LstAt.step (s : Step α H α' H') (h : LstAt α H p xs) : LstAt α' H' p xs := ⟨s.pr _ _ h.1 h.2, s.out h.1 h.2⟩
theorem RolAt.step (s : Step α H α' H') (h : RolAt K α H p xs) : RolAt K α' H' p xs := by
  rcases h with ⟨h | ⟨o, h⟩, n⟩ | h
  · exact .inl ⟨.inl (s.pr _ _ h n), s.out h n⟩
  · exact .inl ⟨.inr ⟨o, s.pr _ _ h n⟩, s.out h n⟩
  · exact .inr h
end
mutual
inductive Rep (K : PySem.W.Frag) (α : List Addr) (H : Hp) : D → V → Prop
  | non : Rep K α H .non .non
  | bl (b : Bool) : Rep K α H (.bl b) (.bl b)
  | int (i : Int) : Rep K α H (.int i) (.int i)
  | str (x : Str) : Rep K α H (.str x) (.str x)
  | raw (v : V) : Rep K α H (.raw v) v
  | adr {i : Nat} {a : Addr} : α[i]? = some a → Rep K α H (.adr i) (.ref a)
  | tup {p : Addr} {xs : List V} {ds : List D} : TupAt K α H p xs → RepL K α H ds xs → Rep K α H (.tup ds) (.ref p)
  | lst {p : Addr} {xs : List V} {ds : List D} : LstAt α H p xs → RepL K α H ds xs → Rep K α H (.lst ds) (.ref p)
  | rol {p : Addr} {xs : List V} {ds : List D} : RolAt K α H p xs → RepL K α H ds xs → Rep K α H (.rol ds) (.ref p)
  | xcp {a dd : Addr} {ns : List Str} {ds : List D} {vs : List V} : H dd = some (.xd (ns.zip vs)) → dd ∉ α → RepL K α H ds vs → Rep K α H (.xcp a dd ns ds) (.ref a)
inductive RepL (K : PySem.W.Frag) (α : List Addr) (H : Hp) : List D → List V → Prop
  | nil : RepL K α H [] []
  | cons {d : D} {ds : List D} {v : V} {vs : List V} : Rep K α H d v → RepL K α H ds vs → RepL K α H (d :: ds) (v :: vs)
end
section
variable {K : PySem.W.Frag} {α α' α'' : List Addr} {H H' H'' : Hp} {p a : Addr}
mutual
theorem Rep.step (s : Step α H α' H') : ∀ (d : D) (v : V), Rep K α H d v → Rep K α' H' d v
  | .non, _, h => by cases h; exact .non
  | .bl b, _, h => by cases h; exact .bl b
  | .int i, _, h => by cases h; exact .int i
  | .str x, _, h => by cases h; exact .str x
  | .raw v, _, h => by cases h; exact .raw v
  | .adr i, _, h => by
    cases h with
    | adr e =>
      obtain ⟨β, q, _⟩ := s.ext
      refine .adr ?_
      rw [q, List.getElem?_append_left (List.getElem?_eq_some_iff.mp e).1]
      exact e
  | .tup ds, _, h => by
    cases h with
    | tup t r => exact .tup (t.step s) (RepL.step s ds _ r)
  | .lst ds, _, h => by
    cases h with
    | lst t r => exact .lst (t.step s) (RepL.step s ds _ r)
  | .rol ds, _, h => by
    cases h with
    | rol t r => exact .rol (t.step s) (RepL.step s ds _ r)
  | .xcp a dd ns ds, _, h => by
    cases h with
    | xcp e n r => exact .xcp (s.pr _ _ e n) (s.out e n) (RepL.step s ds _ r)
theorem RepL.step (s : Step α H α' H') : ∀ (ds : List D) (vs : List V), RepL K α H ds vs → RepL K α' H' ds vs
  | [], _, h => by cases h; exact .nil
  | d :: ds, _, h => by
    cases h with
    | cons r t => exact .cons (Rep.step s d _ r) (RepL.step s ds _ t)
end
theorem RepL.length : ∀ {ds : List D} {vs : List V}, RepL K α H ds vs → ds.length = vs.length
  | _, _, .nil => rfl
  | _, _, .cons _ t => by rw [List.length_cons, List.length_cons, RepL.length t]
theorem RepL.get : ∀ {ds : List D} {vs : List V} {i : Nat} {d : D}, RepL K α H ds vs → ds[i]? = some d → ∃ v, vs[i]? = some v ∧ Rep K α H d v
  | _, _, _, _, .nil, e => by simp at e
  | _, _, 0, _, .cons r _, e => by simp at e; subst e; exact ⟨_, rfl, r⟩
  | _, _, i + 1, d, .cons _ t, e => by
    obtain ⟨v, h1, h2⟩ := RepL.get (i := i) (d := d) t (by simpa using e)
    exact ⟨v, by simpa using h1, h2⟩
theorem RepL.get' : ∀ {ds : List D} {vs : List V} {i : Nat} {v : V}, RepL K α H ds vs → vs[i]? = some v → ∃ d, ds[i]? = some d ∧ Rep K α H d v
  | _, _, _, _, .nil, e => by simp at e
  | _, _, 0, _, .cons r _, e => by simp at e; subst e; exact ⟨_, rfl, r⟩
  | _, _, i + 1, v, .cons _ t, e => by
    obtain ⟨d, h1, h2⟩ := RepL.get' (i := i) (v := v) t (by simpa using e)
    exact ⟨d, by simpa using h1, h2⟩
theorem RepL.append : ∀ {ds es : List D} {vs ws : List V}, RepL K α H ds vs → RepL K α H es ws → RepL K α H (ds ++ es) (vs ++ ws)
  | _, _, _, _, .nil, s => s
  | _, _, _, _, .cons r t, s => .cons r (RepL.append t s)
theorem RepL.take : ∀ {ds : List D} {vs : List V} (n : Nat), RepL K α H ds vs → RepL K α H (ds.take n) (vs.take n)
  | _, _, 0, _ => .nil
  | _, _, _ + 1, .nil => .nil
  | _, _, n + 1, .cons r t => .cons r (RepL.take n t)
theorem RepL.drop : ∀ {ds : List D} {vs : List V} (n : Nat), RepL K α H ds vs → RepL K α H (ds.drop n) (vs.drop n)
  | _, _, 0, r => r
  | _, _, _ + 1, .nil => .nil
  | _, _, n + 1, .cons _ t => RepL.drop n t
theorem RepL.set {d : D} {v : V} (r : Rep K α H d v) : ∀ {ds : List D} {vs : List V} (i : Nat), RepL K α H ds vs → RepL K α H (ds.set i d) (vs.set i v)
  | _, _, _, .nil => .nil
  | _, _, 0, .cons _ t => .cons r t
  | _, _, i + 1, .cons q t => .cons q (RepL.set r i t)
/-- a dict's entries -/
inductive DL (K : PySem.W.Frag) (α : List Addr) (H : Hp) : List (Key × D) → List (Key × V) → Prop
  | nil : DL K α H [] []
  | cons {k : Key} {d : D} {v : V} {r : List (Key × D)} {s : List (Key × V)} : Rep K α H d v → DL K α H r s → DL K α H ((k, d) :: r) ((k, v) :: s)
theorem DL.step (s : Step α H α' H') : ∀ {r : List (Key × D)} {q : List (Key × V)}, DL K α H r q → DL K α' H' r q
  | _, _, .nil => .nil
  | _, _, .cons h t => .cons (Rep.step s _ _ h) (DL.step s t)
theorem DL.length : ∀ {r : List (Key × D)} {q : List (Key × V)}, DL K α H r q → r.length = q.length
  | _, _, .nil => rfl
  | _, _, .cons _ t => by rw [List.length_cons, List.length_cons, t.length]
/-- an object that changes, at its place -/
def ObR (K : PySem.W.Frag) (α : List Addr) (H : Hp) (a : Addr) : MO → Prop
  | .lst ds => ∃ vs, H a = some (.lst vs) ∧ RepL K α H ds vs
  | .ins C fs => ∃ dx vs, H a = some (.ins C dx ((fs.map (·.1)).zip vs)) ∧ RepL K α H (fs.map (·.2)) vs
  | .dct kvs => ∃ q, H a = some (.dK q) ∧ DL K α H kvs q
theorem ObR.there {m : MO} (h : ObR K α H a m) : ∃ o, H a = some o := by
  cases m with
  | lst ds => obtain ⟨vs, e, _⟩ := h; exact ⟨_, e⟩
  | ins C fs => obtain ⟨dx, vs, e, _⟩ := h; exact ⟨_, e⟩
  | dct kvs => obtain ⟨q, e, _⟩ := h; exact ⟨_, e⟩
structure Wd (K : PySem.W.Frag) (α : List Addr) (M : PM) (H : Hp) : Prop where
  nd : α.Nodup
  len : α.length = M.length
  ob : ∀ (i : Nat) (m : MO), M[i]? = some m → ∃ a, α[i]? = some a ∧ ObR K α H a m
theorem Wd.there {M : PM} (w : Wd K α M H) {b : Addr} (h : b ∈ α) : ∃ o, H b = some o := by
  obtain ⟨i, hi, e⟩ := List.mem_iff_getElem.mp h
  have hm : i < M.length := by rw [← w.len]; exact hi
  obtain ⟨a, e1, o1⟩ := w.ob i M[i] (List.getElem?_eq_getElem hm)
  have : α[i]? = some b := by rw [List.getElem?_eq_getElem hi, e]
  rw [this] at e1
  cases e1
  exact o1.there
theorem Step.tr {M' : PM} (s : Step α H α' H') (w : Wd K α' M' H') (t : Step α' H' α'' H'') : Step α H α'' H'' := s.trans t fun b hb _ => by
  obtain ⟨β, e, _⟩ := s.ext
  obtain ⟨o, ho⟩ := w.there (b := b) (by rw [e]; exact List.mem_append_left _ hb)
  rw [ho]
  exact fun q => nomatch q
/-- nothing but new objects -/
theorem Step.ex {α : List Addr} (h : ∀ a o, H a = some o → H' a = some o) : Step α H α H' := ⟨⟨[], by simp, fun _ h => by cases h⟩, fun a o e _ => h a o e⟩
theorem Wd.ex {M : PM} (w : Wd K α M H) (h : ∀ a o, H a = some o → H' a = some o) : Wd K α M H' := by
  refine ⟨w.nd, w.len, fun i m e => ?_⟩
  obtain ⟨a, e1, o1⟩ := w.ob i m e
  refine ⟨a, e1, ?_⟩
  cases m with
  | lst ds => obtain ⟨vs, q, r⟩ := o1; exact ⟨vs, h _ _ q, RepL.step (Step.ex h) _ _ r⟩
  | ins C fs => obtain ⟨dx, vs, q, r⟩ := o1; exact ⟨dx, vs, h _ _ q, RepL.step (Step.ex h) _ _ r⟩
  | dct kvs => obtain ⟨vs, q, r⟩ := o1; exact ⟨vs, h _ _ q, DL.step (Step.ex h) r⟩
theorem ex_new {o : HO} (h : H p = none) : ∀ a u, H a = some u → upd H p o a = some u := fun a u e => by
  rw [upd_ne (ne_of_none e h)]
  exact e
/-- the object i is stored anew -/
theorem Wd.put {M : PM} {i : Nat} {m : MO} {o : HO} (w : Wd K α M H) (ha : α[i]? = some a) (hi : i < M.length) (hr : ∀ H', Step α H α H' → H' a = some o → ObR K α H' a m) :
    Wd K α (M.set i m) (upd H a o) ∧ Step α H α (upd H a o) := by
  have hm : a ∈ α := List.mem_of_getElem? ha
  have st : Step α H α (upd H a o) := ⟨⟨[], by simp, fun _ h => by cases h⟩, fun b u e n => by rw [upd_ne (fun z => n (by rw [z]; exact hm))]; exact e⟩
  refine ⟨⟨w.nd, by rw [List.length_set]; exact w.len, fun j n e => ?_⟩, st⟩
  by_cases hij : i = j
  · subst hij
    rw [List.getElem?_set_self hi] at e
    cases e
    exact ⟨a, ha, hr _ st upd_same⟩
  · rw [List.getElem?_set_ne hij] at e
    obtain ⟨b, e1, o1⟩ := w.ob j n e
    have hb : b ≠ a := fun z => by
      subst z
      have h1 := (List.getElem?_eq_some_iff.mp ha)
      have h2 := (List.getElem?_eq_some_iff.mp e1)
      exact hij ((List.getElem_inj w.nd).mp (h1.2.trans h2.2.symm))
    refine ⟨b, e1, ?_⟩
    cases n with
    | lst ds => obtain ⟨vs, q, r⟩ := o1; exact ⟨vs, by rw [upd_ne hb]; exact q, RepL.step st _ _ r⟩
    | ins C fs => obtain ⟨dx, vs, q, r⟩ := o1; exact ⟨dx, vs, by rw [upd_ne hb]; exact q, RepL.step st _ _ r⟩
    | dct kvs => obtain ⟨vs, q, r⟩ := o1; exact ⟨vs, by rw [upd_ne hb]; exact q, DL.step st r⟩
/-- a new object that changes -/
theorem Wd.new {M : PM} {m : MO} {o : HO} (w : Wd K α M H) (hn : H a = none) (hr : ∀ H', Step α H (α ++ [a]) H' → H' a = some o → ObR K (α ++ [a]) H' a m) :
    Wd K (α ++ [a]) (M ++ [m]) (upd H a o) ∧ Step α H (α ++ [a]) (upd H a o) := by
  have st : Step α H (α ++ [a]) (upd H a o) := ⟨⟨[a], rfl, fun b h => by rw [List.mem_singleton.mp h]; exact hn⟩, fun b u e _ => ex_new hn b u e⟩
  have na : a ∉ α := fun h => by
    obtain ⟨o, e⟩ := w.there h
    rw [hn] at e
    cases e
  refine ⟨⟨List.nodup_append.mpr ⟨w.nd, by simp, fun x hx y hy z => na (by rw [List.mem_singleton.mp hy] at z; rw [← z]; exact hx)⟩, by simp [w.len], fun j n e => ?_⟩, st⟩
  by_cases hj : j < M.length
  · rw [List.getElem?_append_left hj] at e
    obtain ⟨b, e1, o1⟩ := w.ob j n e
    have hb : b ≠ a := fun z => na (by rw [← z]; exact List.mem_of_getElem? e1)
    refine ⟨b, by rw [List.getElem?_append_left (List.getElem?_eq_some_iff.mp e1).1]; exact e1, ?_⟩
    cases n with
    | lst ds => obtain ⟨vs, q, r⟩ := o1; exact ⟨vs, by rw [upd_ne hb]; exact q, RepL.step st _ _ r⟩
    | ins C fs => obtain ⟨dx, vs, q, r⟩ := o1; exact ⟨dx, vs, by rw [upd_ne hb]; exact q, RepL.step st _ _ r⟩
    | dct kvs => obtain ⟨vs, q, r⟩ := o1; exact ⟨vs, by rw [upd_ne hb]; exact q, DL.step st r⟩
  · have ej : j = M.length := by
      have := (List.getElem?_eq_some_iff.mp e).1
      rw [List.length_append] at this
      simp at this
      omega
    subst ej
    rw [List.getElem?_append_right (Nat.le_refl _), Nat.sub_self] at e
    have e2 : m = n := Option.some.inj e
    subst e2
    exact ⟨a, by rw [← w.len, List.getElem?_append_right (Nat.le_refl _), Nat.sub_self]; rfl, hr _ st upd_same⟩
/-- the names' values -/
def EnvR (K : PySem.W.Frag) (α : List Addr) (H : Hp) (ρ : Rho) (σ : St) : Prop := ρ.length = σ.length ∧ ∀ (i : Nat) (d : D), ρ[i]? = some (some d) → ∃ v, σ[i]? = some (some v) ∧ Rep K α H d v
theorem EnvR.step {ρ : Rho} {σ : St} (e : EnvR K α H ρ σ) (s : Step α H α' H') : EnvR K α' H' ρ σ := ⟨e.1, fun i d h => by
  obtain ⟨v, h1, h2⟩ := e.2 i d h
  exact ⟨v, h1, Rep.step s _ _ h2⟩⟩
theorem EnvR.set {ρ : Rho} {σ : St} {i : Nat} {d : D} {v : V} (e : EnvR K α H ρ σ) (r : Rep K α H d v) : EnvR K α H (ρ.set i (some d)) (σ.set i (some v)) := by
  refine ⟨by rw [List.length_set, List.length_set]; exact e.1, fun j d' h => ?_⟩
  by_cases hij : i = j
  · subst hij
    by_cases hl : i < ρ.length
    · rw [List.getElem?_set_self hl] at h
      have : d = d' := Option.some.inj (Option.some.inj h)
      subst this
      exact ⟨v, by rw [List.getElem?_set_self (by rw [← e.1]; exact hl)], r⟩
    · rw [List.set_eq_of_length_le (by omega)] at h
      exact absurd (List.getElem?_eq_some_iff.mp h).1 hl
  · rw [List.getElem?_set_ne hij] at h
    obtain ⟨v', h1, h2⟩ := e.2 j d' h
    exact ⟨v', by rw [List.getElem?_set_ne hij]; exact h1, h2⟩
/-- an exception's own dict -/
def XRep (K : PySem.W.Frag) (α : List Addr) (H : Hp) : Option (List (Str × D)) → Option Addr → Prop
  | none, od => od = none
  | some fs, od => ∃ (dd : Addr) (vs : List V), od = some dd ∧ H dd = some (.xd ((fs.map (·.1)).zip vs)) ∧ dd ∉ α ∧ RepL K α H (fs.map (·.2)) vs
/-- what is wanted behind a piece -/
def Post {A B : Type} (R : List Addr → Hp → A → B → Prop) (K : PySem.W.Frag) (α : List Addr) (H : Hp) (Q : B → Hp → Prop) (E : XK) : Out A → Prop
  | .ok a M' => ∀ b α' H', Step α H α' H' → Wd K α' M' H' → R α' H' a b → Q b H'
  | .exn c fs M' => ∀ od α' H', Step α H α' H' → Wd K α' M' H' → XRep K α' H' fs od → E c od H'
  | .bad => False
theorem Post.step {A B : Type} {R : List Addr → Hp → A → B → Prop} {Q : B → Hp → Prop} {E : XK} {M : PM} {o : Out A} (h : Post R K α H Q E o) (s : Step α H α' H') (w : Wd K α' M H') : Post R K α' H' Q E o := by
  cases o with
  | ok a M' => exact fun b β G t x r => h b β G (s.tr w t) x r
  | exn c fs M' => exact fun od β G t x r => h od β G (s.tr w t) x r
  | bad => exact h
def RX {A B : Type} (R : List Addr → Hp → A → B → Prop) (K : PySem.W.Frag) (E : XK) (t : St → Hp → (B → Hp → Prop) → Prop) (f : Rho → PM → Out A) : Prop :=
  ∀ ρ σ H α M Q, EnvR K α H ρ σ → Wd K α M H → Post R K α H Q E (f ρ M) → t σ H Q
abbrev RE (K : PySem.W.Frag) (E : XK) (t : TE) (f : Rho → PM → Out D) : Prop := RX (Rep K) K E t f
abbrev RT (K : PySem.W.Frag) (E : XK) (t : TT) (f : Rho → PM → Out Bool) : Prop := RX (fun _ _ a b => a = b) K E t f
abbrev RA (K : PySem.W.Frag) (E : XK) (t : TA) (f : Rho → PM → Out (List D)) : Prop := RX (RepL K) K E t f
/-- THE CHAIN: a piece, then what follows with its value -/
theorem bnd {A B A' B' : Type} {R : List Addr → Hp → A → B → Prop} {R' : List Addr → Hp → A' → B' → Prop} {Q : B' → Hp → Prop} {E : XK} {o : Out A} {g : A → PM → Out A'} {C : B → Hp → Prop}
    (hp : Post R' K α H Q E (o.bind g)) (k : ∀ a M' b α' H', o = .ok a M' → Step α H α' H' → Wd K α' M' H' → R α' H' a b → Post R' K α' H' Q E (g a M') → C b H') : Post R K α H C E o := by
  cases o with
  | ok a M' => exact fun b α' H' s w r => k a M' b α' H' rfl s w r (Post.step hp s w)
  | exn c fs M' => exact hp
  | bad => exact hp
end
end Pd

set_option Elab.async false
set_option linter.all false
set_option maxRecDepth 100000
set_option maxHeartbeats 1000000
namespace Pd
open PySem L2

/-! ### pieces as functions of plain values -/
abbrev FE := Rho → PM → Out D
abbrev FT := Rho → PM → Out Bool
abbrev FA := Rho → PM → Out (List D)
abbrev FO := Rho → PM → Out (Option Int)
inductive Fl where
  | nx (ρ : Rho) | rt (d : D) | bk (ρ : Rho) | ct (ρ : Rho)
abbrev FS := Rho → PM → Out Fl
abbrev FG := D → Rho → PM → Out Rho
abbrev FGs := List D → Rho → PM → Out Rho
def pVar (i : Nat) : FE := fun ρ M => match ρ[i]? with | some (some d) => .ok d M | _ => .bad
def pC (d : D) : FE := fun _ M => .ok d M
def pOp (g : PM → D → D → Out D) (fa fb : FE) : FE := fun ρ M => (fa ρ M).bind fun a M1 => (fb ρ M1).bind fun b M2 => g M2 a b
def pUn (g : PM → D → Out D) (fa : FE) : FE := fun ρ M => (fa ρ M).bind fun a M1 => g M1 a
def asB : D → PM → Out Bool
  | .bl b, M => .ok b M
  | _, _ => .bad
def pTest (fa : FE) : FT := fun ρ M => (fa ρ M).bind asB
def pAnd (f g : FT) : FT := fun ρ M => (f ρ M).bind fun b M1 => if b = true then g ρ M1 else .ok false M1
def pOr (f g : FT) : FT := fun ρ M => (f ρ M).bind fun b M1 => if b = true then .ok true M1 else g ρ M1
def pNot (f : FT) : FT := fun ρ M => (f ρ M).bind fun b M1 => .ok (!b) M1
def pIf (c : FT) (f g : FE) : FE := fun ρ M => (c ρ M).bind fun b M1 => if b = true then f ρ M1 else g ρ M1
def pAndV (f g : FE) : FE := fun ρ M => (f ρ M).bind fun a M1 => (asB a M1).bind fun b M1 => if b = true then g ρ M1 else .ok (.bl false) M1
def pOrV (f g : FE) : FE := fun ρ M => (f ρ M).bind fun a M1 => (asB a M1).bind fun b M1 => if b = true then .ok (.bl true) M1 else g ρ M1
def pNotV (f : FE) : FE := fun ρ M => (f ρ M).bind fun a M1 => (asB a M1).bind fun b M1 => .ok (.bl (!b)) M1
def aNil : FA := fun _ M => .ok [] M
def aCons (f : FE) (g : FA) : FA := fun ρ M => (f ρ M).bind fun a M1 => (g ρ M1).bind fun as M2 => .ok (a :: as) M2
/-- 16,777,216: the longest list, tuple or text -/
abbrev line : Nat := 16777216
def pTup (f : FA) : FE := fun ρ M => (f ρ M).bind fun as M1 => if as.length ≤ line then .ok (.tup as) M1 else .bad
def pLst (f : FA) : FE := fun ρ M => (f ρ M).bind fun as M1 => if as.length ≤ line then .ok (.lst as) M1 else .bad
/-- a list that is to change -/
def pNew (f : FA) : FE := fun ρ M => (f ρ M).bind fun as M1 => if as.length ≤ line then .ok (.adr M1.length) (M1 ++ [.lst as]) else .bad
def pCall (Φ : List D → PM → Out D) (f : FA) : FE := fun ρ M => (f ρ M).bind Φ
def pCB (g : PM → List D → Out D) (f : FA) : FE := fun ρ M => (f ρ M).bind fun as M1 => g M1 as
def oNone : FO := fun _ M => .ok none M
def oSome (f : FE) : FO := fun ρ M => (f ρ M).bind fun a M1 => match a with | .int i => .ok (some i) M1 | _ => .bad
def pSl (g : PM → D → Option Int → Option Int → Out D) (f : FE) (fl fh : FO) : FE := fun ρ M => (f ρ M).bind fun a M1 => (fl ρ M1).bind fun l M2 => (fh ρ M2).bind fun h M3 => g M3 a l h
def gor (g g' : PM → D → D → Out D) : PM → D → D → Out D := fun M a b => match g M a b with | .bad => g' M a b | o => o
/-! statements -/
def sNext : FS := fun ρ M => .ok (.nx ρ) M
def sSeq (f g : FS) : FS := fun ρ M => (f ρ M).bind fun fl M1 => match fl with | .nx ρ' => g ρ' M1 | fl => .ok fl M1
def sAsg (f : FE) (g : FG) : FS := fun ρ M => (f ρ M).bind fun d M1 => (g d ρ M1).bind fun ρ' M2 => .ok (.nx ρ') M2
def sDrop (f : FE) : FS := fun ρ M => (f ρ M).bind fun _ M1 => .ok (.nx ρ) M1
def sRet (f : FE) : FS := fun ρ M => (f ρ M).bind fun d M1 => .ok (.rt d) M1
def sRetN : FS := fun _ M => .ok (.rt .non) M
def sIf (c : FT) (f g : FS) : FS := fun ρ M => (c ρ M).bind fun b M1 => if b = true then f ρ M1 else g ρ M1
def sBreak : FS := fun ρ M => .ok (.bk ρ) M
def sCont : FS := fun ρ M => .ok (.ct ρ) M
def fName (i : Nat) : FG := fun d ρ M => .ok (ρ.set i (some d)) M
def fNil : FGs := fun ds ρ M => match ds with | [] => .ok ρ M | _ => .bad
def fCons (f : FG) (g : FGs) : FGs := fun ds ρ M => match ds with | d :: r => (f d ρ M).bind fun ρ1 M1 => g r ρ1 M1 | [] => .bad
def fTup (n : Nat) (g : FGs) : FG := fun d ρ M => match d with | .tup ds => if ds.length = n then g ds ρ M else .bad | _ => .bad
/-- what is stored at o[i] -/
def putL (M : PM) (o i v : D) : Out Unit := match o, i with
  | .adr k, .int j => match M[k]? with
    | some (.lst ds) => match ixN ds.length j with
      | some n => .ok () (M.set k (.lst (ds.set n v)))
      | none => .bad
    | _ => .bad
  | _, _ => .bad
def fSub (fo fi : FE) : FG := fun d ρ M => (fo ρ M).bind fun o M1 => (fi ρ M1).bind fun i M2 => (putL M2 o i d).bind fun _ M3 => .ok ρ M3
def sWhile (c : FT) (b : FS) : Nat → FS
  | 0, _, _ => .bad
  | n + 1, ρ, M => (c ρ M).bind fun k M1 => if k = true then (b ρ M1).bind fun fl M2 => match fl with
      | .nx ρ' => sWhile c b n ρ' M2
      | .ct ρ' => sWhile c b n ρ' M2
      | .bk ρ' => .ok (.nx ρ') M2
      | .rt d => .ok (.rt d) M2
    else .ok (.nx ρ) M1
def sEach (g : FG) (b : FS) : List D → FS
  | [], ρ, M => .ok (.nx ρ) M
  | d :: ds, ρ, M => (g d ρ M).bind fun ρ1 M1 => (b ρ1 M1).bind fun fl M2 => match fl with
      | .nx ρ' => sEach g b ds ρ' M2
      | .ct ρ' => sEach g b ds ρ' M2
      | .bk ρ' => .ok (.nx ρ') M2
      | .rt d => .ok (.rt d) M2
def sFor (w : FA) (g : FG) (b : FS) : FS := fun ρ M => (w ρ M).bind fun ds M1 => sEach g b ds ρ M1
def sAug (i : Nat) (f : FE) (g : PM → D → D → Out D) : FS := fun ρ M => match ρ[i]? with
  | some (some x) => (f ρ M).bind fun y M1 => (g M1 x y).bind fun z M2 => .ok (.nx (ρ.set i (some z))) M2
  | _ => .bad

/-! ### they are read so -/
inductive FlV where
  | nx (σ : St) | rt (v : V) | bk (σ : St) | ct (σ : St)
def FlR (K : PySem.W.Frag) (α : List Addr) (H : Hp) : Fl → FlV → Prop
  | .nx ρ, .nx σ => EnvR K α H ρ σ
  | .rt d, .rt v => Rep K α H d v
  | .bk ρ, .bk σ => EnvR K α H ρ σ
  | .ct ρ, .ct σ => EnvR K α H ρ σ
  | _, _ => False
def endQ (D : Ends) : FlV → Hp → Prop
  | .nx σ, H => D.nx σ H
  | .rt v, H => D.rt v H
  | .bk σ, H => D.bk σ H
  | .ct σ, H => D.ct σ H
def RS (K : PySem.W.Frag) (E : XK) (t : TS) (f : FS) : Prop :=
  ∀ ρ σ H α M D, EnvR K α H ρ σ → Wd K α M H → Post (FlR K) K α H (endQ D) E (f ρ M) → t D σ H
def RG (K : PySem.W.Frag) (E : XK) (g : TG) (f : FG) : Prop :=
  ∀ ρ σ H α M d v Q, EnvR K α H ρ σ → Wd K α M H → Rep K α H d v → Post (EnvR K) K α H Q E (f d ρ M) → g v σ H Q
def RGs (K : PySem.W.Frag) (E : XK) (g : TGs) (f : FGs) : Prop :=
  ∀ ρ σ H α M ds vs Q, EnvR K α H ρ σ → Wd K α M H → RepL K α H ds vs → Post (EnvR K) K α H Q E (f ds ρ M) → g vs σ H Q
abbrev RO (K : PySem.W.Frag) (E : XK) (t : TO) (f : FO) : Prop := RX (fun _ _ a b => a = b) K E t f
/-- what a for walks: the items as they come -/
def ItR (K : PySem.W.Frag) (α : List Addr) (H : Hp) (ds : List D) (J : It) : Prop :=
  ∀ α' H', Step α H α' H' → (∀ b ∈ α', ∃ o, H' b = some o) → ∀ i : Nat, (∀ d, ds[i]? = some d → J.go i H' ∧ ∀ x H'', J.yld i H' x H'' → (∀ a o, H' a = some o → H'' a = some o) ∧ Rep K α' H'' d x) ∧ (ds.length ≤ i → J.stop i H')
abbrev RI (K : PySem.W.Frag) (E : XK) (t : TI) (f : FA) : Prop := RX (ItR K) K E t f
/-- a two-place operation by values; a built-in's call by values -/
def OpD (K : PySem.W.Frag) (E : XK) (r : R2) (g : PM → D → D → Out D) : Prop :=
  ∀ α H M a b x y Q, Wd K α M H → Rep K α H a x → Rep K α H b y → Post (Rep K) K α H Q E (g M a b) → r x y H Q
def UnD (K : PySem.W.Frag) (E : XK) (r : V → Hp → VK → Prop) (g : PM → D → Out D) : Prop :=
  ∀ α H M a x Q, Wd K α M H → Rep K α H a x → Post (Rep K) K α H Q E (g M a) → r x H Q
def CbD (K : PySem.W.Frag) (E : XK) (r : List V → Hp → VK → Prop) (g : PM → List D → Out D) : Prop :=
  ∀ α H M as xs Q, Wd K α M H → RepL K α H as xs → Post (Rep K) K α H Q E (g M as) → r xs H Q
def SlD (K : PySem.W.Frag) (E : XK) (r : V → Option Int → Option Int → Hp → VK → Prop) (g : PM → D → Option Int → Option Int → Out D) : Prop :=
  ∀ α H M a x lo hi Q, Wd K α M H → Rep K α H a x → Post (Rep K) K α H Q E (g M a lo hi) → r x lo hi H Q
section
variable {K : PySem.W.Frag} {E : XK} {ta tb te : TE} {fa fb fe : FE} {t u : TT} {f g : FT}
theorem line_eq : line = sizeLine := by rw [sizeLine_eq]
/-- the value itself, the heap as it was -/
theorem Post.now {A B : Type} {R : List Addr → Hp → A → B → Prop} {α : List Addr} {H : Hp} {Q : B → Hp → Prop} {a : A} {b : B} {M : PM} (h : Post R K α H Q E (.ok a M)) (w : Wd K α M H) (r : R α H a b) : Q b H := h b α H (Step.refl _ _) w r
/-- .. nothing but new objects -/
theorem Post.nowX {A B : Type} {R : List Addr → Hp → A → B → Prop} {α : List Addr} {H H' : Hp} {Q : B → Hp → Prop} {a : A} {b : B} {M : PM} (h : Post R K α H Q E (.ok a M)) (w : Wd K α M H) (x : ∀ a o, H a = some o → H' a = some o) (r : R α H' a b) : Q b H' := h b α H' (Step.ex x) (w.ex x) r
theorem r_var {i : Nat} : RE K E (tVar i) (pVar i) := by
  intro ρ σ H α M Q e w h
  unfold pVar at h
  split at h
  · rename_i d hd
    obtain ⟨v, h1, h2⟩ := e.2 i d hd
    exact ⟨v, h1, h.now w h2⟩
  · exact h.elim
theorem r_c {d : D} {v : V} (r : ∀ α H, Rep K α H d v) : RE K E (tC v) (pC d) := fun ρ σ H α M Q e w h => h.now w (r α H)
theorem r_op {r : R2} {g : PM → D → D → Out D} (ha : RE K E ta fa) (hb : RE K E tb fb) (ho : OpD K E r g) : RE K E (tOp r ta tb) (pOp g fa fb) := fun ρ σ H α M Q e w h =>
  ha ρ σ H α M _ e w (bnd h fun a M1 x α1 H1 _ s1 w1 r1 h1 => hb ρ σ H1 α1 M1 _ (e.step s1) w1 (bnd h1 fun b M2 y α2 H2 _ s2 w2 r2 h2 => ho α2 H2 M2 a b x y Q w2 (Rep.step s2 _ _ r1) r2 h2))
theorem r_un {r : V → Hp → VK → Prop} {g : PM → D → Out D} (ha : RE K E ta fa) (ho : UnD K E r g) : RE K E (tUn r ta) (pUn g fa) := fun ρ σ H α M Q e w h =>
  ha ρ σ H α M _ e w (bnd h fun a M1 x α1 H1 _ s1 w1 r1 h1 => ho α1 H1 M1 a x Q w1 r1 h1)
theorem asB_ok {α : List Addr} {H : Hp} {a : D} {x : V} {M : PM} {A B : Type} {R : List Addr → Hp → A → B → Prop} {Q : B → Hp → Prop} {g : Bool → PM → Out A} (r : Rep K α H a x) (h : Post R K α H Q E ((asB a M).bind g)) : ∃ b, a = .bl b ∧ x = .bl b ∧ Post R K α H Q E (g b M) := by
  cases a with
  | bl b => cases r; exact ⟨b, rfl, rfl, h⟩
  | _ => exact h.elim
theorem r_test (ha : RE K E te fe) : RT K E (tTest te) (pTest fe) := fun ρ σ H α M Q e w h =>
  ha ρ σ H α M _ e w (bnd h fun a M1 x α1 H1 _ s1 w1 r1 h1 => by
    cases a with
    | bl b => cases r1; exact ⟨b, rfl, h1.now w1 rfl⟩
    | _ => exact h1.elim)
theorem r_tB (ha : RE K E te fe) : RT K E (tB te) (pTest fe) := r_test ha
theorem r_and (h1 : RT K E t f) (h2 : RT K E u g) : RT K E (tAnd t u) (pAnd f g) := fun ρ σ H α M Q e w h =>
  h1 ρ σ H α M _ e w (bnd h fun b M1 x α1 H1 _ s1 w1 r1 q => by
    subst r1
    cases b with
    | true => rw [if_pos rfl] at q ⊢; exact h2 ρ σ H1 α1 M1 Q (e.step s1) w1 q
    | false => rw [if_neg Bool.false_ne_true] at q ⊢; exact q.now w1 rfl)
theorem r_or (h1 : RT K E t f) (h2 : RT K E u g) : RT K E (tOr t u) (pOr f g) := fun ρ σ H α M Q e w h =>
  h1 ρ σ H α M _ e w (bnd h fun b M1 x α1 H1 _ s1 w1 r1 q => by
    subst r1
    cases b with
    | true => rw [if_pos rfl] at q ⊢; exact q.now w1 rfl
    | false => rw [if_neg Bool.false_ne_true] at q ⊢; exact h2 ρ σ H1 α1 M1 Q (e.step s1) w1 q)
theorem r_not (h1 : RT K E t f) : RT K E (tNot t) (pNot f) := fun ρ σ H α M Q e w h =>
  h1 ρ σ H α M _ e w (bnd h fun b M1 x α1 H1 _ s1 w1 r1 q => by
    subst r1
    exact q.now w1 rfl)
theorem r_if (hc : RT K E t f) (h1 : RE K E ta fa) (h2 : RE K E tb fb) : RE K E (tIf t ta tb) (pIf f fa fb) := fun ρ σ H α M Q e w h =>
  hc ρ σ H α M _ e w (bnd h fun b M1 x α1 H1 _ s1 w1 r1 q => by
    subst r1
    cases b with
    | true => rw [if_pos rfl] at q ⊢; exact h1 ρ σ H1 α1 M1 Q (e.step s1) w1 q
    | false => rw [if_neg Bool.false_ne_true] at q ⊢; exact h2 ρ σ H1 α1 M1 Q (e.step s1) w1 q)
theorem r_andV (h1 : RE K E ta fa) (h2 : RE K E tb fb) : RE K E (tAndV ta tb) (pAndV fa fb) := fun ρ σ H α M Q e w h =>
  h1 ρ σ H α M _ e w (bnd h fun a M1 x α1 H1 _ s1 w1 r1 q => by
    obtain ⟨b, rfl, rfl, q⟩ := asB_ok r1 q
    refine ⟨b, rfl, ?_⟩
    cases b with
    | true => rw [if_pos rfl] at q ⊢; exact h2 ρ σ H1 α1 M1 Q (e.step s1) w1 q
    | false => rw [if_neg Bool.false_ne_true] at q ⊢; exact q.now w1 (.bl false))
theorem r_orV (h1 : RE K E ta fa) (h2 : RE K E tb fb) : RE K E (tOrV ta tb) (pOrV fa fb) := fun ρ σ H α M Q e w h =>
  h1 ρ σ H α M _ e w (bnd h fun a M1 x α1 H1 _ s1 w1 r1 q => by
    obtain ⟨b, rfl, rfl, q⟩ := asB_ok r1 q
    refine ⟨b, rfl, ?_⟩
    cases b with
    | true => rw [if_pos rfl] at q ⊢; exact q.now w1 (.bl true)
    | false => rw [if_neg Bool.false_ne_true] at q ⊢; exact h2 ρ σ H1 α1 M1 Q (e.step s1) w1 q)
theorem r_notV (h1 : RE K E ta fa) : RE K E (tNotV ta) (pNotV fa) := fun ρ σ H α M Q e w h =>
  h1 ρ σ H α M _ e w (bnd h fun a M1 x α1 H1 _ s1 w1 r1 q => by
    obtain ⟨b, rfl, rfl, q⟩ := asB_ok r1 q
    exact ⟨b, rfl, q.now w1 (.bl _)⟩)
theorem r_nil : RA K E tNil aNil := fun ρ σ H α M Q e w h => h.now w .nil
theorem r_cons {tr : TA} {fr : FA} (ha : RE K E ta fa) (hr : RA K E tr fr) : RA K E (tCons ta tr) (aCons fa fr) := fun ρ σ H α M Q e w h =>
  ha ρ σ H α M _ e w (bnd h fun a M1 x α1 H1 _ s1 w1 r1 h1 => hr ρ σ H1 α1 M1 _ (e.step s1) w1 (bnd h1 fun b M2 y α2 H2 _ s2 w2 r2 h2 => h2.now w2 (.cons (Rep.step s2 _ _ r1) r2)))
theorem new_tup {α : List Addr} {H : Hp} {p : Addr} {ds : List D} {xs : List V} {M : PM} (w : Wd K α M H) (hp : H p = none) (r : RepL K α H ds xs) : Rep K α (upd H p (.tup xs)) (.tup ds) (.ref p) :=
  .tup (.inl ⟨.inl upd_same, fun h => by
    obtain ⟨o, e⟩ := w.there h
    rw [hp] at e
    cases e⟩) (RepL.step (Step.ex (ex_new hp)) _ _ r)
theorem new_lst {α : List Addr} {H : Hp} {p : Addr} {ds : List D} {xs : List V} {M : PM} (w : Wd K α M H) (hp : H p = none) (r : RepL K α H ds xs) : Rep K α (upd H p (.lst xs)) (.lst ds) (.ref p) :=
  .lst ⟨upd_same, fun h => by
    obtain ⟨o, e⟩ := w.there h
    rw [hp] at e
    cases e⟩ (RepL.step (Step.ex (ex_new hp)) _ _ r)
theorem ifb {A B : Type} {R : List Addr → Hp → A → B → Prop} {α : List Addr} {H : Hp} {Q : B → Hp → Prop} {c : Prop} [Decidable c] {o : Out A} (h : Post R K α H Q E (if c then o else .bad)) : c ∧ Post R K α H Q E o := by
  by_cases hc : c
  · rw [if_pos hc] at h; exact ⟨hc, h⟩
  · rw [if_neg hc] at h; exact h.elim
theorem r_tup {ta : TA} {fa : FA} (ha : RA K E ta fa) : RE K E (tTup ta) (pTup fa) := fun ρ σ H α M Q e w h =>
  ha ρ σ H α M _ e w (bnd h fun as M1 xs α1 H1 _ s1 w1 r1 q => by
    obtain ⟨hl, q⟩ := ifb q
    rw [r1.length, line_eq] at hl
    exact ⟨hl, fun p hp => q.nowX w1 (ex_new hp) (new_tup w1 hp r1)⟩)
theorem r_lst {ta : TA} {fa : FA} (ha : RA K E ta fa) : RE K E (tLst ta) (pLst fa) := fun ρ σ H α M Q e w h =>
  ha ρ σ H α M _ e w (bnd h fun as M1 xs α1 H1 _ s1 w1 r1 q => by
    obtain ⟨hl, q⟩ := ifb q
    rw [r1.length, line_eq] at hl
    exact ⟨hl, fun p hp => q.nowX w1 (ex_new hp) (new_lst w1 hp r1)⟩)
theorem r_new {ta : TA} {fa : FA} (ha : RA K E ta fa) : RE K E (tLst ta) (pNew fa) := fun ρ σ H α M Q e w h =>
  ha ρ σ H α M _ e w (bnd h fun as M1 xs α1 H1 _ s1 w1 r1 q => by
    obtain ⟨hl, q⟩ := ifb q
    rw [r1.length, line_eq] at hl
    refine ⟨hl, fun p hp => ?_⟩
    obtain ⟨w2, s2⟩ := w1.new (m := .lst as) (o := .lst xs) hp fun H' st e => ⟨xs, e, RepL.step st _ _ r1⟩
    exact q _ _ _ s2 w2 (.adr (by rw [← w1.len, List.getElem?_append_right (Nat.le_refl _), Nat.sub_self]; rfl)))
/-- a def's promise -/
def spP (K : PySem.W.Frag) (Φ : List D → PM → Out D) : Sp := fun vs H Q E => ∃ ds α M, Wd K α M H ∧ RepL K α H ds vs ∧ Post (Rep K) K α H Q E (Φ ds M)
theorem r_call {ta : TA} {fa : FA} {Φ : List D → PM → Out D} (ha : RA K E ta fa) : RE K E (tCall (spP K Φ) [] E ta) (pCall Φ fa) := fun ρ σ H α M Q e w h =>
  ha ρ σ H α M _ e w (bnd h fun as M1 xs α1 H1 _ s1 w1 r1 q => by
    show spP K Φ (xs ++ []) H1 Q E
    rw [List.append_nil]
    exact ⟨as, α1, M1, w1, r1, q⟩)
theorem r_cb {ta : TA} {fa : FA} {r : List V → Hp → VK → Prop} {g : PM → List D → Out D} (ha : RA K E ta fa) (hc : CbD K E r g) : RE K E (tCB r ta) (pCB g fa) := fun ρ σ H α M Q e w h =>
  ha ρ σ H α M _ e w (bnd h fun as M1 xs α1 H1 _ s1 w1 r1 q => hc α1 H1 M1 as xs Q w1 r1 q)
theorem r_oNone : RO K E tNoPart oNone := fun ρ σ H α M Q e w h => h.now w rfl
theorem r_oSome (ha : RE K E te fe) : RO K E (tPart te) (oSome fe) := fun ρ σ H α M Q e w h =>
  ha ρ σ H α M _ e w (bnd h fun a M1 x α1 H1 _ s1 w1 r1 q => by
    cases a with
    | int i => cases r1; exact ⟨i, rfl, q.now w1 rfl⟩
    | _ => exact q.elim)
theorem r_sl {tl th : TO} {fl fh : FO} {r : V → Option Int → Option Int → Hp → VK → Prop} {g : PM → D → Option Int → Option Int → Out D} (he : RE K E te fe) (hl : RO K E tl fl) (hh : RO K E th fh) (hs : SlD K E r g) : RE K E (tSl r te tl th) (pSl g fe fl fh) := fun ρ σ H α M Q e w h =>
  he ρ σ H α M _ e w (bnd h fun a M1 x α1 H1 _ s1 w1 r1 h1 => hl ρ σ H1 α1 M1 _ (e.step s1) w1 (bnd h1 fun l M2 l' α2 H2 _ s2 w2 r2 h2 => by
    subst r2
    exact hh ρ σ H2 α2 M2 _ ((e.step s1).step s2) w2 (bnd h2 fun u M3 u' α3 H3 _ s3 w3 r3 h3 => by
      subst r3
      exact hs α3 H3 M3 a x l u Q w3 (Rep.step s3 _ _ (Rep.step s2 _ _ r1)) h3)))
theorem OpD.or {r r' : R2} {g g' : PM → D → D → Out D} (h : OpD K E r g) (h' : OpD K E r' g') : OpD K E (fun x y H Q => r x y H Q ∨ r' x y H Q) (gor g g') := fun α H M a b x y Q w ra rb q => by
  unfold gor at q
  split at q
  · exact .inr (h' α H M a b x y Q w ra rb q)
  · exact .inl (h α H M a b x y Q w ra rb q)
/-! statements -/
theorem s_next : RS K E tNext sNext := fun ρ σ H α M D e w h => h.now (b := FlV.nx σ) w e
theorem s_seq {t u : TS} {f g : FS} (h1 : RS K E t f) (h2 : RS K E u g) : RS K E (tSeq t u) (sSeq f g) := fun ρ σ H α M D e w h =>
  h1 ρ σ H α M { D with nx := u D } e w (bnd h fun fl M1 b α1 H1 _ s1 w1 r1 q => by
    cases fl with
    | nx ρ' =>
      cases b with
      | nx σ' => exact h2 ρ' σ' H1 α1 M1 D r1 w1 q
      | _ => exact r1.elim
    | rt d =>
      cases b with
      | rt v => exact q.now (b := FlV.rt v) w1 r1
      | _ => exact r1.elim
    | bk ρ' =>
      cases b with
      | bk σ' => exact q.now (b := FlV.bk σ') w1 r1
      | _ => exact r1.elim
    | ct ρ' =>
      cases b with
      | ct σ' => exact q.now (b := FlV.ct σ') w1 r1
      | _ => exact r1.elim)
theorem s_asg {g : TG} {fg : FG} (ha : RE K E te fe) (hg : RG K E g fg) : RS K E (tAsg te g) (sAsg fe fg) := fun ρ σ H α M D e w h =>
  ha ρ σ H α M _ e w (bnd h fun d M1 v α1 H1 _ s1 w1 r1 q => hg ρ σ H1 α1 M1 d v D.nx (e.step s1) w1 r1 (bnd q fun ρ' M2 σ' α2 H2 _ s2 w2 r2 q2 => q2.now (b := FlV.nx σ') w2 r2))
theorem s_drop (ha : RE K E te fe) : RS K E (tDrop te) (sDrop fe) := fun ρ σ H α M D e w h =>
  ha ρ σ H α M _ e w (bnd h fun d M1 v α1 H1 _ s1 w1 r1 q => q.now (b := FlV.nx σ) w1 (e.step s1))
theorem s_ret (ha : RE K E te fe) : RS K E (tRet te) (sRet fe) := fun ρ σ H α M D e w h =>
  ha ρ σ H α M _ e w (bnd h fun d M1 v α1 H1 _ s1 w1 r1 q => q.now (b := FlV.rt v) w1 r1)
theorem s_retN : RS K E tRetN sRetN := fun ρ σ H α M D e w h => h.now (b := FlV.rt V.non) w Rep.non
theorem s_break : RS K E tBreak sBreak := fun ρ σ H α M D e w h => h.now (b := FlV.bk σ) w e
theorem s_cont : RS K E tCont sCont := fun ρ σ H α M D e w h => h.now (b := FlV.ct σ) w e
theorem s_if {t u : TS} {c : TT} {fc : FT} {f g : FS} (hc : RT K E c fc) (h1 : RS K E t f) (h2 : RS K E u g) : RS K E (tIfS c t u) (sIf fc f g) := fun ρ σ H α M D e w h =>
  hc ρ σ H α M _ e w (bnd h fun b M1 x α1 H1 _ s1 w1 r1 q => by
    subst r1
    cases b with
    | true => rw [if_pos rfl] at q ⊢; exact h1 ρ σ H1 α1 M1 D (e.step s1) w1 q
    | false => rw [if_neg Bool.false_ne_true] at q ⊢; exact h2 ρ σ H1 α1 M1 D (e.step s1) w1 q)
theorem g_name {i : Nat} : RG K E (gName i) (fName i) := fun ρ σ H α M d v Q e w r h => h.now w (e.set r)
theorem g_nil : RGs K E gNil fNil := fun ρ σ H α M ds vs Q e w r h => by
  cases ds with
  | nil => cases r; exact ⟨rfl, h.now w e⟩
  | cons d ds => exact h.elim
theorem g_cons {g : TG} {gs : TGs} {f : FG} {fs : FGs} (h1 : RG K E g f) (h2 : RGs K E gs fs) : RGs K E (gCons g gs) (fCons f fs) := fun ρ σ H α M ds vs Q e w r h => by
  cases ds with
  | nil => exact h.elim
  | cons d ds =>
    cases r with
    | @cons _ _ v vs rd rs =>
      exact ⟨v, vs, rfl, h1 ρ σ H α M d v _ e w rd (bnd h fun ρ1 M1 σ1 α1 H1 _ s1 w1 r1 q => h2 ρ1 σ1 H1 α1 M1 ds vs Q r1 w1 (RepL.step s1 _ _ rs) q)⟩
theorem g_tup {n : Nat} {gs : TGs} {fs : FGs} (h : RGs K E gs fs) : RG K E (gTup K n gs) (fTup n fs) := fun ρ σ H α M d v Q e w r q => by
  cases d with
  | tup ds =>
    cases r with
    | tup t rs =>
      obtain ⟨hl, q⟩ := ifb q
      exact ⟨_, _, rfl, t.sq, by rw [← rs.length]; exact hl, h ρ σ H α M ds _ Q e w rs q⟩
  | _ => exact q.elim
theorem put_ok {α : List Addr} {H : Hp} {M : PM} {o i d : D} {x y v : V} {Q : Hp → Prop} (w : Wd K α M H) (ro : Rep K α H o x) (ri : Rep K α H i y) (rv : Rep K α H d v) {A B : Type} {R : List Addr → Hp → A → B → Prop} {C : B → Hp → Prop} {g : Unit → PM → Out A}
    (h : Post R K α H C E ((putL M o i d).bind g)) (k : ∀ M' H', Step α H α H' → Wd K α M' H' → Post R K α H' C E (g () M') → Q H') : rSetL x y v H Q := by
  unfold putL at h
  split at h
  · rename_i n j
    cases ro with
    | adr ha =>
      cases ri
      split at h
      · rename_i ds hm
        split at h
        · rename_i q hq
          obtain ⟨a', e1, vs, e2, e3⟩ := w.ob _ _ hm
          rw [ha] at e1
          cases e1
          refine ⟨_, vs, j, q, rfl, rfl, e2, by rw [← e3.length]; exact hq, ?_⟩
          obtain ⟨w2, s2⟩ := w.put (m := .lst (ds.set q d)) (o := .lst (vs.set q v)) ha (List.getElem?_eq_some_iff.mp hm).1 fun H' st e => ⟨_, e, RepL.step st _ _ (e3.set rv q)⟩
          exact k _ _ s2 w2 (Post.step h s2 w2)
        · exact h.elim
      · exact h.elim
  · exact h.elim
theorem g_sub {to ti : TE} {fo fi : FE} (ho : RE K E to fo) (hi : RE K E ti fi) : RG K E (gSub to ti rSetL) (fSub fo fi) := fun ρ σ H α M d v Q e w r h =>
  ho ρ σ H α M _ e w (bnd h fun o M1 x α1 H1 _ s1 w1 r1 h1 => hi ρ σ H1 α1 M1 _ (e.step s1) w1 (bnd h1 fun i M2 y α2 H2 _ s2 w2 r2 h2 =>
    put_ok w2 (Rep.step s2 _ _ r1) r2 (Rep.step s2 _ _ (Rep.step s1 _ _ r)) h2 fun M' H' s3 w3 q => q.now w3 (((e.step s1).step s2).step s3)))
theorem s_while {c : TT} {tb : TS} {fc : FT} {fb : FS} (n : Nat) (hc : RT K E c fc) (hb : RS K E tb fb) : RS K E (tWhile c tb) (sWhile fc fb n) := fun ρ σ H α M D e w h => by
  refine ⟨fun m σ H => ∃ ρ α M, EnvR K α H ρ σ ∧ Wd K α M H ∧ Post (FlR K) K α H (endQ D) E (sWhile fc fb m ρ M), ⟨n, ρ, α, M, e, w, h⟩, ?_⟩
  rintro m σ1 H1 ⟨ρ1, α1, M1, e1, w1, h1⟩
  cases m with
  | zero => exact h1.elim
  | succ m =>
    refine hc ρ1 σ1 H1 α1 M1 _ e1 w1 (bnd h1 fun b M2 b' α2 H2 _ s2 w2 r2 h2 => ?_)
    subst r2
    cases b with
    | false => rw [if_neg Bool.false_ne_true] at h2 ⊢; exact h2.now (b := FlV.nx σ1) w2 (e1.step s2)
    | true =>
      rw [if_pos rfl] at h2 ⊢
      refine ⟨_, fun σ' H' z => ⟨m, Nat.lt_succ_self m, z⟩, hb ρ1 σ1 H2 α2 M2 _ (e1.step s2) w2 (bnd h2 fun fl M3 b α3 H3 _ s3 w3 r3 h3 => ?_)⟩
      cases fl with
      | nx ρ' =>
        cases b with
        | nx σ' => exact ⟨ρ', α3, M3, r3, w3, h3⟩
        | _ => exact r3.elim
      | ct ρ' =>
        cases b with
        | ct σ' => exact ⟨ρ', α3, M3, r3, w3, h3⟩
        | _ => exact r3.elim
      | bk ρ' =>
        cases b with
        | bk σ' => exact h3.now (b := FlV.nx σ') w3 r3
        | _ => exact r3.elim
      | rt d =>
        cases b with
        | rt v => exact h3.now (b := FlV.rt v) w3 r3
        | _ => exact r3.elim
theorem s_for {wi : TI} {g : TG} {tb : TS} {fw : FA} {fg : FG} {fb : FS} (hi : RI K E wi fw) (hg : RG K E g fg) (hb : RS K E tb fb) : RS K E (tFor wi g tb) (sFor fw fg fb) := fun ρ σ H α M D e w h =>
  hi ρ σ H α M _ e w (bnd h fun ds M1 J α1 H1 _ s1 w1 r1 h1 => by
    refine ⟨fun i m σ H => m = ds.length - i ∧ ∃ ρ α M, EnvR K α H ρ σ ∧ Wd K α M H ∧ Step α1 H1 α H ∧ Post (FlR K) K α H (endQ D) E (sEach fg fb (ds.drop i) ρ M), ⟨ds.length, by simp, ρ, α1, M1, e.step s1, w1, Step.refl _ _, h1⟩, ?_⟩
    rintro i m σ2 H2 ⟨rfl, ρ2, α2, M2, e2, w2, s2, h2⟩
    obtain ⟨go, stop⟩ := r1 α2 H2 s2 (fun _ h => w2.there h) i
    by_cases hi : i < ds.length
    · refine .inr ?_
      rw [List.drop_eq_getElem_cons hi] at h2
      obtain ⟨g1, y1⟩ := go ds[i] (List.getElem?_eq_getElem hi)
      refine ⟨g1, fun σ H => ∃ ρ α M, EnvR K α H ρ σ ∧ Wd K α M H ∧ Step α1 H1 α H ∧ Post (FlR K) K α H (endQ D) E (sEach fg fb (ds.drop (i + 1)) ρ M), fun σ' H' z => ⟨ds.length - (i + 1), by omega, rfl, z⟩, fun x H3 y => ?_⟩
      obtain ⟨x3, r3⟩ := y1 x H3 y
      have s3 : Step α2 H2 α2 H3 := Step.ex x3
      have w3 := w2.ex x3
      have st3 := s2.tr w2 s3
      refine hg ρ2 σ2 H3 α2 M2 _ x _ (e2.step s3) w3 r3 (bnd (Post.step h2 s3 w3) fun ρ4 M4 σ4 α4 H4 _ s4 w4 r4 h4 => ?_)
      refine hb ρ4 σ4 H4 α4 M4 _ r4 w4 (bnd h4 fun fl M5 b α5 H5 _ s5 w5 r5 h5 => ?_)
      have st5 := (st3.tr w3 s4).tr w4 s5
      cases fl with
      | nx ρ' =>
        cases b with
        | nx σ' => exact ⟨ρ', α5, M5, r5, w5, st5, h5⟩
        | _ => exact r5.elim
      | ct ρ' =>
        cases b with
        | ct σ' => exact ⟨ρ', α5, M5, r5, w5, st5, h5⟩
        | _ => exact r5.elim
      | bk ρ' =>
        cases b with
        | bk σ' => exact h5.now (b := FlV.nx σ') w5 r5
        | _ => exact r5.elim
      | rt d =>
        cases b with
        | rt v => exact h5.now (b := FlV.rt v) w5 r5
        | _ => exact r5.elim
    · rw [List.drop_eq_nil_of_le (by omega)] at h2
      exact .inl ⟨stop (by omega), h2.now (b := FlV.nx σ2) w2 e2⟩)
end
end Pd

set_option Elab.async false
set_option linter.all false
set_option maxRecDepth 100000
set_option maxHeartbeats 1000000
namespace Pd
open PySem L2

/-! ### operators on plain values -/
def gII (C : Int → Int → Bool) (h : Int → Int → D) : PM → D → D → Out D := fun M a b => match a, b with
  | .int i, .int j => if C i j = true then .ok (h i j) M else .bad
  | _, _ => .bad
def cTrue (_ _ : Int) : Bool := true
def cMul (i j : Int) : Bool := (decide (-18446744073709551616 < i) && decide (i < 18446744073709551616)) || (decide (-18446744073709551616 < j) && decide (j < 18446744073709551616))
def cDiv (_ j : Int) : Bool := decide (0 < j) && decide (j < 1073741824)
def cDivN (_ j : Int) : Bool := decide (j ≠ 0) && decide (j.natAbs < 1073741824)
def cPos (_ j : Int) : Bool := decide (0 < j)
def cNe (_ j : Int) : Bool := decide (j ≠ 0)
def cPow (i j : Int) : Bool := decide (0 ≤ j) && decide (j ≤ 1000000) && decide (i.natAbs < 18446744073709551616)
/-- what a list holds; what a list or a tuple holds -/
def lstOf (M : PM) : D → Option (List D)
  | .lst ds => some ds
  | .adr i => match M[i]? with | some (.lst ds) => some ds | _ => none
  | _ => none
def seqOf (M : PM) : D → Option (List D)
  | .lst ds => some ds
  | .rol ds => some ds
  | .tup ds => some ds
  | .adr i => match M[i]? with | some (.lst ds) => some ds | _ => none
  | _ => none
def gAddS : PM → D → D → Out D := fun M a b => match a, b with
  | .str x, .str y => if x.length + y.length ≤ line then .ok (.str (x ++ y)) M else .bad
  | _, _ => .bad
def gAddT : PM → D → D → Out D := fun M a b => match a, b with
  | .tup x, .tup y => if x.length + y.length ≤ line then .ok (.tup (x ++ y)) M else .bad
  | _, _ => .bad
def gAddL : PM → D → D → Out D := fun M a b => match lstOf M a, lstOf M b with
  | some x, some y => if x.length + y.length ≤ line then .ok (.lst (x ++ y)) M else .bad
  | _, _ => .bad
def gAdd : PM → D → D → Out D := gor (gII cTrue fun i j => .int (i + j)) (gor gAddS (gor gAddT gAddL))
def gSub : PM → D → D → Out D := gII cTrue fun i j => .int (i - j)
def gMul : PM → D → D → Out D := gII cMul fun i j => .int (i * j)
def gFdiv : PM → D → D → Out D := gor (gII cDiv fun i j => .int (i / j)) (gII cDivN fun i j => .int (i.fdiv j))
def gMod : PM → D → D → Out D := gor (gII cPos fun i j => .int (i % j)) (gII cNe fun i j => .int (i.fmod j))
def gPow : PM → D → D → Out D := gII cPow fun i j => .int (i ^ j.toNat)
def gLt : PM → D → D → Out D := gII cTrue fun i j => .bl (decide (i < j))
def gLe : PM → D → D → Out D := gII cTrue fun i j => .bl (decide (i ≤ j))
def gGt : PM → D → D → Out D := gII cTrue fun i j => .bl (decide (j < i))
def gGe : PM → D → D → Out D := gII cTrue fun i j => .bl (decide (j ≤ i))
/-- == of two plain scalars -/
def eqS : D → D → Option Bool
  | .int i, .int j => some (decide (i = j))
  | .str x, .str y => some (decide (x = y))
  | .bl b, .bl c => some (decide (b = c))
  | .non, .non => some true
  | .non, .int _ => some false | .int _, .non => some false
  | .non, .str _ => some false | .str _, .non => some false
  | .non, .bl _ => some false | .bl _, .non => some false
  | .int _, .str _ => some false | .str _, .int _ => some false
  | .bl _, .str _ => some false | .str _, .bl _ => some false
  | _, _ => none
def gEq : PM → D → D → Out D := fun M a b => match eqS a b with | some r => .ok (.bl r) M | none => .bad
def gNe : PM → D → D → Out D := fun M a b => match eqS a b with | some r => .ok (.bl (!r)) M | none => .bad
def isNonD : D → Bool
  | .non => true
  | _ => false
def gIs : PM → D → D → Out D := fun M a b => match b with | .non => .ok (.bl (isNonD a)) M | _ => .bad
def gIsNot : PM → D → D → Out D := fun M a b => match b with | .non => .ok (.bl (!isNonD a)) M | _ => .bad
def flatD : D → Bool
  | .non => true | .bl _ => true | .int _ => true | .str _ => true | _ => false
def eqF : D → D → Bool
  | .non, .non => true
  | .bl a, .bl b => a == b
  | .bl a, .int b => (if a then 1 else 0) == b
  | .int a, .bl b => a == (if b then 1 else 0)
  | .int a, .int b => a == b
  | .str a, .str b => a == b
  | _, _ => false
def inF (x : D) (xs : List D) : Bool := xs.any fun y => eqF y x
def gInS : PM → D → D → Out D := fun M a b => match a, b with
  | .str ⟨⟨[c]⟩⟩, .str z => .ok (.bl (decide (c ∈ z.cps.toList))) M
  | _, _ => .bad
def gInL : PM → D → D → Out D := fun M a b => match seqOf M b with
  | some ds => if (flatD a && ds.all flatD) = true then .ok (.bl (inF a ds)) M else .bad
  | none => .bad
def gIn : PM → D → D → Out D := gor gInS gInL
def gNotInS : PM → D → D → Out D := fun M a b => match a, b with
  | .str ⟨⟨[c]⟩⟩, .str z => .ok (.bl (!decide (c ∈ z.cps.toList))) M
  | _, _ => .bad
def gNotInL : PM → D → D → Out D := fun M a b => match seqOf M b with
  | some ds => if (flatD a && ds.all flatD) = true then .ok (.bl (!inF a ds)) M else .bad
  | none => .bad
def gNotIn : PM → D → D → Out D := gor gNotInS gNotInL
def gIx : PM → D → D → Out D := fun M a b => match b with
  | .int i => match a with
    | .str z => if z.length ≤ line then match atI z.cps.toList i with | some c => .ok (.str ⟨#[c]⟩) M | none => .bad else .bad
    | a => match seqOf M a with
      | some ds => match atI ds i with | some d => .ok d M | none => .bad
      | none => .bad
  | _ => .bad
def gNeg : PM → D → Out D := fun M a => match a with | .int i => .ok (.int (-i)) M | _ => .bad
def cutD (xs : List D) (lo hi : Option Int) : List D := (xs.drop (HT.sIx xs.length 0 lo)).take (HT.sIx xs.length xs.length hi - HT.sIx xs.length 0 lo)
def gSl : PM → D → Option Int → Option Int → Out D := fun M a lo hi => match a with
  | .str z => if z.length ≤ line then .ok (.str (cutS z lo hi)) M else .bad
  | .tup ds => .ok (.tup (cutD ds lo hi)) M
  | a => match seqOf M a with | some ds => .ok (.lst (cutD ds lo hi)) M | none => .bad
section
variable {K : PySem.W.Frag} {E : XK}
theorem od_II {C : Int → Int → Prop} {c : Int → Int → Bool} {h : Int → Int → V} {hD : Int → Int → D} (hc : ∀ i j, c i j = true → C i j) (hr : ∀ α H i j, Rep K α H (hD i j) (h i j)) : OpD K E (rI C h) (gII c hD) := fun α H M a b x y Q w ra rb q => by
  unfold gII at q
  split at q
  · cases ra
    cases rb
    obtain ⟨h1, q⟩ := ifb q
    exact ⟨_, _, rfl, rfl, hc _ _ h1, q.now w (hr α H _ _)⟩
  · exact q.elim
theorem od_II0 {h : Int → Int → V} {hD : Int → Int → D} (hr : ∀ α H i j, Rep K α H (hD i j) (h i j)) : OpD K E (rI0 h) (gII cTrue hD) := fun α H M a b x y Q w ra rb q => by
  unfold gII at q
  split at q
  · cases ra
    cases rb
    obtain ⟨h1, q⟩ := ifb q
    exact ⟨_, _, rfl, rfl, q.now w (hr α H _ _)⟩
  · exact q.elim
theorem lst_ok {α : List Addr} {H : Hp} {M : PM} {a : D} {x : V} {ds : List D} (w : Wd K α M H) (r : Rep K α H a x) (e : lstOf M a = some ds) : ∃ p xs, x = .ref p ∧ H p = some (.lst xs) ∧ RepL K α H ds xs := by
  cases a with
  | lst es =>
    cases e
    cases r with
    | lst t rs => exact ⟨_, _, rfl, t.1, rs⟩
  | adr i =>
    cases r with
    | adr ha =>
      have e' : (match M[i]? with | some (.lst ds) => some ds | _ => none) = some ds := e
      split at e'
      · rename_i ds' hm
        cases e'
        obtain ⟨a', e1, vs, e2, e3⟩ := w.ob _ _ hm
        rw [ha] at e1
        cases e1
        exact ⟨_, _, rfl, e2, e3⟩
      · cases e'
  | _ => cases e
theorem seq_ok {α : List Addr} {H : Hp} {M : PM} {a : D} {x : V} {ds : List D} (w : Wd K α M H) (r : Rep K α H a x) (e : seqOf M a = some ds) : ∃ p xs, x = .ref p ∧ (SqL K H p xs ∨ SqT K H p xs) ∧ RepL K α H ds xs := by
  cases a with
  | lst es =>
    cases e
    cases r with
    | lst t rs => exact ⟨_, _, rfl, .inl t.sq, rs⟩
  | rol es =>
    cases e
    cases r with
    | rol t rs => exact ⟨_, _, rfl, .inl t.sq, rs⟩
  | tup es =>
    cases e
    cases r with
    | tup t rs => exact ⟨_, _, rfl, .inr t.sq, rs⟩
  | adr i =>
    obtain ⟨p, xs, h1, h2, h3⟩ := lst_ok (K := K) (ds := ds) w r (by unfold seqOf at e; unfold lstOf; exact e)
    exact ⟨p, xs, h1, .inl (.of h2), h3⟩
  | _ => cases e
theorem od_addS : OpD K E (fun x y H Q => ∃ i j, x = .str i ∧ y = .str j ∧ i.length + j.length ≤ sizeLine ∧ Q (.str (i ++ j)) H) gAddS := fun α H M a b x y Q w ra rb q => by
  unfold gAddS at q
  split at q
  · cases ra
    cases rb
    obtain ⟨h1, q⟩ := ifb q
    rw [line_eq] at h1
    exact ⟨_, _, rfl, rfl, h1, q.now w (.str _)⟩
  · exact q.elim
theorem od_addT : OpD K E (rCatA K) gAddT := fun α H M a b x y Q w ra rb q => by
  unfold gAddT at q
  split at q
  · cases ra with
    | tup ta rsa =>
      cases rb with
      | tup tb rsb =>
        obtain ⟨h1, q⟩ := ifb q
        rw [line_eq, rsa.length, rsb.length] at h1
        refine ⟨_, _, _, _, rfl, rfl, ta.sq, tb.sq, h1, fun e => ?_, fun e1 e2 => ?_, fun e1 e2 p hp => ?_⟩
        · subst e
          cases rsa
          exact q.now w (.tup tb rsb)
        · subst e2
          cases rsb
          rw [List.append_nil] at q
          exact q.now w (.tup ta rsa)
        · exact q.nowX w (ex_new hp) (new_tup w hp (rsa.append rsb))
  · exact q.elim
theorem od_addL : OpD K E rCat gAddL := fun α H M a b x y Q w ra rb q => by
  unfold gAddL at q
  split at q
  · rename_i xs ys h1 h2
    obtain ⟨l, vs, rfl, e1, r1⟩ := lst_ok w ra h1
    obtain ⟨m, ws, rfl, e2, r2⟩ := lst_ok w rb h2
    obtain ⟨h1, q⟩ := ifb q
    rw [line_eq, r1.length, r2.length] at h1
    exact ⟨_, _, _, _, rfl, rfl, e1, e2, h1, fun p hp => q.nowX w (ex_new hp) (new_lst w hp (r1.append r2))⟩
  · exact q.elim
theorem od_eq : OpD K E rEq gEq := fun α H M a b x y Q w ra rb q => by
  have key : ∀ r : Bool, Post (Rep K) K α H Q E (.ok (.bl r) M) → scal x y = true → decide (x = y) = r → rEq x y H Q := fun r q h1 h2 => ⟨h1, by rw [h2]; exact q.now w (.bl r)⟩
  cases a <;> cases b <;> first
    | exact q.elim
    | (cases ra; cases rb; refine key _ q rfl ?_; simp)
theorem od_ne : OpD K E rNe gNe := fun α H M a b x y Q w ra rb q => by
  have key : ∀ r : Bool, Post (Rep K) K α H Q E (.ok (.bl (!r)) M) → scal x y = true → decide (x = y) = r → rNe x y H Q := fun r q h1 h2 => ⟨h1, by rw [h2]; exact q.now w (.bl _)⟩
  cases a <;> cases b <;> first
    | exact q.elim
    | (cases ra; cases rb; refine key _ q rfl ?_; simp)
theorem isNon_ok {α : List Addr} {H : Hp} {a : D} {x : V} (hx : ∀ v, a ≠ .raw v) (r : Rep K α H a x) : decide (x = .non) = isNonD a := by
  cases a with
  | raw v => exact absurd rfl (hx v)
  | _ => cases r <;> simp [isNonD]
def gIs' : PM → D → D → Out D := fun M a b => match a with | .raw _ => .bad | a => gIs M a b
def gIsNot' : PM → D → D → Out D := fun M a b => match a with | .raw _ => .bad | a => gIsNot M a b
theorem od_is : OpD K E rIsN gIs' := fun α H M a b x y Q w ra rb q => by
  unfold gIs' at q
  split at q
  · exact q.elim
  · rename_i hx
    unfold gIs at q
    split at q
    · cases rb
      exact ⟨rfl, by rw [isNon_ok (fun v => hx v) ra]; exact q.now w (.bl _)⟩
    · exact q.elim
theorem od_isNot : OpD K E rNotN gIsNot' := fun α H M a b x y Q w ra rb q => by
  unfold gIsNot' at q
  split at q
  · exact q.elim
  · rename_i hx
    unfold gIsNot at q
    split at q
    · cases rb
      exact ⟨rfl, by rw [isNon_ok (fun v => hx v) ra]; exact q.now w (.bl _)⟩
    · exact q.elim
theorem flat_ok {α : List Addr} {H : Hp} {a : D} {x : V} (r : Rep K α H a x) (f : flatD a = true) : flatV x = true := by
  cases a <;> first
    | exact absurd (show false = true from f) Bool.false_ne_true
    | (cases r; rfl)
theorem flats_ok {α : List Addr} {H : Hp} : ∀ {as : List D} {xs : List V}, RepL K α H as xs → as.all flatD = true → xs.all flatV = true
  | _, _, .nil, _ => rfl
  | _, _, .cons r t, f => by
    rw [List.all_cons, Bool.and_eq_true] at f
    rw [List.all_cons, flat_ok r f.1, flats_ok t f.2]
    rfl
theorem eqF_ok {α : List Addr} {H : Hp} {a b : D} {x y : V} (ra : Rep K α H a x) (rb : Rep K α H b y) (fa : flatD a = true) (fb : flatD b = true) : eqV x y = eqF a b := by
  cases a <;> first
    | exact absurd (show false = true from fa) Bool.false_ne_true
    | (cases ra; cases b <;> first
        | exact absurd (show false = true from fb) Bool.false_ne_true
        | (cases rb; rfl))
theorem inF_ok {α : List Addr} {H : Hp} {a : D} {x : V} (ra : Rep K α H a x) (fa : flatD a = true) : ∀ {as : List D} {xs : List V}, RepL K α H as xs → as.all flatD = true → inV x xs = inF a as
  | _, _, .nil, _ => rfl
  | _, _, .cons r t, f => by
    rw [List.all_cons, Bool.and_eq_true] at f
    unfold inV inF
    rw [List.any_cons, List.any_cons, eqF_ok r ra f.1 fa]
    have := inF_ok ra fa t f.2
    unfold inV inF at this
    rw [this]
theorem od_inS : OpD K E rInS gInS := fun α H M a b x y Q w ra rb q => by
  unfold gInS at q
  split at q
  · cases ra
    cases rb
    exact ⟨_, _, rfl, rfl, q.now w (.bl _)⟩
  · exact q.elim
theorem od_notInS : OpD K E rNotInS gNotInS := fun α H M a b x y Q w ra rb q => by
  unfold gNotInS at q
  split at q
  · cases ra
    cases rb
    exact ⟨_, _, rfl, rfl, q.now w (.bl _)⟩
  · exact q.elim
theorem od_inL : OpD K E (rIn K false) gInL := fun α H M a b x y Q w ra rb q => by
  unfold gInL at q
  split at q
  · rename_i ds hd
    obtain ⟨p, xs, rfl, hs, rs⟩ := seq_ok w rb hd
    obtain ⟨h1, q⟩ := ifb q
    rw [Bool.and_eq_true] at h1
    refine ⟨p, xs, rfl, hs, flat_ok ra h1.1, flats_ok rs h1.2, ?_⟩
    rw [if_neg Bool.false_ne_true, inF_ok ra h1.1 rs h1.2]
    exact q.now w (.bl _)
  · exact q.elim
theorem od_notInL : OpD K E (rIn K true) gNotInL := fun α H M a b x y Q w ra rb q => by
  unfold gNotInL at q
  split at q
  · rename_i ds hd
    obtain ⟨p, xs, rfl, hs, rs⟩ := seq_ok w rb hd
    obtain ⟨h1, q⟩ := ifb q
    rw [Bool.and_eq_true] at h1
    refine ⟨p, xs, rfl, hs, flat_ok ra h1.1, flats_ok rs h1.2, ?_⟩
    rw [if_pos rfl, inF_ok ra h1.1 rs h1.2]
    exact q.now w (.bl _)
  · exact q.elim
theorem atI_rep {α : List Addr} {H : Hp} {ds : List D} {xs : List V} {i : Int} {d : D} (r : RepL K α H ds xs) (e : atI ds i = some d) : ∃ v, atI xs i = some v ∧ Rep K α H d v := by
  unfold atI at e ⊢
  rw [r.length] at e
  cases hn : ixN xs.length i with
  | none => rw [hn] at e; cases e
  | some j =>
    rw [hn] at e
    exact r.get e
theorem od_ix : OpD K E (rIx K) gIx := fun α H M a b x y Q w ra rb q => by
  unfold gIx at q
  split at q
  · rename_i i
    cases rb
    split at q
    · rename_i z
      cases ra
      obtain ⟨hl, q⟩ := ifb q
      rw [line_eq] at hl
      split at q
      · rename_i c hc
        exact .inr (.inr ⟨z, i, c, rfl, rfl, hl, hc, q.now w (.str _)⟩)
      · exact q.elim
    · split at q
      · rename_i ds hd
        obtain ⟨p, xs, rfl, hs, rs⟩ := seq_ok w ra hd
        split at q
        · rename_i d hd
          obtain ⟨v, e1, e2⟩ := atI_rep rs hd
          rcases hs with hs | hs
          · exact .inl ⟨p, xs, i, v, rfl, rfl, hs, e1, q.now w e2⟩
          · exact .inr (.inl ⟨p, xs, i, v, rfl, rfl, hs, e1, q.now w e2⟩)
        · exact q.elim
      · exact q.elim
  · exact q.elim
theorem ud_neg : UnD K E (rU fun i => .int (-i)) gNeg := fun α H M a x Q w ra q => by
  unfold gNeg at q
  split at q
  · cases ra
    exact ⟨_, rfl, q.now w (.int _)⟩
  · exact q.elim
theorem cut_rep {α : List Addr} {H : Hp} {ds : List D} {xs : List V} {lo hi : Option Int} (r : RepL K α H ds xs) : RepL K α H (cutD ds lo hi) (cutV xs lo hi) := by
  unfold cutD cutV
  rw [r.length]
  exact (r.drop _).take _
def rSlD (K : PySem.W.Frag) : V → Option Int → Option Int → Hp → VK → Prop := fun x lo hi H Q => rSlS x lo hi H Q ∨ (rSlL K x lo hi H Q ∨ rSlA K x lo hi H Q)
theorem sl_D {X : Cx} : SlR X (rSlD X.K) := sl_str.or (sl_list.or sl_tupA)
theorem sd_sl : SlD K E (rSlD K) gSl := fun α H M a x lo hi Q w ra q => by
  unfold gSl at q
  split at q
  · cases ra
    obtain ⟨hl, q⟩ := ifb q
    rw [line_eq] at hl
    exact .inl ⟨_, rfl, hl, q.now w (.str _)⟩
  · cases ra with
    | tup t rs =>
      refine .inr (.inr ⟨_, _, rfl, t.sq, fun ⟨e1, e2⟩ => ?_, fun _ p hp => q.nowX w (ex_new hp) (new_tup w hp (cut_rep rs))⟩)
      refine q.now w ?_
      have : ∀ {ds : List D}, HT.sIx ds.length 0 lo = 0 → HT.sIx ds.length ds.length hi = ds.length → cutD ds lo hi = ds := fun {ds} e1 e2 => by
        unfold cutD
        rw [e1, e2, List.drop_zero, Nat.sub_zero, List.take_length]
      rw [this (by rw [rs.length]; exact e1) (by rw [rs.length]; exact e2)]
      exact .tup t rs
  · split at q
    · rename_i ds hd
      rename_i hs ht _
      obtain ⟨p, xs, rfl, hs', rs⟩ := seq_ok w ra hd
      rcases hs' with hs' | hs'
      · exact .inr (.inl ⟨p, xs, rfl, hs', fun l hl => q.nowX w (ex_new hl) (new_lst w hl (cut_rep rs))⟩)
      · cases a with
        | tup es => exact absurd rfl (ht es)
        | lst es =>
          cases hd
          cases ra with
          | lst t rs => exact .inr (.inl ⟨_, _, rfl, t.sq, fun l hl => q.nowX w (ex_new hl) (new_lst w hl (cut_rep rs))⟩)
        | rol es =>
          cases hd
          cases ra with
          | rol t rs => exact .inr (.inl ⟨_, _, rfl, t.sq, fun l hl => q.nowX w (ex_new hl) (new_lst w hl (cut_rep rs))⟩)
        | adr i =>
          obtain ⟨p', xs', e1, e2, e3⟩ := lst_ok (K := K) (ds := ds) w ra (by unfold seqOf at hd; unfold lstOf; exact hd)
          cases e1
          exact .inr (.inl ⟨_, _, rfl, .of e2, fun l hl => q.nowX w (ex_new hl) (new_lst w hl (cut_rep e3))⟩)
        | _ => cases hd
    · exact q.elim

/-! ### built-in calls on plain values -/
def bLen : PM → List D → Out D := fun M as => match as with
  | [.str z] => if z.length ≤ line then .ok (.int z.length) M else .bad
  | [a] => match seqOf M a with | some ds => .ok (.int ds.length) M | none => .bad
  | _ => .bad
def bAbs : PM → List D → Out D := fun M as => match as with
  | [.int i] => .ok (.int (if i < 0 then -i else i)) M
  | _ => .bad
def bInt : PM → List D → Out D := fun M as => match as with
  | [.int i] => .ok (.int i) M
  | [.bl k] => .ok (.int (if k then 1 else 0)) M
  | [.str z] => match PySem.intText? z with
    | some n => if z.length ≤ 640 then .ok (.int n) M else .bad
    | none => .bad
  | _ => .bad
def bStr : PM → List D → Out D := fun M as => match as with
  | [.int i] => if i.natAbs < 18446744073709551616 then .ok (.str (toString i)) M else .bad
  | [.str z] => .ok (.str z) M
  | _ => .bad
def bTuple : PM → List D → Out D := fun M as => match as with
  | [.tup ds] => .ok (.tup ds) M
  | [a] => match seqOf M a with | some ds => .ok (.tup ds) M | none => .bad
  | _ => .bad
def bList : PM → List D → Out D := fun M as => match as with
  | [a] => match seqOf M a with | some ds => .ok (.lst ds) M | none => .bad
  | _ => .bad
def bMax2 : PM → List D → Out D := fun M as => match as with
  | [.int i, .int j] => .ok (.int (if j > i then j else i)) M
  | _ => .bad
def bMin2 : PM → List D → Out D := fun M as => match as with
  | [.int i, .int j] => .ok (.int (if j < i then j else i)) M
  | _ => .bad
/-- the type's name -/
def tyD : D → Option String
  | .non => some "NoneType" | .bl _ => some "bool" | .int _ => some "int" | .str _ => some "str" | .tup _ => some "tuple" | .lst _ => some "list" | .rol _ => some "list" | _ => none
def isiB : String → String → Option Bool
  | "bool", "int" => some true
  | a, b => if a ∈ ["NoneType", "bool", "int", "str", "tuple", "list"] ∧ b ∈ ["bool", "int", "str", "tuple", "list", "dict"] then some (decide (a = b)) else none
def bIsi : PM → List D → Out D := fun M as => match as with
  | [a, .raw (.ty n)] => match tyD a with
    | some t => match isiB t n with | some r => .ok (.bl r) M | none => .bad
    | none => .bad
  | _ => .bad
theorem rep1 {α : List Addr} {H : Hp} {a : D} {xs : List V} (r : RepL K α H [a] xs) : ∃ x, xs = [x] ∧ Rep K α H a x := by
  cases r with
  | cons r1 r2 => cases r2; exact ⟨_, rfl, r1⟩
theorem rep2 {α : List Addr} {H : Hp} {a b : D} {xs : List V} (r : RepL K α H [a, b] xs) : ∃ x y, xs = [x, y] ∧ Rep K α H a x ∧ Rep K α H b y := by
  cases r with
  | cons r1 r2 =>
    obtain ⟨y, rfl, r3⟩ := rep1 r2
    exact ⟨_, y, rfl, r1, r3⟩
theorem cd_len : CbD K E (fun xs H Q => ∃ x n, xs = [x] ∧ LenV K x H n ∧ Q (.int n) H) bLen := fun α H M as xs Q w ra q => by
  unfold bLen at q
  split at q
  · obtain ⟨x, rfl, r⟩ := rep1 ra
    cases r
    obtain ⟨hl, q⟩ := ifb q
    rw [line_eq] at hl
    exact ⟨_, _, rfl, ⟨hl, rfl⟩, q.now w (.int _)⟩
  · obtain ⟨x, rfl, r⟩ := rep1 ra
    split at q
    · rename_i ds hd
      obtain ⟨p, xs, rfl, hs, rs⟩ := seq_ok w r hd
      refine ⟨_, ds.length, rfl, ?_, q.now w (.int _)⟩
      rcases hs with hs | hs
      · exact .inl ⟨xs, hs, rs.length⟩
      · exact .inr ⟨xs, hs, rs.length⟩
    · exact q.elim
  · exact q.elim
theorem cd_abs : CbD K E (fun xs H Q => ∃ i, xs = [.int i] ∧ Q (.int (if i < 0 then -i else i)) H) bAbs := fun α H M as xs Q w ra q => by
  unfold bAbs at q
  split at q
  · obtain ⟨x, rfl, r⟩ := rep1 ra
    cases r
    exact ⟨_, rfl, q.now w (.int _)⟩
  · exact q.elim
theorem cd_max2 : CbD K E (fun xs H Q => ∃ i j, xs = [.int i, .int j] ∧ Q (.int (if j > i then j else i)) H) bMax2 := fun α H M as xs Q w ra q => by
  unfold bMax2 at q
  split at q
  · obtain ⟨x, y, rfl, r, r'⟩ := rep2 ra
    cases r
    cases r'
    exact ⟨_, _, rfl, q.now w (.int _)⟩
  · exact q.elim
theorem cd_min2 : CbD K E (fun xs H Q => ∃ i j, xs = [.int i, .int j] ∧ Q (.int (if j < i then j else i)) H) bMin2 := fun α H M as xs Q w ra q => by
  unfold bMin2 at q
  split at q
  · obtain ⟨x, y, rfl, r, r'⟩ := rep2 ra
    cases r
    cases r'
    exact ⟨_, _, rfl, q.now w (.int _)⟩
  · exact q.elim
def rIntD : List V → Hp → VK → Prop := fun xs H Q => ((∃ i, xs = [.int i] ∧ Q (.int i) H) ∨ ∃ k, xs = [.bl k] ∧ Q (.int (if k then 1 else 0)) H) ∨ (∃ a n, xs = [.str a] ∧ PySem.intText? a = some n ∧ a.length ≤ 640 ∧ Q (.int n) H)
theorem cd_int : CbD K E rIntD bInt := fun α H M as xs Q w ra q => by
  unfold bInt at q
  split at q
  · obtain ⟨x, rfl, r⟩ := rep1 ra
    cases r
    exact .inl (.inl ⟨_, rfl, q.now w (.int _)⟩)
  · obtain ⟨x, rfl, r⟩ := rep1 ra
    cases r
    exact .inl (.inr ⟨_, rfl, q.now w (.int _)⟩)
  · obtain ⟨x, rfl, r⟩ := rep1 ra
    cases r
    split at q
    · rename_i n hn
      obtain ⟨hl, q⟩ := ifb q
      exact .inr ⟨_, n, rfl, hn, hl, q.now w (.int _)⟩
    · exact q.elim
  · exact q.elim
def rStrD : List V → Hp → VK → Prop := fun xs H Q => (∃ i, xs = [.int i] ∧ i.natAbs.log2 < 1920 ∧ Q (.str (toString i)) H) ∨ (∃ a, xs = [.str a] ∧ Q (.str a) H)
theorem cd_str : CbD K E rStrD bStr := fun α H M as xs Q w ra q => by
  unfold bStr at q
  split at q
  · obtain ⟨x, rfl, r⟩ := rep1 ra
    cases r
    obtain ⟨hl, q⟩ := ifb q
    exact .inl ⟨_, rfl, Nat.lt_of_lt_of_le (PySem.Flt.log2_lt_of (k := 64) (by decide) hl) (by decide), q.now w (.str _)⟩
  · obtain ⟨x, rfl, r⟩ := rep1 ra
    cases r
    exact .inr ⟨_, rfl, q.now w (.str _)⟩
  · exact q.elim
theorem cd_tuple : CbD K E (fun xs H Q => ∃ p ys, xs = [.ref p] ∧ ((SqL K H p ys ∧ ∀ l, H l = none → Q (.ref l) (upd H l (.tup ys))) ∨ (SqT K H p ys ∧ Q (.ref p) H))) bTuple := fun α H M as xs Q w ra q => by
  unfold bTuple at q
  split at q
  · obtain ⟨x, rfl, r⟩ := rep1 ra
    cases r with
    | tup t rs => exact ⟨_, _, rfl, .inr ⟨t.sq, q.now w (.tup t rs)⟩⟩
  · rename_i a ht
    obtain ⟨x, rfl, r⟩ := rep1 ra
    split at q
    · rename_i ds hd
      have key : ∀ {p : Addr} {xs : List V}, SqL K H p xs → RepL K α H ds xs → ∃ p' ys, ([V.ref p] : List V) = [.ref p'] ∧ ((SqL K H p' ys ∧ ∀ l, H l = none → Q (.ref l) (upd H l (.tup ys))) ∨ (SqT K H p' ys ∧ Q (.ref p') H)) :=
        fun h rs => ⟨_, _, rfl, .inl ⟨h, fun l hl => q.nowX w (ex_new hl) (new_tup w hl rs)⟩⟩
      cases a with
      | tup es => exact absurd rfl (ht es)
      | lst es => cases hd; cases r with | lst t rs => exact key t.sq rs
      | rol es => cases hd; cases r with | rol t rs => exact key t.sq rs
      | adr i =>
        obtain ⟨p', xs', e1, e2, e3⟩ := lst_ok (K := K) (ds := ds) w r (by unfold seqOf at hd; unfold lstOf; exact hd)
        cases e1
        exact key (.of e2) e3
      | _ => cases hd
    · exact q.elim
  · exact q.elim
theorem cd_list : CbD K E (fun xs H Q => ∃ p ys, xs = [.ref p] ∧ (SqL K H p ys ∨ SqT K H p ys) ∧ ∀ l, H l = none → Q (.ref l) (upd H l (.lst ys))) bList := fun α H M as xs Q w ra q => by
  unfold bList at q
  split at q
  · obtain ⟨x, rfl, r⟩ := rep1 ra
    split at q
    · rename_i ds hd
      obtain ⟨p, xs, rfl, hs, rs⟩ := seq_ok w r hd
      exact ⟨p, xs, rfl, hs, fun l hl => q.nowX w (ex_new hl) (new_lst w hl rs)⟩
    · exact q.elim
  · exact q.elim
theorem ty_ok {α : List Addr} {H : Hp} {a : D} {x : V} {t : String} (r : Rep K α H a x) (e : tyD a = some t) : TyX K H x (.type t) := by
  cases a with
  | non => cases e; cases r; exact .base .non
  | bl b => cases e; cases r; exact .base (.bl b)
  | int b => cases e; cases r; exact .base (.int b)
  | str b => cases e; cases r; exact .base (.str b)
  | tup ds =>
    cases e
    cases r with
    | tup t rs =>
      rcases t with ⟨h | ⟨o, h⟩, _⟩ | h
      · exact .base (.tup h)
      · exact .fTuple h
      · rcases h with h | ⟨o, its, n, h1, h2, _⟩
        · exact (rd0 h).elim
        · exact .kTuple h1 h2
  | lst ds =>
    cases e
    cases r with
    | lst t rs => exact .base (.lst t.1)
  | rol ds =>
    cases e
    cases r with
    | rol t rs =>
      rcases t with ⟨h | ⟨o, h⟩, _⟩ | h
      · exact .base (.lst h)
      · exact .base (.frz h)
      · rcases h with h | ⟨o, its, n, h1, h2, _⟩
        · exact (rd0 h).elim
        · exact .kList h1 h2
  | adr i => cases e
  | raw v => cases e
  | xcp => cases e
theorem isi_tab : (["NoneType", "bool", "int", "str", "tuple", "list"].all fun a => ["bool", "int", "str", "tuple", "list", "dict"].all fun b => decide (kitB a b = isiB a b)) = true := by decide +kernel
theorem isi_ok {a b : String} {r : Bool} (h : isiB a b = some r) : kitB a b = some r := by
  have hab : a ∈ ["NoneType", "bool", "int", "str", "tuple", "list"] ∧ b ∈ ["bool", "int", "str", "tuple", "list", "dict"] := by
    unfold isiB at h
    split at h
    · decide
    · split at h
      · assumption
      · cases h
  have e := of_decide_eq_true (List.all_eq_true.mp (List.all_eq_true.mp isi_tab a hab.1) b hab.2)
  rw [e]
  exact h
theorem cd_isi : CbD K E (rIsi K) bIsi := fun α H M as xs Q w ra q => by
  unfold bIsi at q
  split at q
  · obtain ⟨x, y, rfl, r, r'⟩ := rep2 ra
    cases r'
    split at q
    · rename_i t ht
      split at q
      · rename_i b hb
        exact ⟨x, _, _, _, b, rfl, .ty _, ty_ok r ht, kit_ty (isi_ok hb), q.now w (.bl _)⟩
      · exact q.elim
    · exact q.elim
  · exact q.elim
end
end Pd

set_option Elab.async false
set_option linter.all false
set_option maxRecDepth 100000
set_option maxHeartbeats 1000000
namespace Pd
open PySem L2 PyProof.Rows

/-! ### a piece of the text and its function -/
structure PD (X : Cx) (E : XK) (e : Expr) (f : FE) : Prop where
  ex : ∃ t, PE X e t ∧ RE X.K E t f
structure PDT (X : Cx) (E : XK) (e : Expr) (f : FT) : Prop where
  ex : ∃ t, PT X e t ∧ RT X.K E t f
structure PDW (X : Cx) (E : XK) (e : Expr) (f : FT) : Prop where
  ex : ∃ t, PW X e t ∧ RT X.K E t f
structure PDA (X : Cx) (E : XK) (es : List Expr) (f : FA) : Prop where
  ex : ∃ t, PA X es t ∧ RA X.K E t f
structure PDO (X : Cx) (E : XK) (e : Option Expr) (f : FO) : Prop where
  ex : ∃ t, PO X e t ∧ RO X.K E t f
structure PDS (X : Cx) (E : XK) (st : Stmt) (f : FS) : Prop where
  ex : ∃ t, PS X st t ∧ RS X.K E t f
structure PDB (X : Cx) (E : XK) (st : List Stmt) (f : FS) : Prop where
  ex : ∃ t, PSs X st t ∧ RS X.K E t f
structure PDG (X : Cx) (E : XK) (e : Expr) (f : FG) : Prop where
  ex : ∃ t, PG X e t ∧ RG X.K E t f
structure PDGs (X : Cx) (E : XK) (es : List Expr) (f : FGs) : Prop where
  ex : ∃ t, PGs X es t ∧ RGs X.K E t f
structure PDI (X : Cx) (E : XK) (tg iter : Expr) (f : FA) : Prop where
  ex : ∃ t, PI X tg iter t ∧ RI X.K E t f
/-- an operator; a built-in -/
structure Op2 (X : Cx) (E : XK) (f : Value → Value → Sem Value) (g : PM → D → D → Out D) : Prop where
  ex : ∃ r, OpR X f r ∧ OpD X.K E r g
structure Blt (X : Cx) (E : XK) (f : Value) (g : PM → List D → Out D) : Prop where
  ex : ∃ r, CallR X f r ∧ CbD X.K E r g
section
variable {X : Cx} {E : XK} {a b c e o : Expr} {es : List Expr} {fa fb fc fe : FE} {pos p apos : Pos} {x : Str}
theorem pv' (i : Nat) (h : PE X (.Name x pos) (tVar i)) : PD X E (.Name x pos) (pVar i) := ⟨_, h, r_var⟩
theorem pd_var (i : Nat) (hN : X.N[i]? = some x := by rfl) (hv : Vis X.env.scope x := by first | exact Or.inl rfl | exact Or.inr (Or.inl rfl) | exact Or.inr (Or.inr rfl)) (hd : (x == ("__debug__" : Str)) = false := by decide)
    (hcd : (x == ("__classdict__" : Str)) = false := by decide) : PD X E (.Name x pos) (pVar i) := ⟨_, pe_var hN hv hd hcd, r_var⟩
theorem pd_int {i : Int} {j} : PD X E (.Constant (.int i) j pos) (pC (.int i)) := ⟨_, pe_int, r_c fun _ _ => .int i⟩
theorem pd_str {z : Str} {j} : PD X E (.Constant (.str z) j pos) (pC (.str z)) := ⟨_, pe_str, r_c fun _ _ => .str z⟩
theorem pd_bl {k : Bool} {j} : PD X E (.Constant (.bool k) j pos) (pC (.bl k)) := ⟨_, pe_bl, r_c fun _ _ => .bl k⟩
theorem pd_non {j} : PD X E (.Constant .none j pos) (pC .non) := ⟨_, pe_non, r_c fun _ _ => .non⟩
/-- a module's constant -/
theorem pd_glob {d : D} {v : V} {u : Value} (hg : Gl X x) (hm : X.mg x = some u) (r : RelV v u) (hr : ∀ α H, Rep X.K α H d v) (hd : (x == ("__debug__" : Str)) = false := by decide) : PD X E (.Name x pos) (pC d) := ⟨_, pe_glob hg hm r hd, r_c hr⟩
/-- a built-in type's name -/
theorem pd_ty {n : String} (hg : Gl X x) (hm : X.mg x = none) (hv : bootBuiltins x = some (.type n)) (hn : x ≠ "__name__" := by decide) (hd : (x == ("__debug__" : Str)) = false := by decide) : PD X E (.Name x pos) (pC (.raw (.ty n))) :=
  ⟨_, pe_bltn (v := .ty n) hg hm hv rfl hn hd, r_c fun _ _ => .raw _⟩
theorem pd_op {op : Operator} {g : PM → D → D → Out D} (ho : Op2 X E (binaryOp op) g) (ha : PD X E a fa) (hb : PD X E b fb) : PD X E (.BinOp a op b pos) (pOp g fa fb) := by
  obtain ⟨r, h1, h2⟩ := ho
  obtain ⟨ta, ha, ra⟩ := ha
  obtain ⟨tb, hb, rb⟩ := hb
  exact ⟨_, pe_op h1 ha hb, r_op ra rb h2⟩
theorem pd_cmp {op : CmpOp} {g : PM → D → D → Out D} (ho : Op2 X E (compareOp op) g) (ha : PD X E a fa) (hb : PD X E b fb) (hm : behindInMarks op b = false) : PD X E (.Compare a [op] [b] pos) (pOp g fa fb) := by
  obtain ⟨r, h1, h2⟩ := ho
  obtain ⟨ta, ha, ra⟩ := ha
  obtain ⟨tb, hb, rb⟩ := hb
  exact ⟨_, pe_cmpR h1 ha hb hm, r_op ra rb h2⟩
theorem pdt_cmp {op : CmpOp} {g : PM → D → D → Out D} (ho : Op2 X E (compareOp op) g) (ha : PD X E a fa) (hb : PD X E b fb) (hm : behindInMarks op b = false) : PDT X E (.Compare a [op] [b] pos) (pTest (pOp g fa fb)) := by
  obtain ⟨r, h1, h2⟩ := ho
  obtain ⟨ta, ha, ra⟩ := ha
  obtain ⟨tb, hb, rb⟩ := hb
  exact ⟨_, pt_cmpR h1 ha hb hm, r_test (r_op ra rb h2)⟩
theorem pd_neg (ha : PD X E a fa) : PD X E (.UnaryOp .USub a pos) (pUn gNeg fa) := by
  obtain ⟨ta, ha, ra⟩ := ha
  exact ⟨_, pe_un un_neg ha, r_un ra ud_neg⟩
theorem pd_not (ha : PD X E a fa) : PD X E (.UnaryOp .Not a pos) (pNotV fa) := by
  obtain ⟨ta, ha, ra⟩ := ha
  exact ⟨_, pe_not ha, r_notV ra⟩
theorem pd_one {op} (ha : PD X E a fa) : PD X E (.BoolOp op [a] pos) fa := by
  obtain ⟨ta, ha, ra⟩ := ha
  exact ⟨_, pe_one ha, ra⟩
theorem pd_and (ha : PD X E a fa) (hb : PD X E (.BoolOp .And (b :: es) pos) fb) : PD X E (.BoolOp .And (a :: b :: es) pos) (pAndV fa fb) := by
  obtain ⟨ta, ha, ra⟩ := ha
  obtain ⟨tb, hb, rb⟩ := hb
  exact ⟨_, pe_and ha hb, r_andV ra rb⟩
theorem pd_or (ha : PD X E a fa) (hb : PD X E (.BoolOp .Or (b :: es) pos) fb) : PD X E (.BoolOp .Or (a :: b :: es) pos) (pOrV fa fb) := by
  obtain ⟨ta, ha, ra⟩ := ha
  obtain ⟨tb, hb, rb⟩ := hb
  exact ⟨_, pe_or ha hb, r_orV ra rb⟩
theorem pd_if {t : FT} (hc : PDT X E c t) (ha : PD X E a fa) (hb : PD X E b fb) : PD X E (.IfExp c a b pos) (pIf t fa fb) := by
  obtain ⟨tc, hc, rc⟩ := hc
  obtain ⟨ta, ha, ra⟩ := ha
  obtain ⟨tb, hb, rb⟩ := hb
  exact ⟨_, pe_ifExp hc ha hb, r_if rc ra rb⟩
/-! tests -/
theorem pdt_val (ha : PD X E e fe) (he : ∀ whole, isTrue e X.env whole = (do let v ← whole; standAt e.pos; holding [v] (truthy v)) := by intro _; rfl) : PDT X E e (pTest fe) := by
  obtain ⟨ta, ha, ra⟩ := ha
  exact ⟨_, pt_val ha he, r_tB ra⟩
theorem pdt_not {t : FT} (ha : PDT X E a t) : PDT X E (.UnaryOp .Not a pos) (pNot t) := by
  obtain ⟨ta, ha, ra⟩ := ha
  exact ⟨_, pt_not ha, r_not ra⟩
theorem pdt_w {t : FT} (h : PDW X E e t) : PDT X E e t := by
  obtain ⟨t', h, r⟩ := h
  exact ⟨_, h.pt, r⟩
theorem pdw_and1 {t : FT} (ha : PDT X E a t) : PDW X E (.BoolOp .And [a] pos) t := by
  obtain ⟨ta, ha, ra⟩ := ha
  exact ⟨_, pw_and1 ha, ra⟩
theorem pdw_or1 {t : FT} (ha : PDT X E a t) : PDW X E (.BoolOp .Or [a] pos) t := by
  obtain ⟨ta, ha, ra⟩ := ha
  exact ⟨_, pw_or1 ha, ra⟩
theorem pdw_and {t u : FT} (ha : PDT X E a t) (hb : PDW X E (.BoolOp .And (b :: es) pos) u) : PDW X E (.BoolOp .And (a :: b :: es) pos) (pAnd t u) := by
  obtain ⟨ta, ha, ra⟩ := ha
  obtain ⟨tb, hb, rb⟩ := hb
  exact ⟨_, pw_and ha hb, r_and ra rb⟩
theorem pdw_or {t u : FT} (ha : PDT X E a t) (hb : PDW X E (.BoolOp .Or (b :: es) pos) u) : PDW X E (.BoolOp .Or (a :: b :: es) pos) (pOr t u) := by
  obtain ⟨ta, ha, ra⟩ := ha
  obtain ⟨tb, hb, rb⟩ := hb
  exact ⟨_, pw_or ha hb, r_or ra rb⟩
/-! arguments, displays, parts -/
theorem pda_nil : PDA X E [] aNil := ⟨_, pa_nil, r_nil⟩
theorem pda_cons {f : FA} (ha : PD X E e fe) (hr : PDA X E es f) (h : starEach (e :: es) X.env = (false, eval e X.env) :: starEach es X.env := by rfl) : PDA X E (e :: es) (aCons fe f) := by
  obtain ⟨ta, ha, ra⟩ := ha
  obtain ⟨tr, hr, rr⟩ := hr
  exact ⟨_, pa_cons ha hr h, r_cons ra rr⟩
theorem pd_tup {f : FA} {x1} (h : PDA X E es f) : PD X E (.Tuple es x1 pos) (pTup f) := by
  obtain ⟨t, h, r⟩ := h
  exact ⟨_, pe_tup h, r_tup r⟩
theorem pd_lst {f : FA} (h : PDA X E es f) : PD X E (.List es pos) (pLst f) := by
  obtain ⟨t, h, r⟩ := h
  exact ⟨_, pe_lst h, r_lst r⟩
theorem pd_new {f : FA} (h : PDA X E es f) : PD X E (.List es pos) (pNew f) := by
  obtain ⟨t, h, r⟩ := h
  exact ⟨_, pe_lst h, r_new r⟩
theorem pd_ix (ha : PD X E a fa) (hb : PD X E b fb) (hs : PlainIx b := by exact fun _ _ => rfl) : PD X E (.Subscript a b pos) (pOp gIx fa fb) := by
  obtain ⟨ta, ha, ra⟩ := ha
  obtain ⟨tb, hb, rb⟩ := hb
  exact ⟨_, pe_ix ix_seq ha hb hs, r_op ra rb od_ix⟩
theorem pdo_none : PDO X E none oNone := ⟨_, po_none, r_oNone⟩
theorem pdo_some (h : PD X E e fe) : PDO X E (some e) (oSome fe) := by
  obtain ⟨t, h, r⟩ := h
  exact ⟨_, po_some h, r_oSome r⟩
theorem pd_sl {lo hi : Option Expr} {p2 : Pos} {fl fh : FO} (he : PD X E e fe) (hl : PDO X E lo fl) (hh : PDO X E hi fh) : PD X E (.Subscript e (.Slice lo hi none p2) pos) (pSl gSl fe fl fh) := by
  obtain ⟨t, he, r⟩ := he
  obtain ⟨tl, hl, rl⟩ := hl
  obtain ⟨th, hh, rh⟩ := hh
  exact ⟨_, pe_slice sl_D he hl hh, r_sl r rl rh sd_sl⟩
/-! calls -/
theorem pd_call {CX : CXT} {k : Nat} {f : Addr} {fd : FuncData} {ps : List Str} {Φ : List D → PM → Out D} {fargs : FA} (F : FnOk X.prog X.w X.K X.mg X.base CX k f fd ps (spP X.K Φ)) (hr : Room k X.A) (hg : Gl X x) (hm : X.mg x = some (.ref f)) (hk : PySem.W.keepIn X.K (.ref f) = true)
    (hb : Binds X.K fd ps []) (hx : Passes CX X E) (ha : PDA X E (e :: es) fargs) (hdb : (x == ("__debug__" : Str)) = false := by decide)
    (he : starEach (e :: es) X.env = (false, eval e X.env) :: starEach es X.env := by rfl) (hpl : (backTo pos (starEach es X.env)).any (·.1) = false := by rfl) : PD X E (.Call (.Name x p) (e :: es) [] pos) (pCall Φ fargs) := by
  obtain ⟨t, ha, r⟩ := ha
  exact ⟨_, pe_call F hr hg hm hk hb .nil hx ha hdb he hpl, r_call r⟩
theorem pd_callB {id : String} {g : PM → List D → Out D} {fargs : FA} (hc : Blt X E (.builtin id) g) (hg : Gl X x) (hm : X.mg x = none) (hv : bootBuiltins x = some (.builtin id)) (ha : PDA X E (e :: es) fargs) (hn : x ≠ "__name__" := by decide) (hdb : (x == ("__debug__" : Str)) = false := by decide)
    (he : starEach (e :: es) X.env = (false, eval e X.env) :: starEach es X.env := by rfl) (hpl : (backTo pos (starEach es X.env)).any (·.1) = false := by rfl) : PD X E (.Call (.Name x p) (e :: es) [] pos) (pCB g fargs) := by
  obtain ⟨r, h1, h2⟩ := hc
  obtain ⟨t, ha, rr⟩ := ha
  exact ⟨_, pe_callB h1 hg hm hv ha hn hdb he hpl, r_cb rr h2⟩
theorem pd_callT {T : String} {g : PM → List D → Out D} {fargs : FA} (hc : Blt X E (.type T) g) (hg : Gl X x) (hm : X.mg x = none) (hv : bootBuiltins x = some (.type T)) (ha : PDA X E (e :: es) fargs) (hn : x ≠ "__name__" := by decide) (hdb : (x == ("__debug__" : Str)) = false := by decide)
    (he : starEach (e :: es) X.env = (false, eval e X.env) :: starEach es X.env := by rfl) (hpl : (backTo pos (starEach es X.env)).any (·.1) = false := by rfl) : PD X E (.Call (.Name x p) (e :: es) [] pos) (pCB g fargs) := by
  obtain ⟨r, h1, h2⟩ := hc
  obtain ⟨t, ha, rr⟩ := ha
  exact ⟨_, pe_callTy h1 hg hm hv ha hn hdb he hpl, r_cb rr h2⟩
/-! the operators -/
theorem o_add : Op2 X E (binaryOp .Add) gAdd := ⟨_, op_add.or (op_add_str.or (op_catA.or op_cat)), (od_II0 fun _ _ _ _ => .int _).or (od_addS.or (od_addT.or od_addL))⟩
theorem o_sub : Op2 X E (binaryOp .Sub) gSub := ⟨_, op_sub, od_II0 fun _ _ _ _ => .int _⟩
theorem o_mul : Op2 X E (binaryOp .Mult) gMul := ⟨_, op_mul, od_II (fun i j h => by
  unfold cMul at h
  simp only [Bool.or_eq_true, Bool.and_eq_true, decide_eq_true_eq] at h
  exact h) fun _ _ _ _ => .int _⟩
theorem o_fdiv : Op2 X E (binaryOp .FloorDiv) gFdiv := ⟨_, op_fdiv.or op_fdivN, (od_II (fun i j h => by
  unfold cDiv at h
  simp only [Bool.and_eq_true, decide_eq_true_eq] at h
  exact h) fun _ _ _ _ => .int _).or (od_II (fun i j h => by
  unfold cDivN at h
  simp only [Bool.and_eq_true, decide_eq_true_eq] at h
  exact h) fun _ _ _ _ => .int _)⟩
theorem o_mod : Op2 X E (binaryOp .Mod) gMod := ⟨_, op_mod.or op_modN, (od_II (fun i j h => of_decide_eq_true h) fun _ _ _ _ => .int _).or (od_II (fun i j h => of_decide_eq_true h) fun _ _ _ _ => .int _)⟩
theorem o_pow : Op2 X E (binaryOp .Pow) gPow := ⟨_, op_pow, od_II (fun i j h => by
  unfold cPow at h
  simp only [Bool.and_eq_true, decide_eq_true_eq] at h
  exact ⟨h.1.1, h.1.2, h.2⟩) fun _ _ _ _ => .int _⟩
theorem o_lt : Op2 X E (compareOp .Lt) gLt := ⟨_, op_lt, od_II0 fun _ _ _ _ => .bl _⟩
theorem o_le : Op2 X E (compareOp .LtE) gLe := ⟨_, op_le, od_II0 fun _ _ _ _ => .bl _⟩
theorem o_gt : Op2 X E (compareOp .Gt) gGt := ⟨_, op_gt, od_II0 fun _ _ _ _ => .bl _⟩
theorem o_ge : Op2 X E (compareOp .GtE) gGe := ⟨_, op_ge, od_II0 fun _ _ _ _ => .bl _⟩
theorem o_eq : Op2 X E (compareOp .Eq) gEq := ⟨_, op_eq, od_eq⟩
theorem o_ne : Op2 X E (compareOp .NotEq) gNe := ⟨_, op_ne, od_ne⟩
theorem o_is : Op2 X E (compareOp .Is) gIs' := ⟨_, op_isN1, od_is⟩
theorem o_isNot : Op2 X E (compareOp .IsNot) gIsNot' := ⟨_, op_notN1, od_isNot⟩
theorem o_in : Op2 X E (compareOp .In) gIn := ⟨_, op_inS.or op_in_seq, od_inS.or od_inL⟩
theorem o_notIn : Op2 X E (compareOp .NotIn) gNotIn := ⟨_, op_notInS.or op_notIn_seq, od_notInS.or od_notInL⟩
theorem b_len : Blt X E (.builtin "len") bLen := ⟨_, call_len, cd_len⟩
theorem b_abs : Blt X E (.builtin "abs") bAbs := ⟨_, call_abs, cd_abs⟩
theorem b_int : Blt X E (.type "int") bInt := ⟨_, call_int1.or call_int_str, cd_int⟩
theorem b_str : Blt X E (.type "str") bStr := ⟨_, call_str_int.or SkE.call_str_str, cd_str⟩
theorem b_tuple : Blt X E (.type "tuple") bTuple := ⟨_, call_tuple_of, cd_tuple⟩
theorem b_list : Blt X E (.type "list") bList := ⟨_, call_list_of, cd_list⟩
theorem b_isi : Blt X E (.builtin "isinstance") bIsi := ⟨_, call_isi, cd_isi⟩
theorem b_max2 (hc : X.calm = true) : Blt X E (.builtin "max") bMax2 := ⟨_, call_max2 hc, cd_max2⟩
theorem b_min2 (hc : X.calm = true) : Blt X E (.builtin "min") bMin2 := ⟨_, call_min2 hc, cd_min2⟩
/-! statements -/
section
variable {st : Stmt} {sts body orelse : List Stmt} {f g : FS} {t : FT} {tg iter : Expr}
theorem pdb_nil : PDB X E [] sNext := ⟨_, pss_nil, s_next⟩
theorem pdb_cons (h1 : PDS X E st f) (h2 : PDB X E sts g) : PDB X E (st :: sts) (sSeq f g) := by
  obtain ⟨t1, h1, r1⟩ := h1
  obtain ⟨t2, h2, r2⟩ := h2
  exact ⟨_, pss_cons h1 h2, s_seq r1 r2⟩
theorem pdb_one (h1 : PDS X E st f) : PDB X E [st] f := by
  obtain ⟨t1, h1, r1⟩ := h1
  exact ⟨_, pss_one h1, r1⟩
theorem pds_set {pos' : Pos} (i : Nat) (he : PD X E e fe) (hN : X.N.Nodup) (hi : X.N[i]? = some x := by rfl) (hx : Loc X.env.scope x := by first | exact Or.inl rfl | exact Or.inr rfl) (hs : swapsWith e (some (.Name x pos')) pos.line X.env = pure false := by rfl)
    (hf : X.fn x = true ∨ X.env.scope.names.lookup x = some .local := by first | exact .inl rfl | exact .inr rfl | assumption) : PDS X E (.Assign [.Name x pos'] e pos) (sAsg fe (fName i)) := by
  obtain ⟨t, he, r⟩ := he
  exact ⟨_, ps_set hN hi hx he hs hf, s_asg r g_name⟩
theorem pds_asg {fg : FG} (he : PD X E e fe) (hg : PDG X E tg fg) (hs : swapsWithSole [tg] e pos.line X.env = pure false := by rfl) (hw : swappedStores [tg] e X.env = pure none := by rfl)
    (h1 : (assignEach [tg] X.env).map (·.2) = [assign tg X.env] := by rfl) : PDS X E (.Assign [tg] e pos) (sAsg fe fg) := by
  obtain ⟨t, he, r⟩ := he
  obtain ⟨tg', hg, rg⟩ := hg
  exact ⟨_, ps_asg he hg hs hw h1, s_asg r rg⟩
theorem pdg_name {i : Nat} (hN : X.N.Nodup) (hi : X.N[i]? = some x := by rfl) (hx : Loc X.env.scope x := by first | exact Or.inl rfl | exact Or.inr rfl) (hf : X.fn x = true ∨ X.env.scope.names.lookup x = some .local := by first | exact .inl rfl | exact .inr rfl | assumption) : PDG X E (.Name x pos) (fName i) :=
  ⟨_, pg_name hN hi hx hf, g_name⟩
theorem pdgs_nil : PDGs X E [] fNil := ⟨_, pgs_nil, g_nil⟩
theorem pdgs_cons {f : FG} {fs : FGs} (h1 : PDG X E e f) (h2 : PDGs X E es fs) (hs : (assignEach (e :: es) X.env).map (·.2) = assign e X.env :: (assignEach es X.env).map (·.2) := by rfl) : PDGs X E (e :: es) (fCons f fs) := by
  obtain ⟨t1, h1, r1⟩ := h1
  obtain ⟨t2, h2, r2⟩ := h2
  exact ⟨_, pgs_cons h1 h2 hs, g_cons r1 r2⟩
theorem pdg_tup {k : Nat} {n : Nat} {fs : FGs} (hc : X.calm = true) (h : PDGs X E es fs) (hn : (assignEach es X.env).length = n := by rfl) (hst : (assignEach es X.env).findIdx? (·.1) = none := by rfl) : PDG X E (.Tuple es k pos) (fTup n fs) := by
  obtain ⟨t, h, r⟩ := h
  exact ⟨_, pg_tup hc h hn hst, g_tup r⟩
theorem pdg_sub (ho : PD X E a fa) (hi : PD X E b fb) (ha : ∀ v, assign (.Subscript a b pos) X.env v = (do
      let ov ← holding [v] (eval a X.env)
      let iv ← holding [v, ov] (eval b X.env)
      standAt pos
      holding [v, ov, iv] (setItem ov iv v)
      release [v, ov, iv] []) := by intro v; rfl) : PDG X E (.Subscript a b pos) (fSub fa fb) := by
  obtain ⟨t1, h1, r1⟩ := ho
  obtain ⟨t2, h2, r2⟩ := hi
  exact ⟨_, pg_sub h1 h2 set_list ha, g_sub r1 r2⟩
theorem pds_expr (he : PD X E e fe) (hs : swapsWith e none pos.line X.env = pure false := by rfl) : PDS X E (.Expr e pos) (sDrop fe) := by
  obtain ⟨t, he, r⟩ := he
  exact ⟨_, ps_expr he hs, s_drop r⟩
theorem pds_ret (he : PD X E e fe) : PDS X E (.Return (some e) pos) (sRet fe) := by
  obtain ⟨t, he, r⟩ := he
  exact ⟨_, ps_ret he, s_ret r⟩
theorem pds_retN : PDS X E (.Return none pos) sRetN := ⟨_, ps_retN, s_retN⟩
theorem pds_brk : PDS X E (.Break pos) sBreak := ⟨_, ps_break, s_break⟩
theorem pds_cont : PDS X E (.Continue pos) sCont := ⟨_, ps_continue, s_cont⟩
theorem pds_pass : PDS X E (.Pass pos) sNext := ⟨_, ps_pass, s_next⟩
theorem pds_if (hc : PDT X E c t) (h1 : PDB X E body f) (h2 : PDB X E orelse g) : PDS X E (.If c body orelse pos) (sIf t f g) := by
  obtain ⟨tc, hc, rc⟩ := hc
  obtain ⟨t1, h1, r1⟩ := h1
  obtain ⟨t2, h2, r2⟩ := h2
  exact ⟨_, ps_if hc h1 h2, s_if rc r1 r2⟩
theorem pds_while (n : Nat) (hp : PassesOwn (model X.prog X.w) X.A X.env X.xe) (hc : PDT X E c t) (hb : PDB X E body f) : PDS X E (.While c body [] pos) (sWhile t f n) := by
  obtain ⟨tc, hc, rc⟩ := hc
  obtain ⟨tb, hb, rb⟩ := hb
  exact ⟨_, ps_while hp hc hb, s_while n rc rb⟩
theorem pds_for {fw : FA} {fg : FG} (hp : PassesOwn (model X.prog X.w) X.A X.env X.xe) (hc : X.calm = true) (hi : PDI X E tg iter fw) (hg : PDG X E tg fg) (hb : PDB X E body f) (hs : ∀ x, foldedSetIterable iter X.env x = pure x := by intro _; rfl) : PDS X E (.For tg iter body [] pos) (sFor fw fg f) := by
  obtain ⟨ti, hi, ri⟩ := hi
  obtain ⟨t1, hg, rg⟩ := hg
  obtain ⟨tb, hb, rb⟩ := hb
  exact ⟨_, ps_for hp hc hi hg hb hs, s_for ri rg rb⟩
end
end
end Pd

set_option Elab.async false
set_option linter.all false
set_option maxRecDepth 100000
set_option maxHeartbeats 1000000
namespace Pd
open PySem L2 PyProof.Rows

/-! ### values without the objects from n on -/
mutual
def clD (n : Nat) : D → Bool
  | .adr i => decide (i < n)
  | .tup ds => clL n ds
  | .lst ds => clL n ds
  | .rol ds => clL n ds
  | .xcp _ _ _ ds => clL n ds
  | .non => true
  | .bl _ => true
  | .int _ => true
  | .str _ => true
  | .raw _ => true
def clL (n : Nat) : List D → Bool
  | [] => true
  | d :: ds => clD n d && clL n ds
end
def clMO (n : Nat) : MO → Bool
  | .lst ds => clL n ds
  | .ins _ fs => clL n (fs.map (·.2))
  | .dct kvs => clL n (kvs.map (·.2))
theorem clL_append (n : Nat) : ∀ as bs : List D, clL n (as ++ bs) = (clL n as && clL n bs)
  | [], bs => by simp [clL]
  | a :: as, bs => by simp [clL, clL_append n as bs, Bool.and_assoc]
theorem clL_of (n : Nat) : ∀ {as : List D}, (∀ a ∈ as, clD n a = true) → clL n as = true
  | [], _ => rfl
  | a :: as, h => by
    simp only [clL, Bool.and_eq_true]
    exact ⟨h a (List.mem_cons_self ..), clL_of n fun b hb => h b (List.mem_cons_of_mem _ hb)⟩
section
variable {K : PySem.W.Frag} {α α' : List Addr} {H H' : Hp} {E : XK}
mutual
theorem Rep.cl : ∀ (d : D) (v : V), Rep K α H d v → clD α.length d = true
  | .adr i, _, h => by
    cases h with
    | adr e => simp only [clD, decide_eq_true_eq]; exact (List.getElem?_eq_some_iff.mp e).1
  | .tup ds, _, h => by cases h with | tup t r => simp only [clD]; exact RepL.cl ds _ r
  | .lst ds, _, h => by cases h with | lst t r => simp only [clD]; exact RepL.cl ds _ r
  | .rol ds, _, h => by cases h with | rol t r => simp only [clD]; exact RepL.cl ds _ r
  | .xcp _ _ _ ds, _, h => by cases h with | xcp e n r => simp only [clD]; exact RepL.cl ds _ r
  | .non, _, _ => by simp only [clD]
  | .bl _, _, _ => by simp only [clD]
  | .int _, _, _ => by simp only [clD]
  | .str _, _, _ => by simp only [clD]
  | .raw _, _, _ => by simp only [clD]
theorem RepL.cl : ∀ (ds : List D) (vs : List V), RepL K α H ds vs → clL α.length ds = true
  | [], _, _ => by simp only [clL]
  | d :: ds, _, h => by
    cases h with
    | cons r t => simp only [clL, Bool.and_eq_true]; exact ⟨Rep.cl d _ r, RepL.cl ds _ t⟩
end
mutual
theorem Rep.trim (n : Nat) : ∀ (d : D) (v : V), clD n d = true → Rep K α H d v → Rep K (α.take n) H d v
  | .adr i, _, c, h => by
    cases h with
    | adr e =>
      simp only [clD, decide_eq_true_eq] at c
      exact .adr (by rw [List.getElem?_take_of_lt c]; exact e)
  | .tup ds, _, c, h => by
    cases h with
    | tup t r =>
      simp only [clD] at c
      refine .tup ?_ (RepL.trim n ds _ c r)
      rcases t with ⟨t, q⟩ | t
      · exact .inl ⟨t, fun z => q (List.mem_of_mem_take z)⟩
      · exact .inr t
  | .lst ds, _, c, h => by
    cases h with
    | lst t r =>
      simp only [clD] at c
      exact .lst ⟨t.1, fun z => t.2 (List.mem_of_mem_take z)⟩ (RepL.trim n ds _ c r)
  | .rol ds, _, c, h => by
    cases h with
    | rol t r =>
      simp only [clD] at c
      refine .rol ?_ (RepL.trim n ds _ c r)
      rcases t with ⟨t, q⟩ | t
      · exact .inl ⟨t, fun z => q (List.mem_of_mem_take z)⟩
      · exact .inr t
  | .xcp a dd ns ds, _, c, h => by
    cases h with
    | xcp e q r =>
      simp only [clD] at c
      exact .xcp e (fun z => q (List.mem_of_mem_take z)) (RepL.trim n ds _ c r)
  | .non, _, _, h => by cases h; exact .non
  | .bl b, _, _, h => by cases h; exact .bl b
  | .int b, _, _, h => by cases h; exact .int b
  | .str b, _, _, h => by cases h; exact .str b
  | .raw b, _, _, h => by cases h; exact .raw b
theorem RepL.trim (n : Nat) : ∀ (ds : List D) (vs : List V), clL n ds = true → RepL K α H ds vs → RepL K (α.take n) H ds vs
  | [], _, _, h => by cases h; exact .nil
  | d :: ds, _, c, h => by
    cases h with
    | cons r t =>
      simp only [clL, Bool.and_eq_true] at c
      exact .cons (Rep.trim n d _ c.1 r) (RepL.trim n ds _ c.2 t)
end
theorem DL.cl : ∀ {r : List (Key × D)} {q : List (Key × V)}, DL K α H r q → clL α.length (r.map (·.2)) = true
  | _, _, .nil => rfl
  | _, _, .cons h t => by
    simp only [List.map_cons, clL, Bool.and_eq_true]
    exact ⟨Rep.cl _ _ h, DL.cl t⟩
theorem DL.trim (n : Nat) : ∀ {r : List (Key × D)} {q : List (Key × V)}, clL n (r.map (·.2)) = true → DL K α H r q → DL K (α.take n) H r q
  | _, _, _, .nil => .nil
  | _, _, c, .cons h t => by
    simp only [List.map_cons, clL, Bool.and_eq_true] at c
    exact .cons (Rep.trim n _ _ c.1 h) (DL.trim n c.2 t)
theorem ObR.cl {a : Addr} {m : MO} (h : ObR K α H a m) : clMO α.length m = true := by
  cases m with
  | lst ds => obtain ⟨vs, _, r⟩ := h; exact RepL.cl ds _ r
  | ins C fs => obtain ⟨dx, vs, _, r⟩ := h; exact RepL.cl _ _ r
  | dct kvs => obtain ⟨q, _, r⟩ := h; exact DL.cl r
theorem ObR.trim {a : Addr} {m : MO} (n : Nat) (c : clMO n m = true) (h : ObR K α H a m) : ObR K (α.take n) H a m := by
  cases m with
  | lst ds => obtain ⟨vs, e, r⟩ := h; exact ⟨vs, e, RepL.trim n ds _ c r⟩
  | ins C fs => obtain ⟨dx, vs, e, r⟩ := h; exact ⟨dx, vs, e, RepL.trim n _ _ c r⟩
  | dct kvs => obtain ⟨q, e, r⟩ := h; exact ⟨q, e, DL.trim n c r⟩
theorem Wd.cl {M : PM} (w : Wd K α M H) : ∀ m ∈ M, clMO M.length m = true := fun m hm => by
  obtain ⟨i, hi, e⟩ := List.mem_iff_getElem.mp hm
  obtain ⟨a, _, o⟩ := w.ob i m (by rw [List.getElem?_eq_getElem hi, e])
  rw [← w.len]
  exact o.cl
/-- the first n objects -/
theorem Wd.trim {M' junk : PM} (w : Wd K α (M' ++ junk) H) (c : ∀ m ∈ M', clMO M'.length m = true) : Wd K (α.take M'.length) M' H := by
  refine ⟨w.nd.sublist (List.take_sublist _ _), by rw [List.length_take, w.len, List.length_append]; omega, fun i m e => ?_⟩
  have hi := (List.getElem?_eq_some_iff.mp e).1
  obtain ⟨a, e1, o⟩ := w.ob i m (by rw [List.getElem?_append_left hi]; exact e)
  exact ⟨a, by rw [List.getElem?_take_of_lt hi]; exact e1, o.trim _ (c m (List.mem_of_getElem? e))⟩
theorem Step.trim {n : Nat} (s : Step α H α' H') (h : α.length ≤ n) : Step α H (α'.take n) H' := by
  obtain ⟨β, rfl, hb⟩ := s.ext
  refine ⟨⟨β.take (n - α.length), ?_, fun b hb' => hb b (List.mem_of_mem_take hb')⟩, s.pr⟩
  rw [List.take_append, List.take_of_length_le h]
/-- what is left when a def ends -/
def Shuts (M' M'' : PM) (d' d : D) : Prop := (M'' = M' ∧ d' = d) ∨
  ∃ junk, M'' = M' ++ junk ∧ (∀ m ∈ M', clMO M'.length m = true) ∧ ((d' = d ∧ clD M'.length d = true) ∨ ∃ i es, d' = .adr i ∧ M'.length ≤ i ∧ M''[i]? = some (.lst es) ∧ d = .lst es ∧ clL M'.length es = true)
theorem shut_ok {M' M'' : PM} {d' d : D} {v : V} (s : Shuts M' M'' d' d) (w : Wd K α M'' H) (r : Rep K α H d' v) : Wd K (α.take M'.length) M' H ∧ Rep K (α.take M'.length) H d v := by
  rcases s with ⟨rfl, rfl⟩ | ⟨junk, rfl, c, s⟩
  · rw [← w.len, List.take_length]
    exact ⟨w, r⟩
  · refine ⟨w.trim c, ?_⟩
    rcases s with ⟨rfl, cd⟩ | ⟨i, es, rfl, hi, e, rfl, ce⟩
    · exact Rep.trim _ _ _ cd r
    · cases r with
      | adr ha =>
        obtain ⟨a', e1, vs, e2, e3⟩ := w.ob _ _ e
        rw [ha] at e1
        cases e1
        refine .lst ⟨e2, fun z => ?_⟩ (RepL.trim _ _ _ ce e3)
        obtain ⟨j, hj, e4⟩ := List.mem_iff_getElem.mp z
        rw [List.getElem_take] at e4
        rw [List.length_take] at hj
        obtain ⟨hi', e5⟩ := List.getElem?_eq_some_iff.mp ha
        have := (List.getElem_inj w.nd).mp (e4.trans e5.symm)
        omega

/-! ### THE RULE for a def -/
def rho0 (N : List Str) (ds : List D) : Rho := ds.map some ++ List.replicate (N.length - ds.length) none
theorem env0 {N : List Str} {ds : List D} {vs : List V} (r : RepL K α H ds vs) : EnvR K α H (rho0 N ds) (L2.start N vs) := by
  unfold rho0 L2.start
  refine ⟨by simp [r.length], fun i d h => ?_⟩
  by_cases hi : i < ds.length
  · rw [List.getElem?_append_left (by simpa using hi), List.getElem?_map] at h
    cases e : ds[i]? with
    | none => rw [e] at h; cases h
    | some d' =>
      rw [e] at h
      cases h
      obtain ⟨v, e1, e2⟩ := r.get e
      refine ⟨v, ?_, e2⟩
      rw [List.getElem?_append_left (by rw [List.length_map, ← r.length]; exact hi), List.getElem?_map, e1]
      rfl
  · rw [List.getElem?_append_right (by simpa using hi), List.getElem?_replicate] at h
    split at h <;> cases h
def Fits (N : List Str) (g : FS) (Φ : List D → PM → Out D) (ds : List D) (M : PM) : Prop := match Φ ds M with
  | .ok d M' => M.length ≤ M'.length ∧ ∃ d' M'', (g (rho0 N ds) M = .ok (.rt d') M'' ∨ (∃ ρ, g (rho0 N ds) M = .ok (.nx ρ) M'' ∧ d' = .non)) ∧ Shuts M' M'' d' d
  | .exn _ _ _ => False
  | .bad => True
theorem fn_pd {P : Program} {w : World} {mg : Str → Option Value} {base : Heap} {x qual : Str} {st : Stmt} {f : Addr} {fd : FuncData} {N ps : List Str} {k : Nat} {Φ : List D → PM → Out D} {g : FS} (F : Fun K x qual st f fd) (S : FnScope N ps (defScope st))
    (hl : ∀ ds M, ds.length ≠ ps.length → Φ ds M = .bad)
    (body : ∀ (cdv : Value) (A : Around) (outer : List PySem.Env) (s : Shared) (H : Hp) (E : XK), Room k (A.deeper (envOfC qual (defScope st) s.heap.objs.size f cdv)) → PDB (cxOf CX0 P w K mg base N qual (defScope st) f cdv A outer s H E).nox E0 (defBody st) g)
    (fit : ∀ ds M, ds.length = ps.length → (∀ m ∈ M, clMO M.length m = true) → clL M.length ds = true → Fits N g Φ ds M) : FnOk P w K mg base CX0 (k + 1) f fd ps (spP K Φ) := by
  refine F.ok S (fun vs H Q E h => ?_) (fun cdv A outer s H vs Q E hr h => ?_)
  · obtain ⟨ds, α, M, hw, hr, hp⟩ := h
    by_cases e : ds.length = ps.length
    · rw [← hr.length]; exact e
    · rw [hl ds M e] at hp; exact hp.elim
  · obtain ⟨ds, α, M, hw, hrp, hp⟩ := h
    obtain ⟨t, h1, h2⟩ := body cdv A outer s H E hr
    refine ⟨t, h1, ?_⟩
    have hlen : ds.length = ps.length := by
      by_cases e : ds.length = ps.length
      · exact e
      · rw [hl ds M e] at hp; exact hp.elim
    have hf := fit ds M hlen hw.cl (by have := RepL.cl _ _ hrp; rw [hw.len] at this; exact this)
    unfold Fits at hf
    split at hf
    · rename_i d M' he
      rw [he] at hp
      obtain ⟨hM, d', M'', hg, hs⟩ := hf
      have hs' : Shuts M' M'' d' d := hs
      refine h2 (rho0 N ds) _ H α M _ (env0 hrp) hw ?_
      have key : ∀ v α' H', Step α H α' H' → Wd K α' M'' H' → Rep K α' H' d' v → Q v H' := fun v α' H' st w' r' => by
        obtain ⟨w2, r2⟩ := shut_ok hs' w' r'
        exact hp v _ H' (st.trim (by rw [hw.len]; exact hM)) w2 r2
      rcases hg with hg | ⟨ρ, hg, hd⟩
      · rw [hg]
        intro b α' H' st w' r'
        cases b with
        | rt v => exact key v α' H' st w' r'
        | _ => exact r'.elim
      · rw [hg]
        intro b α' H' st w' r'
        cases b with
        | nx σ => exact key .non α' H' st w' (by rw [hd]; exact .non)
        | _ => exact r'.elim
    · exact hf.elim
    · rename_i he
      rw [he] at hp
      exact hp.elim

/-! ### what a for walks -/
def pItems (f : FE) : FA := fun ρ M => (f ρ M).bind fun a M1 => match a with
  | .lst ds => .ok ds M1
  | .rol ds => .ok ds M1
  | .tup ds => .ok ds M1
  | .str z => .ok (z.cps.toList.map fun c => .str ⟨#[c]⟩) M1
  | _ => .bad
def iAny (K : PySem.W.Frag) (te : TE) : TI := fun σ H R => te σ H fun x H1 => (∃ a, x = .ref a ∧ (∃ xs, SqL K H1 a xs) ∧ R (Itl K a) H1) ∨ (∃ a, x = .ref a ∧ (∃ xs, SqT K H1 a xs) ∧ R (Itt K a) H1) ∨ ∃ z, x = .str z ∧ R (Its z) H1
theorem pi_any {X : Cx} {tg e : Expr} {te : TE} (he : PE X e te) : PI X tg e (iAny X.K te) := by
  refine ⟨fun pins s σ H R I h => ?_⟩
  refine thn (he.run pins s σ H _ I h) fun v s1 ⟨x, H1, I1, r1, q1⟩ => ?_
  rcases q1 with ⟨a, e, ⟨xs, hq⟩, q⟩ | ⟨a, e, ⟨xs, hq⟩, q⟩ | ⟨y, e, q⟩
  · subst e
    cases r1
    obtain ⟨its, rv, p, hz⟩ := I1.list hq
    refine wpAny_pyIter_list p.isList ?_
    exact pi_one (tk := s1.toks) I1 _ (turn_list a _) ⟨_, Heap.get?_push_size _ rfl, rfl, rfl⟩ q
  · subst e
    cases r1
    obtain ⟨its, rv, p, hz⟩ := I1.tuple hq
    refine wpAny_pyIter_tuple (show s1.heap.IsTuple a its.toArray from p) ?_
    exact pi_one (tk := s1.toks) I1 _ (turn_tuple a _) ⟨_, Heap.get?_push_size _ rfl, rfl, rfl⟩ q
  · subst e
    obtain ⟨t, rfl⟩ := r1
    cases ha : y.cps.all (· < 128)
    · exact wpAny_pyIter_wide ha (pi_one (tk := s1.toks) I1 _ (turn_str _ y t "str_iterator" (.inr rfl)) ⟨_, Heap.get?_push_size _ rfl, rfl, rfl⟩ q)
    · exact wpAny_pyIter_ascii ha (pi_one (tk := s1.toks) I1 _ (turn_str _ y t "str_ascii_iterator" (.inl rfl)) ⟨_, Heap.get?_push_size _ rfl, rfl, rfl⟩ q)
theorem itl_ok {p : Addr} {xs : List V} {ds : List D} (hs : ∀ α' H', Step α H α' H' → SqL K H' p xs) (r : RepL K α H ds xs) : ItR K α H ds (Itl K p) := fun α' H' st _ i => by
  have r' := RepL.step st _ _ r
  refine ⟨fun d hd => ?_, fun hl => ⟨xs, hs α' H' st, by rw [← r.length]; exact hl⟩⟩
  obtain ⟨v, hv, rv⟩ := r'.get hd
  refine ⟨⟨xs, v, hs α' H' st, hv⟩, fun x H'' y => ?_⟩
  obtain ⟨rfl, y⟩ := y
  have := y xs (hs α' _ st)
  rw [hv] at this
  cases this
  exact ⟨fun _ _ h => h, rv⟩
theorem itt_ok {p : Addr} {xs : List V} {ds : List D} (hs : ∀ α' H', Step α H α' H' → SqT K H' p xs) (r : RepL K α H ds xs) : ItR K α H ds (Itt K p) := fun α' H' st _ i => by
  have r' := RepL.step st _ _ r
  refine ⟨fun d hd => ?_, fun hl => ⟨xs, hs α' H' st, by rw [← r.length]; exact hl⟩⟩
  obtain ⟨v, hv, rv⟩ := r'.get hd
  refine ⟨⟨xs, v, hs α' H' st, hv⟩, fun x H'' y => ?_⟩
  obtain ⟨rfl, y⟩ := y
  have := y xs (hs α' _ st)
  rw [hv] at this
  cases this
  exact ⟨fun _ _ h => h, rv⟩
theorem its_ok {z : Str} : ItR K α H (z.cps.toList.map fun c => .str ⟨#[c]⟩) (Its z) := fun α' H' st _ i => by
  refine ⟨fun d hd => ?_, fun hl => by show z.cps.size ≤ i; simpa using hl⟩
  rw [List.getElem?_map] at hd
  cases e : z.cps.toList[i]? with
  | none => rw [e] at hd; cases hd
  | some c =>
    rw [e] at hd
    cases hd
    have hi : i < z.cps.size := by simpa using (List.getElem?_eq_some_iff.mp e).1
    refine ⟨hi, fun x H'' y => ?_⟩
    obtain ⟨rfl, c', h1, rfl⟩ := y
    have : z.cps[i]? = some c := by rw [← e]; simp
    rw [this] at h1
    cases h1
    exact ⟨fun _ _ h => h, .str _⟩
theorem r_items {te : TE} {fe : FE} (ha : RE K E te fe) : RI K E (iAny K te) (pItems fe) := fun ρ σ H α M Q e w h =>
  ha ρ σ H α M _ e w (bnd h fun a M1 x α1 H1 _ s1 w1 r1 q => by
    cases a with
    | lst ds =>
      cases r1 with
      | lst t r => exact .inl ⟨_, rfl, ⟨_, t.sq⟩, q.now w1 (itl_ok (fun α' H' st => (t.step st).sq) r)⟩
    | rol ds =>
      cases r1 with
      | rol t r => exact .inl ⟨_, rfl, ⟨_, t.sq⟩, q.now w1 (itl_ok (fun α' H' st => (t.step st).sq) r)⟩
    | tup ds =>
      cases r1 with
      | tup t r => exact .inr (.inl ⟨_, rfl, ⟨_, t.sq⟩, q.now w1 (itt_ok (fun α' H' st => (t.step st).sq) r)⟩)
    | str z =>
      cases r1
      exact .inr (.inr ⟨z, rfl, q.now w1 its_ok⟩)
    | _ => exact q.elim)
def rngD (lo : Int) (n : Nat) : List D := (List.range n).map fun (k : Nat) => .int (lo + (k : Int))
def rngOk (j : Int) : Bool := decide (-4611686018427387904 ≤ j) && decide (j < 4611686018427387904)
theorem rngOk_of {j : Int} (h : rngOk j = true) : -4611686018427387904 ≤ j ∧ j < 4611686018427387904 := by
  unfold rngOk at h
  rw [Bool.and_eq_true, decide_eq_true_eq, decide_eq_true_eq] at h
  exact h
def pRng1 (f : FA) : FA := fun ρ M => (f ρ M).bind fun as M1 => match as with
  | [.int j] => if rngOk j = true then .ok (rngD 0 j.toNat) M1 else .bad
  | _ => .bad
def pRng2 (f : FA) : FA := fun ρ M => (f ρ M).bind fun as M1 => match as with
  | [.int i, .int j] => if (rngOk i && rngOk j) = true then .ok (rngD i (j - i).toNat) M1 else .bad
  | _ => .bad
theorem itr_ok {lo : Int} {n : Nat} : ItR K α H (rngD lo n) (Itr lo n) := fun α' H' st _ i => by
  unfold rngD
  refine ⟨fun d hd => ?_, fun hl => by show n ≤ i; simpa using hl⟩
  rw [List.getElem?_map] at hd
  by_cases hi : i < n
  · rw [List.getElem?_range hi] at hd
    cases hd
    refine ⟨hi, fun x H'' y => ?_⟩
    obtain ⟨rfl, rfl⟩ := y
    exact ⟨fun _ _ h => h, .int _⟩
  · rw [List.getElem?_eq_none (by simpa using hi)] at hd
    cases hd
theorem r_rng1 {ta : TA} {fa : FA} (ha : RA K E ta fa) : RI K E (iRng1 ta) (pRng1 fa) := fun ρ σ H α M Q e w h =>
  ha ρ σ H α M _ e w (bnd h fun as M1 xs α1 H1 _ s1 w1 r1 q => by
    split at q
    · obtain ⟨x, rfl, r⟩ := rep1 r1
      cases r
      obtain ⟨hj, q⟩ := ifb q
      obtain ⟨h1, h2⟩ := rngOk_of hj
      exact ⟨_, rfl, h1, h2, q.now w1 itr_ok⟩
    · exact q.elim)
theorem r_rng2 {ta : TA} {fa : FA} (ha : RA K E ta fa) : RI K E (iRng2 ta) (pRng2 fa) := fun ρ σ H α M Q e w h =>
  ha ρ σ H α M _ e w (bnd h fun as M1 xs α1 H1 _ s1 w1 r1 q => by
    split at q
    · obtain ⟨x, y, rfl, r, r'⟩ := rep2 r1
      cases r
      cases r'
      obtain ⟨hj, q⟩ := ifb q
      rw [Bool.and_eq_true] at hj
      obtain ⟨h1, h2⟩ := rngOk_of hj.1
      obtain ⟨h3, h4⟩ := rngOk_of hj.2
      exact ⟨_, _, rfl, ⟨h1, h2, h3, h4⟩, q.now w1 itr_ok⟩
    · exact q.elim)
section
variable {X : Cx} {e a b tg : Expr} {fe : FE} {pos p : Pos}
theorem pdi_any (he : PD X E e fe) : PDI X E tg e (pItems fe) := by
  obtain ⟨t, h, r⟩ := he
  exact ⟨_, pi_any h, r_items r⟩
theorem pdi_rng1 {fa : FA} (hg : Gl X "range") (hm : X.mg "range" = none) (ha : PDA X E [a] fa) (hs : starEach [a] X.env = [(false, eval a X.env)] := by rfl) : PDI X E tg (.Call (.Name "range" p) [a] [] pos) (pRng1 fa) := by
  obtain ⟨t, h, r⟩ := ha
  exact ⟨_, pi_range1 hg hm h hs, r_rng1 r⟩
theorem pdi_rng2 {fa : FA} (hg : Gl X "range") (hm : X.mg "range" = none) (ha : PDA X E [a, b] fa) (hs : starEach [a, b] X.env = [(false, eval a X.env), (false, eval b X.env)] := by rfl) (hs2 : starEach [b] X.env = [(false, eval b X.env)] := by rfl) : PDI X E tg (.Call (.Name "range" p) [a, b] [] pos) (pRng2 fa) := by
  obtain ⟨t, h, r⟩ := ha
  exact ⟨_, pi_range2 hg hm h hs hs2, r_rng2 r⟩
end
end
end Pd

set_option Elab.async false
set_option linter.all false
set_option maxRecDepth 100000
set_option maxHeartbeats 1000000
namespace Pd
open PySem L2 PyProof.Rows

/-! ### the widest reading of a function -/
section
variable {K : PySem.W.Frag} {E : XK} {X : Cx}
def canE (K : PySem.W.Frag) (E : XK) (f : FE) : TE := fun σ H Q => ∃ ρ α M, EnvR K α H ρ σ ∧ Wd K α M H ∧ Post (Rep K) K α H Q E (f ρ M)
def canT (K : PySem.W.Frag) (E : XK) (f : FT) : TT := fun σ H Q => ∃ ρ α M, EnvR K α H ρ σ ∧ Wd K α M H ∧ Post (fun _ _ a b => a = b) K α H Q E (f ρ M)
theorem canE_r {f : FE} : RE K E (canE K E f) f := fun ρ σ H α M Q e w h => ⟨ρ, α, M, e, w, h⟩
theorem canT_r {f : FT} : RT K E (canT K E f) f := fun ρ σ H α M Q e w h => ⟨ρ, α, M, e, w, h⟩
theorem PD.can {e : Expr} {f : FE} (h : PD X E e f) : PE X e (canE X.K E f) := by
  obtain ⟨t, h, r⟩ := h
  exact ⟨fun pins s σ H Q I ⟨ρ, α, M, e, w, q⟩ => h.run pins s σ H Q I (r ρ σ H α M Q e w q)⟩
theorem PDT.can {e : Expr} {f : FT} (h : PDT X E e f) : PT X e (canT X.K E f) := by
  obtain ⟨t, h, r⟩ := h
  exact ⟨fun pins s σ H Q I ⟨ρ, α, M, e, w, q⟩ => h.run pins s σ H Q I (r ρ σ H α M Q e w q)⟩

/-! ### list comprehensions -/
def wipeR (ρ : Rho) : List Nat → Rho
  | [] => ρ
  | v :: vs => (wipeR ρ vs).set v none
theorem EnvR.wipe {α : List Addr} {H : Hp} {ρ : Rho} {σ : L2.St} (e : EnvR K α H ρ σ) : ∀ vs, EnvR K α H (wipeR ρ vs) (wipe σ vs)
  | [] => e
  | v :: vs => by
    have ih := EnvR.wipe e vs
    unfold wipeR L2.wipe
    refine ⟨by rw [List.length_set, List.length_set]; exact ih.1, fun j d h => ?_⟩
    by_cases hj : v = j
    · subst hj
      by_cases hl : v < (wipeR ρ vs).length
      · rw [List.getElem?_set_self hl] at h
        cases h
      · rw [List.set_eq_of_length_le (by omega)] at h
        exact absurd (List.getElem?_eq_some_iff.mp h).1 hl
    · rw [List.getElem?_set_ne hj] at h
      obtain ⟨w, h1, h2⟩ := ih.2 j d h
      exact ⟨w, by rw [List.getElem?_set_ne hj]; exact h1, h2⟩
theorem wipe_set {j : Nat} {v : Option V} : ∀ {vs : List Nat} {σ : L2.St}, j ∈ vs → wipe (σ.set j v) vs = wipe σ vs
  | [], _, h => by cases h
  | w :: vs, σ, h => by
    unfold wipe
    by_cases hm : j ∈ vs
    · rw [wipe_set hm]
    · have hw : j = w := by
        rcases List.mem_cons.mp h with e | e
        · exact e
        · exact absurd e hm
      subst hw
      have : ∀ {us : List Nat} {τ : L2.St}, j ∉ us → wipe (τ.set j v) us = (wipe τ us).set j v := by
        intro us
        induction us with
        | nil => intro τ _; rfl
        | cons u us ih =>
          intro τ hn
          unfold wipe
          rw [ih (fun z => hn (List.mem_cons_of_mem _ z)), List.set_comm _ _ (fun z => hn (by rw [z]; exact List.mem_cons_self ..))]
      rw [this hm, List.set_set]
theorem wipe_wipe (σ : L2.St) : ∀ vs us : List Nat, (∀ v ∈ us, v ∈ vs) → wipe (wipe σ us) vs = wipe σ vs
  | vs, [], _ => rfl
  | vs, u :: us, h => by
    show wipe ((wipe σ us).set u none) vs = _
    rw [wipe_set (h u (List.mem_cons_self ..)), wipe_wipe σ vs us fun v hv => h v (List.mem_cons_of_mem _ hv)]
def OnlyIn (vs : List Nat) (g : TG) : Prop := ∀ v σ H Q, g v σ H Q → g v σ H fun σ2 H2 => wipe σ2 vs = wipe σ vs ∧ Q σ2 H2
def gNames : List Nat → TGs
  | [] => gNil
  | j :: js => gCons (gName j) (gNames js)
def fNames : List Nat → FGs
  | [] => fNil
  | j :: js => fCons (fName j) (fNames js)
theorem only_name {vs : List Nat} {j : Nat} (h : j ∈ vs) : OnlyIn vs (gName j) := fun v σ H Q q => ⟨wipe_set h, q⟩
theorem only_names {vs : List Nat} : ∀ {js : List Nat}, (∀ j ∈ js, j ∈ vs) → ∀ xs σ H (Q : L2.St → Hp → Prop), gNames js xs σ H Q → gNames js xs σ H fun σ2 H2 => wipe σ2 vs = wipe σ vs ∧ Q σ2 H2
  | [], _, xs, σ, H, Q, ⟨e, q⟩ => ⟨e, rfl, q⟩
  | j :: js, h, xs, σ, H, Q, ⟨v, r, e, q⟩ => by
    refine ⟨v, r, e, ?_⟩
    have ih := only_names (js := js) (fun k hk => h k (List.mem_cons_of_mem _ hk)) r (σ.set j (some v)) H Q q
    rw [wipe_set (h j (List.mem_cons_self ..))] at ih
    exact ih
theorem only_tup {vs js : List Nat} {n : Nat} (h : ∀ j ∈ js, j ∈ vs) : OnlyIn vs (gTup K n (gNames js)) := fun v σ H Q ⟨a, xs, e, t, l, q⟩ => ⟨a, xs, e, t, l, only_names h xs σ H Q q⟩
theorem g_names : ∀ {js : List Nat}, RGs K E (gNames js) (fNames js)
  | [] => g_nil
  | _ :: _ => g_cons g_name g_names
def lcPut (n : Nat) (y : D) (M : PM) : Out Unit := match M[n]? with
  | some (.lst acc) => if acc.length < line then .ok () (M.set n (.lst (acc ++ [y]))) else .bad
  | _ => .bad
def lcEnd (n : Nat) (M : PM) : Out D := match M[n]? with
  | some (.lst acc) => if M.length = n + 1 ∧ clL n acc = true ∧ (M.take n).all (clMO n) = true then .ok (.lst acc) (M.take n) else .bad
  | _ => .bad
def lcFrom (n : Nat) (g : FG) (t : FT) (f : FE) (ρ0 : Rho) : List D → PM → Out D
  | [], M => lcEnd n M
  | d :: ds, M => (g d ρ0 M).bind fun ρ1 M1 => (t ρ1 M1).bind fun b M2 => if b = true then (f ρ1 M2).bind fun y M3 => (lcPut n y M3).bind fun _ M4 => lcFrom n g t f ρ0 ds M4 else lcFrom n g t f ρ0 ds M2
def pLc (w : FA) (g : FG) (t : FT) (f : FE) (vs : List Nat) : FE := fun ρ M => (w ρ M).bind fun ds M1 => lcFrom M1.length g t f (wipeR ρ vs) ds (M1 ++ [.lst []])
def pYes : FT := fun _ M => .ok true M
/-- the chain, what is wanted still told from an earlier moment -/
theorem bndB {A B A' B' : Type} {R : List Addr → Hp → A → B → Prop} {R' : List Addr → Hp → A' → B' → Prop} {α0 α : List Addr} {H0 H : Hp} {M : PM} {Q : B' → Hp → Prop} {o : Out A} {g : A → PM → Out A'} {C : B → Hp → Prop}
    (hp : Post R' K α0 H0 Q E (o.bind g)) (s0 : Step α0 H0 α H) (w0 : Wd K α M H) (k : ∀ a M' b α' H', o = .ok a M' → Step α H α' H' → Wd K α' M' H' → R α' H' a b → Post R' K α0 H0 Q E (g a M') → C b H') : Post R K α H C E o := by
  cases o with
  | ok a M' => exact fun b α' H' s w r => k a M' b α' H' rfl s w r hp
  | exn c fs M' => exact fun od α' H' s w r => hp od α' H' (s0.tr w0 s) w r
  | bad => exact hp
theorem r_lc {wi : TI} {g : TG} {tt : TT} {te : TE} {vs : List Nat} {fw : FA} {fg : FG} {ft : FT} {fe : FE} (hi : RI K E wi fw) (hg : RG K E g fg) (ho : OnlyIn vs g) (ht : RT K E tt ft) (he : RE K E te fe) : RE K E (tLc wi g tt te vs) (pLc fw fg ft fe vs) := fun ρ σ H α M Q e w h =>
  hi ρ σ H α M _ e w (bnd h fun ds M1 J α1 H1 _ s1 w1 r1 h1 => by
    intro D hD
    obtain ⟨wb, sb⟩ := w1.new (m := .lst []) (o := .lst []) hD fun H' st e => ⟨[], e, .nil⟩
    have e1 := (e.step s1).wipe vs
    have hDn : (α1 ++ [D])[M1.length]? = some D := by rw [← w1.len, List.getElem?_append_right (Nat.le_refl _), Nat.sub_self]; rfl
    refine ⟨fun i m H => m = ds.length - i ∧ ∃ α M, Wd K α M H ∧ Step α1 H1 α H ∧ α[M1.length]? = some D ∧ Post (Rep K) K α1 H1 Q E (lcFrom M1.length fg ft fe (wipeR ρ vs) (ds.drop i) M), ⟨ds.length, by simp, _, _, wb, sb, hDn, h1⟩, ?_⟩
    rintro i m H2 ⟨rfl, α2, M2, w2, s2, hn2, h2⟩
    obtain ⟨go, stop⟩ := r1 α2 H2 s2 (fun _ h => w2.there h) i
    by_cases hi : i < ds.length
    · refine .inr ?_
      rw [List.drop_eq_getElem_cons hi] at h2
      obtain ⟨g1, y1⟩ := go ds[i] (List.getElem?_eq_getElem hi)
      refine ⟨g1, fun H => ∃ α M, Wd K α M H ∧ Step α1 H1 α H ∧ α[M1.length]? = some D ∧ Post (Rep K) K α1 H1 Q E (lcFrom M1.length fg ft fe (wipeR ρ vs) (ds.drop (i + 1)) M), fun H' z => ⟨ds.length - (i + 1), by omega, rfl, z⟩, fun x H3 y => ?_⟩
      obtain ⟨x3, r3⟩ := y1 x H3 y
      have s3 : Step α2 H2 α2 H3 := Step.ex x3
      have w3 := w2.ex x3
      have st3 := s2.tr w2 s3
      have go2 := ho x (wipe σ vs) H3 _ (hg (wipeR ρ vs) (wipe σ vs) H3 α2 M2 ds[i] x (fun σ2 H2 => tt σ2 H2 fun b H3 => if b = true then te σ2 H3 fun y H4 => ∃ acc, H4 D = some (.lst acc) ∧ acc.length < sizeLine ∧ (∃ α M, Wd K α M (upd H4 D (.lst (acc ++ [y]))) ∧ Step α1 H1 α (upd H4 D (.lst (acc ++ [y]))) ∧ α[M1.length]? = some D ∧ Post (Rep K) K α1 H1 Q E (lcFrom M1.length fg ft fe (wipeR ρ vs) (ds.drop (i + 1)) M)) else (∃ α M, Wd K α M H3 ∧ Step α1 H1 α H3 ∧ α[M1.length]? = some D ∧ Post (Rep K) K α1 H1 Q E (lcFrom M1.length fg ft fe (wipeR ρ vs) (ds.drop (i + 1)) M))) (e1.step st3) w3 r3 ?_)
      · rw [wipe_wipe σ vs vs fun _ h => h] at go2
        exact go2
      · have pf : ∀ {α α' : List Addr} {H H' : Hp}, α[M1.length]? = some D → Step α H α' H' → α'[M1.length]? = some D := fun {α α' H H'} h s => by
          obtain ⟨β, rfl, _⟩ := s.ext
          rw [List.getElem?_append_left (List.getElem?_eq_some_iff.mp h).1]
          exact h
        refine bndB (h2 : Post (Rep K) K α1 H1 Q E ((fg ds[i] (wipeR ρ vs) M2).bind _)) st3 w3 fun ρ4 M4 σ4 α4 H4 _ s4 w4 r4 h4 => ?_
        have st4 := st3.tr w3 s4
        have hn4 := pf hn2 s4
        refine ht ρ4 σ4 H4 α4 M4 _ r4 w4 (bndB h4 st4 w4 fun b M5 b' α5 H5 _ s5 w5 r5 h5 => ?_)
        subst r5
        have st5 := st4.tr w4 s5
        have hn5 := pf hn4 s5
        cases b with
        | false => rw [if_neg Bool.false_ne_true] at h5 ⊢; exact ⟨α5, M5, w5, st5, hn5, h5⟩
        | true =>
          rw [if_pos rfl] at h5 ⊢
          refine he ρ4 σ4 H5 α5 M5 _ (r4.step s5) w5 (bndB h5 st5 w5 fun y M6 v α6 H6 _ s6 w6 r6 h6 => ?_)
          have st6 := st5.tr w5 s6
          have hn6 := pf hn5 s6
          unfold lcPut at h6
          split at h6
          · rename_i acc hm
            obtain ⟨a', ea, vs', ev, rv⟩ := w6.ob _ _ hm
            rw [hn6] at ea
            cases ea
            split at h6
            · rename_i hl
              have hl' : acc.length < sizeLine := by rw [← line_eq]; exact hl
              obtain ⟨w7, s7⟩ := w6.put (m := .lst (acc ++ [y])) (o := .lst (vs' ++ [v])) hn6 (List.getElem?_eq_some_iff.mp hm).1 fun H' st e => ⟨_, e, RepL.step st _ _ (rv.append (.cons r6 .nil))⟩
              exact ⟨vs', ev, by rw [← rv.length]; exact hl', α6, _, w7, st6.tr w6 s7, hn6, h6⟩
            · exact h6.elim
          · exact h6.elim
    · rw [List.drop_eq_nil_of_le (by omega)] at h2
      refine .inl ⟨stop (by omega), ?_⟩
      have h2' : Post (Rep K) K α1 H1 Q E (lcEnd M1.length M2) := h2
      unfold lcEnd at h2'
      split at h2'
      · rename_i acc hm
        obtain ⟨⟨c1, c2, c3⟩, h3⟩ := ifb h2'
        obtain ⟨a', ea, vs', ev, rv⟩ := w2.ob _ _ hm
        rw [hn2] at ea
        cases ea
        have hlen : (M2.take M1.length).length = M1.length := by rw [List.length_take]; omega
        have eM : M2 = M2.take M1.length ++ M2.drop M1.length := (List.take_append_drop _ _).symm
        have wt : Wd K (α2.take (M2.take M1.length).length) (M2.take M1.length) H2 := by
          refine Wd.trim (junk := M2.drop M1.length) (by rw [← eM]; exact w2) fun m hmm => ?_
          rw [hlen]
          exact List.all_eq_true.mp c3 m hmm
        rw [hlen] at wt
        have stt : Step α1 H1 (α2.take M1.length) H2 := s2.trim (by rw [w1.len]; exact Nat.le_refl _)
        refine h3 _ _ _ stt wt (.lst ⟨ev, fun z => ?_⟩ (RepL.trim _ _ _ c2 rv))
        obtain ⟨j, hj, e4⟩ := List.mem_iff_getElem.mp z
        rw [List.getElem_take] at e4
        rw [List.length_take] at hj
        obtain ⟨hi', e5⟩ := List.getElem?_eq_some_iff.mp hn2
        have := (List.getElem_inj w2.nd).mp (e4.trans e5.symm)
        omega
      · exact h2'.elim)
end
section
variable {X : Cx} {E : XK} {elt iter c : Expr} {ifs : List Expr} {scope : Scope} {own : List (Str × Nat)} {pos px spos py : Pos} {x y : Str} {fw : FA} {ft : FT} {fe : FE} {i j : Nat}
/-- [elt for x in iter if c], a name the target; hx: the name's place -/
theorem pd_lc (hc : X.calm = true) (hN : X.N.Nodup) (hi : PDI X E (.Name x px) iter fw) (ok : BlkOk X.N X.env.scope scope own) (hj : j ∈ own.map (·.2))
    (hg : ∀ (s : Shared) (H : Hp) (C : Addr) (cl : List (Str × Addr)) (fp : List Addr), PG (X.blk s H scope (compEnvC scope cl C X.env) fp) (.Name x px) (gName j))
    (he : ∀ (s : Shared) (H : Hp) (C : Addr) (cl : List (Str × Addr)) (fp : List Addr), PD (X.blk s H scope (compEnvC scope cl C X.env) fp) E elt fe) (hs : ∀ x, foldedSetIterable iter X.env x = pure x := by intro _; rfl) :
    PD X E (.ListComp elt [⟨.Name x px, iter, [], 0⟩] scope pos) (pLc fw (fName j) pYes fe (own.map (·.2))) := by
  obtain ⟨ti, hi, ri⟩ := hi
  exact ⟨_, pe_lc (te := canE X.K E fe) hc hN hi ok hg (fun _ _ _ _ _ => pts_nil) (fun s H C cl fp => (he s H C cl fp).can) hs, r_lc ri g_name (only_name hj) (fun ρ σ H α M Q e w h => h.now w rfl) canE_r⟩
theorem pd_lcIf (hc : X.calm = true) (hN : X.N.Nodup) (hi : PDI X E (.Name x px) iter fw) (ok : BlkOk X.N X.env.scope scope own) (hj : j ∈ own.map (·.2))
    (hg : ∀ (s : Shared) (H : Hp) (C : Addr) (cl : List (Str × Addr)) (fp : List Addr), PG (X.blk s H scope (compEnvC scope cl C X.env) fp) (.Name x px) (gName j))
    (ht : ∀ (s : Shared) (H : Hp) (C : Addr) (cl : List (Str × Addr)) (fp : List Addr), PDT (X.blk s H scope (compEnvC scope cl C X.env) fp) E c ft)
    (he : ∀ (s : Shared) (H : Hp) (C : Addr) (cl : List (Str × Addr)) (fp : List Addr), PD (X.blk s H scope (compEnvC scope cl C X.env) fp) E elt fe) (hs : ∀ x, foldedSetIterable iter X.env x = pure x := by intro _; rfl) :
    PD X E (.ListComp elt [⟨.Name x px, iter, [c], 0⟩] scope pos) (pLc fw (fName j) ft fe (own.map (·.2))) := by
  obtain ⟨ti, hi, ri⟩ := hi
  exact ⟨_, pe_lc (te := canE X.K E fe) hc hN hi ok hg (fun s H C cl fp => pts_one (ht s H C cl fp).can) (fun s H C cl fp => (he s H C cl fp).can) hs, r_lc ri g_name (only_name hj) canT_r canE_r⟩
end

/-! ### methods -/
def pM1 (g : PM → D → D → Out D) (fo fe : FE) : FE := pOp g fo fe
def strL : List D → Option (List Str)
  | [] => some []
  | .str z :: r => (strL r).map (z :: ·)
  | _ => none
def mSplit : PM → D → D → Out D := fun M a b => match a, b with
  | .str x, .str y => if (y.length == 0) = false ∧ x.length + 2 ≤ line then .ok (.lst ((Txt.split x y).map .str)) M else .bad
  | _, _ => .bad
def mJoin : PM → D → D → Out D := fun M a b => match a, seqOf M b with
  | .str x, some ds => match strL ds with
    | some ys => if (ys.map (·.length)).sum + ys.length * x.length ≤ line then .ok (.str (Txt.join x ys)) M else .bad
    | none => .bad
  | _, _ => .bad
def isS : D → Bool
  | .str _ => true
  | _ => false
def gS (g : PM → D → D → Out D) : PM → D → D → Out D := fun M a b => if isS a = true then g M a b else .bad
def MtD (K : PySem.W.Frag) (E : XK) (r : V → List V → Hp → VK → Prop) (g : PM → D → D → Out D) : Prop :=
  ∀ α H M a b x y Q, Wd K α M H → Rep K α H a x → Rep K α H b y → Post (Rep K) K α H Q E (g M a b) → r x [y] H Q
section
variable {K : PySem.W.Frag} {E : XK} {to te : TE} {fo fe : FE}
/-- the receiver is a text -/
def pMS (g : PM → D → D → Out D) (fo fe : FE) : FE := fun ρ M => (fo ρ M).bind fun a M1 => if isS a = true then (fe ρ M1).bind fun b M2 => g M2 a b else .bad
theorem r_m1 {r : V → List V → Hp → VK → Prop} {g : PM → D → D → Out D} (ho : RE K E to fo) (he : RE K E te fe) (hm : MtD K E r g) : RE K E (tM1 r to te) (pMS g fo fe) := fun ρ σ H α M Q e w h =>
  ho ρ σ H α M _ e w (bnd h fun a M1 x α1 H1 _ s1 w1 r1 h1 => by
    obtain ⟨ha, h1⟩ := ifb h1
    cases a with
    | str z =>
      cases r1
      exact ⟨⟨z, rfl⟩, he ρ σ H1 α1 M1 _ (e.step s1) w1 (bnd h1 fun b M2 y α2 H2 _ s2 w2 r2 h2 => hm α2 H2 M2 _ b _ y Q w2 (.str z) r2 h2)⟩
    | _ => exact absurd (show false = true from ha) Bool.false_ne_true)
theorem repL_strs {α : List Addr} {H : Hp} : ∀ ys : List Str, RepL K α H (ys.map .str) (ys.map V.str)
  | [] => .nil
  | y :: ys => .cons (.str y) (repL_strs ys)
theorem strL_rep {α : List Addr} {H : Hp} : ∀ {ds : List D} {xs : List V} {ys : List Str}, RepL K α H ds xs → strL ds = some ys → xs = ys.map V.str
  | [], _, _, .nil, e => by cases e; rfl
  | d :: ds, _, ys, .cons r t, e => by
    cases d with
    | str z =>
      unfold strL at e
      cases q : strL ds with
      | none => rw [q] at e; cases e
      | some zs =>
        rw [q] at e
        cases e
        cases r
        rw [strL_rep t q]
        rfl
    | _ => cases e
theorem md_split : MtD K E (fun x xs H Q => ∃ a b, x = .str a ∧ xs = [.str b] ∧ (b.length == 0) = false ∧ a.length + 2 ≤ sizeLine ∧ rNewStrs (Txt.split a b) H Q) mSplit := fun α H M a b x y Q w ra rb q => by
  unfold mSplit at q
  split at q
  · cases ra
    cases rb
    obtain ⟨⟨h1, h2⟩, q⟩ := ifb q
    rw [line_eq] at h2
    exact ⟨_, _, rfl, rfl, h1, h2, fun p hp => q.nowX w (ex_new hp) (new_lst w hp (repL_strs _))⟩
  · exact q.elim
theorem md_join : MtD K E (fun x xs H Q => ∃ a p, ∃ ys : List Str, x = .str a ∧ xs = [.ref p] ∧ (SqL K H p (ys.map V.str) ∨ SqT K H p (ys.map V.str)) ∧ (ys.map (·.length)).sum + ys.length * a.length ≤ 16777216 ∧ Q (.str (Txt.join a ys)) H) mJoin := fun α H M a b x y Q w ra rb q => by
  unfold mJoin at q
  split at q
  · rename_i z ds hd
    cases ra
    obtain ⟨p, xs, rfl, hs, rs⟩ := seq_ok w rb hd
    split at q
    · rename_i ys hy
      obtain ⟨h1, q⟩ := ifb q
      have ex := strL_rep rs hy
      subst ex
      exact ⟨_, p, ys, rfl, rfl, hs, h1, q.now w (.str _)⟩
    · exact q.elim
  · exact q.elim
/-- xs.append(e), xs a list that changes -/
def isA (M : PM) : D → Bool
  | .adr k => match M[k]? with | some (.lst _) => true | _ => false
  | _ => false
def pApp (fo fe : FE) : FE := fun ρ M => (fo ρ M).bind fun o M1 => if isA M1 o = true then (fe ρ M1).bind fun d M2 => match o with
  | .adr k => match M2[k]? with
    | some (.lst ds) => if ds.length < line then .ok .non (M2.set k (.lst (ds ++ [d]))) else .bad
    | _ => .bad
  | _ => .bad else .bad
theorem r_app (ho : RE K E to fo) (he : RE K E te fe) : RE K E (tBM K "list" rAppend to (tCons te tNil)) (pApp fo fe) := fun ρ σ H α M Q e w h =>
  ho ρ σ H α M _ e w (bnd h fun o M1 x α1 H1 _ s1 w1 r1 h1 => by
    obtain ⟨ha, h1⟩ := ifb h1
    cases o with
    | adr k =>
      cases r1 with
      | @adr _ a ea =>
        have hty : tyV K "list" (.ref a) H1 := by
          have ha' : (match M1[k]? with | some (.lst _) => true | _ => false) = true := ha
          split at ha'
          · rename_i ds hm
            obtain ⟨a', e1, vs, e2, _⟩ := w1.ob _ _ hm
            rw [ea] at e1
            cases e1
            exact .inl ⟨rfl, _, .of e2⟩
          · exact absurd ha' Bool.false_ne_true
        refine ⟨hty, he ρ σ H1 α1 M1 _ (e.step s1) w1 (bnd h1 fun d M2 y α2 H2 _ s2 w2 r2 h2 => ?_)⟩
        have ea2 : α2[k]? = some a := by
          obtain ⟨β, rfl, _⟩ := s2.ext
          rw [List.getElem?_append_left (List.getElem?_eq_some_iff.mp ea).1]
          exact ea
        have h3 : Post (Rep K) K α2 H2 Q E (match M2[k]? with | some (.lst ds) => if ds.length < line then .ok .non (M2.set k (.lst (ds ++ [d]))) else .bad | _ => .bad) := h2
        split at h3
        · rename_i ds hm
          obtain ⟨hl, h4⟩ := ifb h3
          obtain ⟨a', e1, vs, e2, e3⟩ := w2.ob _ _ hm
          rw [ea2] at e1
          cases e1
          obtain ⟨w3, s3⟩ := w2.put (m := .lst (ds ++ [d])) (o := .lst (vs ++ [y])) ea2 (List.getElem?_eq_some_iff.mp hm).1 fun H' st e => ⟨_, e, RepL.step st _ _ (e3.append (.cons r2 .nil))⟩
          exact ⟨_, vs, y, rfl, rfl, e2, by rw [← e3.length, ← line_eq]; exact hl, h4 _ _ _ s3 w3 .non⟩
        · exact h3.elim
    | _ => exact absurd (show false = true from ha) Bool.false_ne_true)
end
section
variable {X : Cx} {E : XK} {o e : Expr} {fo fe : FE} {apos pos cpos : Pos}
theorem pd_split (ho : PD X E o fo) (he : PD X E e fe) (hs : starEach [e] X.env = [(false, eval e X.env)] := by rfl) (hbase : attributeBase o "split" X.env (eval o X.env) = eval o X.env := by rfl) (hline : (apos.endLine == pos.line) = true := by rfl) :
    PD X E (.Call (.Attribute o "split" apos) [e] [] pos) (pMS mSplit fo fe) := by
  obtain ⟨t, ho, r⟩ := ho
  obtain ⟨u, he, q⟩ := he
  exact ⟨_, pe_split ho he hs hbase hline, r_m1 r q md_split⟩
theorem pd_join (ho : PD X E o fo) (he : PD X E e fe) (hs : starEach [e] X.env = [(false, eval e X.env)] := by rfl) (hbase : attributeBase o "join" X.env (eval o X.env) = eval o X.env := by rfl) (hline : (apos.endLine == pos.line) = true := by rfl) :
    PD X E (.Call (.Attribute o "join" apos) [e] [] pos) (pMS mJoin fo fe) := by
  obtain ⟨t, ho, r⟩ := ho
  obtain ⟨u, he, q⟩ := he
  exact ⟨_, pe_join ho he hs hbase hline, r_m1 r q md_join⟩
theorem pd_append (ho : PD X E o fo) (he : PD X E e fe) (hbase : attributeBase o "append" X.env (eval o X.env) = eval o X.env := by rfl)
    (hfew : ((backTo cpos (starEach [e] X.env)).all (fun x => !x.1) && (backToKw cpos (keywordEach [] X.env)).all (fun x => x.1.isSome)
      && decide (([e] : List Expr).length + ([] : List Keyword).length + (if ([] : List Keyword).isEmpty then 0 else 1) < 30)) = true := by rfl)
    (hline : (apos.endLine == cpos.line) = true := by rfl) (hs : starEach [e] X.env = (false, eval e X.env) :: starEach [] X.env := by rfl) (hplain : (backTo cpos (starEach [] X.env)).any (·.1) = false := by rfl) :
    PD X E (.Call (.Attribute o "append" apos) [e] [] cpos) (pApp fo fe) := by
  obtain ⟨t, ho, r⟩ := ho
  obtain ⟨u, he, q⟩ := he
  exact ⟨_, pe_bm PySem.F.plainAttrs_list PySem.F.slot_list_append PySem.F.type_list_append mt_append ho (pa_cons he pa_nil hs) hbase hfew hline hs hplain, r_app r q⟩
end

/-! ### a += at a name; the law's end -/
section
variable {X : Cx} {E : XK} {x : Str} {e : Expr} {fe : FE} {pos pos' : Pos}
theorem r_aug {K : PySem.W.Frag} {i : Nat} {te : TE} {ti : TIp} {g : PM → D → D → Out D} (he : RE K E te fe) (hg : ∀ α H M a b x y Q, Wd K α M H → Rep K α H a x → Rep K α H b y → Post (Rep K) K α H Q E (g M a b) → ti x y H Q) : RS K E (tAug i te ti) (sAug i fe g) := fun ρ σ H α M D e w h => by
  unfold sAug at h
  split at h
  · rename_i a ha
    obtain ⟨x, h1, h2⟩ := e.2 i a ha
    refine ⟨x, h1, he ρ σ H α M _ e w (bnd h fun b M1 y α1 H1 _ s1 w1 r1 q => ?_)⟩
    exact hg α1 H1 M1 a b x y _ w1 (Rep.step s1 _ _ h2) r1 (bnd q fun z M2 v α2 H2 _ s2 w2 r2 q2 => q2.now (b := FlV.nx (σ.set i (some v))) w2 (((e.step s1).step s2).set r2))
  · exact h.elim
theorem pds_aug (i : Nat) {op : Operator} {f : Int → Int → Int} (ho : PIp X op (ipI f)) (he : PD X E e fe) (hN : X.N.Nodup) (hi : X.N[i]? = some x := by rfl) (hx : Loc X.env.scope x := by first | exact Or.inl rfl | exact Or.inr rfl)
    (hf : X.fn x = true ∨ X.env.scope.names.lookup x = some .local := by first | exact .inl rfl | exact .inr rfl | assumption) : PDS X E (.AugAssign (.Name x pos') op e pos) (sAug i fe (gII cTrue fun a b => .int (f a b))) := by
  obtain ⟨t, he, r⟩ := he
  refine ⟨_, ps_aug hN hi hx he ho hf, r_aug r fun α H M a b x y Q w ra rb q => ?_⟩
  unfold gII at q
  split at q
  · cases ra
    cases rb
    obtain ⟨_, q⟩ := ifb q
    exact ⟨_, _, rfl, rfl, q.now w (.int _)⟩
  · exact q.elim
end
theorem repL_ints {K : PySem.W.Frag} {α : List Addr} {H : Hp} : ∀ ns : List Int, RepL K α H (ns.map .int) (ns.map V.int)
  | [] => .nil
  | y :: ys => .cons (.int y) (repL_ints ys)
theorem law_sp {K : PySem.W.Frag} {Φ : List D → PM → Out D} {H : Hp} {a : Addr} {ns : List Int} (hS : SqL K H a (ns.map V.int)) (hΦ : ∃ M, Φ [.rol (ns.map .int)] [] = .ok (.bl true) M) : spP K Φ [.ref a] H (fun v _ => v = .bl true) fun _ _ _ => False := by
  obtain ⟨M, hM⟩ := hΦ
  refine ⟨_, [], [], ⟨List.nodup_nil, rfl, fun i m e => by simp at e⟩, .cons (.rol (ds := ns.map .int) ?_ (repL_ints ns)) .nil, ?_⟩
  · rcases hS with h | h
    · exact .inl ⟨h, by simp⟩
    · exact .inr (.inr h)
  · rw [hM]
    intro v α' H' _ _ r
    cases r
    rfl
theorem walk {l : PySem.W.OpenLaw} {k : Nat} {q : Program} {loose : List Str} {XP : (Str → Option Value) → Heap → Prop} {YP : World → Heap → Prop} {d : DefRec} {K : Params → PySem.W.Frag} {Φ : List D → PM → Out D} (hn : l.most = some 63) (hdf : d.params.defaults = []) (hr : Room k callerA)
    (hY : ∀ (w : World) (h : Heap), YP w h → (K w.params).In h) (hΦ : ∀ ns : List Int, ns.length ≤ 63 → ∃ M, Φ [.rol (ns.map .int)] [] = .ok (.bl true) M)
    (F : ∀ (w : World) (mg : Str → Option Value) (fa : Addr) (h : Heap), (K w.params).In h → h.Ns mainGlobals mg → mg d.name = some (.ref fa) →
      ∃ fd : FuncData, (∀ (s : Shared) (u : Value), BindsTo s fd ⟨[u], []⟩ [("script", u)]) ∧ ∀ base : Heap, (K w.params).In base → base.Ns mainGlobals mg → FnOk l.prog w (K w.params) mg base CX0 k fa fd ["script"] (spP (K w.params) Φ)) :
    PySem.W.WalkO q loose XP YP l.row.toRowW d [] (fun f vs => PySem.call f vs) :=
  L2.walk_of (n := 63) (k := k) (x := "script") (CX := fun _ => CX0) (sp := fun w => spP (K w.params) Φ) hn (by decide) hdf hr hY F (fun _ _ a ns hl _ hS => law_sp hS (hΦ ns hl)) fun _ _ _ _ _ z => z
end Pd
namespace Pd
open PySem L2 PyProof.Rows
/-! ### what the top has left, in short -/
/-- a def of the module as it stands behind the top -/
structure FunM (K : PySem.W.Frag) (mg : Str → Option Value) (x : Str) (st : Stmt) (ps : List Str) : Prop where
  ex : ∃ f fd, Fun K x x st f fd ∧ mg x = some (.ref f) ∧ ∀ us : List Value, us.length = ps.length → bindArgs fd ⟨us, []⟩ = pure (ps.zip us)
/-- .. keeps the promise Φ, by level k -/
structure Callee (P : Program) (w : World) (K : PySem.W.Frag) (mg : Str → Option Value) (base : Heap) (x : Str) (k : Nat) (Φ : List D → PM → Out D) : Prop where
  ex : ∃ f fd ps, FnOk P w K mg base CX0 k f fd ps (spP K Φ) ∧ mg x = some (.ref f) ∧ PySem.W.keepIn K (.ref f) = true ∧ Binds K fd ps []
/-- a constant of the module -/
structure GlobD (K : PySem.W.Frag) (mg : Str → Option Value) (x : Str) (d : D) : Prop where
  ex : ∃ u v, mg x = some u ∧ RelV v u ∧ ∀ α H, Rep K α H d v
section
variable {P : Program} {w : World} {K : PySem.W.Frag} {mg : Str → Option Value} {base : Heap} {x : Str} {st : Stmt} {N ps : List Str} {k : Nat} {Φ : List D → PM → Out D} {g : FS}
theorem Callee.mono {j : Nat} (c : Callee P w K mg base x k Φ) (h : k ≤ j) : Callee P w K mg base x j Φ := by
  obtain ⟨f, fd, ps, h1, h2⟩ := c.ex
  exact ⟨f, fd, ps, h1.mono h, h2⟩
theorem mk_callee (F : FunM K mg x st ps) (S : FnScope N ps (defScope st)) (hl : ∀ ds M, ds.length ≠ ps.length → Φ ds M = .bad)
    (body : ∀ (f : Addr) (cdv : Value) (A : Around) (outer : List PySem.Env) (s : Shared) (H : Hp) (E : XK), Room k (A.deeper (envOfC x (defScope st) s.heap.objs.size f cdv)) → PDB (cxOf CX0 P w K mg base N x (defScope st) f cdv A outer s H E).nox E0 (defBody st) g)
    (fit : ∀ ds M, ds.length = ps.length → (∀ m ∈ M, clMO M.length m = true) → clL M.length ds = true → Fits N g Φ ds M) : Callee P w K mg base x (k + 1) Φ := by
  obtain ⟨f, fd, h1, h2, h3⟩ := F.ex
  exact ⟨f, fd, ps, fn_pd h1 S hl (fun cdv A outer s H E hr => body f cdv A outer s H E hr) fit, h2, h1.kp, Binds.all h3⟩
end
section
variable {X : Cx} {E : XK} {e : Expr} {es : List Expr} {pos p : Pos} {x : Str}
theorem pd_callC {k : Nat} {Φ : List D → PM → Out D} {fargs : FA} (c : Callee X.prog X.w X.K X.mg X.base x k Φ) (hr : Room k X.A) (hg : Gl X x) (ha : PDA X E0 (e :: es) fargs) (hdb : (x == ("__debug__" : Str)) = false := by decide)
    (he : starEach (e :: es) X.env = (false, eval e X.env) :: starEach es X.env := by rfl) (hpl : (backTo pos (starEach es X.env)).any (·.1) = false := by rfl) : PD X E0 (.Call (.Name x p) (e :: es) [] pos) (pCall Φ fargs) := by
  obtain ⟨f, fd, ps, h1, h2, h3, h4⟩ := c.ex
  exact pd_call h1 hr hg h2 h3 h4 pass0 ha hdb he hpl
theorem pd_globC {d : D} (c : GlobD X.K X.mg x d) (hg : Gl X x) (hd : (x == ("__debug__" : Str)) = false := by decide) : PD X E (.Name x pos) (pC d) := by
  obtain ⟨u, v, h1, h2, h3⟩ := c.ex
  exact pd_glob hg h1 h2 h3 hd
end
section
variable {K : PySem.W.Frag} {mg : Str → Option Value} {x : Str}
theorem glob_int {n : Int} {t : Tok} (h : mg x = some (.int n t)) : GlobD K mg x (.int n) := ⟨_, .int n, h, ⟨t, rfl⟩, fun _ _ => .int n⟩
theorem glob_str {z : Str} {t : Tok} (h : mg x = some (.str z t)) : GlobD K mg x (.str z) := ⟨_, .str z, h, ⟨t, rfl⟩, fun _ _ => .str z⟩
theorem glob_bl {z : Bool} (h : mg x = some (.bool z)) : GlobD K mg x (.bl z) := ⟨_, .bl z, h, rfl, fun _ _ => .bl z⟩
theorem strs_vals {K : PySem.W.Frag} : ∀ {zs : List Str} {us : List Value}, Paired (fun (z : Str) u => ∃ t, u = Value.str z t) zs us → Vals (zs.map V.str) us
  | _, _, .nil => .nil
  | _, _, .cons r t => .cons r (strs_vals (K := K) t)
/-- a module's tuple of texts -/
theorem glob_strs {zs : List Str} {a : Addr} {o : Obj} {us : List Value} {n : Nat} (h : mg x = some (.ref a)) (hk : K.lookup a = some o) (hc : o.cls = .type "tuple") (hd : o.data = .seq us.toArray n) (hz : us.length ≤ sizeLine) (hv : Paired (fun (z : Str) u => ∃ t, u = Value.str z t) zs us) :
    GlobD K mg x (.tup (zs.map .str)) := by
  refine ⟨_, .ref a, h, rfl, fun α H => .tup (xs := zs.map V.str) (.inr (.inr ⟨o, us.toArray, n, hk, hc, hd, by simpa using hz, ?_⟩)) (repL_strs zs)⟩
  simpa using strs_vals (K := K) hv
end
/-- y = [..], a comprehension's list, on one line -/
theorem pds_setLc {X : Cx} {E : XK} {elt iter : Expr} {scope : Scope} {own : List (Str × Nat)} {pos px spos py : Pos} {x y : Str} {fw : FA} {fe : FE} {j : Nat} (i : Nat) (hc : X.calm = true) (hN : X.N.Nodup) (hyl : X.env.scope.names.lookup y = some .local)
    (hsw : swapsWith (.ListComp elt [⟨.Name x px, iter, [], 0⟩] scope pos) (some (.Name y py)) spos.line X.env = pure true) (hi : PDI X E (.Name x px) iter fw) (ok : BlkOk X.N X.env.scope scope own) (hj : j ∈ own.map (·.2))
    (hg : ∀ (s : Shared) (H : Hp) (C : Addr) (cl : List (Str × Addr)) (fp : List Addr), PG (X.blk s H scope (compEnvC scope cl C X.env) fp) (.Name x px) (gName j))
    (he : ∀ (s : Shared) (H : Hp) (C : Addr) (cl : List (Str × Addr)) (fp : List Addr), PD (X.blk s H scope (compEnvC scope cl C X.env) fp) E elt fe) (hs : ∀ x, foldedSetIterable iter X.env x = pure x := by intro _; rfl) (hy : X.N[i]? = some y := by rfl) :
    PDS X E (.Assign [.Name y py] (.ListComp elt [⟨.Name x px, iter, [], 0⟩] scope pos) spos) (sAsg (pLc fw (fName j) pYes fe (own.map (·.2))) (fName i)) := by
  obtain ⟨ti, hi, ri⟩ := hi
  exact ⟨_, ps_setLc (te := canE X.K E fe) hc hN hy hyl hsw hi ok hg (fun _ _ _ _ _ => pts_nil) (fun s H C cl fp => (he s H C cl fp).can) hs, s_asg (r_lc ri g_name (only_name hj) (fun ρ σ H α M Q e w h => h.now w rfl) canE_r) g_name⟩
theorem pds_setLcIf {X : Cx} {E : XK} {elt iter c : Expr} {scope : Scope} {own : List (Str × Nat)} {pos px spos py : Pos} {x y : Str} {fw : FA} {fe : FE} {ft : FT} {j : Nat} (i : Nat) (hc : X.calm = true) (hN : X.N.Nodup) (hyl : X.env.scope.names.lookup y = some .local)
    (hsw : swapsWith (.ListComp elt [⟨.Name x px, iter, [c], 0⟩] scope pos) (some (.Name y py)) spos.line X.env = pure true) (hi : PDI X E (.Name x px) iter fw) (ok : BlkOk X.N X.env.scope scope own) (hj : j ∈ own.map (·.2))
    (hg : ∀ (s : Shared) (H : Hp) (C : Addr) (cl : List (Str × Addr)) (fp : List Addr), PG (X.blk s H scope (compEnvC scope cl C X.env) fp) (.Name x px) (gName j))
    (ht : ∀ (s : Shared) (H : Hp) (C : Addr) (cl : List (Str × Addr)) (fp : List Addr), PDT (X.blk s H scope (compEnvC scope cl C X.env) fp) E c ft)
    (he : ∀ (s : Shared) (H : Hp) (C : Addr) (cl : List (Str × Addr)) (fp : List Addr), PD (X.blk s H scope (compEnvC scope cl C X.env) fp) E elt fe) (hs : ∀ x, foldedSetIterable iter X.env x = pure x := by intro _; rfl) (hy : X.N[i]? = some y := by rfl) :
    PDS X E (.Assign [.Name y py] (.ListComp elt [⟨.Name x px, iter, [c], 0⟩] scope pos) spos) (sAsg (pLc fw (fName j) ft fe (own.map (·.2))) (fName i)) := by
  obtain ⟨ti, hi, ri⟩ := hi
  exact ⟨_, ps_setLc (te := canE X.K E fe) hc hN hy hyl hsw hi ok hg (fun s H C cl fp => pts_one (ht s H C cl fp).can) (fun s H C cl fp => (he s H C cl fp).can) hs, s_asg (r_lc ri g_name (only_name hj) canT_r canE_r) g_name⟩
end Pd

set_option Elab.async false
set_option linter.all false
set_option maxRecDepth 100000
set_option maxHeartbeats 1000000
namespace Pd
open PySem L2 PyProof.Rows

/-! ### a def's function is its body's: what comes back, the callee's own objects thrown away -/
def fin (n : Nat) (d : D) (M' : PM) : Out D :=
  if n ≤ M'.length ∧ (M'.take n).all (clMO n) = true then
    (if clD n d = true then .ok d (M'.take n) else match d with
      | .adr i => match M'[i]? with
        | some (.lst es) => if clL n es = true then .ok (.lst es) (M'.take n) else .bad
        | _ => .bad
      | _ => .bad)
  else .bad
def run (ar : Nat) (N : List Str) (g : FS) : List D → PM → Out D := fun ds M => if ds.length = ar then (match g (rho0 N ds) M with
  | .ok (.rt d) M' => fin M.length d M'
  | .ok (.nx _) M' => fin M.length .non M'
  | _ => .bad) else .bad
theorem fin_ok {n : Nat} {d r : D} {M' M1 : PM} (h : fin n d M' = .ok r M1) : n ≤ M1.length ∧ Shuts M1 M' d r := by
  unfold fin at h
  split at h
  · rename_i hc
    obtain ⟨h1, h2⟩ := hc
    have hl : (M'.take n).length = n := by rw [List.length_take]; omega
    have hc : ∀ m ∈ M'.take n, clMO (M'.take n).length m = true := fun m hm => by rw [hl]; exact List.all_eq_true.mp h2 m hm
    split at h
    · rename_i hd
      cases h
      exact ⟨by omega, .inr ⟨M'.drop n, (List.take_append_drop _ _).symm, hc, .inl ⟨rfl, by rw [hl]; exact hd⟩⟩⟩
    · rename_i hd
      split at h
      · rename_i i
        split at h
        · rename_i es he
          split at h
          · rename_i hes
            cases h
            refine ⟨by omega, .inr ⟨M'.drop n, (List.take_append_drop _ _).symm, hc, .inr ⟨i, es, rfl, ?_, he, rfl, by rw [hl]; exact hes⟩⟩⟩
            rw [hl]
            simp only [clD, decide_eq_true_eq] at hd
            omega
          · cases h
        · cases h
      · cases h
  · cases h
theorem fin_no {n : Nat} {d : D} {M' M1 : PM} {c : Value} {fs : Option (List (Str × D))} (h : fin n d M' = .exn c fs M1) : False := by
  unfold fin at h
  split at h
  · split at h
    · cases h
    · split at h
      · split at h
        · split at h <;> cases h
        · cases h
      · cases h
  · cases h
theorem fits_run {ar : Nat} {N : List Str} {g : FS} {ds : List D} {M : PM} (hl : ds.length = ar) : Fits N g (run ar N g) ds M := by
  unfold Fits
  cases hr : run ar N g ds M with
  | bad => trivial
  | exn c fs M1 =>
    unfold run at hr
    rw [if_pos hl] at hr
    split at hr
    · exact fin_no hr
    · exact fin_no hr
    · cases hr
  | ok d M1 =>
    unfold run at hr
    rw [if_pos hl] at hr
    split at hr
    · rename_i d' M' he
      obtain ⟨h1, h2⟩ := fin_ok hr
      exact ⟨h1, d', M', .inl he, h2⟩
    · rename_i ρ M' he
      obtain ⟨h1, h2⟩ := fin_ok hr
      exact ⟨h1, .non, M', .inr ⟨ρ, he, rfl⟩, h2⟩
    · cases hr
theorem run_ar {ar : Nat} {N : List Str} {g : FS} {ds : List D} {M : PM} (h : ds.length ≠ ar) : run ar N g ds M = .bad := by
  unfold run
  rw [if_neg h]
/-- nothing is told of a def -/
def phi0 : List D → PM → Out D := fun _ _ => .bad
section
variable {P : Program} {w : World} {K : PySem.W.Frag} {mg : Str → Option Value} {base : Heap} {x : Str} {st : Stmt} {N ps : List Str} {k : Nat} {Φ : List D → PM → Out D} {g : FS}
theorem callee0 (F : FunM K mg x st ps) : Callee P w K mg base x k phi0 := by
  obtain ⟨f, fd, h1, h2, h3⟩ := F.ex
  exact ⟨f, fd, ps, ⟨fun vs H Q E ⟨_, _, _, _, _, h⟩ => h.elim, fun A outer s H args us vs Q E _ _ _ _ ⟨_, _, _, _, _, h⟩ => h.elim⟩, h2, h1.kp, Binds.all h3⟩
theorem callee_run {ar : Nat} (F : FunM K mg x st ps) (S : FnScope N ps (defScope st)) (ha : ps.length = ar)
    (body : ∀ (f : Addr) (cdv : Value) (A : Around) (outer : List PySem.Env) (s : Shared) (H : Hp) (E : XK), Room k (A.deeper (envOfC x (defScope st) s.heap.objs.size f cdv)) → PDB (cxOf CX0 P w K mg base N x (defScope st) f cdv A outer s H E).nox E0 (defBody st) g) : Callee P w K mg base x (k + 1) (run ar N g) :=
  mk_callee F S (fun ds M h => run_ar (by rw [← ha]; exact h)) body fun ds M h _ _ => fits_run (by rw [← ha]; exact h)
/-- the law's own def -/
theorem law_run {ar : Nat} {f : Addr} {fd : FuncData} (F : Fun K x x st f fd) (S : FnScope N ps (defScope st)) (ha : ps.length = ar)
    (body : ∀ (f : Addr) (cdv : Value) (A : Around) (outer : List PySem.Env) (s : Shared) (H : Hp) (E : XK), Room k (A.deeper (envOfC x (defScope st) s.heap.objs.size f cdv)) → PDB (cxOf CX0 P w K mg base N x (defScope st) f cdv A outer s H E).nox E0 (defBody st) g) : FnOk P w K mg base CX0 (k + 1) f fd ps (spP K (run ar N g)) :=
  fn_pd F S (fun ds M h => run_ar (by rw [← ha]; exact h)) (fun cdv A outer s H E hr => body f cdv A outer s H E hr) fun ds M h _ _ => fits_run (by rw [← ha]; exact h)
/-- a def, by what the kernel finds behind the top -/
theorem funM_of {h : Heap} (X : K.In h) (G : h.Ns mainGlobals mg) {f : Addr} {oc kV doc pm cdv ct : Value} {od an : Option Addr} {osl : Array (Option Value)} (a : PySem.W.nsIn K mainGlobals x = some (some (.ref f)))
    (l : K.lookup f = some ⟨oc, od, .func (PySem.W.fnOf x x (defArgs st) (defBody st) (defScope st) .none kV doc pm an cdv ct), osl⟩) (c : PySem.W.codeIn K cdv x = true) (kp : PySem.W.keepIn K (.ref f) = true)
    (hb : ∀ us : List Value, us.length = ps.length → bindArgs (PySem.W.fnOf x x (defArgs st) (defBody st) (defScope st) .none kV doc pm an cdv ct) ⟨us, []⟩ = pure (ps.zip us)) : FunM K mg x st ps :=
  ⟨f, _, fun_mk l c kp, PySem.W.mg_of X G a, hb⟩
theorem law_of {F : FunM K mg "law" st ["script"]} {fa : Addr} (ha : mg "law" = some (.ref fa)) (h : ∀ fd, Fun K "law" "law" st fa fd → ∀ base : Heap, K.In base → base.Ns mainGlobals mg → FnOk P w K mg base CX0 k fa fd ["script"] (spP K Φ)) :
    ∃ fd : FuncData, (∀ (s : Shared) (u : Value), BindsTo s fd ⟨[u], []⟩ [("script", u)]) ∧ ∀ base : Heap, K.In base → base.Ns mainGlobals mg → FnOk P w K mg base CX0 k fa fd ["script"] (spP K Φ) := by
  obtain ⟨f, fd, h1, h2, h3⟩ := F.ex
  rw [ha] at h2
  cases h2
  exact ⟨fd, fun s u => .of_eq (h3 [u] rfl), h fd h1⟩
end
end Pd

set_option Elab.async false
set_option linter.all false
set_option maxRecDepth 100000
set_option maxHeartbeats 1000000
namespace Pd
open PySem L2

/-! ### texts by their signs -/
def T (l : List Nat) : Str := ⟨l.toArray⟩
@[simp] theorem T_list (l : List Nat) : (T l).cps.toList = l := rfl
@[simp] theorem T_len (l : List Nat) : (T l).length = l.length := by simp [T, Str.length]
theorem T_eta (z : Str) : T z.cps.toList = z := rfl
theorem T_inj {l m : List Nat} (h : T l = T m) : l = m := by
  have := congrArg (fun z : Str => z.cps.toList) h
  exact this
@[simp] theorem T_eq {l m : List Nat} : (T l = T m) ↔ l = m := ⟨T_inj, fun h => by rw [h]⟩
theorem T_app (l m : List Nat) : T l ++ T m = T (l ++ m) := TL.ext_tl (by rw [TL.tl_append]; rfl)
theorem T_one (c : Nat) : (⟨#[c]⟩ : Str) = T [c] := rfl

/-! ### the functions at plain values -/
section
variable {M : PM}
theorem gII_ok {C : Int → Int → Bool} {h : Int → Int → D} {i j : Int} (hc : C i j = true) : gII C h M (.int i) (.int j) = .ok (h i j) M := by
  show (if C i j = true then Out.ok (h i j) M else Out.bad) = _
  rw [if_pos hc]
theorem gor_ok {g g' : PM → D → D → Out D} {a b d : D} {M' : PM} (h : g M a b = .ok d M') : gor g g' M a b = .ok d M' := by
  unfold gor
  rw [h]
theorem gor_bad {g g' : PM → D → D → Out D} {a b : D} (h : g M a b = .bad) : gor g g' M a b = g' M a b := by
  unfold gor
  rw [h]
@[simp] theorem e_add (i j : Int) : gAdd M (.int i) (.int j) = .ok (.int (i + j)) M := gor_ok (gII_ok rfl)
@[simp] theorem e_sub (i j : Int) : gSub M (.int i) (.int j) = .ok (.int (i - j)) M := gII_ok rfl
@[simp] theorem e_augAdd (i j : Int) : gII cTrue (fun i j => .int (i + j)) M (.int i) (.int j) = .ok (.int (i + j)) M := gII_ok rfl
theorem e_mul {i j : Int} (h : cMul i j = true) : gMul M (.int i) (.int j) = .ok (.int (i * j)) M := gII_ok h
theorem e_fdiv {i j : Int} (h : 0 < j ∧ j < 1073741824) : gFdiv M (.int i) (.int j) = .ok (.int (i / j)) M := gor_ok (gII_ok (by unfold cDiv; simp [h.1, h.2]))
theorem e_mod {i j : Int} (h : 0 < j) : gMod M (.int i) (.int j) = .ok (.int (i % j)) M := gor_ok (gII_ok (by unfold cPos; simp [h]))
@[simp] theorem e_lt (i j : Int) : gLt M (.int i) (.int j) = .ok (.bl (decide (i < j))) M := gII_ok rfl
@[simp] theorem e_le (i j : Int) : gLe M (.int i) (.int j) = .ok (.bl (decide (i ≤ j))) M := gII_ok rfl
@[simp] theorem e_gt (i j : Int) : gGt M (.int i) (.int j) = .ok (.bl (decide (j < i))) M := gII_ok rfl
@[simp] theorem e_ge (i j : Int) : gGe M (.int i) (.int j) = .ok (.bl (decide (j ≤ i))) M := gII_ok rfl
@[simp] theorem e_eqI (i j : Int) : gEq M (.int i) (.int j) = .ok (.bl (decide (i = j))) M := rfl
@[simp] theorem e_eqS (x y : Str) : gEq M (.str x) (.str y) = .ok (.bl (decide (x = y))) M := rfl
@[simp] theorem e_eqB (x y : Bool) : gEq M (.bl x) (.bl y) = .ok (.bl (decide (x = y))) M := rfl
@[simp] theorem e_neI (i j : Int) : gNe M (.int i) (.int j) = .ok (.bl (!decide (i = j))) M := rfl
@[simp] theorem e_neS (x y : Str) : gNe M (.str x) (.str y) = .ok (.bl (!decide (x = y))) M := rfl
theorem e_addS {x y : Str} (h : x.length + y.length ≤ 16777216) : gAdd M (.str x) (.str y) = .ok (.str (x ++ y)) M := by
  unfold gAdd
  rw [gor_bad rfl]
  refine gor_ok ?_
  show (if x.length + y.length ≤ line then Out.ok (D.str (x ++ y)) M else Out.bad) = _
  rw [if_pos h]
theorem e_addT {x y : List D} (h : x.length + y.length ≤ 16777216) : gAdd M (.tup x) (.tup y) = .ok (.tup (x ++ y)) M := by
  unfold gAdd
  rw [gor_bad rfl, gor_bad rfl]
  refine gor_ok ?_
  show (if x.length + y.length ≤ line then Out.ok (D.tup (x ++ y)) M else Out.bad) = _
  rw [if_pos h]
theorem e_addL {a b : D} {x y : List D} (ha : lstOf M a = some x) (hb : lstOf M b = some y) (h : x.length + y.length ≤ 16777216) : gAdd M a b = .ok (.lst (x ++ y)) M := by
  have h1 : gII cTrue (fun i j => .int (i + j)) M a b = .bad := by
    cases a <;> first | rfl | cases ha
  have h2 : gAddS M a b = .bad := by
    cases a <;> first | rfl | cases ha
  have h3 : gAddT M a b = .bad := by
    cases a <;> first | rfl | cases ha
  unfold gAdd
  rw [gor_bad h1, gor_bad h2, gor_bad h3]
  unfold gAddL
  rw [ha, hb]
  show (if x.length + y.length ≤ line then Out.ok (D.lst (x ++ y)) M else Out.bad) = _
  rw [if_pos h]
/-! places -/
theorem ixN_nat {n k : Nat} (h : k < n) : ixN n (k : Int) = some k := by
  unfold ixN
  rw [if_pos (by omega), if_pos (by omega)]
  simp
theorem atI_ok {α : Type} {xs : List α} {k : Nat} (h : k < xs.length) : atI xs (k : Int) = some xs[k] := by
  unfold atI
  rw [ixN_nat h]
  simp [h]
theorem atI_neg1 {α : Type} {xs : List α} {x : α} : atI (xs ++ [x]) (-1) = some x := atI_last xs x
theorem e_ixS {l : List Nat} {k : Nat} (h : k < l.length) (hl : l.length ≤ 16777216) : gIx M (.str (T l)) (.int (k : Int)) = .ok (.str (T [l[k]])) M := by
  show (if (T l).length ≤ line then (match atI (T l).cps.toList (k : Int) with | some c => Out.ok (D.str ⟨#[c]⟩) M | none => .bad) else Out.bad) = _
  rw [T_len, if_pos hl, T_list, atI_ok h]
  rfl
theorem gIx_seq {a d : D} {ds : List D} {i : Int} (ha : seqOf M a = some ds) (hd : atI ds i = some d) : gIx M a (.int i) = .ok d M := by
  have : gIx M a (.int i) = (match seqOf M a with | some ds => (match atI ds i with | some d => Out.ok d M | none => .bad) | none => .bad) := by
    cases a <;> first | rfl | cases ha
  rw [this, ha]
  show (match atI ds i with | some d => Out.ok d M | none => .bad) = _
  rw [hd]
theorem e_inS (c : Nat) (z : Str) : gIn M (.str (T [c])) (.str z) = .ok (.bl (decide (c ∈ z.cps.toList))) M := gor_ok rfl
theorem e_notInS (c : Nat) (z : Str) : gNotIn M (.str (T [c])) (.str z) = .ok (.bl (!decide (c ∈ z.cps.toList))) M := gor_ok rfl
theorem inS_bad {a b : D} (hb : ∀ z, b ≠ .str z) : gInS M a b = .bad := by
  unfold gInS
  split
  · rename_i z
    exact absurd rfl (hb z)
  · rfl
theorem notInS_bad {a b : D} (hb : ∀ z, b ≠ .str z) : gNotInS M a b = .bad := by
  unfold gNotInS
  split
  · rename_i z
    exact absurd rfl (hb z)
  · rfl
theorem e_inL {a b : D} {ds : List D} (hs : seqOf M b = some ds) (ha : flatD a = true) (hd : ds.all flatD = true) : gIn M a b = .ok (.bl (inF a ds)) M := by
  unfold gIn
  rw [gor_bad (inS_bad fun z e => by rw [e] at hs; cases hs)]
  unfold gInL
  rw [hs]
  show (if (flatD a && ds.all flatD) = true then Out.ok (D.bl (inF a ds)) M else .bad) = _
  rw [ha, hd]
  rfl
theorem e_notInL {a b : D} {ds : List D} (hs : seqOf M b = some ds) (ha : flatD a = true) (hd : ds.all flatD = true) : gNotIn M a b = .ok (.bl (!inF a ds)) M := by
  unfold gNotIn
  rw [gor_bad (notInS_bad fun z e => by rw [e] at hs; cases hs)]
  unfold gNotInL
  rw [hs]
  show (if (flatD a && ds.all flatD) = true then Out.ok (D.bl (!inF a ds)) M else .bad) = _
  rw [ha, hd]
  rfl
@[simp] theorem seq_tup (ds : List D) : seqOf M (.tup ds) = some ds := rfl
@[simp] theorem seq_lst (ds : List D) : seqOf M (.lst ds) = some ds := rfl
@[simp] theorem seq_rol (ds : List D) : seqOf M (.rol ds) = some ds := rfl
theorem seq_adr {i : Nat} {ds : List D} (h : M[i]? = some (.lst ds)) : seqOf M (.adr i) = some ds := by
  unfold seqOf
  simp only [h]
theorem lst_adr {i : Nat} {ds : List D} (h : M[i]? = some (.lst ds)) : lstOf M (.adr i) = some ds := by
  unfold lstOf
  simp only [h]
/-! slices of texts -/
def cut (l : List Nat) (a b : Nat) : List Nat := (l.drop (min a l.length)).take (min b l.length - min a l.length)
theorem cutS_nat (l : List Nat) (a b : Nat) : cutS (T l) (some (a : Int)) (some (b : Int)) = T (cut l a b) := by
  unfold cutS cut
  rw [HT.sIx_nat, HT.sIx_nat, T_len, T_list]
  rfl
theorem cutS_from (l : List Nat) (a : Nat) : cutS (T l) (some (a : Int)) none = T (l.drop a) := by
  unfold cutS
  rw [HT.sIx_nat, HT.sIx_none, T_len, T_list]
  by_cases h : a ≤ l.length
  · rw [Nat.min_eq_left h, List.take_of_length_le (by rw [List.length_drop]; exact Nat.le_refl _)]
    rfl
  · rw [Nat.min_eq_right (by omega), List.drop_length, List.drop_eq_nil_of_le (by omega)]
    simp [T]
theorem cutS_to (l : List Nat) (b : Nat) : cutS (T l) none (some (b : Int)) = T (l.take b) := by
  unfold cutS
  rw [HT.sIx_nat, HT.sIx_none, T_len, T_list, List.drop_zero, Nat.sub_zero]
  by_cases h : b ≤ l.length
  · rw [Nat.min_eq_left h]
    rfl
  · rw [Nat.min_eq_right (by omega), List.take_length, List.take_of_length_le (by omega)]
    rfl
theorem e_slS {z : Str} {lo hi : Option Int} (h : z.length ≤ 16777216) : gSl M (.str z) lo hi = .ok (.str (cutS z lo hi)) M := by
  show (if z.length ≤ line then Out.ok (D.str (cutS z lo hi)) M else .bad) = _
  rw [if_pos h]
/-! built-ins -/
theorem e_lenS {l : List Nat} (h : l.length ≤ 16777216) : bLen M [.str (T l)] = .ok (.int (l.length : Int)) M := by
  show (if (T l).length ≤ line then Out.ok (D.int ((T l).length : Nat)) M else .bad) = _
  rw [T_len, if_pos h]
theorem e_len {a : D} {ds : List D} (h : seqOf M a = some ds) : bLen M [a] = .ok (.int (ds.length : Int)) M := by
  have : bLen M [a] = (match seqOf M a with | some ds => Out.ok (D.int ds.length) M | none => .bad) := by
    cases a <;> first | rfl | cases h
  rw [this, h]
@[simp] theorem e_abs (i : Int) : bAbs M [.int i] = .ok (.int (if i < 0 then -i else i)) M := rfl
@[simp] theorem e_intI (i : Int) : bInt M [.int i] = .ok (.int i) M := rfl
@[simp] theorem e_tupT (ds : List D) : bTuple M [.tup ds] = .ok (.tup ds) M := rfl
theorem e_tup {a : D} {ds : List D} (h : seqOf M a = some ds) : bTuple M [a] = .ok (.tup ds) M := by
  cases a with
  | tup es => cases h; rfl
  | lst es => cases h; rfl
  | rol es => cases h; rfl
  | adr i =>
    show (match seqOf M (.adr i) with | some ds => Out.ok (D.tup ds) M | none => .bad) = _
    rw [h]
  | _ => cases h
@[simp] theorem i_tup_bool (ds : List D) : bIsi M [.tup ds, .raw (.ty "bool")] = .ok (.bl false) M := rfl
@[simp] theorem i_tup_int (ds : List D) : bIsi M [.tup ds, .raw (.ty "int")] = .ok (.bl false) M := rfl
@[simp] theorem i_tup_str (ds : List D) : bIsi M [.tup ds, .raw (.ty "str")] = .ok (.bl false) M := rfl
@[simp] theorem i_tup_tuple (ds : List D) : bIsi M [.tup ds, .raw (.ty "tuple")] = .ok (.bl true) M := rfl
@[simp] theorem i_tup_list (ds : List D) : bIsi M [.tup ds, .raw (.ty "list")] = .ok (.bl false) M := rfl
@[simp] theorem i_tup_dict (ds : List D) : bIsi M [.tup ds, .raw (.ty "dict")] = .ok (.bl false) M := rfl
@[simp] theorem is_tup (ds : List D) : gIs' M (.tup ds) .non = .ok (.bl false) M := rfl
@[simp] theorem isNot_tup (ds : List D) : gIsNot' M (.tup ds) .non = .ok (.bl true) M := rfl
@[simp] theorem i_lst_bool (ds : List D) : bIsi M [.lst ds, .raw (.ty "bool")] = .ok (.bl false) M := rfl
@[simp] theorem i_lst_int (ds : List D) : bIsi M [.lst ds, .raw (.ty "int")] = .ok (.bl false) M := rfl
@[simp] theorem i_lst_str (ds : List D) : bIsi M [.lst ds, .raw (.ty "str")] = .ok (.bl false) M := rfl
@[simp] theorem i_lst_tuple (ds : List D) : bIsi M [.lst ds, .raw (.ty "tuple")] = .ok (.bl false) M := rfl
@[simp] theorem i_lst_list (ds : List D) : bIsi M [.lst ds, .raw (.ty "list")] = .ok (.bl true) M := rfl
@[simp] theorem i_lst_dict (ds : List D) : bIsi M [.lst ds, .raw (.ty "dict")] = .ok (.bl false) M := rfl
@[simp] theorem is_lst (ds : List D) : gIs' M (.lst ds) .non = .ok (.bl false) M := rfl
@[simp] theorem isNot_lst (ds : List D) : gIsNot' M (.lst ds) .non = .ok (.bl true) M := rfl
@[simp] theorem i_rol_bool (ds : List D) : bIsi M [.rol ds, .raw (.ty "bool")] = .ok (.bl false) M := rfl
@[simp] theorem i_rol_int (ds : List D) : bIsi M [.rol ds, .raw (.ty "int")] = .ok (.bl false) M := rfl
@[simp] theorem i_rol_str (ds : List D) : bIsi M [.rol ds, .raw (.ty "str")] = .ok (.bl false) M := rfl
@[simp] theorem i_rol_tuple (ds : List D) : bIsi M [.rol ds, .raw (.ty "tuple")] = .ok (.bl false) M := rfl
@[simp] theorem i_rol_list (ds : List D) : bIsi M [.rol ds, .raw (.ty "list")] = .ok (.bl true) M := rfl
@[simp] theorem i_rol_dict (ds : List D) : bIsi M [.rol ds, .raw (.ty "dict")] = .ok (.bl false) M := rfl
@[simp] theorem is_rol (ds : List D) : gIs' M (.rol ds) .non = .ok (.bl false) M := rfl
@[simp] theorem isNot_rol (ds : List D) : gIsNot' M (.rol ds) .non = .ok (.bl true) M := rfl
@[simp] theorem i_bl_bool (x : Bool) : bIsi M [.bl x, .raw (.ty "bool")] = .ok (.bl true) M := rfl
@[simp] theorem i_bl_int (x : Bool) : bIsi M [.bl x, .raw (.ty "int")] = .ok (.bl true) M := rfl
@[simp] theorem i_bl_str (x : Bool) : bIsi M [.bl x, .raw (.ty "str")] = .ok (.bl false) M := rfl
@[simp] theorem i_bl_tuple (x : Bool) : bIsi M [.bl x, .raw (.ty "tuple")] = .ok (.bl false) M := rfl
@[simp] theorem i_bl_list (x : Bool) : bIsi M [.bl x, .raw (.ty "list")] = .ok (.bl false) M := rfl
@[simp] theorem i_bl_dict (x : Bool) : bIsi M [.bl x, .raw (.ty "dict")] = .ok (.bl false) M := rfl
@[simp] theorem is_bl (x : Bool) : gIs' M (.bl x) .non = .ok (.bl false) M := rfl
@[simp] theorem isNot_bl (x : Bool) : gIsNot' M (.bl x) .non = .ok (.bl true) M := rfl
@[simp] theorem i_int_bool (x : Int) : bIsi M [.int x, .raw (.ty "bool")] = .ok (.bl false) M := rfl
@[simp] theorem i_int_int (x : Int) : bIsi M [.int x, .raw (.ty "int")] = .ok (.bl true) M := rfl
@[simp] theorem i_int_str (x : Int) : bIsi M [.int x, .raw (.ty "str")] = .ok (.bl false) M := rfl
@[simp] theorem i_int_tuple (x : Int) : bIsi M [.int x, .raw (.ty "tuple")] = .ok (.bl false) M := rfl
@[simp] theorem i_int_list (x : Int) : bIsi M [.int x, .raw (.ty "list")] = .ok (.bl false) M := rfl
@[simp] theorem i_int_dict (x : Int) : bIsi M [.int x, .raw (.ty "dict")] = .ok (.bl false) M := rfl
@[simp] theorem is_int (x : Int) : gIs' M (.int x) .non = .ok (.bl false) M := rfl
@[simp] theorem isNot_int (x : Int) : gIsNot' M (.int x) .non = .ok (.bl true) M := rfl
@[simp] theorem i_str_bool (x : Str) : bIsi M [.str x, .raw (.ty "bool")] = .ok (.bl false) M := rfl
@[simp] theorem i_str_int (x : Str) : bIsi M [.str x, .raw (.ty "int")] = .ok (.bl false) M := rfl
@[simp] theorem i_str_str (x : Str) : bIsi M [.str x, .raw (.ty "str")] = .ok (.bl true) M := rfl
@[simp] theorem i_str_tuple (x : Str) : bIsi M [.str x, .raw (.ty "tuple")] = .ok (.bl false) M := rfl
@[simp] theorem i_str_list (x : Str) : bIsi M [.str x, .raw (.ty "list")] = .ok (.bl false) M := rfl
@[simp] theorem i_str_dict (x : Str) : bIsi M [.str x, .raw (.ty "dict")] = .ok (.bl false) M := rfl
@[simp] theorem is_str (x : Str) : gIs' M (.str x) .non = .ok (.bl false) M := rfl
@[simp] theorem isNot_str (x : Str) : gIsNot' M (.str x) .non = .ok (.bl true) M := rfl
@[simp] theorem i_non_bool  : bIsi M [.non, .raw (.ty "bool")] = .ok (.bl false) M := rfl
@[simp] theorem i_non_int  : bIsi M [.non, .raw (.ty "int")] = .ok (.bl false) M := rfl
@[simp] theorem i_non_str  : bIsi M [.non, .raw (.ty "str")] = .ok (.bl false) M := rfl
@[simp] theorem i_non_tuple  : bIsi M [.non, .raw (.ty "tuple")] = .ok (.bl false) M := rfl
@[simp] theorem i_non_list  : bIsi M [.non, .raw (.ty "list")] = .ok (.bl false) M := rfl
@[simp] theorem i_non_dict  : bIsi M [.non, .raw (.ty "dict")] = .ok (.bl false) M := rfl
@[simp] theorem is_non : gIs' M .non .non = .ok (.bl true) M := rfl
@[simp] theorem isNot_non : gIsNot' M .non .non = .ok (.bl false) M := rfl
theorem rngOk_nat {n : Nat} (h : n ≤ 1000000000) : rngOk (n : Int) = true := by
  unfold rngOk
  rw [Bool.and_eq_true, decide_eq_true_eq, decide_eq_true_eq]
  constructor <;> omega
theorem pr2 {f : FA} {ρ : Rho} {M M1 : PM} {j : Int} (h : f ρ M = .ok [.int j] M1) (hj : rngOk j = true) : pRng1 f ρ M = .ok (rngD 0 j.toNat) M1 := by
  have e : pRng1 f ρ M = (f ρ M).bind (fun as M1 => match as with | [.int j] => if rngOk j = true then .ok (rngD 0 j.toNat) M1 else .bad | _ => .bad) := rfl
  rw [e, h]
  show (if rngOk j = true then Out.ok (rngD 0 j.toNat) M1 else Out.bad) = _
  exact if_pos hj
theorem e_rng1 {f : FA} {ρ : Rho} {M M1 : PM} {n : Nat} (h : f ρ M = .ok [.int (n : Int)] M1) (hn : n ≤ 1000000000) : pRng1 f ρ M = .ok (rngD 0 n) M1 := by
  have h2 := pr2 h (rngOk_nat hn)
  rw [Int.toNat_natCast] at h2
  exact h2
/-! an object that changes, the last one -/
theorem get_last (M : PM) (m : MO) : (M ++ [m])[M.length]? = some m := by simp
theorem set_last (M : PM) (m m' : MO) : (M ++ [m]).set M.length m' = M ++ [m'] := by
  rw [List.set_append_right _ _ (Nat.le_refl _), Nat.sub_self]
  rfl
mutual
theorem clD_mono {n m : Nat} (h : n ≤ m) : ∀ d : D, clD n d = true → clD m d = true
  | .adr i, c => by simp only [clD, decide_eq_true_eq] at c ⊢; omega
  | .tup ds, c => by simp only [clD] at c ⊢; exact clL_mono h ds c
  | .lst ds, c => by simp only [clD] at c ⊢; exact clL_mono h ds c
  | .rol ds, c => by simp only [clD] at c ⊢; exact clL_mono h ds c
  | .xcp _ _ _ ds, c => by simp only [clD] at c ⊢; exact clL_mono h ds c
  | .non, _ => by simp only [clD]
  | .bl _, _ => by simp only [clD]
  | .int _, _ => by simp only [clD]
  | .str _, _ => by simp only [clD]
  | .raw _, _ => by simp only [clD]
theorem clL_mono {n m : Nat} (h : n ≤ m) : ∀ ds : List D, clL n ds = true → clL m ds = true
  | [], _ => by simp only [clL]
  | d :: ds, c => by
    simp only [clL, Bool.and_eq_true] at c ⊢
    exact ⟨clD_mono h d c.1, clL_mono h ds c.2⟩
end
theorem clMO_mono {n m : Nat} (h : n ≤ m) (o : MO) (c : clMO n o = true) : clMO m o = true := by
  cases o with
  | lst ds => exact clL_mono h ds c
  | ins C fs => exact clL_mono h _ c
  | dct kvs => exact clL_mono h _ c
/-! a def's end -/
def WfM (M : PM) : Prop := M.all (clMO M.length) = true
theorem WfM.snoc {M : PM} (w : WfM M) {m : MO} (h : clMO (M.length + 1) m = true) : WfM (M ++ [m]) := by
  unfold WfM at w ⊢
  rw [List.all_append, List.length_append]
  simp only [List.length_cons, List.length_nil, List.all_cons, List.all_nil, Bool.and_true, Bool.and_eq_true]
  refine ⟨List.all_eq_true.mpr fun x hx => clMO_mono (by omega) x (List.all_eq_true.mp w x hx), ?_⟩
  simpa using h
theorem WfM.set {M : PM} (w : WfM M) {i : Nat} {m : MO} (h : clMO M.length m = true) : WfM (M.set i m) := by
  unfold WfM at w ⊢
  rw [List.length_set]
  refine List.all_eq_true.mpr fun x hx => ?_
  rcases List.mem_or_eq_of_mem_set hx with e | e
  · exact List.all_eq_true.mp w x e
  · rw [e]; exact h
theorem fin_ok' {n : Nat} {d : D} {M1 J : PM} (hl : M1.length = n) (hM : M1.all (clMO n) = true) (hd : clD n d = true) : fin n d (M1 ++ J) = .ok d M1 := by
  unfold fin
  have e : (M1 ++ J).take n = M1 := by rw [← hl]; simp
  rw [e, if_pos ⟨by rw [List.length_append]; omega, hM⟩, if_pos hd]
theorem run_rt {ar : Nat} {N : List Str} {g : FS} {ds : List D} {M M1 J : PM} {d : D} (ha : ds.length = ar) (hg : g (rho0 N ds) M = .ok (.rt d) (M1 ++ J)) (hl : M1.length = M.length) (hM : M1.all (clMO M.length) = true) (hd : clD M.length d = true) : run ar N g ds M = .ok d M1 := by
  unfold run
  rw [if_pos ha, hg]
  exact fin_ok' hl hM hd
/-- .. that left all objects as they were -/
theorem run_pure {ar : Nat} {N : List Str} {g : FS} {ds : List D} {M J : PM} {d : D} (ha : ds.length = ar) (w : WfM M) (hg : g (rho0 N ds) M = .ok (.rt d) (M ++ J)) (hd : clD M.length d = true) : run ar N g ds M = .ok d M := run_rt ha hg rfl w hd
theorem run_pure0 {ar : Nat} {N : List Str} {g : FS} {ds : List D} {M : PM} {d : D} (ha : ds.length = ar) (w : WfM M) (hg : g (rho0 N ds) M = .ok (.rt d) M) (hd : clD M.length d = true) : run ar N g ds M = .ok d M := run_rt (J := []) ha (by rw [hg, List.append_nil]) rfl w hd
end
end Pd

set_option Elab.async false
set_option linter.all false
set_option maxRecDepth 100000
set_option maxHeartbeats 2000000
namespace Pd
open PySem L2

/-! ### reading on, step by step -/
section
variable {ρ ρ' ρ2 : Rho} {M M1 M2 M3 : PM} {a b d x : D}
theorem v_op {g : PM → D → D → Out D} {f h : FE} (h1 : f ρ M = .ok a M1) (h2 : h ρ M1 = .ok b M2) (h3 : g M2 a b = .ok d M3) : pOp g f h ρ M = .ok d M3 := by
  unfold pOp
  rw [h1, Out.bind_ok, h2, Out.bind_ok, h3]
theorem v_var {i : Nat} (h : ρ[i]? = some (some d)) : pVar i ρ M = .ok d M := by
  unfold pVar
  rw [h]
theorem v_a1 {f : FE} (h1 : f ρ M = .ok a M1) : aCons f aNil ρ M = .ok [a] M1 := by
  unfold aCons
  rw [h1]
  rfl
theorem v_ac {f : FE} {fs : FA} {ds : List D} (h1 : f ρ M = .ok a M1) (h2 : fs ρ M1 = .ok ds M2) : aCons f fs ρ M = .ok (a :: ds) M2 := by
  unfold aCons
  rw [h1, Out.bind_ok, h2, Out.bind_ok]
theorem v_cb {g : PM → List D → Out D} {f : FA} {ds : List D} (h1 : f ρ M = .ok ds M1) (h2 : g M1 ds = .ok d M2) : pCB g f ρ M = .ok d M2 := by
  unfold pCB
  rw [h1, Out.bind_ok, h2]
theorem v_call {Φ : List D → PM → Out D} {f : FA} {ds : List D} (h1 : f ρ M = .ok ds M1) (h2 : Φ ds M1 = .ok d M2) : pCall Φ f ρ M = .ok d M2 := by
  unfold pCall
  rw [h1, Out.bind_ok, h2]
theorem v_test {f : FE} {k : Bool} (h1 : f ρ M = .ok (.bl k) M1) : pTest f ρ M = .ok k M1 := by
  unfold pTest
  rw [h1]
  rfl
theorem v_and_f {f g : FT} (h1 : f ρ M = .ok false M1) : pAnd f g ρ M = .ok false M1 := by
  unfold pAnd
  rw [h1]
  rfl
theorem v_and_t {f g : FT} {k : Bool} (h1 : f ρ M = .ok true M1) (h2 : g ρ M1 = .ok k M2) : pAnd f g ρ M = .ok k M2 := by
  unfold pAnd
  rw [h1, Out.bind_ok, if_pos rfl, h2]
theorem v_not {f : FT} {k : Bool} (h1 : f ρ M = .ok k M1) : pNot f ρ M = .ok (!k) M1 := by
  unfold pNot
  rw [h1]
  rfl
theorem v_sq {f g : FS} (h : f ρ M = .ok (.nx ρ') M1) : sSeq f g ρ M = g ρ' M1 := by
  unfold sSeq
  rw [h]
  rfl
theorem v_sqr {f g : FS} (h : f ρ M = .ok (.rt d) M1) : sSeq f g ρ M = .ok (.rt d) M1 := by
  unfold sSeq
  rw [h]
  rfl
theorem v_ag {f : FE} {j : Nat} (h : f ρ M = .ok d M1) : sAsg f (fName j) ρ M = .ok (.nx (ρ.set j (some d))) M1 := by
  unfold sAsg
  rw [h]
  rfl
theorem v_ret {f : FE} (h : f ρ M = .ok d M1) : sRet f ρ M = .ok (.rt d) M1 := by
  unfold sRet
  rw [h]
  rfl
theorem v_if_t {c : FT} {f g : FS} (h : c ρ M = .ok true M1) : sIf c f g ρ M = f ρ M1 := by
  unfold sIf
  rw [h]
  rfl
theorem v_if_f {c : FT} {f g : FS} (h : c ρ M = .ok false M1) : sIf c f g ρ M = g ρ M1 := by
  unfold sIf
  rw [h]
  rfl
theorem v_lst {f : FA} {ds : List D} (h : f ρ M = .ok ds M1) (hl : ds.length ≤ 16777216) : pLst f ρ M = .ok (.lst ds) M1 := by
  unfold pLst
  rw [h, Out.bind_ok]
  exact if_pos hl
theorem v_for {w : FA} {g : FG} {b : FS} {ds : List D} (h : w ρ M = .ok ds M1) : sFor w g b ρ M = sEach g b ds ρ M1 := by
  unfold sFor
  rw [h]
  rfl
end
/-! ### the numbers that a law draws: its own little machine -/
def gNext2 : FS :=
    sSeq (sAsg (pOp gAdd (pOp gIx (pVar 0) (pC (.int 0))) (pC (.int 1))) (fSub (pVar 0) (pC (.int 0))))
    (sSeq (sIf (pTest (pOp gGe (pVar 3) (pOp gPow (pC (.int 10)) (pC (.int 18))))) (sSeq (sAsg (pOp gFdiv (pVar 3) (pVar 2)) (fSub (pVar 0) (pC (.int 1))))
      (sRet (pOp gMod (pCB bInt (aCons (pVar 3) (aNil))) (pVar 2)))) (sNext))
    (sSeq (sAsg (pOp gMod (pCB bInt (aCons (pOp gAdd (pOp gAdd (pOp gMul (pOp gIx (pVar 0) (pC (.int 2))) (pC (.int 48271))) (pOp gMul (pVar 3) (pC (.int 69621)))) (pC (.int 12345))) (aNil))) (pC (.int 2147483647))) (fSub (pVar 0) (pC (.int 2))))
    (sRet (pOp gMod (pCB bInt (aCons (pOp gAdd (pOp gFdiv (pOp gIx (pVar 0) (pC (.int 2))) (pC (.int 7))) (pOp gFdiv (pOp gMul (pOp gIx (pVar 0) (pC (.int 2))) (pOp gIx (pVar 0) (pC (.int 2)))) (pC (.int 65537)))) (aNil))) (pVar 2)))))
def gNext : FS :=
    sSeq (sIf (pTest (pOp gGt (pOp gIx (pVar 0) (pC (.int 1))) (pC (.int 0)))) (sSeq (sAsg (pOp gMod (pCB bInt (aCons (pOp gIx (pVar 0) (pC (.int 1))) (aNil))) (pVar 2)) (fName 4))
      (sSeq (sAsg (pOp gFdiv (pCB bInt (aCons (pOp gIx (pVar 0) (pC (.int 1))) (aNil))) (pVar 2)) (fSub (pVar 0) (pC (.int 1))))
      (sRet (pVar 4)))) (sNext))
    (sSeq (sAsg (pC (.int 0)) (fName 3))
    (sSeq (sIf (pTest (pOp gLt (pOp gIx (pVar 0) (pC (.int 0))) (pCB bLen (aCons (pVar 1) (aNil))))) (sAsg (pCB bAbs (aCons (pCB bInt (aCons (pOp gIx (pVar 1) (pOp gIx (pVar 0) (pC (.int 0)))) (aNil))) (aNil))) (fName 3)) (sNext))
    gNext2))
/-- the law's state has a fourth number (in the laws whose state has three: false) -/
def four : Bool := true
/-- what its list holds -/
def Rst (m : MO) : Prop := ∃ (a b c : Int) (e : List D), m = .lst (.int a :: .int b :: .int c :: e) ∧ clL 0 e = true ∧ 0 ≤ a ∧ 0 ≤ c ∧ c < 2147483647 ∧ (four = true → ∃ (f : Int) (r : List D), e = .int f :: r)
theorem Rst.cl {m : MO} (h : Rst m) (n : Nat) : clMO n m = true := by
  obtain ⟨a, b, c, e, rfl, he, _⟩ := h
  have := clL_mono (Nat.zero_le n) _ he
  simp [clMO, clL, clD, this]
theorem Rst.start : Rst (.lst [.int 0, .int 0, .int 1, .int 0]) := ⟨0, 0, 1, [.int 0], rfl, rfl, by omega, by omega, by omega, fun _ => ⟨0, [], rfl⟩⟩
theorem Rst.start3 (h : four = false := by rfl) : Rst (.lst [.int 0, .int 0, .int 1]) := ⟨0, 0, 1, [], rfl, rfl, by omega, by omega, by omega, fun z => by rw [h] at z; cases z⟩
section
variable {M : PM} {i : Nat}
theorem set_get (hi : i < M.length) (m : MO) : (M.set i m)[i]? = some m := by simp [hi]
theorem put_at {ds : List D} (hi : i < M.length) {n : Nat} (hn : n < ds.length) (v : D) : putL (M.set i (.lst ds)) (.adr i) (.int (n : Int)) v = .ok () (M.set i (.lst (ds.set n v))) := by
  unfold putL
  simp only [set_get hi, ixN_nat hn, List.set_set]
theorem st_ix {ds : List D} (hi : i < M.length) {n : Nat} (hn : n < ds.length) : gIx (M.set i (.lst ds)) (.adr i) (.int (n : Int)) = .ok ds[n] (M.set i (.lst ds)) :=
  gIx_seq (seq_adr (set_get hi _)) (atI_ok hn)
theorem p18 : gPow M (.int 10) (.int 18) = .ok (.int 1000000000000000000) M := gII_ok (C := cPow) (h := fun i j => .int (i ^ j.toNat)) (i := 10) (j := 18) (by decide)
theorem mulR {x k : Int} (h1 : -18446744073709551616 < k) (h2 : k < 18446744073709551616) : gMul M (.int x) (.int k) = .ok (.int (x * k)) M := e_mul (by
  unfold cMul
  rw [decide_eq_true h1, decide_eq_true h2]
  exact Bool.or_true _)
theorem next1 {ns : List Int} {many a b c : Int} {e : List D} (hi : i < M.length) (hm : 0 < many ∧ many < 1073741824) (hb : 0 < b) :
    gNext [some (.adr i), some (.rol (ns.map .int)), some (.int many), none, none] (M.set i (.lst (.int a :: .int b :: .int c :: e))) = .ok (.rt (.int (b % many))) (M.set i (.lst (.int a :: .int (b / many) :: .int c :: e))) := by
  have h1 : gIx (M.set i (.lst (.int a :: .int b :: .int c :: e))) (.adr i) (.int 1) = .ok (.int b) _ := st_ix (n := 1) hi (by simp)
  have h2 := e_mod (M := M.set i (.lst (.int a :: .int b :: .int c :: e))) (i := b) hm.1
  have h3 := e_fdiv (M := M.set i (.lst (.int a :: .int b :: .int c :: e))) (i := b) hm
  have h4 : putL (M.set i (.lst (.int a :: .int b :: .int c :: e))) (.adr i) (.int 1) (.int (b / many)) = .ok () (M.set i (.lst (.int a :: .int (b / many) :: .int c :: e))) := put_at (n := 1) hi (by simp) _
  unfold gNext
  simp -implicitDefEqProofs [sSeq, sIf, sAsg, sRet, sNext, fName, fSub, pVar, pC, pOp, pTest, pCB, aCons, aNil, asB, h1, h2, h3, h4, hb]
theorem next2 {x1 x2 x4 : Option D} {many a b c v : Int} {e : List D} (hi : i < M.length) (hm : 0 < many ∧ many < 1073741824) (hc : 0 ≤ c ∧ c < 2147483647) :
    ∃ (r a' b' c' : Int), gNext2 [some (.adr i), x1, some (.int many), some (.int v), x4] (M.set i (.lst (.int a :: .int b :: .int c :: e))) = .ok (.rt (.int r)) (M.set i (.lst (.int a' :: .int b' :: .int c' :: e))) ∧ a' = a + 1 ∧ 0 ≤ c' ∧ c' < 2147483647 ∧ 0 ≤ r ∧ r < many := by
  have h1 : gIx (M.set i (.lst (.int a :: .int b :: .int c :: e))) (.adr i) (.int 0) = .ok (.int a) _ := st_ix (n := 0) hi (by simp)
  have h2 : putL (M.set i (.lst (.int a :: .int b :: .int c :: e))) (.adr i) (.int 0) (.int (a + 1)) = .ok () (M.set i (.lst (.int (a + 1) :: .int b :: .int c :: e))) := put_at (n := 0) hi (by simp) _
  have h3 : ∀ M : PM, gPow M (.int 10) (.int 18) = .ok (.int 1000000000000000000) M := fun M => p18
  have h4 : gFdiv (M.set i (.lst (.int (a + 1) :: .int b :: .int c :: e))) (.int v) (.int many) = .ok (.int (v / many)) _ := e_fdiv hm
  have h5 : putL (M.set i (.lst (.int (a + 1) :: .int b :: .int c :: e))) (.adr i) (.int 1) (.int (v / many)) = .ok () (M.set i (.lst (.int (a + 1) :: .int (v / many) :: .int c :: e))) := put_at (n := 1) hi (by simp) _
  have h6 : ∀ (M : PM) (x : Int), gMod M (.int x) (.int many) = .ok (.int (x % many)) M := fun M x => e_mod hm.1
  by_cases hv : 1000000000000000000 ≤ v
  · refine ⟨v % many, a + 1, v / many, c, ?_, rfl, hc.1, hc.2, Int.emod_nonneg _ (by omega), Int.emod_lt_of_pos _ hm.1⟩
    unfold gNext2
    simp -implicitDefEqProofs only [sSeq, sIf, sAsg, sRet, sNext, fName, fSub, pVar, pC, pOp, pTest, pCB, aCons, aNil, asB, h1, h2, h3, h4, h5, h6, Out.bind_ok, List.getElem?_cons_zero, List.getElem?_cons_succ, e_add, e_ge, e_intI, decide_eq_true hv, if_true]
  · have h7 : gIx (M.set i (.lst (.int (a + 1) :: .int b :: .int c :: e))) (.adr i) (.int 2) = .ok (.int c) _ := st_ix (n := 2) hi (by simp)
    have h8 : ∀ (M : PM) (x : Int), gMul M (.int x) (.int 48271) = .ok (.int (x * 48271)) M := fun M x => mulR (by decide) (by decide)
    have h9 : ∀ (M : PM) (x : Int), gMul M (.int x) (.int 69621) = .ok (.int (x * 69621)) M := fun M x => mulR (by decide) (by decide)
    have h10 : ∀ (M : PM) (x : Int), gMod M (.int x) (.int 2147483647) = .ok (.int (x % 2147483647)) M := fun M x => e_mod (by decide)
    obtain ⟨c', hc'⟩ : ∃ c', c' = (c * 48271 + v * 69621 + 12345) % 2147483647 := ⟨_, rfl⟩
    have q1 : 0 ≤ c' := by rw [hc']; exact Int.emod_nonneg _ (by decide)
    have q2 : c' < 2147483647 := by rw [hc']; exact Int.emod_lt_of_pos _ (by decide)
    have h11 : putL (M.set i (.lst (.int (a + 1) :: .int b :: .int c :: e))) (.adr i) (.int 2) (.int c') = .ok () (M.set i (.lst (.int (a + 1) :: .int b :: .int c' :: e))) := put_at (n := 2) hi (by simp) _
    have h12 : gIx (M.set i (.lst (.int (a + 1) :: .int b :: .int c' :: e))) (.adr i) (.int 2) = .ok (.int c') _ := st_ix (n := 2) hi (by simp)
    have h13 : ∀ (M : PM), gMul M (.int c') (.int c') = .ok (.int (c' * c')) M := fun M => mulR (by omega) (by omega)
    have h14 : ∀ (M : PM) (x : Int), gFdiv M (.int x) (.int 7) = .ok (.int (x / 7)) M := fun M x => e_fdiv (by decide)
    have h15 : ∀ (M : PM) (x : Int), gFdiv M (.int x) (.int 65537) = .ok (.int (x / 65537)) M := fun M x => e_fdiv (by decide)
    refine ⟨(c' / 7 + c' * c' / 65537) % many, a + 1, b, c', ?_, rfl, q1, q2, Int.emod_nonneg _ (by omega), Int.emod_lt_of_pos _ hm.1⟩
    unfold gNext2
    simp -implicitDefEqProofs only [sSeq, sIf, sAsg, sRet, sNext, fName, fSub, pVar, pC, pOp, pTest, pCB, aCons, aNil, asB, h1, h2, h3, h6, h7, h8, h9, h10, ← hc', h11, h12, h13, h14, h15, Out.bind_ok, List.getElem?_cons_zero, List.getElem?_cons_succ, e_add, e_ge, e_intI, decide_eq_false hv, Bool.false_eq_true, if_false]
theorem next3 {ns : List Int} {many a b c : Int} {e : List D} (hi : i < M.length) (hm : 0 < many ∧ many < 1073741824) (ha : 0 ≤ a) (hc : 0 ≤ c ∧ c < 2147483647) (hb : ¬ 0 < b) :
    ∃ (r a' b' c' : Int), gNext [some (.adr i), some (.rol (ns.map .int)), some (.int many), none, none] (M.set i (.lst (.int a :: .int b :: .int c :: e))) = .ok (.rt (.int r)) (M.set i (.lst (.int a' :: .int b' :: .int c' :: e))) ∧ a' = a + 1 ∧ 0 ≤ c' ∧ c' < 2147483647 ∧ 0 ≤ r ∧ r < many := by
  have h1 : gIx (M.set i (.lst (.int a :: .int b :: .int c :: e))) (.adr i) (.int 1) = .ok (.int b) _ := st_ix (n := 1) hi (by simp)
  have h2 : gIx (M.set i (.lst (.int a :: .int b :: .int c :: e))) (.adr i) (.int 0) = .ok (.int a) _ := st_ix (n := 0) hi (by simp)
  have h3 : bLen (M.set i (.lst (.int a :: .int b :: .int c :: e))) [.rol (ns.map .int)] = .ok (.int (ns.length : Int)) (M.set i (.lst (.int a :: .int b :: .int c :: e))) := by
    rw [e_len (ds := ns.map .int) rfl, List.length_map]
  obtain ⟨v, hv⟩ : ∃ v : Int, (sIf (pTest (pOp gLt (pOp gIx (pVar 0) (pC (.int 0))) (pCB bLen (aCons (pVar 1) (aNil))))) (sAsg (pCB bAbs (aCons (pCB bInt (aCons (pOp gIx (pVar 1) (pOp gIx (pVar 0) (pC (.int 0)))) (aNil))) (aNil))) (fName 3)) (sNext)) [some (.adr i), some (.rol (ns.map .int)), some (.int many), some (.int 0), none] (M.set i (.lst (.int a :: .int b :: .int c :: e))) = .ok (.nx [some (.adr i), some (.rol (ns.map .int)), some (.int many), some (.int v), none]) (M.set i (.lst (.int a :: .int b :: .int c :: e))) := by
    by_cases hl : a < ns.length
    · obtain ⟨n, rfl⟩ := Int.eq_ofNat_of_zero_le ha
      have hn : n < ns.length := by omega
      have h4 : gIx (M.set i (.lst (.int (n : Int) :: .int b :: .int c :: e))) (.rol (ns.map .int)) (.int (n : Int)) = .ok (.int ns[n]) _ := gIx_seq (seq_rol _) (by rw [atI_ok (by simpa using hn)]; simp)
      refine ⟨if ns[n] < 0 then -ns[n] else ns[n], ?_⟩
      simp -implicitDefEqProofs only [sIf, sAsg, fName, pVar, pC, pOp, pTest, pCB, aCons, aNil, asB, h2, h3, h4, Out.bind_ok, List.getElem?_cons_zero, List.getElem?_cons_succ, e_lt, e_abs, e_intI, decide_eq_true hl, if_true, List.set_cons_zero, List.set_cons_succ]
    · refine ⟨0, ?_⟩
      simp -implicitDefEqProofs only [sIf, sNext, fName, pVar, pC, pOp, pTest, pCB, aCons, aNil, asB, h2, h3, Out.bind_ok, List.getElem?_cons_zero, List.getElem?_cons_succ, e_lt, decide_eq_false hl, Bool.false_eq_true, if_false]
  obtain ⟨r, a', b', c', h5, h6⟩ := next2 (M := M) (i := i) (x1 := some (.rol (ns.map .int))) (x2 := none) (x4 := none) (a := a) (b := b) (e := e) (v := v) hi hm hc
  refine ⟨r, a', b', c', ?_, h6⟩
  unfold gNext
  rw [show sSeq = sSeq from rfl]
  have h7 : sIf (pTest (pOp gGt (pOp gIx (pVar 0) (pC (.int 1))) (pC (.int 0)))) (sSeq (sAsg (pOp gMod (pCB bInt (aCons (pOp gIx (pVar 0) (pC (.int 1))) (aNil))) (pVar 2)) (fName 4))
      (sSeq (sAsg (pOp gFdiv (pCB bInt (aCons (pOp gIx (pVar 0) (pC (.int 1))) (aNil))) (pVar 2)) (fSub (pVar 0) (pC (.int 1))))
      (sRet (pVar 4)))) (sNext) [some (.adr i), some (.rol (ns.map .int)), some (.int many), none, none] (M.set i (.lst (.int a :: .int b :: .int c :: e))) = .ok (.nx [some (.adr i), some (.rol (ns.map .int)), some (.int many), none, none]) (M.set i (.lst (.int a :: .int b :: .int c :: e))) := by
    simp -implicitDefEqProofs only [sIf, sNext, pVar, pC, pOp, pTest, asB, h1, Out.bind_ok, List.getElem?_cons_zero, List.getElem?_cons_succ, e_gt, decide_eq_false hb, Bool.false_eq_true, if_false]
  have sq : ∀ {f g : FS} {ρ ρ' : Rho} {M M' : PM}, f ρ M = .ok (.nx ρ') M' → sSeq f g ρ M = g ρ' M' := fun h => by unfold sSeq; rw [h]; rfl
  rw [sq h7]
  have h8 : sAsg (pC (.int 0)) (fName 3) [some (.adr i), some (.rol (ns.map .int)), some (.int many), none, none] (M.set i (.lst (.int a :: .int b :: .int c :: e))) = .ok (.nx [some (.adr i), some (.rol (ns.map .int)), some (.int many), some (.int 0), none]) (M.set i (.lst (.int a :: .int b :: .int c :: e))) := rfl
  rw [sq h8, sq hv, h5]
theorem next_ok {N : List Str} (hN : N.length = 5) {ns : List Int} {many : Int} {m : MO} (w : WfM M) (hi : i < M.length) (hm : 0 < many ∧ many < 1073741824) (hs : Rst m) :
    ∃ (r : Int) (m' : MO), run 3 N gNext [.adr i, .rol (ns.map .int), .int many] (M.set i m) = .ok (.int r) (M.set i m') ∧ 0 ≤ r ∧ r < many ∧ Rst m' := by
  obtain ⟨a, b, c, e, rfl, he, ha, hc, hc2, h7⟩ := hs
  have e0 : rho0 N [.adr i, .rol (ns.map .int), .int many] = [some (.adr i), some (.rol (ns.map .int)), some (.int many), none, none] := by
    unfold rho0
    rw [hN]
    rfl
  have fin : ∀ (r : Int) (m' : MO), Rst m' → gNext [some (.adr i), some (.rol (ns.map .int)), some (.int many), none, none] (M.set i (.lst (.int a :: .int b :: .int c :: e))) = .ok (.rt (.int r)) (M.set i m') → run 3 N gNext [.adr i, .rol (ns.map .int), .int many] (M.set i (.lst (.int a :: .int b :: .int c :: e))) = .ok (.int r) (M.set i m') := fun r m' hm' h => by
    refine run_rt (J := []) rfl (by rw [e0, List.append_nil, h]) (by simp) ?_ rfl
    have := WfM.set (i := i) w (hm'.cl M.length)
    unfold WfM at this
    simpa using this
  by_cases hb : 0 < b
  · exact ⟨b % many, .lst (.int a :: .int (b / many) :: .int c :: e), fin _ _ ⟨a, b / many, c, e, rfl, he, ha, hc, hc2, h7⟩ (next1 hi hm hb), Int.emod_nonneg _ (by omega), Int.emod_lt_of_pos _ hm.1, a, b / many, c, e, rfl, he, ha, hc, hc2, h7⟩
  · obtain ⟨r, a', b', c', h1, h2, h3, h4, h5, h6⟩ := next3 (M := M) (e := e) hi hm ha ⟨hc, hc2⟩ hb (ns := ns)
    have hr : Rst (.lst (.int a' :: .int b' :: .int c' :: e)) := ⟨a', b', c', e, rfl, he, by omega, h3, h4, h7⟩
    exact ⟨r, _, fin _ _ hr h1, h5, h6, hr⟩
end
end Pd

set_option Elab.async false
set_option linter.all false
set_option maxRecDepth 100000
set_option maxHeartbeats 2000000
namespace Pd
open PySem L2

/-! ### a < b < c -/
def pCh (g g' : PM → D → D → Out D) (fa fb fc : FE) : FE := fun ρ M => (fa ρ M).bind fun a M1 => (fb ρ M1).bind fun b M2 => (g M2 a b).bind fun z M3 => match z with
  | .bl k => if k = true then (fc ρ M3).bind fun c M4 => g' M4 b c else .ok (.bl false) M3
  | _ => .bad
section
variable {K : PySem.W.Frag} {E : XK} {ta tb tc te : TE} {fa fb fc fe : FE} {r r' : R2} {g g' : PM → D → D → Out D}
theorem r_chain (ha : RE K E ta fa) (hb : RE K E tb fb) (hc : RE K E tc fc) (h : OpD K E r g) (h' : OpD K E r' g') : RE K E (tChain r r' ta tb tc) (pCh g g' fa fb fc) := fun ρ σ H α M Q e w h0 =>
  ha ρ σ H α M _ e w (bnd h0 fun a M1 x α1 H1 _ s1 w1 r1 h1 =>
    hb ρ σ H1 α1 M1 _ (e.step s1) w1 (bnd h1 fun b M2 y α2 H2 _ s2 w2 r2 h2 =>
      h α2 H2 M2 a b x y _ w2 (Rep.step s2 _ _ r1) r2 (bnd h2 fun z M3 v α3 H3 _ s3 w3 r3 h3 => by
        cases z with
        | bl k =>
          cases r3
          refine ⟨k, rfl, ?_⟩
          cases k with
          | true =>
            have h3 : Post (Rep K) K α3 H3 Q E ((fc ρ M3).bind fun c M4 => g' M4 b c) := h3
            rw [if_pos rfl]
            exact hc ρ σ H3 α3 M3 _ (((e.step s1).step s2).step s3) w3 (bnd h3 fun c M4 u α4 H4 _ s4 w4 r4 h4 => h' α4 H4 M4 b c y u Q w4 (Rep.step s4 _ _ (Rep.step s3 _ _ r2)) r4 h4)
          | false =>
            rw [if_neg Bool.false_ne_true]
            have h3 : Post (Rep K) K α3 H3 Q E (.ok (.bl false) M3) := h3
            exact h3.now w3 (.bl _)
        | _ => exact h3.elim)))
end
section
variable {X : Cx} {E : XK} {a b c e o : Expr} {fa fb fc fe fo : FE} {pos apos cpos p : Pos} {op op' : CmpOp} {g g' : PM → D → D → Out D}
theorem pd_chain (ho : Op2 X E (compareOp op) g) (ho' : Op2 X E (compareOp op') g') (ha : PD X E a fa) (hb : PD X E b fb) (hc : PD X E c fc) (hm : lastMarks [op, op'] [b, c] = false := by rfl) : PD X E (.Compare a [op, op'] [b, c] pos) (pCh g g' fa fb fc) := by
  obtain ⟨r, h1, h2⟩ := ho
  obtain ⟨r', h1', h2'⟩ := ho'
  obtain ⟨ta, ha, ra⟩ := ha
  obtain ⟨tb, hb, rb⟩ := hb
  obtain ⟨tc, hc, rc⟩ := hc
  exact ⟨_, pe_chain h1 h1' ha hb hc hm, r_chain ra rb rc h2 h2'⟩
theorem pdt_chain (ho : Op2 X E (compareOp op) g) (ho' : Op2 X E (compareOp op') g') (ha : PD X E a fa) (hb : PD X E b fb) (hc : PD X E c fc) (hm : lastMarks [op, op'] [b, c] = false := by rfl) : PDT X E (.Compare a [op, op'] [b, c] pos) (pTest (pCh g g' fa fb fc)) := by
  obtain ⟨r, h1, h2⟩ := ho
  obtain ⟨r', h1', h2'⟩ := ho'
  obtain ⟨ta, ha, ra⟩ := ha
  obtain ⟨tb, hb, rb⟩ := hb
  obtain ⟨tc, hc, rc⟩ := hc
  exact ⟨_, pt_chain h1 h1' ha hb hc hm, r_test (r_chain ra rb rc h2 h2')⟩
end
/-! ### x, y = a, b -/
def sPar (i j : Nat) (f : FA) : FS := fun ρ M => (f ρ M).bind fun as M1 => match as with
  | [a, b] => .ok (.nx ((ρ.set i (some a)).set j (some b))) M1
  | _ => .bad
section
variable {X : Cx} {E : XK} {a b : Expr} {f : FA} {pos px py pt pt2 : Pos} {x y : Str} {kt k2 : Nat}
theorem s_par {K : PySem.W.Frag} {ta : TA} (i j : Nat) (ha : RA K E ta f) : RS K E (tPar i j ta) (sPar i j f) := fun ρ σ H α M D e w h =>
  ha ρ σ H α M _ e w (bnd h fun as M1 xs α1 H1 _ s1 w1 r1 q => by
    split at q
    · obtain ⟨v, u, rfl, r2, r3⟩ := rep2 r1
      exact ⟨v, u, rfl, q.now (b := FlV.nx ((σ.set i (some v)).set j (some u))) w1 (((e.step s1).set r2).set r3)⟩
    · exact q.elim)
theorem pds_par (i j : Nat) (hc : X.calm = true) (hN : X.N.Nodup) (ha : PDA X E [a, b] f) (hij : i ≠ j) (hw : swappedStores [.Tuple [.Name x px, .Name y py] kt pt] (.Tuple [a, b] k2 pt2) X.env = pure (some [x, y]))
    (hi : X.N[i]? = some x := by rfl) (hj : X.N[j]? = some y := by rfl) (hx : X.env.scope.names.lookup x = some .local := by rfl) (hy : X.env.scope.names.lookup y = some .local := by rfl)
    (hs : swapsWithSole [.Tuple [.Name x px, .Name y py] kt pt] (.Tuple [a, b] k2 pt2) pos.line X.env = pure false := by rfl) :
    PDS X E (.Assign [.Tuple [.Name x px, .Name y py] kt pt] (.Tuple [a, b] k2 pt2) pos) (sPar i j f) := by
  obtain ⟨t, ha, r⟩ := ha
  exact ⟨_, ps_par hc hN hi hj hij hx hy ha hw hs, s_par i j r⟩
end
/-! ### lists of numbers: the least, the greatest, the sum, in order -/
def intL : List D → Option (List Int)
  | [] => some []
  | .int z :: r => (intL r).map (z :: ·)
  | _ => none
theorem intL_rep {K : PySem.W.Frag} {α : List Addr} {H : Hp} : ∀ {ds : List D} {xs : List V} {ys : List Int}, RepL K α H ds xs → intL ds = some ys → xs = ys.map V.int
  | [], _, _, .nil, e => by cases e; rfl
  | d :: ds, _, ys, .cons r t, e => by
    cases d with
    | int z =>
      unfold intL at e
      cases q : intL ds with
      | none => rw [q] at e; cases e
      | some zs =>
        rw [q] at e
        cases e
        cases r
        rw [intL_rep t q]
        rfl
    | _ => cases e
@[simp] theorem intL_map : ∀ ns : List Int, intL (ns.map .int) = some ns
  | [] => rfl
  | n :: ns => by simp [intL, intL_map ns]
@[simp] theorem strL_map : ∀ ns : List Str, strL (ns.map .str) = some ns
  | [] => rfl
  | n :: ns => by simp [strL, strL_map ns]
/-- a list, not a tuple -/
def listOf (M : PM) : D → Option (List D)
  | .lst ds => some ds
  | .rol ds => some ds
  | .adr i => match M[i]? with | some (.lst ds) => some ds | _ => none
  | _ => none
theorem list_ok {K : PySem.W.Frag} {α : List Addr} {H : Hp} {M : PM} {a : D} {x : V} {ds : List D} (w : Wd K α M H) (r : Rep K α H a x) (e : listOf M a = some ds) : ∃ p xs, x = .ref p ∧ SqL K H p xs ∧ RepL K α H ds xs := by
  cases a with
  | lst es => cases e; cases r with | lst t rs => exact ⟨_, _, rfl, t.sq, rs⟩
  | rol es => cases e; cases r with | rol t rs => exact ⟨_, _, rfl, t.sq, rs⟩
  | adr i =>
    obtain ⟨p', xs', e1, e2, e3⟩ := lst_ok (K := K) (ds := ds) w r (by unfold listOf at e; unfold lstOf; exact e)
    exact ⟨p', xs', e1, .of e2, e3⟩
  | _ => cases e
def maxI : List Int → Int
  | [] => 0
  | [n] => n
  | n :: r => if maxI r > n then maxI r else n
def minI : List Int → Int
  | [] => 0
  | [n] => n
  | n :: r => if minI r < n then minI r else n
theorem maxI_ge : ∀ (ns : List Int), ∀ y ∈ ns, y ≤ maxI ns
  | [n], y, h => by rw [List.mem_singleton.mp h]; exact Int.le_refl _
  | n :: m :: r, y, h => by
    have ih := maxI_ge (m :: r)
    rcases List.mem_cons.mp h with e | e
    · subst e
      unfold maxI
      split <;> omega
    · have := ih y e
      unfold maxI
      split <;> omega
theorem minI_le : ∀ (ns : List Int), ∀ y ∈ ns, minI ns ≤ y
  | [n], y, h => by rw [List.mem_singleton.mp h]; exact Int.le_refl _
  | n :: m :: r, y, h => by
    have ih := minI_le (m :: r)
    rcases List.mem_cons.mp h with e | e
    · subst e
      unfold minI
      split <;> omega
    · have := ih y e
      unfold minI
      split <;> omega
theorem maxI_mem : ∀ (ns : List Int), ns ≠ [] → maxI ns ∈ ns
  | [n], _ => List.mem_singleton.mpr rfl
  | n :: m :: r, _ => by
    have ih := maxI_mem (m :: r) (by simp)
    unfold maxI
    split
    · exact List.mem_cons_of_mem _ ih
    · exact List.mem_cons_self ..
theorem minI_mem : ∀ (ns : List Int), ns ≠ [] → minI ns ∈ ns
  | [n], _ => List.mem_singleton.mpr rfl
  | n :: m :: r, _ => by
    have ih := minI_mem (m :: r) (by simp)
    unfold minI
    split
    · exact List.mem_cons_of_mem _ ih
    · exact List.mem_cons_self ..
def bInts (c : List Int → Bool) (k : List Int → D) : PM → List D → Out D := fun M as => match as with
  | [a] => match listOf M a with
    | some ds => match intL ds with
      | some ns => if c ns = true then .ok (k ns) M else .bad
      | none => .bad
    | none => .bad
  | _ => .bad
def bMaxL : PM → List D → Out D := bInts (fun ns => !ns.isEmpty) fun ns => .int (maxI ns)
def bMinL : PM → List D → Out D := bInts (fun ns => !ns.isEmpty) fun ns => .int (minI ns)
def bSum : PM → List D → Out D := bInts (fun _ => true) fun ns => .int ns.sum
def sortI (ns : List Int) : List Int := ns.mergeSort fun a b => decide (a ≤ b)
def bSortI : PM → List D → Out D := bInts (fun _ => true) fun ns => .lst ((sortI ns).map .int)
section
variable {K : PySem.W.Frag} {E : XK} {X : Cx}
theorem bInts_ok {α : List Addr} {H : Hp} {M : PM} {as : List D} {xs : List V} {Q : V → Hp → Prop} {c : List Int → Bool} {k : List Int → D} (w : Wd K α M H) (ra : RepL K α H as xs) (q : Post (Rep K) K α H Q E (bInts c k M as)) :
    ∃ (p : Addr) (ns : List Int), xs = [V.ref p] ∧ SqL K H p (ns.map V.int) ∧ c ns = true ∧ Post (Rep K) K α H Q E (.ok (k ns) M) := by
  unfold bInts at q
  split at q
  · obtain ⟨x, rfl, r⟩ := rep1 ra
    split at q
    · rename_i ds hd
      obtain ⟨p, xs, rfl, hs, rs⟩ := list_ok w r hd
      split at q
      · rename_i ns hn
        obtain ⟨hc, q⟩ := ifb q
        have ex := intL_rep rs hn
        subst ex
        exact ⟨p, ns, rfl, hs, hc, q⟩
      · exact q.elim
    · exact q.elim
  · exact q.elim
theorem ne_of_c {ns : List Int} (h : (!ns.isEmpty) = true) : ns ≠ [] := by
  cases ns with
  | nil => cases h
  | cons => simp
theorem b_maxL (hc : X.calm = true) : Blt X E (.builtin "max") bMaxL := ⟨_, cr_max hc, fun α H M as xs Q w ra q => by
  obtain ⟨p, ns, rfl, h1, h2, q⟩ := bInts_ok w ra q
  have hn := ne_of_c h2
  refine ⟨p, ns, rfl, h1, List.length_pos_iff.mpr hn, fun m hm hy => ?_⟩
  have e : m = maxI ns := Int.le_antisymm (maxI_ge ns m hm) (hy _ (maxI_mem ns hn))
  rw [e]
  exact q.now w (.int _)⟩
theorem b_minL (hc : X.calm = true) : Blt X E (.builtin "min") bMinL := ⟨_, cr_min hc, fun α H M as xs Q w ra q => by
  obtain ⟨p, ns, rfl, h1, h2, q⟩ := bInts_ok w ra q
  have hn := ne_of_c h2
  refine ⟨p, ns, rfl, h1, List.length_pos_iff.mpr hn, fun m hm hy => ?_⟩
  have e : m = minI ns := Int.le_antisymm (hy _ (minI_mem ns hn)) (minI_le ns m hm)
  rw [e]
  exact q.now w (.int _)⟩
theorem b_sum (hc : X.calm = true) : Blt X E (.builtin "sum") bSum := ⟨_, cr_sum hc, fun α H M as xs Q w ra q => by
  obtain ⟨p, ns, rfl, h1, h2, q⟩ := bInts_ok w ra q
  exact ⟨p, ns, rfl, h1, q.now w (.int _)⟩⟩
theorem sortI_only {ns ms : List Int} (h : ms.Perm ns) (s : ms.Pairwise (· ≤ ·)) : ms = sortI ns := by
  have h1 : (sortI ns).Perm ns := List.mergeSort_perm _ _
  have h2 : (sortI ns).Pairwise (fun a b => (decide (a ≤ b)) = true) := List.pairwise_mergeSort (fun a b c h1 h2 => by simp at *; omega) (fun a b => by simp; omega) ns
  refine List.Perm.eq_of_pairwise (le := fun a b : Int => a ≤ b) (fun a b _ _ h1 h2 => Int.le_antisymm h1 h2) s (h2.imp fun h => by simpa using h) (h.trans h1.symm)
theorem b_sortI : Blt X E (.builtin "sorted") bSortI := ⟨_, cr_sortedI, fun α H M as xs Q w ra q => by
  obtain ⟨p, ns, rfl, h1, h2, q⟩ := bInts_ok w ra q
  refine ⟨p, ns, rfl, h1, fun ms p' hp hs hn => ?_⟩
  rw [sortI_only hp hs]
  exact q.nowX w (ex_new hn) (new_lst w hn (repL_ints _))⟩
end
end Pd

set_option Elab.async false
set_option linter.all false
set_option maxRecDepth 100000
set_option maxHeartbeats 4000000
/-! xs.extend(t), t a tuple -/
namespace Xt
open PySem PySem.AutoSeq1
theorem ext_tup (l : Addr) (items : Array Value) (n : Nat) (b : Addr) (items2 : Array Value) (n2 : Nat) (dd : Option Addr) (sl : Array (Option Value)) (hs0 : ¬(!items.isEmpty && Builtin.List.listTooLong (items.size + items2.size)) = true) (hs1 : items.size ≤ sizeLine) (hs2 : items.size + items2.size ≤ sizeLine + 1) :
    Meets (Builtin.«list.extend» ⟨[.ref l, .ref b], []⟩) (fun _ R s => s.heap.get? l = some { cls := .type "list", dict := none, data := .seq items n, slots := #[] } ∧ s.heap.get? b = some { cls := .type "tuple", dict := dd, data := .seq items2 n2, slots := sl } ∧ R (.ok (.ret Value.none)) { s with heap := s.heap.update l (Obj.mapSeq fun x => x ++ items2), toks := s.toks }) :=
  .of_wp fun prog w A R s h => by
    obtain ⟨hp, g, d, tk, os⟩ := s; obtain ⟨hl, hb, h⟩ := h; have f1 := idx_int; have f2 := sub_tuple_tuple; have f3 := sub_list_list; have f4 := sub_tuple_list; have f5 := sub_list_tuple;
    have hz' : (items ++ items2).size ≤ sizeLine + 1 := by rw [Array.size_append]; exact hs2
    wp_walk using (wpAny_updateSeq hl rfl (hz := hs1) (_hz' := hz')), wpAny_loadPart' hl, wpAny_loadPart' hb; exact ⟨_, rfl, h⟩
end Xt
namespace L2
open PySem PySem.Spec PyProof.Rows
section
variable {X : Cx}
def rExtendT (K : PySem.W.Frag) : V → List V → Hp → VK → Prop := fun x vs H Q => ∃ l b xs zs, x = .ref l ∧ vs = [.ref b] ∧ H l = some (.lst xs) ∧ SqT K H b zs ∧ xs.length + zs.length ≤ sizeLine ∧ Q .non (upd H l (.lst (xs ++ zs)))
def rExtend2 (K : PySem.W.Frag) : V → List V → Hp → VK → Prop := fun x vs H Q => rExtend x vs H Q ∨ rExtendT K x vs H Q
theorem mt_extend2 : MtM X "list.extend" (rExtend2 X.K) := by
  intro pins s σ H x vs v us Q I rx rv h
  rcases h with h | h
  · exact mt_extend pins s σ H x vs v us Q I rx rv h
  obtain ⟨l, b, xs, zs, rfl, rfl, hH, hB, hz, q⟩ := h
  cases rx
  obtain ⟨u, rfl, ru⟩ := rv.one
  cases ru
  obtain ⟨z, its, n, r, hl, e⟩ := I.lstM hH
  obtain ⟨its2, r2, ⟨o, e2, hc, n2, hd⟩, hl2⟩ := I.tuple hB
  have hlen := r2.length
  obtain ⟨oc, od, odt, osl⟩ := o
  simp only at hc hd
  subst hc hd
  have hsz : its.toArray.size + its2.toArray.size ≤ sizeLine := by rw [List.size_toArray, List.size_toArray]; omega
  have hlong : ¬ (!its.toArray.isEmpty && Builtin.List.listTooLong (its.toArray.size + its2.toArray.size)) = true := by
    rw [notLongL hsz, Bool.and_false]
    exact Bool.false_ne_true
  refine call_meets F.slot_list_extend ⟨_, e, rfl⟩ F.entry_list_extend (F.args_list_extend_2 _ _)
    (Xt.ext_tup l its.toArray n b its2.toArray n2 od osl hlong (by rw [List.size_toArray]; omega) (by omega)) ⟨e, e2, ?_⟩
  refine ⟨.non, _, I.lset (its' := its ++ its2) hH e (by simp) (r.append r2) ?_, rfl, q⟩
  rw [List.length_append]
  omega
end
end L2

set_option Elab.async false
set_option linter.all false
set_option maxRecDepth 100000
set_option maxHeartbeats 2000000
namespace Pd
open PySem L2

/-! ### xs.extend(ys), both lists -/
def lst2Of (M : PM) : D → Option (List D)
  | .tup ds => some ds
  | d => lstOf M d
theorem lst2_ok {K : PySem.W.Frag} {α : List Addr} {H : Hp} {M : PM} {a : D} {x : V} {ds : List D} (w : Wd K α M H) (r : Rep K α H a x) (e : lst2Of M a = some ds) : ∃ p xs, x = .ref p ∧ (H p = some (.lst xs) ∨ SqT K H p xs) ∧ RepL K α H ds xs := by
  unfold lst2Of at e
  split at e
  · cases e
    cases r with
    | tup t rs => exact ⟨_, _, rfl, .inr t.sq, rs⟩
  · obtain ⟨p, xs, h1, h2, h3⟩ := lst_ok w r e
    exact ⟨p, xs, h1, .inl h2, h3⟩
def pExt (fo fe : FE) : FE := fun ρ M => (fo ρ M).bind fun o M1 => if isA M1 o = true then (fe ρ M1).bind fun d M2 => match o with
  | .adr k => match M2[k]?, lst2Of M2 d with
    | some (.lst ds), some es => if ds.length + es.length ≤ line then .ok .non (M2.set k (.lst (ds ++ es))) else .bad
    | _, _ => .bad
  | _ => .bad else .bad
section
variable {K : PySem.W.Frag} {E : XK} {to te : TE} {fo fe : FE}
theorem r_ext (ho : RE K E to fo) (he : RE K E te fe) : RE K E (tBM K "list" (rExtend2 K) to (tCons te tNil)) (pExt fo fe) := fun ρ σ H α M Q e w h =>
  ho ρ σ H α M _ e w (bnd h fun o M1 x α1 H1 _ s1 w1 r1 h1 => by
    obtain ⟨ha, h1⟩ := ifb h1
    cases o with
    | adr k =>
      cases r1 with
      | @adr _ a ea =>
        have hty : tyV K "list" (.ref a) H1 := by
          have ha' : (match M1[k]? with | some (.lst _) => true | _ => false) = true := ha
          split at ha'
          · rename_i ds hm
            obtain ⟨a', e1, vs, e2, _⟩ := w1.ob _ _ hm
            rw [ea] at e1
            cases e1
            exact .inl ⟨rfl, _, .of e2⟩
          · exact absurd ha' Bool.false_ne_true
        refine ⟨hty, he ρ σ H1 α1 M1 _ (e.step s1) w1 (bnd h1 fun d M2 y α2 H2 _ s2 w2 r2 h2 => ?_)⟩
        have ea2 : α2[k]? = some a := by
          obtain ⟨β, rfl, _⟩ := s2.ext
          rw [List.getElem?_append_left (List.getElem?_eq_some_iff.mp ea).1]
          exact ea
        have h3 : Post (Rep K) K α2 H2 Q E (match M2[k]?, lst2Of M2 d with | some (.lst ds), some es => if ds.length + es.length ≤ line then .ok .non (M2.set k (.lst (ds ++ es))) else .bad | _, _ => .bad) := h2
        split at h3
        · rename_i ds es hm hz
          obtain ⟨b, zs, rfl, ez, rz⟩ := lst2_ok w2 r2 hz
          obtain ⟨hl, h4⟩ := ifb h3
          obtain ⟨a', e1, vs, e2, e3⟩ := w2.ob _ _ hm
          rw [ea2] at e1
          cases e1
          obtain ⟨w3, s3⟩ := w2.put (m := .lst (ds ++ es)) (o := .lst (vs ++ zs)) ea2 (List.getElem?_eq_some_iff.mp hm).1 fun H' st e => ⟨_, e, RepL.step st _ _ (e3.append rz)⟩
          rcases ez with ez | ez
          · exact .inl ⟨_, b, vs, zs, rfl, rfl, e2, ez, by rw [← e3.length, ← rz.length, ← line_eq]; exact hl, h4 _ _ _ s3 w3 .non⟩
          · exact .inr ⟨_, b, vs, zs, rfl, rfl, e2, ez, by rw [← e3.length, ← rz.length, ← line_eq]; exact hl, h4 _ _ _ s3 w3 .non⟩
        · exact h3.elim
    | _ => exact absurd (show false = true from ha) Bool.false_ne_true)
end
section
variable {X : Cx} {E : XK} {o e : Expr} {fo fe : FE} {apos pos cpos : Pos}
theorem pd_extend (ho : PD X E o fo) (he : PD X E e fe) (hbase : attributeBase o "extend" X.env (eval o X.env) = eval o X.env := by rfl)
    (hfew : ((backTo cpos (starEach [e] X.env)).all (fun x => !x.1) && (backToKw cpos (keywordEach [] X.env)).all (fun x => x.1.isSome)
      && decide (([e] : List Expr).length + ([] : List Keyword).length + (if ([] : List Keyword).isEmpty then 0 else 1) < 30)) = true := by rfl)
    (hline : (apos.endLine == cpos.line) = true := by rfl) (hs : starEach [e] X.env = (false, eval e X.env) :: starEach [] X.env := by rfl) (hplain : (backTo cpos (starEach [] X.env)).any (·.1) = false := by rfl) :
    PD X E (.Call (.Attribute o "extend" apos) [e] [] cpos) (pExt fo fe) := by
  obtain ⟨t, ho, r⟩ := ho
  obtain ⟨u, he, q⟩ := he
  exact ⟨_, pe_bm PySem.F.plainAttrs_list PySem.F.slot_list_extend PySem.F.type_list_extend mt_extend2 ho (pa_cons he pa_nil hs) hbase hfew hline hs hplain, r_ext r q⟩
end
/-! ### a + b, a new list that is to change -/
def gAddN : PM → D → D → Out D := fun M a b => match lstOf M a, lstOf M b with
  | some x, some y => if x.length + y.length ≤ line then .ok (.adr M.length) (M ++ [.lst (x ++ y)]) else .bad
  | _, _ => .bad
theorem od_addN {K : PySem.W.Frag} {E : XK} : OpD K E rCat gAddN := fun α H M a b x y Q w ra rb q => by
  unfold gAddN at q
  split at q
  · rename_i xs ys h1 h2
    obtain ⟨l, vs, rfl, e1, r1⟩ := lst_ok w ra h1
    obtain ⟨m, ws, rfl, e2, r2⟩ := lst_ok w rb h2
    obtain ⟨h1, q⟩ := ifb q
    rw [line_eq, r1.length, r2.length] at h1
    refine ⟨_, _, _, _, rfl, rfl, e1, e2, h1, fun p hp => ?_⟩
    obtain ⟨w2, s2⟩ := w.new (m := .lst (xs ++ ys)) (o := .lst (vs ++ ws)) hp fun H' st e => ⟨_, e, RepL.step st _ _ (r1.append r2)⟩
    exact q _ _ _ s2 w2 (.adr (by rw [← w.len, List.getElem?_append_right (Nat.le_refl _), Nat.sub_self]; rfl))
  · exact q.elim
theorem o_addN {X : Cx} {E : XK} : Op2 X E (binaryOp .Add) gAddN := ⟨_, op_cat, od_addN⟩
/-! ### xs[::-1] of a list -/
def gRevL : PM → D → Out D := fun M a => match listOf M a with
  | some ds => .ok (.lst ds.reverse) M
  | none => .bad
theorem repL_rev {K : PySem.W.Frag} {α : List Addr} {H : Hp} : ∀ {ds : List D} {xs : List V}, RepL K α H ds xs → RepL K α H ds.reverse xs.reverse
  | _, _, .nil => .nil
  | _, _, .cons r t => by
    rw [List.reverse_cons, List.reverse_cons]
    exact (repL_rev t).append (.cons r .nil)
theorem r_revL {K : PySem.W.Frag} {E : XK} {te : TE} {fe : FE} (he : RE K E te fe) : RE K E (tRevL K te) (pUn gRevL fe) := fun ρ σ H α M Q e w h =>
  he ρ σ H α M _ e w (bnd h fun a M1 x α1 H1 _ s1 w1 r1 q => by
    unfold gRevL at q
    split at q
    · rename_i ds hd
      obtain ⟨p, xs, rfl, hs, rs⟩ := list_ok w1 r1 hd
      exact ⟨p, xs, rfl, hs, fun p' hp => q.nowX w1 (ex_new hp) (new_lst w1 hp (repL_rev rs))⟩
    · exact q.elim)
theorem pd_revL {X : Cx} {E : XK} {e : Expr} {fe : FE} {k : Nat} {p1 p2 p3 pos : Pos} (he : PD X E e fe) : PD X E (.Subscript e (.Slice none none (some (.UnaryOp .USub (.Constant (.int 1) k p1) p2)) p3) pos) (pUn gRevL fe) := by
  obtain ⟨t, he, r⟩ := he
  exact ⟨_, pe_revL he, r_revL r⟩
/-! ### range(a, b, c) -/
def rngC (lo c : Int) (n : Nat) : List D := (List.range n).map fun (k : Nat) => .int (lo + (k : Int) * c)
def pRng3 (f : FA) : FA := fun ρ M => (f ρ M).bind fun as M1 => match as with
  | [.int i, .int j, .int c] => if (decide (c ≠ 0) && decide (c.natAbs < 1073741824) && PySem.Builtin.Range.small i j c && decide (0 ≤ PySem.Builtin.Range.rangeSize i j c)) = true then .ok (rngC i c (PySem.Builtin.Range.rangeSize i j c).toNat) M1 else .bad
  | _ => .bad
section
variable {K : PySem.W.Frag} {E : XK} {α : List Addr} {H : Hp}
theorem itc_ok {lo c : Int} {n : Nat} : ItR K α H (rngC lo c n) (Itc lo c n) := fun α' H' st _ i => by
  unfold rngC
  refine ⟨fun d hd => ?_, fun hl => by show n ≤ i; simpa using hl⟩
  rw [List.getElem?_map] at hd
  by_cases hi : i < n
  · rw [List.getElem?_range hi] at hd
    cases hd
    refine ⟨hi, fun x H'' y => ?_⟩
    obtain ⟨rfl, rfl⟩ := y
    exact ⟨fun _ _ h => h, .int _⟩
  · rw [List.getElem?_eq_none (by simpa using hi)] at hd
    cases hd
theorem rep3 {a b c : D} {xs : List V} (r : RepL K α H [a, b, c] xs) : ∃ x y z, xs = [x, y, z] ∧ Rep K α H a x ∧ Rep K α H b y ∧ Rep K α H c z := by
  cases r with
  | cons r1 r2 =>
    obtain ⟨y, z, rfl, r3, r4⟩ := rep2 r2
    exact ⟨_, y, z, rfl, r1, r3, r4⟩
theorem r_rng3 {ta : TA} {fa : FA} (ha : RA K E ta fa) : RI K E (iRng3 ta) (pRng3 fa) := fun ρ σ H α M Q e w h =>
  ha ρ σ H α M _ e w (bnd h fun as M1 xs α1 H1 _ s1 w1 r1 q => by
    split at q
    · obtain ⟨x, y, z, rfl, r, r', r''⟩ := rep3 r1
      cases r
      cases r'
      cases r''
      obtain ⟨hj, q⟩ := ifb q
      simp only [Bool.and_eq_true, decide_eq_true_eq] at hj
      exact ⟨_, _, _, _, rfl, ⟨hj.1.1.1, hj.1.1.2, hj.1.2, (Int.toNat_of_nonneg hj.2).symm⟩, q.now w1 itc_ok⟩
    · exact q.elim)
end
theorem pdi_rng3 {X : Cx} {E : XK} {a b c tg : Expr} {p pos : Pos} {fa : FA} (hg : Gl X "range") (hm : X.mg "range" = none) (ha : PDA X E [a, b, c] fa) (hs : starEach [a, b, c] X.env = (false, eval a X.env) :: starEach [b, c] X.env := by rfl) (hs2 : (backTo pos (starEach [b, c] X.env)).any (·.1) = false := by rfl) : PDI X E tg (.Call (.Name "range" p) [a, b, c] [] pos) (pRng3 fa) := by
  obtain ⟨t, h, r⟩ := ha
  exact ⟨_, pi_range3 hg hm h hs hs2, r_rng3 r⟩
end Pd

set_option Elab.async false
set_option linter.all false
set_option maxRecDepth 100000
set_option maxHeartbeats 2000000
/-! sorted of texts, any number of them -/
namespace So
open PySem PyProof.Rows
section
variable {prog : Program} {w : World} {A : Around} {E : Value → Shared → Prop} {s : Shared}
def ltT (v u : Value) : Bool := PySem.Spec.ltCps (strOf v).cps.toList (strOf u).cps.toList
theorem ltc_anti : ∀ a b : List Nat, PySem.Spec.ltCps a b = true → PySem.Spec.ltCps b a = false
  | [], [], h => by simp [PySem.Spec.ltCps] at h
  | [], _ :: _, _ => by simp [PySem.Spec.ltCps]
  | _ :: _, [], h => by simp [PySem.Spec.ltCps] at h
  | x :: a, y :: b, h => by
    simp only [PySem.Spec.ltCps] at h ⊢
    by_cases e : x = y
    · subst e
      simp at h ⊢
      exact ltc_anti a b h
    · have e' : y ≠ x := fun z => e z.symm
      simp [e, e'] at h ⊢
      omega
theorem ltc_tr : ∀ a b c : List Nat, PySem.Spec.ltCps b a = false → PySem.Spec.ltCps c b = false → PySem.Spec.ltCps c a = false
  | [], _, [], _, _ => by simp [PySem.Spec.ltCps]
  | [], _, _ :: _, _, _ => by simp [PySem.Spec.ltCps]
  | x :: a, [], c, h, _ => by simp [PySem.Spec.ltCps] at h
  | x :: a, y :: b, [], _, h => by simp [PySem.Spec.ltCps] at h
  | x :: a, y :: b, z :: c, h, k => by
    simp only [PySem.Spec.ltCps] at h k ⊢
    by_cases e : y = x <;> by_cases e' : z = y
    · subst e
      subst e'
      simp at h k ⊢
      exact ltc_tr a b c h k
    · subst e
      simp [e'] at h k ⊢
      omega
    · subst e'
      simp [e] at h k ⊢
      omega
    · simp [e, e'] at h k ⊢
      by_cases e2 : z = x
      · omega
      · simp [e2]
        omega
theorem swo_txt : SrtO.Swo ltT := ⟨fun x y h => ltc_anti _ _ h, fun x y z h1 h2 => ltc_tr _ _ _ h1 h2⟩
theorem txt_cmp {vs : List Value} {ss : List Str} (hS : StrsAre vs ss) : SrtO.Cmp prog w A s oneType' (fun p => p.1 ∈ vs) (SrtO.lt2 ltT) := by
  intro p q hm hm'
  obtain ⟨a, t, e⟩ := hS.all _ hm
  obtain ⟨b, u, e'⟩ := hS.all _ hm'
  show wpAny (model prog w) A (keyLt' oneType' p.1 q.1) (fun r s' => s' = s ∧ r = ltT p.1 q.1) (fun _ _ => False) s
  rw [e, e', keyLt'_oneType]
  refine oneLt_str ⟨rfl, ?_⟩
  show decide (a.cps.toList < b.cps.toList) = PySem.Spec.ltCps a.cps.toList b.cps.toList
  rw [PyProof.Rows.ltCps_eq]
theorem txt_sortable {a : Addr} {vs : List Value} {ss : List Str} (hS : StrsAre vs ss) (h2 : 2 ≤ vs.length) : SrtO.SortableO prog w A s a vs ltT := by
  intro h' _
  refine ⟨oneType', fun Q E hq => ?_, txt_cmp hS⟩
  match vs, hS, h2 with
  | v1 :: v2 :: rest, hS, _ =>
    rw [keyKind_strs hS]
    exact wpAny_pure hq
  | [], _, h => exact absurd h (by decide)
  | [v], _, h => exact absurd h (by simp)
theorem txt_out {vs out : List Value} {ss : List Str} (hS : StrsAre vs ss) (hs : SrtO.Srtd ltT out) (hb : SrtO.Stb ltT out vs) : StrsAre out (out.map strOf) ∧ (out.map strOf).Perm ss ∧ sortedS (out.map strOf) = true := by
  refine ⟨strsAre_map out fun v hv => hS.all v (hb.perm.mem_iff.mp hv), ?_, ?_⟩
  · have q := hb.perm.map strOf
    rw [hS.strs] at q
    exact q
  · refine sortedS_of_pairwise _ (List.pairwise_map.mpr (hs.imp fun {x y} h => ?_))
    exact h
end
end So
namespace L2
open PySem PySem.Spec PyProof.Rows
/-- sorted(xs), texts, any number of them -/
def rSortedT (K : PySem.W.Frag) : List V → Hp → VK → Prop := fun vs H Q => ∃ (a : Addr) (xs : List Str), vs = [V.ref a] ∧ SqL K H a (xs.map V.str) ∧
  ∀ (ys : List Str) (p : Addr), ys.Perm xs → sortedS ys = true → H p = none → Q (.ref p) (upd H p (.lst (ys.map V.str)))
section
variable {X : Cx}
theorem cr_sortedT : CallR X (.builtin "sorted") (rSortedT X.K) := by
  intro pins s σ H vs us Q I r h
  obtain ⟨a, xs, rfl, hs, q⟩ := h
  obtain ⟨its, rv, hl, hz⟩ := I.list hs
  rw [Vals.ref1 r]
  have hi := rv.strs
  refine SrtO.sorted_ord So.swo_txt hl.isList (by rw [← rv.length]; exact hz) (fun h2 h₁ a' _ _ => So.txt_sortable hi h2) fun out h1 h2 => ?_
  obtain ⟨k1, k2, k3⟩ := So.txt_out hi h1 h2
  obtain ⟨ep, he'⟩ := PyProof.Rows.sortedAll_at s.heap its out.toArray
  have hlen : ((out.map strOf).map V.str).length ≤ sizeLine := by
    rw [List.length_map, k2.length_eq]
    rw [List.length_map] at hz
    exact hz
  exact ⟨.ref _, upd H (s.heap.objs.size + 1) (.lst ((out.map strOf).map V.str)), I.laid (t' := s.toks) (fun _ _ => PyProof.Rows.sortedAll_old) (Nat.le_succ _) ⟨hlen, out, ep, vals_of_strs k1, he'⟩, rfl, q _ _ k2 k3 (I.hok.fresh (Nat.le_succ _))⟩
end
end L2

set_option Elab.async false
set_option linter.all false
set_option maxRecDepth 100000
set_option maxHeartbeats 2000000
namespace Pd
open PySem L2

/-! ### sorted texts -/
theorem lt_anti : ∀ a b : List Nat, PySem.Spec.ltCps a b = false → PySem.Spec.ltCps b a = false → a = b
  | [], [], _, _ => rfl
  | [], _ :: _, h, _ => by simp [PySem.Spec.ltCps] at h
  | _ :: _, [], _, h => by simp [PySem.Spec.ltCps] at h
  | x :: a, y :: b, h, k => by
    simp only [PySem.Spec.ltCps] at h k
    by_cases e : x = y
    · subst e
      simp at h k
      rw [lt_anti a b h k]
    · have e' : y ≠ x := fun z => e z.symm
      simp [e, e'] at h k
      omega
theorem lt_tot : ∀ a b : List Nat, PySem.Spec.ltCps a b = true → PySem.Spec.ltCps b a = false
  | [], [], h => by simp [PySem.Spec.ltCps] at h
  | [], _ :: _, _ => by simp [PySem.Spec.ltCps]
  | _ :: _, [], h => by simp [PySem.Spec.ltCps] at h
  | x :: a, y :: b, h => by
    simp only [PySem.Spec.ltCps] at h ⊢
    by_cases e : x = y
    · subst e
      simp at h ⊢
      exact lt_tot a b h
    · have e' : y ≠ x := fun z => e z.symm
      simp [e, e'] at h ⊢
      omega
theorem lt_tr : ∀ a b c : List Nat, PySem.Spec.ltCps b a = false → PySem.Spec.ltCps c b = false → PySem.Spec.ltCps c a = false
  | [], _, [], _, _ => by simp [PySem.Spec.ltCps]
  | [], _, _ :: _, _, _ => by simp [PySem.Spec.ltCps]
  | x :: a, [], c, h, _ => by simp [PySem.Spec.ltCps] at h
  | x :: a, y :: b, [], _, h => by simp [PySem.Spec.ltCps] at h
  | x :: a, y :: b, z :: c, h, k => by
    simp only [PySem.Spec.ltCps] at h k ⊢
    by_cases e : y = x <;> by_cases e' : z = y
    · subst e
      subst e'
      simp at h k ⊢
      exact lt_tr a b c h k
    · subst e
      simp [e'] at h k ⊢
      omega
    · subst e'
      simp [e] at h k ⊢
      omega
    · simp [e, e'] at h k ⊢
      by_cases e2 : z = x
      · omega
      · simp [e2]
        omega
def leS (a b : Str) : Bool := !PySem.Spec.ltCps b.cps.toList a.cps.toList
theorem rising_pw : ∀ (l : List Str) (x : Str), PyProof.Rows.risingS x l = true → (x :: l).Pairwise (fun a b => leS a b = true)
  | [], x, _ => List.pairwise_cons.mpr ⟨fun _ h => (by cases h), List.Pairwise.nil⟩
  | y :: l, x, h => by
    rw [PyProof.Rows.risingS.eq_2, Bool.and_eq_true] at h
    have ih := rising_pw l y h.2
    refine List.pairwise_cons.mpr ⟨fun z hz => ?_, ih⟩
    rcases List.mem_cons.mp hz with e | e
    · rw [e]
      exact h.1
    · have h2 := (List.pairwise_cons.mp ih).1 z e
      have h1 : leS x y = true := h.1
      unfold leS at h1 h2 ⊢
      rw [Bool.not_eq_true'] at h1 h2 ⊢
      exact lt_tr _ _ _ h1 h2
theorem sorted_pw (l : List Str) (h : PyProof.Rows.sortedS l = true) : l.Pairwise (fun a b => leS a b = true) := by
  cases l with
  | nil => exact .nil
  | cons x l => exact rising_pw l x h
def sortS (l : List Str) : List Str := l.mergeSort leS
theorem sortS_only {ns ms : List Str} (h : ms.Perm ns) (s : PyProof.Rows.sortedS ms = true) : ms = sortS ns := by
  have h1 : (sortS ns).Perm ns := List.mergeSort_perm _ _
  have h2 : (sortS ns).Pairwise (fun a b => leS a b = true) := List.pairwise_mergeSort (fun a b c h1 h2 => by
    unfold leS at *
    rw [Bool.not_eq_true'] at *
    exact lt_tr _ _ _ h1 h2) (fun a b => by
    unfold leS
    cases q : PySem.Spec.ltCps b.cps.toList a.cps.toList with
    | false => rfl
    | true => rw [lt_tot _ _ q]; rfl) ns
  refine List.Perm.eq_of_pairwise (le := fun a b : Str => leS a b = true) (fun a b _ _ h1 h2 => ?_) (sorted_pw _ s) h2 (h.trans h1.symm)
  unfold leS at h1 h2
  rw [Bool.not_eq_true'] at h1 h2
  have := lt_anti _ _ h2 h1
  exact TL.ext_tl this
def bSortS : PM → List D → Out D := fun M as => match as with
  | [a] => match listOf M a with
    | some ds => match strL ds with
      | some ns => .ok (.lst ((sortS ns).map .str)) M
      | none => .bad
    | none => .bad
  | _ => .bad
def bSort : PM → List D → Out D := fun M as => match bSortI M as with
  | .ok d M' => .ok d M'
  | _ => bSortS M as
theorem bInts_notexn {c : List Int → Bool} {k : List Int → D} {M : PM} {as : List D} {cl : Value} {fs : Option (List (Str × D))} {M' : PM} (h : bInts c k M as = .exn cl fs M') : False := by
  unfold bInts at h
  split at h
  · split at h
    · split at h
      · split at h <;> cases h
      · cases h
    · cases h
  · cases h
section
variable {E : XK} {X : Cx}
theorem b_sort : Blt X E (.builtin "sorted") bSort := ⟨_, cr_sortedI.or cr_sortedT, fun α H M as xs Q w ra q => by
  unfold bSort at q
  split at q
  · rename_i d M' hd
    left
    have q' : Post (Rep X.K) X.K α H Q E (bSortI M as) := by rw [hd]; exact q
    obtain ⟨p, ns, rfl, h1, h2, q⟩ := bInts_ok w ra q'
    refine ⟨p, ns, rfl, h1, fun ms p' hp hs hn => ?_⟩
    rw [sortI_only hp hs]
    exact q.nowX w (ex_new hn) (new_lst w hn (repL_ints _))
  · right
    unfold bSortS at q
    split at q
    · obtain ⟨x, rfl, r⟩ := rep1 ra
      split at q
      · rename_i ds hd
        obtain ⟨p, xs, rfl, hs, rs⟩ := list_ok w r hd
        split at q
        · rename_i ns hn
          have ex := strL_rep rs hn
          subst ex
          refine ⟨p, ns, rfl, hs, fun ms p' hp hs hn => ?_⟩
          rw [sortS_only hp hs]
          exact q.nowX w (ex_new hn) (new_lst w hn (repL_strs _))
        · exact q.elim
      · exact q.elim
    · exact q.elim⟩
end
end Pd

set_option Elab.async false
set_option linter.all false
set_option maxRecDepth 100000
set_option maxHeartbeats 2000000
namespace Pd
open PySem L2

/-! ### dicts that change, keys numbers or texts -/
def keyOf : D → Option Key
  | .int i => some (.inl i)
  | .str z => some (.inr z)
  | _ => none
def getK : List (Key × D) → Key → Option D
  | [], _ => none
  | (j, d) :: r, k => if j = k then some d else getK r k
def setK (kvs : List (Key × D)) (k : Key) (d : D) : List (Key × D) := if (kvs.any fun kv => decide (kv.1 = k)) = true then kvs.map (fun kv => if kv.1 = k then (kv.1, d) else kv) else kvs ++ [(k, d)]
def dctOf (M : PM) : D → Option (List (Key × D))
  | .adr i => match M[i]? with | some (.dct kvs) => some kvs | _ => none
  | _ => none
def pNewD : FE := fun _ M => .ok (.adr M.length) (M ++ [.dct []])
def gDGet : PM → D → D → Out D := fun M a b => match dctOf M a, keyOf b with
  | some kvs, some k => match getK kvs k with | some d => .ok d M | none => .bad
  | _, _ => .bad
def gDIn : PM → D → D → Out D := fun M b a => match dctOf M a, keyOf b with
  | some kvs, some k => .ok (.bl (getK kvs k).isSome) M
  | _, _ => .bad
def gDNotIn : PM → D → D → Out D := fun M b a => match dctOf M a, keyOf b with
  | some kvs, some k => .ok (.bl (!(getK kvs k).isSome)) M
  | _, _ => .bad
def putD (M : PM) (o i v : D) : Out Unit := match o, dctOf M o, keyOf i with
  | .adr n, some kvs, some k => if kvs.length < line then .ok () (M.set n (.dct (setK kvs k v))) else .bad
  | _, _, _ => .bad
/-- d[k] = e -/
def sPut (fo fi fe : FE) : FS := fun ρ M => (fe ρ M).bind fun v M1 => (fo ρ M1).bind fun o M2 => (fi ρ M2).bind fun i M3 => (putD M3 o i v).bind fun _ M4 => .ok (.nx ρ) M4
section
variable {K : PySem.W.Frag} {E : XK} {α : List Addr} {H : Hp}
theorem key_ok {b : D} {y : V} {k : Key} (r : Rep K α H b y) (e : keyOf b = some k) : y = kV k := by
  cases b with
  | int i => cases e; cases r; rfl
  | str z => cases e; cases r; rfl
  | _ => cases e
theorem dct_ok {M : PM} {a : D} {x : V} {kvs : List (Key × D)} (w : Wd K α M H) (r : Rep K α H a x) (e : dctOf M a = some kvs) : ∃ n p q, a = .adr n ∧ x = .ref p ∧ α[n]? = some p ∧ M[n]? = some (.dct kvs) ∧ H p = some (.dK q) ∧ DL K α H kvs q := by
  cases a with
  | adr n =>
    cases r with
    | @adr _ p ea =>
      have e' : (match M[n]? with | some (.dct kvs) => some kvs | _ => none) = some kvs := e
      split at e'
      · rename_i kv hm
        cases e'
        obtain ⟨p', e1, q, e2, e3⟩ := w.ob _ _ hm
        rw [ea] at e1
        cases e1
        exact ⟨n, p, q, rfl, rfl, ea, hm, e2, e3⟩
      · cases e'
  | _ => cases e
theorem get_ok : ∀ {kvs : List (Key × D)} {q : List (Key × V)} {k : Key}, DL K α H kvs q → (∀ d, getK kvs k = some d → ∃ v, valV q k = some v ∧ Rep K α H d v) ∧ (getK kvs k = none → valV q k = none)
  | _, _, k, .nil => ⟨fun d h => (by cases h), fun _ => rfl⟩
  | _, _, k, .cons (k := j) (d := d) (v := v) (r := r) (s := s) h t => by
    have ih := get_ok (k := k) t
    by_cases e : j = k
    · rw [valV_pos (p := (j, v)) e]
      unfold getK
      rw [if_pos e]
      exact ⟨fun d' h' => (by cases h'; exact ⟨_, rfl, h⟩), fun h' => (by cases h')⟩
    · rw [valV_neg (p := (j, v)) e]
      unfold getK
      rw [if_neg e]
      exact ih
theorem any_ok {k : Key} : ∀ {kvs : List (Key × D)} {q : List (Key × V)}, DL K α H kvs q → (kvs.any fun kv => decide (kv.1 = k)) = (q.any fun kv => decide (kv.1 = k))
  | _, _, .nil => rfl
  | _, _, .cons _ t => by rw [List.any_cons, List.any_cons, any_ok t]
theorem map_ok {k : Key} {d : D} {v : V} (r : Rep K α H d v) : ∀ {kvs : List (Key × D)} {q : List (Key × V)}, DL K α H kvs q → DL K α H (kvs.map fun kv => if kv.1 = k then (kv.1, d) else kv) (q.map fun kv => if kv.1 = k then (kv.1, v) else kv)
  | _, _, .nil => .nil
  | _, _, .cons (k := j) h t => by
    rw [List.map_cons, List.map_cons]
    by_cases e : j = k
    · simp only [e, if_true]
      exact .cons r (map_ok r t)
    · simp only [e, if_false]
      exact .cons h (map_ok r t)
theorem snoc_ok {k : Key} {d : D} {v : V} (r : Rep K α H d v) : ∀ {kvs : List (Key × D)} {q : List (Key × V)}, DL K α H kvs q → DL K α H (kvs ++ [(k, d)]) (q ++ [(k, v)])
  | _, _, .nil => .cons r .nil
  | _, _, .cons h t => .cons h (snoc_ok r t)
theorem dput_ok {k : Key} {d : D} {v : V} (r : Rep K α H d v) {kvs : List (Key × D)} {q : List (Key × V)} (h : DL K α H kvs q) : DL K α H (setK kvs k d) (putK q k v) := by
  unfold setK putK
  rw [any_ok h]
  by_cases e : (q.any fun kv => decide (kv.1 = k)) = true
  · rw [if_pos e, if_pos e]
    exact map_ok r h
  · rw [if_neg e, if_neg e]
    exact snoc_ok r h
theorem r_newD : RE K E tDNewK pNewD := fun ρ σ H α M Q e w h p hp => by
  obtain ⟨w2, s2⟩ := w.new (m := .dct []) (o := .dK []) hp fun H' st e => ⟨_, e, .nil⟩
  exact h _ _ _ s2 w2 (.adr (by rw [← w.len, List.getElem?_append_right (Nat.le_refl _), Nat.sub_self]; rfl))
variable {to ti te : TE} {fo fi fe : FE}
theorem r_dget (ho : RE K E to fo) (hi : RE K E ti fi) : RE K E (tDGet to ti) (pOp gDGet fo fi) := fun ρ σ H α M Q e w h0 =>
  ho ρ σ H α M _ e w (bnd h0 fun a M1 x α1 H1 _ s1 w1 r1 h1 =>
    hi ρ σ H1 α1 M1 _ (e.step s1) w1 (bnd h1 fun b M2 y α2 H2 _ s2 w2 r2 q => by
      unfold gDGet at q
      split at q
      · rename_i kvs k hd hk
        obtain ⟨n, p, qq, rfl, rfl, ea, hm, e2, e3⟩ := dct_ok w2 (Rep.step s2 _ _ r1) hd
        split at q
        · rename_i d hg
          obtain ⟨v, hv, rv⟩ := (get_ok (k := k) e3).1 d hg
          exact ⟨p, v, rfl, .inl ⟨qq, k, .inl e2, key_ok r2 hk, hv.symm⟩, q.now w2 rv⟩
        · exact q.elim
      · exact q.elim))
theorem r_din (hi : RE K E ti fi) (ho : RE K E to fo) : RE K E (tDIn ti to) (pOp gDIn fi fo) := fun ρ σ H α M Q e w h0 =>
  hi ρ σ H α M _ e w (bnd h0 fun b M1 y α1 H1 _ s1 w1 r1 h1 =>
    ho ρ σ H1 α1 M1 _ (e.step s1) w1 (bnd h1 fun a M2 x α2 H2 _ s2 w2 r2 q => by
      unfold gDIn at q
      split at q
      · rename_i kvs k hd hk
        obtain ⟨n, p, qq, rfl, rfl, ea, hm, e2, e3⟩ := dct_ok w2 r2 hd
        refine ⟨p, valV qq k, rfl, .inl ⟨qq, k, .inl e2, key_ok (Rep.step s2 _ _ r1) hk, rfl⟩, ?_⟩
        have : (valV qq k).isSome = (getK kvs k).isSome := by
          cases hg : getK kvs k with
          | none => rw [(get_ok (k := k) e3).2 hg]; rfl
          | some d => obtain ⟨v, hv, _⟩ := (get_ok (k := k) e3).1 d hg; rw [hv]; rfl
        rw [this]
        exact q.now w2 (.bl _)
      · exact q.elim))
theorem r_dnotin (hi : RE K E ti fi) (ho : RE K E to fo) : RE K E (tDNotIn ti to) (pOp gDNotIn fi fo) := fun ρ σ H α M Q e w h0 =>
  hi ρ σ H α M _ e w (bnd h0 fun b M1 y α1 H1 _ s1 w1 r1 h1 =>
    ho ρ σ H1 α1 M1 _ (e.step s1) w1 (bnd h1 fun a M2 x α2 H2 _ s2 w2 r2 q => by
      unfold gDNotIn at q
      split at q
      · rename_i kvs k hd hk
        obtain ⟨n, p, qq, rfl, rfl, ea, hm, e2, e3⟩ := dct_ok w2 r2 hd
        refine ⟨p, valV qq k, rfl, .inl ⟨qq, k, .inl e2, key_ok (Rep.step s2 _ _ r1) hk, rfl⟩, ?_⟩
        have : (valV qq k).isSome = (getK kvs k).isSome := by
          cases hg : getK kvs k with
          | none => rw [(get_ok (k := k) e3).2 hg]; rfl
          | some d => obtain ⟨v, hv, _⟩ := (get_ok (k := k) e3).1 d hg; rw [hv]; rfl
        rw [this]
        exact q.now w2 (.bl _)
      · exact q.elim))
theorem s_put (ho : RE K E to fo) (hi : RE K E ti fi) (he : RE K E te fe) : RS K E (sDPut to ti te) (sPut fo fi fe) := fun ρ σ H α M D e w h0 =>
  he ρ σ H α M _ e w (bnd h0 fun v M1 x α1 H1 _ s1 w1 r1 h1 =>
    ho ρ σ H1 α1 M1 _ (e.step s1) w1 (bnd h1 fun a M2 y α2 H2 _ s2 w2 r2 h2 =>
      hi ρ σ H2 α2 M2 _ ((e.step s1).step s2) w2 (bnd h2 fun b M3 z α3 H3 _ s3 w3 r3 q => by
        unfold putD at q
        split at q
        · rename_i n kvs k hk hfo hd
          obtain ⟨n', p, qq, e0, rfl, ea, hm, e2, e3⟩ := dct_ok w3 (Rep.step s3 _ _ r2) hd
          cases e0
          obtain ⟨hl, q⟩ : kvs.length < line ∧ Post (FlR K) K α3 H3 (endQ D) E ((Out.ok () (M3.set n (.dct (setK kvs k v)))).bind fun _ M4 => .ok (.nx ρ) M4) := by
            by_cases hl : kvs.length < line
            · rw [if_pos hl] at q; exact ⟨hl, q⟩
            · rw [if_neg hl] at q; exact q.elim
          obtain ⟨w4, s4⟩ := w3.put (m := .dct (setK kvs k v)) (o := .dK (putK qq k x)) ea (List.getElem?_eq_some_iff.mp hm).1 fun H' st e => ⟨_, e, dput_ok (Rep.step st _ _ (Rep.step s3 _ _ (Rep.step s2 _ _ r1))) (DL.step st e3)⟩
          refine ⟨p, _, rfl, .inl ⟨qq, k, e2, key_ok r3 hk, by rw [← e3.length, ← line_eq]; exact hl, rfl⟩, ?_⟩
          exact q (FlV.nx σ) _ _ s4 w4 ((((e.step s1).step s2).step s3).step s4)
        · exact q.elim)))
end
section
variable {X : Cx} {E : XK} {o i e : Expr} {fo fi fe : FE} {pos pos' : Pos}
theorem pd_newD : PD X E (.Dict [] [] pos) pNewD := ⟨_, pe_dnewK, r_newD⟩
theorem pd_dget (hu : X.A.units + 1 < cLine) (ho : PD X E o fo) (hi : PD X E i fi) (hs : NoSl i := by exact fun _ _ => rfl) : PD X E (.Subscript o i pos) (pOp gDGet fo fi) := by
  obtain ⟨t, ho, r⟩ := ho
  obtain ⟨u, hi, q⟩ := hi
  exact ⟨_, pe_dget hu ho hi hs, r_dget r q⟩
theorem pd_din (hu : X.A.units + 1 < cLine) (hi : PD X E i fi) (ho : PD X E o fo) (hm : behindInMarks .In o = false := by rfl) : PD X E (.Compare i [.In] [o] pos) (pOp gDIn fi fo) := by
  obtain ⟨t, ho, r⟩ := ho
  obtain ⟨u, hi, q⟩ := hi
  exact ⟨_, pe_cmp (pc_din hu hi ho) hm, r_din q r⟩
theorem pd_dnotin (hu : X.A.units + 1 < cLine) (hi : PD X E i fi) (ho : PD X E o fo) (hm : behindInMarks .NotIn o = false := by rfl) : PD X E (.Compare i [.NotIn] [o] pos) (pOp gDNotIn fi fo) := by
  obtain ⟨t, ho, r⟩ := ho
  obtain ⟨u, hi, q⟩ := hi
  exact ⟨_, pe_cmp (pc_dnotin hu hi ho) hm, r_dnotin q r⟩
theorem pdt_din (hu : X.A.units + 1 < cLine) (hi : PD X E i fi) (ho : PD X E o fo) (hm : behindInMarks .In o = false := by rfl) : PDT X E (.Compare i [.In] [o] pos) (pTest (pOp gDIn fi fo)) := by
  obtain ⟨t, ho, r⟩ := ho
  obtain ⟨u, hi, q⟩ := hi
  exact ⟨_, pt_cmp (pc_din hu hi ho) hm, r_tB (r_din q r)⟩
theorem pdt_dnotin (hu : X.A.units + 1 < cLine) (hi : PD X E i fi) (ho : PD X E o fo) (hm : behindInMarks .NotIn o = false := by rfl) : PDT X E (.Compare i [.NotIn] [o] pos) (pTest (pOp gDNotIn fi fo)) := by
  obtain ⟨t, ho, r⟩ := ho
  obtain ⟨u, hi, q⟩ := hi
  exact ⟨_, pt_cmp (pc_dnotin hu hi ho) hm, r_tB (r_dnotin q r)⟩
theorem pds_put (hu : X.A.units + 1 < cLine) (ho : PD X E o fo) (hi : PD X E i fi) (he : PD X E e fe) (hs : swapsWith e (some (.Subscript o i pos')) pos.line X.env = pure false := by rfl) : PDS X E (.Assign [.Subscript o i pos'] e pos) (sPut fo fi fe) := by
  obtain ⟨t, ho, r⟩ := ho
  obtain ⟨u, hi, q⟩ := hi
  obtain ⟨v, he, z⟩ := he
  exact ⟨_, ps_dput hu ho hi he hs, s_put r q z⟩
theorem units_of {k : Nat} (h : Room k X.A) : X.A.units + 1 < cLine := by
  have := h.un
  omega
end
end Pd

set_option Elab.async false
set_option linter.all false
set_option maxRecDepth 100000
set_option maxHeartbeats 2000000
namespace Pd
open PySem L2 PyProof.Rows

/-! ### defs that raise -/
def clF (n : Nat) : Option (List (Str × D)) → Bool
  | none => true
  | some fs => clL n (fs.map (·.2))
def finX (n : Nat) (c : Value) (fs : Option (List (Str × D))) (M' : PM) : Out D :=
  if n ≤ M'.length ∧ (M'.take n).all (clMO n) = true ∧ clF n fs = true then .exn c fs (M'.take n) else .bad
/-- as run, and what is raised goes on -/
def runX (ar : Nat) (N : List Str) (g : FS) : List D → PM → Out D := fun ds M => if ds.length = ar then (match g (rho0 N ds) M with
  | .ok (.rt d) M' => fin M.length d M'
  | .ok (.nx _) M' => fin M.length .non M'
  | .exn c fs M' => finX M.length c fs M'
  | _ => .bad) else .bad
section
variable {K : PySem.W.Frag} {E : XK} {α : List Addr} {H : Hp}
theorem xrep_trim (n : Nat) {fs : Option (List (Str × D))} {od : Option Addr} (c : clF n fs = true) (h : XRep K α H fs od) : XRep K (α.take n) H fs od := by
  cases fs with
  | none => exact h
  | some fs =>
    obtain ⟨dd, vs, h1, h2, h4, h3⟩ := h
    exact ⟨dd, vs, h1, h2, fun z => h4 (List.mem_of_mem_take z), RepL.trim n _ _ c h3⟩
theorem run_post {Q : V → Hp → Prop} {d : D} {M M'' : PM} (hw : Wd K α M H) (hp : Post (Rep K) K α H Q E (fin M.length d M'')) : ∀ v α' H', Step α H α' H' → Wd K α' M'' H' → Rep K α' H' d v → Q v H' := by
  cases hf : fin M.length d M'' with
  | ok r M1 =>
    rw [hf] at hp
    obtain ⟨hM, hs⟩ := fin_ok hf
    intro v α' H' st w' r'
    obtain ⟨w2, r2⟩ := shut_ok hs w' r'
    exact hp v _ H' (st.trim (by rw [hw.len]; exact hM)) w2 r2
  | exn c fs M1 => exact (fin_no hf).elim
  | bad => rw [hf] at hp; exact hp.elim
theorem runX_post {ar : Nat} {N : List Str} {g : FS} {ds : List D} {M : PM} {Q : V → Hp → Prop} (hw : Wd K α M H) (hl : ds.length = ar) (hp : Post (Rep K) K α H Q E (runX ar N g ds M)) :
    Post (FlR K) K α H (endQ { nx := fun _ H' => Q .non H', rt := Q }) E (g (rho0 N ds) M) := by
  unfold runX at hp
  rw [if_pos hl] at hp
  cases hg : g (rho0 N ds) M with
  | ok fl M' =>
    rw [hg] at hp
    cases fl with
    | rt d =>
      have key := run_post hw hp
      intro b α' H' st w' r'
      cases b with
      | rt v => exact key v α' H' st w' r'
      | _ => exact r'.elim
    | nx ρ =>
      have key := run_post (d := .non) hw hp
      intro b α' H' st w' r'
      cases b with
      | nx σ => exact key .non α' H' st w' .non
      | _ => exact r'.elim
    | _ => exact hp.elim
  | exn c fs M' =>
    rw [hg] at hp
    have hp' : Post (Rep K) K α H Q E (finX M.length c fs M') := hp
    unfold finX at hp'
    obtain ⟨⟨h1, h2, h3⟩, hp'⟩ := ifb hp'
    intro od α' H' st w' x'
    have hl' : (M'.take M.length).length = M.length := by rw [List.length_take]; omega
    have w2 : Wd K (α'.take M.length) (M'.take M.length) H' := by
      have := Wd.trim (M' := M'.take M.length) (junk := M'.drop M.length) (by rw [List.take_append_drop]; exact w') (fun m hm => by rw [hl']; exact List.all_eq_true.mp h2 m hm)
      rw [hl'] at this
      exact this
    exact hp' od _ H' (st.trim (by rw [hw.len]; exact Nat.le_refl _)) w2 (xrep_trim _ h3 x')
  | bad =>
    rw [hg] at hp
    exact hp.elim
end
/-- .. keeps the promise Φ, and may raise -/
structure CalleeX (P : Program) (w : World) (K : PySem.W.Frag) (mg : Str → Option Value) (base : Heap) (x : Str) (k : Nat) (Φ : List D → PM → Out D) : Prop where
  ex : ∃ f fd ps, FnOk P w K mg base (CX P w) k f fd ps (spP K Φ) ∧ mg x = some (.ref f) ∧ PySem.W.keepIn K (.ref f) = true ∧ Binds K fd ps []
section
variable {P : Program} {w : World} {K : PySem.W.Frag} {mg : Str → Option Value} {base : Heap} {x : Str} {st : Stmt} {N ps : List Str} {k : Nat} {g : FS}
theorem callee_runX {ar : Nat} (F : FunM K mg x st ps) (S : FnScope N ps (defScope st)) (ha : ps.length = ar)
    (body : ∀ (f : Addr) (cdv : Value) (A : Around) (outer : List PySem.Env) (s : Shared) (H : Hp) (E : XK), Room k (A.deeper (envOfC x (defScope st) s.heap.objs.size f cdv)) → PDB (cxOf (CX P w) P w K mg base N x (defScope st) f cdv A outer s H E) E (defBody st) g) : CalleeX P w K mg base x (k + 1) (runX ar N g) := by
  obtain ⟨f, fd, h1, h2, h3⟩ := F.ex
  refine ⟨f, fd, ps, h1.okX S (fun vs H Q E h => ?_) (fun cdv A outer s H vs Q E hr h => ?_), h2, h1.kp, Binds.all h3⟩
  · obtain ⟨ds, α, M, hw, hr, hp⟩ := h
    by_cases e : ds.length = ar
    · rw [← hr.length, ha]; exact e
    · unfold runX at hp
      rw [if_neg e] at hp
      exact hp.elim
  · obtain ⟨ds, α, M, hw, hrp, hp⟩ := h
    obtain ⟨t, t1, t2⟩ := body f cdv A outer s H E hr
    have hlen : ds.length = ar := by
      by_cases e : ds.length = ar
      · exact e
      · unfold runX at hp
        rw [if_neg e] at hp
        exact hp.elim
    exact ⟨t, t1, t2 (rho0 N ds) _ H α M _ (env0 hrp) hw (runX_post hw hlen hp)⟩
end
section
variable {X : Cx} {E : XK} {e : Expr} {es : List Expr} {pos p : Pos} {x : Str}
/-- a call of a def that raises nothing, anywhere -/
theorem pd_callN {k : Nat} {Φ : List D → PM → Out D} {fargs : FA} (c : Callee X.prog X.w X.K X.mg X.base x k Φ) (hr : Room k X.A) (hg : Gl X x) (ha : PDA X E (e :: es) fargs) (hdb : (x == ("__debug__" : Str)) = false := by decide)
    (he : starEach (e :: es) X.env = (false, eval e X.env) :: starEach es X.env := by rfl) (hpl : (backTo pos (starEach es X.env)).any (·.1) = false := by rfl) : PD X E (.Call (.Name x p) (e :: es) [] pos) (pCall Φ fargs) := by
  obtain ⟨f, fd, ps, h1, h2, h3, h4⟩ := c.ex
  exact pd_call h1 hr hg h2 h3 h4 (fun _ _ _ _ _ _ _ z => z.elim) ha hdb he hpl
/-- a call of a def that may raise: what it raises leaves this def, too -/
theorem pd_callX {k : Nat} {Φ : List D → PM → Out D} {fargs : FA} (c : CalleeX X.prog X.w X.K X.mg X.base x k Φ) (tk : Takes X fun cls d _ H => E cls d H) (hr : Room k X.A) (hg : Gl X x) (ha : PDA X E (e :: es) fargs) (hdb : (x == ("__debug__" : Str)) = false := by decide)
    (he : starEach (e :: es) X.env = (false, eval e X.env) :: starEach es X.env := by rfl) (hpl : (backTo pos (starEach es X.env)).any (·.1) = false := by rfl) : PD X E (.Call (.Name x p) (e :: es) [] pos) (pCall Φ fargs) := by
  obtain ⟨f, fd, ps, h1, h2, h3, h4⟩ := c.ex
  exact pd_call h1 hr hg h2 h3 h4 (passes_call tk fun _ _ _ _ h => h) ha hdb he hpl
end
/-! ### an own error -/
def okV : V → Prop
  | .int i => 0 ≤ i ∧ i.natAbs < 18446744073709551616
  | .str z => z.length ≤ 1000
  | _ => False
def okD : D → Bool
  | .int i => decide (0 ≤ i ∧ i.natAbs < 18446744073709551616)
  | .str z => decide (z.length ≤ 1000)
  | _ => false
/-- what an own error's __init__ leaves: its fields, the last one stored first -/
def spErr (C : Addr) (nr : List Str) : Sp := fun vs H Q _ => ∃ a ws, vs = .ref a :: ws ∧ ws.length = nr.length ∧ (∀ x ∈ ws, okV x) ∧ H a = some (exo a C none) ∧
  ∀ d H2, H d = none → d ≠ a → H2 a = some (exo a C (some d)) → H2 d = some (exd d (nr.zip ws.reverse)) → (∀ b, b ≠ a → b ≠ d → H2 b = H b) → Q .non H2
structure ErrK (P : Program) (w : World) (K : PySem.W.Frag) (mg : Str → Option Value) (base : Heap) (x : Str) (k : Nat) (C : Addr) (nr : List Str) : Prop where
  ex : ∃ fI fd ps, OexC K C ∧ PySem.W.findIn K (.ref C) "__init__" = some (some (.ref fI)) ∧ PySem.W.typeIn K (.ref fI) = some (.type "function") ∧ FnOk P w K mg base CX0 k fI fd ps (spErr C nr) ∧ Binds K fd ps [] ∧ mg x = some (.ref C)
def sRaise (C : Addr) (nr : List Str) (fa : FA) : FS := fun ρ M => (fa ρ M).bind fun ds M1 => if ds.length = nr.length ∧ nr.length ≤ 1000 ∧ ds.all okD = true then .exn (.ref C) (some (nr.zip ds.reverse)) M1 else .bad
section
variable {K : PySem.W.Frag} {E : XK} {α : List Addr} {H : Hp}
theorem okD_ok : ∀ {ds : List D} {xs : List V}, RepL K α H ds xs → ds.all okD = true → ∀ x ∈ xs, okV x
  | _, _, .nil, _, x, h => by cases h
  | d :: ds, _, .cons (v := v) r t, c, x, h => by
    rw [List.all_cons, Bool.and_eq_true] at c
    rcases List.mem_cons.mp h with e | e
    · subst e
      cases d with
      | int i => cases r; exact of_decide_eq_true (p := 0 ≤ i ∧ i.natAbs < 18446744073709551616) c.1
      | str z => cases r; exact of_decide_eq_true (p := z.length ≤ 1000) c.1
      | _ => exact absurd c.1 Bool.false_ne_true
    · exact okD_ok t c.2 x e
theorem repL_rev2 {ds : List D} {xs : List V} (r : RepL K α H ds xs) : RepL K α H ds.reverse xs.reverse := repL_rev r
theorem s_raise {C : Addr} {nr : List Str} {ta : TA} {fa : FA} (ha : RA K E ta fa) : RS K E (fun _ σ H => tMkO C (spErr C nr) [] ta σ H fun cls d H' => E cls d H') (sRaise C nr fa) := fun ρ σ H α M D e w h =>
  ha ρ σ H α M _ e w (bnd h fun as M1 xs α1 H1 _ s1 w1 r1 q => by
    obtain ⟨⟨h1, h2, h3⟩, q⟩ := ifb q
    refine ⟨by rw [← r1.length, h1]; exact h2, fun a hna => ?_⟩
    rw [List.append_nil]
    refine ⟨a, xs, rfl, by rw [← r1.length, h1], okD_ok r1 h3, upd_same, fun d H2 hd hda e1 e2 e3 => ⟨rfl, d, _, e1, e2, ?_, ?_⟩⟩
    · rw [upd_ne hda] at hd
      exact hd
    · have hd1 : H1 d = none := by rw [upd_ne hda] at hd; exact hd
      have e4 : upd (del H2 a) d (.xd (nr.zip xs.reverse)) = upd H1 d (.xd (nr.zip xs.reverse)) := by
        funext b
        by_cases hb : b = d
        · subst hb
          rw [upd_same, upd_same]
        · rw [upd_ne hb, upd_ne hb]
          by_cases hba : b = a
          · subst hba
            rw [hna]
            unfold del
            simp
          · have : del H2 a b = H2 b := by
              unfold del
              simp [hba]
            rw [this, e3 b hba hb, upd_ne hba]
      rw [e4]
      have st : Step α1 H1 α1 (upd H1 d (.xd (nr.zip xs.reverse))) := Step.ex (ex_new hd1)
      refine q (some d) α1 _ st (w1.ex (ex_new hd1)) ?_
      have l1 : (nr.zip as.reverse).map (·.1) = nr := List.map_fst_zip (by rw [List.length_reverse, h1]; exact Nat.le_refl _)
      have l2 : (nr.zip as.reverse).map (·.2) = as.reverse := List.map_snd_zip (by rw [List.length_reverse, h1]; exact Nat.le_refl _)
      refine ⟨d, xs.reverse, rfl, ?_, fun z => ?_, ?_⟩
      · rw [l1]
        exact upd_same
      · obtain ⟨o, eo⟩ := w1.there z
        rw [hd1] at eo
        cases eo
      · rw [l2]
        exact RepL.step st _ _ (repL_rev r1))
end
section
variable {X : Cx} {E : XK} {e : Expr} {es : List Expr} {pos p rpos : Pos} {x : Str}
theorem pds_raise {k : Nat} {C : Addr} {nr : List Str} {fargs : FA} (c : ErrK X.prog X.w X.K X.mg X.base x k C nr) (hc : X.calm = true) (tk : Takes X fun cls d _ H => E cls d H) (hr : Room (k + 1) X.A) (hg : Gl X x) (ha : PDA X E (e :: es) fargs) (hdb : (x == ("__debug__" : Str)) = false := by decide)
    (he : starEach (e :: es) X.env = (false, eval e X.env) :: starEach es X.env := by rfl) (hpl : (backTo pos (starEach es X.env)).any (·.1) = false := by rfl) : PDS X E (.Raise (some (.Call (.Name x p) (e :: es) [] pos)) none rpos) (sRaise C nr fargs) := by
  obtain ⟨fI, fd, ps, h1, h2, h3, h4, h5, h6⟩ := c.ex
  obtain ⟨t, ha, r⟩ := ha
  exact ⟨_, ps_raise hc tk (pmk_oex h1 h2 h3 h4 hr h5 .nil (fun _ _ _ _ _ _ _ z => z.elim) hg h6 ha hdb he hpl), s_raise r⟩
end
end Pd

set_option Elab.async false
set_option linter.all false
set_option maxRecDepth 100000
set_option maxHeartbeats 1000000
namespace Pd
open PySem L2 PyProof.Rows

/-! ### math.gcd of two or three numbers -/
theorem run_gcd3 (a : Int) (t : Tok) (b : Int) (u : Tok) (c : Int) (v : Tok) :
    Gives (Builtin.«math.gcd» ⟨[.int a t, .int b u, .int c v], []⟩) (.int (((((Nat.gcd 0 a.natAbs).gcd b.natAbs).gcd c.natAbs : Nat) : Int))) :=
  .of_wp fun M A E s Q h => by obtain ⟨hp, g, d, tk, os⟩ := s; wp_walk; exact ⟨_, rfl, h⟩
theorem args_gcd3 (a b c : Value) : argsOk "math.gcd" ⟨[a, b, c], []⟩ := by unfold argsOk; kernel_rfl
def gcdI (a b : Int) : Int := ((Nat.gcd a.natAbs b.natAbs : Nat) : Int)
def bGcd : PM → List D → Out D := fun M as => match as with
  | [.int a, .int b] => .ok (.int (gcdI a b)) M
  | [.int a, .int b, .int c] => .ok (.int (gcdI (gcdI a b) c)) M
  | _ => .bad
def rGcdD : List V → Hp → VK → Prop := fun vs H Q => (∃ a b : Int, vs = [.int a, .int b] ∧ Q (.int (gcdI a b)) H) ∨ ∃ a b c : Int, vs = [.int a, .int b, .int c] ∧ Q (.int (gcdI (gcdI a b) c)) H
section
variable {X : Cx} {E : XK}
theorem cr_gcdD : CallR X (.builtin "math.gcd") rGcdD := by
  intro pins s σ H vs us Q I r h
  rcases h with ⟨a, b, rfl, q⟩ | ⟨a, b, c, rfl, q⟩
  · obtain ⟨t, u, rfl⟩ := Vals.int2 r
    exact PySem.W.mg_gcd fun _ => ⟨.int _, H, I.tok _, ⟨_, rfl⟩, q⟩
  · obtain ⟨t, u, v, rfl⟩ : ∃ t u v, us = [Value.int a t, Value.int b u, Value.int c v] := by
      cases r with
      | cons r tl =>
        obtain ⟨t, rfl⟩ := r
        obtain ⟨u, v, rfl⟩ := Vals.int2 tl
        exact ⟨t, u, v, rfl⟩
    have g := run_gcd3 a t b u c v
    rw [Nat.gcd_zero_left] at g
    exact call_function_meets PySem.W.MGF.kind_gcd PySem.W.MGF.plain_gcd PySem.W.MGF.entry_gcd (args_gcd3 _ _ _) g.meets ⟨.int _, H, I.tok _, ⟨_, rfl⟩, q⟩
theorem b_gcd : Blt X E (.builtin "math.gcd") bGcd := ⟨_, cr_gcdD, fun α H M as xs Q w ra q => by
  unfold bGcd at q
  split at q
  · obtain ⟨x, y, rfl, r1, r2⟩ := rep2 ra
    cases r1
    cases r2
    exact .inl ⟨_, _, rfl, q.now w (.int _)⟩
  · rename_i a b c
    cases ra with
    | cons r1 t =>
      obtain ⟨x, y, rfl, r2, r3⟩ := rep2 t
      cases r1
      cases r2
      cases r3
      exact .inr ⟨_, _, _, rfl, q.now w (.int _)⟩
  · exact q.elim⟩
theorem pd_callBf {x : Str} {e : Expr} {es : List Expr} {p pos : Pos} {id : String} {g : PM → List D → Out D} {fargs : FA} (hc : Blt X E (.builtin id) g) (hg : Gl X x) (hm : X.mg x = some (.builtin id)) (ha : PDA X E (e :: es) fargs) (hdb : (x == ("__debug__" : Str)) = false := by decide)
    (he : starEach (e :: es) X.env = (false, eval e X.env) :: starEach es X.env := by rfl) (hpl : (backTo pos (starEach es X.env)).any (·.1) = false := by rfl) : PD X E (.Call (.Name x p) (e :: es) [] pos) (pCB g fargs) := by
  obtain ⟨r, h1, h2⟩ := hc
  obtain ⟨t, ha, rr⟩ := ha
  exact ⟨_, pe_callBfun h1 hg hm ha hdb he hpl, r_cb rr h2⟩
end
end Pd

set_option Elab.async false
set_option linter.all false
set_option maxRecDepth 100000
set_option maxHeartbeats 2000000
namespace Pd
open PySem L2 PyProof.Rows

/-! ### try: return f(..) or x = f(..), except C as e: .. -/
/-- the name of the exception is gone behind the suite -/
def clean (i : Nat) : Out Fl → Out Fl
  | .ok (.nx ρ) M => .ok (.nx (ρ.set i none)) M
  | .ok (.bk ρ) M => .ok (.bk (ρ.set i none)) M
  | .ok (.ct ρ) M => .ok (.ct (ρ.set i none)) M
  | o => o
/-- an exception's field -/
def pFld (a dd C' C : Addr) (i : Nat) (f : Str) : FE := fun ρ M => match ρ[i]? with
  | some (some (.xcp a' dd' ns ds)) => if a' = a ∧ dd' = dd ∧ C' = C then (match (ns.zip ds).lookup f with | some d => .ok d M | none => .bad) else .bad
  | _ => .bad
/-- tst: the classes that may come, and whether the clause takes them -/
def sTry (i : Nat) (tst : List (Addr × Bool)) (Φ : List D → PM → Out D) (fa : FA) (k : D → FS) (g : Addr → Addr → Addr → FS) : FS := fun ρ M => match fa ρ M with
  | .ok ds M1 => match Φ ds M1 with
    | .ok d M2 => k d ρ M2
    | .exn (.ref C) (some fs) M2 => match tst.lookup C with
      | some true => clean i (g 0 0 C (ρ.set i (some (.xcp 0 0 (fs.map (·.1)) (fs.map (·.2))))) M2)
      | _ => .bad
    | _ => .bad
  | _ => .bad
section
variable {K : PySem.W.Frag} {E : XK} {α : List Addr} {H : Hp}
theorem EnvR.clear {ρ : Rho} {σ : L2.St} (e : EnvR K α H ρ σ) (i : Nat) : EnvR K α H (ρ.set i none) (σ.set i none) := by
  refine ⟨by rw [List.length_set, List.length_set]; exact e.1, fun j d h => ?_⟩
  by_cases hij : i = j
  · subst hij
    by_cases hl : i < ρ.length
    · rw [List.getElem?_set_self hl] at h
      cases h
    · rw [List.set_eq_of_length_le (by omega)] at h
      exact absurd (List.getElem?_eq_some_iff.mp h).1 hl
  · rw [List.getElem?_set_ne hij] at h
    obtain ⟨v', h1, h2⟩ := e.2 j d h
    exact ⟨v', by rw [List.getElem?_set_ne hij]; exact h1, h2⟩
def clD' (i : Nat) (D : Ends) : Ends := { nx := fun σ' H' => D.nx (σ'.set i none) H', rt := D.rt, bk := fun σ' H' => D.bk (σ'.set i none) H', ct := fun σ' H' => D.ct (σ'.set i none) H' }
theorem post_clean {i : Nat} {D : Ends} {o : Out Fl} (h : Post (FlR K) K α H (endQ D) E (clean i o)) : Post (FlR K) K α H (endQ (clD' i D)) E o := by
  cases o with
  | ok fl M =>
    intro b α' H' s w r
    cases fl with
    | nx ρ => cases b with
      | nx σ => exact h (.nx (σ.set i none)) α' H' s w (EnvR.clear r i)
      | _ => exact r.elim
    | bk ρ => cases b with
      | bk σ => exact h (.bk (σ.set i none)) α' H' s w (EnvR.clear r i)
      | _ => exact r.elim
    | ct ρ => cases b with
      | ct σ => exact h (.ct (σ.set i none)) α' H' s w (EnvR.clear r i)
      | _ => exact r.elim
    | rt d => cases b with
      | rt v => exact h (.rt v) α' H' s w r
      | _ => exact r.elim
  | exn c fs M => exact h
  | bad => exact h
/-- the field's reading, in the suite -/
theorem r_fld {i : Nat} {f : Str} {a dd C' C : Addr} : RE K E (tXf a (.ref C') (some dd) C f (tVar i)) (pFld a dd C' C i f) := fun ρ σ H α M Q e w h => by
  unfold pFld at h
  split at h
  · rename_i a' dd' ns ds hi
    obtain ⟨⟨rfl, rfl, rfl⟩, h'⟩ := ifb h
    obtain ⟨v, h1, h2⟩ := e.2 i _ hi
    cases h2 with
    | @xcp _ _ _ _ vs e1 e2 e3 =>
      refine ⟨_, h1, rfl, rfl, dd', ns.zip vs, ?_⟩
      have key : ∀ {ns : List Str} {ds : List D} {vs : List V}, RepL K α H ds vs → ∀ d, (ns.zip ds).lookup f = some d → ∃ v, (ns.zip vs).lookup f = some v ∧ Rep K α H d v := by
        intro ns
        induction ns with
        | nil => intro ds vs _ d z; cases z
        | cons n ns ih =>
          intro ds vs r d z
          cases r with
          | nil => cases z
          | cons r1 r2 =>
            rw [List.zip_cons_cons, List.lookup_cons] at z ⊢
            split at z
            · cases z
              exact ⟨_, rfl, r1⟩
            · exact ih r2 d z
      have h : Post (Rep K) K α H Q E (match (ns.zip ds).lookup f with | some d => .ok d M | none => .bad) := h'
      split at h
      · rename_i d hd
        obtain ⟨v, k1, k2⟩ := key e3 d hd
        exact ⟨v, rfl, e1, k1, h.now w k2⟩
      · exact h.elim
  · exact h.elim
theorem s_try {i : Nat} {c : Value} {ts : Addr → Value → Option Addr → TS} {tst : List (Addr × Bool)} {Φ : List D → PM → Out D} {fa : FA} {ta : TA} {kq : D → FS} {tq : V → TS} {g : Addr → Addr → Addr → FS} {tb : WX → TS} {Wout : WX}
    (ha : RA K E0 ta fa) (htb : ∀ W D σ H, (ta σ H fun vs H1 => spP K Φ vs H1 (fun v H2 => tq v D σ H2) fun cls d H2 => W cls d σ H2) → tb W D σ H)
    (hk : ∀ ρ σ H α M D d v, EnvR K α H ρ σ → Wd K α M H → Rep K α H d v → Post (FlR K) K α H (endQ D) E (kq d ρ M) → tq v D σ H)
    (ht : ∀ C b, tst.lookup C = some b → PySem.W.exmOne K (.ref C) c = some b)
    (hi : ∀ (a dd C : Addr) (ns : List Str) (ds : List D) (ρ : Rho) (M : PM), clean i (g a dd C (ρ.set i (some (.xcp a dd ns ds))) M) = clean i (g 0 0 C (ρ.set i (some (.xcp 0 0 ns ds))) M))
    (hs : ∀ a dd C, RS K E (ts a (.ref C) (some dd)) (g a dd C)) : RS K E (fun D σ H => tb (wAs K c i ts Wout D) D σ H) (sTry i tst Φ fa kq g) := fun ρ σ H α M D e w h => by
  refine htb _ _ _ _ (ha ρ σ H α M _ e w ?_)
  unfold sTry at h
  cases hf : fa ρ M with
  | exn c fs M1 => rw [hf] at h; exact h.elim
  | bad => rw [hf] at h; exact h.elim
  | ok ds M1 =>
    rw [hf] at h
    intro vs α1 H1 s1 w1 r1
    refine ⟨ds, α1, M1, w1, r1, ?_⟩
    cases hp : Φ ds M1 with
    | bad => simp only [hp] at h; exact h.elim
    | ok d M2 =>
      simp only [hp] at h
      intro v α2 H2 s2 w2 r2
      exact hk ρ σ H2 α2 M2 D d v ((e.step s1).step s2) w2 r2 (Post.step h (s1.tr w1 s2) w2)
    | exn cv fso M2 =>
      simp only [hp] at h
      intro od α2 H2 s2 w2 x2
      cases cv with
      | ref C =>
        cases fso with
        | some fs =>
          have h : Post (FlR K) K α H (endQ D) E (match tst.lookup C with
            | some true => clean i (g 0 0 C (ρ.set i (some (.xcp 0 0 (fs.map (·.1)) (fs.map (·.2))))) M2)
            | _ => .bad) := h
          split at h
          · rename_i hb
            refine ⟨true, ht C true hb, fun _ a hna => ?_, fun z => (by cases z)⟩
            obtain ⟨dd, vs', rfl, hd, nd, rv⟩ := x2
            have h2 : Post (FlR K) K α H (endQ (clD' i D)) E (g a dd C (ρ.set i (some (.xcp a dd (fs.map (·.1)) (fs.map (·.2))))) M2) := post_clean (by rw [hi]; exact h)
            exact hs a dd C _ _ H2 α2 M2 (clD' i D) (EnvR.set ((e.step s1).step s2) (.xcp hd nd rv)) w2 (Post.step h2 (s1.tr w1 s2) w2)
          · exact h.elim
        | none => exact h.elim
      | _ => exact h.elim
end
/-! the text's side -/
/-- the weakest reading of a block by its function -/
def canS (K : PySem.W.Frag) (E : XK) (g : FS) : TS := fun D σ H => ∃ ρ α M, EnvR K α H ρ σ ∧ Wd K α M H ∧ Post (FlR K) K α H (endQ D) E (g ρ M)
def canA (K : PySem.W.Frag) (E : XK) (fa : FA) : TA := fun σ H Q => ∃ ρ α M, EnvR K α H ρ σ ∧ Wd K α M H ∧ Post (RepL K) K α H Q E (fa ρ M)
theorem PDA.canA {X : Cx} {E : XK} {es : List Expr} {fa : FA} (h : PDA X E es fa) : PA X es (canA X.K E fa) := by
  obtain ⟨t, h1, h2⟩ := h
  exact ⟨fun pos pins s σ H Q I ⟨ρ, α, M, e, w, q⟩ => h1.run pos pins s σ H Q I (h2 ρ σ H α M Q e w q)⟩
theorem canA_r {K : PySem.W.Frag} {E : XK} {fa : FA} : RA K E (canA K E fa) fa := fun ρ σ H α M Q e w h => ⟨ρ, α, M, e, w, h⟩
theorem canS_r {K : PySem.W.Frag} {E : XK} {g : FS} : RS K E (canS K E g) g := fun ρ σ H α M D e w h => ⟨ρ, α, M, e, w, h⟩
theorem PDB.canB {X : Cx} {E : XK} {st : List Stmt} {g : FS} (h : PDB X E st g) : PSs X st (canS X.K E g) := by
  obtain ⟨t, h1, h2⟩ := h
  exact ⟨fun pins s σ H D I ⟨ρ, α, M, e, w, q⟩ => h1.run pins s σ H D I (h2 ρ σ H α M D e w q)⟩
def suiteT (K : PySem.W.Frag) (g : Addr → Addr → Addr → FS) : Addr → Value → Option Addr → TS := fun a cls d => match cls, d with
  | .ref C, some dd => canS K E0 (g a dd C)
  | _, _ => fun _ _ _ => False
section
variable {X : Cx} {x f n : Str} {c : Value} {i : Nat} {e : Expr} {es : List Expr} {b₀ : Stmt} {suite : List Stmt} {np fp cpos rp pos pos' : Pos} {Φ : List D → PM → Out D} {fa : FA} {k : Nat} {tst : List (Addr × Bool)} {g : Addr → Addr → Addr → FS}
/-- e.f in the suite -/
theorem pd_fld {E : XK} {a : Addr} {oe : Obj} {dd C' C : Addr} {pn : List (Addr × Obj)} {fl : Str} (T : XfC X.K C) (hno : PySem.W.findIn X.K (.ref C) fl = some none) (hz : Zc (.ref C') (some dd) oe) (hf : ∃ vs, oe.data = .fields vs) (hv : PE (X.suite a ((a, oe) :: pn)) e (tVar i)) (hb : attributeBase e fl X.env (eval e X.env) = eval e X.env := by rfl) : PD (X.suite a ((a, oe) :: pn)) E (.Attribute e fl pos) (pFld a dd C' C i fl) :=
  ⟨_, pe_xf T hno hz hf hv hb, r_fld⟩
theorem pds_tryRet (c1 : CalleeX X.prog X.w X.K X.mg X.base f k Φ) (hr : Room k X.A) (hgf : Gl X f) (ha : ∀ pn xe, PDA (X.tr pn xe) E0 (e :: es) fa)
    (hN : X.N.Nodup) (hn : X.N[i]? = some n) (hkind : X.env.kindOf n = some .local) (hc : Names X x c) (hs : X.stack = X.env :: X.outer) (hfr : X.env.frame = some X.env.locals)
    (ht : ∀ C b, tst.lookup C = some b → PySem.W.exmOne X.K (.ref C) c = some b)
    (hi : ∀ (a dd C : Addr) (ns : List Str) (ds : List D) (ρ : Rho) (M : PM), clean i (g a dd C (ρ.set i (some (.xcp a dd ns ds))) M) = clean i (g 0 0 C (ρ.set i (some (.xcp 0 0 ns ds))) M))
    (hsu : ∀ (a : Addr) (oe : Obj) (C dd : Addr) (pn : List (Addr × Obj)), Zc (.ref C) (some dd) oe → (∃ vs, oe.data = .fields vs) → PDB (X.suite a ((a, oe) :: pn)) E0 (b₀ :: suite) (g a dd C))
    (he : starEach (e :: es) X.env = (false, eval e X.env) :: starEach es X.env := by rfl) (hpl : (backTo cpos (starEach es X.env)).any (·.1) = false := by rfl) (hdb : (f == ("__debug__" : Str)) = false := by decide) :
    PDS X E0 (.Try [.Return (some (.Call (.Name f fp) (e :: es) [] cpos)) rp] [.ExceptHandler (some (.Name x np)) (some n) (b₀ :: suite) pos'] [] [] pos) (sTry i tst Φ fa (fun d ρ M => .ok (.rt d) M) g) := by
  obtain ⟨fI, fd, ps, h1, h2, h3, h4⟩ := c1.ex
  refine ⟨_, ps_try_as (c := c) (i := i) (tb := fun W => tRet (tCallS (spP X.K Φ) (WE W) (canA X.K E0 fa))) (ts := suiteT X.K g) hs hfr hN hn hkind hc takes0 (fun W pn xe tk po => pss_one (ps_ret (pe_callS h1 hr hgf h2 h3 h4 (fun σ => passAt tk σ) (ha pn xe).canA hdb he hpl))) (fun a oe cls d pn hz hf => ?_), ?_⟩
  · cases cls with
    | ref C => cases d with
      | some dd => exact (hsu a oe C dd pn hz hf).canB
      | none => exact ⟨fun pins s σ H D I q => q.elim⟩
    | _ => exact ⟨fun pins s σ H D I q => q.elim⟩
  · exact s_try (tq := fun v D σ H => D.rt v H) canA_r (fun W D σ H q => q) (fun ρ σ H α M D d v e w r q => q.now (b := FlV.rt v) w r) ht hi (fun a dd C => canS_r)
theorem pds_tryAsg {y : Str} {yp ap : Pos} (j : Nat) (c1 : CalleeX X.prog X.w X.K X.mg X.base f k Φ) (hr : Room k X.A) (hgf : Gl X f) (ha : ∀ pn xe, PDA (X.tr pn xe) E0 (e :: es) fa)
    (hN : X.N.Nodup) (hn : X.N[i]? = some n) (hkind : X.env.kindOf n = some .local) (hc : Names X x c) (hs : X.stack = X.env :: X.outer) (hfr : X.env.frame = some X.env.locals)
    (ht : ∀ C b, tst.lookup C = some b → PySem.W.exmOne X.K (.ref C) c = some b)
    (hi : ∀ (a dd C : Addr) (ns : List Str) (ds : List D) (ρ : Rho) (M : PM), clean i (g a dd C (ρ.set i (some (.xcp a dd ns ds))) M) = clean i (g 0 0 C (ρ.set i (some (.xcp 0 0 ns ds))) M))
    (hsu : ∀ (a : Addr) (oe : Obj) (C dd : Addr) (pn : List (Addr × Obj)), Zc (.ref C) (some dd) oe → (∃ vs, oe.data = .fields vs) → PDB (X.suite a ((a, oe) :: pn)) E0 (b₀ :: suite) (g a dd C))
    (hst : ∀ (pn : List (Addr × Obj)) (xe : Value → Shared → Prop) (te : TE), PE (X.tr pn xe) (.Call (.Name f fp) (e :: es) [] cpos) te → PS (X.tr pn xe) (.Assign [.Name y yp] (.Call (.Name f fp) (e :: es) [] cpos) ap) (tAsg te (gName j)))
    (he : starEach (e :: es) X.env = (false, eval e X.env) :: starEach es X.env := by rfl) (hpl : (backTo cpos (starEach es X.env)).any (·.1) = false := by rfl) (hdb : (f == ("__debug__" : Str)) = false := by decide) :
    PDS X E0 (.Try [.Assign [.Name y yp] (.Call (.Name f fp) (e :: es) [] cpos) ap] [.ExceptHandler (some (.Name x np)) (some n) (b₀ :: suite) pos'] [] [] pos) (sTry i tst Φ fa (fun d ρ M => .ok (.nx (ρ.set j (some d))) M) g) := by
  obtain ⟨fI, fd, ps, h1, h2, h3, h4⟩ := c1.ex
  refine ⟨_, ps_try_as (c := c) (i := i) (tb := fun W => tAsg (tCallS (spP X.K Φ) (WE W) (canA X.K E0 fa)) (gName j)) (ts := suiteT X.K g) hs hfr hN hn hkind hc takes0 (fun W pn xe tk po => pss_one (hst pn xe _ (pe_callS h1 hr hgf h2 h3 h4 (fun σ => passAt tk σ) (ha pn xe).canA hdb he hpl))) (fun a oe cls d pn hz hf => ?_), ?_⟩
  · cases cls with
    | ref C => cases d with
      | some dd => exact (hsu a oe C dd pn hz hf).canB
      | none => exact ⟨fun pins s σ H D I q => q.elim⟩
    | _ => exact ⟨fun pins s σ H D I q => q.elim⟩
  · exact s_try (tq := fun v D σ H => D.nx (σ.set j (some v)) H) canA_r (fun W D σ H q => q) (fun ρ σ H α M D d v e w r q => q.now (b := FlV.nx (σ.set j (some v))) w (e.set r)) ht hi (fun a dd C => canS_r)
end
end Pd

set_option Elab.async false
set_option linter.all false
set_option maxRecDepth 100000
set_option maxHeartbeats 1000000
namespace Pd
open PySem L2 PyProof.Rows

/-! ### xs[a:b:c] of a list -/
def pickL {α : Type} (ds : List α) (lo hi : Option Int) (k : Int) : List α :=
  (sliceRange (sliceBounds lo hi (some k) ds.length).1 (sliceBounds lo hi (some k) ds.length).2.1 (sliceBounds lo hi (some k) ds.length).2.2).filterMap (ds[·]?)
def tSl3 (K : PySem.W.Frag) (te : TE) (tl th ts : TO) : TE := fun σ H Q => te σ H fun x H1 => tl σ H1 fun l H2 => th σ H2 fun u H3 => ts σ H3 fun o H4 =>
  ∃ (k : Int) (a : Addr) (xs : List V), o = some k ∧ k ≠ 0 ∧ x = .ref a ∧ SqL K H4 a xs ∧ ∀ p, H4 p = none → Q (.ref p) (upd H4 p (.lst (pickL xs l u k)))
theorem vals_pick {vs : List V} {us : List Value} (r : Vals vs us) : ∀ is : List Nat, Vals (is.filterMap (vs[·]?)) (is.filterMap (us[·]?))
  | [] => .nil
  | i :: is => by
    by_cases h : i < vs.length
    · obtain ⟨u, hu, ru⟩ := r.get (List.getElem?_eq_getElem h)
      rw [List.filterMap_cons_some (List.getElem?_eq_getElem h), List.filterMap_cons_some hu]
      exact .cons ru (vals_pick r is)
    · have hl := r.length
      rw [List.filterMap_cons_none (List.getElem?_eq_none (by omega)), List.filterMap_cons_none (List.getElem?_eq_none (by omega))]
      exact vals_pick r is
theorem pe_sl3 {X : Cx} {e st : Expr} {te : TE} {lo hi : Option Expr} {tl th ts : TO} {p3 pos : Pos} (he : PE X e te) (hl : PO X lo tl) (hu : PO X hi th) (hs : PO X (some st) ts) :
    PE X (.Subscript e (.Slice lo hi (some st) p3) pos) (tSl3 X.K te tl th ts) := by
  refine ⟨fun pins s σ H Q I h => ?_⟩
  refine Subscript_ (thn (he.run pins s σ H _ I h) fun v s1 ⟨x, H1, I1, r1, q1⟩ => ?_)
  refine wpAny_Slice (thn (hl.run pins s1 σ H1 _ I1 q1) fun vl s2 ⟨l, H2, I2, pl, q2⟩ => thn (hu.run pins s2 σ H2 _ I2 q2) fun vu s3 ⟨u, H3, I3, pu, q3⟩ => thn (hs.run pins s3 σ H3 _ I3 q3) fun vs s4 ⟨o, H4, I4, ps, q4⟩ => ?_)
  obtain ⟨k, a, xs, eo, k0, ex, hx, q⟩ := q4
  subst eo ex
  cases r1
  have I5 : Inv X pins σ H4 { s4 with heap := s4.heap.push { cls := .type "slice", data := .fields #[vl, vu, vs] } } := I4.kept (t' := s4.toks) fun b ob q => Heap.get?_push_of_some _ q
  obtain ⟨its, r, ht, hz⟩ := I5.list hx
  have hlen := r.length
  show wpAny (model X.prog X.w) X.A (subscriptTail e (.Slice lo hi (some st) p3) (.ref a) (.ref s4.heap.objs.size)) (EP X pins σ Q) X.xe { s4 with heap := s4.heap.push { cls := .type "slice", data := .fields #[vl, vu, vs] } }
  refine tail_any (ops := [.ref a, .ref s4.heap.objs.size]) ht.isList.typeIs (PySem.slot_list_getitem.lookup) ?_ (by with_unfolding_all rfl)
  refine wpAny_getItem_list_slice ht.isList (Heap.IsSliceOf.new _ vl vu vs) pl pu ps (by intro z; cases z; exact k0 rfl) ?_ (by rw [List.size_toArray]; omega)
  have hp : (slicePick its.toArray l u (some k)).toList = pickL its l u k := by simp [slicePick, pickL]
  have rp : Vals (pickL xs l u k) (pickL its l u k) := by
    unfold pickL
    rw [hlen]
    exact vals_pick r _
  refine ⟨.ref _, _, I5.laid (t' := s4.toks) (o := .lst (pickL xs l u k)) (fun b ob q => Heap.get?_push_of_some _ q) (Nat.le_refl _) ?_, rfl, q _ (I5.hok.fresh (Nat.le_refl _))⟩
  refine ⟨?_, _, 0, rp, by rw [← hp, Array.toArray_toList]; exact Heap.get?_push_size _ rfl⟩
  have h1 := slicePick_size_le its.toArray l u (some k)
  have h2 := rp.length
  have h3 : its.toArray.size = its.length := by simp
  have h4 : (slicePick its.toArray l u (some k)).toList.length = (slicePick its.toArray l u (some k)).size := Array.length_toList
  rw [h2, ← hp, h4]
  omega
def pSl3 (f : FE) (fl fh : FO) (fs : FE) : FE := fun ρ M => (f ρ M).bind fun a M1 => (fl ρ M1).bind fun l M2 => (fh ρ M2).bind fun u M3 => (fs ρ M3).bind fun k M4 => match k, listOf M4 a with
  | .int k, some ds => if k ≠ 0 then .ok (.lst (pickL ds l u k)) M4 else .bad
  | _, _ => .bad
section
variable {K : PySem.W.Frag} {E : XK}
theorem repL_pick {α : List Addr} {H : Hp} {ds : List D} {vs : List V} (r : RepL K α H ds vs) : ∀ is : List Nat, RepL K α H (is.filterMap (ds[·]?)) (is.filterMap (vs[·]?))
  | [] => .nil
  | i :: is => by
    by_cases h : i < ds.length
    · obtain ⟨u, hu, ru⟩ := r.get (List.getElem?_eq_getElem h)
      rw [List.filterMap_cons_some (List.getElem?_eq_getElem h), List.filterMap_cons_some hu]
      exact .cons ru (repL_pick r is)
    · have hl := r.length
      rw [List.filterMap_cons_none (List.getElem?_eq_none (by omega)), List.filterMap_cons_none (List.getElem?_eq_none (by omega))]
      exact repL_pick r is
theorem r_sl3 {te : TE} {tl th : TO} {ts : TE} {fe : FE} {fl fh : FO} {fs : FE} (he : RE K E te fe) (hl : RO K E tl fl) (hh : RO K E th fh) (hs : RE K E ts fs) : RE K E (tSl3 K te tl th (tPart ts)) (pSl3 fe fl fh fs) := fun ρ σ H α M Q e w h =>
  he ρ σ H α M _ e w (bnd h fun a M1 x α1 H1 _ s1 w1 r1 h1 => hl ρ σ H1 α1 M1 _ (e.step s1) w1 (bnd h1 fun l M2 l' α2 H2 _ s2 w2 r2 h2 => by
    subst r2
    exact hh ρ σ H2 α2 M2 _ ((e.step s1).step s2) w2 (bnd h2 fun u M3 u' α3 H3 _ s3 w3 r3 h3 => by
      subst r3
      exact hs ρ σ H3 α3 M3 _ (((e.step s1).step s2).step s3) w3 (bnd h3 fun k M4 v α4 H4 _ s4 w4 r4 h4 => by
        cases k with
        | int k =>
          cases r4
          split at h4
          · rename_i k' ds hk hd
            cases hk
            obtain ⟨h0, h5⟩ := ifb h4
            obtain ⟨p, xs, rfl, hq, rs⟩ := list_ok w4 (Rep.step s4 _ _ (Rep.step s3 _ _ (Rep.step s2 _ _ r1))) hd
            refine ⟨k, rfl, k, p, xs, rfl, h0, rfl, hq, fun p' hp => h5.nowX w4 (ex_new hp) (new_lst w4 hp ?_)⟩
            unfold pickL
            rw [← rs.length]
            exact repL_pick rs _
          · exact h4.elim
        | _ => exact (by split at h4 <;> first | exact h4.elim | (rename_i z _; cases z))))))
end
theorem pd_sl3 {X : Cx} {E : XK} {e st : Expr} {fe fs : FE} {lo hi : Option Expr} {fl fh : FO} {p3 pos : Pos} (he : PD X E e fe) (hl : PDO X E lo fl) (hh : PDO X E hi fh) (hs : PD X E st fs) : PD X E (.Subscript e (.Slice lo hi (some st) p3) pos) (pSl3 fe fl fh fs) := by
  obtain ⟨t, he, r⟩ := he
  obtain ⟨tl, hl, rl⟩ := hl
  obtain ⟨th, hh, rh⟩ := hh
  obtain ⟨ts, hs, rs⟩ := hs
  exact ⟨_, pe_sl3 he hl hh (po_some hs), r_sl3 r rl rh rs⟩
/-! ### list(range(a, b, c)) -/
def rgC (i c : Int) (n : Nat) : List V := (List.range n).map fun k => V.int (i + (k : Nat) * c)
def tLR3 (ta : TA) : TE := fun σ H Q => ta σ H fun vs H1 => ∃ (i j c : Int) (n : Nat), vs = [.int i, .int j, .int c] ∧ RgC i j c n ∧ n ≤ 2 ^ 24 ∧ ∀ p, H1 p = none → Q (.ref p) (upd H1 p (.lst (rgC i c n)))
theorem vals_rgC {i c : Int} {n : Nat} {acc : Array Value} (h : ItemsOf (fun k v => ∃ t, v = .int (i + k * c) t) acc n) : Vals (rgC i c n) acc.toList := by
  have e : acc.toList.length = n := by rw [Array.length_toList]; exact h.1
  unfold rgC
  rw [← e]
  refine vals_of_get acc.toList _ fun j u hj => ?_
  obtain ⟨t, rfl⟩ := h.2 j u (by rw [← hj, Array.getElem?_toList])
  exact ⟨t, rfl⟩
theorem pe_listR3 {X : Cx} {a b c : Expr} {ta : TA} {p p2 q pos : Pos} (hc : X.calm = true) (hg : Gl X "list") (hm : X.mg "list" = none) (hg2 : Gl X "range") (hm2 : X.mg "range" = none) (ha : PA X [a, b, c] ta)
    (na : starEach [(.Call (.Name "range" p2) [a, b, c] [] q : Expr)] X.env = (false, eval (.Call (.Name "range" p2) [a, b, c] [] q) X.env) :: starEach [] X.env := by rfl)
    (hs : starEach [a, b, c] X.env = (false, eval a X.env) :: starEach [b, c] X.env := by rfl) (hpl : (backTo q (starEach [b, c] X.env)).any (·.1) = false := by rfl) :
    PE X (.Call (.Name "list" p) [.Call (.Name "range" p2) [a, b, c] [] q] [] pos) (tLR3 ta) := by
  refine ⟨fun pins s σ H Q I h => ?_⟩
  refine Call_ (ld_blt I hg hm boot_list (PyProof.Rows.callWith_type1 (args_cons ?_ na) na))
  refine Call_ (ld_blt I hg2 hm2 boot_range (PyProof.Rows.callWith_type1 (thn (ha.run q pins s σ H _ I h) fun us s1 ⟨vs, H1, I1, r1, q1⟩ => ?_) hs hpl))
  obtain ⟨i, j, k, n, e, ⟨c0, c1, c2, c3⟩, hn, q1⟩ := q1
  subst e
  cases r1 with
  | cons r rr =>
    cases rr with
    | cons r' rr =>
      cases rr with
      | cons r'' rr =>
        cases rr
        obtain ⟨t, rfl⟩ := r
        obtain ⟨t', rfl⟩ := r'
        obtain ⟨t'', rfl⟩ := r''
        refine call_range_3 c0 ?_ (.inl (PyProof.noPylong_small c1))
        refine args_nil ?_
        have I2 : Inv X pins σ H1 { s1 with heap := s1.heap.push { cls := .type "range", data := .fields #[.int i t, .int j t', .int k t''] } } := I1.kept (t' := s1.toks) fun b o e => Heap.get?_push_of_some _ e
        refine call_list_range (n := n) (I2.ok.hd hc) (IsRange.new ..) c2 c3 hn fun h' tk acc c' hk e' hi => ?_
        refine ⟨.ref _, upd H1 _ (.lst (rgC i k n)), I2.laid hk (Nat.le_refl _) (show ObjOk X.prog X.w _ _ _ (.lst (rgC i k n)) from ⟨?_, acc.toList, c', vals_rgC hi, ?_⟩), rfl, q1 _ (I2.hok.fresh (Nat.le_refl _))⟩
        · unfold rgC; rw [List.length_map, List.length_range, sizeLine_eq]; omega
        · rw [Array.toArray_toList]; exact e'
def pLR3 (f : FA) : FE := fun ρ M => (f ρ M).bind fun as M1 => match as with
  | [.int i, .int j, .int c] => if (decide (c ≠ 0) && decide (c.natAbs < 1073741824) && PySem.Builtin.Range.small i j c && decide (0 ≤ PySem.Builtin.Range.rangeSize i j c) && decide (PySem.Builtin.Range.rangeSize i j c ≤ 16777216)) = true then .ok (.lst (rngC i c (PySem.Builtin.Range.rangeSize i j c).toNat)) M1 else .bad
  | _ => .bad
theorem rep_rgC {K : PySem.W.Frag} {α : List Addr} {H : Hp} {i c : Int} : ∀ n : Nat, RepL K α H (rngC i c n) (rgC i c n) := fun n => by
  unfold rngC rgC
  generalize List.range n = l
  induction l with
  | nil => exact .nil
  | cons x l ih => exact .cons (.int _) ih
theorem r_listR3 {K : PySem.W.Frag} {E : XK} {ta : TA} {fa : FA} (ha : RA K E ta fa) : RE K E (tLR3 ta) (pLR3 fa) := fun ρ σ H α M Q e w h =>
  ha ρ σ H α M _ e w (bnd h fun as M1 xs α1 H1 _ s1 w1 r1 q => by
    split at q
    · rename_i i j c _
      obtain ⟨x, y, z, rfl, r, r', r''⟩ := rep3 r1
      cases r
      cases r'
      cases r''
      obtain ⟨hj, q⟩ := ifb q
      simp only [Bool.and_eq_true, decide_eq_true_eq] at hj
      obtain ⟨⟨⟨⟨h1, h2⟩, h3⟩, h4⟩, h5⟩ := hj
      exact ⟨_, _, _, (PySem.Builtin.Range.rangeSize i j c).toNat, rfl, ⟨h1, h2, h3, by omega⟩, by omega, fun p hp => q.nowX w1 (ex_new hp) (new_lst w1 hp (rep_rgC _))⟩
    · exact q.elim)
theorem pd_listR3 {X : Cx} {E : XK} {a b c : Expr} {fa : FA} {p p2 q pos : Pos} (hc : X.calm = true) (hg : Gl X "list") (hm : X.mg "list" = none) (hg2 : Gl X "range") (hm2 : X.mg "range" = none) (ha : PDA X E [a, b, c] fa)
    (na : starEach [(.Call (.Name "range" p2) [a, b, c] [] q : Expr)] X.env = (false, eval (.Call (.Name "range" p2) [a, b, c] [] q) X.env) :: starEach [] X.env := by rfl)
    (hs : starEach [a, b, c] X.env = (false, eval a X.env) :: starEach [b, c] X.env := by rfl) (hpl : (backTo q (starEach [b, c] X.env)).any (·.1) = false := by rfl) :
    PD X E (.Call (.Name "list" p) [.Call (.Name "range" p2) [a, b, c] [] q] [] pos) (pLR3 fa) := by
  obtain ⟨ta, ha, ra⟩ := ha
  exact ⟨_, pe_listR3 hc hg hm hg2 hm2 ha na hs hpl, r_listR3 ra⟩
end Pd

set_option Elab.async false
set_option linter.all false
set_option maxRecDepth 100000
set_option maxHeartbeats 2000000
namespace Pd
open PySem L2
/-! ### all, any of a list of bools; a text's isdigit -/
def blL : List D → Option (List Bool)
  | [] => some []
  | .bl b :: r => (blL r).map (b :: ·)
  | _ => none
theorem blL_rep {K : PySem.W.Frag} {α : List Addr} {H : Hp} : ∀ {ds : List D} {xs : List V} {bs : List Bool}, RepL K α H ds xs → blL ds = some bs → xs = bs.map V.bl
  | [], _, _, .nil, e => by cases e; rfl
  | d :: ds, _, bs, .cons r t, e => by
    cases d with
    | bl b =>
      simp only [blL, Option.map_eq_some_iff] at e
      obtain ⟨cs, e, rfl⟩ := e
      cases r
      rw [blL_rep t e]
      rfl
    | _ => cases e
def bBls (k : List Bool → Bool) : PM → List D → Out D := fun M as => match as with
  | [a] => match listOf M a with
    | some ds => match blL ds with
      | some bs => .ok (.bl (k bs)) M
      | none => .bad
    | none => .bad
  | _ => .bad
def bAll : PM → List D → Out D := bBls fun bs => bs.all id
def bAny : PM → List D → Out D := bBls fun bs => bs.any id
section
variable {K : PySem.W.Frag} {E : XK} {X : Cx}
theorem bBls_ok {α : List Addr} {H : Hp} {M : PM} {as : List D} {xs : List V} {Q : V → Hp → Prop} {k : List Bool → Bool} (w : Wd K α M H) (ra : RepL K α H as xs) (q : Post (Rep K) K α H Q E (bBls k M as)) :
    ∃ (p : Addr) (bs : List Bool), xs = [V.ref p] ∧ SqL K H p (bs.map V.bl) ∧ Post (Rep K) K α H Q E (.ok (.bl (k bs)) M) := by
  unfold bBls at q
  split at q
  · obtain ⟨x, rfl, r⟩ := rep1 ra
    split at q
    · rename_i ds hd
      obtain ⟨p, xs, rfl, hs, rs⟩ := list_ok w r hd
      split at q
      · rename_i bs hn
        have ex := blL_rep rs hn
        subst ex
        exact ⟨p, bs, rfl, hs, q⟩
      · exact q.elim
    · exact q.elim
  · exact q.elim
theorem b_all (hc : X.calm = true) : Blt X E (.builtin "all") bAll := ⟨_, cr_all hc, fun α H M as xs Q w ra q => by
  obtain ⟨p, bs, rfl, h1, q⟩ := bBls_ok w ra q
  exact ⟨p, bs, rfl, h1, q.now w (.bl _)⟩⟩
theorem b_any (hc : X.calm = true) : Blt X E (.builtin "any") bAny := ⟨_, cr_any hc, fun α H M as xs Q w ra q => by
  obtain ⟨p, bs, rfl, h1, q⟩ := bBls_ok w ra q
  exact ⟨p, bs, rfl, h1, q.now w (.bl _)⟩⟩
def gDig : PM → D → Out D := fun M a => match a with
  | .str z => .ok (.bl (Txt.isdigit z)) M
  | _ => .bad
theorem r_dig {to : TE} {fo : FE} (ho : RE K E to fo) : RE K E (tM0 (fun x xs H Q => ∃ a, x = .str a ∧ xs = [] ∧ True ∧ Q (.bl (Txt.isdigit a)) H) to) (pUn gDig fo) := fun ρ σ H α M Q e w h =>
  ho ρ σ H α M _ e w (bnd h fun a M1 x α1 H1 _ s1 w1 r1 q => by
    unfold gDig at q
    split at q
    · cases r1
      exact ⟨⟨_, rfl⟩, _, rfl, rfl, trivial, q.now w1 (.bl _)⟩
    · exact q.elim)
theorem pd_dig {o : Expr} {fo : FE} {apos pos : Pos} (ho : PD X E o fo) (hbase : attributeBase o "isdigit" X.env (eval o X.env) = eval o X.env := by rfl) (hline : (apos.endLine == pos.line) = true := by rfl) :
    PD X E (.Call (.Attribute o "isdigit" apos) [] [] pos) (pUn gDig fo) := by
  obtain ⟨t, ho, r⟩ := ho
  exact ⟨_, pe_m0 PySem.F.slot_str_isdigit PySem.F.type_str_isdigit mt_isdigit ho hbase hline, r_dig r⟩
end
end Pd

set_option Elab.async false
set_option linter.all false
set_option maxRecDepth 100000
set_option maxHeartbeats 4000000
/-! list comprehensions of any number of clauses -/
namespace Lcn
open PySem PySem.Spec L2
/-- a clause, and what it is told to do -/
structure Cl where
  tg : Expr
  src : Expr
  ifs : List Expr
  wi : TI
  g : TG
  tt : TT
  vs : List Nat
def Cl.c (q : Cl) : Comprehension := ⟨q.tg, q.src, q.ifs, 0⟩
structure GtOk (Y : Cx) (q : Cl) : Prop where
  g : PG Y q.tg q.g
  t : PTs Y q.ifs q.tt
structure SrcOk (Y : Cx) (q : Cl) : Prop where
  i : PI Y q.tg q.src q.wi
  s : ∀ x, foldedSetIterable q.src Y.env x = pure x
/-- what is left behind the tests of a clause: the further clauses, then the item -/
def tIn (te : TE) (D : Addr) : List Cl → L2.St → Hp → (Hp → Prop) → Prop
  | [], σ, H, Nx => te σ H fun y H1 => ∃ acc, H1 D = some (.lst acc) ∧ acc.length < sizeLine ∧ Nx (upd H1 D (.lst (acc ++ [y])))
  | q :: r, σ, H, Nx => q.wi σ H fun J H1 => ∃ W : Nat → Nat → Hp → Prop, (∃ m, W 0 m H1) ∧ ∀ j k H2, W j k H2 →
      (J.stop j H2 ∧ Nx H2) ∨ (J.go j H2 ∧ ∃ Nx1 : Hp → Prop, (∀ H3, Nx1 H3 → ∃ k', k' < k ∧ W (j + 1) k' H3) ∧ ∀ x H3, J.yld j H2 x H3 → q.g x (wipe σ q.vs) H3 fun σ3 H4 =>
        wipe σ3 q.vs = wipe σ q.vs ∧ q.tt σ3 H4 fun b H5 => if b = true then tIn te D r σ3 H5 Nx1 else Nx1 H5)
/-- a clause that stands ahead of another wipes all that the other one does -/
def Nest (q : Cl) : List Cl → Prop
  | [] => True
  | q1 :: r => (∀ i ∈ q1.vs, i ∈ q.vs) ∧ Nest q1 r
section
variable {Y : Cx} {elt : Expr} {gs : List Comprehension} {scope : Scope} {pos : Pos} {D : Addr} {te : TE}
theorem start_ok {q : Cl} {c : Nat} {it acc : Value} {R : Result → Shared → Prop} {s : Shared} (hg : gs[c]? = some q.c)
    (h0 : codeAny (model Y.prog Y.w) Y.A (.compLoop (.ListComp elt gs scope pos) c it acc Y.env) R s)
    (h : wpAny (model Y.prog Y.w) Y.A (pyIter it) (fun i2 s2 => codeAny (model Y.prog Y.w) Y.A (.compLoop (.ListComp elt gs scope pos) c i2 acc Y.env) R s2) (notedBy (model Y.prog Y.w) Y.A Y.env fun x s2 => R (.error x) s2) s) :
    codeAny (model Y.prog Y.w) Y.A (.compStart (.ListComp elt gs scope pos) c it acc Y.env) R s := by
  refine codeAny_of_tree ?_
  refine wpAny_notedAt (E := _) (Q := _) ?_
  have e : (clausesOf (.ListComp elt gs scope pos))[c]? = some q.c := hg
  unfold compStart
  rw [e]
  show wpAny _ _ (ask >>= _) _ _ s
  refine wpAny_bind (wpAny_askSetting (wpAny_ite ?_))
  split
  · exact wpAny_pure (And.intro rfl h0)
  · refine wpAny_bind (wpAny_rule ?_)
    show wpAny _ _ (standAt q.src.pos >>= _) _ _ s
    exact wpAny_bind (wpAny_standAt (wpAny_bind (wpAny_mono h (fun _ _ hh => wpAny_pure (And.intro rfl hh)) fun _ _ x => x)))
/-- the loop of a clause, and of all behind it -/
theorem loop_ok (hx : Y.xe = fun _ _ => False) (hc : Y.calm = true) (he : PE Y elt te) : ∀ (r : List Cl) (q : Cl) (c : Nat), gs.drop c = (q :: r).map Cl.c → (∀ x ∈ q :: r, GtOk Y x) → (∀ x ∈ r, SrcOk Y x) → Nest q r →
    ∀ (pins : List (Addr × Obj)) (σ : L2.St) (Nx : Hp → Prop) (it : Addr) (fp : List Addr) (tn : Nat → Heap → Prop) (J : It) (W : Nat → Nat → Hp → Prop) (R : Result → Shared → Prop) (s : Shared) (H : Hp) (m : Nat),
    Turn Y.prog Y.w Y.K q.tg J fp it tn → (∀ {σ1 : L2.St} {H1 : Hp} {s1 : Shared}, Inv Y pins σ1 H1 s1 → (∀ b ∈ fp, H1 b = none) → ∀ b ∈ fp, FpOk Y pins H1 b) →
    Inv Y pins (wipe σ q.vs) H s → tn 0 s.heap → (∀ b ∈ fp, H b = none) → W 0 m H →
    (∀ j k H2, W j k H2 → (J.stop j H2 ∧ Nx H2) ∨ (J.go j H2 ∧ ∃ Nx1 : Hp → Prop, (∀ H3, Nx1 H3 → ∃ k', k' < k ∧ W (j + 1) k' H3) ∧ ∀ x H3, J.yld j H2 x H3 → q.g x (wipe σ q.vs) H3 fun σ3 H4 =>
        wipe σ3 q.vs = wipe σ q.vs ∧ q.tt σ3 H4 fun b H5 => if b = true then tIn te D r σ3 H5 Nx1 else Nx1 H5)) →
    (∀ H1 s1, Inv Y pins (wipe σ q.vs) H1 s1 → (∀ b ∈ fp, H1 b = none) → Nx H1 → R (.ok .next) s1) →
    codeAny (model Y.prog Y.w) Y.A (.compLoop (.ListComp elt gs scope pos) c (.ref it) (.ref D) Y.env) R s := by
  intro r
  induction r with
  | nil =>
    intro q c hd hok hsr hn pins σ Nx it fp tn J W R s H m T fok I st fr w0 turn fin
    have hg : gs[c]? = some q.c := by
      have := congrArg (·[0]?) hd
      simpa using this
    have hg1 : gs[c + 1]? = none := by
      have := congrArg (·[1]?) hd
      simpa using this
    have oq := hok q (List.mem_cons_self ..)
    refine codeAny_loop rfl (fun n s1 => ∃ j H1, L2.Inv Y pins (wipe σ q.vs) H1 s1 ∧ tn j s1.heap ∧ (∀ b ∈ fp, H1 b = none) ∧ W j n H1) (fun n s1 hI => ?_) m ⟨0, H, I, st, fr, w0⟩
    obtain ⟨j, H1, I1, st1, fr1, w1⟩ := hI
    show wpAny _ Y.A _ _ _ _
    refine wpAny_noted (E := _) ?_
    unfold compTurn
    simp only [hg, hg1]
    refine wpAny_bind (wpAny_standAt (wpAny_bind ?_))
    rcases turn j n H1 w1 with ⟨stop, nx⟩ | ⟨go, Nx1, hNx, step⟩
    · refine thnF (T.done Y rfl rfl rfl hc j pins s1 _ H1 (fun _ _ => False) I1 (fok I1 fr1) st1 stop) fun r0 s2 hh => ?_
      obtain ⟨hr, I2⟩ := hh
      subst hr
      exact wpAny_pure (fin H1 s2 I2 fr1 nx)
    · refine thnF (T.item Y rfl rfl rfl hc j pins s1 _ H1 (fun _ _ => False) I1 (fok I1 fr1) st1 go) fun r0 s2 hh => ?_
      obtain ⟨u, hr, h2⟩ := hh
      subst hr
      refine wpAny_bind (thnF h2 fun _ s3 hh => ?_)
      obtain ⟨x, H3, I3, rx, y3, st3, n3⟩ := hh
      have I3p := I3.pinned (fok I3 n3) (T.obj _ _ st3)
      have pg := oq.g.run _ s3 _ H3 x u _ I3p rx (step x H3 y3)
      rw [hx] at pg
      refine wpAny_bind (thnF pg fun _ s4 hh => ?_)
      obtain ⟨σ4, H4, I4, hw4, q4⟩ := hh
      have pt := oq.t.run _ s4 σ4 H4 _ I4 q4
      rw [hx] at pt
      refine wpAny_bind (thnF pt fun b s5 hh => ?_)
      obtain ⟨H5, I5, q5⟩ := hh
      have back : ∀ {σ9 : L2.St} {s9 : Shared} {H9 : Hp}, L2.Inv Y (pins ++ pinsAt fp s3.heap) σ9 H9 s9 → (wipe σ q.vs).length = σ9.length → (∀ i v, (wipe σ q.vs)[i]? = some (some v) → σ9[i]? = some (some v)) → Nx1 H9 →
          ∃ m2, m2 < n ∧ ∃ j H2, L2.Inv Y pins (wipe σ q.vs) H2 s9 ∧ tn j s9.heap ∧ (∀ b ∈ fp, H2 b = none) ∧ W j m2 H2 := fun {σ9 s9 H9} I9 hl hk nx => by
        obtain ⟨m2, hm, w2⟩ := hNx H9 nx
        have pp : ∀ b ∈ fp, ∀ o, s3.heap.get? b = some o → s9.heap.get? b = some o ∧ H9 b = none := fun b hb o e => by
          have z := I9.pin (b, o) (List.mem_append_right _ (List.mem_append_right _ (mem_pinsAt hb e)))
          exact ⟨z.1, z.2.1⟩
        refine ⟨m2, hm, j + 1, H9, I9.unpinned.weak hl hk, T.keep _ _ _ st3 fun b hb o e => (pp b hb o e).1, fun b hb => ?_, w2⟩
        obtain ⟨o, e, _⟩ := T.obj _ _ st3 b hb
        exact (pp b hb o e).2
      have l4 : (wipe σ q.vs).length = σ4.length := by rw [← hw4, wipe_length]
      have k4 : ∀ i v, (wipe σ q.vs)[i]? = some (some v) → σ4[i]? = some (some v) := fun i v e => by
        rw [← hw4] at e
        exact (wipe_some e).1
      cases b with
      | false =>
        rw [if_neg Bool.false_ne_true] at q5
        obtain ⟨m2, hm, rest⟩ := back I5 l4 k4 q5
        exact wpAny_pure ⟨rfl, m2, hm, rest⟩
      | true =>
        rw [if_pos rfl] at q5
        have pe := he.run _ s5 σ4 H5 _ I5 q5
        rw [hx] at pe
        refine wpAny_bind (wpAny_bind (thnF pe fun z s6 hh => ?_))
        obtain ⟨yv, H6, I6, r6, acc, hD, hz, nx⟩ := hh
        refine wpAny_bind (app_ok (X := Y) I6 hD hz r6 fun s7 I7 => ?_)
        obtain ⟨m2, hm, rest⟩ := back I7 l4 k4 nx
        exact wpAny_pure (wpAny_pure ⟨rfl, m2, hm, rest⟩)
  | cons q1 r ih =>
    intro q c hd hok hsr hn pins σ Nx it fp tn J W R s H m T fok I st fr w0 turn fin
    have hg : gs[c]? = some q.c := by
      have := congrArg (·[0]?) hd
      simpa using this
    have hg1 : gs[c + 1]? = some q1.c := by
      have := congrArg (·[1]?) hd
      simpa using this
    have hd1 : gs.drop (c + 1) = (q1 :: r).map Cl.c := by
      have := congrArg (List.drop 1) hd
      rw [List.drop_drop] at this
      simpa using this
    have oq := hok q (List.mem_cons_self ..)
    have oq1 := hsr q1 (List.mem_cons_self ..)
    refine codeAny_loop rfl (fun n s1 => ∃ j H1, L2.Inv Y pins (wipe σ q.vs) H1 s1 ∧ tn j s1.heap ∧ (∀ b ∈ fp, H1 b = none) ∧ W j n H1) (fun n s1 hI => ?_) m ⟨0, H, I, st, fr, w0⟩
    obtain ⟨j, H1, I1, st1, fr1, w1⟩ := hI
    show wpAny _ Y.A _ _ _ _
    refine wpAny_noted (E := _) ?_
    unfold compTurn
    simp only [hg, hg1]
    refine wpAny_bind (wpAny_standAt (wpAny_bind ?_))
    rcases turn j n H1 w1 with ⟨stop, nx⟩ | ⟨go, Nx1, hNx, step⟩
    · refine thnF (T.done Y rfl rfl rfl hc j pins s1 _ H1 (fun _ _ => False) I1 (fok I1 fr1) st1 stop) fun r0 s2 hh => ?_
      obtain ⟨hr, I2⟩ := hh
      subst hr
      exact wpAny_pure (fin H1 s2 I2 fr1 nx)
    · refine thnF (T.item Y rfl rfl rfl hc j pins s1 _ H1 (fun _ _ => False) I1 (fok I1 fr1) st1 go) fun r0 s2 hh => ?_
      obtain ⟨u, hr, h2⟩ := hh
      subst hr
      refine wpAny_bind (thnF h2 fun _ s3 hh => ?_)
      obtain ⟨x, H3, I3, rx, y3, st3, n3⟩ := hh
      have I3p := I3.pinned (fok I3 n3) (T.obj _ _ st3)
      have pg := oq.g.run _ s3 _ H3 x u _ I3p rx (step x H3 y3)
      rw [hx] at pg
      refine wpAny_bind (thnF pg fun _ s4 hh => ?_)
      obtain ⟨σ4, H4, I4, hw4, q4⟩ := hh
      have pt := oq.t.run _ s4 σ4 H4 _ I4 q4
      rw [hx] at pt
      refine wpAny_bind (thnF pt fun b s5 hh => ?_)
      obtain ⟨H5, I5, q5⟩ := hh
      have back : ∀ {σ9 : L2.St} {s9 : Shared} {H9 : Hp}, L2.Inv Y (pins ++ pinsAt fp s3.heap) σ9 H9 s9 → (wipe σ q.vs).length = σ9.length → (∀ i v, (wipe σ q.vs)[i]? = some (some v) → σ9[i]? = some (some v)) → Nx1 H9 →
          ∃ m2, m2 < n ∧ ∃ j H2, L2.Inv Y pins (wipe σ q.vs) H2 s9 ∧ tn j s9.heap ∧ (∀ b ∈ fp, H2 b = none) ∧ W j m2 H2 := fun {σ9 s9 H9} I9 hl hk nx => by
        obtain ⟨m2, hm, w2⟩ := hNx H9 nx
        have pp : ∀ b ∈ fp, ∀ o, s3.heap.get? b = some o → s9.heap.get? b = some o ∧ H9 b = none := fun b hb o e => by
          have z := I9.pin (b, o) (List.mem_append_right _ (List.mem_append_right _ (mem_pinsAt hb e)))
          exact ⟨z.1, z.2.1⟩
        refine ⟨m2, hm, j + 1, H9, I9.unpinned.weak hl hk, T.keep _ _ _ st3 fun b hb o e => (pp b hb o e).1, fun b hb => ?_, w2⟩
        obtain ⟨o, e, _⟩ := T.obj _ _ st3 b hb
        exact (pp b hb o e).2
      have l4 : (wipe σ q.vs).length = σ4.length := by rw [← hw4, wipe_length]
      have k4 : ∀ i v, (wipe σ q.vs)[i]? = some (some v) → σ4[i]? = some (some v) := fun i v e => by
        rw [← hw4] at e
        exact (wipe_some e).1
      cases b with
      | false =>
        rw [if_neg Bool.false_ne_true] at q5
        obtain ⟨m2, hm, rest⟩ := back I5 l4 k4 q5
        exact wpAny_pure ⟨rfl, m2, hm, rest⟩
      | true =>
        rw [if_pos rfl] at q5
        have pi := oq1.i.run _ s5 σ4 H5 _ I5 q5
        rw [hx] at pi
        refine wpAny_bind (thnF pi fun xv s6 hh => ?_)
        refine wpAny_bind (wpAny_standAt (wpAny_bind (wpAny_of_eq (oq1.s xv) (wpAny_bind (wpAny_holding (thnF hh fun iv s7 h7 => ?_))))))
        obtain ⟨it1, fp1, tn1, J1, H7, e7, I7, T1, st7, f7, W1, ⟨m1, w7⟩, turn1⟩ := h7
        subst e7
        refine wpAny_bind (wpAny_runOwn ?_)
        rw [Around.mark_none]
        have k5 : ∀ i v, (wipe σ q.vs)[i]? = some (some v) → (wipe σ4 q1.vs)[i]? = some (some v) := fun i v e => by
          rw [← hw4] at e
          obtain ⟨e1, e2⟩ := wipe_some e
          rw [wipe_out fun z => e2 (hn.1 i z)]
          exact e1
        have lp := ih q1 (c + 1) hd1 (fun x hx => hok x (List.mem_cons_of_mem _ hx)) (fun x hx => hsr x (List.mem_cons_of_mem _ hx)) hn.2 (pins ++ pinsAt fp s3.heap) σ4 Nx1 it1 fp1 tn1 J1 W1 (fun r0 s8 => match r0 with
          | .ok _ => ∃ m2, m2 < n ∧ ∃ j H2, L2.Inv Y pins (wipe σ q.vs) H2 s8 ∧ tn j s8.heap ∧ (∀ b ∈ fp, H2 b = none) ∧ W j m2 H2
          | .error _ => False) s7 H7 m1 T1 (fun {σ1 H1 s1} I' hf b hb => ⟨hf b hb, (f7 b hb).2⟩) (I7.weak (wipe_length _ _) fun i v e => (wipe_some e).1) st7 (fun b hb => (f7 b hb).1) w7 turn1 (fun H1 s1 I' _ nx => back I' (l4.trans (wipe_length σ4 q1.vs).symm) k5 nx)
        refine codeAny_mono (start_ok hg1 lp (T1.self Y.A 0 _ _ _ st7 lp)) fun r0 s8 hr => ?_
        cases r0 with
        | ok f =>
          obtain ⟨m2, hm, rest⟩ := hr
          first
            | exact wpAny_pure ⟨rfl, m2, hm, rest⟩
            | exact wpAny_bind (wpAny_pure (wpAny_pure ⟨rfl, m2, hm, rest⟩))
        | error e => exact hr.elim
end
/-- the whole of it: D is the new list -/
def tN (q : Cl) (r : List Cl) (te : TE) : TE := fun σ H Q => q.wi σ H fun J H1 => ∀ D, H1 D = none → ∃ W : Nat → Nat → Hp → Prop, (∃ m, W 0 m (upd H1 D (.lst []))) ∧ ∀ j k H2, W j k H2 →
    (J.stop j H2 ∧ Q (.ref D) H2) ∨ (J.go j H2 ∧ ∃ Nx1 : Hp → Prop, (∀ H3, Nx1 H3 → ∃ k', k' < k ∧ W (j + 1) k' H3) ∧ ∀ x H3, J.yld j H2 x H3 → q.g x (wipe σ q.vs) H3 fun σ3 H4 =>
      wipe σ3 q.vs = wipe σ q.vs ∧ q.tt σ3 H4 fun b H5 => if b = true then tIn te D r σ3 H5 Nx1 else Nx1 H5)
section
variable {X : Cx} {elt : Expr} {scope : Scope} {pos : Pos} {te : TE}
theorem core {pins : List (Addr × Obj)} {s : Shared} {σ : L2.St} {H : Hp} {Q : VK} {own : List (Str × Nat)} {pos2 : Pos} {q : Cl} {r : List Cl} {use : Option (Value → Sem Unit)} {Qf : Value → Shared → Prop}
    (hc : X.calm = true) (nd : X.N.Nodup) (I : L2.Inv X pins σ H s) (ok : BlkOk X.N X.env.scope scope own) (hv : q.vs = own.map (·.2)) (hn : Nest q r)
    (hi : PI X q.tg q.src q.wi) (hs : ∀ x, foldedSetIterable q.src X.env x = pure x)
    (hq : ∀ (s : Shared) (H : Hp) (C : Addr) (cl : List (Str × Addr)) (fp : List Addr), (∀ x ∈ q :: r, GtOk (X.blk s H scope (compEnvC scope cl C X.env) fp) x) ∧ (∀ x ∈ r, SrcOk (X.blk s H scope (compEnvC scope cl C X.env) fp) x) ∧ PE (X.blk s H scope (compEnvC scope cl C X.env) fp) elt te)
    (h : tN q r te σ H Q)
    (hR : ∀ D C s2 m H2, L2.Inv X pins σ H2 s2 → Q (.ref D) H2 → s2.heap.Ns C m → FpOk X pins H2 C → compPost (model X.prog X.w) X.A X.xe use Qf (.ref D) C (.ok .next) s2) :
    wpAny (model X.prog X.w) X.A (comprehension (.ListComp elt ((q :: r).map Cl.c) scope pos) scope X.env pos2 (newList []) false (eval q.src X.env) use) Qf X.xe s := by
  have fr : ∀ y ∈ scope.names, y.2 = .free → ∃ c, X.env.cells.lookup y.1 = some c := fun y hy e => (ok.free y hy e).elim (fun k => I.ok.has _ (.inl k)) fun k => I.ok.has _ (.inr k)
  have un : ∀ y ∈ scope.names, y.2 = .local → scope.names.lookup y.1 = some .local := fun y hy e => (ok.uniq y hy).trans (by rw [e])
  refine wpAny_comprehension_free (g := q.c) (gs := r.map Cl.c) (use := use) rfl hs (closure_ok fr) ok.kind un (thn (hi.run pins s σ H _ I h) fun xv s1 hx1 => thn hx1 fun iv s2 h2 => ?_)
  obtain ⟨it, fp, tn, J, H2, e, I2, T, st2, f2, q2⟩ := h2
  subst e
  refine wpAny_newObj_type (newEnv_comp ?_) (show 0 ≤ sizeLine from by decide)
  generalize hD : s2.heap.objs.size = D
  have hDn : H2 D = none := I2.hok.fresh (Nat.le_of_eq hD)
  obtain ⟨W, ⟨m0, w0⟩, turn⟩ := q2 D hDn
  generalize h3 : ({ s2 with heap := s2.heap.push { cls := .type "list", data := .seq ([] : List Value).toArray } } : Shared) = s3
  have I3 : L2.Inv X pins σ (upd H2 D (.lst [])) s3 := by
    subst h3
    exact I2.laid (t' := s2.toks) (fun b o e => Heap.get?_push_of_some _ e) (Nat.le_of_eq hD) ⟨Nat.zero_le _, [], 0, .nil, by rw [← hD]; exact Heap.get?_push_size _ rfl⟩
  have up : ∀ b o, s2.heap.get? b = some o → s3.heap.get? b = some o := fun b o e => by subst h3; exact Heap.get?_push_of_some _ e
  have big : s2.heap.objs.size < s3.heap.objs.size := by subst h3; rw [Heap.size_push]; exact Nat.lt_succ_self _
  have sz : ∀ b ∈ fp, b < s2.heap.objs.size := fun b hb => (T.obj _ _ st2 b hb).elim fun o ho => Heap.lt_size ho.1
  have f3 : ∀ b ∈ fp, FpOk X pins (upd H2 D (.lst [])) b ∧ b < s3.heap.objs.size := fun b hb =>
    ⟨⟨(upd_ne (by rw [← hD]; exact Nat.ne_of_lt (sz b hb))).trans (f2 b hb).1, (f2 b hb).2⟩, Nat.lt_trans (sz b hb) big⟩
  have st3 : tn 0 s3.heap := T.keep _ _ _ st2 fun b _ o e => up b o e
  have I4 := block_start I3 ok nd f3
  obtain ⟨gt, sr, pe⟩ := hq s3 (upd H2 D (.lst [])) s3.heap.objs.size (cellsFrom (s3.heap.objs.size + 1) scope.names (cloFrom X.env.cells scope.names [])) fp
  show codeAny _ _ (.compStart (.ListComp elt ((q :: r).map Cl.c) scope pos) 0 (.ref it) (.ref D) (compEnvC scope (cellsFrom (s3.heap.objs.size + 1) scope.names (cloFrom X.env.cells scope.names [])) s3.heap.objs.size X.env)) (compPost (model X.prog X.w) X.A X.xe use Qf (.ref D) s3.heap.objs.size) { s3 with heap := pushCells (s3.heap.push { cls := .type "dict", data := .dict #[] }) scope.names }
  have no : ∀ b ∈ fp, (upd H2 D (.lst [])) b = none := fun b hb => (f3 b hb).1.1
  generalize hce : compEnvC scope (cellsFrom (s3.heap.objs.size + 1) scope.names (cloFrom X.env.cells scope.names [])) s3.heap.objs.size X.env = ce at I4 gt sr pe ⊢
  have cL : ce.locals = s3.heap.objs.size := by subst hce; rfl
  generalize upd H2 D (.lst []) = H3 at I3 I4 gt sr pe w0 no f3
  generalize h4 : ({ s3 with heap := pushCells (s3.heap.push { cls := .type "dict", data := .dict #[] }) scope.names } : Shared) = s4 at I4 ⊢
  have st4 : tn 0 s4.heap := T.keep _ _ _ st3 fun b _ o e => by subst h4; exact pushCells_keeps _ _ _ _ (Heap.get?_push_of_some _ e)
  have lp := loop_ok (Y := X.blk s3 H3 scope ce fp) (gs := (q :: r).map Cl.c) (scope := scope) (pos := pos) (D := D) rfl hc pe r q 0 rfl gt sr hn [] σ (Q (.ref D)) it fp tn J W (compPost (model X.prog X.w) X.A X.xe use Qf (.ref D) s3.heap.objs.size) s4 H3 m0 T
    (fun {σ1 H1 s1} I' hf b hb => ⟨hf b hb, (I'.ok.exf b hb).1, I'.ok.exfs b hb, .inl hb, fun x c e => (I'.ok.exf b hb).2 x c e, fun p hp => absurd (show p ∈ ([] : List (Addr × Obj)) ++ [] from hp) (by simp)⟩)
    (by rw [hv]; exact I4) st4 no w0 turn (fun H1 s1 I' hf nx => by
      have I7 : L2.Inv X pins σ H1 s1 := I3.call' (ch := fp) I'.os I'.base I'.hok I'.bare fun b hb => ⟨(f3 b hb).1.2.2.2.1, (f3 b hb).1.2.1, (f3 b hb).1.2.2.2.2.1, (f3 b hb).1.2.2.2.2.2⟩
      have nC : H1 s3.heap.objs.size = none := by
        have z : H1 ce.locals = none := I'.free
        exact cL ▸ z
      obtain ⟨m, hns, _⟩ := I'.loc
      have hns : s1.heap.Ns ce.locals m := hns
      exact hR D s3.heap.objs.size s1 m H1 I7 nx (cL ▸ hns) (I3.fpOk (Nat.le_refl _) nC))
  exact start_ok (Y := X.blk s3 H3 scope ce fp) (q := q) rfl lp (T.self X.A 0 _ _ _ st4 lp)
/-- as a value -/
theorem pe_lcn {own : List (Str × Nat)} {q : Cl} {r : List Cl} (hc : X.calm = true) (nd : X.N.Nodup) (ok : BlkOk X.N X.env.scope scope own) (hv : q.vs = own.map (·.2)) (hn : Nest q r)
    (hi : PI X q.tg q.src q.wi) (hs : ∀ x, foldedSetIterable q.src X.env x = pure x)
    (hq : ∀ (s : Shared) (H : Hp) (C : Addr) (cl : List (Str × Addr)) (fp : List Addr), (∀ x ∈ q :: r, GtOk (X.blk s H scope (compEnvC scope cl C X.env) fp) x) ∧ (∀ x ∈ r, SrcOk (X.blk s H scope (compEnvC scope cl C X.env) fp) x) ∧ PE (X.blk s H scope (compEnvC scope cl C X.env) fp) elt te) :
    PE X (.ListComp elt ((q :: r).map Cl.c) scope pos) (tN q r te) := by
  constructor
  intro pins s σ H Q I h
  rw [eval_ListComp]
  refine core hc nd I ok hv hn hi hs hq h fun D C s2 m H2 I2 qq hns f => ⟨m, hns, fun h2 sb => ?_⟩
  exact ⟨.ref D, H2, I2.turned (t' := s2.toks) (fun b o hb e => (sb.2 b hb).trans e) f.1 f.2.1 f.2.2.2.1 f.2.2.2.2.1 f.2.2.2.2.2, rfl, qq⟩
/-- y = [..] -/
theorem ps_setLcn {i : Nat} {y : Str} {py spos : Pos} {own : List (Str × Nat)} {q : Cl} {r : List Cl} (hc : X.calm = true) (nd : X.N.Nodup) (hy : X.N[i]? = some y) (hl : X.env.scope.names.lookup y = some .local)
    (hw : swapsWith (.ListComp elt ((q :: r).map Cl.c) scope pos) (some (.Name y py)) spos.line X.env = pure true) (ok : BlkOk X.N X.env.scope scope own) (hv : q.vs = own.map (·.2)) (hn : Nest q r)
    (hi : PI X q.tg q.src q.wi) (hs : ∀ x, foldedSetIterable q.src X.env x = pure x)
    (hq : ∀ (s : Shared) (H : Hp) (C : Addr) (cl : List (Str × Addr)) (fp : List Addr), (∀ x ∈ q :: r, GtOk (X.blk s H scope (compEnvC scope cl C X.env) fp) x) ∧ (∀ x ∈ r, SrcOk (X.blk s H scope (compEnvC scope cl C X.env) fp) x) ∧ PE (X.blk s H scope (compEnvC scope cl C X.env) fp) elt te) :
    PS X (.Assign [.Name y py] (.ListComp elt ((q :: r).map Cl.c) scope pos) spos) (tAsg (tN q r te) (gName i)) := by
  constructor
  intro pins s σ H E I h
  rw [exec_Assign_Name_used _ _ _ _ hw]
  refine wpAny_bind (wpAny_standAt (wpAny_bind ?_))
  refine wpAny_bind (thn (core (pos2 := firstIterPos ((q :: r).map Cl.c) pos) (use := some (assign (.Name y py) X.env)) (Qf := fun _ s2 => SP X pins E .next s2) (Q := fun x H1 => gName i x σ H1 E.nx) hc nd I ok hv hn hi hs hq h fun L C s2 m H2 I2 qq hns f => ?_) fun _ s2 hh => wpAny_pure (wpAny_pure hh))
  show wpAny _ _ (assign (.Name y py) X.env (.ref L)) _ _ _
  refine wpAny_assign_Name (store_ok2 (v := V.ref L) I2 nd hy (.inl hl) rfl (fun s3 I3 hh => ?_) (.inr hl))
  obtain ⟨a, sb, ha⟩ := hh
  have ne : C ≠ a := ha.elim (fun z => by rw [z]; exact f.2.1) fun z e => f.2.2.2.2.1 y a z e.symm
  exact ⟨m, hns.sameBut sb ne, fun h3 sb3 => ⟨_, H2, I3.turned (t' := s3.toks) (fun b o hb e => (sb3.2 b hb).trans e) f.1 f.2.1 f.2.2.2.1 f.2.2.2.2.1 f.2.2.2.2.2, qq⟩⟩
end
end Lcn

set_option Elab.async false
set_option linter.all false
set_option maxRecDepth 100000
set_option maxHeartbeats 2000000
/-! comprehensions of any number of clauses, read as plain values -/
namespace Pd
open PySem L2 Lcn
theorem Out.bind_bind {A B C : Type} (o : Out A) (f : A → PM → Out B) (g : B → PM → Out C) : (o.bind f).bind g = o.bind fun a M => (f a M).bind g := by cases o <;> rfl
structure CF where
  w : FA
  g : FG
  t : FT
  vs : List Nat
def lcEach (g : FG) (t : FT) (body : Rho → PM → Out Unit) (ρ0 : Rho) : List D → PM → Out Unit
  | [], M => .ok () M
  | d :: ds, M => (g d ρ0 M).bind fun ρ1 M1 => (t ρ1 M1).bind fun b M2 => if b = true then (body ρ1 M2).bind fun _ M3 => lcEach g t body ρ0 ds M3 else lcEach g t body ρ0 ds M2
def lcIn (n : Nat) (f : FE) : List CF → Rho → PM → Out Unit
  | [] => fun ρ M => (f ρ M).bind fun y M1 => lcPut n y M1
  | c :: r => fun ρ M => (c.w ρ M).bind fun ds M1 => lcEach c.g c.t (lcIn n f r) (wipeR ρ c.vs) ds M1
def pLcN (c : CF) (r : List CF) (f : FE) : FE := fun ρ M => (c.w ρ M).bind fun ds M1 => (lcEach c.g c.t (lcIn M1.length f r) (wipeR ρ c.vs) ds (M1 ++ [.lst []])).bind fun _ M2 => lcEnd M1.length M2
def canI (K : PySem.W.Frag) (E : XK) (f : FA) : TI := fun σ H R => ∃ ρ α M, EnvR K α H ρ σ ∧ Wd K α M H ∧ Post (ItR K) K α H R E (f ρ M)
theorem canI_r {K : PySem.W.Frag} {E : XK} {f : FA} : RI K E (canI K E f) f := fun ρ σ H α M Q e w h => ⟨ρ, α, M, e, w, h⟩
theorem PDI.can {X : Cx} {E : XK} {tg e : Expr} {f : FA} (h : PDI X E tg e f) : PI X tg e (canI X.K E f) := by
  obtain ⟨t, h, r⟩ := h
  exact ⟨fun pins s σ H Q I ⟨ρ, α, M, e, w, q⟩ => h.run pins s σ H Q I (r ρ σ H α M Q e w q)⟩
section
variable {K : PySem.W.Frag} {E : XK}
structure CR (K : PySem.W.Frag) (E : XK) (q : Cl) (c : CF) : Prop where
  vs : q.vs = c.vs
  i : RI K E q.wi c.w
  g : RG K E q.g c.g
  o : OnlyIn q.vs q.g
  t : RT K E q.tt c.t
def InOk (K : PySem.W.Frag) (E : XK) (n : Nat) (a : Addr) (te : TE) (fe : FE) (r : List Cl) (rc : List CF) : Prop :=
  ∀ (Q : V → Hp → Prop) (α0 : List Addr) (H0 : Hp) (G : Unit → PM → Out D) (ρ : Rho) (σ : L2.St) (H : Hp) (α : List Addr) (M : PM) (Nx : Hp → Prop), EnvR K α H ρ σ → Wd K α M H → Step α0 H0 α H → α[n]? = some a →
    Post (Rep K) K α0 H0 Q E ((lcIn n fe rc ρ M).bind G) → (∀ α' H' M', Step α H α' H' → Wd K α' M' H' → α'[n]? = some a → Post (Rep K) K α0 H0 Q E (G () M') → Nx H') → tIn te a r σ H Nx
theorem at_step {α α' : List Addr} {H H' : Hp} {n : Nat} {a : Addr} (h : α[n]? = some a) (s : Step α H α' H') : α'[n]? = some a := by
  obtain ⟨β, rfl, _⟩ := s.ext
  rw [List.getElem?_append_left (List.getElem?_eq_some_iff.mp h).1]
  exact h
/-- a clause's loop -/
theorem r_loop {q : Cl} {c : CF} {r : List Cl} {rc : List CF} {n : Nat} {a : Addr} {te : TE} {fe : FE} (cr : CR K E q c) (IN : InOk K E n a te fe r rc) {Q : V → Hp → Prop} {α0 αs α1 : List Addr} {H0 Hs H1 : Hp} {G : Unit → PM → Out D} {ρ : Rho} {σ : L2.St} {Ms M1 : PM} {Nx : Hp → Prop} {J : It} {ds : List D}
    (e : EnvR K α1 H1 ρ σ) (w1 : Wd K α1 M1 H1) (s0 : Step α0 H0 α1 H1) (it : ItR K α1 H1 ds J) (ws : Wd K αs Ms Hs) (ss : Step α1 H1 αs Hs) (hn : αs[n]? = some a)
    (h : Post (Rep K) K α0 H0 Q E ((lcEach c.g c.t (lcIn n fe rc) (wipeR ρ c.vs) ds Ms).bind G))
    (fin : ∀ α2 H2 M2, Step α1 H1 α2 H2 → Wd K α2 M2 H2 → α2[n]? = some a → Post (Rep K) K α0 H0 Q E (G () M2) → Nx H2) :
    ∃ W : Nat → Nat → Hp → Prop, (∃ m, W 0 m Hs) ∧ ∀ j k H2, W j k H2 → (J.stop j H2 ∧ Nx H2) ∨ (J.go j H2 ∧ ∃ Nx1 : Hp → Prop, (∀ H3, Nx1 H3 → ∃ k', k' < k ∧ W (j + 1) k' H3) ∧ ∀ x H3, J.yld j H2 x H3 → q.g x (wipe σ q.vs) H3 fun σ3 H4 =>
      wipe σ3 q.vs = wipe σ q.vs ∧ q.tt σ3 H4 fun b H5 => if b = true then tIn te a r σ3 H5 Nx1 else Nx1 H5) := by
  refine ⟨fun i m H2 => m = ds.length - i ∧ ∃ α2 M2, Wd K α2 M2 H2 ∧ Step α1 H1 α2 H2 ∧ α2[n]? = some a ∧ Post (Rep K) K α0 H0 Q E ((lcEach c.g c.t (lcIn n fe rc) (wipeR ρ c.vs) (ds.drop i) M2).bind G), ⟨ds.length, by simp, αs, Ms, ws, ss, hn, h⟩, ?_⟩
  rintro i m H2 ⟨rfl, α2, M2, w2, s2, hn2, h2⟩
  obtain ⟨go, stop⟩ := it α2 H2 s2 (fun _ h => w2.there h) i
  have s02 := s0.tr w1 s2
  by_cases hi : i < ds.length
  · refine .inr ?_
    rw [List.drop_eq_getElem_cons hi] at h2
    obtain ⟨g1, y1⟩ := go ds[i] (List.getElem?_eq_getElem hi)
    refine ⟨g1, fun H3 => ∃ α3 M3, Wd K α3 M3 H3 ∧ Step α1 H1 α3 H3 ∧ α3[n]? = some a ∧ Post (Rep K) K α0 H0 Q E ((lcEach c.g c.t (lcIn n fe rc) (wipeR ρ c.vs) (ds.drop (i + 1)) M3).bind G), fun H3 z => ⟨ds.length - (i + 1), by omega, rfl, z⟩, fun x H3 y => ?_⟩
    obtain ⟨x3, r3⟩ := y1 x H3 y
    have s3 : Step α2 H2 α2 H3 := Step.ex x3
    have w3 := w2.ex x3
    have st3 := s2.tr w2 s3
    have s03 := s02.tr w2 s3
    have h2' : Post (Rep K) K α0 H0 Q E ((c.g ds[i] (wipeR ρ c.vs) M2).bind fun ρ1 M1 => ((c.t ρ1 M1).bind fun b M2 => if b = true then ((lcIn n fe rc) ρ1 M2).bind fun _ M3 => lcEach c.g c.t (lcIn n fe rc) (wipeR ρ c.vs) (ds.drop (i + 1)) M3 else lcEach c.g c.t (lcIn n fe rc) (wipeR ρ c.vs) (ds.drop (i + 1)) M2).bind G) := by
      rw [← Out.bind_bind]; exact h2
    have ew : EnvR K α2 H3 (wipeR ρ c.vs) (wipe σ q.vs) := by
      rw [cr.vs]
      exact (e.step st3).wipe c.vs
    have gg := cr.o x (wipe σ q.vs) H3 _ (cr.g (wipeR ρ c.vs) (wipe σ q.vs) H3 α2 M2 ds[i] x (fun σ3 H4 => q.tt σ3 H4 fun b H5 => if b = true then tIn te a r σ3 H5 (fun H6 => ∃ α3 M3, Wd K α3 M3 H6 ∧ Step α1 H1 α3 H6 ∧ α3[n]? = some a ∧ Post (Rep K) K α0 H0 Q E ((lcEach c.g c.t (lcIn n fe rc) (wipeR ρ c.vs) (ds.drop (i + 1)) M3).bind G)) else ∃ α3 M3, Wd K α3 M3 H5 ∧ Step α1 H1 α3 H5 ∧ α3[n]? = some a ∧ Post (Rep K) K α0 H0 Q E ((lcEach c.g c.t (lcIn n fe rc) (wipeR ρ c.vs) (ds.drop (i + 1)) M3).bind G)) ew w3 r3 ?_)
    · rw [wipe_wipe σ q.vs q.vs fun _ h => h] at gg
      exact gg
    · refine bndB h2' s03 w3 fun ρ4 M4 σ4 α4 H4 _ s4 w4 r4 h4 => ?_
      have st4 := st3.tr w3 s4
      have s04 := s03.tr w3 s4
      have hn4 := at_step (at_step hn2 s3) s4
      rw [Out.bind_bind] at h4
      refine cr.t ρ4 σ4 H4 α4 M4 _ r4 w4 (bndB h4 s04 w4 fun b M5 b' α5 H5 _ s5 w5 r5 h5 => ?_)
      subst r5
      have st5 := st4.tr w4 s5
      have s05 := s04.tr w4 s5
      have hn5 := at_step hn4 s5
      cases b with
      | false =>
        rw [if_neg Bool.false_ne_true] at h5 ⊢
        exact ⟨α5, M5, w5, st5, hn5, h5⟩
      | true =>
        rw [if_pos rfl] at h5 ⊢
        rw [Out.bind_bind] at h5
        exact IN Q α0 H0 _ ρ4 σ4 H5 α5 M5 _ (r4.step s5) w5 s05 hn5 h5 fun α6 H6 M6 s6 w6 hn6 h6 => ⟨α6, M6, w6, st5.tr w5 s6, hn6, h6⟩
  · rw [List.drop_eq_nil_of_le (by omega)] at h2
    exact .inl ⟨stop (by omega), fin α2 H2 M2 s2 w2 hn2 h2⟩
theorem r_in {n : Nat} {a : Addr} {te : TE} {fe : FE} (he : RE K E te fe) : ∀ (r : List Cl) (rc : List CF), r.length = rc.length → (∀ p ∈ r.zip rc, CR K E p.1 p.2) → InOk K E n a te fe r rc
  | [], [], _, _ => fun Q α0 H0 G ρ σ H α M Nx e w s0 hn h fin => by
    have h' : Post (Rep K) K α0 H0 Q E ((fe ρ M).bind fun y M1 => (lcPut n y M1).bind G) := by
      rw [← Out.bind_bind]; exact h
    refine he ρ σ H α M _ e w (bndB h' s0 w fun y M1 v α1 H1 _ s1 w1 r1 h1 => ?_)
    have hn1 := at_step hn s1
    unfold lcPut at h1
    split at h1
    · rename_i acc hm
      obtain ⟨a', ea, vs', ev, rv⟩ := w1.ob _ _ hm
      rw [hn1] at ea
      cases ea
      split at h1
      · rename_i hl
        obtain ⟨w2, s2⟩ := w1.put (m := .lst (acc ++ [y])) (o := .lst (vs' ++ [v])) hn1 (List.getElem?_eq_some_iff.mp hm).1 fun H' st e => ⟨_, e, RepL.step st _ _ (rv.append (.cons r1 .nil))⟩
        exact ⟨vs', ev, by rw [← rv.length, ← line_eq]; exact hl, fin _ _ _ (s1.tr w1 s2) w2 hn1 h1⟩
      · exact h1.elim
    · exact h1.elim
  | q :: r, c :: rc, hl, hr => fun Q α0 H0 G ρ σ H α M Nx e w s0 hn h fin => by
    have cr := hr (q, c) (List.mem_cons_self ..)
    have IN := r_in (n := n) (a := a) he r rc (by simpa using hl) fun p hp => hr p (List.mem_cons_of_mem _ hp)
    have h' : Post (Rep K) K α0 H0 Q E ((c.w ρ M).bind fun ds M1 => (lcEach c.g c.t (lcIn n fe rc) (wipeR ρ c.vs) ds M1).bind G) := by
      rw [← Out.bind_bind]; exact h
    refine cr.i ρ σ H α M _ e w (bndB h' s0 w fun ds M1 J α1 H1 _ s1 w1 r1 h1 => ?_)
    exact r_loop cr IN (e.step s1) w1 (s0.tr w s1) r1 w1 (Step.refl _ _) (at_step hn s1) h1 fun α2 H2 M2 s2 w2 hn2 h2 => fin _ _ _ (s1.tr w1 s2) w2 hn2 h2
  | [], _ :: _, hl, _ => by simp at hl
  | _ :: _, [], hl, _ => by simp at hl
theorem r_lcn {q : Cl} {c : CF} {r : List Cl} {rc : List CF} {te : TE} {fe : FE} (cr : CR K E q c) (hl : r.length = rc.length) (hr : ∀ p ∈ r.zip rc, CR K E p.1 p.2) (he : RE K E te fe) : RE K E (tN q r te) (pLcN c rc fe) := fun ρ σ H α M Q e w h =>
  cr.i ρ σ H α M _ e w (bnd h fun ds M1 J α1 H1 _ s1 w1 r1 h1 => by
    intro a ha
    obtain ⟨wb, sb⟩ := w1.new (m := .lst []) (o := .lst []) ha fun H' st e => ⟨[], e, .nil⟩
    have han : (α1 ++ [a])[M1.length]? = some a := by rw [← w1.len, List.getElem?_append_right (Nat.le_refl _), Nat.sub_self]; rfl
    refine r_loop cr (r_in he r rc hl hr) (e.step s1) w1 (Step.refl _ _) r1 wb sb han h1 fun α2 H2 M2 s2 w2 hn2 h2 => ?_
    unfold lcEnd at h2
    split at h2
    · rename_i acc hm
      obtain ⟨⟨c1, c2, c3⟩, h3⟩ := ifb h2
      obtain ⟨a', ea, vs', ev, rv⟩ := w2.ob _ _ hm
      rw [hn2] at ea
      cases ea
      have hlen : (M2.take M1.length).length = M1.length := by rw [List.length_take]; omega
      have eM : M2 = M2.take M1.length ++ M2.drop M1.length := (List.take_append_drop _ _).symm
      have wt : Wd K (α2.take (M2.take M1.length).length) (M2.take M1.length) H2 := Wd.trim (junk := M2.drop M1.length) (by rw [← eM]; exact w2) fun m hmm => by rw [hlen]; exact List.all_eq_true.mp c3 m hmm
      rw [hlen] at wt
      have stt : Step α1 H1 (α2.take M1.length) H2 := s2.trim (by rw [w1.len]; exact Nat.le_refl _)
      refine h3 _ _ _ stt wt (.lst ⟨ev, fun z => ?_⟩ (RepL.trim _ _ _ c2 rv))
      obtain ⟨j, hj, e4⟩ := List.mem_iff_getElem.mp z
      rw [List.getElem_take] at e4
      rw [List.length_take] at hj
      obtain ⟨hi', e5⟩ := List.getElem?_eq_some_iff.mp hn2
      have := (List.getElem_inj w2.nd).mp (e4.trans e5.symm)
      omega
    · exact h2.elim)
end
end Pd

set_option Elab.async false
set_option linter.all false
set_option maxRecDepth 100000
set_option maxHeartbeats 2000000
/-! comprehensions of one, two, three clauses, targets names or pairs of names -/
namespace Pd
open PySem L2 Lcn
structure GC (X : Cx) (E : XK) (scope : Scope) (tg : Expr) (ifs : List Expr) (g : TG) (tt : TT) (c : CF) : Prop where
  hg : ∀ (s : Shared) (H : Hp) (C : Addr) (cl : List (Str × Addr)) (fp : List Addr), PG (X.blk s H scope (compEnvC scope cl C X.env) fp) tg g
  rg : RG X.K E g c.g
  og : OnlyIn c.vs g
  ht : ∀ (s : Shared) (H : Hp) (C : Addr) (cl : List (Str × Addr)) (fp : List Addr), PTs (X.blk s H scope (compEnvC scope cl C X.env) fp) ifs tt
  rt : RT X.K E tt c.t
section
variable {X : Cx} {E : XK} {scope : Scope} {tg c : Expr} {w : FA} {vs js : List Nat} {j n : Nat} {ft : FT}
theorem gc_name (hj : j ∈ vs) (hg : ∀ (s : Shared) (H : Hp) (C : Addr) (cl : List (Str × Addr)) (fp : List Addr), PG (X.blk s H scope (compEnvC scope cl C X.env) fp) tg (gName j)) : GC X E scope tg [] (gName j) tYes ⟨w, fName j, pYes, vs⟩ :=
  ⟨hg, g_name, only_name hj, fun _ _ _ _ _ => pts_nil, fun ρ σ H α M Q e w h => h.now w rfl⟩
theorem gc_nameIf (hj : j ∈ vs) (hg : ∀ (s : Shared) (H : Hp) (C : Addr) (cl : List (Str × Addr)) (fp : List Addr), PG (X.blk s H scope (compEnvC scope cl C X.env) fp) tg (gName j)) (ht : ∀ (s : Shared) (H : Hp) (C : Addr) (cl : List (Str × Addr)) (fp : List Addr), PDT (X.blk s H scope (compEnvC scope cl C X.env) fp) E c ft) : GC X E scope tg [c] (gName j) (canT X.K E ft) ⟨w, fName j, ft, vs⟩ :=
  ⟨hg, g_name, only_name hj, fun s H C cl fp => pts_one (ht s H C cl fp).can, canT_r⟩
theorem gc_tup (hj : ∀ j ∈ js, j ∈ vs) (hg : ∀ (s : Shared) (H : Hp) (C : Addr) (cl : List (Str × Addr)) (fp : List Addr), PG (X.blk s H scope (compEnvC scope cl C X.env) fp) tg (gTup X.K n (gNames js))) : GC X E scope tg [] (gTup X.K n (gNames js)) tYes ⟨w, fTup n (fNames js), pYes, vs⟩ :=
  ⟨hg, g_tup g_names, only_tup hj, fun _ _ _ _ _ => pts_nil, fun ρ σ H α M Q e w h => h.now w rfl⟩
theorem gc_tupIf (hj : ∀ j ∈ js, j ∈ vs) (hg : ∀ (s : Shared) (H : Hp) (C : Addr) (cl : List (Str × Addr)) (fp : List Addr), PG (X.blk s H scope (compEnvC scope cl C X.env) fp) tg (gTup X.K n (gNames js))) (ht : ∀ (s : Shared) (H : Hp) (C : Addr) (cl : List (Str × Addr)) (fp : List Addr), PDT (X.blk s H scope (compEnvC scope cl C X.env) fp) E c ft) : GC X E scope tg [c] (gTup X.K n (gNames js)) (canT X.K E ft) ⟨w, fTup n (fNames js), ft, vs⟩ :=
  ⟨hg, g_tup g_names, only_tup hj, fun s H C cl fp => pts_one (ht s H C cl fp).can, canT_r⟩
end
section
variable {X : Cx} {E : XK} {scope : Scope} {pos : Pos}
theorem pd_lcn1 {elt : Expr} {own : List (Str × Nat)} {fe : FE} {tg0 src0 : Expr} {ifs0 : List Expr} {g0 : TG} {tt0 : TT} {c0 : CF} (hc : X.calm = true) (nd : X.N.Nodup) (h0 : PDI X E tg0 src0 c0.w) (ok : BlkOk X.N X.env.scope scope own) (hv : c0.vs = own.map (·.2))  (k0 : GC X E scope tg0 ifs0 g0 tt0 c0)  (he : ∀ (s : Shared) (H : Hp) (C : Addr) (cl : List (Str × Addr)) (fp : List Addr), PD (X.blk s H scope (compEnvC scope cl C X.env) fp) E elt fe) (hs0 : ∀ x, foldedSetIterable src0 X.env x = pure x := by intro _; rfl)  :
    PD X E (.ListComp elt [⟨tg0, src0, ifs0, 0⟩] scope pos) (pLcN c0 [] fe) :=
  ⟨_, pe_lcn (q := ⟨tg0, src0, ifs0, canI X.K E c0.w, g0, tt0, c0.vs⟩) (r := []) (te := canE X.K E fe) hc nd ok hv trivial h0.can hs0 (fun s H C cl fp => ⟨fun x hx => by
      simp only [List.mem_cons, List.not_mem_nil, or_false] at hx
      subst hx; exact ⟨k0.hg s H C cl fp, k0.ht s H C cl fp⟩, fun x hx => absurd hx List.not_mem_nil, (he s H C cl fp).can⟩), r_lcn (q := ⟨tg0, src0, ifs0, canI X.K E c0.w, g0, tt0, c0.vs⟩) (r := []) (rc := []) ⟨rfl, canI_r, k0.rg, k0.og, k0.rt⟩ rfl (fun p hp => absurd hp List.not_mem_nil) canE_r⟩
theorem pds_setLcn1 {elt : Expr} {own : List (Str × Nat)} {fe : FE} {tg0 src0 : Expr} {ifs0 : List Expr} {g0 : TG} {tt0 : TT} {c0 : CF} (hc : X.calm = true) (nd : X.N.Nodup) {spos py : Pos} {y : Str} (i : Nat) (hl : X.env.scope.names.lookup y = some .local) (hw : swapsWith (.ListComp elt [⟨tg0, src0, ifs0, 0⟩] scope pos) (some (.Name y py)) spos.line X.env = pure true)
    (h0 : PDI X E tg0 src0 c0.w) (ok : BlkOk X.N X.env.scope scope own) (hv : c0.vs = own.map (·.2))  (k0 : GC X E scope tg0 ifs0 g0 tt0 c0)  (he : ∀ (s : Shared) (H : Hp) (C : Addr) (cl : List (Str × Addr)) (fp : List Addr), PD (X.blk s H scope (compEnvC scope cl C X.env) fp) E elt fe) (hs0 : ∀ x, foldedSetIterable src0 X.env x = pure x := by intro _; rfl)  (hy : X.N[i]? = some y := by rfl) :
    PDS X E (.Assign [.Name y py] (.ListComp elt [⟨tg0, src0, ifs0, 0⟩] scope pos) spos) (sAsg (pLcN c0 [] fe) (fName i)) :=
  ⟨_, ps_setLcn (q := ⟨tg0, src0, ifs0, canI X.K E c0.w, g0, tt0, c0.vs⟩) (r := []) (te := canE X.K E fe) hc nd hy hl hw ok hv trivial h0.can hs0 (fun s H C cl fp => ⟨fun x hx => by
      simp only [List.mem_cons, List.not_mem_nil, or_false] at hx
      subst hx; exact ⟨k0.hg s H C cl fp, k0.ht s H C cl fp⟩, fun x hx => absurd hx List.not_mem_nil, (he s H C cl fp).can⟩), s_asg (r_lcn (q := ⟨tg0, src0, ifs0, canI X.K E c0.w, g0, tt0, c0.vs⟩) (r := []) (rc := []) ⟨rfl, canI_r, k0.rg, k0.og, k0.rt⟩ rfl (fun p hp => absurd hp List.not_mem_nil) canE_r) g_name⟩
end
section
variable {X : Cx} {E : XK} {scope : Scope} {pos : Pos}
theorem pd_lcn2 {elt : Expr} {own : List (Str × Nat)} {fe : FE} {tg0 src0 : Expr} {ifs0 : List Expr} {g0 : TG} {tt0 : TT} {c0 : CF} {tg1 src1 : Expr} {ifs1 : List Expr} {g1 : TG} {tt1 : TT} {c1 : CF} (hc : X.calm = true) (nd : X.N.Nodup) (h0 : PDI X E tg0 src0 c0.w) (ok : BlkOk X.N X.env.scope scope own) (hv : c0.vs = own.map (·.2)) (hn1 : ∀ i ∈ c1.vs, i ∈ c0.vs) (k0 : GC X E scope tg0 ifs0 g0 tt0 c0) (k1 : GC X E scope tg1 ifs1 g1 tt1 c1) (h1 : ∀ (s : Shared) (H : Hp) (C : Addr) (cl : List (Str × Addr)) (fp : List Addr), PDI (X.blk s H scope (compEnvC scope cl C X.env) fp) E tg1 src1 c1.w) (he : ∀ (s : Shared) (H : Hp) (C : Addr) (cl : List (Str × Addr)) (fp : List Addr), PD (X.blk s H scope (compEnvC scope cl C X.env) fp) E elt fe) (hs0 : ∀ x, foldedSetIterable src0 X.env x = pure x := by intro _; rfl) (hs1 : ∀ env x, foldedSetIterable src1 env x = pure x := by intro _ _; rfl) :
    PD X E (.ListComp elt [⟨tg0, src0, ifs0, 0⟩, ⟨tg1, src1, ifs1, 0⟩] scope pos) (pLcN c0 [c1] fe) :=
  ⟨_, pe_lcn (q := ⟨tg0, src0, ifs0, canI X.K E c0.w, g0, tt0, c0.vs⟩) (r := [⟨tg1, src1, ifs1, canI X.K E c1.w, g1, tt1, c1.vs⟩]) (te := canE X.K E fe) hc nd ok hv ⟨hn1, trivial⟩ h0.can hs0 (fun s H C cl fp => ⟨fun x hx => by
      simp only [List.mem_cons, List.not_mem_nil, or_false] at hx
      rcases hx with rfl | rfl <;> first | exact ⟨k0.hg s H C cl fp, k0.ht s H C cl fp⟩ | exact ⟨k1.hg s H C cl fp, k1.ht s H C cl fp⟩, fun x hx => by
      simp only [List.mem_cons, List.not_mem_nil, or_false] at hx
      subst hx; exact ⟨(h1 s H C cl fp).can, hs1 _⟩, (he s H C cl fp).can⟩), r_lcn (q := ⟨tg0, src0, ifs0, canI X.K E c0.w, g0, tt0, c0.vs⟩) (r := [⟨tg1, src1, ifs1, canI X.K E c1.w, g1, tt1, c1.vs⟩]) (rc := [c1]) ⟨rfl, canI_r, k0.rg, k0.og, k0.rt⟩ rfl (fun p hp => by
      simp only [List.zip_cons_cons, List.zip_nil_left, List.mem_cons, List.not_mem_nil, or_false] at hp
      subst hp; exact ⟨rfl, canI_r, k1.rg, k1.og, k1.rt⟩) canE_r⟩
theorem pds_setLcn2 {elt : Expr} {own : List (Str × Nat)} {fe : FE} {tg0 src0 : Expr} {ifs0 : List Expr} {g0 : TG} {tt0 : TT} {c0 : CF} {tg1 src1 : Expr} {ifs1 : List Expr} {g1 : TG} {tt1 : TT} {c1 : CF} (hc : X.calm = true) (nd : X.N.Nodup) {spos py : Pos} {y : Str} (i : Nat) (hl : X.env.scope.names.lookup y = some .local) (hw : swapsWith (.ListComp elt [⟨tg0, src0, ifs0, 0⟩, ⟨tg1, src1, ifs1, 0⟩] scope pos) (some (.Name y py)) spos.line X.env = pure true)
    (h0 : PDI X E tg0 src0 c0.w) (ok : BlkOk X.N X.env.scope scope own) (hv : c0.vs = own.map (·.2)) (hn1 : ∀ i ∈ c1.vs, i ∈ c0.vs) (k0 : GC X E scope tg0 ifs0 g0 tt0 c0) (k1 : GC X E scope tg1 ifs1 g1 tt1 c1) (h1 : ∀ (s : Shared) (H : Hp) (C : Addr) (cl : List (Str × Addr)) (fp : List Addr), PDI (X.blk s H scope (compEnvC scope cl C X.env) fp) E tg1 src1 c1.w) (he : ∀ (s : Shared) (H : Hp) (C : Addr) (cl : List (Str × Addr)) (fp : List Addr), PD (X.blk s H scope (compEnvC scope cl C X.env) fp) E elt fe) (hs0 : ∀ x, foldedSetIterable src0 X.env x = pure x := by intro _; rfl) (hs1 : ∀ env x, foldedSetIterable src1 env x = pure x := by intro _ _; rfl) (hy : X.N[i]? = some y := by rfl) :
    PDS X E (.Assign [.Name y py] (.ListComp elt [⟨tg0, src0, ifs0, 0⟩, ⟨tg1, src1, ifs1, 0⟩] scope pos) spos) (sAsg (pLcN c0 [c1] fe) (fName i)) :=
  ⟨_, ps_setLcn (q := ⟨tg0, src0, ifs0, canI X.K E c0.w, g0, tt0, c0.vs⟩) (r := [⟨tg1, src1, ifs1, canI X.K E c1.w, g1, tt1, c1.vs⟩]) (te := canE X.K E fe) hc nd hy hl hw ok hv ⟨hn1, trivial⟩ h0.can hs0 (fun s H C cl fp => ⟨fun x hx => by
      simp only [List.mem_cons, List.not_mem_nil, or_false] at hx
      rcases hx with rfl | rfl <;> first | exact ⟨k0.hg s H C cl fp, k0.ht s H C cl fp⟩ | exact ⟨k1.hg s H C cl fp, k1.ht s H C cl fp⟩, fun x hx => by
      simp only [List.mem_cons, List.not_mem_nil, or_false] at hx
      subst hx; exact ⟨(h1 s H C cl fp).can, hs1 _⟩, (he s H C cl fp).can⟩), s_asg (r_lcn (q := ⟨tg0, src0, ifs0, canI X.K E c0.w, g0, tt0, c0.vs⟩) (r := [⟨tg1, src1, ifs1, canI X.K E c1.w, g1, tt1, c1.vs⟩]) (rc := [c1]) ⟨rfl, canI_r, k0.rg, k0.og, k0.rt⟩ rfl (fun p hp => by
      simp only [List.zip_cons_cons, List.zip_nil_left, List.mem_cons, List.not_mem_nil, or_false] at hp
      subst hp; exact ⟨rfl, canI_r, k1.rg, k1.og, k1.rt⟩) canE_r) g_name⟩
end
section
variable {X : Cx} {E : XK} {scope : Scope} {pos : Pos}
theorem pd_lcn3 {elt : Expr} {own : List (Str × Nat)} {fe : FE} {tg0 src0 : Expr} {ifs0 : List Expr} {g0 : TG} {tt0 : TT} {c0 : CF} {tg1 src1 : Expr} {ifs1 : List Expr} {g1 : TG} {tt1 : TT} {c1 : CF} {tg2 src2 : Expr} {ifs2 : List Expr} {g2 : TG} {tt2 : TT} {c2 : CF} (hc : X.calm = true) (nd : X.N.Nodup) (h0 : PDI X E tg0 src0 c0.w) (ok : BlkOk X.N X.env.scope scope own) (hv : c0.vs = own.map (·.2)) (hn1 : ∀ i ∈ c1.vs, i ∈ c0.vs) (hn2 : ∀ i ∈ c2.vs, i ∈ c1.vs) (k0 : GC X E scope tg0 ifs0 g0 tt0 c0) (k1 : GC X E scope tg1 ifs1 g1 tt1 c1) (k2 : GC X E scope tg2 ifs2 g2 tt2 c2) (h1 : ∀ (s : Shared) (H : Hp) (C : Addr) (cl : List (Str × Addr)) (fp : List Addr), PDI (X.blk s H scope (compEnvC scope cl C X.env) fp) E tg1 src1 c1.w) (h2 : ∀ (s : Shared) (H : Hp) (C : Addr) (cl : List (Str × Addr)) (fp : List Addr), PDI (X.blk s H scope (compEnvC scope cl C X.env) fp) E tg2 src2 c2.w) (he : ∀ (s : Shared) (H : Hp) (C : Addr) (cl : List (Str × Addr)) (fp : List Addr), PD (X.blk s H scope (compEnvC scope cl C X.env) fp) E elt fe) (hs0 : ∀ x, foldedSetIterable src0 X.env x = pure x := by intro _; rfl) (hs1 : ∀ env x, foldedSetIterable src1 env x = pure x := by intro _ _; rfl) (hs2 : ∀ env x, foldedSetIterable src2 env x = pure x := by intro _ _; rfl) :
    PD X E (.ListComp elt [⟨tg0, src0, ifs0, 0⟩, ⟨tg1, src1, ifs1, 0⟩, ⟨tg2, src2, ifs2, 0⟩] scope pos) (pLcN c0 [c1, c2] fe) :=
  ⟨_, pe_lcn (q := ⟨tg0, src0, ifs0, canI X.K E c0.w, g0, tt0, c0.vs⟩) (r := [⟨tg1, src1, ifs1, canI X.K E c1.w, g1, tt1, c1.vs⟩, ⟨tg2, src2, ifs2, canI X.K E c2.w, g2, tt2, c2.vs⟩]) (te := canE X.K E fe) hc nd ok hv ⟨hn1, hn2, trivial⟩ h0.can hs0 (fun s H C cl fp => ⟨fun x hx => by
      simp only [List.mem_cons, List.not_mem_nil, or_false] at hx
      rcases hx with rfl | rfl | rfl <;> first | exact ⟨k0.hg s H C cl fp, k0.ht s H C cl fp⟩ | exact ⟨k1.hg s H C cl fp, k1.ht s H C cl fp⟩ | exact ⟨k2.hg s H C cl fp, k2.ht s H C cl fp⟩, fun x hx => by
      simp only [List.mem_cons, List.not_mem_nil, or_false] at hx
      rcases hx with rfl | rfl <;> first | exact ⟨(h1 s H C cl fp).can, hs1 _⟩ | exact ⟨(h2 s H C cl fp).can, hs2 _⟩, (he s H C cl fp).can⟩), r_lcn (q := ⟨tg0, src0, ifs0, canI X.K E c0.w, g0, tt0, c0.vs⟩) (r := [⟨tg1, src1, ifs1, canI X.K E c1.w, g1, tt1, c1.vs⟩, ⟨tg2, src2, ifs2, canI X.K E c2.w, g2, tt2, c2.vs⟩]) (rc := [c1, c2]) ⟨rfl, canI_r, k0.rg, k0.og, k0.rt⟩ rfl (fun p hp => by
      simp only [List.zip_cons_cons, List.zip_nil_left, List.mem_cons, List.not_mem_nil, or_false] at hp
      rcases hp with rfl | rfl <;> first | exact ⟨rfl, canI_r, k1.rg, k1.og, k1.rt⟩ | exact ⟨rfl, canI_r, k2.rg, k2.og, k2.rt⟩) canE_r⟩
theorem pds_setLcn3 {elt : Expr} {own : List (Str × Nat)} {fe : FE} {tg0 src0 : Expr} {ifs0 : List Expr} {g0 : TG} {tt0 : TT} {c0 : CF} {tg1 src1 : Expr} {ifs1 : List Expr} {g1 : TG} {tt1 : TT} {c1 : CF} {tg2 src2 : Expr} {ifs2 : List Expr} {g2 : TG} {tt2 : TT} {c2 : CF} (hc : X.calm = true) (nd : X.N.Nodup) {spos py : Pos} {y : Str} (i : Nat) (hl : X.env.scope.names.lookup y = some .local) (hw : swapsWith (.ListComp elt [⟨tg0, src0, ifs0, 0⟩, ⟨tg1, src1, ifs1, 0⟩, ⟨tg2, src2, ifs2, 0⟩] scope pos) (some (.Name y py)) spos.line X.env = pure true)
    (h0 : PDI X E tg0 src0 c0.w) (ok : BlkOk X.N X.env.scope scope own) (hv : c0.vs = own.map (·.2)) (hn1 : ∀ i ∈ c1.vs, i ∈ c0.vs) (hn2 : ∀ i ∈ c2.vs, i ∈ c1.vs) (k0 : GC X E scope tg0 ifs0 g0 tt0 c0) (k1 : GC X E scope tg1 ifs1 g1 tt1 c1) (k2 : GC X E scope tg2 ifs2 g2 tt2 c2) (h1 : ∀ (s : Shared) (H : Hp) (C : Addr) (cl : List (Str × Addr)) (fp : List Addr), PDI (X.blk s H scope (compEnvC scope cl C X.env) fp) E tg1 src1 c1.w) (h2 : ∀ (s : Shared) (H : Hp) (C : Addr) (cl : List (Str × Addr)) (fp : List Addr), PDI (X.blk s H scope (compEnvC scope cl C X.env) fp) E tg2 src2 c2.w) (he : ∀ (s : Shared) (H : Hp) (C : Addr) (cl : List (Str × Addr)) (fp : List Addr), PD (X.blk s H scope (compEnvC scope cl C X.env) fp) E elt fe) (hs0 : ∀ x, foldedSetIterable src0 X.env x = pure x := by intro _; rfl) (hs1 : ∀ env x, foldedSetIterable src1 env x = pure x := by intro _ _; rfl) (hs2 : ∀ env x, foldedSetIterable src2 env x = pure x := by intro _ _; rfl) (hy : X.N[i]? = some y := by rfl) :
    PDS X E (.Assign [.Name y py] (.ListComp elt [⟨tg0, src0, ifs0, 0⟩, ⟨tg1, src1, ifs1, 0⟩, ⟨tg2, src2, ifs2, 0⟩] scope pos) spos) (sAsg (pLcN c0 [c1, c2] fe) (fName i)) :=
  ⟨_, ps_setLcn (q := ⟨tg0, src0, ifs0, canI X.K E c0.w, g0, tt0, c0.vs⟩) (r := [⟨tg1, src1, ifs1, canI X.K E c1.w, g1, tt1, c1.vs⟩, ⟨tg2, src2, ifs2, canI X.K E c2.w, g2, tt2, c2.vs⟩]) (te := canE X.K E fe) hc nd hy hl hw ok hv ⟨hn1, hn2, trivial⟩ h0.can hs0 (fun s H C cl fp => ⟨fun x hx => by
      simp only [List.mem_cons, List.not_mem_nil, or_false] at hx
      rcases hx with rfl | rfl | rfl <;> first | exact ⟨k0.hg s H C cl fp, k0.ht s H C cl fp⟩ | exact ⟨k1.hg s H C cl fp, k1.ht s H C cl fp⟩ | exact ⟨k2.hg s H C cl fp, k2.ht s H C cl fp⟩, fun x hx => by
      simp only [List.mem_cons, List.not_mem_nil, or_false] at hx
      rcases hx with rfl | rfl <;> first | exact ⟨(h1 s H C cl fp).can, hs1 _⟩ | exact ⟨(h2 s H C cl fp).can, hs2 _⟩, (he s H C cl fp).can⟩), s_asg (r_lcn (q := ⟨tg0, src0, ifs0, canI X.K E c0.w, g0, tt0, c0.vs⟩) (r := [⟨tg1, src1, ifs1, canI X.K E c1.w, g1, tt1, c1.vs⟩, ⟨tg2, src2, ifs2, canI X.K E c2.w, g2, tt2, c2.vs⟩]) (rc := [c1, c2]) ⟨rfl, canI_r, k0.rg, k0.og, k0.rt⟩ rfl (fun p hp => by
      simp only [List.zip_cons_cons, List.zip_nil_left, List.mem_cons, List.not_mem_nil, or_false] at hp
      rcases hp with rfl | rfl <;> first | exact ⟨rfl, canI_r, k1.rg, k1.og, k1.rt⟩ | exact ⟨rfl, canI_r, k2.rg, k2.og, k2.rt⟩) canE_r) g_name⟩
end
end Pd

set_option Elab.async false
set_option linter.all false
set_option maxRecDepth 100000
set_option maxHeartbeats 2000000
/-! a set of texts: made of a list, and sorted -/
namespace Ts
open PySem PySem.Spec PyProof.Rows L2
section
variable {P : Program} {w : World} {A : Around} {E : Value → Shared → Prop} {s : Shared} {a : Addr} {K : Type} [DecidableEq K] {knd : PySem.KeyKind P w K} {k : K} {x : Value} {o : Obj} {es : Array (Int × Value)} {ep : Nat} {t : SetTable}
/-- the state of a set's table that a walk wants -/
structure Tab (w : World) (es : Array (Int × Value)) (t : SetTable) : Prop where
  few : es.size < scanBound
  fit : t.fits es.size = true
  ris : Ris t.place.toList
  led : w.params.followText "set-order" = true ∨ t.led = true
/-- what stands behind the laying of a new one -/
theorem lay_end {g : Bool → Sem Unit} (hg : ∀ b (s1 : Shared) (Q1 : Unit → Shared → Prop), Q1 () s1 → wpAny (model P w) A (g b) Q1 E s1) {es1 : Array (Int × Value)} {t1 : SetTable} {u : Bool} {Q : Option Bool → Shared → Prop} (ho : s.heap.get? a = some o) (hd : o.data = .set es ep t) (T : Tab w es1 t1)
    (q : ∀ h' es' ep' t', Heap.SameBut a s.heap h' → h'.get? a = some { o with data := .set es' ep' t' } → es'.toList.Perm es1.toList → Tab w es' t' → Q (some true) { s with heap := h' }) :
    wpAny (model P w) A (do
      storeSet a es1 t1
      if (!u && t1.tooFull) = true then do
        g (relayAll t1 es1 (SetTable.grown es1.size)).2.2
        storeSet a (relayAll t1 es1 (SetTable.grown es1.size)).1 (relayAll t1 es1 (SetTable.grown es1.size)).2.1
        pure (some true)
      else pure (some true)) Q E s := by
  have w1 := store_at (es' := es1) (t' := t1) ho hd
  have b1 := Heap.SameBut.update s.heap a (Obj.putSet es1 t1)
  refine wpAny_bind (wpAny_storeSet_of ho hd ?_ (fits_of_scanBound T.few))
  by_cases c : (!u && t1.tooFull) = true
  · rw [if_pos c]
    have p := relayAll_perm t1 es1 (SetTable.grown es1.size)
    have f := relayAll_fits t1 es1 (SetTable.grown es1.size)
    have r := relayAll_ris t1 es1 (SetTable.grown es1.size)
    have l := relayAll_led t1 es1 (SetTable.grown es1.size)
    generalize relayAll t1 es1 (SetTable.grown es1.size) = z at p f r l ⊢
    obtain ⟨es2, t2, u2⟩ := z
    dsimp only at p f r l ⊢
    have n2 : es2.size = es1.size := by
      have := p.length_eq
      simpa using this
    have T2 : Tab w es2 t2 := ⟨by rw [n2]; exact T.few, f, r, T.led.imp id fun z => l.trans z⟩
    refine wpAny_bind (hg _ _ _ ?_)
    refine wpAny_bind (wpAny_storeSet_of w1 rfl ?_ (fits_of_scanBound T2.few))
    have w2 := store_at (es' := es2) (t' := t2) w1 rfl
    exact wpAny_pure (q _ _ _ _ (b1.trans (Heap.SameBut.update _ a _)) w2 p T2)
  · rw [if_neg c]
    exact wpAny_pure (q _ _ _ _ b1 w1 (List.Perm.refl _) T)
/-- one is put into the set; nothing is where it was there before -/
theorem add_raw {Q : Bool → Shared → Prop} (hk : knd.is k x = true) (hx : x.scannable = true) (ho : s.heap.get? a = some o) (hd : o.data = .set es ep t) (T : Tab w es t) (room : es.size + 1 < scanBound) (hel : ElemsOf knd es.toList)
    (q0 : ∀ e ∈ es.toList, knd.is k e.2 = true → Q false s)
    (q1 : (∀ e ∈ es.toList, knd.is k e.2 = false) → ∀ h' es' ep' t', Heap.SameBut a s.heap h' → h'.get? a = some { o with data := .set es' ep' t' } → es'.toList.Perm ((knd.hash k, x) :: es.toList) → Tab w es' t' → Q true { s with heap := h' }) :
    wpAny (model P w) A (setAddHashed a x (knd.hash k)) Q E s := by
  unfold setAddHashed setAddHashedIn
  refine wpAny_holding (wpAny_bind (wpAny_setState_of ho hd T.fit ?_))
  dsimp only
  rw [if_pos (byScan_of hx T.few hel)]
  unfold setAddByScan
  refine wpAny_bind (wpAny_bind (wpAny_rule (wpAny_bind (wpAny_setScan_of hk ho hd T.fit hel ?_))))
  cases hf : es.toList.findIdx? (fun e => knd.is k e.2) with
  | some j =>
    obtain ⟨hj, pj, _⟩ := List.findIdx?_eq_some_iff_getElem.mp hf
    exact wpAny_pure (wpAny_pure (q0 _ (List.getElem_mem hj) pj))
  | none =>
    dsimp only
    have no := List.findIdx?_eq_none_iff.mp hf
    have q1 := q1 no
    have p := layNew_perm t es (knd.hash k) x
    have f := layNew_fits t es (knd.hash k) x
    have r := layNew_ris t es (knd.hash k) x T.ris
    have l := layNew_led t es (knd.hash k) x
    generalize layNew t es (knd.hash k) x = z at p f r l ⊢
    obtain ⟨es1, t1, u1, v1⟩ := z
    dsimp only at p f r l ⊢
    rw [Array.toList_push] at p
    have p1 := p.trans (List.perm_append_singleton _ _)
    have n1 : es1.size = es.size + 1 := by
      have := p1.length_eq
      simpa using this
    have T1 : Tab w es1 t1 := ⟨by rw [n1]; exact room, f, r, T.led.imp id fun z => l.trans z⟩
    have T2 : Tab w es1 { t1 with plain := false } := ⟨T1.few, SetTable.fits_plain_off f, r, T1.led⟩
    have gv : ∀ {g : Bool → Sem Unit} (_ : ∀ b (s1 : Shared) (Q1 : Unit → Shared → Prop), Q1 () s1 → wpAny (model P w) A (g b) Q1 E s1) (b : Bool) {s1 : Shared} {Q1 : Unit → Shared → Prop}, Q1 () s1 → wpAny (model P w) A (g b) Q1 E s1 := fun h b _ _ q => h b _ _ q
    refine wpAny_bind (gv (fun b s1 Q1 q => by cases b <;> first | exact wpAny_pure q | exact wpAny_rule q) v1 ?_)
    have fin : ∀ h' es' ep' t', Heap.SameBut a s.heap h' → h'.get? a = some { o with data := .set es' ep' t' } → es'.toList.Perm es1.toList → Tab w es' t' → Q true { s with heap := h' } := fun h' es' ep' t' b m p2 T' => q1 h' es' ep' t' b m (p2.trans p1) T'
    split
    · refine wpAny_bind ?_
      rw [hashByValue_scannable 8 hx]
      refine wpAny_pure ?_
      refine lay_end (fun b s1 Q1 q => by cases b <;> first | exact wpAny_pure q | exact wpAny_rule q) ho hd (by split <;> assumption) fun h' es' ep' t' b m p2 T' => ?_
      exact wpAny_pure (fin h' es' ep' t' b m p2 T')
    · refine wpAny_bind (wpAny_pure ?_)
      simp only [↓reduceIte]
      refine lay_end (fun b s1 Q1 q => by cases b <;> first | exact wpAny_pure q | exact wpAny_rule q) ho hd T1 fun h' es' ep' t' b m p2 T' => ?_
      exact wpAny_pure (fin h' es' ep' t' b m p2 T')
end
end Ts

set_option Elab.async false
set_option linter.all false
set_option maxRecDepth 100000
set_option maxHeartbeats 2000000
namespace Ts
open PySem PySem.Spec PyProof.Rows L2
def kS (e : Int × Value) : Str := match e.2 with
  | .str x _ => x
  | _ => Str.empty
def isT (w : World) (e : Int × Value) : Prop := ∃ x tk, e = (hashStr w x, Value.str x tk)
/-- the object at a is a set of the texts xs, which a walk can go through -/
def TSet (w : World) (h : Heap) (a : Addr) (xs : List Str) : Prop :=
  ∃ o es ep t, h.get? a = some o ∧ o.ExactSet ∧ o.data = .set es ep t ∧ (∀ e ∈ es.toList, isT w e) ∧ (es.toList.map kS).Nodup ∧ (∀ x, x ∈ es.toList.map kS ↔ x ∈ xs) ∧ es.size ≤ xs.length ∧ Tab w es t
section
variable {P : Program} {w : World} {A : Around} {E : Value → Shared → Prop} {s : Shared} {a : Addr} {h h' : Heap} {xs : List Str}
theorem TSet.keep (T : TSet w h a xs) (k : ∀ o, h.get? a = some o → h'.get? a = some o) : TSet w h' a xs := by
  obtain ⟨o, es, ep, t, ho, r⟩ := T
  exact ⟨o, es, ep, t, k o ho, r⟩
theorem isT.is {e : Int × Value} (h : isT w e) (x : Str) : (PySem.strKind P w).is x e.2 = true ↔ kS e = x := by
  obtain ⟨y, tk, rfl⟩ := h
  constructor
  · intro q
    exact (PySem.strKind P w).inj _ _ _ (strKind_is P w y tk) q
  · intro q
    have q : y = x := q
    rw [← q]
    exact strKind_is P w y tk
theorem tadd {x : Str} {tk : Tok} {Q : Bool → Shared → Prop} (T : TSet w s.heap a xs) (room : xs.length + 1 < scanBound) (hQ : ∀ b h', Heap.SameBut a s.heap h' → TSet w h' a (xs ++ [x]) → Q b { s with heap := h' }) :
    wpAny (model P w) A (setAddHashed a (.str x tk) (hashStr w x)) Q E s := by
  obtain ⟨o, es, ep, t, ho, hx, hd, el, nd, mem, le, tb⟩ := T
  refine add_raw (knd := PySem.strKind P w) (k := x) (strKind_is P w x tk) rfl ho hd tb (by omega) (fun e he => ?_) (fun e he q => ?_) fun no h' es' ep' t' sb m p tb' => ?_
  · obtain ⟨y, tk', rfl⟩ := el e he
    exact ⟨⟨y, strKind_is P w y tk', rfl⟩, rfl⟩
  · refine hQ false s.heap (Heap.SameBut.refl a _) ⟨o, es, ep, t, ho, hx, hd, el, nd, fun y => ?_, by rw [List.length_append]; omega, tb⟩
    have q := ((el e he).is x).mp q
    rw [List.mem_append, List.mem_singleton, mem y]
    refine ⟨.inl, fun z => z.elim id fun z => ?_⟩
    rw [z, ← q]
    exact (mem _).mp (List.mem_map_of_mem he)
  · have p1 := p.map kS
    have out : x ∉ es.toList.map kS := fun z => by
      obtain ⟨e, he, q⟩ := List.mem_map.mp z
      have n := no e he
      rw [((el e he).is x).mpr q] at n
      cases n
    refine hQ true h' sb ⟨_, es', ep', t', m, hx, rfl, fun e he => ?_, p1.nodup_iff.mpr (List.nodup_cons.mpr ⟨out, nd⟩), fun y => ?_, ?_, tb'⟩
    · rcases List.mem_cons.mp (p.mem_iff.mp he) with z | z
      · exact ⟨x, tk, z⟩
      · exact el e z
    · rw [p1.mem_iff, List.map_cons, List.mem_cons, mem y, List.mem_append, List.mem_singleton]
      exact Or.comm
    · have n := p.length_eq
      rw [List.length_cons, Array.length_toList, Array.length_toList] at n
      rw [List.length_append, List.length_singleton]
      omega
end
section
variable {P : Program} {w : World} {A : Around} {R : Result → Shared → Prop} {I S : Addr} {fp wr : List Addr} {G : Array GenState → Array GenState → Prop} {n : Nat} {V : Nat → Value → Prop} {St : Nat → Shared → Prop} {xs : List Str}
/-- all that a walk gives are put in -/
theorem fill (W : WalksS P w A.in1 I fp wr G n V St) (hS : S ∉ fp) (len : xs.length = n) (few : n + 1 < scanBound) (val : ∀ i v, V i v → ∃ x tk, xs[i]? = some x ∧ v = .str x tk) :
    ∀ (d i : Nat) (s : Shared), i + d = n → St i s → TSet w s.heap S (xs.take i) → (∀ s', Moved (S :: wr) G s s' → TSet w s'.heap S xs → R (.ok (.ret .none)) s') →
      codeAny (model P w) A (.builtin "set.update.loop" ⟨[.ref S, .ref I], []⟩) R s
  | d, i, s, hi, st, T, q => by
    have up : ∀ b ∈ wr, b ∈ S :: wr := fun b hb => List.mem_cons_of_mem _ hb
    have out : S ∉ wr := fun z => hS (W.sub _ z)
    refine codeAny_builtin F.entry_set_update_loop ((Around.under_plainId F.plain_set_update_loop _).symm ▸ ?_)
    show wpAny _ A.in1 (pyNext (.ref I) >>= _) _ _ s
    cases d with
    | zero =>
      have e : i = n := by omega
      subst e
      refine wpAny_bind (W.done s _ _ st fun s' m => (wpAny_pure (q s' (m.mono up) ?_) : wpAny _ A.in1 (ret Value.none) _ _ s'))
      rw [List.take_of_length_le (by omega)] at T
      exact T.keep fun o ho => m.heap S o out ho
    | succ d =>
      refine wpAny_bind (W.item i s _ _ (by omega) st fun v s1 hv st1 m => ?_)
      obtain ⟨x, tk, hx, rfl⟩ := val i v hv
      have T1 : TSet w s1.heap S (xs.take i) := T.keep fun o ho => m.heap S o out ho
      show wpAny _ A.in1 (holding [Value.str x tk] (setAdd S (.str x tk)) >>= _) _ _ s1
      unfold setAdd
      refine wpAny_bind (wpAny_holding (wpAny_holding (wpAny_bind ((PySem.strKind P w).pyHash (k := x) (strKind_is _ _ _ _) ?_))))
      have l := List.length_take_le i xs
      refine tadd (s := { s1 with toks := s1.toks + 1 }) T1 (by omega) fun b h2 sb T2 => ?_
      have e : xs.take i ++ [x] = xs.take (i + 1) := by
        rw [List.take_add_one, hx]
        rfl
      rw [e] at T2
      refine wpAny_pure ⟨plainId_quiet F.plain_set_update_loop _, fill W hS len few val d (i + 1) _ (by omega) (W.frame _ s1 _ _ st1 (Nat.le_succ _) fun c hc o eo => ?_) T2 fun s3 m3 T3 => ?_⟩
      · exact (sb.2 c fun z => hS (z ▸ hc)).trans eo
      · exact q s3 (Moved.trans W.gtrans ((m.mono up).then_heap (Nat.le_succ _) fun c o hc eo => (sb.2 c fun z => hc (z ▸ List.mem_cons_self ..)).trans eo) m3) T3
end
end Ts

set_option Elab.async false
set_option linter.all false
set_option maxRecDepth 100000
set_option maxHeartbeats 4000000
namespace Ts
open PySem PySem.Spec PyProof.Rows L2
/-- a set that is just made -/
def bare (w : World) : Obj := { cls := .type "set", dict := none, data := .set #[] 0 (.fresh 0 0 (!w.params.followText "set-order")) }
section
variable {P : Program} {w : World} {A : Around} {E : Value → Shared → Prop} {s : Shared}
theorem bare_at {h : Heap} {a : Addr} (e : h.get? a = some (bare w)) : TSet w h a [] :=
  ⟨_, #[], 0, _, e, ⟨rfl, rfl, rfl⟩, rfl, fun e z => by simp at z, by simp, fun x => by simp, by simp, by decide, rfl, List.Pairwise.nil, by
    show _ ∨ (!w.params.followText "set-order") = true
    cases w.params.followText "set-order" <;> simp⟩
theorem made1 (u : Value) {Q1 : Value → Shared → Prop} (q : Q1 (.ref s.heap.objs.size) { s with heap := s.heap.push (bare w) }) :
    codeAny (model P w) A (.call (.builtin "set.__new__") ⟨[.type "set", u], []⟩) (wants Q1 E) s := by
  refine codeAny_of_tree (?_ : wpAny _ A.in1 (do checkBuiltinCall "set.__new__" ⟨[.type "set", u], []⟩; again (.builtin "set.__new__" ⟨[.type "set", u], []⟩)) _ _ s)
  have isSet := sub_set_self
  refine wpAny_bind (wpAny_of_eq (PySem.F.newCall_set_1 u) (wpAny_pure ⟨plainId_quiet PySem.F.plain_set_new _, codeAny_builtin PySem.F.entry_set_new ((Around.under_plainId PySem.F.plain_set_new _).symm ▸ ?_)⟩))
  obtain ⟨hp, gs, dr, tk, os⟩ := s
  unfold Builtin.«set.__new__» Builtin.Frozenset.newClass; dsimp only
  wp_walk
  refine wpAny_askSetting (wpAny_pure ?_)
  dsimp only; simp only [newObj]
  exact wpAny_bind (wpAny_alloc (wpAny_pure (wpAny_pure q)))
theorem filled {l : Addr} {items : Array Value} {xs : List Str} {F : Fin → Shared → Prop} {E : Value → Shared → Prop} (hh : A.handled = none) (hl : s.heap.IsList l items) (hi : StrsAre items.toList xs) (few : items.size + 1 < scanBound)
    (q : ∀ (h' : Heap) (tk : Nat), s.toks ≤ tk → TSet w h' s.heap.objs.size xs → (∀ b o, b < s.heap.objs.size → s.heap.get? b = some o → h'.get? b = some o) → F (.done (.ret .none)) { s with heap := h', toks := tk }) :
    wpAny (model P w) A (Builtin.«set.__init__» ⟨[.ref s.heap.objs.size, .ref l], []⟩) F E { s with heap := s.heap.push (bare w) } := by
  have new : (s.heap.push (bare w)).get? s.heap.objs.size = some (bare w) := Heap.get?_push_size _ rfl
  have ⟨⟨lc, ld, ldt, lsl⟩, lo, e1, ln, e2⟩ := hl
  simp only at e1 e2
  subst e1; subst e2
  have lo1 : (s.heap.push (bare w)).get? l = some { cls := .type "list", dict := ld, data := .seq items ln, slots := lsl } := Heap.get?_push_of_some _ lo
  have n1 := PySem.F.sub_list_set; have n2 := PySem.F.sub_list_frozenset
  have n3 : (Value.type "list" == Value.type "dict") = false := by decide
  have L1 : (s.heap.push (bare w)).IsList l items := ⟨_, lo1, rfl, ln, rfl⟩
  unfold Builtin.«set.__init__» noKeywords Builtin.Frozenset.updateFrom
  generalize hW : pyIter = walk
  wp_walk
  subst hW
  have lt := Heap.lt_size lo
  have sz : (s.heap.push (bare w)).objs.size = s.heap.objs.size + 1 := Heap.size_push ..
  have len : xs.length = items.size := (StrsAre.len_eq hi).symm.trans Array.length_toList
  have ne1 : l ≠ (s.heap.push (bare w)).objs.size := by
    rw [sz]
    exact Nat.ne_of_lt (Nat.lt_succ_of_lt lt)
  have ne2 : s.heap.objs.size ≠ (s.heap.push (bare w)).objs.size := by
    rw [sz]
    exact Nat.ne_of_lt (Nat.lt_succ_self _)
  refine wpAny_pyIter_list L1 (wpAny_bind (wpAny_runValue ?_))
  refine fill (n := items.size) (xs := xs) ((Walks.list (by simp [hh]) _ l ne1 items).toS) (fun z => ?_) len few (fun i v hv => ?_) items.size 0 _ (by omega) ⟨⟨_, Heap.get?_push_size _ rfl, rfl, rfl⟩, L1.push _⟩ (bare_at (Heap.get?_push_of_some _ new)) fun s' m T => ?_
  · rcases List.mem_cons.mp z with z | z
    · exact ne2 z
    · exact Nat.ne_of_gt lt (List.mem_singleton.mp z)
  · obtain ⟨tk, e⟩ := SS.strs_at hi i v (by rw [Array.getElem?_toList]; exact hv)
    have li : i < xs.length := by
      rw [len]
      exact (Array.getElem?_eq_some_iff.mp hv).1
    refine ⟨xs[i], tk, List.getElem?_eq_getElem li, ?_⟩
    rw [e, List.getD_eq_getElem?_getD, List.getElem?_eq_getElem li]
    rfl
  · obtain ⟨h2, g2, d2, t2, o2⟩ := s'
    have x1 : g2 = s.gens := m.gens; have x2 : d2 = s.drawn := m.drawn; have x3 : o2 = s.os := m.os
    subst x1; subst x2; subst x3
    refine wpAny_pure (?_ : wpAny _ _ (ret Value.none) _ _ _)
    refine wpAny_pure (q h2 t2 m.toks T fun b o hb e => m.heap b o (fun z => ?_) (Heap.get?_push_of_some _ (Heap.get?_push_of_some _ e)))
    rcases List.mem_cons.mp z with z | z
    · exact Nat.ne_of_lt hb z
    · refine Nat.ne_of_lt (Nat.lt_succ_of_lt hb) ?_
      show b = s.heap.objs.size + 1
      rw [← sz]
      exact List.mem_singleton.mp z
theorem set_of_list {l : Addr} {items : Array Value} {xs : List Str} {Q : Value → Shared → Prop} (hh : A.handled = none) (hl : s.heap.IsList l items) (hi : StrsAre items.toList xs) (few : items.size + 1 < scanBound)
    (q : ∀ (h' : Heap) (tk : Nat), s.toks ≤ tk → TSet w h' s.heap.objs.size xs → (∀ b o, b < s.heap.objs.size → s.heap.get? b = some o → h'.get? b = some o) → Q (.ref s.heap.objs.size) { s with heap := h', toks := tk }) :
    wpAny (model P w) A (call (.type "set") [.ref l]) Q E s := by
  have ⟨c0, t0, order⟩ := PySem.F.called_set.mro
  have isMade := PySem.F.called_set.made; have isSub := PySem.F.called_set.sub
  have noType := PySem.F.called_set.notType; have mayMake := PySem.F.called_set.canCreate
  have oneArg := PySem.F.typeCall_set_1 (.ref l)
  refine wpAny_call (codeAny_of_tree (?_ : wpAny _ _ (callAny (.type "set") _) _ _ _))
  refine wpAny_pure ⟨Code.quiet_builtin _ (by decide +kernel), codeAny_builtin PySem.F.entry_type_call ((Around.under_plain (weight_type_call_type "set" [.ref l] []) rfl).symm ▸ ?_)⟩
  repeat (any_goals (first | assumption | wp_step))
  refine codeAny_mono (made1 (.ref l) (E := E) (Q1 := fun u s1 => u = .ref s.heap.objs.size ∧ s1 = { s with heap := s.heap.push (bare w) }) ⟨rfl, rfl⟩) fun r s1 hr => ?_
  rcases r with e | ⟨u⟩ | _ <;> try exact hr
  obtain ⟨rfl, rfl⟩ := hr
  have new : (s.heap.push (bare w)).get? s.heap.objs.size = some (bare w) := Heap.get?_push_size _ rfl
  have newT : Shared.TypeIs { s with heap := s.heap.push (bare w) } (.ref s.heap.objs.size) "set" := ⟨_, new, rfl⟩
  have i1 := PySem.F.called_set.init.lookup
  have i2 := PySem.F.called_set.init.bind (.ref s.heap.objs.size)
  repeat (any_goals (first | assumption | wp_step))
  refine codeAny_mono (codeAny_call_builtin (R := wants (fun r s2 => r = .none ∧ ∃ h' tk, s2 = { s with heap := h', toks := tk } ∧ s.toks ≤ tk ∧ TSet w h' s.heap.objs.size xs ∧ ∀ b o, b < s.heap.objs.size → s.heap.get? b = some o → h'.get? b = some o) E)
    PySem.F.called_set.init.plain PySem.F.entry_set_init (check_set_init_1 newT (filled (by simp [hh]) hl hi few fun h' tk ht T old => ⟨rfl, h', tk, rfl, ht, T, old⟩))) fun r2 s2 hr2 => ?_
  rcases r2 with e | ⟨u⟩ | _ <;> try exact hr2
  obtain ⟨rfl, h', tk, rfl, ht, T, old⟩ := hr2
  repeat (any_goals (first | assumption | wp_step))
  exact q h' tk ht T old
end
end Ts

set_option Elab.async false
set_option linter.all false
set_option maxRecDepth 100000
set_option maxHeartbeats 4000000
namespace Ts
open PySem PySem.Spec PyProof.Rows L2
/-- each text once -/
def dd : List Str → List Str
  | [] => []
  | x :: xs => if x ∈ xs then dd xs else x :: dd xs
theorem mem_dd {x : Str} : ∀ {xs : List Str}, x ∈ dd xs ↔ x ∈ xs
  | [] => Iff.rfl
  | y :: ys => by
    unfold dd
    split
    · rename_i h
      rw [mem_dd, List.mem_cons]
      exact ⟨.inr, fun z => z.elim (fun e => e ▸ h) id⟩
    · rw [List.mem_cons, List.mem_cons, mem_dd]
theorem nodup_dd : ∀ xs : List Str, (dd xs).Nodup
  | [] => List.nodup_nil
  | y :: ys => by
    unfold dd
    split
    · exact nodup_dd ys
    · rename_i h
      exact List.nodup_cons.mpr ⟨fun z => h (mem_dd.mp z), nodup_dd ys⟩
section
variable {w : World}
theorem texts_of : ∀ (es : List (Int × Value)), (∀ e ∈ es, isT w e) → StrsAre (es.map (·.2)) (es.map kS)
  | [], _ => .nil
  | e :: es, h => by
    obtain ⟨x, tk, rfl⟩ := h e (List.mem_cons_self ..)
    exact .cons x tk (texts_of es fun u hu => h u (List.mem_cons_of_mem _ hu))
theorem strs_perm {us vs : List Value} (p : us.Perm vs) : ∀ {xs : List Str}, StrsAre vs xs → ∃ ys, StrsAre us ys ∧ ys.Perm xs := by
  induction p with
  | nil => exact fun h => ⟨_, h, List.Perm.refl _⟩
  | cons v p ih =>
    rintro _ (_ | ⟨x, t, h⟩)
    obtain ⟨ys, h1, h2⟩ := ih h
    exact ⟨_, .cons x t h1, h2.cons x⟩
  | swap a b l =>
    rintro _ (_ | ⟨x, t, _ | ⟨y, u, h⟩⟩)
    exact ⟨_, .cons y u (.cons x t h), List.Perm.swap ..⟩
  | trans p q ih1 ih2 =>
    intro xs h
    obtain ⟨ys, h1, h2⟩ := ih2 h
    obtain ⟨zs, h3, h4⟩ := ih1 h1
    exact ⟨zs, h3, h4.trans h2⟩
end
section
variable {P : Program} {w : World} {A : Around} {E : Value → Shared → Prop} {s : Shared} {a : Addr} {xs : List Str}
theorem sorted_tset {Q : Value → Shared → Prop} (T : TSet w s.heap a xs) (hh : A.handled = none) (small : (dd xs).length < 64)
    (q : ∀ s' p (out : Array Value) (c : Nat) (ys : List Str), (∀ b o, s.heap.get? b = some o → s'.heap.get? b = some o) → s'.gens = s.gens → s'.os = s.os → s.heap.objs.size ≤ p →
      s'.heap.get? p = some (seqObj "list" out c) → StrsAre out.toList ys → ys.Perm (dd xs) → sortedS ys = true → Q (.ref p) s') :
    wpAny (model P w) A (call (.builtin "sorted") [.ref a]) Q E s := by
  have ⟨o, es, ep, t, ho, hx, hd, el, nd, mem, le, tb⟩ := T
  have ks : (es.toList.map kS).Perm (dd xs) := (List.perm_ext_iff_of_nodup nd (nodup_dd xs)).mpr fun y => (mem y).trans mem_dd.symm
  refine Calls.call_function_entry kind_sorted plain_sorted entry_sorted (args_sorted1 _) ?_
  unfold Builtin.«sorted»
  refine wpAny_bind (m := checkCount "sorted" 1 1 _) (wpAny_pure (wpAny_bind (collect_set (A := A.in1) hh ⟨o, ho, hx.1, hd⟩ tb.fit tb.few tb.ris tb.led fun s1 vs old le1 g1 o1 pm => ?_)))
  obtain ⟨zs, sz, pz⟩ := strs_perm pm (texts_of es.toList el)
  have pz := pz.trans ks
  have len : vs.length < 64 := by
    rw [sz.len_eq, pz.length_eq]
    exact small
  refine wpAny_bind (wpAny_newList ?_ (by rw [sizeLine_eq]; omega))
  have here : (s1.heap.push (seqObj "list" vs.toArray 0)).get? s1.heap.objs.size = some (seqObj "list" vs.toArray 0) := Heap.get?_push_size _ rfl
  refine wpAny_bind (wpAny_holding (wpAny_call_entry slot_list_sort ⟨_, here, rfl⟩ entry_list_sort
    (list_sort_treeK strKind_oneLt (s := { s1 with heap := s1.heap.push (seqObj "list" vs.toArray 0) }) here sz.keysOf (fun _ _ _ e => keyKind_strs (e ▸ sz)) len fun st' hp hs => ⟨_, rfl, ?_⟩) (args_list_sort _)))
  obtain ⟨ys, y1, y2, y3⟩ := sorted_out_str sz hp hs
  obtain ⟨c, hc⟩ := sortedHeap_at (vs := vs) (out := (arrOf st').map (·.2)) here
  refine wpAny_pure ⟨_, rfl, q _ s1.heap.objs.size _ c ys (fun b u e => ?_) g1 o1 le1 hc y1 (y2.trans pz) y3⟩
  have e1 := old b u e
  have lt := Heap.lt_size e1
  refine Eq.trans ?_ (Heap.get?_push_of_some (seqObj "list" vs.toArray 0) e1)
  exact sortedHeap_old (Nat.ne_of_lt lt) (by rw [size_push']; exact Nat.lt_succ_of_lt lt)
end
end Ts

set_option Elab.async false
set_option linter.all false
set_option maxRecDepth 100000
set_option maxHeartbeats 4000000
namespace Ts
open PySem PySem.Spec PyProof.Rows L2
/-- sorted(set(e)), e a list of texts -/
def tSS (K : PySem.W.Frag) (ta : TE) : TE := fun σ H Q => ta σ H fun x H1 => ∃ l, ∃ xs : List Str, x = .ref l ∧ SqL K H1 l (xs.map V.str) ∧ xs.length + 1 < scanBound ∧ (dd xs).length < 64 ∧
  ∀ (ys : List Str) (p : Addr), ys.Perm (dd xs) → sortedS ys = true → H1 p = none → Q (.ref p) (upd H1 p (.lst (ys.map V.str)))
section
variable {X : Cx} {e : Expr} {te : TE} {p1 p2 p3 p4 : Pos}
theorem boot_sort : bootBuiltins "sorted" = some (.builtin "sorted") := by decide +kernel
theorem pe_ss (hc : X.calm = true) (g1 : Gl X "sorted") (n1 : X.mg "sorted" = none) (g2 : Gl X "set") (n2 : X.mg "set" = none) (he : PE X e te)
    (one : starEach [e] X.env = (false, eval e X.env) :: starEach [] X.env := by rfl) : PE X (.Call (.Name "sorted" p1) [.Call (.Name "set" p2) [e] [] p3] [] p4) (tSS X.K te) := ⟨fun pins s σ H Q I q => by
  refine Call_ (ld_blt I g1 n1 boot_sort (PyProof.Rows.callWith_builtin1 (PyProof.Rows.args_cons ?_ rfl) rfl rfl))
  refine Call_ (ld_blt I g2 n2 PyProof.Rows.boot_set ?_)
  refine PyProof.Rows.callWith_type1 (PyProof.Rows.args_cons (thn (he.run pins s σ H _ I q) fun v s1 ⟨x, H1, I1, r1, q1⟩ => PyProof.Rows.args_nil ?_) one) one rfl
  obtain ⟨l, xs, rfl, sq, few, small, q1⟩ := q1
  cases r1
  obtain ⟨its, r, pl, sz⟩ := I1.list sq
  have len : its.length = xs.length := by rw [← r.length, List.length_map]
  refine set_of_list (I1.ok.hd hc) pl.isList (by simpa using strsAre_of r) (by simpa [len] using few) fun h' tk ht T old => PyProof.Rows.args_nil ?_
  have I2 : Inv X pins σ H1 { s1 with heap := h', toks := tk } := I1.kept fun b o z => old b o (Heap.lt_size z) z
  refine sorted_tset T (I2.ok.hd hc) small fun s' p out c ys k g o hp hg hi pm so => ?_
  have free : H1 p = none := I2.hok.fresh hp
  have few' : (ys.map V.str).length ≤ sizeLine := by rw [List.length_map, pm.length_eq, sizeLine_eq]; omega
  have J : Inv X pins σ (upd H1 p (.lst (ys.map V.str))) { ({ s1 with heap := h', toks := tk } : Shared) with heap := s'.heap, gens := s'.gens, drawn := s'.drawn, toks := s'.toks } :=
    I2.call (ch := []) (Un.laid k hp free) (I2.hok.laid k hp ⟨few', out.toList, c, vals_of_strs hi, hg⟩) (by rw [g]; exact I2.bare) (fun _ z => nomatch z)
  have same : s' = { s1 with heap := s'.heap, gens := s'.gens, drawn := s'.drawn, toks := s'.toks } := by
    obtain ⟨_, _, _, _, _⟩ := s'
    obtain ⟨_, _, _, _, _⟩ := s1
    have o := o
    cases o
    rfl
  exact same ▸ ⟨.ref p, _, J, rfl, q1 ys p pm so free⟩⟩
end
end Ts
namespace Pd
open PySem L2
def gSS (M : PM) (d : D) : Out D := match listOf M d with
  | some ds => match strL ds with
    | some ns => if ns.length < 4000 ∧ (Ts.dd ns).length < 64 then .ok (.lst ((sortS (Ts.dd ns)).map .str)) M else .bad
    | none => .bad
  | none => .bad
theorem r_ss {K : PySem.W.Frag} {E : XK} {te : TE} {fe : FE} (he : RE K E te fe) : RE K E (Ts.tSS K te) (pUn gSS fe) := fun ρ σ H α M Q e w h =>
  he ρ σ H α M _ e w (bnd h fun a M1 x α1 H1 _ s1 w1 r1 q => by
    unfold gSS at q
    split at q
    · rename_i ds hd
      obtain ⟨l, vs, rfl, hs, rs⟩ := list_ok w1 r1 hd
      split at q
      · rename_i ns hn
        obtain ⟨⟨c1, c2⟩, q⟩ := ifb q
        have ex := strL_rep rs hn
        subst ex
        refine ⟨l, ns, rfl, hs, by unfold scanBound; omega, c2, fun ys p pm so hp => ?_⟩
        rw [sortS_only pm so]
        exact q.nowX w1 (ex_new hp) (new_lst w1 hp (repL_strs _))
      · exact q.elim
    · exact q.elim)
theorem pd_ss {X : Cx} {E : XK} {e : Expr} {fe : FE} {p1 p2 p3 p4 : Pos} (hc : X.calm = true) (g1 : Gl X "sorted") (n1 : X.mg "sorted" = none) (g2 : Gl X "set") (n2 : X.mg "set" = none) (he : PD X E e fe)
    (one : starEach [e] X.env = (false, eval e X.env) :: starEach [] X.env := by rfl) : PD X E (.Call (.Name "sorted" p1) [.Call (.Name "set" p2) [e] [] p3] [] p4) (pUn gSS fe) := by
  obtain ⟨t, he, r⟩ := he
  exact ⟨_, Ts.pe_ss hc g1 n1 g2 n2 he one, r_ss r⟩
end Pd

set_option Elab.async false
set_option linter.all false
set_option maxRecDepth 100000
set_option maxHeartbeats 4000000
/-! enumerate over a tuple -/
namespace En
open PySem PySem.Spec L2
theorem drawsT {P : Program} {w : World} {A : Around} (hh : A.handled = none) (it t : Addr) (ne : t ≠ it) (items : Array Value) :
    Draws P w A it [it, t] items.size (fun i v => items[i]? = some v) (fun i h => h.IsTupleIter it t i ∧ h.IsTuple t items) where
  live := fun i h st => by
    obtain ⟨o, ho, _⟩ := st.1
    exact ⟨o, ho⟩
  frame := fun i h h' st k => ⟨st.1.at fun o e => k it (by simp) o e, st.2.at fun o e => k t (by simp) o e⟩
  item := fun i s Q E lt st q => by
    have hx : items[i]? = some items[i] := by simp [lt]
    exact wpAny_nextOf_tuple_item st.1 st.2 hx fun h' a1 a2 => q _ h' s.toks hx ⟨a1, st.2.extBut a2.extBut ne⟩ a2
  done := fun s Q E st q => wpAny_nextOf_tuple_end hh st.1 st.2 (by simp) q
theorem newT (t : Addr) (items : Array Value) (n : Nat) (dct : Option Addr) (sl : Array (Option Value)) :
    Meets (Builtin.«enumerate.__new__» ⟨[.type "enumerate", .ref t], []⟩) (fun _ R s => s.heap.get? t = some { cls := .type "tuple", dict := dct, data := .seq items n, slots := sl } ∧
      R (.ok (.ret (.ref (s.heap.push { cls := .type "tuple_iterator", data := .fields #[.ref t, .int 0 0] }).objs.size)))
        { s with heap := (s.heap.push { cls := .type "tuple_iterator", data := .fields #[.ref t, .int 0 0] }).push { cls := .type "enumerate", data := .fields #[.none, .bool false, .ref s.heap.objs.size, rawInt 0, .none, .none] } }) :=
  .of_wp fun P w A R s q => by
    obtain ⟨hp, gs, dr, tk, os⟩ := s
    obtain ⟨here, q⟩ := q
    have isEnum := sub_enumerate
    have T1 : Heap.IsTuple (Shared.heap ⟨hp, gs, dr, tk, os⟩) t items := ⟨_, here, rfl, n, rfl⟩
    wp_walk using wpAny_loadPart' here
    refine wpAny_stack_any fun st => wpAny_pure ?_
    split
    · rename_i c _ _ _ _ _
      cases (c == Value.type "enumerate") <;> (wp_walk using wpAny_loadPart' here, wpAny_pyIter_tuple T1; exact ⟨_, rfl, q⟩)
    · wp_walk using wpAny_loadPart' here, wpAny_pyIter_tuple T1
      exact ⟨_, rfl, q⟩
section
variable {P : Program} {w : World} {A : Around} {E : Value → Shared → Prop} {s : Shared}
theorem made {t : Addr} {items : Array Value} {Q : Value → Shared → Prop} (hT : s.heap.IsTuple t items)
    (q : ∀ h', IsEnum h' (s.heap.objs.size + 1) s.heap.objs.size 0 .none → h'.IsTupleIter s.heap.objs.size t 0 → h'.objs.size = s.heap.objs.size + 2 →
      (∀ b o, s.heap.get? b = some o → h'.get? b = some o) → Q (.ref (s.heap.objs.size + 1)) { s with heap := h' }) :
    wpAny (model P w) A (call (.type "enumerate") [.ref t]) Q E s := by
  have ⟨⟨c, dct, dt, sl⟩, here, e1, n, e2⟩ := hT
  simp only at e1 e2
  subst e1; subst e2
  refine callType_new F.called_enumerate (by decide) (F.typeCall_enumerate_1 _) (F.newCall_enumerate_1 _) (fun u => F.args_object_init_2 u _) F.entry_enumerate_new (newT t items n dct sl) ⟨here, ?_⟩
  generalize ei : ({ cls := .type "tuple_iterator", data := .fields #[.ref t, .int 0 0] } : Obj) = oi
  generalize ee : ({ cls := .type "enumerate", data := .fields #[.none, .bool false, .ref s.heap.objs.size, rawInt 0, .none, .none] } : Obj) = oe
  have sz : (s.heap.push oi).objs.size = s.heap.objs.size + 1 := Heap.size_push ..
  show _ ∧ _
  rw [sz]
  have g1 : ((s.heap.push oi).push oe).get? (s.heap.objs.size + 1) = some oe := by
    have := Heap.get?_push_size (s.heap.push oi) (o := oe) (by rw [← ee]; rfl)
    rw [sz] at this
    exact this
  have g2 : ((s.heap.push oi).push oe).get? s.heap.objs.size = some oi := Heap.get?_push_of_some _ (Heap.get?_push_size _ (by rw [← ei]; rfl))
  refine ⟨⟨_, g1, by rw [← ee]⟩, q _ (by rw [← ee] at g1 ⊢; exact g1) ⟨_, g2, by rw [← ei], by rw [← ei]; rfl⟩ (by rw [Heap.size_push, sz]) fun b o e => Heap.get?_push_of_some _ (Heap.get?_push_of_some _ e)⟩
end
end En

set_option Elab.async false
set_option linter.all false
set_option maxRecDepth 100000
set_option maxHeartbeats 4000000
namespace En
open PySem PySem.Spec L2
/-- the tuple at a, each item in a new pair with its place -/
def IteT (K : PySem.W.Frag) (a : Addr) : It :=
  ⟨fun i H => ∃ (xs : List V) (x : V), SqT K H a xs ∧ xs[i]? = some x, fun i H v H' => ∃ T x, v = .ref T ∧ H T = none ∧ H' = upd H T (.tup [.int (i : Nat), x]) ∧ ∀ xs, SqT K H a xs → xs[i]? = some x,
    fun i H => ∃ xs : List V, SqT K H a xs ∧ xs.length ≤ i⟩
theorem other {h : Heap} {a b : Addr} {o o' : Obj} (ha : h.get? a = some o) (hb : h.get? b = some o') (ne : o.cls ≠ o'.cls) : a ≠ b := fun z => by
  rw [z, hb] at ha
  exact ne (congrArg Obj.cls (Option.some.inj ha).symm)
theorem endT {P : Program} {w : World} {A : Around} {E : Value → Shared → Prop} {s : Shared} {e it t : Addr} {i : Nat} {c : Int} {items : Array Value} {old : Value} {Q : Option Value → Shared → Prop} (hh : A.handled = none) (he : IsEnum s.heap e it c old) (hit : s.heap.IsTupleIter it t i) (ht : s.heap.IsTuple t items) (hx : items[i]? = none)
    (q : ∀ h', Heap.ExtBut it s.heap h' → Q none { s with heap := h' }) : wpAny (model P w) A (pyNext (.ref e)) Q E s := by
  have T : s.TypeIs (.ref e) "enumerate" := ⟨_, he, rfl⟩
  unfold pyNext
  refine wpAny_bind (wpAny_attempt (wpAny_callSpecial?_slot (name := Str.ofString "__next__") T F.slot_enumerate_next (wpAny_call_entry F.slot_enumerate_next T F.entry_enumerate_next (?_ : wpAny _ _ (field (.ref e) 2 >>= _) _ _ _) (F.args_enumerate_next_1 _))))
  refine wpAny_bind (wpAny_field he rfl (x := .ref it) rfl (wpAny_bind (wpAny_nextOf_tuple_end (by simp [hh]) hit ht hx fun h' x a1 a2 => ?_)))
  obtain ⟨o, ho, hc⟩ := a2
  exact wpAny_bind (wpAny_isInstance (T := "StopIteration") (b := true) ⟨o, ho, hc⟩ isSubtype_stop (wpAny_pure (q _ a1)))
theorem turnT {P : Program} {w : World} {K : PySem.W.Frag} {elts : List Expr} {kk : Nat} {tpos : Pos} (a e it : Addr) :
    Turn P w K (.Tuple elts kk tpos) (IteT K a) [e, it] e (fun i h => (∃ old, IsEnum h e it ((i : Nat) : Int) old) ∧ h.IsTupleIter it a i ∧ e ≠ it) where
  mem := by simp
  obj := fun i h st b hb => by
    obtain ⟨⟨old, he⟩, ⟨o, ho, hc, hd⟩, _⟩ := st
    rcases List.mem_cons.mp hb with z | z
    · rw [z]; exact ⟨_, he, fun v q => nomatch q⟩
    · rw [List.mem_singleton.mp z]; exact ⟨o, ho, fun v q => by rw [hd] at q; cases q⟩
  keep := fun i h h' st k => by
    obtain ⟨⟨old, he⟩, hi, ne⟩ := st
    exact ⟨⟨old, k e (by simp) _ he⟩, hi.at fun o q => k it (by simp) o q, ne⟩
  item := by
    intro X e1 e2 e3 hc i pins s σ H E I hf st hg
    subst e1 e2 e3
    obtain ⟨⟨old, he⟩, hit, ne⟩ := st
    obtain ⟨xs, x, hq, hx⟩ := hg
    obtain ⟨its, rv, p, hz⟩ := I.tuple hq
    obtain ⟨u, hu, ru⟩ := rv.get hx
    have ⟨oa, ga, ca, _⟩ := p
    have ⟨oi, gi, ci, _⟩ := hit
    have le : e < s.heap.objs.size := Heap.lt_size he
    have li : it < s.heap.objs.size := Heap.lt_size gi
    have ne1 : a ≠ it := other ga gi (by rw [ca, ci]; decide)
    have ne2 : a ≠ e := other ga he (by rw [ca]; show Value.type "tuple" ≠ Value.type "enumerate"; decide)
    have D : Draws X.prog X.w X.A.in1 it [it, a] its.toArray.size (fun i v => its.toArray[i]? = some v) (fun i h => h.IsTupleIter it a i ∧ h.IsTuple a its.toArray) := drawsT (by simp [I.ok.hd hc]) it a ne1 its.toArray
    have lt : i < its.toArray.size := by
      have := (List.getElem?_eq_some_iff.mp hu).1
      simpa using this
    refine wpAny_pyNext_enum_itemD D he ⟨hit, p⟩ lt ne (by simp [ne, Ne.symm ne2]) fun y h1 tk hy out st1 hT sz k => ?_
    have hy : y = u := by
      have hy : its[i]? = some y := by simpa using hy
      rw [hu] at hy
      exact (Option.some.inj hy).symm
    subst hy
    refine ⟨_, rfl, wpAny_letOwnedTupleGo_enum (s := { s with heap := h1, toks := tk + 1 }) out fun h2 he2 sb => ?_⟩
    have hT2 : h2.get? s.heap.objs.size = some { cls := .type "tuple", data := .seq #[.int i tk, y] } := (sb.2 _ (Nat.ne_of_gt le)).trans hT
    have new : ObjOk X.prog X.w (upd H s.heap.objs.size (.tup [.int (i : Nat), x])) h2 s.heap.objs.size (.tup [.int (i : Nat), x]) :=
      ⟨by show 2 ≤ sizeLine; decide, [.int i tk, y], .cons ⟨_, rfl⟩ (.cons ru .nil), ⟨_, hT2, rfl, _, rfl⟩⟩
    have I1 : Inv X pins σ (upd H s.heap.objs.size (.tup [.int (i : Nat), x])) { s with heap := h2, toks := tk + 1 } :=
      I.turnedNew (ch := [e, it]) (fun b o hb q => (sb.2 b (fun z => hb (by simp [z]))).trans (k b o (fun z => hb (by simp [z])) (fun z => hb (by simp [z])) q)) hf (Nat.le_refl _) new
    refine ⟨.ref s.heap.objs.size, _, I1, rfl, ⟨_, x, rfl, I.hok.fresh (Nat.le_refl _), rfl, fun ys hy => by rw [I.tuple_inj hy hq]; exact hx⟩, ⟨⟨y, ?_⟩, st1.1.at fun o q => (sb.2 it (Ne.symm ne)).trans q, ne⟩, fun b hb => ?_⟩
    · rw [show ((i + 1 : Nat) : Int) = (i : Int) + 1 by omega]
      exact he2
    · have lb : b < s.heap.objs.size := by
        rcases List.mem_cons.mp hb with z | z
        · rw [z]; exact le
        · rw [List.mem_singleton.mp z]; exact li
      rw [upd_ne (Nat.ne_of_lt lb)]
      exact (hf b hb).1
  done := by
    intro X e1 e2 e3 hc i pins s σ H E I hf st hg
    subst e1 e2 e3
    obtain ⟨⟨old, he⟩, hit, ne⟩ := st
    obtain ⟨xs, hq, hx⟩ := hg
    obtain ⟨its, rv, p, hz⟩ := I.tuple hq
    obtain ⟨f0, f1, f2, f3, f4, f5⟩ := hf it (by simp)
    have len := rv.length
    exact endT (I.ok.hd hc) he hit p (by simp; omega) fun h' eb => ⟨rfl, I.turned (t' := s.toks) (fun b o hb q => eb b o hb q) f0 f1 f3 f4 f5⟩
  self := fun A i s Q E st h => by
    obtain ⟨⟨_, he⟩, _⟩ := st
    exact wpAny_pyIter_enum he h
def iEnT (K : PySem.W.Frag) (ta : TA) : TI := fun σ H R => ta σ H fun vs H1 => ∃ a xs, vs = [.ref a] ∧ SqT K H1 a xs ∧ R (IteT K a) H1
theorem boot_en : bootBuiltins "enumerate" = some (.type "enumerate") := by decide +kernel
theorem pi_enT {X : Cx} {e : Expr} {ta : TA} {p pos tpos : Pos} {elts : List Expr} {kk : Nat} (hg : Gl X "enumerate") (hm : X.mg "enumerate" = none) (ha : PA X [e] ta) (one : starEach [e] X.env = [(false, eval e X.env)] := by rfl) :
    PI X (.Tuple elts kk tpos) (.Call (.Name "enumerate" p) [e] [] pos) (iEnT X.K ta) := ⟨fun pins s σ H R I h => by
  refine PyProof.Rows.Call_ (ld_blt I hg hm boot_en (PyProof.Rows.callWith_type1 (thn (ha.run pos pins s σ H _ I h) fun us s1 ⟨vs, H1, I1, r1, q1⟩ => ?_) one rfl))
  obtain ⟨a, xs, rfl, hq, q⟩ := q1
  rcases r1 with _ | ⟨r, _ | _⟩
  cases r
  obtain ⟨its, rv, p', hz⟩ := I1.tuple hq
  refine made p' fun h' he hit sz k => wpAny_pyIter_enum he ?_
  have I2 : Inv X pins σ H1 { s1 with heap := h' } := I1.kept (t' := s1.toks) k
  refine ⟨s1.heap.objs.size + 1, [s1.heap.objs.size + 1, s1.heap.objs.size], _, _, H1, rfl, I2, turnT a (s1.heap.objs.size + 1) s1.heap.objs.size, ⟨⟨.none, he⟩, hit, Nat.succ_ne_self _⟩, fun b hb => ?_, q⟩
  have le : s1.heap.objs.size ≤ b := by
    rcases List.mem_cons.mp hb with z | z
    · rw [z]; exact Nat.le_succ _
    · rw [List.mem_singleton.mp z]; exact Nat.le_refl _
  exact I1.fpOk le (I1.hok.fresh le)⟩
end En

set_option Elab.async false
set_option linter.all false
set_option maxRecDepth 100000
set_option maxHeartbeats 2000000
namespace Pd
open PySem L2
def prs : Nat → List D → List D
  | _, [] => []
  | k, d :: ds => .tup [.int (k : Int), d] :: prs (k + 1) ds
theorem prs_len : ∀ (k : Nat) (ds : List D), (prs k ds).length = ds.length
  | _, [] => rfl
  | k, d :: ds => by rw [prs, List.length_cons, prs_len, List.length_cons]
theorem prs_get : ∀ (ds : List D) (k i : Nat), (prs k ds)[i]? = ds[i]?.map fun d => .tup [.int ((k + i : Nat) : Int), d]
  | [], _, _ => rfl
  | d :: ds, k, 0 => rfl
  | d :: ds, k, i + 1 => by
    rw [prs, List.getElem?_cons_succ, List.getElem?_cons_succ, prs_get ds (k + 1) i, show k + 1 + i = k + (i + 1) by omega]
section
variable {K : PySem.W.Frag} {E : XK} {α : List Addr} {H : Hp}
theorem ite_ok {p : Addr} {xs : List V} {ds : List D} (hs : ∀ α' H', Step α H α' H' → SqT K H' p xs) (r : RepL K α H ds xs) : ItR K α H (prs 0 ds) (En.IteT K p) := fun α' H' st th i => by
  have r' := RepL.step st _ _ r
  refine ⟨fun d hd => ?_, fun hl => ⟨xs, hs α' H' st, by rw [← r.length, ← prs_len 0 ds]; exact hl⟩⟩
  rw [prs_get, Option.map_eq_some_iff] at hd
  obtain ⟨d0, h0, rfl⟩ := hd
  obtain ⟨v, hv, rv⟩ := r'.get h0
  refine ⟨⟨xs, v, hs α' H' st, hv⟩, fun x H'' y => ?_⟩
  obtain ⟨T, u, rfl, free, rfl, y⟩ := y
  have y := y xs (hs α' _ st)
  rw [hv] at y
  cases y
  rw [Nat.zero_add]
  have more : ∀ a o, H' a = some o → upd H' T (.tup [.int (i : Nat), v]) a = some o := ex_new free
  refine ⟨more, .tup (.inl ⟨.inl upd_same, fun z => ?_⟩) (.cons (.int _) (.cons (rv.step (Step.ex more)) .nil))⟩
  obtain ⟨o, e⟩ := th _ z
  rw [free] at e
  cases e
def pEnT (f : FA) : FA := fun ρ M => (f ρ M).bind fun as M1 => match as with
  | [.tup ds] => .ok (prs 0 ds) M1
  | _ => .bad
theorem r_enT {ta : TA} {fa : FA} (ha : RA K E ta fa) : RI K E (En.iEnT K ta) (pEnT fa) := fun ρ σ H α M Q e w h =>
  ha ρ σ H α M _ e w (bnd h fun as M1 xs α1 H1 _ s1 w1 r1 q => by
    split at q
    · obtain ⟨x, rfl, r⟩ := rep1 r1
      cases r with
      | tup t r => exact ⟨_, _, rfl, t.sq, q.now w1 (ite_ok (fun α' H' st => (t.step st).sq) r)⟩
    · exact q.elim)
theorem pdi_enT {X : Cx} {E : XK} {e : Expr} {elts : List Expr} {kk : Nat} {p pos tpos : Pos} {fa : FA} (hg : Gl X "enumerate") (hm : X.mg "enumerate" = none) (ha : PDA X E [e] fa) (one : starEach [e] X.env = [(false, eval e X.env)] := by rfl) :
    PDI X E (.Tuple elts kk tpos) (.Call (.Name "enumerate" p) [e] [] pos) (pEnT fa) := by
  obtain ⟨t, h, r⟩ := ha
  exact ⟨_, En.pi_enT hg hm h one, r_enT r⟩
end
end Pd

set_option Elab.async false
set_option linter.all false
set_option maxRecDepth 100000
set_option maxHeartbeats 1000000
/-! Pure reading: what a piece does, told of plain data alone; objects that change are hidden behind it. -/
namespace Pu
open PySem L2 Pd

inductive U where
  | non | bl (b : Bool) | int (i : Int) | str (s : Str) | tup (xs : List U) | lst (xs : List U) | st | rol (ns : List Int) | ty (s : String)
mutual
def U.d : U → D
  | .non => .non
  | .bl b => .bl b
  | .int i => .int i
  | .str s => .str s
  | .tup xs => .tup (U.dl xs)
  | .lst xs => .lst (U.dl xs)
  | .st => .adr 0
  | .rol ns => .rol (ns.map .int)
  | .ty s => .raw (.ty s)
def U.dl : List U → List D
  | [] => []
  | x :: xs => x.d :: U.dl xs
end
theorem dl_map : ∀ xs : List U, U.dl xs = xs.map U.d
  | [] => rfl
  | x :: xs => by rw [U.dl, dl_map xs]; rfl
theorem dl_len (xs : List U) : (U.dl xs).length = xs.length := by rw [dl_map, List.length_map]
theorem dl_app (xs ys : List U) : U.dl (xs ++ ys) = U.dl xs ++ U.dl ys := by simp [dl_map]
theorem clL_ints1 (n : Nat) : ∀ ns : List Int, clL n (ns.map .int) = true
  | [] => rfl
  | x :: xs => by simp [clL, clD, clL_ints1 n xs]
mutual
theorem cl_d : ∀ u : U, clD 1 u.d = true
  | .non => rfl
  | .bl b => rfl
  | .int i => rfl
  | .str s => rfl
  | .tup xs => by rw [U.d, clD]; exact cl_dl xs
  | .lst xs => by rw [U.d, clD]; exact cl_dl xs
  | .st => rfl
  | .rol ns => by rw [U.d, clD]; exact clL_ints1 1 ns
  | .ty s => rfl
theorem cl_dl : ∀ xs : List U, clL 1 (U.dl xs) = true
  | [] => rfl
  | x :: xs => by rw [U.dl, clL, cl_d x, cl_dl xs]; rfl
end
/-! ### the readings' own monad: what is wanted of a value, of what is raised -/
abbrev XQ := Value → Option (List (Str × D)) → Prop
def W (A : Type) := (A → Prop) → XQ → Prop
def ret {A : Type} (a : A) : W A := fun Q _ => Q a
def bind {A B : Type} (m : W A) (k : A → W B) : W B := fun Q N => m (fun a => k a Q N) N
def fail {A : Type} : W A := fun _ _ => False
def raise {A : Type} (c : Value) (fs : Option (List (Str × D))) : W A := fun _ N => N c fs
def guard {A : Type} (p : Prop) (m : W A) : W A := fun Q N => p ∧ m Q N
def pick (n : Int) : W U := fun Q _ => (0 < n ∧ n < 1073741824) ∧ ∀ r : Int, 0 ≤ r → r < n → Q (.int r)
section
variable {A B C : Type}
@[simp] theorem bind_ret (a : A) (k : A → W B) : bind (ret a) k = k a := rfl
@[simp] theorem bind_fail (k : A → W B) : bind (fail : W A) k = fail := rfl
@[simp] theorem bind_raise (c : Value) (fs : Option (List (Str × D))) (k : A → W B) : bind (raise c fs : W A) k = raise c fs := rfl
@[simp] theorem bind_guard (p : Prop) (m : W A) (k : A → W B) : bind (guard p m) k = guard p (bind m k) := rfl
theorem bind_bind (m : W A) (f : A → W B) (k : B → W C) : bind (bind m f) k = bind m fun a => bind (f a) k := rfl
theorem bind_id (m : W A) : bind m ret = m := rfl
@[simp] theorem bind_ite (p : Prop) [Decidable p] (m m' : W A) (k : A → W B) : bind (if p then m else m') k = if p then bind m k else bind m' k := by
  by_cases h : p <;> simp [h]
theorem guard_true {p : Prop} (h : p) (m : W A) : guard p m = m := by
  funext Q N
  exact propext ⟨fun q => q.2, fun q => ⟨h, q⟩⟩
@[simp] theorem guard_tt (m : W A) : guard True m = m := guard_true trivial m
theorem ret_ap (a : A) (Q : A → Prop) (N : XQ) : (ret a) Q N = Q a := rfl
theorem pick_ap (n : Int) (Q : U → Prop) (N : XQ) : pick n Q N = ((0 < n ∧ n < 1073741824) ∧ ∀ r : Int, 0 ≤ r → r < n → Q (.int r)) := rfl
end
/-! ### names' values, as told; memory -/
/-- told; a list of the caller's, told or an object; an own list; a dict, own and of the caller's -/
inductive X where
  | u (u : U) | ext (u : U) | own (xs : List U) | dct (kvs : List (Key × U)) | edct (kvs : List (Key × U))
abbrev Env := List (Option X)
def X.isOwn : X → Bool
  | .own _ => true
  | .dct _ => true
  | _ => false
structure Hd (M : PM) : Prop where
  st : ∃ m J, M = m :: J ∧ Rst m
  cl : M.all (clMO 1) = true
def same1 (M M' : PM) : Prop := ∀ k, 1 ≤ k → M'[k]? = M[k]?
/-- no object but the law's state is changed, none is new -/
structure Eqv (M M' : PM) : Prop where
  hd : Hd M'
  len : M'.length = M.length
  eq : same1 M M'
/-- what was there ahead of the def stands -/
structure Grow (n : Nat) (M M' : PM) : Prop where
  hd : Hd M'
  len : M.length ≤ M'.length
  eq : ∀ k, 1 ≤ k → k < n → M'[k]? = M[k]?
theorem Eqv.refl {M : PM} (h : Hd M) : Eqv M M := ⟨h, rfl, fun _ _ => rfl⟩
theorem Eqv.trans {M M' M'' : PM} (a : Eqv M M') (b : Eqv M' M'') : Eqv M M'' := ⟨b.hd, b.len.trans a.len, fun k h => (b.eq k h).trans (a.eq k h)⟩
theorem Eqv.grow {M M' : PM} (a : Eqv M M') (n : Nat) : Grow n M M' := ⟨a.hd, Nat.le_of_eq a.len.symm, fun k h _ => a.eq k h⟩
theorem Grow.refl {n : Nat} {M : PM} (h : Hd M) : Grow n M M := ⟨h, Nat.le_refl _, fun _ _ _ => rfl⟩
theorem Grow.trans {n : Nat} {M M' M'' : PM} (a : Grow n M M') (b : Grow n M' M'') : Grow n M M'' := ⟨b.hd, Nat.le_trans a.len b.len, fun k h h' => (b.eq k h h').trans (a.eq k h h')⟩
theorem Hd.pos {M : PM} (h : Hd M) : 0 < M.length := by
  obtain ⟨m, J, rfl, _⟩ := h.st
  simp
theorem Hd.set {M : PM} (h : Hd M) {k : Nat} (hk : 1 ≤ k) {mo : MO} (hm : clMO 1 mo = true) : Hd (M.set k mo) := by
  obtain ⟨m, J, rfl, hs⟩ := h.st
  obtain ⟨k, rfl⟩ : ∃ j, k = j + 1 := ⟨k - 1, by omega⟩
  refine ⟨⟨m, J.set k mo, rfl, hs⟩, ?_⟩
  have h2 := h.cl
  rw [List.all_eq_true] at h2 ⊢
  intro x hx
  rcases List.mem_or_eq_of_mem_set hx with q | q
  · exact h2 x q
  · rw [q]; exact hm
theorem Hd.snoc {M : PM} (h : Hd M) {mo : MO} (hm : clMO 1 mo = true) : Hd (M ++ [mo]) := by
  obtain ⟨m, J, rfl, hs⟩ := h.st
  refine ⟨⟨m, J ++ [mo], rfl, hs⟩, ?_⟩
  rw [List.all_append, h.cl]
  simp [hm]
/-- the entries of a dict -/
def kd (kvs : List (Key × U)) : List (Key × D) := kvs.map fun p => (p.1, p.2.d)
theorem kd_cl (kvs : List (Key × U)) : clMO 1 (.dct (kd kvs)) = true := by
  simp only [clMO, kd]
  induction kvs with
  | nil => rfl
  | cons p r ih => simp only [List.map_cons, clL, cl_d, Bool.true_and]; exact ih
theorem lst_cl (xs : List U) : clMO 1 (.lst (U.dl xs)) = true := by simp only [clMO]; exact cl_dl xs
/-- a value; a list that is read, told or an object; a dict -/
def RP (_ : PM) (d : D) (u : U) : Prop := d = u.d
def RL (M : PM) (d : D) (u : U) : Prop := d = u.d ∨ ∃ k xs, 1 ≤ k ∧ d = .adr k ∧ M[k]? = some (.lst (U.dl xs)) ∧ u = .lst xs
def RK (M : PM) (d : D) (kvs : List (Key × U)) : Prop := ∃ k, 1 ≤ k ∧ d = .adr k ∧ M[k]? = some (.dct (kd kvs))
def below (n : Nat) : D → Prop
  | .adr k => k < n
  | _ => True
def above (n : Nat) : D → Prop
  | .adr k => n ≤ k
  | _ => True
def RV (n : Nat) (M : PM) (d : D) : X → Prop
  | .u u => d = u.d
  | .ext u => RL M d u ∧ below n d
  | .own xs => (∃ k, n ≤ k ∧ d = .adr k ∧ M[k]? = some (.lst (U.dl xs)))
  | .dct kvs => RK M d kvs ∧ above n d
  | .edct kvs => RK M d kvs ∧ below n d
structure Sim (n : Nat) (ρ : Rho) (M : PM) (θ : Env) : Prop where
  hd : Hd M
  n1 : 1 ≤ n
  nM : n ≤ M.length
  len : ρ.length = θ.length
  v : ∀ (i : Nat) (x : X), θ[i]? = some (some x) → ∃ d, ρ[i]? = some (some d) ∧ RV n M d x
  sep : ∀ (i j k : Nat) (x y : X), i ≠ j → x.isOwn = true → y.isOwn = true → θ[i]? = some (some x) → θ[j]? = some (some y) → ρ[i]? = some (some (.adr k)) → ρ[j]? = some (some (.adr k)) → False
theorem same_of_lt {M M' : PM} (h : ∀ k, 1 ≤ k → k < M.length → M'[k]? = M[k]?) {k : Nat} (h1 : 1 ≤ k) {mo : MO} (e : M[k]? = some mo) : M'[k]? = some mo := by
  rw [h k h1 (List.getElem?_eq_some_iff.mp e).1]; exact e
theorem RL.keep {M M' : PM} (s : ∀ k, 1 ≤ k → k < M.length → M'[k]? = M[k]?) {d : D} {u : U} (h : RL M d u) : RL M' d u := by
  rcases h with h | ⟨k, xs, h1, h2, h3, h4⟩
  · exact .inl h
  · exact .inr ⟨k, xs, h1, h2, same_of_lt s h1 h3, h4⟩
theorem RK.keep {M M' : PM} (s : ∀ k, 1 ≤ k → k < M.length → M'[k]? = M[k]?) {d : D} {u : List (Key × U)} (h : RK M d u) : RK M' d u := by
  obtain ⟨k, h1, h2, h3⟩ := h
  exact ⟨k, h1, h2, same_of_lt s h1 h3⟩
theorem RV.keep {M M' : PM} {n : Nat} (n1 : 1 ≤ n) (s : ∀ k, 1 ≤ k → k < M.length → M'[k]? = M[k]?) {d : D} {x : X} (h : RV n M d x) : RV n M' d x := by
  cases x with
  | u u => exact h
  | ext u => exact ⟨h.1.keep s, h.2⟩
  | own xs =>
    obtain ⟨k, h1, h2, h3⟩ := h
    exact ⟨k, h1, h2, same_of_lt s (by omega) h3⟩
  | dct kvs => exact ⟨h.1.keep s, h.2⟩
  | edct kvs => exact ⟨h.1.keep s, h.2⟩
theorem same1.lt {M M' : PM} (s : same1 M M') : ∀ k, 1 ≤ k → k < M.length → M'[k]? = M[k]? := fun k h _ => s k h
section
variable {n : Nat} {ρ : Rho} {M M' : PM} {θ : Env}
/-- more objects -/
theorem Sim.keep (h : Sim n ρ M θ) (hd : Hd M') (hl : M.length ≤ M'.length) (s : ∀ k, 1 ≤ k → k < M.length → M'[k]? = M[k]?) : Sim n ρ M' θ := ⟨hd, h.n1, Nat.le_trans h.nM hl, h.len, fun i u q => by
  obtain ⟨d, h1, h2⟩ := h.v i u q
  exact ⟨d, h1, h2.keep h.n1 s⟩, h.sep⟩
theorem Sim.eqv (h : Sim n ρ M θ) (e : Eqv M M') : Sim n ρ M' θ := h.keep e.hd (Nat.le_of_eq e.len.symm) e.eq.lt
theorem Sim.snoc (h : Sim n ρ M θ) {mo : MO} (hm : clMO 1 mo = true) : Sim n ρ (M ++ [mo]) θ := h.keep (h.hd.snoc hm) (by simp) fun k _ hk => by rw [List.getElem?_append_left hk]
/-- what is no more wanted is forgotten -/
def kill (θ : Env) : List Nat → Env
  | [] => θ
  | i :: is => (kill θ is).set i none
theorem kill_get {i j : Nat} {x : X} (q : (θ.set i none)[j]? = some (some x)) : θ[j]? = some (some x) := by
  by_cases e : i = j
  · subst e
    by_cases hl : i < θ.length
    · rw [List.getElem?_set_self hl] at q; cases q
    · rw [List.set_eq_of_length_le (by omega)] at q; exact q
  · rw [List.getElem?_set_ne e] at q; exact q
theorem Sim.kill1 (h : Sim n ρ M θ) (i : Nat) : Sim n ρ M (θ.set i none) :=
  ⟨h.hd, h.n1, h.nM, by rw [List.length_set]; exact h.len, fun j u q => h.v j u (kill_get q), fun a b k x y h1 h2 h3 h4 h5 => h.sep a b k x y h1 h2 h3 (kill_get h4) (kill_get h5)⟩
theorem Sim.kill (h : Sim n ρ M θ) : ∀ is : List Nat, Sim n ρ M (kill θ is)
  | [] => h
  | i :: is => (Sim.kill h is).kill1 i
theorem Sim.wipe1 (h : Sim n ρ M θ) (i : Nat) : Sim n (ρ.set i none) M (θ.set i none) := by
  have k := h.kill1 i
  have ne : ∀ (j : Nat) (x : X), (θ.set i none)[j]? = some (some x) → i ≠ j := fun j x q e => by
    subst e
    have hl : i < θ.length := by simpa using (List.getElem?_eq_some_iff.mp q).1
    rw [List.getElem?_set_self hl] at q; cases q
  refine ⟨k.hd, k.n1, k.nM, by rw [List.length_set]; exact k.len, fun j x q => ?_, fun a b c x y h1 h2 h3 h4 h5 h6 h7 => ?_⟩
  · obtain ⟨d, e1, e2⟩ := k.v j x q
    exact ⟨d, by rw [List.getElem?_set_ne (ne j x q)]; exact e1, e2⟩
  · rw [List.getElem?_set_ne (ne a x h4)] at h6
    rw [List.getElem?_set_ne (ne b y h5)] at h7
    exact k.sep a b c x y h1 h2 h3 h4 h5 h6 h7
theorem Sim.wipe (h : Sim n ρ M θ) : ∀ vs : List Nat, Sim n (wipeR ρ vs) M (Pu.kill θ vs)
  | [] => h
  | i :: is => (Sim.wipe h is).wipe1 i
/-- a value for a name -/
theorem Sim.set (h : Sim n ρ M θ) (i : Nat) {u : U} : Sim n (ρ.set i (some u.d)) M (θ.set i (some (.u u))) := by
  refine ⟨h.hd, h.n1, h.nM, by rw [List.length_set, List.length_set]; exact h.len, fun j w q => ?_, ?_⟩
  · by_cases e : i = j
    · subst e
      have hl : i < θ.length := by simpa using (List.getElem?_eq_some_iff.mp q).1
      rw [List.getElem?_set_self hl] at q
      cases q
      exact ⟨u.d, by rw [List.getElem?_set_self (by rw [h.len]; exact hl)], rfl⟩
    · rw [List.getElem?_set_ne e] at q
      obtain ⟨d, h1, h2⟩ := h.v j w q
      exact ⟨d, by rw [List.getElem?_set_ne e]; exact h1, h2⟩
  · have ne : ∀ (j : Nat) (x : X), x.isOwn = true → (θ.set i (some (.u u)))[j]? = some (some x) → i ≠ j := fun j x ho q e => by
      subst e
      have hl : i < θ.length := by simpa using (List.getElem?_eq_some_iff.mp q).1
      rw [List.getElem?_set_self hl] at q
      cases q
      cases ho
    intro a b k x y h1 h2 h3 h4 h5 h6 h7
    have ea := ne a x h2 h4
    have eb := ne b y h3 h5
    rw [List.getElem?_set_ne ea] at h4 h6
    rw [List.getElem?_set_ne eb] at h5 h7
    exact h.sep a b k x y h1 h2 h3 h4 h5 h6 h7
/-- a new object for a name -/
theorem Sim.new (h : Sim n ρ M θ) (i : Nat) {y : X} {mo : MO} (hm : clMO 1 mo = true) (hr : RV n (M ++ [mo]) (.adr M.length) y) : Sim n (ρ.set i (some (.adr M.length))) (M ++ [mo]) (θ.set i (some y)) := by
  have s := h.snoc hm
  refine ⟨s.hd, s.n1, s.nM, by rw [List.length_set, List.length_set]; exact h.len, fun j w q => ?_, ?_⟩
  · by_cases e : i = j
    · subst e
      have hl : i < θ.length := by simpa using (List.getElem?_eq_some_iff.mp q).1
      rw [List.getElem?_set_self hl] at q
      cases q
      exact ⟨_, by rw [List.getElem?_set_self (by rw [h.len]; exact hl)], hr⟩
    · rw [List.getElem?_set_ne e] at q
      obtain ⟨d, h1, h2⟩ := s.v j w q
      exact ⟨d, by rw [List.getElem?_set_ne e]; exact h1, h2⟩
  · have old : ∀ (j : Nat) (w : X), w.isOwn = true → θ[j]? = some (some w) → ρ[j]? = some (some (.adr M.length)) → False := fun j w ho h1 h2 => by
      obtain ⟨d, h3, h4⟩ := h.v j w h1
      rw [h2] at h3
      cases h3
      have lt : ∀ {k : Nat} {x : MO}, M[k]? = some x → k < M.length := fun e => (List.getElem?_eq_some_iff.mp e).1
      cases w with
      | u _ => cases ho
      | ext _ => cases ho
      | own xs =>
        obtain ⟨k, a1, a2, a3⟩ := h4
        cases a2; exact absurd (lt a3) (Nat.lt_irrefl _)
      | dct kvs =>
        obtain ⟨⟨k, a1, a2, a3⟩, _⟩ := h4
        cases a2; exact absurd (lt a3) (Nat.lt_irrefl _)
      | edct _ => cases ho
    have here : ∀ (j k : Nat), (ρ.set i (some (.adr M.length)))[j]? = some (some (.adr k)) → j = i → k = M.length := fun j k q e => by
      subst e
      have hl : j < ρ.length := by simpa using (List.getElem?_eq_some_iff.mp q).1
      rw [List.getElem?_set_self hl] at q
      cases q
      rfl
    intro a b k v w h1 h2 h3 h4 h5 h6 h7
    by_cases ea : a = i
    · have := here a k h6 ea
      subst this
      rw [List.getElem?_set_ne (show i ≠ b by omega)] at h5 h7
      exact old b w h3 h5 h7
    · by_cases eb : b = i
      · have := here b k h7 eb
        subst this
        rw [List.getElem?_set_ne (show i ≠ a by omega)] at h4 h6
        exact old a v h2 h4 h6
      · rw [List.getElem?_set_ne (Ne.symm ea)] at h4 h6
        rw [List.getElem?_set_ne (Ne.symm eb)] at h5 h7
        exact h.sep a b k v w h1 h2 h3 h4 h5 h6 h7
/-- the object of a name is stored anew -/
theorem Sim.put (h : Sim n ρ M θ) {i k : Nat} {x y : X} {mo : MO} (ho : x.isOwn = true) (hu : θ[i]? = some (some x)) (hk : ρ[i]? = some (some (.adr k))) (hn : n ≤ k) (hm : clMO 1 mo = true) (hy : y.isOwn = true) (hr : RV n (M.set k mo) (.adr k) y) : Sim n ρ (M.set k mo) (θ.set i (some y)) := by
  have il : i < θ.length := (List.getElem?_eq_some_iff.mp hu).1
  have n1 := h.n1
  refine ⟨h.hd.set (by omega) hm, h.n1, by rw [List.length_set]; exact h.nM, by rw [List.length_set]; exact h.len, fun j z q => ?_, ?_⟩
  · by_cases e : i = j
    · subst e
      rw [List.getElem?_set_self il] at q
      cases q
      exact ⟨_, hk, hr⟩
    · rw [List.getElem?_set_ne e] at q
      obtain ⟨d, h2, h3⟩ := h.v j z q
      refine ⟨d, h2, ?_⟩
      have nek : ∀ k', d = .adr k' → below n d ∨ z.isOwn = true → k ≠ k' := fun k' g2 g3 e' => by
        subst e'
        rcases g3 with g3 | g3
        · rw [g2] at g3; have : k < n := g3; omega
        · rw [g2] at h2
          exact h.sep i j k x z e ho g3 hu q hk h2
      have rk : ∀ {kvs : List (Key × U)}, RK M d kvs → (below n d ∨ z.isOwn = true) → RK (M.set k mo) d kvs := fun g b => by
        obtain ⟨k', g1, g2, g3⟩ := g
        exact ⟨k', g1, g2, by rw [List.getElem?_set_ne (nek k' g2 b)]; exact g3⟩
      cases z with
      | u _ => exact h3
      | ext u =>
        obtain ⟨g, b⟩ := h3
        refine ⟨?_, b⟩
        rcases g with g | ⟨k', xs, g1, g2, g3, g4⟩
        · exact .inl g
        · exact .inr ⟨k', xs, g1, g2, by rw [List.getElem?_set_ne (nek k' g2 (.inl b))]; exact g3, g4⟩
      | own xs =>
        obtain ⟨k', g1, g2, g3⟩ := h3
        exact ⟨k', g1, g2, by rw [List.getElem?_set_ne (nek k' g2 (.inr rfl))]; exact g3⟩
      | dct _ => exact ⟨rk h3.1 (.inr rfl), h3.2⟩
      | edct _ => exact ⟨rk h3.1 (.inl h3.2), h3.2⟩
  · intro a b k' v z g1 g2 g3 g4 g5
    have get : ∀ (j : Nat) (w : X), w.isOwn = true → (θ.set i (some y))[j]? = some (some w) → ∃ w' : X, w'.isOwn = true ∧ θ[j]? = some (some w') := fun j w hw q => by
      by_cases e : i = j
      · subst e; exact ⟨_, ho, hu⟩
      · rw [List.getElem?_set_ne e] at q; exact ⟨_, hw, q⟩
    obtain ⟨v', gv, g4⟩ := get a v g2 g4
    obtain ⟨z', gz, g5⟩ := get b z g3 g5
    exact h.sep a b k' v' z' g1 gv gz g4 g5
end
end Pu

set_option Elab.async false
set_option linter.all false
set_option maxRecDepth 100000
set_option maxHeartbeats 1000000
namespace Pu
open PySem L2 Pd

def Wp {A : Type} (o : Out A) (Q : A → PM → Prop) (N : Value → Option (List (Str × D)) → PM → Prop) : Prop := match o with
  | .ok a M => Q a M
  | .exn c fs M => N c fs M
  | .bad => False
theorem Wp.mono {A : Type} {o : Out A} {Q Q' : A → PM → Prop} {N N' : Value → Option (List (Str × D)) → PM → Prop} (h : Wp o Q N) (k : ∀ a M, Q a M → Q' a M) (k' : ∀ c fs M, N c fs M → N' c fs M) : Wp o Q' N' := by
  cases o with
  | ok a M => exact k a M h
  | exn c fs M => exact k' c fs M h
  | bad => exact h
def Px {A B : Type} (M : PM) (R : PM → A → B → Prop) (Q : B → Prop) : A → PM → Prop := fun a M' => Eqv M M' ∧ ∃ b, R M' a b ∧ Q b
def Nx (M : PM) (N : XQ) : Value → Option (List (Str × D)) → PM → Prop := fun c fs M' => Grow M.length M M' ∧ N c fs
section
variable {A B A' B' : Type} {R : PM → A → B → Prop} {R' : PM → A' → B' → Prop} {Q : B → Prop} {Q' : B' → Prop} {N : XQ} {M M1 : PM}
theorem Nx.tr {c : Value} {fs : Option (List (Str × D))} {M2 : PM} (e : Eqv M M1) (h : Nx M1 N c fs M2) : Nx M N c fs M2 :=
  ⟨⟨h.1.hd, by rw [← e.len]; exact h.1.len, fun k h1 h2 => (h.1.eq k h1 (by rw [e.len]; exact h2)).trans (e.eq k h1)⟩, h.2⟩
theorem Wp.tr {o : Out A} (e : Eqv M M1) (h : Wp o (Px M1 R Q) (Nx M1 N)) : Wp o (Px M R Q) (Nx M N) :=
  h.mono (fun _ _ h => ⟨e.trans h.1, h.2⟩) fun _ _ _ h => Nx.tr e h
/-- a piece, then what follows with its value -/
theorem Wp.chain {o : Out A} {g : A → PM → Out A'} {K : B → Prop} (h : Wp o (Px M R K) (Nx M N)) (k : ∀ a M1 b, Eqv M M1 → R M1 a b → K b → Wp (g a M1) (Px M1 R' Q') (Nx M1 N)) : Wp (o.bind g) (Px M R' Q') (Nx M N) := by
  cases o with
  | ok a M1 =>
    obtain ⟨e, b, r, q⟩ := h
    exact Wp.tr e (k a M1 b e r q)
  | exn c fs M1 => exact h
  | bad => exact h
theorem Wp.now {a : A} {b : B} (h : Hd M) (r : R M a b) (q : Q b) : Wp (.ok a M) (Px M R Q) (Nx M N) := ⟨Eqv.refl h, b, r, q⟩
end
def SX {A B : Type} (R : PM → A → B → Prop) (n : Nat) (f : Rho → PM → Out A) (w : Env → W B) : Prop :=
  ∀ ρ M θ Q N, Sim n ρ M θ → w θ Q N → Wp (f ρ M) (Px M R Q) (Nx M N)
def RQ {A : Type} (_ : PM) (a b : A) : Prop := a = b
abbrev SP := @SX D U RP
abbrev SL := @SX D U RL
abbrev SB := @SX Bool Bool RQ
abbrev SI := @SX (List D) (List U) (fun _ ds us => ds = U.dl us)
/-! ### names -/
def xU : Option (Option X) → W U
  | some (some (.u u)) => ret u
  | _ => fail
def xL : Option (Option X) → W U
  | some (some (.u u)) => ret u
  | some (some (.ext u)) => ret u
  | some (some (.own xs)) => ret (.lst xs)
  | _ => fail
def xO : Option (Option X) → W U
  | some (some (.u u)) => ret u
  | some (some (.own xs)) => ret (.lst xs)
  | _ => fail
def xK : Option (Option X) → W (List (Key × U))
  | some (some (.dct kvs)) => ret kvs
  | some (some (.edct kvs)) => ret kvs
  | _ => fail
def wVar (i : Nat) : Env → W U := fun θ => xU θ[i]?
def wVarL (i : Nat) : Env → W U := fun θ => xL θ[i]?
def wVarO (i : Nat) : Env → W U := fun θ => xO θ[i]?
def wVarK (i : Nat) : Env → W (List (Key × U)) := fun θ => xK θ[i]?
section
variable {n : Nat} {ρ : Rho} {M : PM} {θ : Env}
theorem pVar_of {i : Nat} {d : D} (h : ρ[i]? = some (some d)) : pVar i ρ M = .ok d M := by unfold pVar; simp only [h]
def RO (n : Nat) (M : PM) (d : D) (u : U) : Prop := d = u.d ∨ ∃ k xs, n ≤ k ∧ d = .adr k ∧ M[k]? = some (.lst (U.dl xs)) ∧ u = .lst xs
theorem sp_var (i : Nat) : SP n (pVar i) (wVar i) := by
  intro ρ M θ Q N s q
  unfold wVar at q
  rcases h : θ[i]? with _ | _ | x
  · rw [h] at q; exact q.elim
  · rw [h] at q; exact q.elim
  · rw [h] at q
    obtain ⟨d, h1, h2⟩ := s.v _ _ h
    rw [pVar_of h1]
    cases x with
    | u u => exact Wp.now s.hd h2 q
    | _ => exact q.elim
theorem sl_var (i : Nat) : SL n (pVar i) (wVarL i) := by
  intro ρ M θ Q N s q
  unfold wVarL at q
  have := s.n1
  rcases h : θ[i]? with _ | _ | x
  · rw [h] at q; exact q.elim
  · rw [h] at q; exact q.elim
  · rw [h] at q
    obtain ⟨d, h1, h2⟩ := s.v _ _ h
    rw [pVar_of h1]
    cases x with
    | u u => exact Wp.now s.hd (R := RL) (.inl h2) q
    | ext u => exact Wp.now s.hd h2.1 q
    | own xs =>
      obtain ⟨k, h2, h3, h4⟩ := h2
      exact Wp.now s.hd (R := RL) (.inr ⟨k, _, by omega, h3, h4, rfl⟩) q
    | _ => exact q.elim
theorem so_var (i : Nat) : SX (RO n) n (pVar i) (wVarO i) := by
  intro ρ M θ Q N s q
  unfold wVarO at q
  rcases h : θ[i]? with _ | _ | x
  · rw [h] at q; exact q.elim
  · rw [h] at q; exact q.elim
  · rw [h] at q
    obtain ⟨d, h1, h2⟩ := s.v _ _ h
    rw [pVar_of h1]
    cases x with
    | u u => exact Wp.now s.hd (R := RO n) (.inl h2) q
    | own xs =>
      obtain ⟨k, h2, h3, h4⟩ := h2
      exact Wp.now s.hd (R := RO n) (.inr ⟨k, _, h2, h3, h4, rfl⟩) q
    | _ => exact q.elim
theorem sk_var (i : Nat) : SX RK n (pVar i) (wVarK i) := by
  intro ρ M θ Q N s q
  unfold wVarK at q
  rcases h : θ[i]? with _ | _ | x
  · rw [h] at q; exact q.elim
  · rw [h] at q; exact q.elim
  · rw [h] at q
    obtain ⟨d, h1, h2⟩ := s.v _ _ h
    rw [pVar_of h1]
    cases x with
    | dct kvs => exact Wp.now s.hd h2.1 q
    | edct kvs => exact Wp.now s.hd h2.1 q
    | _ => exact q.elim
end
/-! ### pieces of expressions -/
def uB : U → W Bool
  | .bl b => ret b
  | _ => fail
def wC (u : U) : Env → W U := fun _ => ret u
def wOp (o : U → U → W U) (a b : Env → W U) : Env → W U := fun θ => bind (a θ) fun x => bind (b θ) fun y => o x y
def wUn (o : U → W U) (a : Env → W U) : Env → W U := fun θ => bind (a θ) o
def wTest (a : Env → W U) : Env → W Bool := fun θ => bind (a θ) uB
def wAnd (f g : Env → W Bool) : Env → W Bool := fun θ => bind (f θ) fun b => if b = true then g θ else ret false
def wOr (f g : Env → W Bool) : Env → W Bool := fun θ => bind (f θ) fun b => if b = true then ret true else g θ
def wNot (f : Env → W Bool) : Env → W Bool := fun θ => bind (f θ) fun b => ret (!b)
def wIf (c : Env → W Bool) (f g : Env → W U) : Env → W U := fun θ => bind (c θ) fun b => if b = true then f θ else g θ
def wAndV (f g : Env → W U) : Env → W U := fun θ => bind (f θ) fun a => bind (uB a) fun b => if b = true then g θ else ret (.bl false)
def wOrV (f g : Env → W U) : Env → W U := fun θ => bind (f θ) fun a => bind (uB a) fun b => if b = true then ret (.bl true) else g θ
def wNotV (f : Env → W U) : Env → W U := fun θ => bind (f θ) fun a => bind (uB a) fun b => ret (.bl (!b))
def wYes : Env → W Bool := fun _ => ret true
def wNil {A : Type} : Env → W (List A) := fun _ => ret []
def wCons {A : Type} (f : Env → W A) (g : Env → W (List A)) : Env → W (List A) := fun θ => bind (f θ) fun x => bind (g θ) fun xs => ret (x :: xs)
def wTup (f : Env → W (List U)) : Env → W U := fun θ => bind (f θ) fun us => guard (us.length ≤ 16777216) (ret (.tup us))
def wLst (f : Env → W (List U)) : Env → W U := fun θ => bind (f θ) fun us => guard (us.length ≤ 16777216) (ret (.lst us))
def wCh (o o' : U → U → W U) (a b c : Env → W U) : Env → W U := fun θ => bind (a θ) fun x => bind (b θ) fun y => bind (o x y) fun z => bind (uB z) fun k => if k = true then bind (c θ) fun w => o' y w else ret (.bl false)
def OpU (g : PM → D → D → Out D) (o : U → U → W U) : Prop := ∀ M a b u v Q N, RL M a u → RL M b v → o u v Q N → ∃ w : U, g M a b = .ok w.d M ∧ Q w
def UnU (g : PM → D → Out D) (o : U → W U) : Prop := ∀ M a u Q N, RL M a u → o u Q N → ∃ w : U, g M a = .ok w.d M ∧ Q w
inductive RLs (M : PM) : List D → List U → Prop
  | nil : RLs M [] []
  | cons {d : D} {u : U} {ds : List D} {us : List U} : RL M d u → RLs M ds us → RLs M (d :: ds) (u :: us)
def BU (g : PM → List D → Out D) (o : List U → W U) : Prop := ∀ M as us Q N, RLs M as us → o us Q N → ∃ w : U, g M as = .ok w.d M ∧ Q w
/-- what a call is given -/
def RX (M : PM) (d : D) : X → Prop
  | .u u => d = u.d
  | .ext u => RL M d u
  | .edct kvs => RK M d kvs
  | _ => False
inductive RXs (M : PM) : List D → List X → Prop
  | nil : RXs M [] []
  | cons {d : D} {u : X} {ds : List D} {us : List X} : RX M d u → RXs M ds us → RXs M (d :: ds) (u :: us)
def DefS (Φ : List D → PM → Out D) (F : List X → W U) : Prop := ∀ ds xs M Q N, Hd M → RXs M ds xs → F xs Q N → Wp (Φ ds M) (Px M RP Q) (Nx M N)
def wU (f : Env → W U) : Env → W X := fun θ => bind (f θ) fun u => ret (.u u)
def wE (f : Env → W U) : Env → W X := fun θ => bind (f θ) fun u => ret (.ext u)
def wK (f : Env → W (List (Key × U))) : Env → W X := fun θ => bind (f θ) fun u => ret (.edct u)
def wCall (F : List X → W U) (a : Env → W (List X)) : Env → W U := fun θ => bind (a θ) F
def wCB (o : List U → W U) (a : Env → W (List U)) : Env → W U := fun θ => bind (a θ) o
def wONone : Env → W (Option Int) := fun _ => ret none
def wOSome (f : Env → W U) : Env → W (Option Int) := fun θ => bind (f θ) fun u => match u with
  | .int i => ret (some i)
  | _ => fail
def wSl (o : U → Option Int → Option Int → W U) (f : Env → W U) (l h : Env → W (Option Int)) : Env → W U := fun θ => bind (f θ) fun a => bind (l θ) fun x => bind (h θ) fun y => o a x y
def SlU (g : PM → D → Option Int → Option Int → Out D) (o : U → Option Int → Option Int → W U) : Prop := ∀ M a u l h Q N, RL M a u → o u l h Q N → ∃ w : U, g M a l h = .ok w.d M ∧ Q w
section
variable {n : Nat} {fa fb fc : FE} {wa wb wc : Env → W U} {t u : FT} {wt wu : Env → W Bool}
theorem SX.sub {A B : Type} {R R' : PM → A → B → Prop} {f : Rho → PM → Out A} {w : Env → W B} (h : SX R n f w) (k : ∀ M a b, R M a b → R' M a b) : SX R' n f w := fun ρ M θ Q N s q =>
  (h ρ M θ Q N s q).mono (fun a M' ⟨e, b, r, q⟩ => ⟨e, b, k _ _ _ r, q⟩) fun _ _ _ h => h
theorem SX.pl (h : SP n fa wa) : SL n fa wa := h.sub fun _ _ _ h => .inl h
theorem SX.po (h : SP n fa wa) : SX (RO n) n fa wa := h.sub fun _ _ _ h => .inl h
theorem RL.eqv {M M' : PM} (e : Eqv M M') {d : D} {u : U} (h : RL M d u) : RL M' d u := h.keep e.eq.lt
theorem sp_c (v : U) {d : D} (h : d = v.d := by rfl) : SP n (pC d) (wC v) := fun ρ M θ Q N s q => Wp.now s.hd h q
theorem sp_op {g : PM → D → D → Out D} {o : U → U → W U} (ho : OpU g o) (ha : SL n fa wa) (hb : SL n fb wb) : SP n (pOp g fa fb) (wOp o wa wb) := fun ρ M θ Q N s q =>
  Wp.chain (ha ρ M θ _ N s q) fun a M1 x e1 r1 q1 => Wp.chain (hb ρ M1 θ _ N (s.eqv e1) q1) fun b M2 y e2 r2 q2 => by
    obtain ⟨w, e, q⟩ := ho M2 a b x y Q N (r1.eqv e2) r2 q2
    rw [e]
    exact Wp.now e2.hd rfl q
theorem sp_un {g : PM → D → Out D} {o : U → W U} (ho : UnU g o) (ha : SL n fa wa) : SP n (pUn g fa) (wUn o wa) := fun ρ M θ Q N s q =>
  Wp.chain (ha ρ M θ _ N s q) fun a M1 x e1 r1 q1 => by
    obtain ⟨w, e, q⟩ := ho M1 a x Q N r1 q1
    rw [e]
    exact Wp.now e1.hd rfl q
theorem uB_ok {M : PM} {a : D} {x : U} {K : Bool → Prop} {N : XQ} (r : RL M a x) (q : uB x K N) : ∃ b, a = .bl b ∧ K b := by
  cases x with
  | bl b =>
    rcases r with r | ⟨k, xs, _, _, _, z⟩
    · exact ⟨b, r, q⟩
    · cases z
  | _ => exact q.elim
theorem sb_test (ha : SL n fa wa) : SB n (pTest fa) (wTest wa) := fun ρ M θ Q N s q =>
  Wp.chain (ha ρ M θ _ N s q) fun a M1 x e1 r1 q1 => by
    obtain ⟨b, rfl, q⟩ := uB_ok r1 q1
    exact Wp.now e1.hd rfl q
theorem sb_and (h1 : SB n t wt) (h2 : SB n u wu) : SB n (pAnd t u) (wAnd wt wu) := fun ρ M θ Q N s q =>
  Wp.chain (h1 ρ M θ _ N s q) fun a M1 x e1 r1 q1 => by
    cases r1
    cases a with
    | true => exact h2 ρ M1 θ Q N (s.eqv e1) q1
    | false => exact Wp.now e1.hd rfl q1
theorem sb_or (h1 : SB n t wt) (h2 : SB n u wu) : SB n (pOr t u) (wOr wt wu) := fun ρ M θ Q N s q =>
  Wp.chain (h1 ρ M θ _ N s q) fun a M1 x e1 r1 q1 => by
    cases r1
    cases a with
    | false => exact h2 ρ M1 θ Q N (s.eqv e1) q1
    | true => exact Wp.now e1.hd rfl q1
theorem sb_not (h1 : SB n t wt) : SB n (pNot t) (wNot wt) := fun ρ M θ Q N s q =>
  Wp.chain (h1 ρ M θ _ N s q) fun a M1 x e1 r1 q1 => by
    cases r1
    exact Wp.now e1.hd rfl q1
theorem sb_yes : SB n pYes wYes := fun ρ M θ Q N s q => Wp.now s.hd rfl q
theorem sx_if {R : PM → D → U → Prop} (hc : SB n t wt) (h1 : SX R n fa wa) (h2 : SX R n fb wb) : SX R n (pIf t fa fb) (wIf wt wa wb) := fun ρ M θ Q N s q =>
  Wp.chain (hc ρ M θ _ N s q) fun a M1 x e1 r1 q1 => by
    cases r1
    cases a with
    | true => exact h1 ρ M1 θ Q N (s.eqv e1) q1
    | false => exact h2 ρ M1 θ Q N (s.eqv e1) q1
theorem sp_andV (ha : SL n fa wa) (hb : SP n fb wb) : SP n (pAndV fa fb) (wAndV wa wb) := fun ρ M θ Q N s q =>
  Wp.chain (ha ρ M θ _ N s q) fun a M1 x e1 r1 q1 => by
    obtain ⟨b, rfl, q⟩ := uB_ok r1 q1
    cases b with
    | true => exact hb ρ M1 θ Q N (s.eqv e1) q
    | false => exact Wp.now (b := .bl false) e1.hd rfl q
theorem sp_orV (ha : SL n fa wa) (hb : SP n fb wb) : SP n (pOrV fa fb) (wOrV wa wb) := fun ρ M θ Q N s q =>
  Wp.chain (ha ρ M θ _ N s q) fun a M1 x e1 r1 q1 => by
    obtain ⟨b, rfl, q⟩ := uB_ok r1 q1
    cases b with
    | false => exact hb ρ M1 θ Q N (s.eqv e1) q
    | true => exact Wp.now (b := .bl true) e1.hd rfl q
theorem sp_notV (ha : SL n fa wa) : SP n (pNotV fa) (wNotV wa) := fun ρ M θ Q N s q =>
  Wp.chain (ha ρ M θ _ N s q) fun a M1 x e1 r1 q1 => by
    obtain ⟨b, rfl, q⟩ := uB_ok r1 q1
    exact Wp.now (b := .bl !b) e1.hd rfl q
theorem sp_ch {g g' : PM → D → D → Out D} {o o' : U → U → W U} (ho : OpU g o) (ho' : OpU g' o') (ha : SL n fa wa) (hb : SL n fb wb) (hc : SL n fc wc) : SP n (pCh g g' fa fb fc) (wCh o o' wa wb wc) := fun ρ M θ Q N s q =>
  Wp.chain (ha ρ M θ _ N s q) fun a M1 x e1 r1 q1 => Wp.chain (hb ρ M1 θ _ N (s.eqv e1) q1) fun b M2 y e2 r2 q2 => by
    obtain ⟨w, e, q3⟩ := ho M2 a b x y _ N (r1.eqv e2) r2 q2
    rw [e]
    obtain ⟨k, ek, q4⟩ := uB_ok (M := M2) (a := w.d) (.inl rfl) q3
    rw [ek]
    cases k with
    | true =>
      show Wp ((fc ρ M2).bind fun c M4 => g' M4 b c) _ _
      refine Wp.chain (hc ρ M2 θ _ N ((s.eqv e1).eqv e2) q4) fun c M3 z e3 r3 q5 => ?_
      obtain ⟨v, e', q6⟩ := ho' M3 b c y z Q N (r2.eqv e3) r3 q5
      rw [e']
      exact Wp.now e3.hd rfl q6
    | false => exact Wp.now (b := .bl false) e2.hd rfl q4
/-! arguments -/
theorem si_nil : SI n aNil wNil := fun ρ M θ Q N s q => Wp.now (R := fun _ ds us => ds = U.dl us) s.hd rfl q
theorem si_cons {f : FA} {w : Env → W (List U)} (ha : SP n fa wa) (h : SI n f w) : SI n (aCons fa f) (wCons wa w) := fun ρ M θ Q N s q =>
  Wp.chain (ha ρ M θ _ N s q) fun a M1 x e1 r1 q1 => Wp.chain (h ρ M1 θ _ N (s.eqv e1) q1) fun as M2 xs e2 r2 q2 =>
    Wp.now (R := fun _ ds us => ds = U.dl us) e2.hd (by rw [U.dl, ← r1, ← r2]) q2
theorem RLs.eqv {M M' : PM} (e : Eqv M M') : ∀ {ds : List D} {us : List U}, RLs M ds us → RLs M' ds us
  | _, _, .nil => .nil
  | _, _, .cons r t => .cons (r.eqv e) (RLs.eqv e t)
theorem sls_nil : SX RLs n aNil wNil := fun ρ M θ Q N s q => Wp.now s.hd .nil q
theorem sls_cons {f : FA} {w : Env → W (List U)} (ha : SL n fa wa) (h : SX RLs n f w) : SX RLs n (aCons fa f) (wCons wa w) := fun ρ M θ Q N s q =>
  Wp.chain (ha ρ M θ _ N s q) fun a M1 x e1 r1 q1 => Wp.chain (h ρ M1 θ _ N (s.eqv e1) q1) fun as M2 xs e2 r2 q2 =>
    Wp.now e2.hd (.cons (r1.eqv e2) r2) q2
theorem RX.eqv {M M' : PM} (e : Eqv M M') {d : D} {x : X} (h : RX M d x) : RX M' d x := by
  cases x with
  | u u => exact h
  | ext u => exact RL.eqv e h
  | edct kvs => exact RK.keep e.eq.lt h
  | own _ => exact h
  | dct _ => exact h
theorem sxs_nil : SX RXs n aNil wNil := fun ρ M θ Q N s q => Wp.now s.hd .nil q
theorem sxs_cons {f : FA} {wx : Env → W X} {w : Env → W (List X)} (ha : SX RX n fa wx) (h : SX RXs n f w) : SX RXs n (aCons fa f) (wCons wx w) := fun ρ M θ Q N s q =>
  Wp.chain (ha ρ M θ _ N s q) fun a M1 x e1 r1 q1 => Wp.chain (h ρ M1 θ _ N (s.eqv e1) q1) fun as M2 xs e2 r2 q2 =>
    Wp.now e2.hd (.cons (r1.eqv e2) r2) q2
theorem sx_u (ha : SP n fa wa) : SX RX n fa (wU wa) := fun ρ M θ Q N s q =>
  (ha ρ M θ _ N s q).mono (fun a M' ⟨e, b, r, q⟩ => ⟨e, .u b, r, q⟩) fun _ _ _ h => h
theorem sx_e (ha : SL n fa wa) : SX RX n fa (wE wa) := fun ρ M θ Q N s q =>
  (ha ρ M θ _ N s q).mono (fun a M' ⟨e, b, r, q⟩ => ⟨e, .ext b, r, q⟩) fun _ _ _ h => h
theorem sx_k {wk : Env → W (List (Key × U))} (ha : SX RK n fa wk) : SX RX n fa (wK wk) := fun ρ M θ Q N s q =>
  (ha ρ M θ _ N s q).mono (fun a M' ⟨e, b, r, q⟩ => ⟨e, .edct b, r, q⟩) fun _ _ _ h => h
theorem sp_tup {f : FA} {w : Env → W (List U)} (h : SI n f w) : SP n (pTup f) (wTup w) := fun ρ M θ Q N s q =>
  Wp.chain (h ρ M θ _ N s q) fun as M1 xs e1 r1 q1 => by
    subst r1
    have := q1.1
    rw [if_pos (by rw [dl_len]; exact q1.1)]
    exact Wp.now (b := .tup xs) e1.hd rfl q1.2
theorem sp_lst {f : FA} {w : Env → W (List U)} (h : SI n f w) : SP n (pLst f) (wLst w) := fun ρ M θ Q N s q =>
  Wp.chain (h ρ M θ _ N s q) fun as M1 xs e1 r1 q1 => by
    subst r1
    rw [if_pos (by rw [dl_len]; exact q1.1)]
    exact Wp.now (b := .lst xs) e1.hd rfl q1.2
theorem sp_call {f : FA} {w : Env → W (List X)} {Φ : List D → PM → Out D} {F : List X → W U} (hd : DefS Φ F) (h : SX RXs n f w) : SP n (pCall Φ f) (wCall F w) := fun ρ M θ Q N s q =>
  Wp.chain (h ρ M θ _ N s q) fun as M1 xs e1 r1 q1 => hd as xs M1 Q N e1.hd r1 q1
theorem sp_cb {f : FA} {w : Env → W (List U)} {g : PM → List D → Out D} {o : List U → W U} (ho : BU g o) (h : SX RLs n f w) : SP n (pCB g f) (wCB o w) := fun ρ M θ Q N s q =>
  Wp.chain (h ρ M θ _ N s q) fun as M1 xs e1 r1 q1 => by
    obtain ⟨v, e, q⟩ := ho M1 as xs Q N r1 q1
    rw [e]
    exact Wp.now e1.hd rfl q
theorem so_none : SX RQ n oNone wONone := fun ρ M θ Q N s q => Wp.now s.hd rfl q
theorem so_some (ha : SL n fa wa) : SX RQ n (oSome fa) (wOSome wa) := fun ρ M θ Q N s q =>
  Wp.chain (ha ρ M θ _ N s q) fun a M1 x e1 r1 q1 => by
    cases x with
    | int i =>
      rcases r1 with r1 | ⟨k, xs, _, _, _, z⟩
      · subst r1; exact Wp.now e1.hd rfl q1
      · cases z
    | _ => exact q1.elim
theorem sp_sl {g : PM → D → Option Int → Option Int → Out D} {o : U → Option Int → Option Int → W U} {fl fh : FO} {wl wh : Env → W (Option Int)} (ho : SlU g o) (ha : SL n fa wa) (hl : SX RQ n fl wl) (hh : SX RQ n fh wh) : SP n (pSl g fa fl fh) (wSl o wa wl wh) := fun ρ M θ Q N s q =>
  Wp.chain (ha ρ M θ _ N s q) fun a M1 x e1 r1 q1 => Wp.chain (hl ρ M1 θ _ N (s.eqv e1) q1) fun l M2 l' e2 r2 q2 => by
    cases r2
    refine Wp.chain (hh ρ M2 θ _ N ((s.eqv e1).eqv e2) q2) fun h M3 h' e3 r3 q3 => ?_
    cases r3
    obtain ⟨v, e, q⟩ := ho M3 a x l h Q N ((r1.eqv e2).eqv e3) q3
    rw [e]
    exact Wp.now e3.hd rfl q
/-! what is walked -/
def uItems : U → W (List U)
  | .lst us => ret us
  | .tup us => ret us
  | .rol ns => ret (ns.map .int)
  | .str z => ret (z.cps.toList.map fun c => .str ⟨#[c]⟩)
  | _ => fail
def wItems (a : Env → W U) : Env → W (List U) := fun θ => bind (a θ) uItems
theorem dl_ints (ns : List Int) : U.dl (ns.map .int) = ns.map .int := by
  rw [dl_map, List.map_map]; rfl
theorem si_items (ha : SP n fa wa) : SI n (pItems fa) (wItems wa) := fun ρ M θ Q N s q =>
  Wp.chain (ha ρ M θ _ N s q) fun a M1 x e1 r1 q1 => by
    cases r1
    cases x with
    | lst us => exact Wp.now (R := fun _ ds us => ds = U.dl us) e1.hd rfl q1
    | tup us => exact Wp.now (R := fun _ ds us => ds = U.dl us) e1.hd rfl q1
    | rol ns => exact Wp.now (R := fun _ ds us => ds = U.dl us) e1.hd (dl_ints ns).symm q1
    | str z => exact Wp.now (R := fun _ ds us => ds = U.dl us) e1.hd (by rw [dl_map, List.map_map]; rfl) q1
    | _ => exact q1.elim
def rngU (lo : Int) (k : Nat) : List U := (List.range k).map fun (i : Nat) => .int (lo + (i : Int))
theorem dl_rng (lo : Int) (k : Nat) : U.dl (rngU lo k) = rngD lo k := by
  rw [dl_map, rngU, rngD, List.map_map]; rfl
def uRng1 : List U → W (List U)
  | [.int j] => guard (-4611686018427387904 ≤ j ∧ j < 4611686018427387904) (ret (rngU 0 j.toNat))
  | _ => fail
def uRng2 : List U → W (List U)
  | [.int i, .int j] => guard ((-4611686018427387904 ≤ i ∧ i < 4611686018427387904) ∧ (-4611686018427387904 ≤ j ∧ j < 4611686018427387904)) (ret (rngU i (j - i).toNat))
  | _ => fail
def wRng1 (a : Env → W (List U)) : Env → W (List U) := fun θ => bind (a θ) uRng1
def wRng2 (a : Env → W (List U)) : Env → W (List U) := fun θ => bind (a θ) uRng2
theorem rngOk_of {j : Int} (h : -4611686018427387904 ≤ j ∧ j < 4611686018427387904) : rngOk j = true := by unfold rngOk; simp [h.1, h.2]
theorem si_rng1 {f : FA} {w : Env → W (List U)} (h : SI n f w) : SI n (pRng1 f) (wRng1 w) := fun ρ M θ Q N s q =>
  Wp.chain (h ρ M θ _ N s q) fun as M1 xs e1 r1 q1 => by
    subst r1
    unfold uRng1 at q1
    split at q1
    · rename_i j
      show Wp (if rngOk j = true then _ else _) _ _
      rw [if_pos (rngOk_of q1.1)]
      exact Wp.now (R := fun _ ds us => ds = U.dl us) e1.hd (dl_rng 0 _).symm q1.2
    · exact q1.elim
theorem si_rng2 {f : FA} {w : Env → W (List U)} (h : SI n f w) : SI n (pRng2 f) (wRng2 w) := fun ρ M θ Q N s q =>
  Wp.chain (h ρ M θ _ N s q) fun as M1 xs e1 r1 q1 => by
    subst r1
    unfold uRng2 at q1
    split at q1
    · rename_i i j
      show Wp (if (rngOk i && rngOk j) = true then _ else _) _ _
      rw [if_pos (by rw [rngOk_of q1.1.1, rngOk_of q1.1.2]; rfl)]
      exact Wp.now (R := fun _ ds us => ds = U.dl us) e1.hd (dl_rng i _).symm q1.2
    · exact q1.elim
end
/-! ### targets -/
def ST (n : Nat) (g : FG) (w : U → Env → W Env) : Prop := ∀ ρ M θ u Q N, Sim n ρ M θ → w u θ Q N → ∃ ρ' θ', g u.d ρ M = .ok ρ' M ∧ Sim n ρ' M θ' ∧ Q θ'
def STs (n : Nat) (g : FGs) (w : List U → Env → W Env) : Prop := ∀ ρ M θ us Q N, Sim n ρ M θ → w us θ Q N → ∃ ρ' θ', g (U.dl us) ρ M = .ok ρ' M ∧ Sim n ρ' M θ' ∧ Q θ'
def wName (i : Nat) : U → Env → W Env := fun u θ => ret (θ.set i (some (.u u)))
def wUnp (k : Nat) (w : List U → Env → W Env) : U → Env → W Env := fun u θ => match u with
  | .tup us => if us.length = k then w us θ else fail
  | _ => fail
def wTNil : List U → Env → W Env := fun us θ => match us with
  | [] => ret θ
  | _ => fail
def wTCons (w : U → Env → W Env) (r : List U → Env → W Env) : List U → Env → W Env := fun us θ => match us with
  | u :: us => bind (w u θ) fun θ1 => r us θ1
  | [] => fail
section
variable {n : Nat}
theorem st_name (i : Nat) : ST n (fName i) (wName i) := fun ρ M θ u Q N s q => ⟨_, _, rfl, s.set i, q⟩
theorem st_nil : STs n fNil wTNil := fun ρ M θ us Q N s q => by
  cases us with
  | nil => exact ⟨_, _, rfl, s, q⟩
  | cons => exact q.elim
theorem st_cons {g : FG} {w : U → Env → W Env} {gs : FGs} {ws : List U → Env → W Env} (h : ST n g w) (hs : STs n gs ws) : STs n (fCons g gs) (wTCons w ws) := fun ρ M θ us Q N s q => by
  cases us with
  | nil => exact q.elim
  | cons u us =>
    obtain ⟨ρ1, θ1, e1, s1, q1⟩ := h ρ M θ u _ N s q
    obtain ⟨ρ2, θ2, e2, s2, q2⟩ := hs ρ1 M θ1 us Q N s1 q1
    exact ⟨ρ2, θ2, by rw [U.dl]; unfold fCons; simp only [e1, Out.bind_ok, e2], s2, q2⟩
theorem st_tup {k : Nat} {gs : FGs} {ws : List U → Env → W Env} (hs : STs n gs ws) : ST n (fTup k gs) (wUnp k ws) := fun ρ M θ u Q N s q => by
  cases u with
  | tup us =>
    unfold wUnp at q
    simp only at q
    split at q
    · rename_i hl
      obtain ⟨ρ2, θ2, e2, s2, q2⟩ := hs ρ M θ us Q N s q
      refine ⟨ρ2, θ2, ?_, s2, q2⟩
      rw [U.d]
      unfold fTup
      simp only [dl_len, hl, if_true]
      exact e2
    · exact q.elim
  | _ => exact q.elim
end
/-! ### list comprehensions -/
def wLcs (g : U → Env → W Env) (t : Env → W Bool) (f : Env → W U) (θ : Env) : List U → W (List U)
  | [] => ret []
  | x :: xs => bind (g x θ) fun θ1 => bind (t θ1) fun b => if b = true then bind (f θ1) fun y => bind (wLcs g t f θ xs) fun r => ret (y :: r) else wLcs g t f θ xs
def wLc (w : Env → W (List U)) (g : U → Env → W Env) (t : Env → W Bool) (f : Env → W U) (vs : List Nat) : Env → W U := fun θ => bind (w θ) fun us => guard (us.length ≤ 16777216) (bind (wLcs g t f (kill θ vs) us) fun r => ret (.lst r))
section
variable {n : Nat}
theorem eqv_snoc {M1 M' : PM} {mo : MO} (h1 : 0 < M1.length) (e : Eqv (M1 ++ [mo]) M') : ∃ M2, M' = M2 ++ [mo] ∧ Eqv M1 M2 := by
  have hl : M'.length = M1.length + 1 := by rw [e.len]; simp
  have hlast : M'[M1.length]? = some mo := by rw [e.eq _ h1]; simp
  refine ⟨M'.take M1.length, ?_, ?_⟩
  · apply List.ext_getElem?
    intro k
    by_cases hk : k < M1.length
    · rw [List.getElem?_append_left (by simp; omega), List.getElem?_take_of_lt hk]
    · by_cases hk2 : k = M1.length
      · subst hk2
        rw [hlast, List.getElem?_append_right (by rw [List.length_take]; omega)]
        simp [hl]
      · rw [List.getElem?_eq_none (by omega), List.getElem?_eq_none (by simp; omega)]
  · refine ⟨⟨?_, ?_⟩, by simp; omega, fun k hk => ?_⟩
    · obtain ⟨m, J, e1, hs⟩ := e.hd.st
      rw [e1]
      obtain ⟨j, hj⟩ : ∃ j, M1.length = j + 1 := ⟨M1.length - 1, by omega⟩
      rw [hj]
      exact ⟨m, J.take j, rfl, hs⟩
    · have := e.hd.cl
      rw [List.all_eq_true] at this ⊢
      exact fun x hx => this x (List.mem_of_mem_take hx)
    · by_cases hk2 : k < M1.length
      · rw [List.getElem?_take_of_lt hk2, e.eq k hk, List.getElem?_append_left hk2]
      · rw [List.getElem?_eq_none (by rw [List.length_take]; omega), List.getElem?_eq_none (by omega)]
theorem lcFrom_ok {g : FG} {wg : U → Env → W Env} {t : FT} {wt : Env → W Bool} {f : FE} {wf : Env → W U} (hg : ST n g wg) (ht : SB n t wt) (hf : SP n f wf) {ρ : Rho} {θ : Env} {N : XQ} :
    ∀ (us acc : List U) (M : PM) (Q : List U → Prop), Sim n ρ M θ → acc.length + us.length ≤ 16777216 → wLcs wg wt wf θ us (fun r => Q (acc ++ r)) N → Wp (lcFrom M.length g t f ρ (U.dl us) (M ++ [.lst (U.dl acc)])) (fun d M' => Eqv M M' ∧ ∃ r, d = .lst (U.dl r) ∧ Q r) (Nx M N) := by
  intro us
  induction us with
  | nil =>
    intro acc M Q s hl q
    have q' : Q (acc ++ []) := q
    rw [List.append_nil] at q'
    rw [U.dl]
    unfold lcFrom lcEnd
    have e : (M ++ [MO.lst (U.dl acc)])[M.length]? = some (.lst (U.dl acc)) := by simp
    have e2 : (M ++ [MO.lst (U.dl acc)]).take M.length = M := by simp
    have hp := s.hd.pos
    simp only [e, e2]
    rw [if_pos ⟨by simp, clL_mono (by omega) _ (cl_dl acc), List.all_eq_true.mpr fun x hx => clMO_mono (by omega) x (List.all_eq_true.mp s.hd.cl x hx)⟩]
    exact ⟨Eqv.refl s.hd, acc, rfl, q'⟩
  | cons u us ih =>
    intro acc M Q s hl q
    rw [List.length_cons] at hl
    rw [U.dl]
    unfold lcFrom
    have s1 := s.snoc (lst_cl acc)
    obtain ⟨ρ1, θ1, e1, s2, q1⟩ := hg ρ _ θ u _ N s1 q
    rw [e1, Out.bind_ok]
    have h2 := ht ρ1 _ θ1 _ N s2 q1
    have up : ∀ {c fs M2}, Nx (M ++ [MO.lst (U.dl acc)]) N c fs M2 → Nx M N c fs M2 := fun h => ⟨⟨h.1.hd, by have := h.1.len; simp at this; omega, fun k h1 h2 => by rw [h.1.eq k h1 (by simp; omega), List.getElem?_append_left h2]⟩, h.2⟩
    cases ho : t ρ1 (M ++ [MO.lst (U.dl acc)]) with
    | bad => rw [ho] at h2; exact h2.elim
    | exn c fs M2 => rw [ho] at h2; exact up h2
    | ok b M2 =>
      rw [ho] at h2
      obtain ⟨e2, b', hb, h2⟩ := h2
      cases hb
      obtain ⟨M3, rfl, e3⟩ := eqv_snoc s.hd.pos e2
      rw [Out.bind_ok, ← e3.len]
      cases b with
      | false =>
        rw [if_neg Bool.false_ne_true] at h2 ⊢
        exact (ih acc M3 Q (s.eqv e3) (by omega) h2).mono (fun _ _ h => ⟨e3.trans h.1, h.2⟩) fun _ _ _ h => Nx.tr e3 h
      | true =>
        rw [if_pos rfl] at h2 ⊢
        have h3 := hf ρ1 _ θ1 _ N (s2.eqv e2) h2
        have up3 : ∀ {c fs M2}, Nx (M3 ++ [MO.lst (U.dl acc)]) N c fs M2 → Nx M3 N c fs M2 := fun h => ⟨⟨h.1.hd, by have := h.1.len; simp at this; omega, fun k h1 h2 => by rw [h.1.eq k h1 (by simp; omega), List.getElem?_append_left h2]⟩, h.2⟩
        cases hf' : f ρ1 (M3 ++ [MO.lst (U.dl acc)]) with
        | bad => rw [hf'] at h3; exact h3.elim
        | exn c fs M4 => rw [hf'] at h3; exact Nx.tr e3 (up3 h3)
        | ok y M4 =>
          rw [hf'] at h3
          obtain ⟨e4, y', hy, h3⟩ := h3
          obtain ⟨M5, rfl, e5⟩ := eqv_snoc e3.hd.pos e4
          cases hy
          have e6 : (M5 ++ [MO.lst (U.dl acc)])[M3.length]? = some (.lst (U.dl acc)) := by rw [← e5.len]; simp
          have e7 : (M5 ++ [MO.lst (U.dl acc)]).set M3.length (.lst (U.dl acc ++ [y'.d])) = M5 ++ [MO.lst (U.dl (acc ++ [y']))] := by
            rw [← e5.len, List.set_append_right _ _ (Nat.le_refl _), Nat.sub_self, dl_app]; rfl
          rw [Out.bind_ok]
          unfold lcPut
          simp only [e6]
          rw [if_pos (show (U.dl acc).length < line by rw [dl_len]; show acc.length < 16777216; omega), Out.bind_ok, e7, ← e5.len]
          have e8 := e3.trans e5
          refine (ih (acc ++ [y']) M5 Q (s.eqv e8) (by rw [List.length_append, List.length_singleton]; omega) ?_).mono (fun _ _ h => ⟨e8.trans h.1, h.2⟩) fun _ _ _ h => Nx.tr e8 h
          have h4 : wLcs wg wt wf θ us (fun r => Q (acc ++ (y' :: r))) N := h3
          simpa using h4
theorem sp_lc {w : FA} {ww : Env → W (List U)} {g : FG} {wg : U → Env → W Env} {t : FT} {wt : Env → W Bool} {f : FE} {wf : Env → W U} (vs : List Nat) (hw : SI n w ww) (hg : ST n g wg) (ht : SB n t wt) (hf : SP n f wf) : SP n (pLc w g t f vs) (wLc ww wg wt wf vs) := fun ρ M θ Q N s q =>
  Wp.chain (hw ρ M θ _ N s q) fun ds M1 us e1 r1 q1 => by
    subst r1
    have h := lcFrom_ok hg ht hf us [] M1 (fun r => Q (.lst r)) ((s.eqv e1).wipe vs) (by simpa using q1.1) q1.2
    exact h.mono (fun d M' ⟨e, r, h1, h2⟩ => ⟨e, .lst r, h1, h2⟩) fun _ _ _ h => h
end
end Pu

set_option Elab.async false
set_option linter.all false
set_option maxRecDepth 100000
set_option maxHeartbeats 1000000
namespace Pu
open PySem L2 Pd

inductive WFl where
  | nx (θ : Env) | rt (u : U) | bk (θ : Env) | ct (θ : Env)
def FR (n : Nat) (M : PM) : Fl → WFl → Prop
  | .nx ρ, .nx θ => Sim n ρ M θ
  | .rt d, .rt u => RO n M d u
  | .bk ρ, .bk θ => Sim n ρ M θ
  | .ct ρ, .ct θ => Sim n ρ M θ
  | _, _ => False
def Sx (n : Nat) (M : PM) (Q : WFl → Prop) : Fl → PM → Prop := fun fl M' => Grow n M M' ∧ ∃ wf, FR n M' fl wf ∧ Q wf
def Sn (n : Nat) (M : PM) (N : XQ) : Value → Option (List (Str × D)) → PM → Prop := fun c fs M' => Grow n M M' ∧ N c fs
theorem fr_nx {n : Nat} {M : PM} {ρ : Rho} {θ : Env} (s : Sim n ρ M θ) : FR n M (.nx ρ) (.nx θ) := s
theorem fr_bk {n : Nat} {M : PM} {ρ : Rho} {θ : Env} (s : Sim n ρ M θ) : FR n M (.bk ρ) (.bk θ) := s
theorem fr_ct {n : Nat} {M : PM} {ρ : Rho} {θ : Env} (s : Sim n ρ M θ) : FR n M (.ct ρ) (.ct θ) := s
abbrev WS := Env → W WFl
def SS (n : Nat) (f : FS) (w : WS) : Prop := ∀ ρ M θ Q N, Sim n ρ M θ → w θ Q N → Wp (f ρ M) (Sx n M Q) (Sn n M N)
section
variable {n : Nat} {M M1 : PM} {Q : WFl → Prop} {N : XQ}
theorem Nx.sn {c : Value} {fs : Option (List (Str × D))} {M2 : PM} (hn : n ≤ M.length) (h : Nx M N c fs M2) : Sn n M N c fs M2 := ⟨⟨h.1.hd, h.1.len, fun k h1 h2 => h.1.eq k h1 (by omega)⟩, h.2⟩
theorem Wp.trS {o : Out Fl} (e : Grow n M M1) (h : Wp o (Sx n M1 Q) (Sn n M1 N)) : Wp o (Sx n M Q) (Sn n M N) :=
  h.mono (fun _ _ h => ⟨e.trans h.1, h.2⟩) fun _ _ _ h => ⟨e.trans h.1, h.2⟩
/-- an expression, then a statement with its value -/
theorem Wp.chainS {A B : Type} {R : PM → A → B → Prop} {K : B → Prop} {o : Out A} {g : A → PM → Out Fl} (hn : n ≤ M.length) (h : Wp o (Px M R K) (Nx M N)) (k : ∀ a M1 b, Eqv M M1 → R M1 a b → K b → Wp (g a M1) (Sx n M1 Q) (Sn n M1 N)) : Wp (o.bind g) (Sx n M Q) (Sn n M N) := by
  cases o with
  | ok a M1 =>
    obtain ⟨e, b, r, q⟩ := h
    exact Wp.trS (e.grow n) (k a M1 b e r q)
  | exn c fs M1 => exact Nx.sn hn h
  | bad => exact h
theorem Wp.nowS {fl : Fl} {wf : WFl} (h : Hd M) (r : FR n M fl wf) (q : Q wf) : Wp (.ok fl M) (Sx n M Q) (Sn n M N) := ⟨Grow.refl h, wf, r, q⟩
end
/-! ### the statements -/
def kSeq (b : WS) : WFl → W WFl
  | .nx θ => b θ
  | fl => ret fl
def wSeq (a b : WS) : WS := fun θ => bind (a θ) (kSeq b)
def wNext : WS := fun θ => ret (.nx θ)
def wBreak : WS := fun θ => ret (.bk θ)
def wCont : WS := fun θ => ret (.ct θ)
def wRet (a : Env → W U) : WS := fun θ => bind (a θ) fun u => ret (.rt u)
def wRetN : WS := fun _ => ret (.rt .non)
def wAsg (a : Env → W U) (g : U → Env → W Env) : WS := fun θ => bind (a θ) fun u => bind (g u θ) fun θ' => ret (.nx θ')
def wDrop (a : Env → W U) : WS := fun θ => bind (a θ) fun _ => ret (.nx θ)
def wSIf (c : Env → W Bool) (a b : WS) : WS := fun θ => bind (c θ) fun k => if k = true then a θ else b θ
/-- x = [..]: a list that changes -/
def xOwn : U → W X
  | .lst xs => ret (.own xs)
  | _ => fail
def wNew (a : Env → W U) (i : Nat) : WS := fun θ => bind (a θ) fun u => bind (xOwn u) fun x => ret (.nx (θ.set i (some x)))
def wNewD (i : Nat) : WS := fun θ => ret (.nx (θ.set i (some (.dct []))))
/-- xs.append(..), xs.extend(..) -/
def xOwnL : Option (Option X) → W (List U)
  | some (some (.own xs)) => ret xs
  | _ => fail
def uSeq : U → W (List U)
  | .lst xs => ret xs
  | .tup xs => ret xs
  | _ => fail
def uLst : U → W (List U)
  | .lst xs => ret xs
  | .tup xs => ret xs
  | _ => fail
def wApp (i : Nat) (a : Env → W U) : WS := fun θ => bind (xOwnL θ[i]?) fun xs => bind (a θ) fun u => guard (xs.length < 16777216) (ret (.nx (θ.set i (some (.own (xs ++ [u]))))))
def wExt (i : Nat) (a : Env → W U) : WS := fun θ => bind (xOwnL θ[i]?) fun xs => bind (a θ) fun u => bind (uLst u) fun ys => guard (xs.length + ys.length ≤ 16777216) (ret (.nx (θ.set i (some (.own (xs ++ ys))))))
def wAug (i : Nat) (a : Env → W U) (o : U → U → W U) : WS := fun θ => bind (xU θ[i]?) fun x => bind (a θ) fun y => bind (o x y) fun z => ret (.nx (θ.set i (some (.u z))))
def wPar (i j : Nat) (a : Env → W (List U)) : WS := fun θ => bind (a θ) fun us => match us with
  | [x, y] => ret (.nx ((θ.set i (some (.u x))).set j (some (.u y))))
  | _ => fail
def wEach (g : U → Env → W Env) (b : WS) (ks : List Nat) : List U → WS
  | [], θ => ret (.nx (kill θ ks))
  | x :: xs, θ => bind (g x (kill θ ks)) fun θ1 => bind (b θ1) fun fl => match fl with
    | .nx θ' => wEach g b ks xs θ'
    | .ct θ' => wEach g b ks xs θ'
    | .bk θ' => ret (.nx (kill θ' ks))
    | .rt u => ret (.rt u)
def wFor (a : Env → W (List U)) (g : U → Env → W Env) (b : WS) (ks : List Nat) : WS := fun θ => bind (a θ) fun us => wEach g b ks us θ
def wWhile (c : Env → W Bool) (b : WS) (ks : List Nat) : Nat → WS
  | 0, _ => fail
  | t + 1, θ => bind (c (kill θ ks)) fun k => if k = true then bind (b (kill θ ks)) fun fl => match fl with
    | .nx θ' => wWhile c b ks t θ'
    | .ct θ' => wWhile c b ks t θ'
    | .bk θ' => ret (.nx (kill θ' ks))
    | .rt u => ret (.rt u)
    else ret (.nx (kill θ ks))
section
variable {n : Nat} {fe : FE} {we : Env → W U} {a b : FS} {wa wb : WS}
theorem ss_next : SS n sNext wNext := fun ρ M θ Q N s q => Wp.nowS s.hd (fr_nx s) q
theorem ss_break : SS n sBreak wBreak := fun ρ M θ Q N s q => Wp.nowS s.hd (fr_bk s) q
theorem ss_cont : SS n sCont wCont := fun ρ M θ Q N s q => Wp.nowS s.hd (fr_ct s) q
theorem ss_retN : SS n sRetN wRetN := fun ρ M θ Q N s q => Wp.nowS (fl := .rt .non) s.hd (wf := .rt .non) (.inl rfl) q
theorem ss_seq (ha : SS n a wa) (hb : SS n b wb) : SS n (sSeq a b) (wSeq wa wb) := fun ρ M θ Q N s q => by
  have h := ha ρ M θ _ N s q
  unfold sSeq
  cases e : a ρ M with
  | bad => rw [e] at h; exact h.elim
  | exn c fs M1 => rw [e] at h; exact h
  | ok fl M1 =>
    rw [e] at h
    obtain ⟨g, wf, r, h⟩ := h
    rw [Out.bind_ok]
    cases fl with
    | nx ρ' =>
      cases wf with
      | nx θ' => exact Wp.trS g (hb ρ' M1 θ' Q N r h)
      | _ => exact r.elim
    | rt d =>
      cases wf with
      | rt u => exact ⟨g, _, r, h⟩
      | _ => exact r.elim
    | bk ρ' =>
      cases wf with
      | bk θ' => exact ⟨g, _, r, h⟩
      | _ => exact r.elim
    | ct ρ' =>
      cases wf with
      | ct θ' => exact ⟨g, _, r, h⟩
      | _ => exact r.elim
theorem ss_ret (he : SX (RO n) n fe we) : SS n (sRet fe) (wRet we) := fun ρ M θ Q N s q =>
  Wp.chainS s.nM (he ρ M θ _ N s q) fun d M1 u e r q => Wp.nowS (fl := .rt d) e.hd (wf := .rt u) r q
theorem ss_asg {g : FG} {wg : U → Env → W Env} (he : SP n fe we) (hg : ST n g wg) : SS n (sAsg fe g) (wAsg we wg) := fun ρ M θ Q N s q =>
  Wp.chainS s.nM (he ρ M θ _ N s q) fun d M1 u e r q => by
    cases r
    obtain ⟨ρ', θ', e1, s1, q1⟩ := hg ρ M1 θ u _ N (s.eqv e) q
    rw [e1]
    exact Wp.nowS s1.hd (fr_nx s1) q1
theorem ss_drop (he : SL n fe we) : SS n (sDrop fe) (wDrop we) := fun ρ M θ Q N s q =>
  Wp.chainS s.nM (he ρ M θ _ N s q) fun d M1 u e r q => Wp.nowS e.hd (fr_nx (s.eqv e)) q
theorem ss_if {t : FT} {wt : Env → W Bool} (ht : SB n t wt) (ha : SS n a wa) (hb : SS n b wb) : SS n (sIf t a b) (wSIf wt wa wb) := fun ρ M θ Q N s q =>
  Wp.chainS s.nM (ht ρ M θ _ N s q) fun k M1 k' e r q => by
    cases r
    cases k with
    | true => exact ha ρ M1 θ Q N (s.eqv e) q
    | false => exact hb ρ M1 θ Q N (s.eqv e) q
theorem grow_snoc {M : PM} (h : Hd M) (hn : n ≤ M.length) {mo : MO} (hm : clMO 1 mo = true) : Grow n M (M ++ [mo]) := ⟨h.snoc hm, by simp, fun k _ hk => by rw [List.getElem?_append_left (by omega)]⟩
theorem new_ok {ρ : Rho} {M : PM} {θ : Env} {i : Nat} {us : List U} {Q : WFl → Prop} {N : XQ} (s : Sim n ρ M θ) (q : Q (.nx (θ.set i (some (.own us))))) :
    Wp ((fName i (.adr M.length) ρ (M ++ [.lst (U.dl us)])).bind fun ρ' M2 => .ok (.nx ρ') M2) (Sx n M Q) (Sn n M N) := by
  have s1 := s.new i (y := .own us) (lst_cl us) ⟨M.length, s.nM, rfl, by simp⟩
  exact ⟨grow_snoc s.hd s.nM (lst_cl us), _, fr_nx s1, q⟩
theorem ss_new {f : FA} {w : Env → W (List U)} (i : Nat) (h : SI n f w) : SS n (sAsg (pNew f) (fName i)) (wNew (wLst w) i) := fun ρ M θ Q N s q => by
  unfold sAsg pNew
  have q' : w θ (fun us => us.length ≤ 16777216 ∧ Q (.nx (θ.set i (some (.own us))))) N := q
  have := h ρ M θ _ N s q'
  cases e : f ρ M with
  | bad => rw [e] at this; exact this.elim
  | exn c fs M1 => rw [e] at this; exact Nx.sn s.nM this
  | ok ds M1 =>
    rw [e] at this
    obtain ⟨e1, us, r, hl, hq⟩ := this
    subst r
    rw [Out.bind_ok, if_pos (by rw [dl_len]; exact hl), Out.bind_ok]
    exact Wp.trS (e1.grow n) (new_ok (s.eqv e1) hq)
theorem ss_newD (i : Nat) : SS n (sAsg pNewD (fName i)) (wNewD i) := fun ρ M θ Q N s q => by
  have s1 := s.new i (y := .dct []) (kd_cl []) ⟨⟨M.length, by have := s.n1; have := s.nM; omega, rfl, by simp [kd]⟩, s.nM⟩
  exact ⟨grow_snoc s.hd s.nM (kd_cl []), _, fr_nx s1, q⟩
/-- x = a + b, a list that changes -/
def uAddL : U → U → W U
  | .lst x, .lst y => guard (x.length + y.length ≤ 16777216) (ret (.lst (x ++ y)))
  | _, _ => fail
theorem RL_lst {M : PM} {d : D} {xs : List U} (r : RL M d (.lst xs)) : lstOf M d = some (U.dl xs) := by
  rcases r with r | ⟨k, ys, h1, h2, h3, h4⟩
  · subst r; rfl
  · subst h2; cases h4; simp only [lstOf, h3]
theorem RL_listOf {M : PM} {d : D} {xs : List U} (r : RL M d (.lst xs)) : Pd.listOf M d = some (U.dl xs) := by
  rcases r with r | ⟨k, ys, h1, h2, h3, h4⟩
  · subst r; rfl
  · subst h2; cases h4; simp only [Pd.listOf, h3]
theorem RL_seqL {M : PM} {d : D} {xs : List U} (r : RL M d (.lst xs)) : seqOf M d = some (U.dl xs) := by
  rcases r with r | ⟨k, ys, h1, h2, h3, h4⟩
  · subst r; rfl
  · subst h2; cases h4; simp only [seqOf, h3]
theorem RL_plain {M : PM} {d : D} {u : U} (r : RL M d u) (h : ∀ xs, u ≠ .lst xs) : d = u.d := by
  rcases r with r | ⟨k, ys, h1, h2, h3, h4⟩
  · exact r
  · exact absurd h4 (h ys)
theorem ss_newN {fa fb : FE} {wa wb : Env → W U} (i : Nat) (ha : SL n fa wa) (hb : SL n fb wb) : SS n (sAsg (pOp gAddN fa fb) (fName i)) (wNew (wOp uAddL wa wb) i) := fun ρ M θ Q N s q => by
  have q' : wa θ (fun x => wb θ (fun y => uAddL x y (fun u => (bind (xOwn u) fun x => ret (.nx (θ.set i (some x)))) Q N) N) N) N := q
  have h1 := ha ρ M θ _ N s q'
  unfold sAsg pOp
  cases e : fa ρ M with
  | bad => rw [e] at h1; exact h1.elim
  | exn c fs M1 => rw [e] at h1; exact Nx.sn s.nM h1
  | ok d1 M1 =>
    rw [e] at h1
    obtain ⟨e1, u1, r1, h1⟩ := h1
    rw [Out.bind_ok]
    have h2 := hb ρ M1 θ _ N (s.eqv e1) h1
    cases e' : fb ρ M1 with
    | bad => rw [e'] at h2; exact h2.elim
    | exn c fs M2 => rw [e'] at h2; exact Nx.sn s.nM (Nx.tr e1 h2)
    | ok d2 M2 =>
      rw [e'] at h2
      obtain ⟨e2, u2, r2, h2⟩ := h2
      rw [Out.bind_ok]
      cases u1 with
      | lst x =>
        cases u2 with
        | lst y =>
          have hl := h2.1
          unfold gAddN
          simp only [RL_lst (r1.eqv e2), RL_lst r2]
          rw [if_pos (by rw [dl_len, dl_len]; exact hl), Out.bind_ok, ← dl_app]
          exact Wp.trS ((e1.trans e2).grow n) (new_ok ((s.eqv e1).eqv e2) h2.2)
        | _ => exact h2.elim
      | _ => exact h2.elim
theorem own_of {ρ : Rho} {M : PM} {θ : Env} {i : Nat} {K : List U → Prop} {N : XQ} (s : Sim n ρ M θ) (q : xOwnL θ[i]? K N) : ∃ xs k, θ[i]? = some (some (.own xs)) ∧ ρ[i]? = some (some (.adr k)) ∧ n ≤ k ∧ M[k]? = some (.lst (U.dl xs)) ∧ K xs := by
  rcases h : θ[i]? with _ | _ | x
  · rw [h] at q; exact q.elim
  · rw [h] at q; exact q.elim
  · rw [h] at q
    obtain ⟨d, h1, h2⟩ := s.v _ _ h
    cases x with
    | own xs =>
      obtain ⟨k, h2, rfl, h4⟩ := h2
      exact ⟨xs, k, rfl, h1, h2, h4, q⟩
    | _ => exact q.elim
theorem xOwnL_ext {o : Option (Option X)} {K : List U → Prop} {N : XQ} (q : xOwnL o K N) : ∃ xs, o = some (some (.own xs)) ∧ K xs := by
  match o, q with
  | some (some (.own xs)), q => exact ⟨xs, rfl, q⟩
theorem put_own {ρ : Rho} {M : PM} {θ : Env} {i k : Nat} {xs ys : List U} {Q : WFl → Prop} {N : XQ} (s : Sim n ρ M θ) (h1 : θ[i]? = some (some (.own xs))) (h2 : ρ[i]? = some (some (.adr k))) (h3 : n ≤ k) (h4 : M[k]? = some (.lst (U.dl xs))) (q : Q (.nx (θ.set i (some (.own ys))))) :
    Wp (.ok (.nx ρ) (M.set k (.lst (U.dl ys)))) (Sx n M Q) (Sn n M N) := by
  have n1 := s.n1
  have hk : k < M.length := (List.getElem?_eq_some_iff.mp h4).1
  have s1 := s.put (y := .own ys) rfl h1 h2 h3 (lst_cl ys) rfl ⟨k, h3, rfl, by rw [List.getElem?_set_self hk]⟩
  exact ⟨⟨s1.hd, by simp, fun j _ hj => by rw [List.getElem?_set_ne (by omega)]⟩, _, fr_nx s1, q⟩
theorem isA_lst {M : PM} {k : Nat} {ds : List D} (h : M[k]? = some (.lst ds)) : isA M (.adr k) = true := by unfold isA; simp only [h]
theorem ss_app (i : Nat) (he : SP n fe we) : SS n (sDrop (pApp (pVar i) fe)) (wApp i we) := fun ρ M θ Q N s q => by
  obtain ⟨xs, k, h1, h2, h3, h4, q⟩ := own_of s q
  have n1 := s.n1
  unfold sDrop pApp
  rw [pVar_of h2, Out.bind_ok, if_pos (isA_lst h4)]
  have h := he ρ M θ _ N s q
  cases e : fe ρ M with
  | bad => rw [e] at h; exact h.elim
  | exn c fs M1 => rw [e] at h; exact Nx.sn s.nM h
  | ok d M1 =>
    rw [e] at h
    obtain ⟨e1, u, r, hl, q⟩ := h
    cases r
    have h5 : M1[k]? = some (.lst (U.dl xs)) := by rw [e1.eq k (by omega)]; exact h4
    rw [Out.bind_ok]
    simp only [h5]
    rw [if_pos (by rw [dl_len]; exact hl), Out.bind_ok]
    have := put_own (ys := xs ++ [u]) (Q := Q) (N := N) (s.eqv e1) h1 h2 h3 h5 q
    rw [dl_app] at this
    exact Wp.trS (e1.grow n) this
theorem RL_lst2 {M : PM} {d : D} {xs : List U} (r : RL M d (.lst xs)) : lst2Of M d = some (U.dl xs) := by
  have h := RL_lst r
  unfold lst2Of
  split
  · cases h
  · exact h
theorem RL_lstT {M : PM} {d : D} {xs : List U} (r : RL M d (.tup xs)) : lst2Of M d = some (U.dl xs) := by
  rcases r with r | ⟨_, _, _, _, _, z⟩
  · subst r; rfl
  · cases z
theorem ss_ext (i : Nat) (he : SL n fe we) : SS n (sDrop (pExt (pVar i) fe)) (wExt i we) := fun ρ M θ Q N s q => by
  obtain ⟨xs, k, h1, h2, h3, h4, q⟩ := own_of s q
  have n1 := s.n1
  unfold sDrop pExt
  rw [pVar_of h2, Out.bind_ok, if_pos (isA_lst h4)]
  have h := he ρ M θ _ N s q
  cases e : fe ρ M with
  | bad => rw [e] at h; exact h.elim
  | exn c fs M1 => rw [e] at h; exact Nx.sn s.nM h
  | ok d M1 =>
    rw [e] at h
    obtain ⟨e1, u, r, q⟩ := h
    cases u with
    | lst ys =>
      obtain ⟨hl, q⟩ := q
      have h5 : M1[k]? = some (.lst (U.dl xs)) := by rw [e1.eq k (by omega)]; exact h4
      rw [Out.bind_ok]
      simp only [h5, RL_lst2 r]
      rw [if_pos (by rw [dl_len, dl_len]; exact hl), Out.bind_ok]
      have := put_own (ys := xs ++ ys) (Q := Q) (N := N) (s.eqv e1) h1 h2 h3 h5 q
      rw [dl_app] at this
      exact Wp.trS (e1.grow n) this
    | tup ys =>
      obtain ⟨hl, q⟩ := q
      have h5 : M1[k]? = some (.lst (U.dl xs)) := by rw [e1.eq k (by omega)]; exact h4
      rw [Out.bind_ok]
      simp only [h5, RL_lstT r]
      rw [if_pos (by rw [dl_len, dl_len]; exact hl), Out.bind_ok]
      have := put_own (ys := xs ++ ys) (Q := Q) (N := N) (s.eqv e1) h1 h2 h3 h5 q
      rw [dl_app] at this
      exact Wp.trS (e1.grow n) this
    | _ => exact q.elim
theorem ss_aug {g : PM → D → D → Out D} {o : U → U → W U} (i : Nat) (ho : OpU g o) (he : SL n fe we) : SS n (sAug i fe g) (wAug i we o) := fun ρ M θ Q N s q => by
  have q' : xU θ[i]? (fun x => we θ (fun y => o x y (fun z => Q (.nx (θ.set i (some (.u z))))) N) N) N := q
  have ⟨u, h1, h2⟩ : ∃ u, ρ[i]? = some (some u.d) ∧ we θ (fun y => o u y (fun z => Q (.nx (θ.set i (some (.u z))))) N) N := by
    rcases h : θ[i]? with _ | _ | x
    · rw [h] at q'; exact q'.elim
    · rw [h] at q'; exact q'.elim
    · rw [h] at q'
      obtain ⟨d, h1, h2⟩ := s.v _ _ h
      cases x with
      | u u => exact ⟨u, by rw [h1, h2], q'⟩
      | _ => exact q'.elim
  unfold sAug
  simp only [h1]
  refine Wp.chainS s.nM (he ρ M θ _ N s h2) fun d M1 y e r q => ?_
  obtain ⟨w, e2, q2⟩ := ho M1 _ _ u y _ N (.inl rfl) r q
  rw [e2, Out.bind_ok]
  exact Wp.nowS e.hd (fr_nx ((s.eqv e).set i)) q2
theorem ss_par (i j : Nat) {f : FA} {w : Env → W (List U)} (h : SI n f w) : SS n (sPar i j f) (wPar i j w) := fun ρ M θ Q N s q =>
  Wp.chainS s.nM (h ρ M θ _ N s q) fun ds M1 us e r q => by
    subst r
    match us, q with
    | [x, y], q => exact Wp.nowS e.hd (fr_nx (((s.eqv e).set i).set j)) q
theorem ss_each {g : FG} {wg : U → Env → W Env} (ks : List Nat) (hg : ST n g wg) (hb : SS n b wb) : ∀ us : List U, SS n (sEach g b (U.dl us)) (wEach wg wb ks us)
  | [], ρ, M, θ, Q, N, s, q => Wp.nowS s.hd (fr_nx (s.kill ks)) q
  | u :: us, ρ, M, θ, Q, N, s, q => by
    obtain ⟨ρ1, θ1, e1, s1, q1⟩ := hg ρ M _ u _ N (s.kill ks) q
    rw [U.dl]
    unfold sEach
    rw [e1, Out.bind_ok]
    have h := hb ρ1 M θ1 _ N s1 q1
    cases e : b ρ1 M with
    | bad => rw [e] at h; exact h.elim
    | exn c fs M1 => rw [e] at h; exact h
    | ok fl M1 =>
      rw [e] at h
      obtain ⟨g1, wf, r, h⟩ := h
      rw [Out.bind_ok]
      cases fl with
      | nx ρ' =>
        cases wf with
        | nx θ' => exact Wp.trS g1 (ss_each ks hg hb us ρ' M1 θ' Q N r h)
        | _ => exact r.elim
      | ct ρ' =>
        cases wf with
        | ct θ' => exact Wp.trS g1 (ss_each ks hg hb us ρ' M1 θ' Q N r h)
        | _ => exact r.elim
      | bk ρ' =>
        cases wf with
        | bk θ' => exact ⟨g1, _, fr_nx (Sim.kill r ks), h⟩
        | _ => exact r.elim
      | rt d =>
        cases wf with
        | rt u => exact ⟨g1, _, r, h⟩
        | _ => exact r.elim
theorem ss_for {f : FA} {w : Env → W (List U)} {g : FG} {wg : U → Env → W Env} (ks : List Nat) (h : SI n f w) (hg : ST n g wg) (hb : SS n b wb) : SS n (sFor f g b) (wFor w wg wb ks) := fun ρ M θ Q N s q =>
  Wp.chainS s.nM (h ρ M θ _ N s q) fun ds M1 us e r q => by
    subst r
    exact ss_each ks hg hb us ρ M1 θ Q N (s.eqv e) q
theorem ss_while {t : FT} {wt : Env → W Bool} (ks : List Nat) (ht : SB n t wt) (hb : SS n b wb) : ∀ k : Nat, SS n (sWhile t b k) (wWhile wt wb ks k)
  | 0, ρ, M, θ, Q, N, s, q => q.elim
  | k + 1, ρ, M, θ, Q, N, s, q => by
    unfold sWhile
    refine Wp.chainS s.nM (ht ρ M _ _ N (s.kill ks) q) fun c M1 c' e r q => ?_
    cases r
    have s' := (s.kill ks).eqv e
    cases c with
    | false => exact Wp.nowS s'.hd (fr_nx s') q
    | true =>
      rw [if_pos rfl] at q ⊢
      have h := hb ρ M1 _ _ N s' q
      cases e : b ρ M1 with
      | bad => rw [e] at h; exact h.elim
      | exn c fs M1 => rw [e] at h; exact h
      | ok fl M2 =>
        rw [e] at h
        obtain ⟨g1, wf, r, h⟩ := h
        rw [Out.bind_ok]
        cases fl with
        | nx ρ' =>
          cases wf with
          | nx θ' => exact Wp.trS g1 (ss_while ks ht hb k ρ' M2 θ' Q N r h)
          | _ => exact r.elim
        | ct ρ' =>
          cases wf with
          | ct θ' => exact Wp.trS g1 (ss_while ks ht hb k ρ' M2 θ' Q N r h)
          | _ => exact r.elim
        | bk ρ' =>
          cases wf with
          | bk θ' => exact ⟨g1, _, fr_nx (Sim.kill r ks), h⟩
          | _ => exact r.elim
        | rt d =>
          cases wf with
          | rt u => exact ⟨g1, _, r, h⟩
          | _ => exact r.elim
end
/-! ### a def -/
def wFin : WFl → W U
  | .rt u => ret u
  | .nx _ => ret .non
  | _ => fail
/-- nothing is raised -/
def noX {A : Type} (m : W A) : W A := fun Q _ => m Q fun _ _ => False
section
variable {A B : Type}
@[simp] theorem noX_ret (a : A) : noX (ret a) = ret a := rfl
@[simp] theorem noX_fail : noX (fail : W A) = fail := rfl
@[simp] theorem noX_raise (c : Value) (fs : Option (List (Str × D))) : noX (raise c fs : W A) = fail := rfl
@[simp] theorem noX_guard (p : Prop) (m : W A) : noX (guard p m) = guard p (noX m) := rfl
@[simp] theorem noX_pick (n : Int) : noX (pick n) = pick n := rfl
theorem noX_bind (m : W A) (k : A → W B) : noX (bind m k) = bind (noX m) fun a => noX (k a) := rfl
@[simp] theorem noX_ite (p : Prop) [Decidable p] (m m' : W A) : noX (if p then m else m') = if p then noX m else noX m' := by
  by_cases h : p <;> simp [h]
end
def wrun (ar nl : Nat) (w : WS) (xs : List X) : W U := if xs.length = ar then noX (bind (w (xs.map some ++ List.replicate (nl - xs.length) none)) wFin) else fail
/-- as wrun, and what is raised goes on -/
def wrunX (ar nl : Nat) (w : WS) (xs : List X) : W U := if xs.length = ar then bind (w (xs.map some ++ List.replicate (nl - xs.length) none)) wFin else fail
section
variable {M : PM}
theorem RXs.len {ds : List D} {xs : List X} (h : RXs M ds xs) : ds.length = xs.length := by
  induction h with
  | nil => rfl
  | cons _ _ ih => rw [List.length_cons, List.length_cons, ih]
theorem RXs.get {ds : List D} {xs : List X} (h : RXs M ds xs) : ∀ (i : Nat) (x : X), xs[i]? = some x → ∃ d, ds[i]? = some d ∧ RX M d x := by
  induction h with
  | nil => intro i x e; simp at e
  | cons r t ih =>
    intro i x e
    cases i with
    | zero => simp at e; subst e; exact ⟨_, rfl, r⟩
    | succ i => simp at e; obtain ⟨d, h1, h2⟩ := ih i x e; exact ⟨d, by simpa using h1, h2⟩
theorem lt_of_get {k : Nat} {mo : MO} (h : M[k]? = some mo) : k < M.length := (List.getElem?_eq_some_iff.mp h).1
theorem RX.rv {d : D} {x : X} (hd : Hd M) (h : RX M d x) : RV M.length M d x ∧ x.isOwn = false := by
  have hp := hd.pos
  cases x with
  | u u => exact ⟨h, rfl⟩
  | ext u =>
    refine ⟨⟨h, ?_⟩, rfl⟩
    rcases h with h | ⟨k, xs, h1, h2, h3, h4⟩
    · subst h; cases u <;> simp [U.d, below]
      exact hp
    · subst h2; exact lt_of_get h3
  | edct kvs =>
    obtain ⟨k, h1, h2, h3⟩ := h
    exact ⟨⟨⟨k, h1, h2, h3⟩, by subst h2; exact lt_of_get h3⟩, rfl⟩
  | own _ => exact h.elim
  | dct _ => exact h.elim
theorem sim0 {ds : List D} {xs : List X} {N : List Str} (hd : Hd M) (h : RXs M ds xs) : Sim M.length (rho0 N ds) M (xs.map some ++ List.replicate (N.length - xs.length) none) := by
  have hl := h.len
  have own : ∀ (i : Nat) (x : X), (xs.map some ++ List.replicate (N.length - xs.length) none)[i]? = some (some x) → ∃ d, (rho0 N ds)[i]? = some (some d) ∧ RV M.length M d x ∧ x.isOwn = false := fun i x e => by
    by_cases hi : i < xs.length
    · rw [List.getElem?_append_left (by simpa using hi), List.getElem?_map] at e
      obtain ⟨y, h1, h2⟩ := Option.map_eq_some_iff.mp e
      cases h2
      obtain ⟨d, h3, h4⟩ := h.get i _ h1
      exact ⟨d, by unfold rho0; rw [List.getElem?_append_left (by simp; omega), List.getElem?_map, h3]; rfl, h4.rv hd⟩
    · rw [List.getElem?_append_right (by simp; omega)] at e
      have := List.mem_of_getElem? e
      have := (List.mem_replicate.mp this).2
      cases this
  refine ⟨hd, hd.pos, Nat.le_refl _, by unfold rho0; simp [hl], fun i x e => ?_, fun i j k x y _ h1 _ h2 _ _ _ => ?_⟩
  · obtain ⟨d, h1, h2, _⟩ := own i x e
    exact ⟨d, h1, h2⟩
  · obtain ⟨d, _, _, h3⟩ := own i x h2
    rw [h3] at h1; cases h1
theorem take_eqv {M' : PM} (hd : Hd M) (g : Grow M.length M M') : Eqv M (M'.take M.length) ∧ (M'.take M.length).all (clMO M.length) = true := by
  have hp := hd.pos
  have hc : ∀ x ∈ M'.take M.length, clMO 1 x = true := fun x hx => List.all_eq_true.mp g.hd.cl x (List.mem_of_mem_take hx)
  refine ⟨⟨⟨?_, List.all_eq_true.mpr hc⟩, by have := g.len; simp; omega, fun k hk => ?_⟩, List.all_eq_true.mpr fun x hx => clMO_mono (by omega) x (hc x hx)⟩
  · obtain ⟨m, J, e1, hs⟩ := g.hd.st
    rw [e1]
    obtain ⟨j, hj⟩ : ∃ j, M.length = j + 1 := ⟨M.length - 1, by omega⟩
    rw [hj]
    exact ⟨m, J.take j, rfl, hs⟩
  · by_cases hk2 : k < M.length
    · rw [List.getElem?_take_of_lt hk2]; exact g.eq k hk hk2
    · rw [List.getElem?_eq_none (by rw [List.length_take]; omega), List.getElem?_eq_none (by omega)]
theorem fin_ok1 {M' : PM} {d : D} {u : U} {Q : U → Prop} {N : XQ} (hd : Hd M) (g : Grow M.length M M') (r : RO M.length M' d u) (q : Q u) : Wp (fin M.length d M') (Px M RP Q) (Nx M N) := by
  have hp := hd.pos
  obtain ⟨e, hc⟩ := take_eqv hd g
  unfold fin
  rw [if_pos ⟨g.len, hc⟩]
  rcases r with r | ⟨k, xs, h1, h2, h3, h4⟩
  · subst r
    rw [if_pos (clD_mono (by omega) _ (cl_d u))]
    exact ⟨e, u, rfl, q⟩
  · subst h2
    rw [if_neg (by simp only [clD, decide_eq_true_eq]; omega)]
    simp only [h3]
    rw [if_pos (clL_mono (by omega) _ (cl_dl xs))]
    exact ⟨e, .lst xs, rfl, by rw [← h4]; exact q⟩
theorem def_run {ar : Nat} {N : List Str} {g : FS} {w : WS} {nl : Nat} (hN : N.length = nl) (h : ∀ n, SS n g w) : DefS (Pd.run ar N g) (wrun ar nl w) := fun ds xs M Q X hd r q => by
  subst hN
  unfold wrun at q
  by_cases hl : xs.length = ar
  · rw [if_pos hl] at q
    have hh := h M.length _ M _ _ _ (sim0 (N := N) hd r) q
    unfold Pd.run
    rw [if_pos (by rw [r.len]; exact hl)]
    cases e : g (rho0 N ds) M with
    | bad => rw [e] at hh; exact hh.elim
    | exn c fs M1 => rw [e] at hh; exact hh.2.elim
    | ok fl M1 =>
      rw [e] at hh
      obtain ⟨g1, wf, r1, q1⟩ := hh
      cases fl with
      | nx ρ' =>
        cases wf with
        | nx θ' => exact fin_ok1 hd g1 (u := .non) (.inl rfl) q1
        | _ => exact r1.elim
      | rt d =>
        cases wf with
        | rt u => exact fin_ok1 hd g1 r1 q1
        | _ => exact r1.elim
      | bk ρ' =>
        cases wf with
        | bk θ' => exact q1.elim
        | _ => exact r1.elim
      | ct ρ' =>
        cases wf with
        | ct θ' => exact q1.elim
        | _ => exact r1.elim
  · rw [if_neg hl] at q; exact q.elim
end
end Pu

set_option Elab.async false
set_option linter.all false
set_option maxRecDepth 100000
set_option maxHeartbeats 1000000
namespace Pu
open PySem L2 Pd

/-! ### operators, by values -/
def uII (o : Int → Int → W U) : U → U → W U
  | .int i, .int j => o i j
  | _, _ => fail
def uAdd : U → U → W U
  | .int i, .int j => ret (.int (i + j))
  | .str x, .str y => guard (x.length + y.length ≤ 16777216) (ret (.str (x ++ y)))
  | .tup x, .tup y => guard (x.length + y.length ≤ 16777216) (ret (.tup (x ++ y)))
  | .lst x, .lst y => guard (x.length + y.length ≤ 16777216) (ret (.lst (x ++ y)))
  | _, _ => fail
def uSub : U → U → W U := uII fun i j => ret (.int (i - j))
def uMul : U → U → W U := uII fun i j => guard ((-18446744073709551616 < i ∧ i < 18446744073709551616) ∨ (-18446744073709551616 < j ∧ j < 18446744073709551616)) (ret (.int (i * j)))
def uFdiv : U → U → W U := uII fun i j => guard (j ≠ 0 ∧ j.natAbs < 1073741824) (ret (.int (i.fdiv j)))
def uMod : U → U → W U := uII fun i j => guard (j ≠ 0) (ret (.int (i.fmod j)))
def uPow : U → U → W U := uII fun i j => guard (0 ≤ j ∧ j ≤ 1000000 ∧ i.natAbs < 18446744073709551616) (ret (.int (i ^ j.toNat)))
def uLt : U → U → W U := uII fun i j => ret (.bl (decide (i < j)))
def uLe : U → U → W U := uII fun i j => ret (.bl (decide (i ≤ j)))
def uGt : U → U → W U := uII fun i j => ret (.bl (decide (j < i)))
def uGe : U → U → W U := uII fun i j => ret (.bl (decide (j ≤ i)))
def eqU : U → U → Option Bool
  | .int i, .int j => some (decide (i = j))
  | .str x, .str y => some (decide (x = y))
  | .bl b, .bl c => some (decide (b = c))
  | .non, .non => some true
  | .non, .int _ => some false | .int _, .non => some false
  | .non, .str _ => some false | .str _, .non => some false
  | .non, .bl _ => some false | .bl _, .non => some false
  | .int _, .str _ => some false | .str _, .int _ => some false
  | .bl _, .str _ => some false | .str _, .bl _ => some false
  | _, _ => none
def wo {A : Type} : Option A → W A
  | some a => ret a
  | none => fail
@[simp] theorem wo_some {A : Type} (a : A) : wo (some a) = ret a := rfl
@[simp] theorem wo_none {A : Type} : wo (none : Option A) = fail := rfl
def uEq : U → U → W U := fun a b => bind (wo (eqU a b)) fun r => ret (.bl r)
def uNe : U → U → W U := fun a b => bind (wo (eqU a b)) fun r => ret (.bl (!r))
def uIs : U → U → W U := fun a b => match b with
  | .non => (match a with | .non => ret (.bl true) | .ty _ => fail | _ => ret (.bl false))
  | _ => fail
def uIsNot : U → U → W U := fun a b => match b with
  | .non => (match a with | .non => ret (.bl false) | .ty _ => fail | _ => ret (.bl true))
  | _ => fail
def flatU : U → Bool
  | .non => true | .bl _ => true | .int _ => true | .str _ => true | _ => false
def eqUF : U → U → Bool
  | .non, .non => true
  | .bl a, .bl b => a == b
  | .bl a, .int b => (if a then 1 else 0) == b
  | .int a, .bl b => a == (if b then 1 else 0)
  | .int a, .int b => a == b
  | .str a, .str b => a == b
  | _, _ => false
def inU (x : U) (xs : List U) : Bool := xs.any fun y => eqUF y x
def uSeqO : U → Option (List U)
  | .lst xs => some xs
  | .tup xs => some xs
  | _ => none
def inUW (a b : U) : W Bool := bind (wo (uSeqO b)) fun xs => guard (flatU a = true ∧ xs.all flatU = true) (ret (inU a xs))
def uIn : U → U → W U := fun a b => match a, b with
  | .str ⟨⟨[c]⟩⟩, .str z => ret (.bl (decide (c ∈ z.cps.toList)))
  | a, b => bind (inUW a b) fun r => ret (.bl r)
def uNotIn : U → U → W U := fun a b => match a, b with
  | .str ⟨⟨[c]⟩⟩, .str z => ret (.bl (!decide (c ∈ z.cps.toList)))
  | a, b => bind (inUW a b) fun r => ret (.bl (!r))
def uAt (xs : List U) (i : Int) : W U := wo (atI xs i)
def uIx : U → U → W U := fun a b => match b with
  | .int i => (match a with
    | .str z => guard (z.length ≤ 16777216) (bind (wo (atI z.cps.toList i)) fun c => ret (.str ⟨#[c]⟩))
    | .lst xs => uAt xs i
    | .tup xs => uAt xs i
    | .rol ns => bind (wo (atI ns i)) fun i => ret (.int i)
    | _ => fail)
  | _ => fail
def cutU (xs : List U) (lo hi : Option Int) : List U := (xs.drop (HT.sIx xs.length 0 lo)).take (HT.sIx xs.length xs.length hi - HT.sIx xs.length 0 lo)
def uSl : U → Option Int → Option Int → W U := fun a lo hi => match a with
  | .str z => guard (z.length ≤ 16777216) (ret (.str (cutS z lo hi)))
  | .tup xs => ret (.tup (cutU xs lo hi))
  | .lst xs => ret (.lst (cutU xs lo hi))
  | _ => fail
def uNeg : U → W U
  | .int i => ret (.int (-i))
  | _ => fail
/-! built-ins -/
def uLen : List U → W U
  | [.str z] => guard (z.length ≤ 16777216) (ret (.int z.length))
  | [.lst xs] => ret (.int xs.length)
  | [.tup xs] => ret (.int xs.length)
  | [.rol ns] => ret (.int ns.length)
  | _ => fail
def uAbs : List U → W U
  | [.int i] => ret (.int (if i < 0 then -i else i))
  | _ => fail
def uInt : List U → W U
  | [.int i] => ret (.int i)
  | [.bl k] => ret (.int (if k then 1 else 0))
  | [.str z] => bind (wo (PySem.intText? z)) fun n => guard (z.length ≤ 640) (ret (.int n))
  | _ => fail
def uStr : List U → W U
  | [.int i] => guard (i.natAbs < 18446744073709551616) (ret (.str (toString i)))
  | [.str z] => ret (.str z)
  | _ => fail
def uTuple : List U → W U
  | [.tup xs] => ret (.tup xs)
  | [.lst xs] => ret (.tup xs)
  | _ => fail
def uList : List U → W U
  | [.tup xs] => ret (.lst xs)
  | [.lst xs] => ret (.lst xs)
  | _ => fail
def uMax2 : List U → W U
  | [.int i, .int j] => ret (.int (max i j))
  | _ => fail
def uMin2 : List U → W U
  | [.int i, .int j] => ret (.int (min i j))
  | _ => fail
def uGcd : List U → W U
  | [.int a, .int b] => ret (.int (gcdI a b))
  | [.int a, .int b, .int c] => ret (.int (gcdI (gcdI a b) c))
  | _ => fail
def tyU : U → Option String
  | .non => some "NoneType" | .bl _ => some "bool" | .int _ => some "int" | .str _ => some "str" | .tup _ => some "tuple" | .lst _ => some "list" | _ => none
def uIsi : List U → W U
  | [a, .ty n] => bind (wo (tyU a)) fun t => bind (wo (isiB t n)) fun r => ret (.bl r)
  | _ => fail
def intsU : List U → Option (List Int)
  | [] => some []
  | .int z :: r => (intsU r).map (z :: ·)
  | _ => none
def uListO : U → Option (List U)
  | .lst xs => some xs
  | _ => none
def uMaxL : List U → W U
  | [a] => bind (wo (uListO a)) fun xs => bind (wo (intsU xs)) fun ns => guard (ns ≠ []) (ret (.int (maxI ns)))
  | _ => fail
def uMinL : List U → W U
  | [a] => bind (wo (uListO a)) fun xs => bind (wo (intsU xs)) fun ns => guard (ns ≠ []) (ret (.int (minI ns)))
  | _ => fail
def uSum : List U → W U
  | [a] => bind (wo (uListO a)) fun xs => bind (wo (intsU xs)) fun ns => ret (.int ns.sum)
  | _ => fail
def strsU : List U → Option (List Str)
  | [] => some []
  | .str z :: r => (strsU r).map (z :: ·)
  | _ => none
def uSort : List U → W U
  | [a] => bind (wo (uListO a)) fun xs => match intsU xs with
    | some ns => ret (.lst ((sortI ns).map .int))
    | none => bind (wo (strsU xs)) fun zs => ret (.lst ((sortS zs).map .str))
  | _ => fail
def uSplit : U → U → W U
  | .str x, .str y => guard ((y.length == 0) = false ∧ x.length + 2 ≤ 16777216) (ret (.lst ((Txt.split x y).map .str)))
  | _, _ => fail
def uJoin : U → U → W U
  | .str x, b => bind (wo (uSeqO b)) fun xs => bind (wo (strsU xs)) fun ys => guard ((ys.map (·.length)).sum + ys.length * x.length ≤ 16777216) (ret (.str (Txt.join x ys)))
  | _, _ => fail
/-! ### they are so -/
section
theorem RL_int {M : PM} {d : D} {i : Int} (r : RL M d (.int i)) : d = .int i := RL_plain r fun _ h => by cases h
theorem RL_str {M : PM} {d : D} {z : Str} (r : RL M d (.str z)) : d = .str z := RL_plain r fun _ h => by cases h
theorem RL_tup {M : PM} {d : D} {xs : List U} (r : RL M d (.tup xs)) : d = .tup (U.dl xs) := RL_plain r fun _ h => by cases h
theorem RL_bl {M : PM} {d : D} {b : Bool} (r : RL M d (.bl b)) : d = .bl b := RL_plain r fun _ h => by cases h
theorem RL_non {M : PM} {d : D} (r : RL M d .non) : d = .non := RL_plain r fun _ h => by cases h
theorem RL_rol {M : PM} {d : D} {ns : List Int} (r : RL M d (.rol ns)) : d = .rol (ns.map .int) := RL_plain r fun _ h => by cases h
theorem RL_ty {M : PM} {d : D} {s : String} (r : RL M d (.ty s)) : d = .raw (.ty s) := RL_plain r fun _ h => by cases h
theorem RL_nl {M : PM} {d : D} {u : U} (r : RL M d u) (h : ∀ xs, u ≠ .lst xs) : d = u.d := RL_plain r h
theorem uII_ok {g : PM → D → D → Out D} {o : Int → Int → W U} (h : ∀ M i j Q N, o i j Q N → ∃ w : U, g M (.int i) (.int j) = .ok w.d M ∧ Q w) : OpU g (uII o) := fun M a b u v Q N ra rb q => by
  cases u with
  | int i =>
    cases v with
    | int j => rw [RL_int ra, RL_int rb]; exact h M i j Q N q
    | _ => exact q.elim
  | _ => exact q.elim
theorem ou_sub : OpU gSub uSub := uII_ok fun M i j Q N q => ⟨_, e_sub i j, q⟩
theorem ou_mul : OpU gMul uMul := uII_ok fun M i j Q N q => ⟨_, e_mul (by unfold cMul; simpa using q.1), q.2⟩
theorem e_fdivF {M : PM} {i j : Int} (h : j ≠ 0) (h' : j.natAbs < 1073741824) : gFdiv M (.int i) (.int j) = .ok (.int (i.fdiv j)) M := by
  by_cases hj : 0 < j
  · rw [e_fdiv ⟨hj, by omega⟩, Int.fdiv_eq_ediv_of_nonneg _ (by omega)]
  · unfold gFdiv
    rw [gor_bad]
    · exact gII_ok (C := cDivN) (by unfold cDivN; simp [h, h'])
    · show (if cDiv i j = true then _ else _) = _
      rw [if_neg]
      unfold cDiv
      simp; omega
theorem e_modF {M : PM} {i j : Int} (h : j ≠ 0) : gMod M (.int i) (.int j) = .ok (.int (i.fmod j)) M := by
  by_cases hj : 0 < j
  · rw [e_mod hj, Int.fmod_eq_emod_of_nonneg _ (by omega)]
  · unfold gMod
    rw [gor_bad]
    · exact gII_ok (C := cNe) (by unfold cNe; simp [h])
    · show (if cPos i j = true then _ else _) = _
      rw [if_neg]
      unfold cPos
      simp; omega
theorem ou_fdiv : OpU gFdiv uFdiv := uII_ok fun M i j Q N q => ⟨_, e_fdivF q.1.1 q.1.2, q.2⟩
theorem ou_mod : OpU gMod uMod := uII_ok fun M i j Q N q => ⟨_, e_modF q.1, q.2⟩
theorem ou_pow : OpU gPow uPow := uII_ok fun M i j Q N q => ⟨.int (i ^ j.toNat), gII_ok (C := cPow) (h := fun i j => .int (i ^ j.toNat)) (by unfold cPow; simp [q.1.1, q.1.2.1, q.1.2.2]), q.2⟩
theorem ou_lt : OpU gLt uLt := uII_ok fun M i j Q N q => ⟨.bl (decide (i < j)), rfl, q⟩
theorem ou_le : OpU gLe uLe := uII_ok fun M i j Q N q => ⟨.bl (decide (i ≤ j)), rfl, q⟩
theorem ou_gt : OpU gGt uGt := uII_ok fun M i j Q N q => ⟨.bl (decide (j < i)), rfl, q⟩
theorem ou_ge : OpU gGe uGe := uII_ok fun M i j Q N q => ⟨.bl (decide (j ≤ i)), rfl, q⟩
theorem gor_ok' {g g' : PM → D → D → Out D} {M : PM} {a b d : D} {M' : PM} (h : g M a b = .bad) (h' : g' M a b = .ok d M') : gor g g' M a b = .ok d M' := by rw [gor_bad h, h']
theorem ou_add : OpU gAdd uAdd := fun M a b u v Q N ra rb q => by
  cases u with
  | int i =>
    cases v with
    | int j => rw [RL_int ra, RL_int rb]; exact ⟨_, e_add i j, q⟩
    | _ => exact q.elim
  | str x =>
    cases v with
    | str y =>
      rw [RL_str ra, RL_str rb]
      refine ⟨.str (x ++ y), ?_, q.2⟩
      refine gor_ok' rfl (gor_ok ?_)
      show (if x.length + y.length ≤ line then _ else _) = _
      rw [if_pos q.1]; rfl
    | _ => exact q.elim
  | tup x =>
    cases v with
    | tup y =>
      rw [RL_tup ra, RL_tup rb]
      refine ⟨.tup (x ++ y), ?_, q.2⟩
      refine gor_ok' rfl (gor_ok' rfl (gor_ok ?_))
      show (if (U.dl x).length + (U.dl y).length ≤ line then _ else _) = _
      rw [dl_len, dl_len, if_pos q.1, U.d, dl_app]
    | _ => exact q.elim
  | lst x =>
    cases v with
    | lst y =>
      refine ⟨.lst (x ++ y), ?_, q.2⟩
      have e : gAddL M a b = .ok (.lst (U.dl (x ++ y))) M := by
        unfold gAddL
        simp only [RL_lst ra, RL_lst rb]
        rw [dl_len, dl_len, if_pos q.1, dl_app]
      have hb : gII cTrue (fun i j => D.int (i + j)) M a b = .bad ∧ gAddS M a b = .bad ∧ gAddT M a b = .bad := by
        have : (∃ l, a = .lst l) ∨ ∃ k, a = .adr k := by
          rcases ra with ra | ⟨k, _, _, h, _⟩
          · exact .inl ⟨_, ra⟩
          · exact .inr ⟨_, h⟩
        rcases this with ⟨l, rfl⟩ | ⟨k, rfl⟩ <;> exact ⟨rfl, rfl, rfl⟩
      exact gor_ok' hb.1 (gor_ok' hb.2.1 (gor_ok' hb.2.2 e))
    | _ => exact q.elim
  | _ => exact q.elim
theorem wo_ok {A : Type} {o : Option A} {Q : A → Prop} {N : XQ} (h : wo o Q N) : ∃ a, o = some a ∧ Q a := by
  cases o with
  | none => exact h.elim
  | some a => exact ⟨a, rfl, h⟩
theorem eq_ok {M : PM} {a b : D} {u v : U} {r : Bool} (ra : RL M a u) (rb : RL M b v) (e : eqU u v = some r) : eqS a b = some r := by
  cases u <;> cases v <;> first
    | (cases e; done)
    | (rw [RL_nl ra (by intro _ h; cases h), RL_nl rb (by intro _ h; cases h)]; exact e)
theorem ou_eq : OpU gEq uEq := fun M a b u v Q N ra rb q => by
  obtain ⟨r, e, q⟩ := wo_ok q
  refine ⟨.bl r, ?_, q⟩
  unfold gEq
  rw [eq_ok ra rb e]; rfl
theorem ou_ne : OpU gNe uNe := fun M a b u v Q N ra rb q => by
  obtain ⟨r, e, q⟩ := wo_ok q
  refine ⟨.bl (!r), ?_, q⟩
  unfold gNe
  rw [eq_ok ra rb e]; rfl
theorem ou_is : OpU gIs' uIs := fun M a b u v Q N ra rb q => by
  cases v with
  | non =>
    rw [RL_non rb]
    cases u with
    | non => rw [RL_non ra]; exact ⟨.bl true, rfl, q⟩
    | bl b => rw [RL_bl ra]; exact ⟨.bl false, rfl, q⟩
    | int b => rw [RL_int ra]; exact ⟨.bl false, rfl, q⟩
    | str b => rw [RL_str ra]; exact ⟨.bl false, rfl, q⟩
    | tup b => rw [RL_tup ra]; exact ⟨.bl false, rfl, q⟩
    | rol b => rw [RL_rol ra]; exact ⟨.bl false, rfl, q⟩
    | st => rw [RL_nl ra (by intro _ h; cases h)]; exact ⟨.bl false, rfl, q⟩
    | lst b =>
      rcases ra with ra | ⟨k, _, _, h, _⟩
      · subst ra; exact ⟨.bl false, rfl, q⟩
      · subst h; exact ⟨.bl false, rfl, q⟩
    | ty b => exact q.elim
  | _ => exact q.elim
theorem ou_isNot : OpU gIsNot' uIsNot := fun M a b u v Q N ra rb q => by
  cases v with
  | non =>
    rw [RL_non rb]
    cases u with
    | non => rw [RL_non ra]; exact ⟨.bl false, rfl, q⟩
    | bl b => rw [RL_bl ra]; exact ⟨.bl true, rfl, q⟩
    | int b => rw [RL_int ra]; exact ⟨.bl true, rfl, q⟩
    | str b => rw [RL_str ra]; exact ⟨.bl true, rfl, q⟩
    | tup b => rw [RL_tup ra]; exact ⟨.bl true, rfl, q⟩
    | rol b => rw [RL_rol ra]; exact ⟨.bl true, rfl, q⟩
    | st => rw [RL_nl ra (by intro _ h; cases h)]; exact ⟨.bl true, rfl, q⟩
    | lst b =>
      rcases ra with ra | ⟨k, _, _, h, _⟩
      · subst ra; exact ⟨.bl true, rfl, q⟩
      · subst h; exact ⟨.bl true, rfl, q⟩
    | ty b => exact q.elim
  | _ => exact q.elim
theorem flat_d (u : U) (h : flatU u = true) : flatD u.d = true := by cases u <;> first | rfl | cases h
theorem flat_dl : ∀ xs : List U, xs.all flatU = true → (U.dl xs).all flatD = true
  | [], _ => rfl
  | x :: xs, h => by
    rw [List.all_cons, Bool.and_eq_true] at h
    rw [U.dl, List.all_cons, flat_d x h.1, flat_dl xs h.2]; rfl
theorem eqF_d {u v : U} (h : flatU u = true) (h' : flatU v = true) : eqF u.d v.d = eqUF u v := by
  cases u <;> cases v <;> first | rfl | (cases h; done) | (cases h'; done)
theorem inF_d {a : U} (h : flatU a = true) : ∀ xs : List U, xs.all flatU = true → inF a.d (U.dl xs) = inU a xs
  | [], _ => rfl
  | x :: xs, hx => by
    rw [List.all_cons, Bool.and_eq_true] at hx
    have := inF_d h xs hx.2
    unfold inF inU at this ⊢
    rw [U.dl, List.any_cons, List.any_cons, this, eqF_d hx.1 h]
theorem RL_seqO {M : PM} {d : D} {u : U} {xs : List U} (r : RL M d u) (h : uSeqO u = some xs) : seqOf M d = some (U.dl xs) := by
  cases u with
  | lst ys => cases h; exact RL_seqL r
  | tup ys => cases h; rw [RL_tup r]; rfl
  | _ => cases h
theorem in_ok {M : PM} {a b : D} {u v : U} {Q : Bool → Prop} {N : XQ} (ra : RL M a u) (rb : RL M b v) (q : inUW u v Q N) : ∃ r ds, seqOf M b = some ds ∧ (flatD a && ds.all flatD) = true ∧ inF a ds = r ∧ Q r ∧ (∀ z, b ≠ .str z) := by
  unfold inUW at q
  obtain ⟨xs, e, q⟩ := wo_ok q
  obtain ⟨⟨h1, h2⟩, q⟩ := q
  have ea : a = u.d := RL_plain ra fun ys z => by subst z; cases h1
  subst ea
  refine ⟨inU u xs, _, RL_seqO rb e, by rw [flat_d u h1, flat_dl xs h2]; rfl, inF_d h1 xs h2, q, fun z hz => ?_⟩
  subst hz
  cases v with
  | lst ys => rcases rb with rb | ⟨k, _, _, h, _⟩ <;> cases ‹D.str z = _›
  | tup ys => cases RL_tup rb
  | _ => cases e
theorem gInS_bad {M : PM} {a b : D} (h : ∀ z, b ≠ .str z) : gInS M a b = .bad := by
  unfold gInS
  split
  · exact absurd rfl (h _)
  · rfl
theorem gNotInS_bad {M : PM} {a b : D} (h : ∀ z, b ≠ .str z) : gNotInS M a b = .bad := by
  unfold gNotInS
  split
  · exact absurd rfl (h _)
  · rfl
theorem ou_in : OpU gIn uIn := fun M a b u v Q N ra rb q => by
  unfold uIn at q
  split at q
  · rename_i c z
    rw [RL_str ra, RL_str rb]
    exact ⟨_, gor_ok (g := gInS) rfl, q⟩
  · obtain ⟨r, ds, h1, h2, h3, q, h4⟩ := in_ok ra rb q
    refine ⟨.bl r, gor_ok' (gInS_bad h4) ?_, q⟩
    unfold gInL
    simp only [h1, h2, if_true, h3]; rfl
theorem ou_notIn : OpU gNotIn uNotIn := fun M a b u v Q N ra rb q => by
  unfold uNotIn at q
  split at q
  · rename_i c z
    rw [RL_str ra, RL_str rb]
    exact ⟨_, gor_ok (g := gNotInS) rfl, q⟩
  · obtain ⟨r, ds, h1, h2, h3, q, h4⟩ := in_ok ra rb q
    refine ⟨.bl (!r), gor_ok' (gNotInS_bad h4) ?_, q⟩
    unfold gNotInL
    simp only [h1, h2, if_true, h3]; rfl
theorem atI_map {A B : Type} (f : A → B) (xs : List A) (i : Int) : atI (xs.map f) i = (atI xs i).map f := by
  unfold atI
  rw [List.length_map]
  cases ixN xs.length i with
  | none => rfl
  | some j => simp
theorem atI_dl (xs : List U) (i : Int) : atI (U.dl xs) i = (atI xs i).map U.d := by rw [dl_map, atI_map]
theorem ix_seq {M : PM} {a : D} {xs : List U} {i : Int} {u : U} (h : seqOf M a = some (U.dl xs)) (e : atI xs i = some u) : gIx M a (.int i) = .ok u.d M := gIx_seq h (by rw [atI_dl, e]; rfl)
theorem ou_ix : OpU gIx uIx := fun M a b u v Q N ra rb q => by
  cases v with
  | int i =>
    rw [RL_int rb]
    cases u with
    | str z =>
      rw [RL_str ra]
      obtain ⟨hl, q⟩ := q
      obtain ⟨c, e, q⟩ := wo_ok q
      refine ⟨.str ⟨#[c]⟩, ?_, q⟩
      show (if z.length ≤ line then _ else _) = _
      rw [if_pos hl]
      simp only [e]; rfl
    | lst xs =>
      obtain ⟨w, e, q⟩ := wo_ok q
      exact ⟨w, ix_seq (RL_seqL ra) e, q⟩
    | tup xs =>
      obtain ⟨w, e, q⟩ := wo_ok q
      rw [RL_tup ra]
      exact ⟨w, ix_seq rfl e, q⟩
    | rol ns =>
      obtain ⟨w, e, q⟩ := wo_ok q
      rw [RL_rol ra]
      exact ⟨.int w, gIx_seq rfl (by rw [atI_map, e]; rfl), q⟩
    | _ => exact q.elim
  | _ => exact q.elim
theorem cut_dl (xs : List U) (lo hi : Option Int) : cutD (U.dl xs) lo hi = U.dl (cutU xs lo hi) := by
  unfold cutD cutU
  rw [dl_len, dl_map, dl_map, List.map_take, List.map_drop]
theorem su_sl : SlU gSl uSl := fun M a u lo hi Q N ra q => by
  cases u with
  | str z =>
    rw [RL_str ra]
    refine ⟨.str (cutS z lo hi), ?_, q.2⟩
    show (if z.length ≤ line then _ else _) = _
    rw [if_pos q.1]; rfl
  | tup xs =>
    rw [RL_tup ra]
    exact ⟨.tup (cutU xs lo hi), by rw [U.d, ← cut_dl]; rfl, q⟩
  | lst xs =>
    refine ⟨.lst (cutU xs lo hi), ?_, q⟩
    rw [U.d, ← cut_dl]
    rcases ra with ra | ⟨k, ys, h1, h2, h3, h4⟩
    · subst ra; rfl
    · subst h2; cases h4
      unfold gSl
      simp only [seqOf, h3]
  | _ => exact q.elim
theorem nu_neg : UnU gNeg uNeg := fun M a u Q N ra q => by
  cases u with
  | int i => rw [RL_int ra]; exact ⟨.int (-i), rfl, q⟩
  | _ => exact q.elim
theorem one_of {M : PM} {as : List D} {u : U} (r : RLs M as [u]) : ∃ a, as = [a] ∧ RL M a u := by
  cases r with
  | cons r t => cases t; exact ⟨_, rfl, r⟩
theorem two_of {M : PM} {as : List D} {u v : U} (r : RLs M as [u, v]) : ∃ a b, as = [a, b] ∧ RL M a u ∧ RL M b v := by
  cases r with
  | cons r t =>
    obtain ⟨b, rfl, h⟩ := one_of t
    exact ⟨_, b, rfl, r, h⟩
theorem three_of {M : PM} {as : List D} {u v w : U} (r : RLs M as [u, v, w]) : ∃ a b c, as = [a, b, c] ∧ RL M a u ∧ RL M b v ∧ RL M c w := by
  cases r with
  | cons r t =>
    obtain ⟨b, c, rfl, h⟩ := two_of t
    exact ⟨_, b, c, rfl, r, h⟩
theorem bu_len : BU bLen uLen := fun M as us Q N r q => by
  unfold uLen at q
  split at q
  · obtain ⟨a, rfl, h⟩ := one_of r
    rw [RL_str h]
    refine ⟨_, ?_, q.2⟩
    exact (if_pos (t := Out.ok (D.int _) M) (e := Out.bad) q.1)
  · obtain ⟨a, rfl, h⟩ := one_of r
    exact ⟨_, by rw [e_len (RL_seqL h), dl_len]; rfl, q⟩
  · obtain ⟨a, rfl, h⟩ := one_of r
    rw [RL_tup h]
    exact ⟨_, by rw [e_len rfl, dl_len]; rfl, q⟩
  · obtain ⟨a, rfl, h⟩ := one_of r
    rw [RL_rol h]
    exact ⟨_, by rw [e_len rfl, List.length_map]; rfl, q⟩
  · exact q.elim
theorem bu_abs : BU bAbs uAbs := fun M as us Q N r q => by
  unfold uAbs at q
  split at q
  · obtain ⟨a, rfl, h⟩ := one_of r
    rw [RL_int h]
    exact ⟨_, rfl, q⟩
  · exact q.elim
theorem bu_int : BU bInt uInt := fun M as us Q N r q => by
  unfold uInt at q
  split at q
  · obtain ⟨a, rfl, h⟩ := one_of r
    rw [RL_int h]
    exact ⟨_, rfl, q⟩
  · obtain ⟨a, rfl, h⟩ := one_of r
    rw [RL_bl h]
    exact ⟨_, rfl, q⟩
  · obtain ⟨a, rfl, h⟩ := one_of r
    rw [RL_str h]
    obtain ⟨n, e, hl, q⟩ := wo_ok q
    refine ⟨.int n, ?_, q⟩
    unfold bInt
    simp only [e]
    rw [if_pos hl]; rfl
  · exact q.elim
theorem bu_str : BU bStr uStr := fun M as us Q N r q => by
  unfold uStr at q
  split at q
  · obtain ⟨a, rfl, h⟩ := one_of r
    rw [RL_int h]
    refine ⟨_, ?_, q.2⟩
    exact (if_pos (t := Out.ok (D.str _) M) (e := Out.bad) q.1)
  · obtain ⟨a, rfl, h⟩ := one_of r
    rw [RL_str h]
    exact ⟨_, rfl, q⟩
  · exact q.elim
theorem bu_tuple : BU bTuple uTuple := fun M as us Q N r q => by
  unfold uTuple at q
  split at q
  · obtain ⟨a, rfl, h⟩ := one_of r
    rw [RL_tup h]
    exact ⟨_, rfl, q⟩
  · rename_i xs
    obtain ⟨a, rfl, h⟩ := one_of r
    refine ⟨.tup xs, ?_, q⟩
    rcases h with h | ⟨k, ys, h1, h2, h3, h4⟩
    · subst h; rfl
    · subst h2; cases h4
      unfold bTuple
      simp only [seqOf, h3]; rfl
  · exact q.elim
theorem bu_list : BU bList uList := fun M as us Q N r q => by
  unfold uList at q
  split at q
  · obtain ⟨a, rfl, h⟩ := one_of r
    rw [RL_tup h]
    exact ⟨_, rfl, q⟩
  · rename_i xs
    obtain ⟨a, rfl, h⟩ := one_of r
    refine ⟨.lst xs, ?_, q⟩
    unfold bList
    simp only [RL_seqL h]; rfl
  · exact q.elim
theorem bu_max2 : BU bMax2 uMax2 := fun M as us Q N r q => by
  unfold uMax2 at q
  split at q
  · rename_i i j
    obtain ⟨a, b, rfl, h, h'⟩ := two_of r
    rw [RL_int h, RL_int h']
    refine ⟨.int (max i j), ?_, q⟩
    show Out.ok (D.int (if j > i then j else i)) M = _
    rw [U.d]
    congr 2
    split <;> omega
  · exact q.elim
theorem bu_min2 : BU bMin2 uMin2 := fun M as us Q N r q => by
  unfold uMin2 at q
  split at q
  · rename_i i j
    obtain ⟨a, b, rfl, h, h'⟩ := two_of r
    rw [RL_int h, RL_int h']
    refine ⟨.int (min i j), ?_, q⟩
    show Out.ok (D.int (if j < i then j else i)) M = _
    rw [U.d]
    congr 2
    split <;> omega
  · exact q.elim
theorem bu_gcd : BU bGcd uGcd := fun M as us Q N r q => by
  unfold uGcd at q
  split at q
  · obtain ⟨a, b, rfl, h, h'⟩ := two_of r
    rw [RL_int h, RL_int h']
    exact ⟨_, rfl, q⟩
  · obtain ⟨a, b, c, rfl, h, h', h''⟩ := three_of r
    rw [RL_int h, RL_int h', RL_int h'']
    exact ⟨_, rfl, q⟩
  · exact q.elim
theorem RL_tyD {M : PM} {d : D} {u : U} {t : String} (r : RL M d u) (hp : ∀ k, d ≠ .adr k) (e : tyU u = some t) : tyD d = some t := by
  rcases r with r | ⟨k, _, _, h, _⟩
  · subst r
    cases u <;> first | exact e | cases e
  · exact absurd h (hp k)
theorem intL_d : ∀ {xs : List U} {ns : List Int}, intsU xs = some ns → intL (U.dl xs) = some ns
  | [], ns, h => h
  | .int z :: r, ns, h => by
    simp only [intsU, Option.map_eq_some_iff] at h
    obtain ⟨m, h1, h2⟩ := h
    simp only [U.dl, U.d, intL, intL_d h1, Option.map_some, h2]
theorem strL_d : ∀ {xs : List U} {ns : List Str}, strsU xs = some ns → strL (U.dl xs) = some ns
  | [], ns, h => h
  | .str z :: r, ns, h => by
    simp only [strsU, Option.map_eq_some_iff] at h
    obtain ⟨m, h1, h2⟩ := h
    simp only [U.dl, U.d, strL, strL_d h1, Option.map_some, h2]
theorem RL_listO {M : PM} {d : D} {u : U} {xs : List U} (r : RL M d u) (h : uListO u = some xs) : Pd.listOf M d = some (U.dl xs) := by
  cases u with
  | lst ys => cases h; exact RL_listOf r
  | _ => cases h
theorem bu_maxL : BU bMaxL uMaxL := fun M as us Q N r q => by
  unfold uMaxL at q
  split at q
  · obtain ⟨a, rfl, h⟩ := one_of r
    obtain ⟨xs, e1, q⟩ := wo_ok q
    obtain ⟨ns, e2, hn, q⟩ := wo_ok q
    refine ⟨_, ?_, q⟩
    unfold bMaxL bInts
    simp only [RL_listO h e1, intL_d e2]
    rw [if_pos (by cases ns <;> simp at hn ⊢)]; rfl
  · exact q.elim
theorem bu_minL : BU bMinL uMinL := fun M as us Q N r q => by
  unfold uMinL at q
  split at q
  · obtain ⟨a, rfl, h⟩ := one_of r
    obtain ⟨xs, e1, q⟩ := wo_ok q
    obtain ⟨ns, e2, hn, q⟩ := wo_ok q
    refine ⟨_, ?_, q⟩
    unfold bMinL bInts
    simp only [RL_listO h e1, intL_d e2]
    rw [if_pos (by cases ns <;> simp at hn ⊢)]; rfl
  · exact q.elim
theorem bu_sum : BU bSum uSum := fun M as us Q N r q => by
  unfold uSum at q
  split at q
  · obtain ⟨a, rfl, h⟩ := one_of r
    obtain ⟨xs, e1, q⟩ := wo_ok q
    obtain ⟨ns, e2, q⟩ := wo_ok q
    refine ⟨_, ?_, q⟩
    unfold bSum bInts
    simp only [RL_listO h e1, intL_d e2, if_true]; rfl
  · exact q.elim
theorem dl_strs (zs : List Str) : U.dl (zs.map .str) = zs.map .str := by
  rw [dl_map, List.map_map]; rfl
theorem intL_none {xs : List U} (h : intsU xs = none) : intL (U.dl xs) = none := by
  induction xs with
  | nil => cases h
  | cons x xs ih =>
    cases x with
    | int z =>
      simp only [intsU, Option.map_eq_none_iff] at h
      simp only [U.dl, U.d, intL, ih h, Option.map_none]
    | _ => rfl
theorem bu_sort : BU bSort uSort := fun M as us Q N r q => by
  unfold uSort at q
  split at q
  · obtain ⟨a, rfl, h⟩ := one_of r
    obtain ⟨xs, e1, q⟩ := wo_ok q
    cases e2 : intsU xs with
    | some ns =>
      simp only [e2] at q
      refine ⟨_, ?_, q⟩
      have e : bSortI M [a] = .ok (.lst ((sortI ns).map .int)) M := by
        unfold bSortI bInts
        simp only [RL_listO h e1, intL_d e2, if_true]
      unfold bSort
      rw [e, U.d, dl_ints]
    | none =>
      simp only [e2] at q
      obtain ⟨zs, e3, q⟩ := wo_ok q
      refine ⟨_, ?_, q⟩
      have e : bSortI M [a] = .bad := by
        unfold bSortI bInts
        simp only [RL_listO h e1, intL_none e2]
      unfold bSort
      rw [e, U.d, dl_strs]
      unfold bSortS
      simp only [RL_listO h e1, strL_d e3]
  · exact q.elim
end
end Pu

set_option Elab.async false
set_option linter.all false
set_option maxRecDepth 100000
set_option maxHeartbeats 1000000
namespace Pu
open PySem L2 Pd

/-! ### isinstance -/
def tyP : U → Option String
  | .non => some "NoneType" | .bl _ => some "bool" | .int _ => some "int" | .str _ => some "str" | .tup _ => some "tuple" | _ => none
def uIsiP : List U → W U
  | [a, .ty n] => bind (wo (tyP a)) fun t => bind (wo (isiB t n)) fun r => ret (.bl r)
  | _ => fail
theorem bu_isi : BU bIsi uIsiP := fun M as us Q N r q => by
  unfold uIsiP at q
  split at q
  · rename_i a n
    obtain ⟨x, y, rfl, h, h'⟩ := two_of r
    obtain ⟨t, e1, q⟩ := wo_ok q
    obtain ⟨b, e2, q⟩ := wo_ok q
    rw [RL_ty h', RL_nl h (by intro _ z; subst z; cases e1)]
    have e3 : tyD a.d = some t := by cases a <;> first | exact e1 | cases e1
    refine ⟨.bl b, ?_, q⟩
    unfold bIsi
    simp only [e3, e2]; rfl
  · exact q.elim
/-! ### what is drawn -/
def W_next : List X → W U
  | [.u .st, .u (.rol _), .u (.int many)] => pick many
  | _ => fail
theorem rxs3 {M : PM} {ds : List D} {a b c : X} (r : RXs M ds [a, b, c]) : ∃ x y z, ds = [x, y, z] ∧ RX M x a ∧ RX M y b ∧ RX M z c := by
  cases r with
  | cons r t => cases t with
    | cons r2 t => cases t with
      | cons r3 t => cases t; exact ⟨_, _, _, rfl, r, r2, r3⟩
theorem def_next {N : List Str} (hN : N.length = 5) : DefS (Pd.run 3 N gNext) W_next := fun ds xs M Q X hd r q => by
  unfold W_next at q
  split at q
  · rename_i ns many
    obtain ⟨x, y, z, rfl, h1, h2, h3⟩ := rxs3 r
    cases h1; cases h2; cases h3
    obtain ⟨m, J, rfl, hs⟩ := hd.st
    have hw : WfM (m :: J) := List.all_eq_true.mpr fun x hx => clMO_mono (by simp) x (List.all_eq_true.mp hd.cl x hx)
    obtain ⟨v, m', e, h0, h1, h2⟩ := next_ok (M := m :: J) (i := 0) (ns := ns) hN hw (by simp) q.1 hs
    have e0 : Pd.run 3 N gNext [U.st.d, (U.rol ns).d, (U.int many).d] (m :: J) = .ok (.int v) (m' :: J) := e
    rw [e0]
    refine ⟨⟨⟨⟨m', J, rfl, h2⟩, ?_⟩, rfl, fun k hk => ?_⟩, .int v, rfl, q.2 v h0 h1⟩
    · have := hd.cl
      rw [List.all_cons, Bool.and_eq_true] at this
      rw [List.all_cons, this.2, h2.cl]; rfl
    · obtain ⟨j, rfl⟩ : ∃ j, k = j + 1 := ⟨k - 1, by omega⟩
      rfl
  · exact q.elim
/-! ### a law -/
theorem law_end {N : List Str} {nl : Nat} {f : FA} {ds : List D} {g : FS} {w : WS} {ns : List Int} (hN : N.length = nl + 2) (hf : f (rho0 N [.rol (ns.map .int)]) [] = .ok ds []) (hd : ds.length ≤ 16777216) (hs : Rst (.lst ds)) (hc : clMO 1 (.lst ds) = true)
    (h : ∀ n, SS n g w) (q : w (some (.u (.rol ns)) :: some (.u .st) :: List.replicate nl none) (fun wf => wf = .rt (.bl true)) (fun _ _ => False)) :
    ∃ M, Pd.run 1 N (sSeq (sAsg (pNew f) (fName 1)) g) [.rol (ns.map .int)] [] = .ok (.bl true) M := by
  have hp : (sAsg (pNew f) (fName 1)) (rho0 N [.rol (ns.map .int)]) [] = .ok (.nx (some (.rol (ns.map .int)) :: some (.adr 0) :: List.replicate nl none)) [.lst ds] := by
    unfold sAsg pNew
    rw [hf, Out.bind_ok, if_pos hd, Out.bind_ok]
    unfold fName rho0
    rw [hN]
    rfl
  have s : Sim 1 (some (.rol (ns.map .int)) :: some (.adr 0) :: List.replicate nl none) [.lst ds] (some (.u (.rol ns)) :: some (.u .st) :: List.replicate nl none) := by
    refine ⟨⟨⟨_, [], rfl, hs⟩, by simp [hc]⟩, Nat.le_refl _, by simp, by simp, fun i x e => ?_, fun i j k x y _ h1 _ h2 _ _ _ => ?_⟩
    · match i, e with
      | 0, e => cases e; exact ⟨_, rfl, rfl⟩
      | 1, e => cases e; exact ⟨_, rfl, rfl⟩
      | i + 2, e =>
        have e' : (List.replicate nl (none : Option X))[i]? = some (some x) := e
        have := (List.mem_replicate.mp (List.mem_of_getElem? e')).2
        cases this
    · match i, h2 with
      | 0, h2 => cases h2; cases h1
      | 1, h2 => cases h2; cases h1
      | i + 2, h2 =>
        have e' : (List.replicate nl (none : Option X))[i]? = some (some x) := h2
        have := (List.mem_replicate.mp (List.mem_of_getElem? e')).2
        cases this
  have hh := h 1 _ _ _ _ _ s q
  unfold Pd.run
  simp only [List.length_singleton, if_true]
  unfold sSeq
  rw [hp, Out.bind_ok]
  simp only
  cases e : g (some (.rol (ns.map .int)) :: some (.adr 0) :: List.replicate nl none) [.lst ds] with
  | bad => rw [e] at hh; exact hh.elim
  | exn c fs M1 => rw [e] at hh; exact hh.2.elim
  | ok fl M1 =>
    rw [e] at hh
    obtain ⟨g1, wf, r, q⟩ := hh
    subst q
    cases fl with
    | rt d =>
      have hd : d = .bl true := by
        rcases r with r | ⟨_, _, _, _, _, z⟩
        · exact r
        · cases z
      subst hd
      exact ⟨[], rfl⟩
    | _ => exact r.elim
end Pu

set_option Elab.async false
set_option linter.all false
set_option maxRecDepth 100000
set_option maxHeartbeats 1000000
namespace Pd
open PySem L2
/-! ### is True, is False -/
def gIsB : PM → D → D → Out D := fun M a b => match a, b with
  | .bl x, .bl y => .ok (.bl (decide (x = y))) M
  | _, _ => .bad
def gIsNotB : PM → D → D → Out D := fun M a b => match a, b with
  | .bl x, .bl y => .ok (.bl (!decide (x = y))) M
  | _, _ => .bad
def gIs2 : PM → D → D → Out D := gor gIs' gIsB
def gIsNot2 : PM → D → D → Out D := gor gIsNot' gIsNotB
section
variable {K : PySem.W.Frag} {E : XK} {X : Cx}
theorem od_isB : OpD K E rIsB gIsB := fun α H M a b x y Q w ra rb q => by
  unfold gIsB at q
  split at q
  · cases ra
    cases rb
    exact ⟨_, _, rfl, rfl, q.now w (.bl _)⟩
  · exact q.elim
theorem od_isNotB : OpD K E rNotB gIsNotB := fun α H M a b x y Q w ra rb q => by
  unfold gIsNotB at q
  split at q
  · cases ra
    cases rb
    exact ⟨_, _, rfl, rfl, q.now w (.bl _)⟩
  · exact q.elim
theorem o_is2 : Op2 X E (compareOp .Is) gIs2 := ⟨_, op_isN1.or op_isBl, od_is.or od_isB⟩
theorem o_isNot2 : Op2 X E (compareOp .IsNot) gIsNot2 := ⟨_, op_notN1.or op_notBl, od_isNot.or od_isNotB⟩
/-! ### list(e), a new list that is to change -/
def bListN : PM → List D → Out D := fun M as => match as with
  | [a] => match seqOf M a with | some ds => .ok (.adr M.length) (M ++ [.lst ds]) | none => .bad
  | _ => .bad
theorem cd_listN : CbD K E (fun xs H Q => ∃ p ys, xs = [.ref p] ∧ (SqL K H p ys ∨ SqT K H p ys) ∧ ∀ l, H l = none → Q (.ref l) (upd H l (.lst ys))) bListN := fun α H M as xs Q w ra q => by
  unfold bListN at q
  split at q
  · obtain ⟨x, rfl, r⟩ := rep1 ra
    split at q
    · rename_i ds hd
      obtain ⟨p, xs, rfl, hs, rs⟩ := seq_ok w r hd
      refine ⟨p, xs, rfl, hs, fun l hl => ?_⟩
      obtain ⟨w2, s2⟩ := w.new (m := .lst ds) (o := .lst xs) hl fun H' st e => ⟨_, e, RepL.step st _ _ rs⟩
      exact q _ _ _ s2 w2 (.adr (by rw [← w.len, List.getElem?_append_right (Nat.le_refl _), Nat.sub_self]; rfl))
    · exact q.elim
  · exact q.elim
theorem b_listN : Blt X E (.type "list") bListN := ⟨_, call_list_of, cd_listN⟩
end
end Pd
namespace Pu
open PySem L2 Pd
theorem ou_is2 : OpU gIs2 uIs := fun M a b u v Q N ra rb q => by
  obtain ⟨w, e, q⟩ := ou_is M a b u v Q N ra rb q
  exact ⟨w, gor_ok e, q⟩
theorem ou_isNot2 : OpU gIsNot2 uIsNot := fun M a b u v Q N ra rb q => by
  obtain ⟨w, e, q⟩ := ou_isNot M a b u v Q N ra rb q
  exact ⟨w, gor_ok e, q⟩
def uAugAdd : U → U → W U := uII fun i j => ret (.int (i + j))
def uAugSub : U → U → W U := uII fun i j => ret (.int (i - j))
theorem ou_augAdd : OpU (gII cTrue fun i j => .int (i + j)) uAugAdd := uII_ok fun M i j Q N q => ⟨.int (i + j), rfl, q⟩
theorem ou_augSub : OpU (gII cTrue fun i j => .int (i - j)) uAugSub := uII_ok fun M i j Q N q => ⟨.int (i - j), rfl, q⟩
def uRevL : U → W U
  | .lst xs => ret (.lst xs.reverse)
  | _ => fail
theorem nu_revL : UnU gRevL uRevL := fun M a u Q N ra q => by
  cases u with
  | lst xs =>
    refine ⟨.lst xs.reverse, ?_, q⟩
    unfold gRevL
    simp only [RL_listOf ra]
    rw [U.d, dl_map, dl_map, List.map_reverse]
  | _ => exact q.elim
def uS : U → W Unit
  | .str _ => ret ()
  | _ => fail
def wMs (o : U → U → W U) (a b : Env → W U) : Env → W U := fun θ => bind (a θ) fun x => bind (uS x) fun _ => bind (b θ) fun y => o x y
theorem ou_split : OpU mSplit uSplit := fun M a b u v Q N ra rb q => by
  unfold uSplit at q
  split at q
  · rename_i x y
    rw [RL_str ra, RL_str rb]
    refine ⟨_, ?_, q.2⟩
    unfold mSplit
    simp only
    rw [if_pos q.1, U.d, dl_strs]
  · exact q.elim
theorem RL_seqO' {M : PM} {d : D} {u : U} {xs : List U} (r : RL M d u) (h : uSeqO u = some xs) : seqOf M d = some (U.dl xs) := RL_seqO r h
theorem ou_join : OpU mJoin uJoin := fun M a b u v Q N ra rb q => by
  unfold uJoin at q
  split at q
  · rename_i x
    obtain ⟨xs, e1, q⟩ := wo_ok q
    obtain ⟨ys, e2, hl, q⟩ := wo_ok q
    rw [RL_str ra]
    refine ⟨_, ?_, q⟩
    unfold mJoin
    simp only [RL_seqO rb e1, strL_d e2]
    rw [if_pos hl]; rfl
  · exact q.elim
section
variable {n : Nat} {fa fb : FE} {wa wb : Env → W U}
/-- a method of a text -/
theorem sp_ms {g : PM → D → D → Out D} {o : U → U → W U} (ho : OpU g o) (ha : SL n fa wa) (hb : SL n fb wb) : SP n (pMS g fa fb) (wMs o wa wb) := fun ρ M θ Q N s q =>
  Wp.chain (ha ρ M θ _ N s q) fun a M1 x e1 r1 q1 => by
    cases x with
    | str z =>
      rw [RL_str r1]
      show Wp ((fb ρ M1).bind fun b M2 => g M2 (.str z) b) _ _
      exact Wp.chain (hb ρ M1 θ _ N (s.eqv e1) q1) fun b M2 y e2 r2 q2 => by
        obtain ⟨w, e, q⟩ := ho M2 (.str z) b (.str z) y Q N (.inl rfl) r2 q2
        rw [e]
        exact Wp.now e2.hd rfl q
    | _ => exact q1.elim
/-- x = list(..), a list that is to change -/
theorem ss_newL {f : FA} {w : Env → W (List U)} (i : Nat) (h : SX RLs n f w) : SS n (sAsg (pCB bListN f) (fName i)) (wNew (wCB uList w) i) := fun ρ M θ Q N s q => by
  unfold sAsg pCB
  have q' : w θ (fun us => uList us (fun u => (bind (xOwn u) fun x => ret (.nx (θ.set i (some x)))) Q N) N) N := q
  have h1 := h ρ M θ _ N s q'
  cases e : f ρ M with
  | bad => rw [e] at h1; exact h1.elim
  | exn c fs M1 => rw [e] at h1; exact Nx.sn s.nM h1
  | ok ds M1 =>
    rw [e] at h1
    obtain ⟨e1, us, r, q1⟩ := h1
    rw [Out.bind_ok]
    have key : ∀ {a : D} {xs : List U}, ds = [a] → seqOf M1 a = some (U.dl xs) → Q (.nx (θ.set i (some (.own xs)))) → Wp ((bListN M1 ds).bind fun d M1 => (fName i d ρ M1).bind fun ρ' M2 => .ok (.nx ρ') M2) (Sx n M Q) (Sn n M N) := fun h1 h2 h3 => by
      subst h1
      unfold bListN
      simp only [h2, Out.bind_ok]
      exact Wp.trS (e1.grow n) (new_ok (s.eqv e1) h3)
    unfold uList at q1
    split at q1
    · obtain ⟨a, rfl, h⟩ := one_of r
      exact key rfl (by rw [RL_tup h]; rfl) q1
    · obtain ⟨a, rfl, h⟩ := one_of r
      exact key rfl (RL_seqL h) q1
    · exact q1.elim
end
end Pu

set_option Elab.async false
set_option linter.all false
set_option maxRecDepth 100000
set_option maxHeartbeats 1000000
namespace Pu
open PySem L2 Pd
/-! ### reading step by step -/
section
variable {A B : Type} {θ : Env}
theorem x_C (u : U) : wC u θ = ret u := rfl
theorem x_Op (o : U → U → W U) (a b : Env → W U) : wOp o a b θ = bind (a θ) fun x => bind (b θ) fun y => o x y := rfl
theorem x_Un (o : U → W U) (a : Env → W U) : wUn o a θ = bind (a θ) o := rfl
theorem x_Test (a : Env → W U) : wTest a θ = bind (a θ) uB := rfl
theorem x_And (f g : Env → W Bool) : wAnd f g θ = bind (f θ) fun b => if b = true then g θ else ret false := rfl
theorem x_Or (f g : Env → W Bool) : wOr f g θ = bind (f θ) fun b => if b = true then ret true else g θ := rfl
theorem x_Not (f : Env → W Bool) : wNot f θ = bind (f θ) fun b => ret (!b) := rfl
theorem x_If (c : Env → W Bool) (f g : Env → W U) : wIf c f g θ = bind (c θ) fun b => if b = true then f θ else g θ := rfl
theorem x_AndV (f g : Env → W U) : wAndV f g θ = bind (f θ) fun a => bind (uB a) fun b => if b = true then g θ else ret (.bl false) := rfl
theorem x_OrV (f g : Env → W U) : wOrV f g θ = bind (f θ) fun a => bind (uB a) fun b => if b = true then ret (.bl true) else g θ := rfl
theorem x_NotV (f : Env → W U) : wNotV f θ = bind (f θ) fun a => bind (uB a) fun b => ret (.bl (!b)) := rfl
theorem x_Nil : (wNil θ : W (List A)) = ret [] := rfl
theorem x_Cons (f : Env → W A) (g : Env → W (List A)) : wCons f g θ = bind (f θ) fun x => bind (g θ) fun xs => ret (x :: xs) := rfl
theorem x_Tup (f : Env → W (List U)) : wTup f θ = bind (f θ) fun us => guard (us.length ≤ 16777216) (ret (.tup us)) := rfl
theorem x_Lst (f : Env → W (List U)) : wLst f θ = bind (f θ) fun us => guard (us.length ≤ 16777216) (ret (.lst us)) := rfl
theorem x_Ch (o o' : U → U → W U) (a b c : Env → W U) : wCh o o' a b c θ = bind (a θ) fun x => bind (b θ) fun y => bind (o x y) fun z => bind (uB z) fun k => if k = true then bind (c θ) fun w => o' y w else ret (.bl false) := rfl
theorem x_U (f : Env → W U) : wU f θ = bind (f θ) fun u => ret (.u u) := rfl
theorem x_E (f : Env → W U) : wE f θ = bind (f θ) fun u => ret (.ext u) := rfl
theorem x_K (f : Env → W (List (Key × U))) : wK f θ = bind (f θ) fun u => ret (.edct u) := rfl
theorem x_Call (F : List X → W U) (a : Env → W (List X)) : wCall F a θ = bind (a θ) F := rfl
theorem x_CB (o : List U → W U) (a : Env → W (List U)) : wCB o a θ = bind (a θ) o := rfl
theorem x_ONone : wONone θ = ret none := rfl
def oInt : U → W (Option Int)
  | .int i => ret (some i)
  | _ => fail
theorem x_OSome (f : Env → W U) : wOSome f θ = bind (f θ) oInt := by
  unfold wOSome; congr 1
theorem x_oInt (i : Int) : oInt (.int i) = ret (some i) := rfl
theorem x_Sl (o : U → Option Int → Option Int → W U) (f : Env → W U) (l h : Env → W (Option Int)) : wSl o f l h θ = bind (f θ) fun a => bind (l θ) fun x => bind (h θ) fun y => o a x y := rfl
theorem x_Items (a : Env → W U) : wItems a θ = bind (a θ) uItems := rfl
theorem x_iL (us : List U) : uItems (.lst us) = ret us := rfl
theorem x_iT (us : List U) : uItems (.tup us) = ret us := rfl
theorem x_Rng1 (a : Env → W (List U)) : wRng1 a θ = bind (a θ) uRng1 := rfl
theorem x_Rng2 (a : Env → W (List U)) : wRng2 a θ = bind (a θ) uRng2 := rfl
theorem x_r1 (j : Int) : uRng1 [.int j] = guard (-4611686018427387904 ≤ j ∧ j < 4611686018427387904) (ret (rngU 0 j.toNat)) := rfl
theorem x_r2 (i j : Int) : uRng2 [.int i, .int j] = guard ((-4611686018427387904 ≤ i ∧ i < 4611686018427387904) ∧ (-4611686018427387904 ≤ j ∧ j < 4611686018427387904)) (ret (rngU i (j - i).toNat)) := rfl
theorem x_Name (i : Nat) (u : U) : wName i u θ = ret (θ.set i (some (.u u))) := rfl
theorem x_Unp (k : Nat) (w : List U → Env → W Env) (us : List U) : wUnp k w (.tup us) θ = if us.length = k then w us θ else fail := rfl
theorem x_TNil : wTNil [] θ = ret θ := rfl
theorem x_TCons (w : U → Env → W Env) (r : List U → Env → W Env) (u : U) (us : List U) : wTCons w r (u :: us) θ = bind (w u θ) fun θ1 => r us θ1 := rfl
theorem x_Lc (w : Env → W (List U)) (g : U → Env → W Env) (t : Env → W Bool) (f : Env → W U) (vs : List Nat) : wLc w g t f vs θ = bind (w θ) fun us => guard (us.length ≤ 16777216) (bind (wLcs g t f (kill θ vs) us) fun r => ret (.lst r)) := rfl
theorem x_Yes : wYes θ = ret true := rfl
theorem x_Seq (a b : WS) : wSeq a b θ = bind (a θ) (kSeq b) := rfl
theorem x_kn (b : WS) : kSeq b (.nx θ) = b θ := rfl
theorem x_kr (b : WS) (u : U) : kSeq b (.rt u) = ret (.rt u) := rfl
theorem x_kb (b : WS) : kSeq b (.bk θ) = ret (.bk θ) := rfl
theorem x_kc (b : WS) : kSeq b (.ct θ) = ret (.ct θ) := rfl
theorem x_Next : wNext θ = ret (.nx θ) := rfl
theorem x_Break : wBreak θ = ret (.bk θ) := rfl
theorem x_Cont : wCont θ = ret (.ct θ) := rfl
theorem x_Ret (a : Env → W U) : wRet a θ = bind (a θ) fun u => ret (.rt u) := rfl
theorem x_RetN : wRetN θ = ret (.rt .non) := rfl
theorem x_Asg (a : Env → W U) (g : U → Env → W Env) : wAsg a g θ = bind (a θ) fun u => bind (g u θ) fun θ' => ret (.nx θ') := rfl
theorem x_Drop (a : Env → W U) : wDrop a θ = bind (a θ) fun _ => ret (.nx θ) := rfl
theorem x_SIf (c : Env → W Bool) (a b : WS) : wSIf c a b θ = bind (c θ) fun k => if k = true then a θ else b θ := rfl
theorem x_New (a : Env → W U) (i : Nat) : wNew a i θ = bind (a θ) fun u => bind (xOwn u) fun x => ret (.nx (θ.set i (some x))) := rfl
theorem x_own (xs : List U) : xOwn (.lst xs) = ret (.own xs) := rfl
theorem x_NewD (i : Nat) : wNewD i θ = ret (.nx (θ.set i (some (.dct [])))) := rfl
theorem x_ownL (xs : List U) : xOwnL (some (some (.own xs))) = ret xs := rfl
theorem x_uLstT (xs : List U) : uLst (.tup xs) = ret xs := rfl
theorem x_uLst (xs : List U) : uLst (.lst xs) = ret xs := rfl
theorem x_App (i : Nat) (a : Env → W U) : wApp i a θ = bind (xOwnL θ[i]?) fun xs => bind (a θ) fun u => guard (xs.length < 16777216) (ret (.nx (θ.set i (some (.own (xs ++ [u])))))) := rfl
theorem x_Ext (i : Nat) (a : Env → W U) : wExt i a θ = bind (xOwnL θ[i]?) fun xs => bind (a θ) fun u => bind (uLst u) fun ys => guard (xs.length + ys.length ≤ 16777216) (ret (.nx (θ.set i (some (.own (xs ++ ys)))))) := rfl
theorem x_Aug (i : Nat) (a : Env → W U) (o : U → U → W U) : wAug i a o θ = bind (xU θ[i]?) fun x => bind (a θ) fun y => bind (o x y) fun z => ret (.nx (θ.set i (some (.u z)))) := rfl
def par2 (i j : Nat) (θ : Env) : List U → W WFl
  | [x, y] => ret (.nx ((θ.set i (some (.u x))).set j (some (.u y))))
  | _ => fail
theorem x_Par (i j : Nat) (a : Env → W (List U)) : wPar i j a θ = bind (a θ) (par2 i j θ) := by
  unfold wPar; congr 1
theorem x_par (i j : Nat) (x y : U) : par2 i j θ [x, y] = ret (.nx ((θ.set i (some (.u x))).set j (some (.u y)))) := rfl
/-- what a loop does with its body's end -/
def kLoop (more : WS) (ks : List Nat) : WFl → W WFl
  | .nx θ' => more θ'
  | .ct θ' => more θ'
  | .bk θ' => ret (.nx (kill θ' ks))
  | .rt u => ret (.rt u)
theorem x_ln (m : WS) (ks : List Nat) : kLoop m ks (.nx θ) = m θ := rfl
theorem x_lc (m : WS) (ks : List Nat) : kLoop m ks (.ct θ) = m θ := rfl
theorem x_lb (m : WS) (ks : List Nat) : kLoop m ks (.bk θ) = ret (.nx (kill θ ks)) := rfl
theorem x_lr (m : WS) (ks : List Nat) (u : U) : kLoop m ks (.rt u) = ret (.rt u) := rfl
theorem each_nil (g : U → Env → W Env) (b : WS) (ks : List Nat) : wEach g b ks [] θ = ret (.nx (kill θ ks)) := rfl
theorem each_cons (g : U → Env → W Env) (b : WS) (ks : List Nat) (x : U) (xs : List U) : wEach g b ks (x :: xs) θ = bind (g x (kill θ ks)) fun θ1 => bind (b θ1) (kLoop (wEach g b ks xs) ks) := by
  conv => lhs; unfold wEach
  rfl
theorem x_For (a : Env → W (List U)) (g : U → Env → W Env) (b : WS) (ks : List Nat) : wFor a g b ks θ = bind (a θ) fun us => wEach g b ks us θ := rfl
theorem while_s (c : Env → W Bool) (b : WS) (ks : List Nat) (t : Nat) : wWhile c b ks (t + 1) θ = bind (c (kill θ ks)) fun k => if k = true then bind (b (kill θ ks)) (kLoop (wWhile c b ks t) ks) else ret (.nx (kill θ ks)) := by
  conv => lhs; unfold wWhile
  rfl
theorem x_k0 : kill θ [] = θ := rfl
theorem x_k1 (i : Nat) (is : List Nat) : kill θ (i :: is) = (kill θ is).set i none := rfl
theorem lcs_nil (g : U → Env → W Env) (t : Env → W Bool) (f : Env → W U) : wLcs g t f θ [] = ret [] := rfl
theorem lcs_cons (g : U → Env → W Env) (t : Env → W Bool) (f : Env → W U) (x : U) (xs : List U) : wLcs g t f θ (x :: xs) = bind (g x θ) fun θ1 => bind (t θ1) fun b => if b = true then bind (f θ1) fun y => bind (wLcs g t f θ xs) fun r => ret (y :: r) else wLcs g t f θ xs := rfl
theorem x_fr (u : U) : wFin (.rt u) = ret u := rfl
theorem x_fn : wFin (.nx θ) = ret .non := rfl
theorem xrun {ar nl : Nat} {w : WS} {xs : List X} (h : xs.length = ar) : wrun ar nl w xs = noX (bind (w (xs.map some ++ List.replicate (nl - xs.length) none)) wFin) := by unfold wrun; rw [if_pos h]
theorem x_run0 (nl : Nat) (w : WS) : wrun 0 nl w [] = noX (bind (w (List.replicate (nl - 0) none)) wFin) := if_pos rfl
theorem x_run1 (nl : Nat) (w : WS) (a0 : X) : wrun 1 nl w [a0] = noX (bind (w (some a0 :: List.replicate (nl - 1) none)) wFin) := if_pos rfl
theorem x_run2 (nl : Nat) (w : WS) (a0 a1 : X) : wrun 2 nl w [a0, a1] = noX (bind (w (some a0 :: some a1 :: List.replicate (nl - 2) none)) wFin) := if_pos rfl
theorem x_run3 (nl : Nat) (w : WS) (a0 a1 a2 : X) : wrun 3 nl w [a0, a1, a2] = noX (bind (w (some a0 :: some a1 :: some a2 :: List.replicate (nl - 3) none)) wFin) := if_pos rfl
theorem x_run4 (nl : Nat) (w : WS) (a0 a1 a2 a3 : X) : wrun 4 nl w [a0, a1, a2, a3] = noX (bind (w (some a0 :: some a1 :: some a2 :: some a3 :: List.replicate (nl - 4) none)) wFin) := if_pos rfl
theorem x_run5 (nl : Nat) (w : WS) (a0 a1 a2 a3 a4 : X) : wrun 5 nl w [a0, a1, a2, a3, a4] = noX (bind (w (some a0 :: some a1 :: some a2 :: some a3 :: some a4 :: List.replicate (nl - 5) none)) wFin) := if_pos rfl
theorem x_run6 (nl : Nat) (w : WS) (a0 a1 a2 a3 a4 a5 : X) : wrun 6 nl w [a0, a1, a2, a3, a4, a5] = noX (bind (w (some a0 :: some a1 :: some a2 :: some a3 :: some a4 :: some a5 :: List.replicate (nl - 6) none)) wFin) := if_pos rfl
theorem x_run7 (nl : Nat) (w : WS) (a0 a1 a2 a3 a4 a5 a6 : X) : wrun 7 nl w [a0, a1, a2, a3, a4, a5, a6] = noX (bind (w (some a0 :: some a1 :: some a2 :: some a3 :: some a4 :: some a5 :: some a6 :: List.replicate (nl - 7) none)) wFin) := if_pos rfl
theorem x_run8 (nl : Nat) (w : WS) (a0 a1 a2 a3 a4 a5 a6 a7 : X) : wrun 8 nl w [a0, a1, a2, a3, a4, a5, a6, a7] = noX (bind (w (some a0 :: some a1 :: some a2 :: some a3 :: some a4 :: some a5 :: some a6 :: some a7 :: List.replicate (nl - 8) none)) wFin) := if_pos rfl
theorem x_xU (u : U) : xU (some (some (.u u))) = ret u := rfl
theorem x_xLu (u : U) : xL (some (some (.u u))) = ret u := rfl
theorem x_xLe (u : U) : xL (some (some (.ext u))) = ret u := rfl
theorem x_xLo (xs : List U) : xL (some (some (.own xs))) = ret (.lst xs) := rfl
theorem x_xOu (u : U) : xO (some (some (.u u))) = ret u := rfl
theorem x_xOo (xs : List U) : xO (some (some (.own xs))) = ret (.lst xs) := rfl
theorem x_xKd (kvs : List (Key × U)) : xK (some (some (.dct kvs))) = ret kvs := rfl
theorem x_xKe (kvs : List (Key × U)) : xK (some (some (.edct kvs))) = ret kvs := rfl
theorem x_Var (i : Nat) : wVar i θ = xU θ[i]? := rfl
theorem x_VarL (i : Nat) : wVarL i θ = xL θ[i]? := rfl
theorem x_VarO (i : Nat) : wVarO i θ = xO θ[i]? := rfl
theorem x_VarK (i : Nat) : wVarK i θ = xK θ[i]? := rfl
theorem x_uB (b : Bool) : uB (.bl b) = ret b := rfl
theorem x_uS (z : Str) : uS (.str z) = ret () := rfl
theorem x_Ms (o : U → U → W U) (a b : Env → W U) : wMs o a b θ = bind (a θ) fun x => bind (uS x) fun _ => bind (b θ) fun y => o x y := rfl
theorem noX_bindret (m : W A) (k : A → W B) : noX (bind m k) = bind (noX m) fun a => noX (k a) := rfl
theorem noX_wrun {ar nl : Nat} {w : WS} {xs : List X} : noX (wrun ar nl w xs) = wrun ar nl w xs := by
  unfold wrun
  split <;> rfl
theorem x_bb (m : W A) (f : A → W B) {C : Type} (k : B → W C) : bind (bind m f) k = bind m fun a => bind (f a) k := rfl
/-- what is wanted of it -/
def Run (m : W A) (Q : A → Prop) (N : XQ) : Prop := m Q N
theorem x_Rret (a : A) (Q : A → Prop) (N : XQ) : Run (ret a) Q N = Q a := rfl
theorem x_Rite (p : Prop) [Decidable p] (m m' : W A) (Q : A → Prop) (N : XQ) : Run (if p then m else m') Q N = if p then Run m Q N else Run m' Q N := by split <;> rfl
theorem x_Rgd (p : Prop) (m : W A) (Q : A → Prop) (N : XQ) : Run (guard p m) Q N = (p ∧ Run m Q N) := rfl
theorem run_pick {n : Int} {k : U → W A} {Q : A → Prop} {N : XQ} (hn : 0 < n ∧ n < 1073741824) (h : ∀ r : Int, 0 ≤ r → r < n → Run (k (.int r)) Q N) : Run (bind (pick n) k) Q N := ⟨hn, h⟩
theorem x_next (ns : List Int) (many : Int) : W_next [.u .st, .u (.rol ns), .u (.int many)] = pick many := rfl
/-! values -/
theorem v_addI (i j : Int) : uAdd (.int i) (.int j) = ret (.int (i + j)) := rfl
theorem v_addS (x y : Str) : uAdd (.str x) (.str y) = guard (x.length + y.length ≤ 16777216) (ret (.str (x ++ y))) := rfl
theorem v_addT (x y : List U) : uAdd (.tup x) (.tup y) = guard (x.length + y.length ≤ 16777216) (ret (.tup (x ++ y))) := rfl
theorem v_addL (x y : List U) : uAdd (.lst x) (.lst y) = guard (x.length + y.length ≤ 16777216) (ret (.lst (x ++ y))) := rfl
theorem v_addN (x y : List U) : uAddL (.lst x) (.lst y) = guard (x.length + y.length ≤ 16777216) (ret (.lst (x ++ y))) := rfl
theorem v_sub (i j : Int) : uSub (.int i) (.int j) = ret (.int (i - j)) := rfl
theorem v_mul (i j : Int) : uMul (.int i) (.int j) = guard ((-18446744073709551616 < i ∧ i < 18446744073709551616) ∨ (-18446744073709551616 < j ∧ j < 18446744073709551616)) (ret (.int (i * j))) := rfl
theorem v_fdiv (i j : Int) : uFdiv (.int i) (.int j) = guard (j ≠ 0 ∧ j.natAbs < 1073741824) (ret (.int (i.fdiv j))) := rfl
theorem v_mod (i j : Int) : uMod (.int i) (.int j) = guard (j ≠ 0) (ret (.int (i.fmod j))) := rfl
theorem v_lt (i j : Int) : uLt (.int i) (.int j) = ret (.bl (decide (i < j))) := rfl
theorem v_le (i j : Int) : uLe (.int i) (.int j) = ret (.bl (decide (i ≤ j))) := rfl
theorem v_gt (i j : Int) : uGt (.int i) (.int j) = ret (.bl (decide (j < i))) := rfl
theorem v_ge (i j : Int) : uGe (.int i) (.int j) = ret (.bl (decide (j ≤ i))) := rfl
theorem v_eqI (i j : Int) : uEq (.int i) (.int j) = ret (.bl (decide (i = j))) := rfl
theorem v_eqS (i j : Str) : uEq (.str i) (.str j) = ret (.bl (decide (i = j))) := rfl
theorem v_eqB (i j : Bool) : uEq (.bl i) (.bl j) = ret (.bl (decide (i = j))) := rfl
theorem v_eqNN : uEq .non .non = ret (.bl true) := rfl
theorem v_eqSN (x : Str) : uEq (.str x) .non = ret (.bl false) := rfl
theorem v_eqNS (x : Str) : uEq .non (.str x) = ret (.bl false) := rfl
theorem v_neI (i j : Int) : uNe (.int i) (.int j) = ret (.bl (!decide (i = j))) := rfl
theorem v_neS (i j : Str) : uNe (.str i) (.str j) = ret (.bl (!decide (i = j))) := rfl
theorem v_neB (i j : Bool) : uNe (.bl i) (.bl j) = ret (.bl (!decide (i = j))) := rfl
theorem v_isN : uIs .non .non = ret (.bl true) := rfl
theorem v_isI (i : Int) : uIs (.int i) .non = ret (.bl false) := rfl
theorem v_isS (i : Str) : uIs (.str i) .non = ret (.bl false) := rfl
theorem v_isT (i : List U) : uIs (.tup i) .non = ret (.bl false) := rfl
theorem v_isL (i : List U) : uIs (.lst i) .non = ret (.bl false) := rfl
theorem v_isB (i : Bool) : uIs (.bl i) .non = ret (.bl false) := rfl
theorem v_nisN : uIsNot .non .non = ret (.bl false) := rfl
theorem v_nisI (i : Int) : uIsNot (.int i) .non = ret (.bl true) := rfl
theorem v_nisS (i : Str) : uIsNot (.str i) .non = ret (.bl true) := rfl
theorem v_nisT (i : List U) : uIsNot (.tup i) .non = ret (.bl true) := rfl
theorem v_nisL (i : List U) : uIsNot (.lst i) .non = ret (.bl true) := rfl
theorem v_nisB (i : Bool) : uIsNot (.bl i) .non = ret (.bl true) := rfl
theorem v_ixT (xs : List U) (i : Int) : uIx (.tup xs) (.int i) = uAt xs i := rfl
theorem v_ixL (xs : List U) (i : Int) : uIx (.lst xs) (.int i) = uAt xs i := rfl
theorem v_at0 (a : U) (l : List U) : uAt (a :: l) 0 = ret a := by
  unfold uAt; rw [show ((0 : Int)) = ((0 : Nat) : Int) from rfl, atI_ok (by simp)]; rfl
theorem v_atS (a : U) (l : List U) (k : Nat) : uAt (a :: l) ((k + 1 : Nat) : Int) = uAt l (k : Int) := by
  unfold uAt atI
  by_cases h : k < l.length
  · rw [ixN_nat (by simp; omega), ixN_nat h]; rfl
  · have e : ∀ (n : Nat) (m : Nat), ¬ m < n → ixN n (m : Int) = none := fun n m h => by unfold ixN; rw [if_pos (by omega), if_neg (by omega)]
    rw [e _ _ (by simp; omega), e _ _ h]; rfl
theorem v_at1 (a b : U) (l : List U) : uAt (a :: b :: l) 1 = ret b := by rw [show ((1 : Int)) = ((0 + 1 : Nat) : Int) from rfl, v_atS]; exact v_at0 b l
theorem v_at2 (a b c : U) (l : List U) : uAt (a :: b :: c :: l) 2 = ret c := by rw [show ((2 : Int)) = ((1 + 1 : Nat) : Int) from rfl, v_atS]; exact v_at1 b c l
theorem v_at3 (a b c d : U) (l : List U) : uAt (a :: b :: c :: d :: l) 3 = ret d := by rw [show ((3 : Int)) = ((2 + 1 : Nat) : Int) from rfl, v_atS]; exact v_at2 b c d l
theorem v_at4 (a b c d e : U) (l : List U) : uAt (a :: b :: c :: d :: e :: l) 4 = ret e := by rw [show ((4 : Int)) = ((3 + 1 : Nat) : Int) from rfl, v_atS]; exact v_at3 b c d e l
theorem v_atN {xs : List U} {k : Nat} (h : k < xs.length) : uAt xs (k : Int) = ret xs[k] := by
  unfold uAt; rw [atI_ok h]; rfl
theorem v_atL (xs : List U) (x : U) : uAt (xs ++ [x]) (-1) = ret x := by
  unfold uAt; rw [atI_neg1]; rfl
theorem v_neg (i : Int) : uNeg (.int i) = ret (.int (-i)) := rfl
theorem v_lenS (z : Str) : uLen [.str z] = guard (z.length ≤ 16777216) (ret (.int z.length)) := rfl
theorem v_lenT (xs : List U) : uLen [.tup xs] = ret (.int xs.length) := rfl
theorem v_lenL (xs : List U) : uLen [.lst xs] = ret (.int xs.length) := rfl
theorem v_abs (i : Int) : uAbs [.int i] = ret (.int (if i < 0 then -i else i)) := rfl
theorem v_intI (i : Int) : uInt [.int i] = ret (.int i) := rfl
theorem v_intB (b : Bool) : uInt [.bl b] = ret (.int (if b then 1 else 0)) := rfl
theorem v_strI (i : Int) : uStr [.int i] = guard (i.natAbs < 18446744073709551616) (ret (.str (toString i))) := rfl
theorem v_strS (z : Str) : uStr [.str z] = ret (.str z) := rfl
theorem v_tupT (xs : List U) : uTuple [.tup xs] = ret (.tup xs) := rfl
theorem v_tupL (xs : List U) : uTuple [.lst xs] = ret (.tup xs) := rfl
theorem v_lstT (xs : List U) : uList [.tup xs] = ret (.lst xs) := rfl
theorem v_lstL (xs : List U) : uList [.lst xs] = ret (.lst xs) := rfl
theorem v_max2 (i j : Int) : uMax2 [.int i, .int j] = ret (.int (max i j)) := rfl
theorem v_min2 (i j : Int) : uMin2 [.int i, .int j] = ret (.int (min i j)) := rfl
theorem v_gcd2 (i j : Int) : uGcd [.int i, .int j] = ret (.int (gcdI i j)) := rfl
theorem v_gcd3 (i j k : Int) : uGcd [.int i, .int j, .int k] = ret (.int (gcdI (gcdI i j) k)) := rfl
theorem v_augA (i j : Int) : uAugAdd (.int i) (.int j) = ret (.int (i + j)) := rfl
theorem v_augS (i j : Int) : uAugSub (.int i) (.int j) = ret (.int (i - j)) := rfl
theorem v_slT (xs : List U) (lo hi : Option Int) : uSl (.tup xs) lo hi = ret (.tup (cutU xs lo hi)) := rfl
theorem v_slL (xs : List U) (lo hi : Option Int) : uSl (.lst xs) lo hi = ret (.lst (cutU xs lo hi)) := rfl
theorem v_isi_int_bool (x : Int) : uIsiP [(.int x), .ty "bool"] = ret (.bl false) := rfl
theorem v_isi_int_int (x : Int) : uIsiP [(.int x), .ty "int"] = ret (.bl true) := rfl
theorem v_isi_int_str (x : Int) : uIsiP [(.int x), .ty "str"] = ret (.bl false) := rfl
theorem v_isi_int_tuple (x : Int) : uIsiP [(.int x), .ty "tuple"] = ret (.bl false) := rfl
theorem v_isi_int_list (x : Int) : uIsiP [(.int x), .ty "list"] = ret (.bl false) := rfl
theorem v_isi_bool_bool (x : Bool) : uIsiP [(.bl x), .ty "bool"] = ret (.bl true) := rfl
theorem v_isi_bool_int (x : Bool) : uIsiP [(.bl x), .ty "int"] = ret (.bl true) := rfl
theorem v_isi_bool_str (x : Bool) : uIsiP [(.bl x), .ty "str"] = ret (.bl false) := rfl
theorem v_isi_bool_tuple (x : Bool) : uIsiP [(.bl x), .ty "tuple"] = ret (.bl false) := rfl
theorem v_isi_bool_list (x : Bool) : uIsiP [(.bl x), .ty "list"] = ret (.bl false) := rfl
theorem v_isi_str_bool (x : Str) : uIsiP [(.str x), .ty "bool"] = ret (.bl false) := rfl
theorem v_isi_str_int (x : Str) : uIsiP [(.str x), .ty "int"] = ret (.bl false) := rfl
theorem v_isi_str_str (x : Str) : uIsiP [(.str x), .ty "str"] = ret (.bl true) := rfl
theorem v_isi_str_tuple (x : Str) : uIsiP [(.str x), .ty "tuple"] = ret (.bl false) := rfl
theorem v_isi_str_list (x : Str) : uIsiP [(.str x), .ty "list"] = ret (.bl false) := rfl
theorem v_isi_tuple_bool (x : List U) : uIsiP [(.tup x), .ty "bool"] = ret (.bl false) := rfl
theorem v_isi_tuple_int (x : List U) : uIsiP [(.tup x), .ty "int"] = ret (.bl false) := rfl
theorem v_isi_tuple_str (x : List U) : uIsiP [(.tup x), .ty "str"] = ret (.bl false) := rfl
theorem v_isi_tuple_tuple (x : List U) : uIsiP [(.tup x), .ty "tuple"] = ret (.bl true) := rfl
theorem v_isi_tuple_list (x : List U) : uIsiP [(.tup x), .ty "list"] = ret (.bl false) := rfl
theorem v_isi_NoneType_bool : uIsiP [.non, .ty "bool"] = ret (.bl false) := rfl
theorem v_isi_NoneType_int : uIsiP [.non, .ty "int"] = ret (.bl false) := rfl
theorem v_isi_NoneType_str : uIsiP [.non, .ty "str"] = ret (.bl false) := rfl
theorem v_isi_NoneType_tuple : uIsiP [.non, .ty "tuple"] = ret (.bl false) := rfl
theorem v_isi_NoneType_list : uIsiP [.non, .ty "list"] = ret (.bl false) := rfl
theorem v_revL (xs : List U) : uRevL (.lst xs) = ret (.lst xs.reverse) := rfl
end
end Pu

set_option Elab.async false
set_option linter.all false
set_option maxRecDepth 100000
set_option maxHeartbeats 1000000
namespace Pu
open PySem L2 Pd
/-! ### xs[a:b:c] -/
def uSl3 (a : U) (lo hi : Option Int) (k : U) : W U := match a, k with
  | .lst xs, .int k => guard (k ≠ 0) (ret (.lst (pickL xs lo hi k)))
  | _, _ => fail
def wSl3 (f : Env → W U) (l h : Env → W (Option Int)) (k : Env → W U) : Env → W U := fun θ => bind (f θ) fun a => bind (l θ) fun x => bind (h θ) fun y => bind (k θ) fun z => uSl3 a x y z
theorem pick_map {A B : Type} (g : A → B) (xs : List A) : ∀ is : List Nat, is.filterMap ((xs.map g)[·]?) = (is.filterMap (xs[·]?)).map g
  | [] => rfl
  | i :: is => by
    cases h : xs[i]? with
    | none => rw [List.filterMap_cons_none (by rw [List.getElem?_map, h]; rfl), List.filterMap_cons_none h, pick_map g xs is]
    | some x => rw [List.filterMap_cons_some (by rw [List.getElem?_map, h]; rfl), List.filterMap_cons_some h, pick_map g xs is]; rfl
theorem pickL_dl (xs : List U) (lo hi : Option Int) (k : Int) : pickL (U.dl xs) lo hi k = U.dl (pickL xs lo hi k) := by
  unfold pickL
  rw [dl_len, dl_map, dl_map, pick_map]
theorem sp_sl3 {n : Nat} {fa fs : FE} {wa ws : Env → W U} {fl fh : FO} {wl wh : Env → W (Option Int)} (ha : SL n fa wa) (hl : SX RQ n fl wl) (hh : SX RQ n fh wh) (hs : SL n fs ws) : SP n (pSl3 fa fl fh fs) (wSl3 wa wl wh ws) := fun ρ M θ Q N s q =>
  Wp.chain (ha ρ M θ _ N s q) fun a M1 x e1 r1 q1 => Wp.chain (hl ρ M1 θ _ N (s.eqv e1) q1) fun l M2 l' e2 r2 q2 => by
    cases r2
    refine Wp.chain (hh ρ M2 θ _ N ((s.eqv e1).eqv e2) q2) fun h M3 h' e3 r3 q3 => ?_
    cases r3
    refine Wp.chain (hs ρ M3 θ _ N (((s.eqv e1).eqv e2).eqv e3) q3) fun k M4 z e4 r4 q4 => ?_
    replace q4 : uSl3 x l h z Q N := q4
    unfold uSl3 at q4
    split at q4
    · rename_i xs k'
      rw [RL_int r4]
      simp only [RL_listOf (((r1.eqv e2).eqv e3).eqv e4)]
      rw [if_pos q4.1, pickL_dl]
      exact Wp.now (b := .lst (pickL xs l h k')) e4.hd rfl q4.2
    · exact q4.elim
/-! ### list(range(a, b, c)) -/
def rngN (i j c : Int) : Nat := if i < j then ((j - i - 1) / c + 1).toNat else 0
def rngCU (i c : Int) (k : Nat) : List U := (List.range k).map fun (m : Nat) => .int (i + (m : Int) * c)
def uLR3 : List U → W U
  | [.int i, .int j, .int c] => guard ((0 < c ∧ c < 1073741824) ∧ (-1000000000 ≤ i ∧ i ≤ 1000000000) ∧ (-1000000000 ≤ j ∧ j ≤ 1000000000) ∧ rngN i j c ≤ 16777216) (ret (.lst (rngCU i c (rngN i j c))))
  | _ => fail
def wLR3 (a : Env → W (List U)) : Env → W U := fun θ => bind (a θ) uLR3
theorem dl_rngC (i c : Int) (k : Nat) : U.dl (rngCU i c k) = rngC i c k := by
  rw [dl_map, rngCU, rngC, List.map_map]; rfl
theorem rngN_size {i j c : Int} (h : 0 < c) : PySem.Builtin.Range.rangeSize i j c = (rngN i j c : Int) := by
  unfold PySem.Builtin.Range.rangeSize rngN
  rw [if_pos h]
  split
  · have : 0 ≤ (j - i - 1) / c := Int.ediv_nonneg (by omega) (by omega)
    omega
  · rfl
theorem small_up {i j c : Int} (hc : 0 < c ∧ c < 1073741824) (hi : -1000000000 ≤ i ∧ i ≤ 1000000000) (hj : -1000000000 ≤ j ∧ j ≤ 1000000000) (hn : rngN i j c ≤ 16777216) : PySem.Builtin.Range.small i j c = true := by
  unfold PySem.Builtin.Range.small
  rw [rngN_size hc.1]
  simp only [PySem.Builtin.Range.rangeFitsLong, Bool.and_eq_true, Bool.or_eq_true, decide_eq_true_eq, beq_iff_eq, show c > 0 from hc.1, if_true]
  refine ⟨?_, ?_⟩ <;> omega
theorem sp_lr3 {n : Nat} {f : FA} {w : Env → W (List U)} (h : SI n f w) : SP n (pLR3 f) (wLR3 w) := fun ρ M θ Q N s q =>
  Wp.chain (h ρ M θ _ N s q) fun as M1 xs e1 r1 q1 => by
    subst r1
    replace q1 : uLR3 xs Q N := q1
    unfold uLR3 at q1
    split at q1
    · rename_i i j c
      obtain ⟨⟨hc, hi, hj, hn⟩, q1⟩ := q1
      show Wp (if (decide (c ≠ 0) && decide (c.natAbs < 1073741824) && PySem.Builtin.Range.small i j c && decide (0 ≤ PySem.Builtin.Range.rangeSize i j c) && decide (PySem.Builtin.Range.rangeSize i j c ≤ 16777216)) = true then Out.ok (D.lst (rngC i c (PySem.Builtin.Range.rangeSize i j c).toNat)) M1 else Out.bad) _ _
      rw [if_pos (by
        rw [small_up hc hi hj hn, rngN_size hc.1]
        simp only [Bool.and_eq_true, decide_eq_true_eq, Bool.and_true]
        refine ⟨⟨⟨?_, ?_⟩, ?_⟩, ?_⟩ <;> omega), rngN_size hc.1, Int.toNat_natCast, ← dl_rngC]
      exact Wp.now (b := .lst (rngCU i c (rngN i j c))) e1.hd rfl q1
    · exact q1.elim
end Pu

set_option Elab.async false
set_option linter.all false
set_option maxRecDepth 100000
set_option maxHeartbeats 1000000
namespace Pu
open PySem L2 Pd
/-! ### loops -/
theorem kill_get_out {i : Nat} : ∀ {ks : List Nat} {θ : Env}, i ∉ ks → (kill θ ks)[i]? = θ[i]?
  | [], _, _ => rfl
  | k :: ks, θ, h => by
    rw [x_k1, List.getElem?_set_ne (fun z => h (by rw [z]; exact List.mem_cons_self ..)), kill_get_out fun z => h (List.mem_cons_of_mem _ z)]
theorem kill_len : ∀ {ks : List Nat} {θ : Env}, (kill θ ks).length = θ.length
  | [], _ => rfl
  | k :: ks, θ => by rw [x_k1, List.length_set, kill_len]
theorem kill_get_in {i : Nat} : ∀ {ks : List Nat} {θ : Env}, i ∈ ks → i < θ.length → (kill θ ks)[i]? = some none
  | k :: ks, θ, h, hl => by
    rw [x_k1]
    by_cases e : k = i
    · subst e; rw [List.getElem?_set_self (by rw [kill_len]; exact hl)]
    · rw [List.getElem?_set_ne e]
      rcases List.mem_cons.mp h with q | q
      · exact absurd q.symm e
      · exact kill_get_in q hl
theorem kill_kill (θ : Env) (ks : List Nat) : kill (kill θ ks) ks = kill θ ks := by
  apply List.ext_getElem?
  intro i
  by_cases hl : i < θ.length
  · by_cases h : i ∈ ks
    · rw [kill_get_in h (by rw [kill_len]; exact hl), kill_get_in h hl]
    · rw [kill_get_out h]
  · rw [List.getElem?_eq_none (by rw [kill_len, kill_len]; omega), List.getElem?_eq_none (by rw [kill_len]; omega)]
section
variable {g : U → Env → W Env} {b : WS} {ks : List Nat}
/-- a loop that carries s through: what it comes to -/
theorem each_fold {σ : Type} (e : σ → Env) (f : σ → U → σ) (P : σ → List U → Prop) (hk : ∀ s, kill (e s) ks = e s)
    (hs : ∀ s u r, P s (u :: r) → (∃ θ', bind (g u (e s)) b = ret (.nx θ') ∧ kill θ' ks = e (f s u)) ∧ P (f s u) r) : ∀ (us : List U) (s : σ) (θ : Env), P s us → kill θ ks = e s → wEach g b ks us θ = ret (.nx (e (us.foldl f s)))
  | [], s, θ, _, h => by rw [each_nil, h]; rfl
  | u :: us, s, θ, h0, h => by
    obtain ⟨⟨θ', h1, h2⟩, h3⟩ := hs s u us h0
    rw [each_cons, h]
    have : bind (g u (e s)) (fun θ1 => bind (b θ1) (kLoop (wEach g b ks us) ks)) = bind (bind (g u (e s)) b) (kLoop (wEach g b ks us) ks) := rfl
    rw [this, h1, bind_ret, x_ln, each_fold e f P hk hs us (f s u) θ' h3 h2]
    rfl
/-- .. over things told by c -/
theorem each_foldm {α σ : Type} (c : α → U) (e : σ → Env) (f : σ → α → σ) (P : σ → List α → Prop)
    (hs : ∀ s x r, P s (x :: r) → (∃ θ', bind (g (c x) (e s)) b = ret (.nx θ') ∧ kill θ' ks = e (f s x)) ∧ P (f s x) r) : ∀ (xs : List α) (s : σ) (θ : Env), P s xs → kill θ ks = e s → wEach g b ks (xs.map c) θ = ret (.nx (e (xs.foldl f s)))
  | [], s, θ, _, h => by rw [List.map_nil, each_nil, h]; rfl
  | x :: xs, s, θ, h0, h => by
    obtain ⟨⟨θ', h1, h2⟩, h3⟩ := hs s x xs h0
    rw [List.map_cons, each_cons, h]
    have : bind (g (c x) (e s)) (fun θ1 => bind (b θ1) (kLoop (wEach g b ks (xs.map c)) ks)) = bind (bind (g (c x) (e s)) b) (kLoop (wEach g b ks (xs.map c)) ks) := rfl
    rw [this, h1, bind_ret, x_ln, each_foldm c e f P hs xs (f s x) θ' h3 h2]
    rfl
/-- a loop that changes nothing -/
theorem each_skip {θ0 : Env} : ∀ (us : List U) (θ : Env), kill θ ks = θ0 → (∀ u ∈ us, ∃ θ', bind (g u θ0) b = ret (.nx θ') ∧ kill θ' ks = θ0) → wEach g b ks us θ = ret (.nx θ0)
  | [], θ, h, _ => by rw [each_nil, h]
  | u :: us, θ, h, hs => by
    obtain ⟨θ', h1, h2⟩ := hs u (List.mem_cons_self ..)
    rw [each_cons, h]
    have : bind (g u θ0) (fun θ1 => bind (b θ1) (kLoop (wEach g b ks us) ks)) = bind (bind (g u θ0) b) (kLoop (wEach g b ks us) ks) := rfl
    rw [this, h1, bind_ret, x_ln, each_skip us θ' h2 fun v hv => hs v (List.mem_cons_of_mem _ hv)]
theorem mem_rngU {lo : Int} {n : Nat} {u : U} (h : u ∈ rngU lo n) : ∃ k : Nat, k < n ∧ u = .int (lo + (k : Int)) := by
  unfold rngU at h
  obtain ⟨k, hk, rfl⟩ := List.mem_map.mp h
  exact ⟨k, List.mem_range.mp hk, rfl⟩
end
section
variable {g : U → Env → W Env} {t : Env → W Bool} {f : Env → W U} {θ : Env}
theorem lcs_map (F : U → U) : ∀ us : List U, (∀ u ∈ us, bind (g u θ) f = ret (F u)) → wLcs g wYes f θ us = ret (us.map F)
  | [], _ => rfl
  | u :: us, h => by
    have h1 := h u (List.mem_cons_self ..)
    rw [lcs_cons]
    have e : bind (g u θ) (fun θ1 => bind (wYes θ1) fun b => if b = true then bind (f θ1) fun y => bind (wLcs g wYes f θ us) fun r => ret (y :: r) else wLcs g wYes f θ us) = bind (bind (g u θ) f) fun y => bind (wLcs g wYes f θ us) fun r => ret (y :: r) := rfl
    rw [e, h1, bind_ret, lcs_map F us fun v hv => h v (List.mem_cons_of_mem _ hv), bind_ret]
    rfl
theorem lcs_filterm {α : Type} (c F : α → U) (p : α → Bool) : ∀ xs : List α, (∀ x ∈ xs, ∃ θ1, g (c x) θ = ret θ1 ∧ t θ1 = ret (p x) ∧ (p x = true → f θ1 = ret (F x))) → wLcs g t f θ (xs.map c) = ret ((xs.filter p).map F)
  | [], _ => rfl
  | x :: xs, h => by
    obtain ⟨θ1, h1, h2, h3⟩ := h x (List.mem_cons_self ..)
    rw [List.map_cons, lcs_cons, h1, bind_ret, h2, bind_ret, lcs_filterm c F p xs fun v hv => h v (List.mem_cons_of_mem _ hv)]
    cases hp : p x with
    | false => simp [List.filter_cons, hp]
    | true => rw [if_pos rfl, h3 hp, bind_ret, bind_ret]; simp [List.filter_cons, hp]
theorem lcs_filter (F : U → U) (p : U → Bool) : ∀ us : List U, (∀ u ∈ us, ∃ θ1, g u θ = ret θ1 ∧ t θ1 = ret (p u) ∧ (p u = true → f θ1 = ret (F u))) → wLcs g t f θ us = ret ((us.filter p).map F)
  | [], _ => rfl
  | u :: us, h => by
    obtain ⟨θ1, h1, h2, h3⟩ := h u (List.mem_cons_self ..)
    rw [lcs_cons, h1, bind_ret, h2, bind_ret, lcs_filter F p us fun v hv => h v (List.mem_cons_of_mem _ hv)]
    cases hp : p u with
    | false => simp [List.filter_cons, hp]
    | true => rw [if_pos rfl, h3 hp, bind_ret, bind_ret]; simp [List.filter_cons, hp]
end
end Pu
namespace Pu
open PySem L2 Pd
/-! ### lists of numbers, of texts -/
theorem intsU_map : ∀ ns : List Int, intsU (ns.map .int) = some ns
  | [] => rfl
  | n :: ns => by simp [intsU, intsU_map ns]
theorem v_minL (ns : List Int) : uMinL [.lst (ns.map .int)] = guard (ns ≠ []) (ret (.int (minI ns))) := by
  show bind (wo (intsU (ns.map .int))) _ = _
  rw [intsU_map]; rfl
theorem v_maxL (ns : List Int) : uMaxL [.lst (ns.map .int)] = guard (ns ≠ []) (ret (.int (maxI ns))) := by
  show bind (wo (intsU (ns.map .int))) _ = _
  rw [intsU_map]; rfl
theorem flat_ints (ns : List Int) : (ns.map U.int).all flatU = true := by
  induction ns with
  | nil => rfl
  | cons n ns ih => simp only [List.map_cons, List.all_cons, ih]; rfl
theorem inU_ints (a : Int) (ns : List Int) : inU (.int a) (ns.map .int) = decide (a ∈ ns) := by
  induction ns with
  | nil => rfl
  | cons n ns ih =>
    unfold inU at ih ⊢
    rw [List.map_cons, List.any_cons, ih]
    by_cases h : a = n
    · subst h; simp [eqUF]
    · have : (n == a) = false := by simp; exact fun e => h e.symm
      simp [eqUF, this, h]
theorem v_inI (a : Int) (ns : List Int) : uIn (.int a) (.lst (ns.map .int)) = ret (.bl (decide (a ∈ ns))) := by
  show bind (bind (wo (some (ns.map U.int))) fun xs => guard (flatU (.int a) = true ∧ xs.all flatU = true) (ret (inU (.int a) xs))) (fun r => ret (U.bl r)) = _
  rw [wo_some, bind_ret, guard_true ⟨rfl, flat_ints ns⟩, bind_ret, inU_ints]
theorem v_ninI (a : Int) (ns : List Int) : uNotIn (.int a) (.lst (ns.map .int)) = ret (.bl (!decide (a ∈ ns))) := by
  show bind (bind (wo (some (ns.map U.int))) fun xs => guard (flatU (.int a) = true ∧ xs.all flatU = true) (ret (inU (.int a) xs))) (fun r => ret (U.bl (!r))) = _
  rw [wo_some, bind_ret, guard_true ⟨rfl, flat_ints ns⟩, bind_ret, inU_ints]
theorem flat_strs (ns : List Str) : (ns.map U.str).all flatU = true := by
  induction ns with
  | nil => rfl
  | cons n ns ih => simp only [List.map_cons, List.all_cons, ih]; rfl
theorem inU_strs (a : Str) (ns : List Str) : inU (.str a) (ns.map .str) = decide (a ∈ ns) := by
  induction ns with
  | nil => rfl
  | cons n ns ih =>
    unfold inU at ih ⊢
    rw [List.map_cons, List.any_cons, ih]
    by_cases h : a = n
    · subst h; simp [eqUF]
    · have : (n == a) = false := by simp; exact fun e => h e.symm
      simp [eqUF, this, h]
theorem ofString_eq (a b : String) : (PySem.Str.ofString a = PySem.Str.ofString b) = (a = b) := by
  apply propext
  constructor
  · intro h
    rw [PySem.Str.ofString_eq_toList, PySem.Str.ofString_eq_toList] at h
    have h1 : (a.toList.map Char.toNat) = (b.toList.map Char.toNat) := by simpa using h
    have h2 := (List.map_inj_right (fun x y e => Char.toNat_inj.mp e)).mp h1
    exact String.toList_inj.mp h2
  · rintro rfl; rfl
theorem x_Sl3 {θ : Env} (f : Env → W U) (l h : Env → W (Option Int)) (k : Env → W U) : wSl3 f l h k θ = bind (f θ) fun a => bind (l θ) fun x => bind (h θ) fun y => bind (k θ) fun z => uSl3 a x y z := rfl
theorem x_LR3 {θ : Env} (a : Env → W (List U)) : wLR3 a θ = bind (a θ) uLR3 := rfl
theorem v_LR3 (i j c : Int) : uLR3 [.int i, .int j, .int c] = guard ((0 < c ∧ c < 1073741824) ∧ (-1000000000 ≤ i ∧ i ≤ 1000000000) ∧ (-1000000000 ≤ j ∧ j ≤ 1000000000) ∧ rngN i j c ≤ 16777216) (ret (.lst (rngCU i c (rngN i j c)))) := rfl
theorem v_Sl3 (xs : List U) (lo hi : Option Int) (k : Int) : uSl3 (.lst xs) lo hi (.int k) = guard (k ≠ 0) (ret (.lst (pickL xs lo hi k))) := rfl
end Pu

set_option Elab.async false
set_option linter.all false
set_option maxRecDepth 100000
set_option maxHeartbeats 2000000
namespace Pu
open PySem L2 Pd
theorem strsU_map : ∀ ns : List Str, strsU (ns.map .str) = some ns
  | [] => rfl
  | n :: ns => by
    rw [List.map_cons, strsU, strsU_map ns]
    rfl
/-- sorted(set(texts)) -/
def uSS (a : U) : W U := bind (wo (uListO a)) fun xs => bind (wo (strsU xs)) fun ns => guard (ns.length < 4000 ∧ (Ts.dd ns).length < 64) (ret (.lst ((sortS (Ts.dd ns)).map .str)))
theorem nu_ss : UnU gSS uSS := fun M a u Q N ra q => by
  obtain ⟨xs, e1, q⟩ := wo_ok q
  obtain ⟨ns, e2, c, q⟩ := wo_ok q
  refine ⟨_, ?_, q⟩
  unfold gSS
  simp only [RL_listO ra e1, strL_d e2]
  rw [if_pos c, U.d, dl_strs]
theorem v_ss (ns : List Str) : uSS (.lst (ns.map .str)) = guard (ns.length < 4000 ∧ (Ts.dd ns).length < 64) (ret (.lst ((sortS (Ts.dd ns)).map .str))) := by
  unfold uSS
  rw [show uListO (.lst (ns.map .str)) = some (ns.map .str) from rfl]
  unfold wo
  rw [bind_ret, strsU_map]
  rfl
theorem v_sortS (ns : List Str) : uSort [.lst (ns.map .str)] = ret (.lst ((sortS ns).map .str)) := by
  show bind (wo (some (ns.map U.str))) (fun xs => match intsU xs with | some ns => ret (U.lst ((sortI ns).map .int)) | none => bind (wo (strsU xs)) fun zs => ret (U.lst ((sortS zs).map .str))) = _
  rw [wo_some, bind_ret]
  cases ns with
  | nil => simp [intsU, sortI, sortS]
  | cons n ns =>
    rw [strsU_map]
    rfl
end Pu

set_option Elab.async false
set_option linter.all false
set_option maxRecDepth 100000
set_option maxHeartbeats 2000000
namespace Pu
open PySem L2 Pd
/-! ### the state's fourth number: any -/
def anyI : W U := fun Q _ => four = true ∧ ∀ v : Int, Q (.int v)
def uIx3 : U → W U
  | .st => anyI
  | _ => fail
def uPut3 (x : Option (Option X)) (v : U) (θ : Env) : W WFl := match x, v with
  | some (some (.u .st)), .int _ => guard (four = true) (ret (.nx θ))
  | _, _ => fail
def wPut3 (i : Nat) (e : Env → W U) : WS := fun θ => bind (e θ) fun v => uPut3 θ[i]? v θ
section
variable {n : Nat} {fa fe : FE} {wa we : Env → W U}
theorem st_at {M : PM} (h : Hd M) (f4 : four = true) : ∃ (a b c f : Int) (e : List D) (J : PM), M = .lst (.int a :: .int b :: .int c :: .int f :: e) :: J ∧ clL 0 e = true ∧ 0 ≤ a ∧ 0 ≤ c ∧ c < 2147483647 := by
  obtain ⟨m, J, rfl, a, b, c, e, rfl, h1, h2, h3, h4, h5⟩ := h.st
  obtain ⟨f, r, rfl⟩ := h5 f4
  refine ⟨a, b, c, f, r, J, rfl, ?_, h2, h3, h4⟩
  simpa [clL, clD] using h1
theorem put3_ok {x : Option (Option X)} {u : U} {θ : Env} {Q : WFl → Prop} {N : XQ} (q : uPut3 x u θ Q N) : ∃ v, u = .int v ∧ x = some (some (.u .st)) ∧ four = true ∧ Q (.nx θ) := by
  rcases x with _ | _ | x
  · exact q.elim
  · exact q.elim
  · cases x with
    | u y =>
      cases y with
      | st =>
        cases u with
        | int v => exact ⟨v, rfl, rfl, q⟩
        | _ => exact q.elim
      | _ => exact q.elim
    | _ => exact q.elim
theorem sp_ix3 (ha : SL n fa wa) : SP n (pOp gIx fa (pC (.int 3))) (wUn uIx3 wa) := fun ρ M θ Q N s q =>
  Wp.chain (ha ρ M θ _ N s q) fun d M1 x e1 r1 q1 => by
    cases x with
    | st =>
      obtain ⟨f4, q1⟩ := q1
      have r1 : d = .adr 0 := RL_nl r1 (by intro _ z; cases z)
      subst r1
      have hh := e1.hd
      obtain ⟨a, b, c, f, e, J, rfl, _⟩ := st_at hh f4
      have e2 : gIx (.lst (.int a :: .int b :: .int c :: .int f :: e) :: J) (.adr 0) (.int 3) = .ok (.int f) (.lst (.int a :: .int b :: .int c :: .int f :: e) :: J) := by
        refine gIx_seq (ds := .int a :: .int b :: .int c :: .int f :: e) rfl ?_
        unfold atI
        rw [show (3 : Int) = ((3 : Nat) : Int) from rfl, ixN_nat (by simp)]
        rfl
      have e3 : ((pC (.int 3) ρ (.lst (.int a :: .int b :: .int c :: .int f :: e) :: J)).bind fun b M2 => gIx M2 (.adr 0) b) = .ok (.int f) (.lst (.int a :: .int b :: .int c :: .int f :: e) :: J) := e2
      rw [e3]
      exact Wp.now (R := RP) (a := D.int f) (b := U.int f) hh rfl (q1 f)
    | _ => exact q1.elim
theorem ss_put3 (i : Nat) (he : SP n fe we) : SS n (sAsg fe (fSub (pVar i) (pC (.int 3)))) (wPut3 i we) := fun ρ M θ Q N s q =>
  Wp.chainS s.nM (he ρ M θ _ N s q) fun d M1 u e1 r1 q1 => by
    cases r1
    have s1 := s.eqv e1
    obtain ⟨v, hu, hx, q2⟩ := put3_ok q1
    clear q1
    · subst hu
      obtain ⟨f4, q1⟩ := q2
      obtain ⟨d, h1, h2⟩ := s1.v _ _ hx
      cases h2
      obtain ⟨a, b, c, f, e, J, rfl, g1, g2, g3, g4⟩ := st_at s1.hd f4
      have step : sAsg (pC (.int v)) (fSub (pVar i) (pC (.int 3))) ρ (.lst (.int a :: .int b :: .int c :: .int f :: e) :: J) = .ok (.nx ρ) (.lst (.int a :: .int b :: .int c :: .int v :: e) :: J) := by
        have e2 := put_at (M := .lst (.int a :: .int b :: .int c :: .int f :: e) :: J) (i := 0) (ds := .int a :: .int b :: .int c :: .int f :: e) (by simp) (n := 3) (by simp) (.int v)
        have e3 : putL (.lst (.int a :: .int b :: .int c :: .int f :: e) :: J) (.adr 0) (.int 3) (.int v) = .ok () (.lst (.int a :: .int b :: .int c :: .int v :: e) :: J) := e2
        show ((pVar i ρ (.lst (.int a :: .int b :: .int c :: .int f :: e) :: J)).bind fun o M1 => (pC (.int 3) ρ M1).bind fun k M2 => (putL M2 o k (.int v)).bind fun _ M3 => Out.ok ρ M3).bind (fun ρ' M2 => Out.ok (Fl.nx ρ') M2) = _
        rw [pVar_of h1]
        show ((putL (.lst (.int a :: .int b :: .int c :: .int f :: e) :: J) (.adr 0) (.int 3) (.int v)).bind fun _ M3 => Out.ok ρ M3).bind (fun ρ' M2 => Out.ok (Fl.nx ρ') M2) = _
        rw [e3]
        rfl
      have ev : Eqv (.lst (.int a :: .int b :: .int c :: .int f :: e) :: J) (.lst (.int a :: .int b :: .int c :: .int v :: e) :: J) := by
        refine ⟨⟨⟨_, J, rfl, a, b, c, .int v :: e, rfl, by simpa [clL, clD] using g1, g2, g3, g4, fun _ => ⟨v, e, rfl⟩⟩, ?_⟩, rfl, fun k hk => ?_⟩
        · have := s1.hd.cl
          simpa [clMO, clL, clD] using this
        · obtain ⟨j, rfl⟩ : ∃ j, k = j + 1 := ⟨k - 1, by omega⟩
          rfl
      have fin : Wp (sAsg (pC (.int v)) (fSub (pVar i) (pC (.int 3))) ρ (.lst (.int a :: .int b :: .int c :: .int f :: e) :: J)) (Sx n (.lst (.int a :: .int b :: .int c :: .int f :: e) :: J) Q) (Sn n (.lst (.int a :: .int b :: .int c :: .int f :: e) :: J) N) := by
        rw [step]
        exact Wp.trS (ev.grow n) (Wp.nowS ev.hd (fr_nx (s1.eqv ev)) q1)
      exact fin
end
/-! ### dicts -/
def keyU : U → Option Key
  | .int i => some (.inl i)
  | .str z => some (.inr z)
  | _ => none
def gU : List (Key × U) → Key → Option U
  | [], _ => none
  | (j, d) :: r, k => if j = k then some d else gU r k
def sU (kvs : List (Key × U)) (k : Key) (u : U) : List (Key × U) := if (kvs.any fun kv => decide (kv.1 = k)) = true then kvs.map (fun kv => if kv.1 = k then (kv.1, u) else kv) else kvs ++ [(k, u)]
theorem key_u {u : U} {k : Key} (h : keyU u = some k) : Pd.keyOf u.d = some k := by
  cases u <;> first | exact h | cases h
theorem get_u (k : Key) : ∀ kvs : List (Key × U), getK (kd kvs) k = (gU kvs k).map U.d
  | [] => rfl
  | (j, d) :: r => by
    show (if j = k then some d.d else getK (kd r) k) = (if j = k then some d else gU r k).map U.d
    split
    · rfl
    · exact get_u k r
theorem set_u (k : Key) (u : U) (kvs : List (Key × U)) : setK (kd kvs) k u.d = kd (sU kvs k u) := by
  unfold setK sU kd
  rw [List.any_map]
  by_cases h : (kvs.any fun kv => decide (kv.1 = k)) = true
  · rw [if_pos (by simpa using h), if_pos h, List.map_map, List.map_map]
    refine List.map_congr_left fun p _ => ?_
    simp only [Function.comp]
    split <;> rfl
  · rw [if_neg (by simpa using h), if_neg h, List.map_append]
    rfl
def xDct : Option (Option X) → W (List (Key × U))
  | some (some (.dct kvs)) => ret kvs
  | some (some (.edct kvs)) => ret kvs
  | _ => fail
def xOwnD : Option (Option X) → W (List (Key × U))
  | some (some (.dct kvs)) => ret kvs
  | _ => fail
def wDGet (i : Nat) (a : Env → W U) : Env → W U := fun θ => bind (xDct θ[i]?) fun kvs => bind (a θ) fun u => bind (wo (keyU u)) fun k => wo (gU kvs k)
def wDIn (a : Env → W U) (i : Nat) : Env → W U := fun θ => bind (a θ) fun u => bind (xDct θ[i]?) fun kvs => bind (wo (keyU u)) fun k => ret (.bl (gU kvs k).isSome)
def wDNotIn (a : Env → W U) (i : Nat) : Env → W U := fun θ => bind (a θ) fun u => bind (xDct θ[i]?) fun kvs => bind (wo (keyU u)) fun k => ret (.bl (!(gU kvs k).isSome))
def wPut (i : Nat) (a : Env → W U) (e : Env → W U) : WS := fun θ => bind (e θ) fun v => bind (xOwnD θ[i]?) fun kvs => bind (a θ) fun u => bind (wo (keyU u)) fun k => guard (kvs.length < 16777216) (ret (.nx (θ.set i (some (.dct (sU kvs k v))))))
section
variable {n : Nat} {fa fe : FE} {wa we : Env → W U}
theorem dct_of {ρ : Rho} {M : PM} {θ : Env} {i : Nat} {K : List (Key × U) → Prop} {N : XQ} (s : Sim n ρ M θ) (q : xDct θ[i]? K N) : ∃ kvs d, ρ[i]? = some (some d) ∧ RK M d kvs ∧ K kvs := by
  rcases h : θ[i]? with _ | _ | x
  · rw [h] at q; exact q.elim
  · rw [h] at q; exact q.elim
  · rw [h] at q
    obtain ⟨d, h1, h2⟩ := s.v _ _ h
    cases x with
    | dct kvs => exact ⟨kvs, d, h1, h2.1, q⟩
    | edct kvs => exact ⟨kvs, d, h1, h2.1, q⟩
    | _ => exact q.elim
theorem ownD_of {ρ : Rho} {M : PM} {θ : Env} {i : Nat} {K : List (Key × U) → Prop} {N : XQ} (s : Sim n ρ M θ) (q : xOwnD θ[i]? K N) : ∃ kvs k, θ[i]? = some (some (.dct kvs)) ∧ ρ[i]? = some (some (.adr k)) ∧ n ≤ k ∧ 1 ≤ k ∧ M[k]? = some (.dct (kd kvs)) ∧ K kvs := by
  rcases h : θ[i]? with _ | _ | x
  · rw [h] at q; exact q.elim
  · rw [h] at q; exact q.elim
  · rw [h] at q
    obtain ⟨d, h1, h2⟩ := s.v _ _ h
    cases x with
    | dct kvs =>
      obtain ⟨⟨k, g1, rfl, g3⟩, g4⟩ := h2
      exact ⟨kvs, k, rfl, h1, g4, g1, g3, q⟩
    | _ => exact q.elim
theorem RK.dctOf {M M1 : PM} {d : D} {kvs : List (Key × U)} (r : RK M d kvs) (e : Eqv M M1) : Pd.dctOf M1 d = some (kd kvs) := by
  obtain ⟨k, h1, rfl, h3⟩ := r
  unfold Pd.dctOf
  simp only [e.eq k h1, h3]
theorem sp_dget (i : Nat) (hb : SP n fa wa) : SP n (pOp gDGet (pVar i) fa) (wDGet i wa) := fun ρ M θ Q N s q => by
  obtain ⟨kvs, d, h1, h2, q⟩ := dct_of s q
  unfold pOp
  rw [pVar_of h1, Out.bind_ok]
  refine Wp.chain (hb ρ M θ _ N s q) fun b M1 u e1 r1 q1 => ?_
  cases r1
  obtain ⟨k, k1, q1⟩ := wo_ok q1
  obtain ⟨v, v1, q1⟩ := wo_ok q1
  unfold gDGet
  simp only [h2.dctOf e1, key_u k1, get_u, v1, Option.map_some]
  exact Wp.now e1.hd rfl q1
theorem sp_din (hb : SP n fa wa) (i : Nat) : SP n (pOp gDIn fa (pVar i)) (wDIn wa i) := fun ρ M θ Q N s q =>
  Wp.chain (hb ρ M θ _ N s q) fun b M1 u e1 r1 q1 => by
    cases r1
    obtain ⟨kvs, d, h1, h2, q1⟩ := dct_of (s.eqv e1) q1
    obtain ⟨k, k1, q1⟩ := wo_ok q1
    rw [pVar_of h1, Out.bind_ok]
    unfold gDIn
    simp only [h2.dctOf (Eqv.refl e1.hd), key_u k1, get_u, Option.isSome_map]
    exact Wp.now (b := U.bl (gU kvs k).isSome) e1.hd rfl q1
theorem sp_dnotin (hb : SP n fa wa) (i : Nat) : SP n (pOp gDNotIn fa (pVar i)) (wDNotIn wa i) := fun ρ M θ Q N s q =>
  Wp.chain (hb ρ M θ _ N s q) fun b M1 u e1 r1 q1 => by
    cases r1
    obtain ⟨kvs, d, h1, h2, q1⟩ := dct_of (s.eqv e1) q1
    obtain ⟨k, k1, q1⟩ := wo_ok q1
    rw [pVar_of h1, Out.bind_ok]
    unfold gDNotIn
    simp only [h2.dctOf (Eqv.refl e1.hd), key_u k1, get_u, Option.isSome_map]
    exact Wp.now (b := U.bl (!(gU kvs k).isSome)) e1.hd rfl q1
theorem ss_put (i : Nat) (ha : SP n fa wa) (he : SP n fe we) : SS n (sPut (pVar i) fa fe) (wPut i wa we) := fun ρ M θ Q N s q =>
  Wp.chainS s.nM (he ρ M θ _ N s q) fun d M1 v e1 r1 q1 => by
    cases r1
    have s1 := s.eqv e1
    obtain ⟨kvs, j, h0, h1, h2, h3, h4, q1⟩ := ownD_of s1 q1
    rw [pVar_of h1, Out.bind_ok]
    refine Wp.chainS s1.nM (ha ρ M1 θ _ N s1 q1) fun b M2 u e2 r2 q2 => ?_
    cases r2
    have s2 := s1.eqv e2
    obtain ⟨k, k1, hl, q2⟩ := wo_ok q2
    have h5 : M2[j]? = some (.dct (kd kvs)) := by rw [e2.eq j h3]; exact h4
    have lt : j < M2.length := (List.getElem?_eq_some_iff.mp h5).1
    have n1 := s2.n1
    unfold putD
    have e3 : Pd.dctOf M2 (.adr j) = some (kd kvs) := by unfold Pd.dctOf; simp only [h5]
    simp only [e3, key_u k1]
    rw [if_pos (by unfold kd; rw [List.length_map]; exact hl), Out.bind_ok, set_u]
    have s3 := s2.put (y := .dct (sU kvs k v)) rfl h0 h1 h2 (kd_cl _) rfl ⟨⟨j, h3, rfl, by rw [List.getElem?_set_self lt]⟩, h2⟩
    exact ⟨⟨s3.hd, by simp, fun m _ hm => by rw [List.getElem?_set_ne (by omega)]⟩, _, fr_nx s3, q2⟩
end
end Pu
namespace Pu
open PySem L2 Pd
/-! ### worked out -/
theorem v_ix3 : uIx3 .st = anyI := rfl
theorem v_put3 (j : Int) (θ : Env) : uPut3 (some (some (.u .st))) (.int j) θ = ret (.nx θ) := guard_true rfl _
theorem noX_any : noX anyI = anyI := rfl
theorem run_any {A : Type} {k : U → W A} {Q : A → Prop} {N : XQ} (h : ∀ v : Int, Run (k (.int v)) Q N) : Run (bind anyI k) Q N := ⟨rfl, h⟩
section
variable {θ : Env} {i : Nat} {a e : Env → W U}
theorem x_Put3 : wPut3 i e θ = bind (e θ) fun v => uPut3 θ[i]? v θ := rfl
theorem x_DGet : wDGet i a θ = bind (xDct θ[i]?) fun kvs => bind (a θ) fun u => bind (wo (keyU u)) fun k => wo (gU kvs k) := rfl
theorem x_DIn : wDIn a i θ = bind (a θ) fun u => bind (xDct θ[i]?) fun kvs => bind (wo (keyU u)) fun k => ret (.bl (gU kvs k).isSome) := rfl
theorem x_DNotIn : wDNotIn a i θ = bind (a θ) fun u => bind (xDct θ[i]?) fun kvs => bind (wo (keyU u)) fun k => ret (.bl (!(gU kvs k).isSome)) := rfl
theorem x_Put : wPut i a e θ = bind (e θ) fun v => bind (xOwnD θ[i]?) fun kvs => bind (a θ) fun u => bind (wo (keyU u)) fun k => guard (kvs.length < 16777216) (ret (.nx (θ.set i (some (.dct (sU kvs k v)))))) := rfl
theorem x_xDd (kvs : List (Key × U)) : xDct (some (some (.dct kvs))) = ret kvs := rfl
theorem x_xDe (kvs : List (Key × U)) : xDct (some (some (.edct kvs))) = ret kvs := rfl
theorem x_xOd (kvs : List (Key × U)) : xOwnD (some (some (.dct kvs))) = ret kvs := rfl
theorem v_keyI (j : Int) : keyU (.int j) = some (.inl j) := rfl
theorem v_keyS (z : Str) : keyU (.str z) = some (.inr z) := rfl
end
end Pu

set_option Elab.async false
set_option linter.all false
set_option maxRecDepth 100000
set_option maxHeartbeats 2000000
namespace Pu
open PySem L2 Pd
def blsU : List U → Option (List Bool)
  | [] => some []
  | .bl b :: r => (blsU r).map (b :: ·)
  | _ => none
theorem blL_d : ∀ {xs : List U} {bs : List Bool}, blsU xs = some bs → blL (U.dl xs) = some bs
  | [], _, h => h
  | x :: xs, bs, h => by
    cases x with
    | bl b =>
      simp only [blsU, Option.map_eq_some_iff] at h
      obtain ⟨cs, h, rfl⟩ := h
      rw [U.dl, U.d, blL, blL_d h]
      rfl
    | _ => cases h
theorem blsU_map : ∀ bs : List Bool, blsU (bs.map .bl) = some bs
  | [] => rfl
  | b :: bs => by
    rw [List.map_cons, blsU, blsU_map bs]
    rfl
def uAll : List U → W U
  | [a] => bind (wo (uListO a)) fun xs => bind (wo (blsU xs)) fun bs => ret (.bl (bs.all id))
  | _ => fail
def uAny : List U → W U
  | [a] => bind (wo (uListO a)) fun xs => bind (wo (blsU xs)) fun bs => ret (.bl (bs.any id))
  | _ => fail
theorem bu_all : BU bAll uAll := fun M as us Q N r q => by
  unfold uAll at q
  split at q
  · obtain ⟨a, rfl, h⟩ := one_of r
    obtain ⟨xs, e1, q⟩ := wo_ok q
    obtain ⟨bs, e2, q⟩ := wo_ok q
    refine ⟨_, ?_, q⟩
    unfold bAll bBls
    simp only [RL_listO h e1, blL_d e2]; rfl
  · exact q.elim
theorem bu_any : BU bAny uAny := fun M as us Q N r q => by
  unfold uAny at q
  split at q
  · obtain ⟨a, rfl, h⟩ := one_of r
    obtain ⟨xs, e1, q⟩ := wo_ok q
    obtain ⟨bs, e2, q⟩ := wo_ok q
    refine ⟨_, ?_, q⟩
    unfold bAny bBls
    simp only [RL_listO h e1, blL_d e2]; rfl
  · exact q.elim
def uDig : U → W U
  | .str z => ret (.bl (Txt.isdigit z))
  | _ => fail
theorem nu_dig : UnU gDig uDig := fun M a u Q N ra q => by
  cases u with
  | str z =>
    rw [RL_str ra]
    exact ⟨.bl (Txt.isdigit z), rfl, q⟩
  | _ => exact q.elim
theorem v_all (bs : List Bool) : uAll [.lst (bs.map .bl)] = ret (.bl (bs.all id)) := by
  show bind (wo (some (bs.map U.bl))) (fun xs => bind (wo (blsU xs)) fun bs => ret (U.bl (bs.all id))) = _
  rw [wo_some, bind_ret, blsU_map]
  rfl
theorem v_any (bs : List Bool) : uAny [.lst (bs.map .bl)] = ret (.bl (bs.any id)) := by
  show bind (wo (some (bs.map U.bl))) (fun xs => bind (wo (blsU xs)) fun bs => ret (U.bl (bs.any id))) = _
  rw [wo_some, bind_ret, blsU_map]
  rfl
theorem v_dig (z : Str) : uDig (.str z) = ret (.bl (Txt.isdigit z)) := rfl
end Pu

set_option Elab.async false
set_option linter.all false
set_option maxRecDepth 100000
set_option maxHeartbeats 2000000
namespace Pu
open PySem L2 Pd
/-! ### enumerate over a tuple -/
def prsU : Nat → List U → List U
  | _, [] => []
  | k, u :: us => .tup [.int (k : Int), u] :: prsU (k + 1) us
theorem dl_prs : ∀ (k : Nat) (us : List U), U.dl (prsU k us) = prs k (U.dl us)
  | _, [] => rfl
  | k, u :: us => by
    rw [prsU, U.dl, U.dl, prs, dl_prs (k + 1) us]
    rfl
def uEnT : List U → W (List U)
  | [.tup us] => ret (prsU 0 us)
  | _ => fail
def wEnT (a : Env → W (List U)) : Env → W (List U) := fun θ => bind (a θ) uEnT
theorem si_enT {n : Nat} {f : FA} {w : Env → W (List U)} (h : SI n f w) : SI n (pEnT f) (wEnT w) := fun ρ M θ Q N s q =>
  Wp.chain (h ρ M θ _ N s q) fun as M1 xs e1 r1 q1 => by
    subst r1
    unfold uEnT at q1
    split at q1
    · rename_i us
      exact Wp.now (R := fun _ ds us => ds = U.dl us) e1.hd (dl_prs 0 us).symm q1
    · exact q1.elim
theorem x_EnT {θ : Env} (a : Env → W (List U)) : wEnT a θ = bind (a θ) uEnT := rfl
theorem v_enT (us : List U) : uEnT [.tup us] = ret (prsU 0 us) := rfl
end Pu

set_option Elab.async false
set_option linter.all false
set_option maxRecDepth 100000
set_option maxHeartbeats 2000000
namespace Pu
open PySem L2 Pd
/-! ### more values: in, slices -/
theorem v_inTl (x : Str) (l : List Str) : uIn (.str x) (.tup (l.map .str)) = ret (.bl (decide (x ∈ l))) := by
  have e : uIn (.str x) (.tup (l.map .str)) = bind (inUW (.str x) (.tup (l.map .str))) fun r => ret (.bl r) := by
    unfold uIn
    split
    · rename_i h; cases h
    · rfl
  rw [e]
  show bind (bind (wo (some (l.map U.str))) fun xs => guard (flatU (.str x) = true ∧ xs.all flatU = true) (ret (inU (.str x) xs))) (fun r => ret (U.bl r)) = _
  rw [wo_some, bind_ret, guard_true ⟨rfl, flat_strs l⟩, bind_ret, inU_strs]
theorem v_inLl (x : Str) (l : List Str) : uIn (.str x) (.lst (l.map .str)) = ret (.bl (decide (x ∈ l))) := by
  have e : uIn (.str x) (.lst (l.map .str)) = bind (inUW (.str x) (.lst (l.map .str))) fun r => ret (.bl r) := by
    unfold uIn
    split
    · rename_i h; cases h
    · rfl
  rw [e]
  show bind (bind (wo (some (l.map U.str))) fun xs => guard (flatU (.str x) = true ∧ xs.all flatU = true) (ret (inU (.str x) xs))) (fun r => ret (U.bl r)) = _
  rw [wo_some, bind_ret, guard_true ⟨rfl, flat_strs l⟩, bind_ret, inU_strs]
theorem v_ninTl (x : Str) (l : List Str) : uNotIn (.str x) (.tup (l.map .str)) = ret (.bl (!decide (x ∈ l))) := by
  have e : uNotIn (.str x) (.tup (l.map .str)) = bind (inUW (.str x) (.tup (l.map .str))) fun r => ret (.bl (!r)) := by
    unfold uNotIn
    split
    · rename_i h; cases h
    · rfl
  rw [e]
  show bind (bind (wo (some (l.map U.str))) fun xs => guard (flatU (.str x) = true ∧ xs.all flatU = true) (ret (inU (.str x) xs))) (fun r => ret (U.bl (!r))) = _
  rw [wo_some, bind_ret, guard_true ⟨rfl, flat_strs l⟩, bind_ret, inU_strs]
theorem v_ninLl (x : Str) (l : List Str) : uNotIn (.str x) (.lst (l.map .str)) = ret (.bl (!decide (x ∈ l))) := by
  have e : uNotIn (.str x) (.lst (l.map .str)) = bind (inUW (.str x) (.lst (l.map .str))) fun r => ret (.bl (!r)) := by
    unfold uNotIn
    split
    · rename_i h; cases h
    · rfl
  rw [e]
  show bind (bind (wo (some (l.map U.str))) fun xs => guard (flatU (.str x) = true ∧ xs.all flatU = true) (ret (inU (.str x) xs))) (fun r => ret (U.bl (!r))) = _
  rw [wo_some, bind_ret, guard_true ⟨rfl, flat_strs l⟩, bind_ret, inU_strs]
theorem v_inT1 (x a : Str) : uIn (.str x) (.tup [.str a]) = ret (.bl (decide (x = a))) := by rw [show ([.str a] : List U) = [a].map .str from rfl, v_inTl]; simp
theorem v_inT2 (x a b : Str) : uIn (.str x) (.tup [.str a, .str b]) = ret (.bl (decide (x = a) || decide (x = b))) := by rw [show ([.str a, .str b] : List U) = [a, b].map .str from rfl, v_inTl]; simp
theorem v_inT3 (x a b c : Str) : uIn (.str x) (.tup [.str a, .str b, .str c]) = ret (.bl (decide (x = a) || (decide (x = b) || decide (x = c)))) := by rw [show ([.str a, .str b, .str c] : List U) = [a, b, c].map .str from rfl, v_inTl]; simp
theorem v_inT4 (x a b c d : Str) : uIn (.str x) (.tup [.str a, .str b, .str c, .str d]) = ret (.bl (decide (x = a) || (decide (x = b) || (decide (x = c) || decide (x = d))))) := by rw [show ([.str a, .str b, .str c, .str d] : List U) = [a, b, c, d].map .str from rfl, v_inTl]; simp
theorem v_inL2 (x a b : Str) : uIn (.str x) (.lst [.str a, .str b]) = ret (.bl (decide (x = a) || decide (x = b))) := by rw [show ([.str a, .str b] : List U) = [a, b].map .str from rfl, v_inLl]; simp
theorem v_ninT2 (x a b : Str) : uNotIn (.str x) (.tup [.str a, .str b]) = ret (.bl (!(decide (x = a) || decide (x = b)))) := by rw [show ([.str a, .str b] : List U) = [a, b].map .str from rfl, v_ninTl]; simp
theorem cut_from (xs : List U) (k : Nat) : cutU xs (some (k : Int)) none = xs.drop k := by
  unfold cutU
  rw [HT.sIx_nat, HT.sIx_none]
  by_cases h : k ≤ xs.length
  · rw [Nat.min_eq_left h, List.take_of_length_le (by rw [List.length_drop]; omega)]
  · rw [Nat.min_eq_right (by omega), List.drop_of_length_le (Nat.le_refl _), List.drop_of_length_le (by omega)]; simp
theorem cut_to (xs : List U) (k : Nat) : cutU xs none (some (k : Int)) = xs.take k := by
  unfold cutU
  rw [HT.sIx_nat, HT.sIx_none, List.drop_zero, Nat.sub_zero]
  by_cases h : k ≤ xs.length
  · rw [Nat.min_eq_left h]
  · rw [Nat.min_eq_right (by omega), List.take_of_length_le (Nat.le_refl _), List.take_of_length_le (by omega)]
theorem cut_toI {xs : List U} {r : Int} (h : 0 ≤ r) : cutU xs none (some r) = xs.take r.toNat := by
  have := cut_to xs r.toNat
  rw [Int.toNat_of_nonneg h] at this
  exact this
theorem cut_fromI {xs : List U} {r : Int} (h : 0 ≤ r) : cutU xs (some r) none = xs.drop r.toNat := by
  have := cut_from xs r.toNat
  rw [Int.toNat_of_nonneg h] at this
  exact this
theorem v_cutF1 (a : U) (xs : List U) : cutU (a :: xs) (some 1) none = xs := cut_from (a :: xs) 1
theorem v_cutF2 (a b : U) (xs : List U) : cutU (a :: b :: xs) (some 2) none = xs := cut_from (a :: b :: xs) 2
theorem v_cutT1 (a : U) (xs : List U) : cutU (a :: xs) none (some 1) = [a] := cut_to (a :: xs) 1
theorem v_cutT2 (a b : U) (xs : List U) : cutU (a :: b :: xs) none (some 2) = [a, b] := cut_to (a :: b :: xs) 2
end Pu

set_option Elab.async false
set_option linter.all false
set_option maxRecDepth 100000
set_option maxHeartbeats 2000000
namespace Pu
open PySem L2 Pd
/-! ### comprehensions of any number of clauses -/
structure WF where
  w : Env → W (List U)
  g : U → Env → W Env
  t : Env → W Bool
  vs : List Nat
def wEachA (g : U → Env → W Env) (t : Env → W Bool) (body : Env → List U → W (List U)) (θ0 : Env) : List U → List U → W (List U)
  | [], acc => ret acc
  | x :: xs, acc => bind (g x θ0) fun θ1 => bind (t θ1) fun b => if b = true then bind (body θ1 acc) fun acc' => wEachA g t body θ0 xs acc' else wEachA g t body θ0 xs acc
def wIn (f : Env → W U) : List WF → Env → List U → W (List U)
  | [] => fun θ acc => bind (f θ) fun y => guard (acc.length < 16777216) (ret (acc ++ [y]))
  | c :: r => fun θ acc => bind (c.w θ) fun us => wEachA c.g c.t (wIn f r) (kill θ c.vs) us acc
def wLcN (c : WF) (r : List WF) (f : Env → W U) : Env → W U := fun θ => bind (c.w θ) fun us => bind (wEachA c.g c.t (wIn f r) (kill θ c.vs) us []) fun acc => ret (.lst acc)
def STu (n : Nat) (g : FG) (w : U → Env → W Env) : Prop := ∀ ρ θ u Q N, w u θ Q N → ∃ ρ' θ', (∀ M, g u.d ρ M = .ok ρ' M) ∧ (∀ M, Sim n ρ M θ → Sim n ρ' M θ') ∧ Q θ'
def STus (n : Nat) (g : FGs) (w : List U → Env → W Env) : Prop := ∀ ρ θ us Q N, w us θ Q N → ∃ ρ' θ', (∀ M, g (U.dl us) ρ M = .ok ρ' M) ∧ (∀ M, Sim n ρ M θ → Sim n ρ' M θ') ∧ Q θ'
section
variable {n : Nat}
theorem stu_name (i : Nat) : STu n (fName i) (wName i) := fun ρ θ u Q N q => ⟨_, _, fun _ => rfl, fun _ s => s.set i, q⟩
theorem stu_nil : STus n fNil wTNil := fun ρ θ us Q N q => by
  cases us with
  | nil => exact ⟨_, _, fun _ => rfl, fun _ s => s, q⟩
  | cons => exact q.elim
theorem stu_cons {g : FG} {w : U → Env → W Env} {gs : FGs} {ws : List U → Env → W Env} (h : STu n g w) (hs : STus n gs ws) : STus n (fCons g gs) (wTCons w ws) := fun ρ θ us Q N q => by
  cases us with
  | nil => exact q.elim
  | cons u us =>
    obtain ⟨ρ1, θ1, e1, s1, q1⟩ := h ρ θ u _ N q
    obtain ⟨ρ2, θ2, e2, s2, q2⟩ := hs ρ1 θ1 us Q N q1
    exact ⟨ρ2, θ2, fun M => by rw [U.dl]; unfold fCons; simp only [e1, Out.bind_ok, e2], fun M s => s2 M (s1 M s), q2⟩
theorem stu_tup {k : Nat} {gs : FGs} {ws : List U → Env → W Env} (hs : STus n gs ws) : STu n (fTup k gs) (wUnp k ws) := fun ρ θ u Q N q => by
  cases u with
  | tup us =>
    unfold wUnp at q
    simp only at q
    split at q
    · rename_i hl
      obtain ⟨ρ2, θ2, e2, s2, q2⟩ := hs ρ θ us Q N q
      refine ⟨ρ2, θ2, fun M => ?_, s2, q2⟩
      rw [U.d]
      unfold fTup
      simp only [dl_len, hl, if_true]
      exact e2 M
    · exact q.elim
  | _ => exact q.elim
end
structure SC (n : Nat) (c : CF) (q : WF) : Prop where
  w : SI n c.w q.w
  g : STu n c.g q.g
  t : SB n c.t q.t
  vs : c.vs = q.vs
def Px1 (M : PM) (Q : List U → Prop) : Unit → PM → Prop := fun _ M' => ∃ M2 acc, M' = M2 ++ [.lst (U.dl acc)] ∧ Eqv M M2 ∧ Q acc
def InS (n m : Nat) (b : Rho → PM → Out Unit) (wb : Env → List U → W (List U)) : Prop := ∀ ρ M θ acc Q N, Sim n ρ M θ → M.length = m → wb θ acc Q N → Wp (b ρ (M ++ [.lst (U.dl acc)])) (Px1 M Q) (Nx M N)
section
variable {n m : Nat} {N : XQ} {Q : List U → Prop}
theorem Nx.up {M : PM} {mo : MO} {c : Value} {fs : Option (List (Str × D))} {M' : PM} (h : Nx (M ++ [mo]) N c fs M') : Nx M N c fs M' :=
  ⟨⟨h.1.hd, by have := h.1.len; simp at this; omega, fun k h1 h2 => by rw [h.1.eq k h1 (by simp; omega), List.getElem?_append_left h2]⟩, h.2⟩
theorem Px1.tr {M M2 : PM} {u : Unit} {M' : PM} (e : Eqv M M2) (h : Px1 M2 Q u M') : Px1 M Q u M' := by
  obtain ⟨M3, acc, h1, h2, h3⟩ := h
  exact ⟨M3, acc, h1, e.trans h2, h3⟩
theorem chain1 {A B : Type} {R : PM → A → B → Prop} {K : B → Prop} {M : PM} {mo : MO} {o : Out A} {g : A → PM → Out Unit} (hp : 0 < M.length) (h : Wp o (Px (M ++ [mo]) R K) (Nx (M ++ [mo]) N)) (k : ∀ a M2 b, Eqv M M2 → R (M2 ++ [mo]) a b → K b → Wp (g a (M2 ++ [mo])) (Px1 M2 Q) (Nx M2 N)) : Wp (o.bind g) (Px1 M Q) (Nx M N) := by
  cases o with
  | bad => exact h.elim
  | exn c fs M' => exact Nx.up h
  | ok a M' =>
    obtain ⟨e, b, r, q⟩ := h
    obtain ⟨M2, rfl, e2⟩ := eqv_snoc hp e
    exact (k a M2 b e2 r q).mono (fun _ _ h => Px1.tr e2 h) fun _ _ _ h => Nx.tr e2 h
theorem each_ok {g : FG} {wg : U → Env → W Env} {t : FT} {wt : Env → W Bool} {b : Rho → PM → Out Unit} {wb : Env → List U → W (List U)} (hg : STu n g wg) (ht : SB n t wt) (hb : InS n m b wb) {ρ : Rho} {θ : Env} :
    ∀ (us acc : List U) (M : PM) (Q : List U → Prop), Sim n ρ M θ → M.length = m → wEachA wg wt wb θ us acc Q N → Wp (lcEach g t b ρ (U.dl us) (M ++ [.lst (U.dl acc)])) (Px1 M Q) (Nx M N) := by
  intro us
  induction us with
  | nil => exact fun acc M Q s hm q => ⟨M, acc, rfl, Eqv.refl s.hd, q⟩
  | cons u us ih =>
    intro acc M Q s hm q
    have s1 := s.snoc (lst_cl acc)
    obtain ⟨ρ1, θ1, e1, s2, q1⟩ := hg ρ θ u _ N q
    rw [U.dl]
    unfold lcEach
    rw [e1, Out.bind_ok]
    refine chain1 s.hd.pos (ht ρ1 _ θ1 _ N (s2 _ s1) q1) fun b' M2 b2 e2 r2 q2 => ?_
    cases r2
    have hm2 : M2.length = m := e2.len.trans hm
    cases b' with
    | false =>
      rw [if_neg Bool.false_ne_true] at q2 ⊢
      exact ih acc M2 Q (s.eqv e2) hm2 q2
    | true =>
      rw [if_pos rfl] at q2 ⊢
      have s3 : Sim n ρ1 M2 θ1 := s2 _ (s.eqv e2)
      have h3 := hb ρ1 M2 θ1 acc _ N s3 hm2 q2
      cases ho : b ρ1 (M2 ++ [.lst (U.dl acc)]) with
      | bad => rw [ho] at h3; exact h3.elim
      | exn c fs M4 => rw [ho] at h3; exact h3
      | ok u1 M4 =>
        rw [ho] at h3
        obtain ⟨M5, acc', rfl, e5, q5⟩ := h3
        exact (ih acc' M5 Q ((s.eqv e2).eqv e5) (e5.len.trans hm2) q5).mono (fun _ _ h => Px1.tr e5 h) fun _ _ _ h => Nx.tr e5 h
theorem inN_ok {f : FE} {wf : Env → W U} (hf : SP n f wf) : ∀ (r : List CF) (q : List WF), r.length = q.length → (∀ p ∈ r.zip q, SC n p.1 p.2) → InS n m (lcIn m f r) (wIn wf q)
  | [], [], _, _ => fun ρ M θ acc Q N s hm q => by
    refine chain1 s.hd.pos (hf ρ _ θ _ N (s.snoc (lst_cl acc)) q) fun y M2 y' e2 r2 q2 => ?_
    cases r2
    have hm2 : M2.length = m := e2.len.trans hm
    have e6 : (M2 ++ [MO.lst (U.dl acc)])[m]? = some (.lst (U.dl acc)) := by rw [← hm2]; simp
    unfold lcPut
    simp only [e6]
    rw [if_pos (show (U.dl acc).length < line by rw [dl_len]; exact q2.1)]
    refine ⟨M2, acc ++ [y'], ?_, Eqv.refl e2.hd, q2.2⟩
    rw [← hm2, List.set_append_right _ _ (Nat.le_refl _), Nat.sub_self, dl_app]; rfl
  | c :: r, w :: q, hl, hr => fun ρ M θ acc Q N s hm h => by
    have sc := hr (c, w) (List.mem_cons_self ..)
    refine chain1 s.hd.pos (sc.w ρ _ θ _ N (s.snoc (lst_cl acc)) h) fun ds M2 us e2 r2 q2 => ?_
    subst r2
    have s3 : Sim n (wipeR ρ c.vs) M2 (kill θ c.vs) := (s.eqv e2).wipe c.vs
    rw [← sc.vs] at q2
    exact each_ok sc.g sc.t (inN_ok hf r q (by simpa using hl) fun p hp => hr p (List.mem_cons_of_mem _ hp)) us acc M2 Q s3 (e2.len.trans hm) q2
  | [], _ :: _, hl, _ => by simp at hl
  | _ :: _, [], hl, _ => by simp at hl
theorem sp_lcn {f : FE} {wf : Env → W U} {c : CF} {w : WF} {r : List CF} {q : List WF} (sc : SC n c w) (hl : r.length = q.length) (hr : ∀ p ∈ r.zip q, SC n p.1 p.2) (hf : SP n f wf) : SP n (pLcN c r f) (wLcN w q wf) := fun ρ M θ Q N s h =>
  Wp.chain (sc.w ρ M θ _ N s h) fun ds M1 us e1 r1 q1 => by
    subst r1
    have q1' : wEachA w.g w.t (wIn wf q) (kill θ c.vs) us [] (fun acc => Q (.lst acc)) N := by rw [sc.vs]; exact q1
    have h2 := each_ok (m := M1.length) sc.g sc.t (inN_ok hf r q hl hr) us [] M1 (fun acc => Q (.lst acc)) ((s.eqv e1).wipe c.vs) rfl q1'
    cases ho : lcEach c.g c.t (lcIn M1.length f r) (wipeR ρ c.vs) (U.dl us) (M1 ++ [.lst (U.dl [])]) with
    | bad => rw [ho] at h2; exact h2.elim
    | exn cl fs M4 =>
      rw [ho] at h2
      have ho' : lcEach c.g c.t (lcIn M1.length f r) (wipeR ρ c.vs) (U.dl us) (M1 ++ [.lst []]) = .exn cl fs M4 := ho
      rw [ho']
      exact h2
    | ok u1 M4 =>
      rw [ho] at h2
      have ho' : lcEach c.g c.t (lcIn M1.length f r) (wipeR ρ c.vs) (U.dl us) (M1 ++ [.lst []]) = .ok u1 M4 := ho
      obtain ⟨M5, acc, rfl, e5, q5⟩ := h2
      rw [ho', Out.bind_ok]
      unfold lcEnd
      have e6 : (M5 ++ [MO.lst (U.dl acc)])[M1.length]? = some (.lst (U.dl acc)) := by rw [← e5.len]; simp
      have e7 : (M5 ++ [MO.lst (U.dl acc)]).take M1.length = M5 := by rw [← e5.len]; simp
      have hp := e5.hd.pos
      have hl5 := e5.len
      simp only [e6, e7]
      rw [if_pos ⟨by simp; omega, clL_mono (by omega) _ (cl_dl acc), List.all_eq_true.mpr fun x hx => clMO_mono (by omega) x (List.all_eq_true.mp e5.hd.cl x hx)⟩]
      exact ⟨e5, .lst acc, rfl, q5⟩
theorem scs_nil : ∀ p ∈ ([] : List CF).zip ([] : List WF), SC n p.1 p.2 := fun p hp => absurd hp List.not_mem_nil
theorem scs_cons {c : CF} {w : WF} {r : List CF} {q : List WF} (h : SC n c w) (t : ∀ p ∈ r.zip q, SC n p.1 p.2) : ∀ p ∈ (c :: r).zip (w :: q), SC n p.1 p.2 := fun p hp => by
  rw [List.zip_cons_cons] at hp
  rcases List.mem_cons.mp hp with z | z
  · rw [z]; exact h
  · exact t p z
/-! worked out -/
variable {θ : Env}
theorem x_LcN (c : WF) (r : List WF) (f : Env → W U) : wLcN c r f θ = bind (c.w θ) fun us => bind (wEachA c.g c.t (wIn f r) (kill θ c.vs) us []) fun acc => ret (.lst acc) := rfl
theorem x_InN (f : Env → W U) (acc : List U) : wIn f [] θ acc = bind (f θ) fun y => guard (acc.length < 16777216) (ret (acc ++ [y])) := rfl
theorem x_InC (c : WF) (r : List WF) (f : Env → W U) (acc : List U) : wIn f (c :: r) θ acc = bind (c.w θ) fun us => wEachA c.g c.t (wIn f r) (kill θ c.vs) us acc := rfl
theorem x_EaN (g : U → Env → W Env) (t : Env → W Bool) (body : Env → List U → W (List U)) (acc : List U) : wEachA g t body θ [] acc = ret acc := rfl
theorem x_EaC (g : U → Env → W Env) (t : Env → W Bool) (body : Env → List U → W (List U)) (x : U) (xs acc : List U) : wEachA g t body θ (x :: xs) acc = bind (g x θ) fun θ1 => bind (t θ1) fun b => if b = true then bind (body θ1 acc) fun acc' => wEachA g t body θ xs acc' else wEachA g t body θ xs acc := rfl
end
end Pu

set_option Elab.async false
set_option linter.all false
set_option maxRecDepth 100000
set_option maxHeartbeats 2000000
/-! y = TABLE[e]; z = y(..): a function out of a dict of the module -/
namespace Pd
open PySem L2
structure DispD (P : Program) (w : World) (K : PySem.W.Frag) (mg : Str → Option Value) (base : Heap) (x : Str) (k : Nat) (T : List (Str × (List D → PM → Out D))) : Prop where
  ex : ∃ (d : Addr) (es : Array DictEntry) (n : Nat) (L : List (Str × Addr × (List D → PM → Out D))), mg x = some (.ref d) ∧ K.lookup d = some ⟨.type "dict", none, .dict es n, #[]⟩ ∧ PySem.W.KeysLit w.params es.toList ∧
    T = L.map (fun q => (q.1, q.2.2)) ∧ (L.map fun q => q.2.1).Nodup ∧ ∀ q ∈ L, PySem.W.nsIn K d q.1 = some (some (.ref q.2.1)) ∧ Held P w K mg base k q.2.1 (spP K q.2.2)
def tabF (T : List (Str × (List D → PM → Out D))) (z : Str) : Option (List D → PM → Out D) := (T.find? fun q => decide (q.1 = z)).map (·.2)
def dispK (i j : Nat) (fa : FA) (ρ : Rho) (M1 : PM) : Option (List D → PM → Out D) → Out Fl
  | some Φ => if i < ρ.length then (fa (ρ.set i none) M1).bind fun ds M2 => (Φ ds M2).bind fun r M3 => .ok (.nx ((ρ.set i none).set j (some r))) M3 else .bad
  | none => .bad
def dispS (i j : Nat) (T : List (Str × (List D → PM → Out D))) (fa : FA) (ρ : Rho) : D → PM → Out Fl
  | .str z, M1 => dispK i j fa ρ M1 (tabF T z)
  | _, _ => .bad
def sDisp (i j : Nat) (T : List (Str × (List D → PM → Out D))) (fe : FE) (fa : FA) : FS := fun ρ M => (fe ρ M).bind (dispS i j T fa ρ)
theorem EnvR.gone {K : PySem.W.Frag} {α : List Addr} {H : Hp} {ρ : Rho} {σ : L2.St} (e : EnvR K α H ρ σ) (i : Nat) (v : Option V) : EnvR K α H (ρ.set i none) (σ.set i v) := by
  refine ⟨by rw [List.length_set, List.length_set]; exact e.1, fun j d h => ?_⟩
  by_cases hij : i = j
  · subst hij
    by_cases hl : i < ρ.length
    · rw [List.getElem?_set_self hl] at h; cases h
    · rw [List.set_eq_of_length_le (by omega)] at h
      exact absurd (List.getElem?_eq_some_iff.mp h).1 hl
  · rw [List.getElem?_set_ne hij] at h ⊢
    exact e.2 j d h
theorem find_addr {L : List (Str × Addr × (List D → PM → Out D))} (nd : (L.map fun q => q.2.1).Nodup) {q : Str × Addr × (List D → PM → Out D)} (h : q ∈ L) : L.find? (fun p => decide (p.2.1 = q.2.1)) = some q := by
  induction L with
  | nil => cases h
  | cons p r ih =>
    rw [List.map_cons, List.nodup_cons] at nd
    by_cases e : p.2.1 = q.2.1
    · rw [List.find?_cons_of_pos (by simpa using e)]
      rcases List.mem_cons.mp h with z | z
      · rw [z]
      · exact absurd (List.mem_map_of_mem (f := fun q => q.2.1) z) (by rw [← e]; exact nd.1)
    · rw [List.find?_cons_of_neg (by simpa using e)]
      rcases List.mem_cons.mp h with z | z
      · rw [z] at e; exact absurd rfl e
      · exact ih nd.2 z
section
variable {X : Cx} {x y z : Str} {e a : Expr} {as : List Expr} {sts : List Stmt} {px py py2 pz ps pc p1 p2 : Pos} {k i j : Nat} {T : List (Str × (List D → PM → Out D))} {fe : FE} {fa : FA} {g : FS}
theorem pdb_disp (i j : Nat) (D : DispD X.prog X.w X.K X.mg X.base x k T) (hr : Room k X.A) (hg : Gl X x) (nd : X.N.Nodup) (he : PD X E0 e fe) (ha : PDA X E0 (a :: as) fa) (hb : PDB X E0 sts g)
    (hd : (x == ("__debug__" : Str)) = false := by decide) (hix : PlainIx e := by exact fun _ _ => rfl)
    (hi : X.N[i]? = some y := by rfl) (hj : X.N[j]? = some z := by rfl) (ly : Loc X.env.scope y := by first | exact Or.inl rfl | exact Or.inr rfl) (lz : Loc X.env.scope z := by first | exact Or.inl rfl | exact Or.inr rfl)
    (vy : Vis X.env.scope y := by first | exact Or.inl rfl | exact Or.inr (Or.inl rfl)) (sy : swapsWith (.Subscript (.Name x px) e ps) (some (.Name y py)) p1.line X.env = pure false := by rfl)
    (sz : swapsWith (.Call (.Name y py2) (a :: as) [] pc) (some (.Name z pz)) p2.line X.env = pure false := by rfl)
    (fy : X.fn y = true ∨ X.env.scope.names.lookup y = some .local := by first | exact .inl rfl | exact .inr rfl | assumption) (fz : X.fn z = true ∨ X.env.scope.names.lookup z = some .local := by first | exact .inl rfl | exact .inr rfl | assumption)
    (d2 : (y == ("__debug__" : Str)) = false := by decide) (d3 : (y == ("__classdict__" : Str)) = false := by decide)
    (st : starEach (a :: as) X.env = (false, eval a X.env) :: starEach as X.env := by rfl) (pl : (backTo pc (starEach as X.env)).any (·.1) = false := by rfl) :
    PDB X E0 (.Assign [.Name y py] (.Subscript (.Name x px) e ps) p1 :: .Assign [.Name z pz] (.Call (.Name y py2) (a :: as) [] pc) p2 :: sts) (sSeq (sDisp i j T fe fa) g) := by
  obtain ⟨d, es, n, L, hm, hk, hlit, rfl, ndL, hL⟩ := D.ex
  obtain ⟨te, he, re⟩ := he
  obtain ⟨ta, ha, ra⟩ := ha
  obtain ⟨tb, hb, rb⟩ := hb
  let S : Addr → Option Sp := fun f => (L.find? fun p => decide (p.2.1 = f)).map fun q => spP X.K q.2.2
  have hS : ∀ f sp, S f = some sp → Held X.prog X.w X.K X.mg X.base k f sp := fun f sp h => by
    obtain ⟨q, hq, rfl⟩ := Option.map_eq_some_iff.mp h
    have h1 := List.mem_of_find?_eq_some hq
    have h2 := List.find?_some hq
    rw [decide_eq_true_eq] at h2
    rw [← h2]
    exact (hL q h1).2
  have s1 : PS X (.Assign [.Name y py] (.Subscript (.Name x px) e ps) p1) (tAsg (tOp (rIxD X.K X.w) (tC (.ref d)) te) (gName i)) := ps_set nd hi ly (pe_ix ix_kdict (pe_glob hg hm rfl hd) he hix) sy fy
  have s2 : PS X (.Assign [.Name z pz] (.Call (.Name y py2) (a :: as) [] pc) p2) (tAsg (tCallA i S ta) (gName j)) := ps_set nd hj lz (pe_callA hS hr hi vy ha d2 d3 st pl) sz fz
  refine ⟨_, pss_cons s1 (pss_cons s2 hb), fun ρ σ H α M Dn en w h => ?_⟩
  have h' := h
  unfold sSeq sDisp at h'
  rw [Out.bind_bind] at h'
  show te σ H fun y H1 => rIxD X.K X.w (.ref d) y H1 fun v H2 => tAsg (tCallA i S ta) (gName j) { Dn with nx := tb Dn } (σ.set i (some v)) H2
  refine re ρ σ H α M _ en w (bnd h' fun dv M1 v α1 H1 _ s1 w1 r1 q => ?_)
  cases dv with
  | str zz =>
    cases r1
    replace q : Post (FlR X.K) X.K α1 H1 (endQ Dn) E0 ((dispK i j fa ρ M1 (tabF (L.map fun q => (q.1, q.2.2)) zz)).bind _) := q
    cases hΦ : tabF (L.map fun q => (q.1, q.2.2)) zz with
    | none => rw [hΦ] at q; exact q.elim
    | some Φ =>
      rw [hΦ] at q
      unfold dispK at q
      by_cases hl : i < ρ.length
      · simp only [hl, if_true] at q
        unfold tabF at hΦ
        obtain ⟨q0, hq0, rfl⟩ := Option.map_eq_some_iff.mp hΦ
        have m0 := List.mem_of_find?_eq_some hq0
        have e0 := List.find?_some hq0
        rw [decide_eq_true_eq] at e0
        obtain ⟨q1, hq1, rfl⟩ := List.mem_map.mp m0
        simp only at e0
        subst e0
        obtain ⟨k1, k2⟩ := hL q1 hq1
        refine ⟨d, q1.1, .ref q1.2.1, rfl, rfl, ⟨es, n, _, hk, hlit, k1, rfl⟩, ?_⟩
        refine ⟨q1.2.1, spP X.K q1.2.2, List.getElem?_set_self (by rw [← en.1]; exact hl), ?_, ?_⟩
        · show (L.find? fun p => decide (p.2.1 = q1.2.1)).map (fun q => spP X.K q.2.2) = _
          rw [find_addr ndL hq1]; rfl
        · rw [Out.bind_bind] at q
          refine ra (ρ.set i none) (σ.set i (some (.ref q1.2.1))) H1 α1 M1 _ ((en.step s1).gone i _) w1 (bnd q fun ds M2 vs α2 H2 _ s2 w2 r2 q2 => ?_)
          rw [Out.bind_bind] at q2
          refine ⟨ds, α2, M2, w2, r2, bnd q2 fun r M3 v3 α3 H3 _ s3 w3 r3 q3 => ?_⟩
          rw [Out.bind_ok] at q3
          exact rb _ _ H3 α3 M3 Dn (((((en.step s1).gone i _).step s2).step s3).set r3) w3 q3
      · simp only [hl, if_false] at q
        exact q.elim
  | _ => exact q.elim
end
/-! a dict of the module whose values are defs -/
section
variable {P : Program} {w : World} {K : PySem.W.Frag} {mg : Str → Option Value} {base : Heap} {x : Str} {k : Nat}
def ZipG (K : PySem.W.Frag) (mg : Str → Option Value) (d : Addr) : List (Str × Str) → List Addr → Prop
  | [], [] => True
  | (z, y) :: L, f :: A => PySem.W.nsIn K d z = some (some (.ref f)) ∧ mg y = some (.ref f) ∧ ZipG K mg d L A
  | _, _ => False
structure TabG (K : PySem.W.Frag) (w : World) (mg : Str → Option Value) (x : Str) (L : List (Str × Str)) : Prop where
  ex : ∃ (d : Addr) (es : Array DictEntry) (n : Nat) (A : List Addr), mg x = some (.ref d) ∧ K.lookup d = some ⟨.type "dict", none, .dict es n, #[]⟩ ∧ PySem.W.KeysLit w.params es.toList ∧ A.Nodup ∧ ZipG K mg d L A
def CZ (P : Program) (w : World) (K : PySem.W.Frag) (mg : Str → Option Value) (base : Heap) (k : Nat) : List (Str × Str) → List (Str × (List D → PM → Out D)) → Prop
  | [], [] => True
  | (z, y) :: L, (z', Φ) :: T => z = z' ∧ Callee P w K mg base y k Φ ∧ CZ P w K mg base k L T
  | _, _ => False
theorem disp_zip {d : Addr} : ∀ (L : List (Str × Str)) (A : List Addr) (T : List (Str × (List D → PM → Out D))), ZipG K mg d L A → CZ P w K mg base k L T →
    ∃ M : List (Str × Addr × (List D → PM → Out D)), T = M.map (fun q => (q.1, q.2.2)) ∧ M.map (fun q => q.2.1) = A ∧ ∀ q ∈ M, PySem.W.nsIn K d q.1 = some (some (.ref q.2.1)) ∧ Held P w K mg base k q.2.1 (spP K q.2.2)
  | [], [], [], _, _ => ⟨[], rfl, rfl, fun q h => by cases h⟩
  | (z, y) :: L, f :: A, (z', Φ) :: T, hz, hc => by
    obtain ⟨h1, h2, h3⟩ := hz
    obtain ⟨rfl, c, hc⟩ := hc
    obtain ⟨M, e1, e2, e3⟩ := disp_zip L A T h3 hc
    obtain ⟨f', fd, ps, c1, c2, c3, c4⟩ := c.ex
    rw [h2] at c2
    cases c2
    refine ⟨(z, f, Φ) :: M, by rw [e1]; rfl, by rw [List.map_cons, e2], fun q hq => ?_⟩
    rcases List.mem_cons.mp hq with rfl | hq
    · exact ⟨h1, ⟨fd, ps, c1, c3, c4⟩⟩
    · exact e3 q hq
  | [], _ :: _, _, h, _ => h.elim
  | (_, _) :: _, [], _, h, _ => h.elim
  | [], [], _ :: _, _, h => h.elim
  | (_, _) :: _, _ :: _, [], _, h => h.elim
theorem disp_of {L : List (Str × Str)} {T : List (Str × (List D → PM → Out D))} (G : TabG K w mg x L) (C : CZ P w K mg base k L T) : DispD P w K mg base x k T := by
  obtain ⟨d, es, n, A, h1, h2, h3, h4, h5⟩ := G.ex
  obtain ⟨M, e1, e2, e3⟩ := disp_zip L A T h5 C
  exact ⟨d, es, n, M, h1, h2, h3, e1, by rw [e2]; exact h4, e3⟩
end
end Pd

set_option Elab.async false
set_option linter.all false
set_option maxRecDepth 100000
set_option maxHeartbeats 2000000
namespace Pu
open PySem L2 Pd
/-! ### a function out of a dict of the module -/
def tabW (T : List (Str × (List X → W U))) (z : Str) : Option (List X → W U) := (T.find? fun q => decide (q.1 = z)).map (·.2)
def wDispK (i j : Nat) (wa : Env → W (List X)) (θ : Env) : Option (List X → W U) → W WFl
  | some F => guard (i < θ.length) (bind (wa (θ.set i none)) fun xs => bind (F xs) fun r => ret (.nx ((θ.set i none).set j (some (.u r)))))
  | none => fail
def wDispS (i j : Nat) (T : List (Str × (List X → W U))) (wa : Env → W (List X)) (θ : Env) : U → W WFl
  | .str z => wDispK i j wa θ (tabW T z)
  | _ => fail
def wDisp (i j : Nat) (T : List (Str × (List X → W U))) (we : Env → W U) (wa : Env → W (List X)) : WS := fun θ => bind (we θ) (wDispS i j T wa θ)
def TabS (T : List (Str × (List D → PM → Out D))) (TW : List (Str × (List X → W U))) : Prop := ∀ z F, tabW TW z = some F → ∃ Φ, tabF T z = some Φ ∧ DefS Φ F
theorem tabs_nil : TabS [] [] := fun z F h => by cases h
theorem tabs_cons {z : Str} {Φ : List D → PM → Out D} {F : List X → W U} {T : List (Str × (List D → PM → Out D))} {TW : List (Str × (List X → W U))} (h : DefS Φ F) (t : TabS T TW) : TabS ((z, Φ) :: T) ((z, F) :: TW) := fun y G e => by
  unfold tabW at e
  unfold tabF
  by_cases c : z = y
  · rw [List.find?_cons_of_pos (by simpa using c)] at e ⊢
    cases e
    exact ⟨Φ, rfl, h⟩
  · rw [List.find?_cons_of_neg (by simpa using c)] at e ⊢
    exact t y G e
section
variable {n : Nat}
theorem ss_disp {T : List (Str × (List D → PM → Out D))} {TW : List (Str × (List X → W U))} {fe : FE} {fa : FA} {we : Env → W U} {wa : Env → W (List X)} (i j : Nat) (tb : TabS T TW) (he : SP n fe we) (ha : SX RXs n fa wa) : SS n (sDisp i j T fe fa) (wDisp i j TW we wa) := fun ρ M θ Q N s q =>
  Wp.chainS s.nM (he ρ M θ _ N s q) fun d M1 u e1 r1 q1 => by
    cases r1
    cases u with
    | str z =>
      have s1 := s.eqv e1
      replace q1 : wDispK i j wa θ (tabW TW z) Q N := q1
      show Wp (dispK i j fa ρ M1 (tabF T z)) _ _
      cases hF : tabW TW z with
      | none => rw [hF] at q1; exact q1.elim
      | some F =>
        rw [hF] at q1
        obtain ⟨Φ, hΦ, hd⟩ := tb z F hF
        obtain ⟨hl, q1⟩ := q1
        rw [hΦ]
        unfold dispK
        simp only [show i < ρ.length by rw [s.len]; exact hl, if_true]
        have s2 := s1.wipe1 i
        exact Wp.chainS s1.nM (ha _ M1 _ _ N s2 q1) fun ds M2 xs e2 r2 q2 => Wp.chainS (s1.eqv e2).nM (hd ds xs M2 _ N e2.hd r2 q2) fun r M3 u3 e3 r3 q3 => by
          cases r3
          have s3 := ((s2.eqv e2).eqv e3).set j (u := u3)
          exact Wp.nowS s3.hd (fr_nx s3) q3
    | _ => exact q1.elim
end
section
variable {θ : Env} {i j : Nat} {T : List (Str × (List X → W U))} {we : Env → W U} {wa : Env → W (List X)}
theorem x_Disp : wDisp i j T we wa θ = bind (we θ) (wDispS i j T wa θ) := rfl
theorem x_DispS (z : Str) : wDispS i j T wa θ (.str z) = wDispK i j wa θ (tabW T z) := rfl
theorem x_DispK (F : List X → W U) : wDispK i j wa θ (some F) = guard (i < θ.length) (bind (wa (θ.set i none)) fun xs => bind (F xs) fun r => ret (.nx ((θ.set i none).set j (some (.u r))))) := rfl
end
end Pu

set_option Elab.async false
set_option linter.all false
set_option maxRecDepth 100000
set_option maxHeartbeats 2000000
/-! lists and tuples compared by == -/
namespace Pd
open PySem L2
mutual
def pyD : D → Option PyData
  | .non => some .none
  | .bl b => some (.bool b)
  | .int i => some (.int i)
  | .str x => some (.str x)
  | .tup ds => (pyDs ds).map .tuple
  | .lst ds => (pyDs ds).map .list
  | .rol ds => (pyDs ds).map .list
  | _ => none
def pyDs : List D → Option (List PyData)
  | [] => some []
  | d :: r => match pyD d, pyDs r with
    | some x, some xs => some (x :: xs)
    | _, _ => none
end
def pyM (M : PM) : D → Option PyData
  | .adr i => match M[i]? with
    | some (.lst ds) => (pyDs ds).map .list
    | _ => none
  | d => pyD d
def gEqQ : PM → D → D → Out D := fun M a b => match pyM M a, pyM M b with
  | some x, some y => if SeqAt.shaped x = true ∧ SeqAt.shaped y = true then .ok (.bl (PyData.eqv x y)) M else .bad
  | _, _ => .bad
def gNeQ : PM → D → D → Out D := fun M a b => match pyM M a, pyM M b with
  | some x, some y => if SeqAt.shaped x = true ∧ SeqAt.shaped y = true then .ok (.bl (!PyData.eqv x y)) M else .bad
  | _, _ => .bad
section
variable {K : PySem.W.Frag} {E : XK} {X : Cx}
mutual
theorem pyD_dp {α : List Addr} {H : Hp} : ∀ (d : D) (v : V) (x : PyData), Rep K α H d v → pyD d = some x → Dp K H v x
  | .non, _, _, .non, e => by cases e; exact .non
  | .bl b, _, _, .bl _, e => by cases e; exact .bl b
  | .int i, _, _, .int _, e => by cases e; exact .int i
  | .str z, _, _, .str _, e => by cases e; exact .str z
  | .tup ds, _, x, .tup t rs, e => by
    rw [pyD] at e
    obtain ⟨xs, h, rfl⟩ := Option.map_eq_some_iff.mp e
    exact .tup t.sq (pyDs_dp ds _ xs rs h)
  | .lst ds, _, x, .lst t rs, e => by
    rw [pyD] at e
    obtain ⟨xs, h, rfl⟩ := Option.map_eq_some_iff.mp e
    exact .lst t.sq (pyDs_dp ds _ xs rs h)
  | .rol ds, _, x, .rol t rs, e => by
    rw [pyD] at e
    obtain ⟨xs, h, rfl⟩ := Option.map_eq_some_iff.mp e
    exact .lst t.sq (pyDs_dp ds _ xs rs h)
  | .adr _, _, _, _, e => by cases e
  | .raw _, _, _, _, e => by cases e
  | .xcp _ _ _ _, _, _, _, e => by cases e
theorem pyDs_dp {α : List Addr} {H : Hp} : ∀ (ds : List D) (vs : List V) (xs : List PyData), RepL K α H ds vs → pyDs ds = some xs → DpAll K H vs xs
  | [], _, _, .nil, e => by cases e; exact .nil
  | d :: r, _, xs, .cons r1 rs, e => by
    rw [pyDs] at e
    split at e
    · rename_i x ys h1 h2
      cases e
      exact .cons (pyD_dp d _ x r1 h1) (pyDs_dp r _ ys rs h2)
    · cases e
end
theorem pyM_dp {α : List Addr} {H : Hp} {M : PM} {d : D} {v : V} {x : PyData} (w : Wd K α M H) (r : Rep K α H d v) (e : pyM M d = some x) : Dp K H v x := by
  cases d with
  | adr i =>
    have e' : (match M[i]? with | some (.lst ds) => (pyDs ds).map PyData.list | _ => none) = some x := e
    split at e'
    · rename_i ds hm
      obtain ⟨xs, h, rfl⟩ := Option.map_eq_some_iff.mp e'
      cases r with
      | adr ha =>
        obtain ⟨a', ea, vs, ev, rv⟩ := w.ob _ _ hm
        rw [ha] at ea
        cases ea
        exact .lst (.of ev) (pyDs_dp ds _ xs rv h)
    · cases e'
  | _ => exact pyD_dp _ _ _ r e
theorem od_eqQ : OpD K E (rEqD K) gEqQ := fun α H M a b x y Q w ra rb q => by
  unfold gEqQ at q
  split at q
  · rename_i p r h1 h2
    obtain ⟨⟨d1, d2⟩, q⟩ := ifb q
    exact ⟨p, r, pyM_dp w ra h1, pyM_dp w rb h2, d1, d2, q.now w (.bl _)⟩
  · exact q.elim
theorem od_neQ : OpD K E (rNeD K) gNeQ := fun α H M a b x y Q w ra rb q => by
  unfold gNeQ at q
  split at q
  · rename_i p r h1 h2
    obtain ⟨⟨d1, d2⟩, q⟩ := ifb q
    exact ⟨p, r, pyM_dp w ra h1, pyM_dp w rb h2, d1, d2, q.now w (.bl _)⟩
  · exact q.elim
theorem o_eqQ (hu : X.A.units + 64 < cLine) : Op2 X E (compareOp .Eq) gEqQ := ⟨_, op_eqD hu, od_eqQ⟩
theorem o_neQ (hu : X.A.units + 64 < cLine) : Op2 X E (compareOp .NotEq) gNeQ := ⟨_, op_neD hu, od_neQ⟩
end
end Pd
namespace Pu
open PySem L2 Pd
mutual
def pyU : U → Option PyData
  | .non => some .none
  | .bl b => some (.bool b)
  | .int i => some (.int i)
  | .str x => some (.str x)
  | .tup ds => (pyUs ds).map .tuple
  | .lst ds => (pyUs ds).map .list
  | _ => none
def pyUs : List U → Option (List PyData)
  | [] => some []
  | d :: r => match pyU d, pyUs r with
    | some x, some xs => some (x :: xs)
    | _, _ => none
end
mutual
theorem py_d : ∀ (u : U) (x : PyData), pyU u = some x → pyD u.d = some x
  | .non, _, e => e
  | .bl b, _, e => e
  | .int i, _, e => e
  | .str z, _, e => e
  | .tup us, x, e => by
    rw [pyU] at e
    obtain ⟨xs, h, rfl⟩ := Option.map_eq_some_iff.mp e
    rw [U.d, pyD, py_ds us xs h]; rfl
  | .lst us, x, e => by
    rw [pyU] at e
    obtain ⟨xs, h, rfl⟩ := Option.map_eq_some_iff.mp e
    rw [U.d, pyD, py_ds us xs h]; rfl
  | .st, _, e => by cases e
  | .rol _, _, e => by cases e
  | .ty _, _, e => by cases e
theorem py_ds : ∀ (us : List U) (xs : List PyData), pyUs us = some xs → pyDs (U.dl us) = some xs
  | [], _, e => e
  | u :: r, xs, e => by
    rw [pyUs] at e
    split at e
    · rename_i x ys h1 h2
      cases e
      rw [U.dl, pyDs, py_d u x h1, py_ds r ys h2]
    · cases e
end
theorem py_m {M : PM} {d : D} {u : U} {x : PyData} (r : RL M d u) (e : pyU u = some x) : pyM M d = some x := by
  rcases r with r | ⟨k, xs, h1, h2, h3, h4⟩
  · subst r
    have := py_d u x e
    cases u <;> first | exact this | cases e
  · subst h2 h4
    show (match M[k]? with | some (.lst ds) => (pyDs ds).map PyData.list | _ => none) = some x
    rw [h3]
    rw [pyU] at e
    obtain ⟨ys, h, rfl⟩ := Option.map_eq_some_iff.mp e
    simp only [py_ds xs ys h, Option.map_some]
def eqQ (a b : U) : W Bool := bind (wo (pyU a)) fun x => bind (wo (pyU b)) fun y => guard (SeqAt.shaped x = true ∧ SeqAt.shaped y = true) (ret (PyData.eqv x y))
def uEqQ : U → U → W U := fun a b => bind (eqQ a b) fun r => ret (.bl r)
def uNeQ : U → U → W U := fun a b => bind (eqQ a b) fun r => ret (.bl (!r))
theorem ou_eqQ : OpU gEqQ uEqQ := fun M a b u v Q N ra rb q => by
  obtain ⟨x, e1, q⟩ := wo_ok q
  obtain ⟨y, e2, c, q⟩ := wo_ok q
  refine ⟨_, ?_, q⟩
  unfold gEqQ
  simp only [py_m ra e1, py_m rb e2]
  rw [if_pos c]; rfl
theorem ou_neQ : OpU gNeQ uNeQ := fun M a b u v Q N ra rb q => by
  obtain ⟨x, e1, q⟩ := wo_ok q
  obtain ⟨y, e2, c, q⟩ := wo_ok q
  refine ⟨_, ?_, q⟩
  unfold gNeQ
  simp only [py_m ra e1, py_m rb e2]
  rw [if_pos c]; rfl
/-! numbers -/
theorem pyUs_ints : ∀ ns : List Int, pyUs (ns.map .int) = some (ns.map .int)
  | [] => rfl
  | n :: ns => by rw [List.map_cons, pyUs, pyUs_ints ns]; rfl
theorem depth_ints : ∀ ns : List Int, PyData.depthAll (ns.map PyData.int) = 0
  | [] => rfl
  | n :: ns => by rw [List.map_cons, PyData.depthAll, depth_ints ns]; rfl
theorem lay_ints : ∀ ns : List Int, PyData.canLayAll0 (ns.map PyData.int) = true
  | [] => rfl
  | n :: ns => by rw [List.map_cons, PyData.canLayAll0, lay_ints ns]; rfl
theorem eqv_ints : ∀ ns ms : List Int, PyData.eqvAll (ns.map PyData.int) (ms.map PyData.int) = decide (ns = ms)
  | [], [] => by simp [PyData.eqvAll]
  | [], _ :: _ => by simp [PyData.eqvAll]
  | _ :: _, [] => by simp [PyData.eqvAll]
  | n :: ns, m :: ms => by
    rw [List.map_cons, List.map_cons, PyData.eqvAll, eqv_ints ns ms]
    by_cases h : n = m <;> simp [PyData.eqv, h]
theorem eqQ_L (ns ms : List Int) : eqQ (.lst (ns.map .int)) (.lst (ms.map .int)) = ret (decide (ns = ms)) := by
  unfold eqQ
  rw [show pyU (.lst (ns.map .int)) = some (.list (ns.map .int)) by rw [pyU, pyUs_ints]; rfl, show pyU (.lst (ms.map .int)) = some (.list (ms.map .int)) by rw [pyU, pyUs_ints]; rfl]
  rw [wo_some, bind_ret, wo_some, bind_ret, guard_true, PyData.eqv, eqv_ints]
  constructor <;> simp [SeqAt.shaped, PyData.canLay0, lay_ints, PyData.depth, depth_ints]
theorem eqQ_T (ns ms : List Int) : eqQ (.tup (ns.map .int)) (.tup (ms.map .int)) = ret (decide (ns = ms)) := by
  unfold eqQ
  rw [show pyU (.tup (ns.map .int)) = some (.tuple (ns.map .int)) by rw [pyU, pyUs_ints]; rfl, show pyU (.tup (ms.map .int)) = some (.tuple (ms.map .int)) by rw [pyU, pyUs_ints]; rfl]
  rw [wo_some, bind_ret, wo_some, bind_ret, guard_true, PyData.eqv, eqv_ints]
  constructor <;> simp [SeqAt.shaped, PyData.canLay0, lay_ints, PyData.depth, depth_ints]
theorem v_eqQ0 (ns : List Int) : uEqQ (.lst (ns.map .int)) (.lst []) = ret (.bl (decide (ns = []))) := by
  unfold uEqQ
  rw [show (.lst [] : U) = .lst (([] : List Int).map .int) from rfl, eqQ_L]; rfl
end Pu

set_option Elab.async false
set_option linter.all false
set_option maxRecDepth 100000
set_option maxHeartbeats 1000000
/-! Ranges: the mathematics. -/
namespace Rm
open Pd
def Rg (l h s : Int) : Prop := (s = 0 ∧ l = h) ∨ (0 < s ∧ l < h ∧ s ∣ h - l)
theorem Rg.one (l : Int) : Rg l l 0 := .inl ⟨rfl, rfl⟩
theorem Rg.facts {l h s : Int} (r : Rg l h s) : 0 ≤ s ∧ l ≤ h ∧ l + s ≤ h ∧ s ∣ h - l := by
  rcases r with ⟨rfl, rfl⟩ | ⟨h1, h2, h3⟩
  · exact ⟨by omega, by omega, by omega, by simp⟩
  · have := Int.le_of_dvd (by omega) h3
    exact ⟨by omega, by omega, by omega, h3⟩
theorem Rg.pos {l h s : Int} (r : Rg l h s) (h1 : l < h) : 0 < s := by
  rcases r with ⟨rfl, rfl⟩ | ⟨h1, _⟩
  · omega
  · exact h1
theorem Rg.zero {l h s : Int} (r : Rg l h s) (h1 : ¬ l < h) : s = 0 ∧ h = l := by
  rcases r with ⟨rfl, rfl⟩ | ⟨_, h1, _⟩
  · exact ⟨rfl, rfl⟩
  · omega
theorem fmod_pos {a b : Int} (h : 0 < b) : a.fmod b = a % b := Int.fmod_eq_emod_of_nonneg _ (by omega)
theorem fdiv_pos {a b : Int} (h : 0 < b) : a.fdiv b = a / b := Int.fdiv_eq_ediv_of_nonneg _ (by omega)
/-! ### the greatest divisor; the hull of numbers -/
theorem gcdI_def (a b : Int) : gcdI a b = ((Int.gcd a b : Nat) : Int) := rfl
theorem gcdI_comm (a b : Int) : gcdI a b = gcdI b a := by rw [gcdI_def, gcdI_def, Int.gcd_comm]
theorem gcdI_zero (a : Int) : gcdI a 0 = (a.natAbs : Int) := by rw [gcdI_def, Int.gcd_zero_right]
theorem gcdI_nonneg (a b : Int) : 0 ≤ gcdI a b := by rw [gcdI_def]; omega
theorem gcdI_fmod (a b : Int) : gcdI b (a.fmod b) = gcdI a b := by
  rw [gcdI_def, gcdI_def, Int.fmod_def, Int.gcd_sub_mul_left_right, Int.gcd_comm]
theorem dvd_gcdI {k a b : Int} (h1 : k ∣ a) (h2 : k ∣ b) : k ∣ gcdI a b := by rw [gcdI_def]; exact Int.dvd_coe_gcd h1 h2
theorem gcdI_left (a b : Int) : gcdI a b ∣ a := by rw [gcdI_def]; exact Int.gcd_dvd_left ..
theorem gcdI_right (a b : Int) : gcdI a b ∣ b := by rw [gcdI_def]; exact Int.gcd_dvd_right ..
theorem fmod_small (a : Int) {b : Int} (h : b ≠ 0) : (a.fmod b).natAbs < b.natAbs := by
  by_cases hb : 0 < b
  · have := Int.fmod_lt_of_pos a hb
    have := Int.fmod_nonneg_of_pos a hb
    omega
  · have h1 : 0 < -b := by omega
    have h2 := Int.fmod_lt_of_pos (-a) h1
    have h3 := Int.fmod_nonneg_of_pos (-a) h1
    rw [Int.neg_fmod_neg] at h2 h3
    omega
def hullG (low : Int) (ns : List Int) : Int := ns.foldl (fun st n => gcdI (n - low) st) 0
theorem hullG_snoc (low : Int) (ns : List Int) (n : Int) : hullG low (ns ++ [n]) = gcdI (n - low) (hullG low ns) := by simp [hullG]
theorem hullG_dvd {low k : Int} (ns : List Int) (h : ∀ n ∈ ns, k ∣ n - low) : k ∣ hullG low ns := by
  unfold hullG
  suffices H : ∀ (ns : List Int) (st : Int), k ∣ st → (∀ n ∈ ns, k ∣ n - low) → k ∣ ns.foldl (fun st n => gcdI (n - low) st) st from H ns 0 (Int.dvd_zero _) h
  intro ns
  induction ns with
  | nil => intro st h0 _; exact h0
  | cons a ns ih => intro st h0 h1; exact ih _ (dvd_gcdI (h1 a (List.mem_cons_self ..)) h0) fun n hn => h1 n (List.mem_cons_of_mem _ hn)
theorem hullG_mem {low : Int} (ns : List Int) : ∀ n ∈ ns, hullG low ns ∣ n - low := by
  unfold hullG
  suffices H : ∀ (ns : List Int) (st : Int), (ns.foldl (fun st n => gcdI (n - low) st) st ∣ st) ∧ ∀ n ∈ ns, ns.foldl (fun st n => gcdI (n - low) st) st ∣ n - low from (H ns 0).2
  intro ns
  induction ns with
  | nil => intro st; exact ⟨Int.dvd_refl _, fun n h => by cases h⟩
  | cons a ns ih =>
    intro st
    obtain ⟨h1, h2⟩ := ih (gcdI (a - low) st)
    refine ⟨Int.dvd_trans h1 (gcdI_right _ _), fun n hn => ?_⟩
    rcases List.mem_cons.mp hn with rfl | hn
    · exact Int.dvd_trans h1 (gcdI_left _ _)
    · exact h2 n hn
theorem hullG_nonneg (low : Int) (ns : List Int) : 0 ≤ hullG low ns := by
  unfold hullG
  suffices H : ∀ (ns : List Int) (st : Int), 0 ≤ st → 0 ≤ ns.foldl (fun st n => gcdI (n - low) st) st from H ns 0 (by omega)
  intro ns
  induction ns with
  | nil => intro st h; exact h
  | cons a ns ih => intro st _; exact ih _ (gcdI_nonneg _ _)
theorem hullG_small {low : Int} {B : Nat} : ∀ (ns : List Int), (∀ n ∈ ns, (n - low).natAbs ≤ B) → (hullG low ns).natAbs ≤ B := fun ns h => by
  suffices H : ∀ (ns : List Int) (st : Int), st.natAbs ≤ B → (∀ n ∈ ns, (n - low).natAbs ≤ B) → (ns.foldl (fun st n => gcdI (n - low) st) st).natAbs ≤ B from H ns 0 (by simp) h
  intro ns
  induction ns with
  | nil => intro st h _; exact h
  | cons a ns ih =>
    intro st h0 h1
    refine ih _ ?_ fun n hn => h1 n (List.mem_cons_of_mem _ hn)
    show (gcdI (a - low) st).natAbs ≤ B
    have ha := h1 a (List.mem_cons_self ..)
    by_cases z : a - low = 0
    · rw [z, gcdI_comm, gcdI_zero]; omega
    · have h3 := Int.natAbs_dvd_natAbs.mpr (gcdI_left (a - low) st)
      have h4 := Nat.le_of_dvd (by omega) h3
      omega
theorem hullG_eq {low g : Int} {ns : List Int} (h0 : 0 ≤ g) (h1 : ∀ n ∈ ns, g ∣ n - low) (h2 : ∀ k : Int, (∀ n ∈ ns, k ∣ n - low) → k ∣ g) : hullG low ns = g :=
  Int.dvd_antisymm (hullG_nonneg _ _) h0 (h2 _ (hullG_mem ns)) (hullG_dvd ns h1)
theorem minI_eq {ns : List Int} {l : Int} (h1 : l ∈ ns) (h2 : ∀ n ∈ ns, l ≤ n) : minI ns = l := by
  have a := minI_le ns l h1
  have b := h2 _ (minI_mem ns (List.ne_nil_of_mem h1))
  omega
theorem maxI_eq {ns : List Int} {l : Int} (h1 : l ∈ ns) (h2 : ∀ n ∈ ns, n ≤ l) : maxI ns = l := by
  have a := maxI_ge ns l h1
  have b := h2 _ (maxI_mem ns (List.ne_nil_of_mem h1))
  omega
/-- the hull of numbers is a range -/
theorem hull_rg {ns : List Int} (hn : ns ≠ []) : Rg (minI ns) (maxI ns) (hullG (minI ns) ns) := by
  have h1 := minI_mem ns hn
  have h2 := maxI_mem ns hn
  have h3 := minI_le ns _ h2
  by_cases z : minI ns = maxI ns
  · refine .inl ⟨?_, z⟩
    refine hullG_eq (by omega) (fun n hm => ?_) fun k _ => Int.dvd_zero k
    have a := minI_le ns n hm
    have b := maxI_ge ns n hm
    rw [show n - minI ns = 0 by omega]; exact Int.dvd_zero _
  · refine .inr ⟨?_, by omega, hullG_mem ns _ h2⟩
    have h4 := hullG_nonneg (minI ns) ns
    by_cases z2 : hullG (minI ns) ns = 0
    · have h5 := hullG_mem (low := minI ns) ns _ h2
      rw [z2] at h5
      have := Int.zero_dvd.mp h5
      omega
    · omega
/-! ### the members of a range -/
def mem (l h s : Int) : List Int := if s = 0 then [l] else (List.range ((h - l) / s + 1).toNat).map fun (k : Nat) => l + (k : Int) * s
theorem mem_mem {l h s : Int} (r : Rg l h s) (n : Int) : n ∈ mem l h s ↔ l ≤ n ∧ n ≤ h ∧ s ∣ n - l := by
  unfold mem
  rcases r with ⟨rfl, rfl⟩ | ⟨h1, h2, h3⟩
  · rw [if_pos rfl, List.mem_singleton]
    constructor
    · rintro rfl; exact ⟨by omega, by omega, by simp⟩
    · rintro ⟨a, b, _⟩; omega
  · rw [if_neg (by omega), List.mem_map]
    constructor
    · rintro ⟨k, hk, rfl⟩
      rw [List.mem_range] at hk
      have h4 : (k : Int) ≤ (h - l) / s := by omega
      have h5 := Int.mul_le_mul_of_nonneg_right h4 (Int.le_of_lt h1)
      have h6 := Int.ediv_mul_cancel h3
      have h7 : 0 ≤ (k : Int) * s := Int.mul_nonneg (by omega) (by omega)
      exact ⟨by omega, by omega, ⟨k, by rw [Int.mul_comm s]; omega⟩⟩
    · rintro ⟨a, b, q, hq⟩
      have h4 : 0 ≤ q := by
        refine Int.le_of_mul_le_mul_left (a := s) ?_ h1
        omega
      have h5 : q ≤ (h - l) / s := by
        rw [Int.le_ediv_iff_mul_le h1, Int.mul_comm]; omega
      refine ⟨q.toNat, List.mem_range.mpr (by omega), ?_⟩
      rw [Int.toNat_of_nonneg h4, Int.mul_comm]; omega
theorem mem_ne {l h s : Int} (r : Rg l h s) : mem l h s ≠ [] := List.ne_nil_of_mem ((mem_mem r l).mpr ⟨by omega, by have := r.facts; omega, by simp⟩)
theorem mem_len {l h s : Int} (r : Rg l h s) : ((mem l h s).length : Int) ≤ h - l + 1 := by
  unfold mem
  rcases r with ⟨rfl, rfl⟩ | ⟨h1, h2, h3⟩
  · simp
  · rw [if_neg (by omega), List.length_map, List.length_range]
    have h4 := Int.ediv_mul_cancel h3
    have h5 : (h - l) / s ≤ h - l := by
      refine Int.ediv_le_of_le_mul h1 ?_
      have := Int.mul_le_mul_of_nonneg_left (show (1 : Int) ≤ s by omega) (show 0 ≤ h - l by omega)
      omega
    have h6 : 0 ≤ (h - l) / s := Int.ediv_nonneg (by omega) (by omega)
    omega
/-- numbers that are just the members of a range have its hull -/
theorem hull_of {l h s : Int} (r : Rg l h s) {ns : List Int} (hm : ∀ n, n ∈ ns ↔ l ≤ n ∧ n ≤ h ∧ s ∣ n - l) : ns ≠ [] ∧ minI ns = l ∧ maxI ns = h ∧ hullG l ns = s := by
  obtain ⟨a1, a2, a3, a4⟩ := r.facts
  have hl : l ∈ ns := (hm l).mpr ⟨by omega, by omega, by simp⟩
  have hh : h ∈ ns := (hm h).mpr ⟨by omega, by omega, a4⟩
  refine ⟨List.ne_nil_of_mem hl, minI_eq hl fun n hn => ((hm n).mp hn).1, maxI_eq hh fun n hn => ((hm n).mp hn).2.1, hullG_eq a1 (fun n hn => ((hm n).mp hn).2.2) fun k hk => ?_⟩
  have := hk (l + s) ((hm _).mpr ⟨by omega, a3, by rw [show l + s - l = s by omega]; exact Int.dvd_refl s⟩)
  rwa [show l + s - l = s by omega] at this
/-! ### has, within, join -/
def hasB (l h s n : Int) : Bool := decide (l ≤ n) && decide (n ≤ h) && decide (s ∣ n - l)
theorem hasB_iff {l h s n : Int} : hasB l h s n = true ↔ l ≤ n ∧ n ≤ h ∧ s ∣ n - l := by
  simp [hasB, and_assoc]
theorem hasB_mem {l h s : Int} (r : Rg l h s) (n : Int) : hasB l h s n = decide (n ∈ mem l h s) := by
  rw [Bool.eq_iff_iff, hasB_iff, decide_eq_true_eq, mem_mem r]
def withinB (l h s l2 h2 s2 : Int) : Bool := decide (l2 ≤ l) && decide (h ≤ h2) && decide (s2 ∣ l - l2) && decide (s2 ∣ s)
theorem withinB_iff {l h s l2 h2 s2 : Int} : withinB l h s l2 h2 s2 = true ↔ l2 ≤ l ∧ h ≤ h2 ∧ s2 ∣ l - l2 ∧ s2 ∣ s := by
  simp [withinB, and_assoc]
theorem within_all {l h s l2 h2 s2 : Int} (r : Rg l h s) (r2 : Rg l2 h2 s2) : withinB l h s l2 h2 s2 = true ↔ ∀ n ∈ mem l h s, n ∈ mem l2 h2 s2 := by
  rw [withinB_iff]
  obtain ⟨a1, a2, a3, a4⟩ := r.facts
  constructor
  · rintro ⟨h1, h2', h3, h4⟩ n hn
    obtain ⟨b1, b2, b3⟩ := (mem_mem r n).mp hn
    refine (mem_mem r2 n).mpr ⟨by omega, by omega, ?_⟩
    rw [show n - l2 = (n - l) + (l - l2) by omega]
    exact Int.dvd_add (Int.dvd_trans h4 b3) h3
  · intro hh
    obtain ⟨c1, c2, c3⟩ := (mem_mem r2 _).mp (hh l ((mem_mem r _).mpr ⟨by omega, by omega, by simp⟩))
    obtain ⟨d1, d2, d3⟩ := (mem_mem r2 _).mp (hh h ((mem_mem r _).mpr ⟨by omega, by omega, a4⟩))
    obtain ⟨e1, e2, e3⟩ := (mem_mem r2 _).mp (hh (l + s) ((mem_mem r _).mpr ⟨by omega, a3, by rw [show l + s - l = s by omega]; exact Int.dvd_refl s⟩))
    refine ⟨c1, d2, c3, ?_⟩
    rw [show s = (l + s - l2) - (l - l2) by omega]
    exact Int.dvd_sub e3 c3
def joS (l s l2 s2 : Int) : Int := gcdI (gcdI s s2) (l - l2)
theorem join_hull {l h s l2 h2 s2 : Int} (r : Rg l h s) (r2 : Rg l2 h2 s2) {ns : List Int} (hm : ∀ n, n ∈ ns ↔ n ∈ mem l h s ∨ n ∈ mem l2 h2 s2) :
    ns ≠ [] ∧ minI ns = min l l2 ∧ maxI ns = max h h2 ∧ hullG (min l l2) ns = joS l s l2 s2 := by
  obtain ⟨a1, a2, a3, a4⟩ := r.facts
  obtain ⟨c1, c2, c3, c4⟩ := r2.facts
  have ml : ∀ n, n ∈ ns → l ≤ n ∧ n ≤ h ∧ s ∣ n - l ∨ l2 ≤ n ∧ n ≤ h2 ∧ s2 ∣ n - l2 := fun n hn => by
    rcases (hm n).mp hn with q | q
    · exact .inl ((mem_mem r n).mp q)
    · exact .inr ((mem_mem r2 n).mp q)
  have i1 : ∀ n, l ≤ n ∧ n ≤ h ∧ s ∣ n - l → n ∈ ns := fun n q => (hm n).mpr (.inl ((mem_mem r n).mpr q))
  have i2 : ∀ n, l2 ≤ n ∧ n ≤ h2 ∧ s2 ∣ n - l2 → n ∈ ns := fun n q => (hm n).mpr (.inr ((mem_mem r2 n).mpr q))
  have k1 : l ∈ ns := i1 l ⟨by omega, by omega, by simp⟩
  have k2 : l2 ∈ ns := i2 l2 ⟨by omega, by omega, by simp⟩
  have k3 : h ∈ ns := i1 h ⟨by omega, by omega, a4⟩
  have k4 : h2 ∈ ns := i2 h2 ⟨by omega, by omega, c4⟩
  have k5 : l + s ∈ ns := i1 _ ⟨by omega, a3, by rw [show l + s - l = s by omega]; exact Int.dvd_refl s⟩
  have k6 : l2 + s2 ∈ ns := i2 _ ⟨by omega, c3, by rw [show l2 + s2 - l2 = s2 by omega]; exact Int.dvd_refl s2⟩
  have g1 : joS l s l2 s2 ∣ s := Int.dvd_trans (gcdI_left _ _) (gcdI_left _ _)
  have g2 : joS l s l2 s2 ∣ s2 := Int.dvd_trans (gcdI_left _ _) (gcdI_right _ _)
  have g3 : joS l s l2 s2 ∣ l - l2 := gcdI_right _ _
  have d1 : joS l s l2 s2 ∣ l - min l l2 := by
    by_cases q : l ≤ l2
    · rw [show l - min l l2 = 0 by omega]; exact Int.dvd_zero _
    · rw [show l - min l l2 = l - l2 by omega]; exact g3
  have d2 : joS l s l2 s2 ∣ l2 - min l l2 := by
    by_cases q : l ≤ l2
    · rw [show l2 - min l l2 = -(l - l2) by omega]; exact Int.dvd_neg.mpr g3
    · rw [show l2 - min l l2 = 0 by omega]; exact Int.dvd_zero _
  refine ⟨List.ne_nil_of_mem k1, ?_, ?_, ?_⟩
  · refine minI_eq ?_ fun n hn => ?_
    · by_cases q : l ≤ l2
      · rw [show min l l2 = l by omega]; exact k1
      · rw [show min l l2 = l2 by omega]; exact k2
    · rcases ml n hn with q | q <;> omega
  · refine maxI_eq ?_ fun n hn => ?_
    · by_cases q : h ≤ h2
      · rw [show max h h2 = h2 by omega]; exact k4
      · rw [show max h h2 = h by omega]; exact k3
    · rcases ml n hn with q | q <;> omega
  · refine hullG_eq (gcdI_nonneg _ _) (fun n hn => ?_) fun k hk => ?_
    · rcases ml n hn with ⟨_, _, q⟩ | ⟨_, _, q⟩
      · rw [show n - min l l2 = (n - l) + (l - min l l2) by omega]; exact Int.dvd_add (Int.dvd_trans g1 q) d1
      · rw [show n - min l l2 = (n - l2) + (l2 - min l l2) by omega]; exact Int.dvd_add (Int.dvd_trans g2 q) d2
    · have b1 := hk l k1
      have b2 := hk (l + s) k5
      have b3 := hk l2 k2
      have b4 := hk (l2 + s2) k6
      refine dvd_gcdI (dvd_gcdI ?_ ?_) ?_
      · rw [show s = (l + s - min l l2) - (l - min l l2) by omega]; exact Int.dvd_sub b2 b1
      · rw [show s2 = (l2 + s2 - min l l2) - (l2 - min l l2) by omega]; exact Int.dvd_sub b4 b3
      · rw [show l - l2 = (l - min l l2) - (l2 - min l l2) by omega]; exact Int.dvd_sub b1 b3
/-! ### cuts -/
theorem cut_down {l h s n : Int} (r : Rg l h s) (h1 : l ≤ n) (h2 : n < h) : 0 < s ∧ 0 ≤ (n - l) % s ∧ (n - l) % s < s ∧ l ≤ n - (n - l) % s ∧ s ∣ n - (n - l) % s - l ∧ n - (n - l) % s = l + (n - l) / s * s := by
  have hs := r.pos (by omega)
  have e1 := Int.emod_nonneg (n - l) (show s ≠ 0 by omega)
  have e2 := Int.emod_lt_of_pos (n - l) hs
  have e3 := Int.emod_add_mul_ediv (n - l) s
  have e4 : 0 ≤ s * ((n - l) / s) := Int.mul_nonneg (by omega) (Int.ediv_nonneg (by omega) (by omega))
  refine ⟨hs, e1, e2, by omega, ⟨(n - l) / s, by omega⟩, ?_⟩
  rw [Int.mul_comm]; omega
theorem cut_up {l h s n : Int} (r : Rg l h s) (h1 : l < n) (h2 : n ≤ h) : 0 < s ∧ 0 ≤ (h - n) % s ∧ (h - n) % s < s ∧ n + (h - n) % s ≤ h ∧ s ∣ n + (h - n) % s - l ∧ n + (h - n) % s = h - (h - n) / s * s := by
  have hs := r.pos (by omega)
  obtain ⟨a1, a2, a3, a4⟩ := r.facts
  have e1 := Int.emod_nonneg (h - n) (show s ≠ 0 by omega)
  have e2 := Int.emod_lt_of_pos (h - n) hs
  have e3 := Int.emod_add_mul_ediv (h - n) s
  have e4 : 0 ≤ s * ((h - n) / s) := Int.mul_nonneg (by omega) (Int.ediv_nonneg (by omega) (by omega))
  refine ⟨hs, e1, e2, by omega, ?_, ?_⟩
  · rw [show n + (h - n) % s - l = (h - l) - s * ((h - n) / s) by omega]
    exact Int.dvd_sub a4 (Int.dvd_mul_right _ _)
  · rw [Int.mul_comm]; omega
/-- the members up to n -/
theorem down_mem {l h s n : Int} (r : Rg l h s) (h1 : l ≤ n) (h2 : n < h) (x : Int) : (l ≤ x ∧ x ≤ n - (n - l) % s ∧ s ∣ x - l) ↔ (l ≤ x ∧ x ≤ h ∧ s ∣ x - l) ∧ x ≤ n := by
  obtain ⟨hs, e1, e2, e3, e4, e5⟩ := cut_down r h1 h2
  constructor
  · rintro ⟨a, b, c⟩; exact ⟨⟨a, by omega, c⟩, by omega⟩
  · rintro ⟨⟨a, _, c⟩, b⟩
    refine ⟨a, ?_, c⟩
    by_cases z : x ≤ n - (n - l) % s
    · exact z
    · have : s ∣ x - (n - (n - l) % s) := by
        rw [show x - (n - (n - l) % s) = (x - l) - (n - (n - l) % s - l) by omega]; exact Int.dvd_sub c e4
      have := Int.le_of_dvd (by omega) this
      omega
theorem up_mem {l h s n : Int} (r : Rg l h s) (h1 : l < n) (h2 : n ≤ h) (x : Int) : (n + (h - n) % s ≤ x ∧ x ≤ h ∧ s ∣ x - (n + (h - n) % s)) ↔ (l ≤ x ∧ x ≤ h ∧ s ∣ x - l) ∧ n ≤ x := by
  obtain ⟨hs, e1, e2, e3, e4, e5⟩ := cut_up r h1 h2
  have key : s ∣ x - (n + (h - n) % s) ↔ s ∣ x - l := by
    constructor
    · intro q; rw [show x - l = (x - (n + (h - n) % s)) + (n + (h - n) % s - l) by omega]; exact Int.dvd_add q e4
    · intro q; rw [show x - (n + (h - n) % s) = (x - l) - (n + (h - n) % s - l) by omega]; exact Int.dvd_sub q e4
  constructor
  · rintro ⟨a, b, c⟩; exact ⟨⟨by omega, b, key.mp c⟩, by omega⟩
  · rintro ⟨⟨a, b, c⟩, d⟩
    refine ⟨?_, b, key.mpr c⟩
    by_cases z : n + (h - n) % s ≤ x
    · exact z
    · have : s ∣ (n + (h - n) % s) - x := by
        rw [show (n + (h - n) % s) - x = (n + (h - n) % s - l) - (x - l) by omega]; exact Int.dvd_sub e4 c
      have := Int.le_of_dvd (by omega) this
      omega
theorem down_rg {l h s n : Int} (r : Rg l h s) (h1 : l ≤ n) (h2 : n < h) : Rg l (n - (n - l) % s) (if l = n - (n - l) % s then 0 else s) := by
  obtain ⟨hs, e1, e2, e3, e4, e5⟩ := cut_down r h1 h2
  split
  · exact .inl ⟨rfl, by assumption⟩
  · exact .inr ⟨hs, by omega, e4⟩
theorem up_rg {l h s n : Int} (r : Rg l h s) (h1 : l < n) (h2 : n ≤ h) : Rg (n + (h - n) % s) h (if n + (h - n) % s = h then 0 else s) := by
  obtain ⟨hs, e1, e2, e3, e4, e5⟩ := cut_up r h1 h2
  split
  · exact .inl ⟨rfl, by assumption⟩
  · refine .inr ⟨hs, by omega, ?_⟩
    rw [e5, show h - (h - (h - n) / s * s) = (h - n) / s * s by omega]
    exact Int.dvd_mul_left _ _
end Rm


set_option Elab.async false
set_option linter.all false
set_option maxRecDepth 100000
set_option maxHeartbeats 4000000
/-! programs as the document tells them, and what they are as values -/
namespace At
open PySem L2 Pd Pu
inductive Ep where
  | num (i : Int) | nam (x : Str) | op (g : Str) (a b : Ep)
inductive Cn where
  | cmp (r : Str) (a b : Ep) | neg (c : Cn) | con (g : Str) (a b : Cn)
inductive Sm where
  | set (n : Str) (e : Ep) | ask (n : Str) | tell (e : Ep) | chk (c : Cn) | need (c : Cn) | ret (e : Ep)
  | ife (c : Cn) (a b : List Sm) | whl (c : Cn) (a : List Sm) | call (n : Str) (es : List Ep) (t : Option Str)
def Ep.u : Ep → U
  | .num i => .tup [.str (PySem.Str.ofString "number"), .int i]
  | .nam x => .tup [.str (PySem.Str.ofString "name"), .str x]
  | .op g a b => .tup [.str (PySem.Str.ofString "op"), .str g, a.u, b.u]
def Cn.u : Cn → U
  | .cmp r a b => .tup [.str (PySem.Str.ofString "compare"), .str r, a.u, b.u]
  | .neg c => .tup [.str (PySem.Str.ofString "not"), c.u]
  | .con g a b => .tup [.str g, a.u, b.u]
def ou : Option Str → U
  | none => .non
  | some x => .str x
mutual
def Sm.u : Sm → U
  | .set n e => .tup [.str (PySem.Str.ofString "set"), .str n, e.u]
  | .ask n => .tup [.str (PySem.Str.ofString "ask"), .str n]
  | .tell e => .tup [.str (PySem.Str.ofString "tell"), e.u]
  | .chk c => .tup [.str (PySem.Str.ofString "check"), c.u]
  | .need c => .tup [.str (PySem.Str.ofString "need"), c.u]
  | .ret e => .tup [.str (PySem.Str.ofString "return"), e.u]
  | .ife c a b => .tup [.str (PySem.Str.ofString "if"), c.u, .tup (ul a), .tup (ul b)]
  | .whl c a => .tup [.str (PySem.Str.ofString "while"), c.u, .tup (ul a)]
  | .call n es t => .tup [.str (PySem.Str.ofString "call"), .str n, .tup (es.map Ep.u), ou t]
def ul : List Sm → List U
  | [] => []
  | s :: r => s.u :: ul r
end
theorem ul_map : ∀ b : List Sm, ul b = b.map Sm.u
  | [] => rfl
  | s :: r => by rw [ul, ul_map r]; rfl
theorem ul_len (b : List Sm) : (ul b).length = b.length := by rw [ul_map, List.length_map]
theorem ul_app (a b : List Sm) : ul (a ++ b) = ul a ++ ul b := by rw [ul_map, ul_map, ul_map, List.map_append]
/-- the blocks of a statement; all statements of a block -/
def Sm.inner : Sm → List (List Sm)
  | .ife _ a b => [a, b]
  | .whl _ a => [a]
  | _ => []
mutual
def allS : Sm → List Sm
  | .ife c a b => .ife c a b :: (allL a ++ allL b)
  | .whl c a => .whl c a :: allL a
  | .set n e => [.set n e]
  | .ask n => [.ask n]
  | .tell e => [.tell e]
  | .chk c => [.chk c]
  | .need c => [.need c]
  | .ret e => [.ret e]
  | .call n es t => [.call n es t]
def allL : List Sm → List Sm
  | [] => []
  | s :: r => allS s ++ allL r
end
/-- the name that a statement changes -/
def Sm.tgt : Sm → Option Str
  | .set n _ => some n
  | .ask n => some n
  | .call _ _ t => t
  | _ => none
/-! ### what is drawn keeps to -/
def okE (nm : List Str) : Nat → Ep → Prop
  | _, .num i => -10000 ≤ i ∧ i ≤ 10000
  | _, .nam x => x ∈ nm
  | 0, .op _ _ _ => False
  | d + 1, .op g a b => g ∈ ["+", "-", "*", "/", "mod"].map PySem.Str.ofString ∧ okE nm d a ∧ okE nm d b
def okC (nm : List Str) : Nat → Cn → Prop
  | _, .cmp r a b => r ∈ ["<", "<=", "==", "!="].map PySem.Str.ofString ∧ okE nm 1 a ∧ okE nm 1 b
  | 0, _ => False
  | d + 1, .neg c => okC nm d c
  | d + 1, .con g a b => g ∈ ["and", "or"].map PySem.Str.ofString ∧ okC nm d a ∧ okC nm d b
mutual
def okS (nm : List Str) (pr : List (Str × Nat)) : Nat → Sm → Prop
  | _, .set n e => n ∈ nm ∧ okE nm 2 e
  | _, .ask n => n ∈ nm
  | _, .tell e => okE nm 2 e
  | _, .chk c => okC nm 3 c
  | _, .need c => okC nm 3 c
  | _, .ret e => okE nm 2 e
  | 0, .ife _ _ _ => False
  | d + 1, .ife c a b => okC nm 3 c ∧ a.length ≤ 4 ∧ b.length ≤ 4 ∧ okL nm pr d a ∧ okL nm pr d b
  | 0, .whl _ _ => False
  | d + 1, .whl c a => okC nm 3 c ∧ a.length ≤ 4 ∧ okL nm pr d a
  | _, .call n es t => (n, es.length) ∈ pr ∧ (∀ e ∈ es, okE nm 1 e) ∧ (∀ x, t = some x → x ∈ nm)
def okL (nm : List Str) (pr : List (Str × Nat)) : Nat → List Sm → Prop
  | _, [] => True
  | d, s :: r => okS nm pr d s ∧ okL nm pr d r
end
section
variable {nm : List Str} {pr : List (Str × Nat)}
theorem okE_mono : ∀ {d d' : Nat} {e : Ep}, d ≤ d' → okE nm d e → okE nm d' e
  | _, _, .num i, _, h => by unfold okE at h ⊢; exact h
  | _, _, .nam x, _, h => by unfold okE at h ⊢; exact h
  | 0, _, .op _ _ _, _, h => by unfold okE at h; exact h.elim
  | d + 1, 0, .op _ _ _, l, _ => by omega
  | d + 1, d' + 1, .op g a b, l, h => by
    unfold okE at h ⊢
    exact ⟨h.1, okE_mono (by omega) h.2.1, okE_mono (by omega) h.2.2⟩
theorem okC_mono : ∀ {d d' : Nat} {c : Cn}, d ≤ d' → okC nm d c → okC nm d' c
  | _, _, .cmp _ _ _, _, h => by unfold okC at h ⊢; exact h
  | 0, _, .neg _, _, h => by unfold okC at h; exact h.elim
  | 0, _, .con _ _ _, _, h => by unfold okC at h; exact h.elim
  | d + 1, 0, .neg _, l, _ => by omega
  | d + 1, 0, .con _ _ _, l, _ => by omega
  | d + 1, d' + 1, .neg c, l, h => by
    unfold okC at h ⊢
    exact okC_mono (by omega) h
  | d + 1, d' + 1, .con g a b, l, h => by
    unfold okC at h ⊢
    exact ⟨h.1, okC_mono (by omega) h.2.1, okC_mono (by omega) h.2.2⟩
mutual
theorem okS_mono : ∀ {d d' : Nat} (s : Sm), d ≤ d' → okS nm pr d s → okS nm pr d' s
  | d, d', .ife c a b, l, h => by
    cases d with
    | zero => unfold okS at h; exact h.elim
    | succ d =>
      cases d' with
      | zero => omega
      | succ d' => unfold okS at h ⊢; exact ⟨h.1, h.2.1, h.2.2.1, okL_mono a (by omega) h.2.2.2.1, okL_mono b (by omega) h.2.2.2.2⟩
  | d, d', .whl c a, l, h => by
    cases d with
    | zero => unfold okS at h; exact h.elim
    | succ d =>
      cases d' with
      | zero => omega
      | succ d' => unfold okS at h ⊢; exact ⟨h.1, h.2.1, okL_mono a (by omega) h.2.2⟩
  | _, _, .set n e, _, h => by unfold okS at h ⊢; exact h
  | _, _, .ask n, _, h => by unfold okS at h ⊢; exact h
  | _, _, .tell n, _, h => by unfold okS at h ⊢; exact h
  | _, _, .chk n, _, h => by unfold okS at h ⊢; exact h
  | _, _, .need n, _, h => by unfold okS at h ⊢; exact h
  | _, _, .ret n, _, h => by unfold okS at h ⊢; exact h
  | _, _, .call n es t, _, h => by unfold okS at h ⊢; exact h
theorem okL_mono : ∀ {d d' : Nat} (b : List Sm), d ≤ d' → okL nm pr d b → okL nm pr d' b
  | _, _, [], _, _ => by unfold okL; trivial
  | d, d', s :: r, l, h => by
    unfold okL at h ⊢
    exact ⟨okS_mono s l h.1, okL_mono r l h.2⟩
end
theorem okL_app {d : Nat} : ∀ {a b : List Sm}, okL nm pr d a → okL nm pr d b → okL nm pr d (a ++ b)
  | [], b, _, h => h
  | s :: a, b, h, h' => by
    rw [List.cons_append]
    unfold okL at h ⊢
    exact ⟨h.1, okL_app h.2 h'⟩
theorem okL_nil {d : Nat} : okL nm pr d [] := by unfold okL; trivial
theorem okL_one {d : Nat} {s : Sm} (h : okS nm pr d s) : okL nm pr d [s] := by unfold okL; exact ⟨h, okL_nil⟩
theorem okL_mem {d : Nat} : ∀ {b : List Sm}, okL nm pr d b → ∀ s ∈ b, okS nm pr d s
  | [], _, s, hs => by cases hs
  | s :: r, h, x, hx => by
    unfold okL at h
    rcases List.mem_cons.mp hx with e | e
    · rw [e]; exact h.1
    · exact okL_mem h.2 x e
/-- how many statements -/
def szB : Nat → Nat
  | 0 => 1
  | d + 1 => 1 + 8 * szB d
mutual
theorem allS_len : ∀ {d : Nat} (s : Sm), okS nm pr d s → (allS s).length ≤ szB d
  | d, .ife c a b, h => by
    cases d with
    | zero => unfold okS at h; exact h.elim
    | succ d =>
      unfold okS at h
      have h1 := allL_len a h.2.2.2.1
      have h2 := allL_len b h.2.2.2.2
      have m1 := Nat.mul_le_mul_right (szB d) h.2.1
      have m2 := Nat.mul_le_mul_right (szB d) h.2.2.1
      rw [allS, List.length_cons, List.length_append, szB]
      omega
  | d, .whl c a, h => by
    cases d with
    | zero => unfold okS at h; exact h.elim
    | succ d =>
      unfold okS at h
      have h1 := allL_len a h.2.2
      have m1 := Nat.mul_le_mul_right (szB d) h.2.1
      rw [allS, List.length_cons, szB]
      omega
  | d, .set n e, h => by cases d <;> simp [allS, szB]
  | d, .ask n, h => by cases d <;> simp [allS, szB]
  | d, .tell n, h => by cases d <;> simp [allS, szB]
  | d, .chk n, h => by cases d <;> simp [allS, szB]
  | d, .need n, h => by cases d <;> simp [allS, szB]
  | d, .ret n, h => by cases d <;> simp [allS, szB]
  | d, .call n es t, h => by cases d <;> simp [allS, szB]
theorem allL_len : ∀ {d : Nat} (b : List Sm), okL nm pr d b → (allL b).length ≤ b.length * szB d
  | d, [], h => by simp [allL]
  | d, s :: r, h => by
    unfold okL at h
    have h1 := allS_len s h.1
    have h2 := allL_len r h.2
    rw [allL, List.length_append, List.length_cons, Nat.succ_mul]
    omega
end
/-! each of all statements is as drawn -/
mutual
theorem allS_ok : ∀ {d : Nat} (s : Sm), okS nm pr d s → ∀ x ∈ allS s, okS nm pr d x
  | d, .ife c a b, h, x, hx => by
    rw [allS] at hx
    rcases List.mem_cons.mp hx with e | e
    · rw [e]; exact h
    · cases d with
      | zero => unfold okS at h; exact h.elim
      | succ d =>
        unfold okS at h
        rcases List.mem_append.mp e with e | e
        · exact okS_mono x (by omega) (allL_ok a h.2.2.2.1 x e)
        · exact okS_mono x (by omega) (allL_ok b h.2.2.2.2 x e)
  | d, .whl c a, h, x, hx => by
    rw [allS] at hx
    rcases List.mem_cons.mp hx with e | e
    · rw [e]; exact h
    · cases d with
      | zero => unfold okS at h; exact h.elim
      | succ d =>
        unfold okS at h
        exact okS_mono x (by omega) (allL_ok a h.2.2 x e)
  | d, .set n e, h, x, hx => by rw [allS, List.mem_singleton] at hx; rw [hx]; exact h
  | d, .ask n, h, x, hx => by rw [allS, List.mem_singleton] at hx; rw [hx]; exact h
  | d, .tell n, h, x, hx => by rw [allS, List.mem_singleton] at hx; rw [hx]; exact h
  | d, .chk n, h, x, hx => by rw [allS, List.mem_singleton] at hx; rw [hx]; exact h
  | d, .need n, h, x, hx => by rw [allS, List.mem_singleton] at hx; rw [hx]; exact h
  | d, .ret n, h, x, hx => by rw [allS, List.mem_singleton] at hx; rw [hx]; exact h
  | d, .call n es t, h, x, hx => by rw [allS, List.mem_singleton] at hx; rw [hx]; exact h
theorem allL_ok : ∀ {d : Nat} (b : List Sm), okL nm pr d b → ∀ x ∈ allL b, okS nm pr d x
  | d, [], h, x, hx => by rw [allL] at hx; cases hx
  | d, s :: r, h, x, hx => by
    unfold okL at h
    rw [allL] at hx
    rcases List.mem_append.mp hx with e | e
    · exact allS_ok s h.1 x e
    · exact allL_ok r h.2 x e
end
theorem tgt_ok {d : Nat} {s : Sm} {x : Str} (h : okS nm pr d s) (e : s.tgt = some x) : x ∈ nm := by
  cases s <;> simp only [Sm.tgt, reduceCtorEq, Option.some.injEq] at e
  · subst e; cases d <;> (unfold okS at h; exact h.1)
  · subst e; cases d <;> (unfold okS at h; exact h)
  · cases d <;> (unfold okS at h; exact h.2.2 x e)
end
/-! ### procedures, programs -/
structure Pc where
  n : Str
  ps : List Str
  b : List Sm
def Pc.u (p : Pc) : U := .tup [.str p.n, .tup (p.ps.map .str), .tup (ul p.b)]
def pgU (gs : List Str) (prs : List Pc) : U := .tup [.tup (gs.map .str), .tup (prs.map Pc.u)]
end At

set_option Elab.async false
set_option linter.all false
set_option maxRecDepth 100000
set_option maxHeartbeats 4000000
/-! what an operation makes of two ranges: the numbers alone -/
namespace Cb
open PySem L2 Pd Pu Rm
abbrev O3 := Option (Int × Int × Int)
def rg (l h s : Int) : U := .tup [.int l, .int h, .int s]
def rgO : O3 → U
  | none => .non
  | some (l, h, s) => rg l h s
def mk (l h s : Int) : Int × Int × Int := if l = h then (l, l, 0) else (l, h, s)
def amO (l h s n : Int) : O3 := if h ≤ n then some (l, h, s) else if n < l then none else some (mk l (n - (n - l) % s) s)
def alO (l h s n : Int) : O3 := if n ≤ l then some (l, h, s) else if h < n then none else some (mk (n + (h - n) % s) h s)
def btw (l h s lo hi : Int) : O3 := match alO l h s lo with
  | none => none
  | some (l', h', s') => amO l' h' s' hi
/-- a number is in it -/
def inO (x : Int) : O3 → Prop
  | none => False
  | some (l, h, s) => l ≤ x ∧ x ≤ h ∧ s ∣ x - l
def RgO : O3 → Prop
  | none => True
  | some (l, h, s) => Rg l h s
theorem mk_eq (l h s : Int) : mk l h s = (l, h, if l = h then 0 else s) := by
  unfold mk; split
  · rename_i e; rw [← e]
  · rfl
theorem mk_rg {l h s : Int} (h1 : 0 < s) (h2 : l ≤ h) (h3 : s ∣ h - l) : RgO (some (mk l h s)) := by
  rw [mk_eq]
  show Rg l h _
  split
  · exact .inl ⟨rfl, by assumption⟩
  · exact .inr ⟨h1, by omega, h3⟩
theorem mk_in {l h s x : Int} (h2 : l ≤ h) : inO x (some (mk l h s)) ↔ l ≤ x ∧ x ≤ h ∧ s ∣ x - l := by
  rw [mk_eq]
  show _ ∧ _ ∧ _ ↔ _
  split
  · rename_i e
    subst e
    constructor
    · rintro ⟨a, b, _⟩; have : x = l := by omega
      subst this; exact ⟨a, b, by simp⟩
    · rintro ⟨a, b, _⟩; have : x = l := by omega
      subst this; exact ⟨a, b, by simp⟩
  · rfl
theorem al_ok {l h s : Int} (r : Rg l h s) (n : Int) : RgO (alO l h s n) ∧ ∀ x, inO x (alO l h s n) ↔ (l ≤ x ∧ x ≤ h ∧ s ∣ x - l) ∧ n ≤ x := by
  unfold alO
  split
  · exact ⟨r, fun x => ⟨fun q => ⟨q, by have := q.1; omega⟩, fun q => q.1⟩⟩
  · split
    · exact ⟨trivial, fun x => ⟨fun q => q.elim, fun q => by have := q.1.2.1; omega⟩⟩
    · obtain ⟨hs, e1, e2, e3, e4, e5⟩ := cut_up r (show l < n by omega) (show n ≤ h by omega)
      refine ⟨mk_rg hs e3 ⟨(h - n) / s, by rw [Int.mul_comm]; omega⟩, fun x => ?_⟩
      rw [mk_in e3, up_mem r (by omega) (by omega)]
theorem am_ok {l h s : Int} (r : Rg l h s) (n : Int) : RgO (amO l h s n) ∧ ∀ x, inO x (amO l h s n) ↔ (l ≤ x ∧ x ≤ h ∧ s ∣ x - l) ∧ x ≤ n := by
  unfold amO
  split
  · exact ⟨r, fun x => ⟨fun q => ⟨q, by have := q.2.1; omega⟩, fun q => q.1⟩⟩
  · split
    · exact ⟨trivial, fun x => ⟨fun q => q.elim, fun q => by have := q.1.1; omega⟩⟩
    · obtain ⟨hs, e1, e2, e3, e4, e5⟩ := cut_down r (show l ≤ n by omega) (show n < h by omega)
      refine ⟨mk_rg hs e3 e4, fun x => ?_⟩
      rw [mk_in e3, down_mem r (by omega) (by omega)]
theorem btw_ok {l h s : Int} (r : Rg l h s) (lo hi : Int) : RgO (btw l h s lo hi) ∧ ∀ x, inO x (btw l h s lo hi) ↔ (l ≤ x ∧ x ≤ h ∧ s ∣ x - l) ∧ lo ≤ x ∧ x ≤ hi := by
  obtain ⟨h1, h2⟩ := al_ok r lo
  unfold btw
  cases e : alO l h s lo with
  | none =>
    rw [e] at h2
    exact ⟨trivial, fun x => ⟨fun q => q.elim, fun q => (h2 x).mpr ⟨q.1, q.2.1⟩⟩⟩
  | some p =>
    obtain ⟨l', h', s'⟩ := p
    rw [e] at h1 h2
    obtain ⟨k1, k2⟩ := am_ok h1 hi
    refine ⟨k1, fun x => ?_⟩
    have z := h2 x
    show inO x (amO l' h' s' hi) ↔ _
    rw [k2 x]
    constructor
    · rintro ⟨a, b⟩
      have := z.mp a
      exact ⟨this.1, this.2, b⟩
    · rintro ⟨a, b, c⟩
      exact ⟨z.mpr ⟨a, b⟩, c⟩
/-- two ranges of the same numbers are one -/
theorem rg_uniq {a b : O3} (ra : RgO a) (rb : RgO b) (h : ∀ x, inO x a ↔ inO x b) : a = b := by
  match a, b, ra, rb, h with
  | none, none, _, _, _ => rfl
  | none, some (l, k, s), _, rb, h =>
    have f := Rg.facts (show Rg l k s from rb)
    exact ((h l).mpr ⟨by omega, f.2.1, by simp⟩).elim
  | some (l, k, s), none, ra, _, h =>
    have f := Rg.facts (show Rg l k s from ra)
    exact ((h l).mp ⟨by omega, f.2.1, by simp⟩).elim
  | some (l, k, s), some (l2, k2, s2), ra, rb, h =>
    have ra : Rg l k s := ra
    have rb : Rg l2 k2 s2 := rb
    have f := ra.facts
    have f2 := rb.facts
    have h' : ∀ x, (l ≤ x ∧ x ≤ k ∧ s ∣ x - l) ↔ (l2 ≤ x ∧ x ≤ k2 ∧ s2 ∣ x - l2) := h
    have a1 := (h' l).mp ⟨by omega, f.2.1, by simp⟩
    have a2 := (h' l2).mpr ⟨by omega, f2.2.1, by simp⟩
    have el : l = l2 := by omega
    subst el
    have b1 := (h' k).mp ⟨f.2.1, by omega, f.2.2.2⟩
    have b2 := (h' k2).mpr ⟨f2.2.1, by omega, f2.2.2.2⟩
    have ek : k = k2 := by omega
    subst ek
    have es : s = s2 := by
      rcases ra with ⟨z, z2⟩ | ⟨z, z2, z3⟩
      · rcases rb with ⟨y, _⟩ | ⟨_, y, _⟩
        · omega
        · omega
      · rcases rb with ⟨_, y⟩ | ⟨y, y2, y3⟩
        · omega
        · have c1 := (h' (l + s)).mp ⟨by omega, f.2.2.1, ⟨1, by omega⟩⟩
          have c2 := (h' (l + s2)).mpr ⟨by omega, f2.2.2.1, ⟨1, by omega⟩⟩
          have d1 := Int.le_of_dvd (by omega) (show s2 ∣ s by have := c1.2.2; rwa [show l + s - l = s by omega] at this)
          have d2 := Int.le_of_dvd (by omega) (show s ∣ s2 by have := c2.2.2; rwa [show l + s2 - l = s2 by omega] at this)
          omega
    subst es
    rfl
/-- the law's own cut -/
def lcut (l h s : Int) : O3 :=
  let l1 := if l < -10000 then l + (0 - 10000 - l + s - 1).fdiv (max 1 s) * s else l
  let h1 := if 10000 < h then h - (h - 10000 + s - 1).fdiv (max 1 s) * s else h
  if (s = 0 ∧ (l < -10000 ∨ 10000 < h)) ∨ h1 < l1 then none else some (mk l1 h1 s)
theorem ceil_ok {d s : Int} (hs : 0 < s) : d ≤ (d + s - 1) / s * s ∧ (d + s - 1) / s * s < d + s := by
  have e := Int.mul_ediv_add_emod (d + s - 1) s
  have e1 := Int.emod_nonneg (d + s - 1) (show s ≠ 0 by omega)
  have e2 := Int.emod_lt_of_pos (d + s - 1) hs
  rw [Int.mul_comm] at e
  omega
theorem lcut_eq {l h s : Int} (r : Rg l h s) : lcut l h s = btw l h s (-10000) 10000 := by
  obtain ⟨b1, b2⟩ := btw_ok r (-10000) 10000
  rcases r with ⟨rfl, rfl⟩ | ⟨hs, hl, hd⟩
  · unfold lcut btw alO amO mk
    by_cases c1 : l < -10000
    · simp [c1, show ¬ -10000 ≤ l by omega]
    · by_cases c2 : 10000 < l
      · simp [c1, c2, show -10000 ≤ l by omega, show ¬ l ≤ 10000 by omega]
      · simp [c1, c2, show -10000 ≤ l by omega, show l ≤ 10000 by omega]
  · refine rg_uniq ?_ b1 fun x => ?_
    all_goals
      have hm : max 1 s = s := by omega
      have k1 := ceil_ok (d := 0 - 10000 - l) hs
      have k2 := ceil_ok (d := h - 10000) hs
      have p1 : s ∣ (0 - 10000 - l + s - 1) / s * s := Int.dvd_mul_left ..
      have p2 : s ∣ (h - 10000 + s - 1) / s * s := Int.dvd_mul_left ..
      unfold lcut
      simp only [hm, fdiv_pos hs]
      generalize (0 - 10000 - l + s - 1) / s * s = u at k1 p1 ⊢
      generalize (h - 10000 + s - 1) / s * s = v at k2 p2 ⊢
      obtain ⟨l1, e1, q1, q1b⟩ : ∃ l1, (if l < -10000 then l + u else l) = l1 ∧ s ∣ l1 - l ∧ ∀ x, s ∣ x - l → ((l ≤ x ∧ -10000 ≤ x) ↔ l1 ≤ x) := by
        by_cases c : l < -10000
        · refine ⟨l + u, by rw [if_pos c], by rw [show l + u - l = u by omega]; exact p1, fun x hx => ⟨fun z => ?_, fun z => by omega⟩⟩
          have : s ∣ (l + u) - x := by rw [show l + u - x = u - (x - l) by omega]; exact Int.dvd_sub p1 hx
          refine Int.not_lt.mp fun w => ?_
          have := Int.le_of_dvd (by omega) this
          omega
        · exact ⟨l, by rw [if_neg c], by simp, fun x _ => ⟨fun z => z.1, fun z => by omega⟩⟩
      obtain ⟨h1, e2, q2, q2b⟩ : ∃ h1, (if 10000 < h then h - v else h) = h1 ∧ s ∣ h1 - l ∧ ∀ x, s ∣ x - l → ((x ≤ h ∧ x ≤ 10000) ↔ x ≤ h1) := by
        by_cases c : 10000 < h
        · refine ⟨h - v, by rw [if_pos c], by rw [show h - v - l = (h - l) - v by omega]; exact Int.dvd_sub hd p2, fun x hx => ⟨fun z => ?_, fun z => by omega⟩⟩
          have : s ∣ x - (h - v) := by rw [show x - (h - v) = (x - l) - ((h - l) - v) by omega]; exact Int.dvd_sub hx (Int.dvd_sub hd p2)
          refine Int.not_lt.mp fun w => ?_
          have := Int.le_of_dvd (by omega) this
          omega
        · exact ⟨h, by rw [if_neg c], hd, fun x _ => ⟨fun z => z.1, fun z => by omega⟩⟩
      rw [e1, e2]
    · split
      · trivial
      · refine mk_rg hs (by omega) ?_
        rw [show h1 - l1 = (h1 - l) - (l1 - l) by omega]
        exact Int.dvd_sub q2 q1
    · rw [b2 x]
      have sw : s ∣ x - l1 ↔ s ∣ x - l := by
        constructor
        · intro z; rw [show x - l = (x - l1) + (l1 - l) by omega]; exact Int.dvd_add z q1
        · intro z; rw [show x - l1 = (x - l) - (l1 - l) by omega]; exact Int.dvd_sub z q1
      split
      · rename_i c
        refine ⟨fun q => q.elim, fun ⟨⟨a1, a2, a3⟩, a4, a5⟩ => ?_⟩
        have := (q1b x a3).mp ⟨a1, a4⟩
        have := (q2b x a3).mp ⟨a2, a5⟩
        omega
      · rename_i c
        rw [mk_in (by omega), sw]
        constructor
        · rintro ⟨a1, a2, a3⟩
          have := (q1b x a3).mpr a1
          have := (q2b x a3).mpr a2
          exact ⟨⟨by omega, by omega, a3⟩, by omega, by omega⟩
        · rintro ⟨⟨a1, a2, a3⟩, a4, a5⟩
          exact ⟨(q1b x a3).mp ⟨a1, a4⟩, (q2b x a3).mp ⟨a2, a5⟩, a3⟩
end Cb

set_option Elab.async false
set_option linter.all false
set_option maxRecDepth 100000
set_option maxHeartbeats 4000000
namespace Cb
open PySem L2 Pd Pu Rm
/-! ### the raw ranges -/
def zSum (l h s l2 h2 s2 : Int) : O3 := some (l + l2, h + h2, gcdI s s2)
def zDif (l h s l2 h2 s2 : Int) : O3 := some (l - h2, h - l2, gcdI s s2)
def cor (l h l2 h2 : Int) : List Int := [l * l2, l * h2, h * l2, h * h2]
def mulS (l s l2 s2 : Int) : Int := gcdI (gcdI (l * s2) (l2 * s)) (s * s2)
def zMul (l h s l2 h2 s2 : Int) : O3 := some (minI (cor l h l2 h2), maxI (cor l h l2 h2), mulS l s l2 s2)
/-- the ends of the members from 1 on, and up to -1 -/
def upE (l2 h2 s2 : Int) : List Int := match alO l2 h2 s2 1 with
  | none => []
  | some (a, b, _) => [a, b]
def dnE (l2 h2 s2 : Int) : List Int := match amO l2 h2 s2 (-1) with
  | none => []
  | some (a, b, _) => [a, b]
def quoL (l h l2 h2 s2 : Int) : List Int := [l, h].flatMap fun a => (upE l2 h2 s2 ++ dnE l2 h2 s2).map fun b => a.fdiv b
def zQuo (l h s l2 h2 s2 : Int) : O3 := if quoL l h l2 h2 s2 = [] then none else some (mk (minI (quoL l h l2 h2 s2)) (maxI (quoL l h l2 h2 s2)) 1)
def zOne (l h s m : Int) : O3 := if s.fmod m = 0 then some (l.fmod m, l.fmod m, 0) else if h.fdiv m = l.fdiv m then some (l - l.fdiv m * m, h - l.fdiv m * m, s) else some (min 0 (m + 1), max 0 (m - 1), 1)
def zRem (l h s l2 h2 s2 : Int) : O3 := if s2 ≠ 0 then some (mk (min 0 (l2 + 1)) (max 0 (h2 - 1)) 1) else if l2 = 0 then none else zOne l h s l2
theorem gcdI_of_pos {a b : Int} (ha : 0 ≤ a) (hb : 0 ≤ b) (h : 0 < a ∨ 0 < b) : 0 < gcdI a b := by
  have : gcdI a b ≠ 0 := by
    rw [gcdI_def]
    intro e
    have : Int.gcd a b = 0 := by omega
    rw [Int.gcd_eq_zero_iff] at this
    omega
  have := gcdI_nonneg a b
  omega
theorem gcdI_00 : gcdI 0 0 = 0 := rfl
section
variable {l h s l2 h2 s2 : Int}
theorem sum_ok (r : Rg l h s) (r2 : Rg l2 h2 s2) : RgO (zSum l h s l2 h2 s2) ∧ ∀ a b, l ≤ a ∧ a ≤ h ∧ s ∣ a - l → l2 ≤ b ∧ b ≤ h2 ∧ s2 ∣ b - l2 → inO (a + b) (zSum l h s l2 h2 s2) := by
  obtain ⟨f1, f2, f3, f4⟩ := r.facts
  obtain ⟨g1, g2, g3, g4⟩ := r2.facts
  have d1 : gcdI s s2 ∣ s := gcdI_left ..
  have d2 : gcdI s s2 ∣ s2 := gcdI_right ..
  refine ⟨?_, fun a b ha hb => ⟨by omega, by omega, ?_⟩⟩
  · show Rg _ _ _
    by_cases c : s = 0 ∧ s2 = 0
    · obtain ⟨rfl, rfl⟩ := c
      have e1 := r.zero (fun z => by have := r.pos z; omega)
      have e2 := r2.zero (fun z => by have := r2.pos z; omega)
      exact .inl ⟨gcdI_00, by omega⟩
    · refine .inr ⟨gcdI_of_pos f1 g1 (by omega), ?_, ?_⟩
      · omega
      · rw [show h + h2 - (l + l2) = (h - l) + (h2 - l2) by omega]
        exact Int.dvd_add (Int.dvd_trans d1 f4) (Int.dvd_trans d2 g4)
  · show gcdI s s2 ∣ _
    rw [show a + b - (l + l2) = (a - l) + (b - l2) by omega]
    exact Int.dvd_add (Int.dvd_trans d1 ha.2.2) (Int.dvd_trans d2 hb.2.2)
theorem dif_ok (r : Rg l h s) (r2 : Rg l2 h2 s2) : RgO (zDif l h s l2 h2 s2) ∧ ∀ a b, l ≤ a ∧ a ≤ h ∧ s ∣ a - l → l2 ≤ b ∧ b ≤ h2 ∧ s2 ∣ b - l2 → inO (a - b) (zDif l h s l2 h2 s2) := by
  obtain ⟨f1, f2, f3, f4⟩ := r.facts
  obtain ⟨g1, g2, g3, g4⟩ := r2.facts
  have d1 : gcdI s s2 ∣ s := gcdI_left ..
  have d2 : gcdI s s2 ∣ s2 := gcdI_right ..
  refine ⟨?_, fun a b ha hb => ⟨by omega, by omega, ?_⟩⟩
  · show Rg _ _ _
    by_cases c : s = 0 ∧ s2 = 0
    · obtain ⟨rfl, rfl⟩ := c
      have e1 := r.zero (fun z => by have := r.pos z; omega)
      have e2 := r2.zero (fun z => by have := r2.pos z; omega)
      exact .inl ⟨gcdI_00, by omega⟩
    · refine .inr ⟨gcdI_of_pos f1 g1 (by omega), by omega, ?_⟩
      rw [show h - l2 - (l - h2) = (h - l) + (h2 - l2) by omega]
      exact Int.dvd_add (Int.dvd_trans d1 f4) (Int.dvd_trans d2 g4)
  · show gcdI s s2 ∣ _
    rw [show a - b - (l - h2) = (a - l) + ((h2 - l2) - (b - l2)) by omega]
    exact Int.dvd_add (Int.dvd_trans d1 ha.2.2) (Int.dvd_sub (Int.dvd_trans d2 g4) (Int.dvd_trans d2 hb.2.2))
/-- a product lies between those of the ends -/
theorem lin_between {x y p q : Int} (k : Int) (h1 : x ≤ k) (h2 : k ≤ y) (hp : p ≤ x * q ∧ p ≤ y * q) : p ≤ k * q := by
  by_cases c : 0 ≤ q
  · have := Int.mul_le_mul_of_nonneg_right h1 c; omega
  · have := Int.mul_le_mul_of_nonpos_right h2 (show q ≤ 0 by omega); omega
theorem lin_between' {x y p q : Int} (k : Int) (h1 : x ≤ k) (h2 : k ≤ y) (hp : x * q ≤ p ∧ y * q ≤ p) : k * q ≤ p := by
  by_cases c : 0 ≤ q
  · have := Int.mul_le_mul_of_nonneg_right h2 c; omega
  · have := Int.mul_le_mul_of_nonpos_right h1 (show q ≤ 0 by omega); omega
theorem mul_dvd (a b : Int) (ha : s ∣ a - l) (hb : s2 ∣ b - l2) : mulS l s l2 s2 ∣ a * b - l * l2 := by
  obtain ⟨i, hi⟩ := ha
  obtain ⟨j, hj⟩ := hb
  have e1 : mulS l s l2 s2 ∣ l * s2 := Int.dvd_trans (gcdI_left ..) (gcdI_left ..)
  have e2 : mulS l s l2 s2 ∣ l2 * s := Int.dvd_trans (gcdI_left ..) (gcdI_right ..)
  have e3 : mulS l s l2 s2 ∣ s * s2 := gcdI_right ..
  have : a * b - l * l2 = (l * s2) * j + (l2 * s) * i + (s * s2) * (i * j) := by
    rw [show a = l + s * i by omega, show b = l2 + s2 * j by omega, Int.add_mul, Int.mul_add, Int.mul_add]
    have h1 : l * (s2 * j) = l * s2 * j := by rw [Int.mul_assoc]
    have h2 : s * i * l2 = l2 * s * i := by rw [Int.mul_comm, Int.mul_assoc]
    have h3 : s * i * (s2 * j) = s * s2 * (i * j) := by
      rw [Int.mul_assoc, Int.mul_assoc, ← Int.mul_assoc i, Int.mul_comm i s2, Int.mul_assoc]
    omega
  rw [this]
  exact Int.dvd_add (Int.dvd_add (Int.dvd_mul_of_dvd_left e1) (Int.dvd_mul_of_dvd_left e2)) (Int.dvd_mul_of_dvd_left e3)
theorem cor_dvd (f4 : s ∣ h - l) (g4 : s2 ∣ h2 - l2) : ∀ x ∈ cor l h l2 h2, mulS l s l2 s2 ∣ x - l * l2 := fun x hx => by
  unfold cor at hx
  simp only [List.mem_cons, List.not_mem_nil, or_false] at hx
  rcases hx with rfl | rfl | rfl | rfl
  · exact mul_dvd l l2 (by simp) (by simp)
  · exact mul_dvd l h2 (by simp) g4
  · exact mul_dvd h l2 f4 (by simp)
  · exact mul_dvd h h2 f4 g4
theorem mul_ok (r : Rg l h s) (r2 : Rg l2 h2 s2) : RgO (zMul l h s l2 h2 s2) ∧ ∀ a b, l ≤ a ∧ a ≤ h ∧ s ∣ a - l → l2 ≤ b ∧ b ≤ h2 ∧ s2 ∣ b - l2 → inO (a * b) (zMul l h s l2 h2 s2) := by
  obtain ⟨f1, f2, f3, f4⟩ := r.facts
  obtain ⟨g1, g2, g3, g4⟩ := r2.facts
  have ne : cor l h l2 h2 ≠ [] := by unfold cor; simp
  have mm := minI_mem _ ne
  have mx := maxI_mem _ ne
  have c := cor_dvd f4 g4
  have lo : ∀ x ∈ cor l h l2 h2, minI (cor l h l2 h2) ≤ x := minI_le _
  have hi : ∀ x ∈ cor l h l2 h2, x ≤ maxI (cor l h l2 h2) := fun x hx => by
    have := maxI_ge (cor l h l2 h2) x hx
    exact this
  have m1 : l * l2 ∈ cor l h l2 h2 := by unfold cor; simp
  have m2 : l * h2 ∈ cor l h l2 h2 := by unfold cor; simp
  have m3 : h * l2 ∈ cor l h l2 h2 := by unfold cor; simp
  have m4 : h * h2 ∈ cor l h l2 h2 := by unfold cor; simp
  refine ⟨?_, fun a b ha hb => ⟨?_, ?_, ?_⟩⟩
  · show Rg _ _ _
    by_cases e : minI (cor l h l2 h2) = maxI (cor l h l2 h2)
    · refine .inl ⟨?_, e⟩
      have a1 := lo _ m1; have a2 := lo _ m2; have a3 := lo _ m3; have a4 := lo _ m4
      have b1 := hi _ m1; have b2 := hi _ m2; have b3 := hi _ m3; have b4 := hi _ m4
      have z1 : l * s2 = 0 := by
        rcases r2 with ⟨q, _⟩ | ⟨q, q2, _⟩
        · rw [q]; simp
        · have : l * (h2 - l2) = 0 := by rw [Int.mul_sub]; omega
          rcases Int.mul_eq_zero.mp this with w | w
          · rw [w]; simp
          · omega
      have z2 : l2 * s = 0 := by
        rcases r with ⟨q, _⟩ | ⟨q, q2, _⟩
        · rw [q]; simp
        · have : (h - l) * l2 = 0 := by rw [Int.sub_mul]; omega
          rcases Int.mul_eq_zero.mp this with w | w
          · omega
          · rw [w]; simp
      have z3 : s * s2 = 0 := by
        rcases r with ⟨q, _⟩ | ⟨q, q2, _⟩
        · rw [q]; simp
        · rcases r2 with ⟨p, _⟩ | ⟨p, p2, _⟩
          · rw [p]; simp
          · have w1 : l * (h2 - l2) = 0 := by rw [Int.mul_sub]; omega
            have w2 : h * (h2 - l2) = 0 := by rw [Int.mul_sub]; omega
            rcases Int.mul_eq_zero.mp w1 with w | w
            · rcases Int.mul_eq_zero.mp w2 with w' | w' <;> omega
            · omega
      unfold mulS
      rw [z1, z2, z3]; rfl
    · have hlt : minI (cor l h l2 h2) < maxI (cor l h l2 h2) := by have := lo _ mx; omega
      have dv : mulS l s l2 s2 ∣ maxI (cor l h l2 h2) - minI (cor l h l2 h2) := by
        rw [show maxI (cor l h l2 h2) - minI (cor l h l2 h2) = (maxI (cor l h l2 h2) - l * l2) - (minI (cor l h l2 h2) - l * l2) by omega]
        exact Int.dvd_sub (c _ mx) (c _ mm)
      refine .inr ⟨?_, hlt, dv⟩
      have nn : 0 ≤ mulS l s l2 s2 := gcdI_nonneg ..
      have : mulS l s l2 s2 ≠ 0 := fun z => by rw [z, Int.zero_dvd] at dv; omega
      omega
  · have k1 : minI (cor l h l2 h2) ≤ l * b := by
      rw [Int.mul_comm]; exact lin_between b hb.1 hb.2.1 ⟨by rw [Int.mul_comm]; exact lo _ m1, by rw [Int.mul_comm]; exact lo _ m2⟩
    have k2 : minI (cor l h l2 h2) ≤ h * b := by
      rw [Int.mul_comm]; exact lin_between b hb.1 hb.2.1 ⟨by rw [Int.mul_comm]; exact lo _ m3, by rw [Int.mul_comm]; exact lo _ m4⟩
    exact lin_between a ha.1 ha.2.1 ⟨k1, k2⟩
  · have k1 : l * b ≤ maxI (cor l h l2 h2) := by
      rw [Int.mul_comm]; exact lin_between' b hb.1 hb.2.1 ⟨by rw [Int.mul_comm]; exact hi _ m1, by rw [Int.mul_comm]; exact hi _ m2⟩
    have k2 : h * b ≤ maxI (cor l h l2 h2) := by
      rw [Int.mul_comm]; exact lin_between' b hb.1 hb.2.1 ⟨by rw [Int.mul_comm]; exact hi _ m3, by rw [Int.mul_comm]; exact hi _ m4⟩
    exact lin_between' a ha.1 ha.2.1 ⟨k1, k2⟩
  · show mulS l s l2 s2 ∣ _
    rw [show a * b - minI (cor l h l2 h2) = (a * b - l * l2) - (minI (cor l h l2 h2) - l * l2) by omega]
    exact Int.dvd_sub (mul_dvd a b ha.2.2 hb.2.2) (c _ mm)
end
end Cb

set_option Elab.async false
set_option linter.all false
set_option maxRecDepth 100000
set_option maxHeartbeats 4000000
namespace Cb
open PySem L2 Pd Pu Rm
/-! ### quotients -/
theorem div_up {a b q : Int} (hb : 0 < b) (hq : b ≤ q) (ha : 0 ≤ a) : a / q ≤ a / b := by
  refine Int.le_ediv_of_mul_le hb ?_
  have h0 : 0 ≤ a / q := Int.ediv_nonneg ha (by omega)
  have h1 := Int.mul_le_mul_of_nonneg_left hq h0
  have h2 := Int.ediv_mul_le a (show q ≠ 0 by omega)
  omega
theorem div_dn {a b q : Int} (hb : 0 < b) (hq : b ≤ q) (ha : a < 0) : a / b ≤ a / q := by
  refine Int.le_ediv_of_mul_le (by omega) ?_
  have h0 : a / b < 0 := Int.ediv_neg_of_neg_of_pos ha hb
  have h1 := Int.mul_le_mul_of_nonpos_left (show a / b ≤ 0 by omega) hq
  have h2 := Int.ediv_mul_le a (show b ≠ 0 by omega)
  omega
theorem div_between {a b p q m M : Int} (hp : 0 < p) (h1 : p ≤ b) (h2 : b ≤ q) (hm : m ≤ a / p ∧ m ≤ a / q) (hM : a / p ≤ M ∧ a / q ≤ M) : m ≤ a / b ∧ a / b ≤ M := by
  by_cases ha : 0 ≤ a
  · have := div_up (show 0 < b by omega) h2 ha
    have := div_up hp h1 ha
    omega
  · have := div_dn (show 0 < b by omega) h2 (show a < 0 by omega)
    have := div_dn hp h1 (show a < 0 by omega)
    omega
theorem quo_pos {l h p q m M : Int} (hp : 0 < p) (hpq : p ≤ q) (lo : m ≤ l / p ∧ m ≤ l / q ∧ m ≤ h / p ∧ m ≤ h / q) (hi : l / p ≤ M ∧ l / q ≤ M ∧ h / p ≤ M ∧ h / q ≤ M) {a b : Int} (h1 : l ≤ a) (h2 : a ≤ h) (h3 : p ≤ b) (h4 : b ≤ q) : m ≤ a / b ∧ a / b ≤ M := by
  have k1 := div_between (a := l) hp h3 h4 ⟨lo.1, lo.2.1⟩ ⟨hi.1, hi.2.1⟩
  have k2 := div_between (a := h) hp h3 h4 ⟨lo.2.2.1, lo.2.2.2⟩ ⟨hi.2.2.1, hi.2.2.2⟩
  have m1 := Int.ediv_le_ediv (show 0 < b by omega) h1
  have m2 := Int.ediv_le_ediv (show 0 < b by omega) h2
  omega
theorem fd_neg (a b : Int) (hb : b < 0) : a.fdiv b = (-a) / (-b) := by
  rw [← Int.neg_fdiv_neg, fdiv_pos (by omega)]
section
variable {l h s l2 h2 s2 : Int}
theorem alO_up (r2 : Rg l2 h2 s2) : (∀ b, l2 ≤ b ∧ b ≤ h2 ∧ s2 ∣ b - l2 → 1 ≤ b → ∃ p q, upE l2 h2 s2 = [p, q] ∧ 1 ≤ p ∧ p ≤ b ∧ b ≤ q) ∧ (upE l2 h2 s2 = [] ∨ ∃ p q, upE l2 h2 s2 = [p, q] ∧ 1 ≤ p ∧ p ≤ q ∧ q ≤ h2) := by
  obtain ⟨k1, k2⟩ := al_ok r2 1
  unfold upE
  cases e : alO l2 h2 s2 1 with
  | none =>
    rw [e] at k2
    exact ⟨fun b hb h1 => ((k2 b).mpr ⟨hb, h1⟩).elim, .inl rfl⟩
  | some t =>
    obtain ⟨p, q, t⟩ := t
    rw [e] at k1 k2
    have f := Rg.facts (show Rg p q t from k1)
    have kp := (k2 p).mp ⟨by omega, f.2.1, by simp⟩
    have kq := (k2 q).mp ⟨f.2.1, by omega, f.2.2.2⟩
    exact ⟨fun b hb h1 => ⟨p, q, rfl, kp.2, ((k2 b).mpr ⟨hb, h1⟩).1, ((k2 b).mpr ⟨hb, h1⟩).2.1⟩, .inr ⟨p, q, rfl, kp.2, f.2.1, kq.1.2.1⟩⟩
theorem amO_dn (r2 : Rg l2 h2 s2) : (∀ b, l2 ≤ b ∧ b ≤ h2 ∧ s2 ∣ b - l2 → b ≤ -1 → ∃ p q, dnE l2 h2 s2 = [p, q] ∧ q ≤ -1 ∧ p ≤ b ∧ b ≤ q) ∧ (dnE l2 h2 s2 = [] ∨ ∃ p q, dnE l2 h2 s2 = [p, q] ∧ q ≤ -1 ∧ p ≤ q ∧ l2 ≤ p) := by
  obtain ⟨k1, k2⟩ := am_ok r2 (-1)
  unfold dnE
  cases e : amO l2 h2 s2 (-1) with
  | none =>
    rw [e] at k2
    exact ⟨fun b hb h1 => ((k2 b).mpr ⟨hb, h1⟩).elim, .inl rfl⟩
  | some t =>
    obtain ⟨p, q, t⟩ := t
    rw [e] at k1 k2
    have f := Rg.facts (show Rg p q t from k1)
    have kp := (k2 p).mp ⟨by omega, f.2.1, by simp⟩
    have kq := (k2 q).mp ⟨f.2.1, by omega, f.2.2.2⟩
    exact ⟨fun b hb h1 => ⟨p, q, rfl, kq.2, ((k2 b).mpr ⟨hb, h1⟩).1, ((k2 b).mpr ⟨hb, h1⟩).2.1⟩, .inr ⟨p, q, rfl, kq.2, f.2.1, kp.1.1⟩⟩
theorem quo_ok (r : Rg l h s) (r2 : Rg l2 h2 s2) : RgO (zQuo l h s l2 h2 s2) ∧ ∀ a b, l ≤ a ∧ a ≤ h ∧ s ∣ a - l → l2 ≤ b ∧ b ≤ h2 ∧ s2 ∣ b - l2 → b ≠ 0 → inO (a.fdiv b) (zQuo l h s l2 h2 s2) := by
  have lo := minI_le (quoL l h l2 h2 s2)
  have hi := maxI_ge (quoL l h l2 h2 s2)
  have mm : ∀ x ∈ quoL l h l2 h2 s2, minI (quoL l h l2 h2 s2) ≤ maxI (quoL l h l2 h2 s2) := fun x hx => by have := lo x hx; have := hi x hx; omega
  have mem : ∀ a b, (a = l ∨ a = h) → (b ∈ upE l2 h2 s2 ∨ b ∈ dnE l2 h2 s2) → a.fdiv b ∈ quoL l h l2 h2 s2 := fun a b ha hb => by
    unfold quoL
    refine List.mem_flatMap.mpr ⟨a, by rcases ha with rfl | rfl <;> simp, List.mem_map.mpr ⟨b, by simpa using hb, rfl⟩⟩
  have fin : ∀ x, (∃ y, y ∈ quoL l h l2 h2 s2) → minI (quoL l h l2 h2 s2) ≤ x ∧ x ≤ maxI (quoL l h l2 h2 s2) → inO x (zQuo l h s l2 h2 s2) := fun x hy hx => by
    obtain ⟨y, hy⟩ := hy
    unfold zQuo
    rw [if_neg (List.ne_nil_of_mem hy), mk_in (mm y hy)]
    exact ⟨hx.1, hx.2, Int.one_dvd _⟩
  refine ⟨?_, fun a b ha hb h0 => ?_⟩
  · unfold zQuo
    split
    · trivial
    · rename_i c
      obtain ⟨x, hx⟩ := List.exists_mem_of_ne_nil _ c
      exact mk_rg (by omega) (mm x hx) (Int.one_dvd _)
  · by_cases hb0 : 1 ≤ b
    · obtain ⟨p, q, e, p1, p2, p3⟩ := (alO_up r2).1 b hb hb0
      have m1 := mem l p (.inl rfl) (.inl (by rw [e]; simp))
      have m2 := mem l q (.inl rfl) (.inl (by rw [e]; simp))
      have m3 := mem h p (.inr rfl) (.inl (by rw [e]; simp))
      have m4 := mem h q (.inr rfl) (.inl (by rw [e]; simp))
      refine fin _ ⟨_, m1⟩ ?_
      have a1 := lo _ m1; have a2 := lo _ m2; have a3 := lo _ m3; have a4 := lo _ m4
      have b1 := hi _ m1; have b2 := hi _ m2; have b3 := hi _ m3; have b4 := hi _ m4
      rw [fdiv_pos (by omega)] at a1 a2 a3 a4 b1 b2 b3 b4 ⊢
      exact quo_pos (show 0 < p by omega) (by omega) ⟨a1, a2, a3, a4⟩ ⟨b1, b2, b3, b4⟩ ha.1 ha.2.1 p2 p3
    · obtain ⟨p, q, e, p1, p2, p3⟩ := (amO_dn r2).1 b hb (by omega)
      have m1 := mem l p (.inl rfl) (.inr (by rw [e]; simp))
      have m2 := mem l q (.inl rfl) (.inr (by rw [e]; simp))
      have m3 := mem h p (.inr rfl) (.inr (by rw [e]; simp))
      have m4 := mem h q (.inr rfl) (.inr (by rw [e]; simp))
      refine fin _ ⟨_, m1⟩ ?_
      have a1 := lo _ m1; have a2 := lo _ m2; have a3 := lo _ m3; have a4 := lo _ m4
      have b1 := hi _ m1; have b2 := hi _ m2; have b3 := hi _ m3; have b4 := hi _ m4
      rw [fd_neg _ _ (by omega)] at a1 a2 a3 a4 b1 b2 b3 b4 ⊢
      exact quo_pos (l := -h) (h := -l) (p := -q) (q := -p) (by omega) (by omega) ⟨a4, a3, a2, a1⟩ ⟨b4, b3, b2, b1⟩ (by omega) (by omega) (by omega) (by omega)
/-! ### remainders -/
theorem fmod_bounds (a : Int) {b : Int} (hb : b ≠ 0) : (0 < b → 0 ≤ a.fmod b ∧ a.fmod b ≤ b - 1) ∧ (b < 0 → b + 1 ≤ a.fmod b ∧ a.fmod b ≤ 0) := by
  refine ⟨fun h => ⟨Int.fmod_nonneg_of_pos a h, by have := Int.fmod_lt_of_pos a h; omega⟩, fun h => ?_⟩
  have e := Int.neg_fmod_neg a b
  have h1 := Int.fmod_nonneg_of_pos (-a) (show 0 < -b by omega)
  have h2 := Int.fmod_lt_of_pos (-a) (show 0 < -b by omega)
  omega
theorem fmod_sub (a b : Int) : a.fmod b = a - a.fdiv b * b := by
  have := Int.mul_fdiv_add_fmod a b
  rw [Int.mul_comm] at this
  omega
theorem fdiv_mono {a a' b : Int} (hb : b ≠ 0) (h : a ≤ a') : (0 < b → a.fdiv b ≤ a'.fdiv b) ∧ (b < 0 → a'.fdiv b ≤ a.fdiv b) := by
  refine ⟨fun z => ?_, fun z => ?_⟩
  · rw [fdiv_pos z, fdiv_pos z]; exact Int.ediv_le_ediv z h
  · rw [fd_neg _ _ z, fd_neg _ _ z]; exact Int.ediv_le_ediv (by omega) (by omega)
theorem fmod_shift {a m k : Int} (hm : m ≠ 0) (h : m ∣ k) : (a + k).fmod m = a.fmod m := by
  obtain ⟨j, rfl⟩ := h
  rw [Int.add_mul_fmod_self_left]
theorem fmod_zero_dvd {a m : Int} (h : a.fmod m = 0) : m ∣ a := by
  have := fmod_sub a m
  exact ⟨a.fdiv m, by rw [Int.mul_comm]; omega⟩
theorem one_ok (r : Rg l h s) {m : Int} (hm : m ≠ 0) : RgO (zOne l h s m) ∧ ∀ a, l ≤ a ∧ a ≤ h ∧ s ∣ a - l → inO (a.fmod m) (zOne l h s m) := by
  obtain ⟨f1, f2, f3, f4⟩ := r.facts
  unfold zOne
  split
  · rename_i c
    have d := fmod_zero_dvd c
    refine ⟨.inl ⟨rfl, rfl⟩, fun a ha => ?_⟩
    have e : a.fmod m = l.fmod m := by
      rw [show a = l + (a - l) by omega]
      exact fmod_shift hm (Int.dvd_trans d ha.2.2)
    exact ⟨by omega, by omega, by rw [e]; simp⟩
  · rename_i c
    split
    · rename_i e
      have mid : ∀ a, l ≤ a → a ≤ h → a.fdiv m = l.fdiv m := fun a h1 h2 => by
        have k1 := fdiv_mono hm h1
        have k2 := fdiv_mono hm h2
        by_cases z : 0 < m
        · have := k1.1 z; have := k2.1 z; omega
        · have := k1.2 (by omega); have := k2.2 (by omega); omega
      refine ⟨?_, fun a ha => ?_⟩
      · show Rg _ _ _
        rcases r with ⟨p1, p2⟩ | ⟨p1, p2, p3⟩
        · exact .inl ⟨p1, by omega⟩
        · exact .inr ⟨p1, by omega, by rw [show h - l.fdiv m * m - (l - l.fdiv m * m) = h - l by omega]; exact p3⟩
      · rw [fmod_sub, mid a ha.1 ha.2.1]
        exact ⟨by omega, by omega, by rw [show a - l.fdiv m * m - (l - l.fdiv m * m) = a - l by omega]; exact ha.2.2⟩
    · rename_i e
      have big : m ≠ 1 ∧ m ≠ -1 := by
        refine ⟨fun z => c ?_, fun z => c ?_⟩
        · have := (fmod_bounds s hm).1 (by omega); omega
        · have := (fmod_bounds s hm).2 (by omega); omega
      refine ⟨?_, fun a ha => ?_⟩
      · exact .inr ⟨by omega, by omega, Int.one_dvd _⟩
      · have k := fmod_bounds a hm
        refine ⟨?_, ?_, Int.one_dvd _⟩
        · by_cases z : 0 < m
          · have := k.1 z; omega
          · have := k.2 (by omega); omega
        · by_cases z : 0 < m
          · have := k.1 z; omega
          · have := k.2 (by omega); omega
theorem rem_ok (r : Rg l h s) (r2 : Rg l2 h2 s2) : RgO (zRem l h s l2 h2 s2) ∧ ∀ a b, l ≤ a ∧ a ≤ h ∧ s ∣ a - l → l2 ≤ b ∧ b ≤ h2 ∧ s2 ∣ b - l2 → b ≠ 0 → inO (a.fmod b) (zRem l h s l2 h2 s2) := by
  obtain ⟨g1, g2, g3, g4⟩ := r2.facts
  unfold zRem
  split
  · rename_i c
    refine ⟨mk_rg (by omega) (by omega) (Int.one_dvd _), fun a b ha hb h0 => ?_⟩
    rw [mk_in (by omega)]
    have k := fmod_bounds a h0
    refine ⟨?_, ?_, Int.one_dvd _⟩
    · by_cases z : 0 < b
      · have := k.1 z; omega
      · have := k.2 (by omega); omega
    · by_cases z : 0 < b
      · have := k.1 z; omega
      · have := k.2 (by omega); omega
  · rename_i c
    have hs : s2 = 0 := by omega
    have e := r2.zero (fun z => by have := r2.pos z; omega)
    split
    · rename_i z
      exact ⟨trivial, fun a b ha hb h0 => by omega⟩
    · rename_i z
      obtain ⟨k1, k2⟩ := one_ok r z
      refine ⟨k1, fun a b ha hb h0 => ?_⟩
      have : b = l2 := by omega
      rw [this]
      exact k2 a ha
end
end Cb
namespace Cb
open PySem L2 Pd Pu Rm
theorem upE_eq {l h s : Int} (r : Rg l h s) : upE l h s = if 1 ≤ h then [if l < 1 then h - (h - 1).fdiv (max 1 s) * s else l, h] else [] := by
  have f := r.facts
  unfold upE alO
  by_cases c1 : 1 ≤ l
  · rw [if_pos c1, if_pos (by omega), if_neg (by omega)]
  · rw [if_neg c1]
    by_cases c2 : h < 1
    · rw [if_pos c2, if_neg (by omega)]
    · rw [if_neg c2, if_pos (by omega), if_pos (by omega), mk_eq]
      obtain ⟨hs, _, _, _, _, e⟩ := cut_up r (show l < 1 by omega) (show 1 ≤ h by omega)
      rw [show max 1 s = s by omega, fdiv_pos hs, ← e]
theorem dnE_eq {l h s : Int} (r : Rg l h s) : dnE l h s = if l ≤ -1 then [l, if -1 < h then l + (0 - 1 - l).fdiv (max 1 s) * s else h] else [] := by
  have f := r.facts
  unfold dnE amO
  by_cases c1 : h ≤ -1
  · rw [if_pos c1, if_pos (by omega), if_neg (by omega)]
  · rw [if_neg c1]
    by_cases c2 : -1 < l
    · rw [if_pos c2, if_neg (by omega)]
    · rw [if_neg c2, if_pos (by omega), if_pos (by omega), mk_eq]
      obtain ⟨hs, _, _, _, _, e⟩ := cut_down r (show l ≤ -1 by omega) (show -1 < h by omega)
      rw [show max 1 s = s by omega, fdiv_pos hs, show (0 : Int) - 1 - l = -1 - l by omega, ← e]
end Cb

set_option Elab.async false
set_option linter.all false
set_option maxRecDepth 100000
set_option maxHeartbeats 4000000
namespace G
open PySem L2 Pd Pu PyProof.Rows
def topS (i : Nat) : Stmt := PySem.Challenge.pw_carryclaim_k09_whole_operations_on_range.main.body.getD i (.Pass ⟨0, 0, 0, 0⟩)
def d_LEAST_VALUE : D := .int (-10000)
def u_LEAST_VALUE : U := .int (-10000)
def d_GREATEST_VALUE : D := .int 10000
def u_GREATEST_VALUE : U := .int 10000
/-! ### has -/
abbrev s_has : Stmt := topS 4
def g_has : FS :=
    sSeq (sAsg (pVar 0) (fTup 3 (fCons (fName 2) (fCons (fName 3) (fCons (fName 4) (fNil))))))
    (sSeq (sIf (pOr (pTest (pOp gLt (pVar 1) (pVar 2))) (pTest (pOp gGt (pVar 1) (pVar 3)))) (sRet (pC (.bl false))) (sNext))
    (sRet (pOrV (pOp gEq (pVar 4) (pC (.int 0))) (pOp gEq (pOp gMod (pOp gSub (pVar 1) (pVar 2)) (pVar 4)) (pC (.int 0))))))
def w_has : WS :=
    wSeq (wAsg (wVar 0) (wUnp 3 (wTCons (wName 2) (wTCons (wName 3) (wTCons (wName 4) (wTNil))))))
    (wSeq (wSIf (wOr (wTest (wOp uLt (wVar 1) (wVar 2))) (wTest (wOp uGt (wVar 1) (wVar 3)))) (wRet (wC (.bl false))) (wNext))
    (wRet (wOrV (wOp uEq (wVar 4) (wC (.int 0))) (wOp uEq (wOp uMod (wOp uSub (wVar 1) (wVar 2)) (wVar 4)) (wC (.int 0))))))
abbrev N_has : List Str := [PySem.Str.ofString "span", PySem.Str.ofString "n", PySem.Str.ofString "low", PySem.Str.ofString "high", PySem.Str.ofString "step"]
theorem rn_has {a0 a1 : D} : rho0 N_has [a0, a1] = [some a0, some a1, none, none, none] := rfl
theorem sc_has : FnScope N_has [PySem.Str.ofString "span", PySem.Str.ofString "n"] (defScope s_has) := ⟨rfl, rfl, rfl, by decide +kernel, rfl, by decide +kernel, by decide +kernel⟩
def Φ_has : List D → PM → Out D := Pd.run 2 N_has (g_has)
def W_has : List X → W U := wrun 2 5 (w_has)
theorem nx_has (xs : List X) : noX (W_has xs) = W_has xs := noX_wrun
theorem ok_has {P : Program} {w : World} {K : PySem.W.Frag} {mg : Str → Option Value} {base : Heap} (F : FunM K mg "has" s_has [PySem.Str.ofString "span", PySem.Str.ofString "n"]) :
    Callee P w K mg base "has" 1 (Pd.run 2 N_has (g_has)) := by
  refine callee_run F sc_has rfl fun f cdv A outer s H E hr => ?_
  have nd := sc_has.nd
  exact pdb_cons (pds_asg (pd_var 0) (pdg_tup rfl (pdgs_cons (pdg_name (i := 2) nd) (pdgs_cons (pdg_name (i := 3) nd) (pdgs_cons (pdg_name (i := 4) nd) (pdgs_nil))))))
    (pdb_cons (pds_if (pdt_w (pdw_or (pdt_cmp o_lt (pd_var 1) (pd_var 2) (nomark _)) (pdw_or1 (pdt_cmp o_gt (pd_var 1) (pd_var 3) (nomark _))))) (pdb_one (pds_ret (pd_bl))) (pdb_nil))
    (pdb_one (pds_ret (pd_or (pd_cmp o_eq (pd_var 4) (pd_int) (nomark _)) (pd_one (pd_cmp o_eq (pd_op o_mod (pd_op o_sub (pd_var 1) (pd_var 2)) (pd_var 4)) (pd_int) (nomark _)))))))
/-! ### with_ends -/
abbrev s_with_ends : Stmt := topS 5
def g_with_ends : FS :=
    sSeq (sIf (pTest (pOp gEq (pVar 0) (pVar 1))) (sRet (pTup (aCons (pVar 0) (aCons (pVar 0) (aCons (pC (.int 0)) (aNil)))))) (sNext))
    (sRet (pTup (aCons (pVar 0) (aCons (pVar 1) (aCons (pVar 2) (aNil))))))
def w_with_ends : WS :=
    wSeq (wSIf (wTest (wOp uEq (wVar 0) (wVar 1))) (wRet (wTup (wCons (wVar 0) (wCons (wVar 0) (wCons (wC (.int 0)) (wNil)))))) (wNext))
    (wRet (wTup (wCons (wVar 0) (wCons (wVar 1) (wCons (wVar 2) (wNil))))))
abbrev N_with_ends : List Str := [PySem.Str.ofString "low", PySem.Str.ofString "high", PySem.Str.ofString "step"]
theorem rn_with_ends {a0 a1 a2 : D} : rho0 N_with_ends [a0, a1, a2] = [some a0, some a1, some a2] := rfl
theorem sc_with_ends : FnScope N_with_ends [PySem.Str.ofString "low", PySem.Str.ofString "high", PySem.Str.ofString "step"] (defScope s_with_ends) := ⟨rfl, rfl, rfl, by decide +kernel, rfl, by decide +kernel, by decide +kernel⟩
def Φ_with_ends : List D → PM → Out D := Pd.run 3 N_with_ends (g_with_ends)
def W_with_ends : List X → W U := wrun 3 3 (w_with_ends)
theorem nx_with_ends (xs : List X) : noX (W_with_ends xs) = W_with_ends xs := noX_wrun
theorem ok_with_ends {P : Program} {w : World} {K : PySem.W.Frag} {mg : Str → Option Value} {base : Heap} (F : FunM K mg "with_ends" s_with_ends [PySem.Str.ofString "low", PySem.Str.ofString "high", PySem.Str.ofString "step"]) :
    Callee P w K mg base "with_ends" 1 (Pd.run 3 N_with_ends (g_with_ends)) := by
  refine callee_run F sc_with_ends rfl fun f cdv A outer s H E hr => ?_
  have nd := sc_with_ends.nd
  exact pdb_cons (pds_if (pdt_cmp o_eq (pd_var 0) (pd_var 1) (nomark _)) (pdb_one (pds_ret (pd_tup (pda_cons (pd_var 0) (pda_cons (pd_var 0) (pda_cons (pd_int) (pda_nil))))))) (pdb_nil))
    (pdb_one (pds_ret (pd_tup (pda_cons (pd_var 0) (pda_cons (pd_var 1) (pda_cons (pd_var 2) (pda_nil)))))))
/-! ### at_most -/
abbrev s_at_most : Stmt := topS 6
def g_at_most (Φ_with_ends : List D → PM → Out D) : FS :=
    sSeq (sAsg (pVar 0) (fTup 3 (fCons (fName 2) (fCons (fName 3) (fCons (fName 4) (fNil))))))
    (sSeq (sIf (pTest (pOp gGe (pVar 1) (pVar 3))) (sRet (pVar 0)) (sNext))
    (sSeq (sIf (pTest (pOp gLt (pVar 1) (pVar 2))) (sRet (pC .non)) (sNext))
    (sRet (pCall Φ_with_ends (aCons (pVar 2) (aCons (pOp gSub (pVar 1) (pOp gMod (pOp gSub (pVar 1) (pVar 2)) (pVar 4))) (aCons (pVar 4) (aNil))))))))
def w_at_most (W_with_ends : List X → W U) : WS :=
    wSeq (wAsg (wVar 0) (wUnp 3 (wTCons (wName 2) (wTCons (wName 3) (wTCons (wName 4) (wTNil))))))
    (wSeq (wSIf (wTest (wOp uGe (wVar 1) (wVar 3))) (wRet (wVar 0)) (wNext))
    (wSeq (wSIf (wTest (wOp uLt (wVar 1) (wVar 2))) (wRet (wC .non)) (wNext))
    (wRet (wCall W_with_ends (wCons (wU (wVar 2)) (wCons (wU (wOp uSub (wVar 1) (wOp uMod (wOp uSub (wVar 1) (wVar 2)) (wVar 4)))) (wCons (wU (wVar 4)) (wNil))))))))
abbrev N_at_most : List Str := [PySem.Str.ofString "span", PySem.Str.ofString "n", PySem.Str.ofString "low", PySem.Str.ofString "high", PySem.Str.ofString "step"]
theorem rn_at_most {a0 a1 : D} : rho0 N_at_most [a0, a1] = [some a0, some a1, none, none, none] := rfl
theorem sc_at_most : FnScope N_at_most [PySem.Str.ofString "span", PySem.Str.ofString "n"] (defScope s_at_most) := ⟨rfl, rfl, rfl, by decide +kernel, rfl, by decide +kernel, by decide +kernel⟩
def Φ_at_most : List D → PM → Out D := Pd.run 2 N_at_most (g_at_most Φ_with_ends)
def W_at_most : List X → W U := wrun 2 5 (w_at_most W_with_ends)
theorem nx_at_most (xs : List X) : noX (W_at_most xs) = W_at_most xs := noX_wrun
theorem ok_at_most {P : Program} {w : World} {K : PySem.W.Frag} {mg : Str → Option Value} {base : Heap} (F : FunM K mg "at_most" s_at_most [PySem.Str.ofString "span", PySem.Str.ofString "n"]) {Φ_with_ends : List D → PM → Out D} (C_with_ends : Callee P w K mg base "with_ends" 1 Φ_with_ends) :
    Callee P w K mg base "at_most" 2 (Pd.run 2 N_at_most (g_at_most Φ_with_ends)) := by
  refine callee_run F sc_at_most rfl fun f cdv A outer s H E hr => ?_
  have nd := sc_at_most.nd
  exact pdb_cons (pds_asg (pd_var 0) (pdg_tup rfl (pdgs_cons (pdg_name (i := 2) nd) (pdgs_cons (pdg_name (i := 3) nd) (pdgs_cons (pdg_name (i := 4) nd) (pdgs_nil))))))
    (pdb_cons (pds_if (pdt_cmp o_ge (pd_var 1) (pd_var 3) (nomark _)) (pdb_one (pds_ret (pd_var 0))) (pdb_nil))
    (pdb_cons (pds_if (pdt_cmp o_lt (pd_var 1) (pd_var 2) (nomark _)) (pdb_one (pds_ret (pd_non))) (pdb_nil))
    (pdb_one (pds_ret (pd_callC C_with_ends (hr.mono (by decide)) rfl (pda_cons (pd_var 2) (pda_cons (pd_op o_sub (pd_var 1) (pd_op o_mod (pd_op o_sub (pd_var 1) (pd_var 2)) (pd_var 4))) (pda_cons (pd_var 4) (pda_nil)))))))))
/-! ### at_least -/
abbrev s_at_least : Stmt := topS 7
def g_at_least (Φ_with_ends : List D → PM → Out D) : FS :=
    sSeq (sAsg (pVar 0) (fTup 3 (fCons (fName 2) (fCons (fName 3) (fCons (fName 4) (fNil))))))
    (sSeq (sIf (pTest (pOp gLe (pVar 1) (pVar 2))) (sRet (pVar 0)) (sNext))
    (sSeq (sIf (pTest (pOp gGt (pVar 1) (pVar 3))) (sRet (pC .non)) (sNext))
    (sRet (pCall Φ_with_ends (aCons (pOp gAdd (pVar 1) (pOp gMod (pOp gSub (pVar 3) (pVar 1)) (pVar 4))) (aCons (pVar 3) (aCons (pVar 4) (aNil))))))))
def w_at_least (W_with_ends : List X → W U) : WS :=
    wSeq (wAsg (wVar 0) (wUnp 3 (wTCons (wName 2) (wTCons (wName 3) (wTCons (wName 4) (wTNil))))))
    (wSeq (wSIf (wTest (wOp uLe (wVar 1) (wVar 2))) (wRet (wVar 0)) (wNext))
    (wSeq (wSIf (wTest (wOp uGt (wVar 1) (wVar 3))) (wRet (wC .non)) (wNext))
    (wRet (wCall W_with_ends (wCons (wU (wOp uAdd (wVar 1) (wOp uMod (wOp uSub (wVar 3) (wVar 1)) (wVar 4)))) (wCons (wU (wVar 3)) (wCons (wU (wVar 4)) (wNil))))))))
abbrev N_at_least : List Str := [PySem.Str.ofString "span", PySem.Str.ofString "n", PySem.Str.ofString "low", PySem.Str.ofString "high", PySem.Str.ofString "step"]
theorem rn_at_least {a0 a1 : D} : rho0 N_at_least [a0, a1] = [some a0, some a1, none, none, none] := rfl
theorem sc_at_least : FnScope N_at_least [PySem.Str.ofString "span", PySem.Str.ofString "n"] (defScope s_at_least) := ⟨rfl, rfl, rfl, by decide +kernel, rfl, by decide +kernel, by decide +kernel⟩
def Φ_at_least : List D → PM → Out D := Pd.run 2 N_at_least (g_at_least Φ_with_ends)
def W_at_least : List X → W U := wrun 2 5 (w_at_least W_with_ends)
theorem nx_at_least (xs : List X) : noX (W_at_least xs) = W_at_least xs := noX_wrun
theorem ok_at_least {P : Program} {w : World} {K : PySem.W.Frag} {mg : Str → Option Value} {base : Heap} (F : FunM K mg "at_least" s_at_least [PySem.Str.ofString "span", PySem.Str.ofString "n"]) {Φ_with_ends : List D → PM → Out D} (C_with_ends : Callee P w K mg base "with_ends" 1 Φ_with_ends) :
    Callee P w K mg base "at_least" 2 (Pd.run 2 N_at_least (g_at_least Φ_with_ends)) := by
  refine callee_run F sc_at_least rfl fun f cdv A outer s H E hr => ?_
  have nd := sc_at_least.nd
  exact pdb_cons (pds_asg (pd_var 0) (pdg_tup rfl (pdgs_cons (pdg_name (i := 2) nd) (pdgs_cons (pdg_name (i := 3) nd) (pdgs_cons (pdg_name (i := 4) nd) (pdgs_nil))))))
    (pdb_cons (pds_if (pdt_cmp o_le (pd_var 1) (pd_var 2) (nomark _)) (pdb_one (pds_ret (pd_var 0))) (pdb_nil))
    (pdb_cons (pds_if (pdt_cmp o_gt (pd_var 1) (pd_var 3) (nomark _)) (pdb_one (pds_ret (pd_non))) (pdb_nil))
    (pdb_one (pds_ret (pd_callC C_with_ends (hr.mono (by decide)) rfl (pda_cons (pd_op o_add (pd_var 1) (pd_op o_mod (pd_op o_sub (pd_var 3) (pd_var 1)) (pd_var 4))) (pda_cons (pd_var 3) (pda_cons (pd_var 4) (pda_nil)))))))))
/-! ### between -/
abbrev s_between : Stmt := topS 8
def g_between (Φ_at_least : List D → PM → Out D) (Φ_at_most : List D → PM → Out D) : FS :=
    sSeq (sAsg (pCall Φ_at_least (aCons (pVar 0) (aCons (pVar 1) (aNil)))) (fName 3))
    (sSeq (sIf (pTest (pOp gIs2 (pVar 3) (pC .non))) (sRet (pC .non)) (sNext))
    (sRet (pCall Φ_at_most (aCons (pVar 3) (aCons (pVar 2) (aNil))))))
def w_between (W_at_least : List X → W U) (W_at_most : List X → W U) : WS :=
    wSeq (wAsg (wCall W_at_least (wCons (wU (wVar 0)) (wCons (wU (wVar 1)) (wNil)))) (wName 3))
    (wSeq (wSIf (wTest (wOp uIs (wVar 3) (wC .non))) (wRet (wC .non)) (wNext))
    (wRet (wCall W_at_most (wCons (wU (wVar 3)) (wCons (wU (wVar 2)) (wNil))))))
abbrev N_between : List Str := [PySem.Str.ofString "span", PySem.Str.ofString "low", PySem.Str.ofString "high", PySem.Str.ofString "cut"]
theorem rn_between {a0 a1 a2 : D} : rho0 N_between [a0, a1, a2] = [some a0, some a1, some a2, none] := rfl
theorem sc_between : FnScope N_between [PySem.Str.ofString "span", PySem.Str.ofString "low", PySem.Str.ofString "high"] (defScope s_between) := ⟨rfl, rfl, rfl, by decide +kernel, rfl, by decide +kernel, by decide +kernel⟩
def Φ_between : List D → PM → Out D := Pd.run 3 N_between (g_between Φ_at_least Φ_at_most)
def W_between : List X → W U := wrun 3 4 (w_between W_at_least W_at_most)
theorem nx_between (xs : List X) : noX (W_between xs) = W_between xs := noX_wrun
theorem ok_between {P : Program} {w : World} {K : PySem.W.Frag} {mg : Str → Option Value} {base : Heap} (F : FunM K mg "between" s_between [PySem.Str.ofString "span", PySem.Str.ofString "low", PySem.Str.ofString "high"]) {Φ_at_least : List D → PM → Out D} (C_at_least : Callee P w K mg base "at_least" 2 Φ_at_least) {Φ_at_most : List D → PM → Out D} (C_at_most : Callee P w K mg base "at_most" 2 Φ_at_most) :
    Callee P w K mg base "between" 3 (Pd.run 3 N_between (g_between Φ_at_least Φ_at_most)) := by
  refine callee_run F sc_between rfl fun f cdv A outer s H E hr => ?_
  have nd := sc_between.nd
  exact pdb_cons (pds_set 3 (pd_callC C_at_least (hr.mono (by decide)) rfl (pda_cons (pd_var 0) (pda_cons (pd_var 1) (pda_nil)))) nd)
    (pdb_cons (pds_if (pdt_cmp o_is2 (pd_var 3) (pd_non) (nomark _)) (pdb_one (pds_ret (pd_non))) (pdb_nil))
    (pdb_one (pds_ret (pd_callC C_at_most (hr.mono (by decide)) rfl (pda_cons (pd_var 3) (pda_cons (pd_var 2) (pda_nil)))))))
/-! ### raw_sum -/
abbrev s_raw_sum : Stmt := topS 10
def g_raw_sum : FS :=
    sRet (pTup (aCons (pOp gAdd (pOp gIx (pVar 0) (pC (.int 0))) (pOp gIx (pVar 1) (pC (.int 0)))) (aCons (pOp gAdd (pOp gIx (pVar 0) (pC (.int 1))) (pOp gIx (pVar 1) (pC (.int 1)))) (aCons (pCB bGcd (aCons (pOp gIx (pVar 0) (pC (.int 2))) (aCons (pOp gIx (pVar 1) (pC (.int 2))) (aNil)))) (aNil)))))
def w_raw_sum : WS :=
    wRet (wTup (wCons (wOp uAdd (wOp uIx (wVar 0) (wC (.int 0))) (wOp uIx (wVar 1) (wC (.int 0)))) (wCons (wOp uAdd (wOp uIx (wVar 0) (wC (.int 1))) (wOp uIx (wVar 1) (wC (.int 1)))) (wCons (wCB uGcd (wCons (wOp uIx (wVar 0) (wC (.int 2))) (wCons (wOp uIx (wVar 1) (wC (.int 2))) (wNil)))) (wNil)))))
abbrev N_raw_sum : List Str := [PySem.Str.ofString "first", PySem.Str.ofString "second"]
theorem rn_raw_sum {a0 a1 : D} : rho0 N_raw_sum [a0, a1] = [some a0, some a1] := rfl
theorem sc_raw_sum : FnScope N_raw_sum [PySem.Str.ofString "first", PySem.Str.ofString "second"] (defScope s_raw_sum) := ⟨rfl, rfl, rfl, by decide +kernel, rfl, by decide +kernel, by decide +kernel⟩
def Φ_raw_sum : List D → PM → Out D := Pd.run 2 N_raw_sum (g_raw_sum)
def W_raw_sum : List X → W U := wrun 2 2 (w_raw_sum)
theorem nx_raw_sum (xs : List X) : noX (W_raw_sum xs) = W_raw_sum xs := noX_wrun
theorem ok_raw_sum {P : Program} {w : World} {K : PySem.W.Frag} {mg : Str → Option Value} {base : Heap} (F : FunM K mg "raw_sum" s_raw_sum [PySem.Str.ofString "first", PySem.Str.ofString "second"]) (m_gcd : mg "gcd" = some (.builtin "math.gcd")) :
    Callee P w K mg base "raw_sum" 1 (Pd.run 2 N_raw_sum (g_raw_sum)) := by
  refine callee_run F sc_raw_sum rfl fun f cdv A outer s H E hr => ?_
  have nd := sc_raw_sum.nd
  exact pdb_one (pds_ret (pd_tup (pda_cons (pd_op o_add (pd_ix (pd_var 0) (pd_int)) (pd_ix (pd_var 1) (pd_int))) (pda_cons (pd_op o_add (pd_ix (pd_var 0) (pd_int)) (pd_ix (pd_var 1) (pd_int))) (pda_cons (pd_callBf b_gcd rfl m_gcd (pda_cons (pd_ix (pd_var 0) (pd_int)) (pda_cons (pd_ix (pd_var 1) (pd_int)) (pda_nil)))) (pda_nil))))))
/-! ### raw_difference -/
abbrev s_raw_difference : Stmt := topS 11
def g_raw_difference : FS :=
    sRet (pTup (aCons (pOp gSub (pOp gIx (pVar 0) (pC (.int 0))) (pOp gIx (pVar 1) (pC (.int 1)))) (aCons (pOp gSub (pOp gIx (pVar 0) (pC (.int 1))) (pOp gIx (pVar 1) (pC (.int 0)))) (aCons (pCB bGcd (aCons (pOp gIx (pVar 0) (pC (.int 2))) (aCons (pOp gIx (pVar 1) (pC (.int 2))) (aNil)))) (aNil)))))
def w_raw_difference : WS :=
    wRet (wTup (wCons (wOp uSub (wOp uIx (wVar 0) (wC (.int 0))) (wOp uIx (wVar 1) (wC (.int 1)))) (wCons (wOp uSub (wOp uIx (wVar 0) (wC (.int 1))) (wOp uIx (wVar 1) (wC (.int 0)))) (wCons (wCB uGcd (wCons (wOp uIx (wVar 0) (wC (.int 2))) (wCons (wOp uIx (wVar 1) (wC (.int 2))) (wNil)))) (wNil)))))
abbrev N_raw_difference : List Str := [PySem.Str.ofString "first", PySem.Str.ofString "second"]
theorem rn_raw_difference {a0 a1 : D} : rho0 N_raw_difference [a0, a1] = [some a0, some a1] := rfl
theorem sc_raw_difference : FnScope N_raw_difference [PySem.Str.ofString "first", PySem.Str.ofString "second"] (defScope s_raw_difference) := ⟨rfl, rfl, rfl, by decide +kernel, rfl, by decide +kernel, by decide +kernel⟩
def Φ_raw_difference : List D → PM → Out D := Pd.run 2 N_raw_difference (g_raw_difference)
def W_raw_difference : List X → W U := wrun 2 2 (w_raw_difference)
theorem nx_raw_difference (xs : List X) : noX (W_raw_difference xs) = W_raw_difference xs := noX_wrun
theorem ok_raw_difference {P : Program} {w : World} {K : PySem.W.Frag} {mg : Str → Option Value} {base : Heap} (F : FunM K mg "raw_difference" s_raw_difference [PySem.Str.ofString "first", PySem.Str.ofString "second"]) (m_gcd : mg "gcd" = some (.builtin "math.gcd")) :
    Callee P w K mg base "raw_difference" 1 (Pd.run 2 N_raw_difference (g_raw_difference)) := by
  refine callee_run F sc_raw_difference rfl fun f cdv A outer s H E hr => ?_
  have nd := sc_raw_difference.nd
  exact pdb_one (pds_ret (pd_tup (pda_cons (pd_op o_sub (pd_ix (pd_var 0) (pd_int)) (pd_ix (pd_var 1) (pd_int))) (pda_cons (pd_op o_sub (pd_ix (pd_var 0) (pd_int)) (pd_ix (pd_var 1) (pd_int))) (pda_cons (pd_callBf b_gcd rfl m_gcd (pda_cons (pd_ix (pd_var 0) (pd_int)) (pda_cons (pd_ix (pd_var 1) (pd_int)) (pda_nil)))) (pda_nil))))))
/-! ### raw_product -/
abbrev s_raw_product : Stmt := topS 12
def g_raw_product : FS :=
    sSeq (sAsg (pLcN ⟨pItems (pSl gSl (pVar 0) (oNone) (oSome (pC (.int 2)))), fName 4, pYes, [4, 5]⟩ [⟨pItems (pSl gSl (pVar 1) (oNone) (oSome (pC (.int 2)))), fName 5, pYes, [5]⟩] (pOp gMul (pVar 4) (pVar 5))) (fName 2))
    (sSeq (sAsg (pCB bGcd (aCons (pOp gMul (pOp gIx (pVar 0) (pC (.int 0))) (pOp gIx (pVar 1) (pC (.int 2)))) (aCons (pOp gMul (pOp gIx (pVar 1) (pC (.int 0))) (pOp gIx (pVar 0) (pC (.int 2)))) (aCons (pOp gMul (pOp gIx (pVar 0) (pC (.int 2))) (pOp gIx (pVar 1) (pC (.int 2)))) (aNil))))) (fName 3))
    (sRet (pTup (aCons (pCB bMinL (aCons (pVar 2) (aNil))) (aCons (pCB bMaxL (aCons (pVar 2) (aNil))) (aCons (pVar 3) (aNil)))))))
def w_raw_product : WS :=
    wSeq (wAsg (wLcN ⟨wItems (wSl uSl (wVar 0) (wONone) (wOSome (wC (.int 2)))), wName 4, wYes, [4, 5]⟩ [⟨wItems (wSl uSl (wVar 1) (wONone) (wOSome (wC (.int 2)))), wName 5, wYes, [5]⟩] (wOp uMul (wVar 4) (wVar 5))) (wName 2))
    (wSeq (wAsg (wCB uGcd (wCons (wOp uMul (wOp uIx (wVar 0) (wC (.int 0))) (wOp uIx (wVar 1) (wC (.int 2)))) (wCons (wOp uMul (wOp uIx (wVar 1) (wC (.int 0))) (wOp uIx (wVar 0) (wC (.int 2)))) (wCons (wOp uMul (wOp uIx (wVar 0) (wC (.int 2))) (wOp uIx (wVar 1) (wC (.int 2)))) (wNil))))) (wName 3))
    (wRet (wTup (wCons (wCB uMinL (wCons (wVar 2) (wNil))) (wCons (wCB uMaxL (wCons (wVar 2) (wNil))) (wCons (wVar 3) (wNil)))))))
abbrev N_raw_product : List Str := [PySem.Str.ofString "first", PySem.Str.ofString "second", PySem.Str.ofString "products", PySem.Str.ofString "step", PySem.Str.ofString "left", PySem.Str.ofString "right"]
theorem rn_raw_product {a0 a1 : D} : rho0 N_raw_product [a0, a1] = [some a0, some a1, none, none, none, none] := rfl
theorem sc_raw_product : FnScope N_raw_product [PySem.Str.ofString "first", PySem.Str.ofString "second"] (defScope s_raw_product) := ⟨rfl, rfl, rfl, by decide +kernel, rfl, by decide +kernel, by decide +kernel⟩
def Φ_raw_product : List D → PM → Out D := Pd.run 2 N_raw_product (g_raw_product)
def W_raw_product : List X → W U := wrun 2 6 (w_raw_product)
theorem nx_raw_product (xs : List X) : noX (W_raw_product xs) = W_raw_product xs := noX_wrun
theorem ok_raw_product {P : Program} {w : World} {K : PySem.W.Frag} {mg : Str → Option Value} {base : Heap} (F : FunM K mg "raw_product" s_raw_product [PySem.Str.ofString "first", PySem.Str.ofString "second"]) (m_gcd : mg "gcd" = some (.builtin "math.gcd")) (m_max : mg "max" = none) (m_min : mg "min" = none) :
    Callee P w K mg base "raw_product" 1 (Pd.run 2 N_raw_product (g_raw_product)) := by
  refine callee_run F sc_raw_product rfl fun f cdv A outer s H E hr => ?_
  have nd := sc_raw_product.nd
  exact pdb_cons (pds_setLcn2 (own := [((PySem.Str.ofString "left"), 4), ((PySem.Str.ofString "right"), 5)]) rfl nd 2 rfl (by rfl) (pdi_any (pd_sl (pd_var 0) (pdo_none) (pdo_some (pd_int)))) (blkOk_by (N := N_raw_product) (sc := defScope s_raw_product) (by decide +kernel)) rfl (by decide) (gc_name (by decide) (fun _ _ _ _ _ => pg_name (i := 4) nd rfl (Or.inl rfl))) (gc_name (by decide) (fun _ _ _ _ _ => pg_name (i := 5) nd rfl (Or.inl rfl))) (fun _ _ _ _ _ => pdi_any (pd_sl (pd_var 1) (pdo_none) (pdo_some (pd_int)))) (fun _ _ _ _ _ => pd_op o_mul (pd_var 4) (pd_var 5)))
    (pdb_cons (pds_set 3 (pd_callBf b_gcd rfl m_gcd (pda_cons (pd_op o_mul (pd_ix (pd_var 0) (pd_int)) (pd_ix (pd_var 1) (pd_int))) (pda_cons (pd_op o_mul (pd_ix (pd_var 1) (pd_int)) (pd_ix (pd_var 0) (pd_int))) (pda_cons (pd_op o_mul (pd_ix (pd_var 0) (pd_int)) (pd_ix (pd_var 1) (pd_int))) (pda_nil))))) nd)
    (pdb_one (pds_ret (pd_tup (pda_cons (pd_callB (b_minL rfl) rfl m_min (by decide +kernel) (pda_cons (pd_var 2) (pda_nil))) (pda_cons (pd_callB (b_maxL rfl) rfl m_max (by decide +kernel) (pda_cons (pd_var 2) (pda_nil))) (pda_cons (pd_var 3) (pda_nil))))))))
/-! ### raw_quotient -/
abbrev s_raw_quotient : Stmt := topS 13
def g_raw_quotient (Φ_at_most : List D → PM → Out D) (Φ_at_least : List D → PM → Out D) (Φ_with_ends : List D → PM → Out D) : FS :=
    sSeq (sAsg (pLc (pItems (pTup (aCons (pCall Φ_at_least (aCons (pVar 1) (aCons (pC (.int 1)) (aNil)))) (aCons (pCall Φ_at_most (aCons (pVar 1) (aCons (pUn gNeg (pC (.int 1))) (aNil)))) (aNil))))) (fName 4) (pTest (pOp gIsNot2 (pVar 4) (pC .non))) (pVar 4) [4]) (fName 2))
    (sSeq (sAsg (pLcN ⟨pItems (pSl gSl (pVar 0) (oNone) (oSome (pC (.int 2)))), fName 5, pYes, [5, 4, 6]⟩ [⟨pItems (pVar 2), fName 4, pYes, [4, 6]⟩, ⟨pItems (pSl gSl (pVar 4) (oNone) (oSome (pC (.int 2)))), fName 6, pYes, [6]⟩] (pOp gFdiv (pVar 5) (pVar 6))) (fName 3))
    (sSeq (sIf (pTest (pOp gEqQ (pVar 3) (pLst (aNil)))) (sRet (pC .non)) (sNext))
    (sRet (pCall Φ_with_ends (aCons (pCB bMinL (aCons (pVar 3) (aNil))) (aCons (pCB bMaxL (aCons (pVar 3) (aNil))) (aCons (pC (.int 1)) (aNil))))))))
def w_raw_quotient (W_at_most : List X → W U) (W_at_least : List X → W U) (W_with_ends : List X → W U) : WS :=
    wSeq (wAsg (wLc (wItems (wTup (wCons (wCall W_at_least (wCons (wU (wVar 1)) (wCons (wU (wC (.int 1))) (wNil)))) (wCons (wCall W_at_most (wCons (wU (wVar 1)) (wCons (wU (wUn uNeg (wC (.int 1)))) (wNil)))) (wNil))))) (wName 4) (wTest (wOp uIsNot (wVar 4) (wC .non))) (wVar 4) [4]) (wName 2))
    (wSeq (wAsg (wLcN ⟨wItems (wSl uSl (wVar 0) (wONone) (wOSome (wC (.int 2)))), wName 5, wYes, [5, 4, 6]⟩ [⟨wItems (wVar 2), wName 4, wYes, [4, 6]⟩, ⟨wItems (wSl uSl (wVar 4) (wONone) (wOSome (wC (.int 2)))), wName 6, wYes, [6]⟩] (wOp uFdiv (wVar 5) (wVar 6))) (wName 3))
    (wSeq (wSIf (wTest (wOp uEqQ (wVar 3) (wLst (wNil)))) (wRet (wC .non)) (wNext))
    (wRet (wCall W_with_ends (wCons (wU (wCB uMinL (wCons (wVar 3) (wNil)))) (wCons (wU (wCB uMaxL (wCons (wVar 3) (wNil)))) (wCons (wU (wC (.int 1))) (wNil))))))))
abbrev N_raw_quotient : List Str := [PySem.Str.ofString "first", PySem.Str.ofString "second", PySem.Str.ofString "parts", PySem.Str.ofString "quotients", PySem.Str.ofString "part", PySem.Str.ofString "left", PySem.Str.ofString "right"]
theorem rn_raw_quotient {a0 a1 : D} : rho0 N_raw_quotient [a0, a1] = [some a0, some a1, none, none, none, none, none] := rfl
theorem sc_raw_quotient : FnScope N_raw_quotient [PySem.Str.ofString "first", PySem.Str.ofString "second"] (defScope s_raw_quotient) := ⟨rfl, rfl, rfl, by decide +kernel, rfl, by decide +kernel, by decide +kernel⟩
def Φ_raw_quotient : List D → PM → Out D := Pd.run 2 N_raw_quotient (g_raw_quotient Φ_at_most Φ_at_least Φ_with_ends)
def W_raw_quotient : List X → W U := wrun 2 7 (w_raw_quotient W_at_most W_at_least W_with_ends)
theorem nx_raw_quotient (xs : List X) : noX (W_raw_quotient xs) = W_raw_quotient xs := noX_wrun
theorem ok_raw_quotient {P : Program} {w : World} {K : PySem.W.Frag} {mg : Str → Option Value} {base : Heap} (F : FunM K mg "raw_quotient" s_raw_quotient [PySem.Str.ofString "first", PySem.Str.ofString "second"]) {Φ_at_most : List D → PM → Out D} (C_at_most : Callee P w K mg base "at_most" 2 Φ_at_most) {Φ_at_least : List D → PM → Out D} (C_at_least : Callee P w K mg base "at_least" 2 Φ_at_least) {Φ_with_ends : List D → PM → Out D} (C_with_ends : Callee P w K mg base "with_ends" 1 Φ_with_ends) (m_max : mg "max" = none) (m_min : mg "min" = none) :
    Callee P w K mg base "raw_quotient" 3 (Pd.run 2 N_raw_quotient (g_raw_quotient Φ_at_most Φ_at_least Φ_with_ends)) := by
  refine callee_run F sc_raw_quotient rfl fun f cdv A outer s H E hr => ?_
  have nd := sc_raw_quotient.nd
  exact pdb_cons (pds_set 2 (pd_lcIf (own := [((PySem.Str.ofString "part"), 4)]) rfl nd (pdi_any (pd_tup (pda_cons (pd_callC C_at_least (hr.mono (by decide)) rfl (pda_cons (pd_var 1) (pda_cons (pd_int) (pda_nil)))) (pda_cons (pd_callC C_at_most (hr.mono (by decide)) rfl (pda_cons (pd_var 1) (pda_cons (pd_neg (pd_int)) (pda_nil)))) (pda_nil))))) (blkOk_by (N := N_raw_quotient) (sc := defScope s_raw_quotient) (by decide +kernel)) (by decide) (fun _ _ _ _ _ => pg_name (i := 4) nd rfl (Or.inl rfl)) (fun _ _ _ _ _ => pdt_cmp o_isNot2 (pd_var 4) (pd_non) (nomark _)) (fun _ _ _ _ _ => pd_var 4)) nd)
    (pdb_cons (pds_setLcn3 (own := [((PySem.Str.ofString "left"), 5), ((PySem.Str.ofString "part"), 4), ((PySem.Str.ofString "right"), 6)]) rfl nd 3 rfl (by rfl) (pdi_any (pd_sl (pd_var 0) (pdo_none) (pdo_some (pd_int)))) (blkOk_by (N := N_raw_quotient) (sc := defScope s_raw_quotient) (by decide +kernel)) rfl (by decide) (by decide) (gc_name (by decide) (fun _ _ _ _ _ => pg_name (i := 5) nd rfl (Or.inl rfl))) (gc_name (by decide) (fun _ _ _ _ _ => pg_name (i := 4) nd rfl (Or.inl rfl))) (gc_name (by decide) (fun _ _ _ _ _ => pg_name (i := 6) nd rfl (Or.inl rfl))) (fun _ _ _ _ _ => pdi_any (pd_var 2)) (fun _ _ _ _ _ => pdi_any (pd_sl (pd_var 4) (pdo_none) (pdo_some (pd_int)))) (fun _ _ _ _ _ => pd_op o_fdiv (pd_var 5) (pd_var 6)))
    (pdb_cons (pds_if (pdt_cmp (o_eqQ hr.units) (pd_var 3) (pd_lst (pda_nil)) (nomark _)) (pdb_one (pds_ret (pd_non))) (pdb_nil))
    (pdb_one (pds_ret (pd_callC C_with_ends (hr.mono (by decide)) rfl (pda_cons (pd_callB (b_minL rfl) rfl m_min (by decide +kernel) (pda_cons (pd_var 3) (pda_nil))) (pda_cons (pd_callB (b_maxL rfl) rfl m_max (by decide +kernel) (pda_cons (pd_var 3) (pda_nil))) (pda_cons (pd_int) (pda_nil)))))))))
/-! ### remainder_by_one -/
abbrev s_remainder_by_one : Stmt := topS 15
def g_remainder_by_one : FS :=
    sSeq (sAsg (pVar 0) (fTup 3 (fCons (fName 3) (fCons (fName 4) (fCons (fName 5) (fNil))))))
    (sSeq (sAsg (pOp gFdiv (pVar 3) (pVar 1)) (fName 2))
    (sSeq (sIf (pTest (pOp gEq (pOp gMod (pVar 5) (pVar 1)) (pC (.int 0)))) (sRet (pTup (aCons (pOp gMod (pVar 3) (pVar 1)) (aCons (pOp gMod (pVar 3) (pVar 1)) (aCons (pC (.int 0)) (aNil)))))) (sNext))
    (sSeq (sIf (pTest (pOp gEq (pOp gFdiv (pVar 4) (pVar 1)) (pVar 2))) (sRet (pTup (aCons (pOp gSub (pVar 3) (pOp gMul (pVar 2) (pVar 1))) (aCons (pOp gSub (pVar 4) (pOp gMul (pVar 2) (pVar 1))) (aCons (pVar 5) (aNil)))))) (sNext))
    (sRet (pTup (aCons (pCB bMin2 (aCons (pC (.int 0)) (aCons (pOp gAdd (pVar 1) (pC (.int 1))) (aNil)))) (aCons (pCB bMax2 (aCons (pC (.int 0)) (aCons (pOp gSub (pVar 1) (pC (.int 1))) (aNil)))) (aCons (pC (.int 1)) (aNil)))))))))
def w_remainder_by_one : WS :=
    wSeq (wAsg (wVar 0) (wUnp 3 (wTCons (wName 3) (wTCons (wName 4) (wTCons (wName 5) (wTNil))))))
    (wSeq (wAsg (wOp uFdiv (wVar 3) (wVar 1)) (wName 2))
    (wSeq (wSIf (wTest (wOp uEq (wOp uMod (wVar 5) (wVar 1)) (wC (.int 0)))) (wRet (wTup (wCons (wOp uMod (wVar 3) (wVar 1)) (wCons (wOp uMod (wVar 3) (wVar 1)) (wCons (wC (.int 0)) (wNil)))))) (wNext))
    (wSeq (wSIf (wTest (wOp uEq (wOp uFdiv (wVar 4) (wVar 1)) (wVar 2))) (wRet (wTup (wCons (wOp uSub (wVar 3) (wOp uMul (wVar 2) (wVar 1))) (wCons (wOp uSub (wVar 4) (wOp uMul (wVar 2) (wVar 1))) (wCons (wVar 5) (wNil)))))) (wNext))
    (wRet (wTup (wCons (wCB uMin2 (wCons (wC (.int 0)) (wCons (wOp uAdd (wVar 1) (wC (.int 1))) (wNil)))) (wCons (wCB uMax2 (wCons (wC (.int 0)) (wCons (wOp uSub (wVar 1) (wC (.int 1))) (wNil)))) (wCons (wC (.int 1)) (wNil)))))))))
abbrev N_remainder_by_one : List Str := [PySem.Str.ofString "first", PySem.Str.ofString "divisor", PySem.Str.ofString "quotient", PySem.Str.ofString "low", PySem.Str.ofString "high", PySem.Str.ofString "step"]
theorem rn_remainder_by_one {a0 a1 : D} : rho0 N_remainder_by_one [a0, a1] = [some a0, some a1, none, none, none, none] := rfl
theorem sc_remainder_by_one : FnScope N_remainder_by_one [PySem.Str.ofString "first", PySem.Str.ofString "divisor"] (defScope s_remainder_by_one) := ⟨rfl, rfl, rfl, by decide +kernel, rfl, by decide +kernel, by decide +kernel⟩
def Φ_remainder_by_one : List D → PM → Out D := Pd.run 2 N_remainder_by_one (g_remainder_by_one)
def W_remainder_by_one : List X → W U := wrun 2 6 (w_remainder_by_one)
theorem nx_remainder_by_one (xs : List X) : noX (W_remainder_by_one xs) = W_remainder_by_one xs := noX_wrun
theorem ok_remainder_by_one {P : Program} {w : World} {K : PySem.W.Frag} {mg : Str → Option Value} {base : Heap} (F : FunM K mg "remainder_by_one" s_remainder_by_one [PySem.Str.ofString "first", PySem.Str.ofString "divisor"]) (m_max : mg "max" = none) (m_min : mg "min" = none) :
    Callee P w K mg base "remainder_by_one" 1 (Pd.run 2 N_remainder_by_one (g_remainder_by_one)) := by
  refine callee_run F sc_remainder_by_one rfl fun f cdv A outer s H E hr => ?_
  have nd := sc_remainder_by_one.nd
  exact pdb_cons (pds_asg (pd_var 0) (pdg_tup rfl (pdgs_cons (pdg_name (i := 3) nd) (pdgs_cons (pdg_name (i := 4) nd) (pdgs_cons (pdg_name (i := 5) nd) (pdgs_nil))))))
    (pdb_cons (pds_set 2 (pd_op o_fdiv (pd_var 3) (pd_var 1)) nd)
    (pdb_cons (pds_if (pdt_cmp o_eq (pd_op o_mod (pd_var 5) (pd_var 1)) (pd_int) (nomark _)) (pdb_one (pds_ret (pd_tup (pda_cons (pd_op o_mod (pd_var 3) (pd_var 1)) (pda_cons (pd_op o_mod (pd_var 3) (pd_var 1)) (pda_cons (pd_int) (pda_nil))))))) (pdb_nil))
    (pdb_cons (pds_if (pdt_cmp o_eq (pd_op o_fdiv (pd_var 4) (pd_var 1)) (pd_var 2) (nomark _)) (pdb_one (pds_ret (pd_tup (pda_cons (pd_op o_sub (pd_var 3) (pd_op o_mul (pd_var 2) (pd_var 1))) (pda_cons (pd_op o_sub (pd_var 4) (pd_op o_mul (pd_var 2) (pd_var 1))) (pda_cons (pd_var 5) (pda_nil))))))) (pdb_nil))
    (pdb_one (pds_ret (pd_tup (pda_cons (pd_callB (b_min2 rfl) rfl m_min (by decide +kernel) (pda_cons (pd_int) (pda_cons (pd_op o_add (pd_var 1) (pd_int)) (pda_nil)))) (pda_cons (pd_callB (b_max2 rfl) rfl m_max (by decide +kernel) (pda_cons (pd_int) (pda_cons (pd_op o_sub (pd_var 1) (pd_int)) (pda_nil)))) (pda_cons (pd_int) (pda_nil))))))))))
/-! ### raw_remainder -/
abbrev s_raw_remainder : Stmt := topS 14
def g_raw_remainder (Φ_with_ends : List D → PM → Out D) (Φ_remainder_by_one : List D → PM → Out D) : FS :=
    sSeq (sAsg (pVar 1) (fTup 3 (fCons (fName 2) (fCons (fName 3) (fCons (fName 4) (fNil))))))
    (sSeq (sIf (pTest (pOp gNe (pVar 4) (pC (.int 0)))) (sRet (pCall Φ_with_ends (aCons (pCB bMin2 (aCons (pC (.int 0)) (aCons (pOp gAdd (pVar 2) (pC (.int 1))) (aNil)))) (aCons (pCB bMax2 (aCons (pC (.int 0)) (aCons (pOp gSub (pVar 3) (pC (.int 1))) (aNil)))) (aCons (pC (.int 1)) (aNil)))))) (sNext))
    (sSeq (sIf (pTest (pOp gEq (pVar 2) (pC (.int 0)))) (sRet (pC .non)) (sNext))
    (sRet (pCall Φ_remainder_by_one (aCons (pVar 0) (aCons (pVar 2) (aNil)))))))
def w_raw_remainder (W_with_ends : List X → W U) (W_remainder_by_one : List X → W U) : WS :=
    wSeq (wAsg (wVar 1) (wUnp 3 (wTCons (wName 2) (wTCons (wName 3) (wTCons (wName 4) (wTNil))))))
    (wSeq (wSIf (wTest (wOp uNe (wVar 4) (wC (.int 0)))) (wRet (wCall W_with_ends (wCons (wU (wCB uMin2 (wCons (wC (.int 0)) (wCons (wOp uAdd (wVar 2) (wC (.int 1))) (wNil))))) (wCons (wU (wCB uMax2 (wCons (wC (.int 0)) (wCons (wOp uSub (wVar 3) (wC (.int 1))) (wNil))))) (wCons (wU (wC (.int 1))) (wNil)))))) (wNext))
    (wSeq (wSIf (wTest (wOp uEq (wVar 2) (wC (.int 0)))) (wRet (wC .non)) (wNext))
    (wRet (wCall W_remainder_by_one (wCons (wU (wVar 0)) (wCons (wU (wVar 2)) (wNil)))))))
abbrev N_raw_remainder : List Str := [PySem.Str.ofString "first", PySem.Str.ofString "second", PySem.Str.ofString "low", PySem.Str.ofString "high", PySem.Str.ofString "step"]
theorem rn_raw_remainder {a0 a1 : D} : rho0 N_raw_remainder [a0, a1] = [some a0, some a1, none, none, none] := rfl
theorem sc_raw_remainder : FnScope N_raw_remainder [PySem.Str.ofString "first", PySem.Str.ofString "second"] (defScope s_raw_remainder) := ⟨rfl, rfl, rfl, by decide +kernel, rfl, by decide +kernel, by decide +kernel⟩
def Φ_raw_remainder : List D → PM → Out D := Pd.run 2 N_raw_remainder (g_raw_remainder Φ_with_ends Φ_remainder_by_one)
def W_raw_remainder : List X → W U := wrun 2 5 (w_raw_remainder W_with_ends W_remainder_by_one)
theorem nx_raw_remainder (xs : List X) : noX (W_raw_remainder xs) = W_raw_remainder xs := noX_wrun
theorem ok_raw_remainder {P : Program} {w : World} {K : PySem.W.Frag} {mg : Str → Option Value} {base : Heap} (F : FunM K mg "raw_remainder" s_raw_remainder [PySem.Str.ofString "first", PySem.Str.ofString "second"]) {Φ_with_ends : List D → PM → Out D} (C_with_ends : Callee P w K mg base "with_ends" 1 Φ_with_ends) {Φ_remainder_by_one : List D → PM → Out D} (C_remainder_by_one : Callee P w K mg base "remainder_by_one" 1 Φ_remainder_by_one) (m_max : mg "max" = none) (m_min : mg "min" = none) :
    Callee P w K mg base "raw_remainder" 2 (Pd.run 2 N_raw_remainder (g_raw_remainder Φ_with_ends Φ_remainder_by_one)) := by
  refine callee_run F sc_raw_remainder rfl fun f cdv A outer s H E hr => ?_
  have nd := sc_raw_remainder.nd
  exact pdb_cons (pds_asg (pd_var 1) (pdg_tup rfl (pdgs_cons (pdg_name (i := 2) nd) (pdgs_cons (pdg_name (i := 3) nd) (pdgs_cons (pdg_name (i := 4) nd) (pdgs_nil))))))
    (pdb_cons (pds_if (pdt_cmp o_ne (pd_var 4) (pd_int) (nomark _)) (pdb_one (pds_ret (pd_callC C_with_ends (hr.mono (by decide)) rfl (pda_cons (pd_callB (b_min2 rfl) rfl m_min (by decide +kernel) (pda_cons (pd_int) (pda_cons (pd_op o_add (pd_var 2) (pd_int)) (pda_nil)))) (pda_cons (pd_callB (b_max2 rfl) rfl m_max (by decide +kernel) (pda_cons (pd_int) (pda_cons (pd_op o_sub (pd_var 3) (pd_int)) (pda_nil)))) (pda_cons (pd_int) (pda_nil))))))) (pdb_nil))
    (pdb_cons (pds_if (pdt_cmp o_eq (pd_var 2) (pd_int) (nomark _)) (pdb_one (pds_ret (pd_non))) (pdb_nil))
    (pdb_one (pds_ret (pd_callC C_remainder_by_one (hr.mono (by decide)) rfl (pda_cons (pd_var 0) (pda_cons (pd_var 2) (pda_nil))))))))
/-! ### combine -/
abbrev s_combine : Stmt := topS 17
def g_combine (Φ_raw_sum : List D → PM → Out D) (Φ_raw_difference : List D → PM → Out D) (Φ_raw_product : List D → PM → Out D) (Φ_raw_quotient : List D → PM → Out D) (Φ_raw_remainder : List D → PM → Out D) (Φ_has : List D → PM → Out D) (Φ_between : List D → PM → Out D) : FS :=
    sSeq (sDisp 3 4 [((PySem.Str.ofString "+"), Φ_raw_sum), ((PySem.Str.ofString "-"), Φ_raw_difference), ((PySem.Str.ofString "*"), Φ_raw_product), ((PySem.Str.ofString "/"), Φ_raw_quotient), ((PySem.Str.ofString "mod"), Φ_raw_remainder)] (pVar 0) (aCons (pVar 1) (aCons (pVar 2) (aNil))))
      (sSeq (sAsg (pNew (aNil)) (fName 5))
    (sSeq (sIf (pAnd (pTest (pOp gIn (pVar 0) (pTup (aCons (pC (.str (PySem.Str.ofString "/"))) (aCons (pC (.str (PySem.Str.ofString "mod"))) (aNil)))))) (pTest (pCall Φ_has (aCons (pVar 2) (aCons (pC (.int 0)) (aNil)))))) (sDrop (pApp (pVar 5) (pC (.str (PySem.Str.ofString "division"))))) (sNext))
    (sSeq (sIf (pTest (pOp gIs2 (pVar 4) (pC .non))) (sRet (pTup (aCons (pC .non) (aCons (pCB bTuple (aCons (pVar 5) (aNil))) (aNil))))) (sNext))
    (sSeq (sIf (pOr (pTest (pOp gLt (pOp gIx (pVar 4) (pC (.int 0))) (pC d_LEAST_VALUE))) (pTest (pOp gGt (pOp gIx (pVar 4) (pC (.int 1))) (pC d_GREATEST_VALUE)))) (sDrop (pApp (pVar 5) (pC (.str (PySem.Str.ofString "overflow"))))) (sNext))
    (sRet (pTup (aCons (pCall Φ_between (aCons (pVar 4) (aCons (pC d_LEAST_VALUE) (aCons (pC d_GREATEST_VALUE) (aNil))))) (aCons (pCB bTuple (aCons (pVar 5) (aNil))) (aNil)))))))))
def w_combine (W_raw_sum : List X → W U) (W_raw_difference : List X → W U) (W_raw_product : List X → W U) (W_raw_quotient : List X → W U) (W_raw_remainder : List X → W U) (W_has : List X → W U) (W_between : List X → W U) : WS :=
    wSeq (wDisp 3 4 [((PySem.Str.ofString "+"), W_raw_sum), ((PySem.Str.ofString "-"), W_raw_difference), ((PySem.Str.ofString "*"), W_raw_product), ((PySem.Str.ofString "/"), W_raw_quotient), ((PySem.Str.ofString "mod"), W_raw_remainder)] (wVar 0) (wCons (wU (wVar 1)) (wCons (wU (wVar 2)) (wNil))))
      (wSeq (wNew (wLst (wNil)) 5)
    (wSeq (wSIf (wAnd (wTest (wOp uIn (wVar 0) (wTup (wCons (wC (.str (PySem.Str.ofString "/"))) (wCons (wC (.str (PySem.Str.ofString "mod"))) (wNil)))))) (wTest (wCall W_has (wCons (wU (wVar 2)) (wCons (wU (wC (.int 0))) (wNil)))))) (wApp 5 (wC (.str (PySem.Str.ofString "division")))) (wNext))
    (wSeq (wSIf (wTest (wOp uIs (wVar 4) (wC .non))) (wRet (wTup (wCons (wC .non) (wCons (wCB uTuple (wCons (wVarL 5) (wNil))) (wNil))))) (wNext))
    (wSeq (wSIf (wOr (wTest (wOp uLt (wOp uIx (wVar 4) (wC (.int 0))) (wC u_LEAST_VALUE))) (wTest (wOp uGt (wOp uIx (wVar 4) (wC (.int 1))) (wC u_GREATEST_VALUE)))) (wApp 5 (wC (.str (PySem.Str.ofString "overflow")))) (wNext))
    (wRet (wTup (wCons (wCall W_between (wCons (wU (wVar 4)) (wCons (wU (wC u_LEAST_VALUE)) (wCons (wU (wC u_GREATEST_VALUE)) (wNil))))) (wCons (wCB uTuple (wCons (wVarL 5) (wNil))) (wNil)))))))))
abbrev N_combine : List Str := [PySem.Str.ofString "sign", PySem.Str.ofString "first", PySem.Str.ofString "second", PySem.Str.ofString "make_raw", PySem.Str.ofString "raw", PySem.Str.ofString "kinds"]
theorem rn_combine {a0 a1 a2 : D} : rho0 N_combine [a0, a1, a2] = [some a0, some a1, some a2, none, none, none] := rfl
theorem sc_combine : FnScope N_combine [PySem.Str.ofString "sign", PySem.Str.ofString "first", PySem.Str.ofString "second"] (defScope s_combine) := ⟨rfl, rfl, rfl, by decide +kernel, rfl, by decide +kernel, by decide +kernel⟩
def Φ_combine : List D → PM → Out D := Pd.run 3 N_combine (g_combine Φ_raw_sum Φ_raw_difference Φ_raw_product Φ_raw_quotient Φ_raw_remainder Φ_has Φ_between)
def W_combine : List X → W U := wrun 3 6 (w_combine W_raw_sum W_raw_difference W_raw_product W_raw_quotient W_raw_remainder W_has W_between)
theorem nx_combine (xs : List X) : noX (W_combine xs) = W_combine xs := noX_wrun
theorem ok_combine {P : Program} {w : World} {K : PySem.W.Frag} {mg : Str → Option Value} {base : Heap} (F : FunM K mg "combine" s_combine [PySem.Str.ofString "sign", PySem.Str.ofString "first", PySem.Str.ofString "second"]) {Φ_raw_sum : List D → PM → Out D} (C_raw_sum : Callee P w K mg base "raw_sum" 1 Φ_raw_sum) {Φ_raw_difference : List D → PM → Out D} (C_raw_difference : Callee P w K mg base "raw_difference" 1 Φ_raw_difference) {Φ_raw_product : List D → PM → Out D} (C_raw_product : Callee P w K mg base "raw_product" 1 Φ_raw_product) {Φ_raw_quotient : List D → PM → Out D} (C_raw_quotient : Callee P w K mg base "raw_quotient" 3 Φ_raw_quotient) {Φ_raw_remainder : List D → PM → Out D} (C_raw_remainder : Callee P w K mg base "raw_remainder" 2 Φ_raw_remainder) {Φ_has : List D → PM → Out D} (C_has : Callee P w K mg base "has" 1 Φ_has) {Φ_between : List D → PM → Out D} (C_between : Callee P w K mg base "between" 3 Φ_between) (G_LEAST_VALUE : GlobD K mg "LEAST_VALUE" d_LEAST_VALUE) (G_GREATEST_VALUE : GlobD K mg "GREATEST_VALUE" d_GREATEST_VALUE) (m_tuple : mg "tuple" = none) (T_RAW_RANGES : TabG K w mg "RAW_RANGES" [((PySem.Str.ofString "+"), PySem.Str.ofString "raw_sum"), ((PySem.Str.ofString "-"), PySem.Str.ofString "raw_difference"), ((PySem.Str.ofString "*"), PySem.Str.ofString "raw_product"), ((PySem.Str.ofString "/"), PySem.Str.ofString "raw_quotient"), ((PySem.Str.ofString "mod"), PySem.Str.ofString "raw_remainder")]) :
    Callee P w K mg base "combine" 4 (Pd.run 3 N_combine (g_combine Φ_raw_sum Φ_raw_difference Φ_raw_product Φ_raw_quotient Φ_raw_remainder Φ_has Φ_between)) := by
  refine callee_run F sc_combine rfl fun f cdv A outer s H E hr => ?_
  have nd := sc_combine.nd
  have D_RAW_RANGES : DispD P w K mg base "RAW_RANGES" 3 [((PySem.Str.ofString "+"), Φ_raw_sum), ((PySem.Str.ofString "-"), Φ_raw_difference), ((PySem.Str.ofString "*"), Φ_raw_product), ((PySem.Str.ofString "/"), Φ_raw_quotient), ((PySem.Str.ofString "mod"), Φ_raw_remainder)] := disp_of T_RAW_RANGES ⟨rfl, C_raw_sum.mono (by decide), ⟨rfl, C_raw_difference.mono (by decide), ⟨rfl, C_raw_product.mono (by decide), ⟨rfl, C_raw_quotient.mono (by decide), ⟨rfl, C_raw_remainder.mono (by decide), trivial⟩⟩⟩⟩⟩
  exact pdb_disp 3 4 D_RAW_RANGES (hr.mono (by decide)) rfl nd (pd_var 0) (pda_cons (pd_var 1) (pda_cons (pd_var 2) (pda_nil)))
      (pdb_cons (pds_set 5 (pd_new (pda_nil)) nd)
    (pdb_cons (pds_if (pdt_w (pdw_and (pdt_cmp o_in (pd_var 0) (pd_tup (pda_cons (pd_str) (pda_cons (pd_str) (pda_nil)))) (by rfl)) (pdw_and1 (pdt_val (pd_callC C_has (hr.mono (by decide)) rfl (pda_cons (pd_var 2) (pda_cons (pd_int) (pda_nil)))))))) (pdb_one (pds_expr (pd_append (pd_var 5) (pd_str)))) (pdb_nil))
    (pdb_cons (pds_if (pdt_cmp o_is2 (pd_var 4) (pd_non) (nomark _)) (pdb_one (pds_ret (pd_tup (pda_cons (pd_non) (pda_cons (pd_callT b_tuple rfl m_tuple (by decide +kernel) (pda_cons (pd_var 5) (pda_nil))) (pda_nil)))))) (pdb_nil))
    (pdb_cons (pds_if (pdt_w (pdw_or (pdt_cmp o_lt (pd_ix (pd_var 4) (pd_int)) (pd_globC G_LEAST_VALUE rfl) (nomark _)) (pdw_or1 (pdt_cmp o_gt (pd_ix (pd_var 4) (pd_int)) (pd_globC G_GREATEST_VALUE rfl) (nomark _))))) (pdb_one (pds_expr (pd_append (pd_var 5) (pd_str)))) (pdb_nil))
    (pdb_one (pds_ret (pd_tup (pda_cons (pd_callC C_between (hr.mono (by decide)) rfl (pda_cons (pd_var 4) (pda_cons (pd_globC G_LEAST_VALUE rfl) (pda_cons (pd_globC G_GREATEST_VALUE rfl) (pda_nil))))) (pda_cons (pd_callT b_tuple rfl m_tuple (by decide +kernel) (pda_cons (pd_var 5) (pda_nil))) (pda_nil))))))))))
/-! ### _law_next -/
abbrev s__law_next : Stmt := topS 19
def g__law_next : FS :=
    sSeq (sIf (pTest (pOp gGt (pOp gIx (pVar 0) (pC (.int 1))) (pC (.int 0)))) (sSeq (sAsg (pOp gMod (pCB bInt (aCons (pOp gIx (pVar 0) (pC (.int 1))) (aNil))) (pVar 2)) (fName 4))
      (sSeq (sAsg (pOp gFdiv (pCB bInt (aCons (pOp gIx (pVar 0) (pC (.int 1))) (aNil))) (pVar 2)) (fSub (pVar 0) (pC (.int 1))))
      (sRet (pVar 4)))) (sNext))
    (sSeq (sAsg (pC (.int 0)) (fName 3))
    (sSeq (sIf (pTest (pOp gLt (pOp gIx (pVar 0) (pC (.int 0))) (pCB bLen (aCons (pVar 1) (aNil))))) (sAsg (pCB bAbs (aCons (pCB bInt (aCons (pOp gIx (pVar 1) (pOp gIx (pVar 0) (pC (.int 0)))) (aNil))) (aNil))) (fName 3)) (sNext))
    (sSeq (sAsg (pOp gAdd (pOp gIx (pVar 0) (pC (.int 0))) (pC (.int 1))) (fSub (pVar 0) (pC (.int 0))))
    (sSeq (sIf (pTest (pOp gGe (pVar 3) (pOp gPow (pC (.int 10)) (pC (.int 18))))) (sSeq (sAsg (pOp gFdiv (pVar 3) (pVar 2)) (fSub (pVar 0) (pC (.int 1))))
      (sRet (pOp gMod (pCB bInt (aCons (pVar 3) (aNil))) (pVar 2)))) (sNext))
    (sSeq (sAsg (pOp gMod (pCB bInt (aCons (pOp gAdd (pOp gAdd (pOp gMul (pOp gIx (pVar 0) (pC (.int 2))) (pC (.int 48271))) (pOp gMul (pVar 3) (pC (.int 69621)))) (pC (.int 12345))) (aNil))) (pC (.int 2147483647))) (fSub (pVar 0) (pC (.int 2))))
    (sRet (pOp gMod (pCB bInt (aCons (pOp gAdd (pOp gFdiv (pOp gIx (pVar 0) (pC (.int 2))) (pC (.int 7))) (pOp gFdiv (pOp gMul (pOp gIx (pVar 0) (pC (.int 2))) (pOp gIx (pVar 0) (pC (.int 2)))) (pC (.int 65537)))) (aNil))) (pVar 2))))))))
abbrev N__law_next : List Str := [PySem.Str.ofString "state", PySem.Str.ofString "script", PySem.Str.ofString "many", PySem.Str.ofString "cell", PySem.Str.ofString "answer"]
theorem rn__law_next {a0 a1 a2 : D} : rho0 N__law_next [a0, a1, a2] = [some a0, some a1, some a2, none, none] := rfl
theorem sc__law_next : FnScope N__law_next [PySem.Str.ofString "state", PySem.Str.ofString "script", PySem.Str.ofString "many"] (defScope s__law_next) := ⟨rfl, rfl, rfl, by decide +kernel, rfl, by decide +kernel, by decide +kernel⟩
def Φ__law_next : List D → PM → Out D := Pd.run 3 N__law_next (g__law_next)
def W__law_next : List X → W U := W_next
theorem ok__law_next {P : Program} {w : World} {K : PySem.W.Frag} {mg : Str → Option Value} {base : Heap} (F : FunM K mg "_law_next" s__law_next [PySem.Str.ofString "state", PySem.Str.ofString "script", PySem.Str.ofString "many"]) (m_int : mg "int" = none) (m_len : mg "len" = none) (m_abs : mg "abs" = none) :
    Callee P w K mg base "_law_next" 1 (Pd.run 3 N__law_next (g__law_next)) := by
  refine callee_run F sc__law_next rfl fun f cdv A outer s H E hr => ?_
  have nd := sc__law_next.nd
  exact pdb_cons (pds_if (pdt_cmp o_gt (pd_ix (pd_var 0) (pd_int)) (pd_int) (nomark _)) (pdb_cons (pds_set 4 (pd_op o_mod (pd_callT b_int rfl m_int (by decide +kernel) (pda_cons (pd_ix (pd_var 0) (pd_int)) (pda_nil))) (pd_var 2)) nd)
      (pdb_cons (pds_asg (pd_op o_fdiv (pd_callT b_int rfl m_int (by decide +kernel) (pda_cons (pd_ix (pd_var 0) (pd_int)) (pda_nil))) (pd_var 2)) (pdg_sub (pd_var 0) (pd_int)))
      (pdb_one (pds_ret (pd_var 4))))) (pdb_nil))
    (pdb_cons (pds_set 3 (pd_int) nd)
    (pdb_cons (pds_if (pdt_cmp o_lt (pd_ix (pd_var 0) (pd_int)) (pd_callB b_len rfl m_len (by decide +kernel) (pda_cons (pd_var 1) (pda_nil))) (nomark _)) (pdb_one (pds_set 3 (pd_callB b_abs rfl m_abs (by decide +kernel) (pda_cons (pd_callT b_int rfl m_int (by decide +kernel) (pda_cons (pd_ix (pd_var 1) (pd_ix (pd_var 0) (pd_int))) (pda_nil))) (pda_nil))) nd)) (pdb_nil))
    (pdb_cons (pds_asg (pd_op o_add (pd_ix (pd_var 0) (pd_int)) (pd_int)) (pdg_sub (pd_var 0) (pd_int)))
    (pdb_cons (pds_if (pdt_cmp o_ge (pd_var 3) (pd_op o_pow (pd_int) (pd_int)) (nomark _)) (pdb_cons (pds_asg (pd_op o_fdiv (pd_var 3) (pd_var 2)) (pdg_sub (pd_var 0) (pd_int)))
      (pdb_one (pds_ret (pd_op o_mod (pd_callT b_int rfl m_int (by decide +kernel) (pda_cons (pd_var 3) (pda_nil))) (pd_var 2))))) (pdb_nil))
    (pdb_cons (pds_asg (pd_op o_mod (pd_callT b_int rfl m_int (by decide +kernel) (pda_cons (pd_op o_add (pd_op o_add (pd_op o_mul (pd_ix (pd_var 0) (pd_int)) (pd_int)) (pd_op o_mul (pd_var 3) (pd_int))) (pd_int)) (pda_nil))) (pd_int)) (pdg_sub (pd_var 0) (pd_int)))
    (pdb_one (pds_ret (pd_op o_mod (pd_callT b_int rfl m_int (by decide +kernel) (pda_cons (pd_op o_add (pd_op o_fdiv (pd_ix (pd_var 0) (pd_int)) (pd_int)) (pd_op o_fdiv (pd_op o_mul (pd_ix (pd_var 0) (pd_int)) (pd_ix (pd_var 0) (pd_int))) (pd_int))) (pda_nil))) (pd_var 2)))))))))
/-! ### _law_same -/
abbrev s__law_same : Stmt := topS 20
def lb__law_same_1 (Φ__law_same : List D → PM → Out D) : FS :=
    sIf (pNot (pTest (pCall Φ__law_same (aCons (pOp gIx (pVar 0) (pVar 2)) (aCons (pOp gIx (pVar 1) (pVar 2)) (aNil)))))) (sRet (pC (.bl false))) (sNext)
def wb__law_same_1 (W__law_same : List X → W U) : WS :=
    wSIf (wNot (wTest (wCall W__law_same (wCons (wU (wOp uIx (wVar 0) (wVar 2))) (wCons (wU (wOp uIx (wVar 1) (wVar 2))) (wNil)))))) (wRet (wC (.bl false))) (wNext)
def g__law_same (Φ__law_same : List D → PM → Out D) : FS :=
    sSeq (sIf (pTest (pOp gIs2 (pVar 1) (pC .non))) (sRet (pOp gIs2 (pVar 0) (pC .non))) (sNext))
    (sSeq (sIf (pTest (pCB bIsi (aCons (pVar 1) (aCons (pC (.raw (.ty "tuple"))) (aNil))))) (sSeq (sIf (pOr (pNot (pTest (pCB bIsi (aCons (pVar 0) (aCons (pC (.raw (.ty "tuple"))) (aNil)))))) (pTest (pOp gNe (pCB bLen (aCons (pVar 0) (aNil))) (pCB bLen (aCons (pVar 1) (aNil)))))) (sRet (pC (.bl false))) (sNext))
      (sSeq (sFor (pRng1 (aCons (pCB bLen (aCons (pVar 1) (aNil))) (aNil))) (fName 2) (lb__law_same_1 Φ__law_same))
      (sRet (pC (.bl true))))) (sNext))
    (sSeq (sIf (pTest (pCB bIsi (aCons (pVar 1) (aCons (pC (.raw (.ty "bool"))) (aNil))))) (sRet (pAndV (pCB bIsi (aCons (pVar 0) (aCons (pC (.raw (.ty "bool"))) (aNil)))) (pOp gEq (pVar 0) (pVar 1)))) (sNext))
    (sSeq (sIf (pTest (pCB bIsi (aCons (pVar 1) (aCons (pC (.raw (.ty "int"))) (aNil))))) (sRet (pAndV (pCB bIsi (aCons (pVar 0) (aCons (pC (.raw (.ty "int"))) (aNil)))) (pAndV (pNotV (pCB bIsi (aCons (pVar 0) (aCons (pC (.raw (.ty "bool"))) (aNil))))) (pOp gEq (pVar 0) (pVar 1))))) (sNext))
    (sRet (pAndV (pCB bIsi (aCons (pVar 0) (aCons (pC (.raw (.ty "str"))) (aNil)))) (pOp gEq (pVar 0) (pVar 1)))))))
def w__law_same (W__law_same : List X → W U) : WS :=
    wSeq (wSIf (wTest (wOp uIs (wVar 1) (wC .non))) (wRet (wOp uIs (wVar 0) (wC .non))) (wNext))
    (wSeq (wSIf (wTest (wCB uIsiP (wCons (wVar 1) (wCons (wC (.ty "tuple")) (wNil))))) (wSeq (wSIf (wOr (wNot (wTest (wCB uIsiP (wCons (wVar 0) (wCons (wC (.ty "tuple")) (wNil)))))) (wTest (wOp uNe (wCB uLen (wCons (wVar 0) (wNil))) (wCB uLen (wCons (wVar 1) (wNil)))))) (wRet (wC (.bl false))) (wNext))
      (wSeq (wFor (wRng1 (wCons (wCB uLen (wCons (wVar 1) (wNil))) (wNil))) (wName 2) (wb__law_same_1 W__law_same) [2])
      (wRet (wC (.bl true))))) (wNext))
    (wSeq (wSIf (wTest (wCB uIsiP (wCons (wVar 1) (wCons (wC (.ty "bool")) (wNil))))) (wRet (wAndV (wCB uIsiP (wCons (wVar 0) (wCons (wC (.ty "bool")) (wNil)))) (wOp uEq (wVar 0) (wVar 1)))) (wNext))
    (wSeq (wSIf (wTest (wCB uIsiP (wCons (wVar 1) (wCons (wC (.ty "int")) (wNil))))) (wRet (wAndV (wCB uIsiP (wCons (wVar 0) (wCons (wC (.ty "int")) (wNil)))) (wAndV (wNotV (wCB uIsiP (wCons (wVar 0) (wCons (wC (.ty "bool")) (wNil))))) (wOp uEq (wVar 0) (wVar 1))))) (wNext))
    (wRet (wAndV (wCB uIsiP (wCons (wVar 0) (wCons (wC (.ty "str")) (wNil)))) (wOp uEq (wVar 0) (wVar 1)))))))
abbrev N__law_same : List Str := [PySem.Str.ofString "actual", PySem.Str.ofString "due", PySem.Str.ofString "k"]
theorem rn__law_same {a0 a1 : D} : rho0 N__law_same [a0, a1] = [some a0, some a1, none] := rfl
theorem sc__law_same : FnScope N__law_same [PySem.Str.ofString "actual", PySem.Str.ofString "due"] (defScope s__law_same) := ⟨rfl, rfl, rfl, by decide +kernel, rfl, by decide +kernel, by decide +kernel⟩
def Ψ__law_same : Nat → List D → PM → Out D
  | 0 => phi0
  | t + 1 => Pd.run 2 N__law_same (g__law_same (Ψ__law_same t))
def Φ__law_same : List D → PM → Out D := Ψ__law_same 3
def V__law_same : Nat → List X → W U
  | 0 => fun _ => fail
  | t + 1 => wrun 2 3 (w__law_same (V__law_same t))
def W__law_same : List X → W U := V__law_same 3
theorem nv__law_same : ∀ (t : Nat) (xs : List X), noX (V__law_same t xs) = V__law_same t xs
  | 0, _ => rfl
  | _ + 1, _ => noX_wrun
theorem nx__law_same (xs : List X) : noX (W__law_same xs) = W__law_same xs := nv__law_same _ xs
theorem ok__law_same {P : Program} {w : World} {K : PySem.W.Frag} {mg : Str → Option Value} {base : Heap} {k : Nat} (F : FunM K mg "_law_same" s__law_same [PySem.Str.ofString "actual", PySem.Str.ofString "due"]) {Φ__law_same : List D → PM → Out D} (C__law_same : Callee P w K mg base "_law_same" k Φ__law_same) (m_tuple : mg "tuple" = none) (m_isinstance : mg "isinstance" = none) (m_len : mg "len" = none) (m_range : mg "range" = none) (m_bool : mg "bool" = none) (m_int : mg "int" = none) (m_str : mg "str" = none) :
    Callee P w K mg base "_law_same" (k + 1) (Pd.run 2 N__law_same (g__law_same Φ__law_same)) := by
  refine callee_run F sc__law_same rfl fun f cdv A outer s H E hr => ?_
  have nd := sc__law_same.nd
  exact pdb_cons (pds_if (pdt_cmp o_is2 (pd_var 1) (pd_non) (nomark _)) (pdb_one (pds_ret (pd_cmp o_is2 (pd_var 0) (pd_non) (nomark _)))) (pdb_nil))
    (pdb_cons (pds_if (pdt_val (pd_callB b_isi rfl m_isinstance (by decide +kernel) (pda_cons (pd_var 1) (pda_cons (pd_ty rfl m_tuple (by decide +kernel)) (pda_nil))))) (pdb_cons (pds_if (pdt_w (pdw_or (pdt_not (pdt_val (pd_callB b_isi rfl m_isinstance (by decide +kernel) (pda_cons (pd_var 0) (pda_cons (pd_ty rfl m_tuple (by decide +kernel)) (pda_nil)))))) (pdw_or1 (pdt_cmp o_ne (pd_callB b_len rfl m_len (by decide +kernel) (pda_cons (pd_var 0) (pda_nil))) (pd_callB b_len rfl m_len (by decide +kernel) (pda_cons (pd_var 1) (pda_nil))) (nomark _))))) (pdb_one (pds_ret (pd_bl))) (pdb_nil))
      (pdb_cons (pds_for PassesOwn.never rfl (pdi_rng1 rfl m_range (pda_cons (pd_callB b_len rfl m_len (by decide +kernel) (pda_cons (pd_var 1) (pda_nil))) (pda_nil))) (pdg_name (i := 2) nd) (pdb_one (pds_if (pdt_not (pdt_val (pd_callC C__law_same hr rfl (pda_cons (pd_ix (pd_var 0) (pd_var 2)) (pda_cons (pd_ix (pd_var 1) (pd_var 2)) (pda_nil)))))) (pdb_one (pds_ret (pd_bl))) (pdb_nil))))
      (pdb_one (pds_ret (pd_bl))))) (pdb_nil))
    (pdb_cons (pds_if (pdt_val (pd_callB b_isi rfl m_isinstance (by decide +kernel) (pda_cons (pd_var 1) (pda_cons (pd_ty rfl m_bool (by decide +kernel)) (pda_nil))))) (pdb_one (pds_ret (pd_and (pd_callB b_isi rfl m_isinstance (by decide +kernel) (pda_cons (pd_var 0) (pda_cons (pd_ty rfl m_bool (by decide +kernel)) (pda_nil)))) (pd_one (pd_cmp o_eq (pd_var 0) (pd_var 1) (nomark _)))))) (pdb_nil))
    (pdb_cons (pds_if (pdt_val (pd_callB b_isi rfl m_isinstance (by decide +kernel) (pda_cons (pd_var 1) (pda_cons (pd_ty rfl m_int (by decide +kernel)) (pda_nil))))) (pdb_one (pds_ret (pd_and (pd_callB b_isi rfl m_isinstance (by decide +kernel) (pda_cons (pd_var 0) (pda_cons (pd_ty rfl m_int (by decide +kernel)) (pda_nil)))) (pd_and (pd_not (pd_callB b_isi rfl m_isinstance (by decide +kernel) (pda_cons (pd_var 0) (pda_cons (pd_ty rfl m_bool (by decide +kernel)) (pda_nil))))) (pd_one (pd_cmp o_eq (pd_var 0) (pd_var 1) (nomark _))))))) (pdb_nil))
    (pdb_one (pds_ret (pd_and (pd_callB b_isi rfl m_isinstance (by decide +kernel) (pda_cons (pd_var 0) (pda_cons (pd_ty rfl m_str (by decide +kernel)) (pda_nil)))) (pd_one (pd_cmp o_eq (pd_var 0) (pd_var 1) (nomark _)))))))))
theorem all__law_same {P : Program} {w : World} {K : PySem.W.Frag} {mg : Str → Option Value} {base : Heap} (F__law_same : FunM K mg "_law_same" s__law_same [PySem.Str.ofString "actual", PySem.Str.ofString "due"]) (m_tuple : mg "tuple" = none) (m_isinstance : mg "isinstance" = none) (m_len : mg "len" = none) (m_range : mg "range" = none) (m_bool : mg "bool" = none) (m_int : mg "int" = none) (m_str : mg "str" = none) :
    ∀ t, Callee P w K mg base "_law_same" (0 + t) (Ψ__law_same t) := by
  intro t
  induction t with
  | zero => exact callee0 F__law_same
  | succ t ih =>
    have I__law_same := ih
    exact ok__law_same (k := 0 + t) F__law_same I__law_same m_tuple m_isinstance m_len m_range m_bool m_int m_str
/-! ### _law_range -/
abbrev s__law_range : Stmt := topS 21
def g__law_range (Φ__law_next : List D → PM → Out D) : FS :=
    sSeq (sAsg (pOp gSub (pCall Φ__law_next (aCons (pVar 0) (aCons (pVar 1) (aCons (pOp gIx (pLst (aCons (pC (.int 25)) (aCons (pC (.int 20001)) (aNil)))) (pCB bInt (aCons (pVar 2) (aNil)))) (aNil))))) (pOp gIx (pLst (aCons (pC (.int 12)) (aCons (pC (.int 10000)) (aNil)))) (pCB bInt (aCons (pVar 2) (aNil))))) (fName 3))
    (sSeq (sAsg (pCall Φ__law_next (aCons (pVar 0) (aCons (pVar 1) (aCons (pC (.int 5)) (aNil))))) (fName 4))
    (sSeq (sIf (pTest (pOp gEq (pVar 4) (pC (.int 0)))) (sRet (pTup (aCons (pVar 3) (aCons (pVar 3) (aCons (pC (.int 0)) (aNil)))))) (sNext))
    (sSeq (sAsg (pOp gAdd (pC (.int 1)) (pCall Φ__law_next (aCons (pVar 0) (aCons (pVar 1) (aCons (pOp gIx (pLst (aCons (pC (.int 7)) (aCons (pC (.int 400)) (aNil)))) (pCB bInt (aCons (pVar 2) (aNil)))) (aNil)))))) (fName 5))
    (sSeq (sIf (pTest (pOp gEq (pVar 4) (pC (.int 1)))) (sAsg (pC (.int 1)) (fName 5)) (sNext))
    (sSeq (sAsg (pOp gFdiv (pOp gSub (pC (.int 10000)) (pVar 3)) (pVar 5)) (fName 6))
    (sSeq (sAsg (pCB bMin2 (aCons (pVar 6) (aCons (pOp gAdd (pC (.int 1)) (pCall Φ__law_next (aCons (pVar 0) (aCons (pVar 1) (aCons (pOp gIx (pLst (aCons (pC (.int 9)) (aCons (pC (.int 6000)) (aNil)))) (pCB bInt (aCons (pVar 2) (aNil)))) (aNil)))))) (aNil)))) (fName 7))
    (sSeq (sIf (pTest (pOp gLt (pVar 7) (pC (.int 1)))) (sRet (pTup (aCons (pVar 3) (aCons (pVar 3) (aCons (pC (.int 0)) (aNil)))))) (sNext))
    (sRet (pTup (aCons (pVar 3) (aCons (pOp gAdd (pVar 3) (pOp gMul (pVar 5) (pVar 7))) (aCons (pVar 5) (aNil)))))))))))))
def w__law_range (W__law_next : List X → W U) : WS :=
    wSeq (wAsg (wOp uSub (wCall W__law_next (wCons (wU (wVar 0)) (wCons (wU (wVar 1)) (wCons (wU (wOp uIx (wLst (wCons (wC (.int 25)) (wCons (wC (.int 20001)) (wNil)))) (wCB uInt (wCons (wVar 2) (wNil))))) (wNil))))) (wOp uIx (wLst (wCons (wC (.int 12)) (wCons (wC (.int 10000)) (wNil)))) (wCB uInt (wCons (wVar 2) (wNil))))) (wName 3))
    (wSeq (wAsg (wCall W__law_next (wCons (wU (wVar 0)) (wCons (wU (wVar 1)) (wCons (wU (wC (.int 5))) (wNil))))) (wName 4))
    (wSeq (wSIf (wTest (wOp uEq (wVar 4) (wC (.int 0)))) (wRet (wTup (wCons (wVar 3) (wCons (wVar 3) (wCons (wC (.int 0)) (wNil)))))) (wNext))
    (wSeq (wAsg (wOp uAdd (wC (.int 1)) (wCall W__law_next (wCons (wU (wVar 0)) (wCons (wU (wVar 1)) (wCons (wU (wOp uIx (wLst (wCons (wC (.int 7)) (wCons (wC (.int 400)) (wNil)))) (wCB uInt (wCons (wVar 2) (wNil))))) (wNil)))))) (wName 5))
    (wSeq (wSIf (wTest (wOp uEq (wVar 4) (wC (.int 1)))) (wAsg (wC (.int 1)) (wName 5)) (wNext))
    (wSeq (wAsg (wOp uFdiv (wOp uSub (wC (.int 10000)) (wVar 3)) (wVar 5)) (wName 6))
    (wSeq (wAsg (wCB uMin2 (wCons (wVar 6) (wCons (wOp uAdd (wC (.int 1)) (wCall W__law_next (wCons (wU (wVar 0)) (wCons (wU (wVar 1)) (wCons (wU (wOp uIx (wLst (wCons (wC (.int 9)) (wCons (wC (.int 6000)) (wNil)))) (wCB uInt (wCons (wVar 2) (wNil))))) (wNil)))))) (wNil)))) (wName 7))
    (wSeq (wSIf (wTest (wOp uLt (wVar 7) (wC (.int 1)))) (wRet (wTup (wCons (wVar 3) (wCons (wVar 3) (wCons (wC (.int 0)) (wNil)))))) (wNext))
    (wRet (wTup (wCons (wVar 3) (wCons (wOp uAdd (wVar 3) (wOp uMul (wVar 5) (wVar 7))) (wCons (wVar 5) (wNil)))))))))))))
abbrev N__law_range : List Str := [PySem.Str.ofString "state", PySem.Str.ofString "script", PySem.Str.ofString "wide", PySem.Str.ofString "low", PySem.Str.ofString "choice", PySem.Str.ofString "step", PySem.Str.ofString "most", PySem.Str.ofString "count"]
theorem rn__law_range {a0 a1 a2 : D} : rho0 N__law_range [a0, a1, a2] = [some a0, some a1, some a2, none, none, none, none, none] := rfl
theorem sc__law_range : FnScope N__law_range [PySem.Str.ofString "state", PySem.Str.ofString "script", PySem.Str.ofString "wide"] (defScope s__law_range) := ⟨rfl, rfl, rfl, by decide +kernel, rfl, by decide +kernel, by decide +kernel⟩
def Φ__law_range : List D → PM → Out D := Pd.run 3 N__law_range (g__law_range Φ__law_next)
def W__law_range : List X → W U := wrun 3 8 (w__law_range W__law_next)
theorem nx__law_range (xs : List X) : noX (W__law_range xs) = W__law_range xs := noX_wrun
theorem ok__law_range {P : Program} {w : World} {K : PySem.W.Frag} {mg : Str → Option Value} {base : Heap} (F : FunM K mg "_law_range" s__law_range [PySem.Str.ofString "state", PySem.Str.ofString "script", PySem.Str.ofString "wide"]) {Φ__law_next : List D → PM → Out D} (C__law_next : Callee P w K mg base "_law_next" 1 Φ__law_next) (m_int : mg "int" = none) (m_min : mg "min" = none) :
    Callee P w K mg base "_law_range" 2 (Pd.run 3 N__law_range (g__law_range Φ__law_next)) := by
  refine callee_run F sc__law_range rfl fun f cdv A outer s H E hr => ?_
  have nd := sc__law_range.nd
  exact pdb_cons (pds_set 3 (pd_op o_sub (pd_callC C__law_next (hr.mono (by decide)) rfl (pda_cons (pd_var 0) (pda_cons (pd_var 1) (pda_cons (pd_ix (pd_lst (pda_cons (pd_int) (pda_cons (pd_int) (pda_nil)))) (pd_callT b_int rfl m_int (by decide +kernel) (pda_cons (pd_var 2) (pda_nil)))) (pda_nil))))) (pd_ix (pd_lst (pda_cons (pd_int) (pda_cons (pd_int) (pda_nil)))) (pd_callT b_int rfl m_int (by decide +kernel) (pda_cons (pd_var 2) (pda_nil))))) nd)
    (pdb_cons (pds_set 4 (pd_callC C__law_next (hr.mono (by decide)) rfl (pda_cons (pd_var 0) (pda_cons (pd_var 1) (pda_cons (pd_int) (pda_nil))))) nd)
    (pdb_cons (pds_if (pdt_cmp o_eq (pd_var 4) (pd_int) (nomark _)) (pdb_one (pds_ret (pd_tup (pda_cons (pd_var 3) (pda_cons (pd_var 3) (pda_cons (pd_int) (pda_nil))))))) (pdb_nil))
    (pdb_cons (pds_set 5 (pd_op o_add (pd_int) (pd_callC C__law_next (hr.mono (by decide)) rfl (pda_cons (pd_var 0) (pda_cons (pd_var 1) (pda_cons (pd_ix (pd_lst (pda_cons (pd_int) (pda_cons (pd_int) (pda_nil)))) (pd_callT b_int rfl m_int (by decide +kernel) (pda_cons (pd_var 2) (pda_nil)))) (pda_nil)))))) nd)
    (pdb_cons (pds_if (pdt_cmp o_eq (pd_var 4) (pd_int) (nomark _)) (pdb_one (pds_set 5 (pd_int) nd)) (pdb_nil))
    (pdb_cons (pds_set 6 (pd_op o_fdiv (pd_op o_sub (pd_int) (pd_var 3)) (pd_var 5)) nd)
    (pdb_cons (pds_set 7 (pd_callB (b_min2 rfl) rfl m_min (by decide +kernel) (pda_cons (pd_var 6) (pda_cons (pd_op o_add (pd_int) (pd_callC C__law_next (hr.mono (by decide)) rfl (pda_cons (pd_var 0) (pda_cons (pd_var 1) (pda_cons (pd_ix (pd_lst (pda_cons (pd_int) (pda_cons (pd_int) (pda_nil)))) (pd_callT b_int rfl m_int (by decide +kernel) (pda_cons (pd_var 2) (pda_nil)))) (pda_nil)))))) (pda_nil)))) nd)
    (pdb_cons (pds_if (pdt_cmp o_lt (pd_var 7) (pd_int) (nomark _)) (pdb_one (pds_ret (pd_tup (pda_cons (pd_var 3) (pda_cons (pd_var 3) (pda_cons (pd_int) (pda_nil))))))) (pdb_nil))
    (pdb_one (pds_ret (pd_tup (pda_cons (pd_var 3) (pda_cons (pd_op o_add (pd_var 3) (pd_op o_mul (pd_var 5) (pd_var 7))) (pda_cons (pd_var 5) (pda_nil))))))))))))))
/-! ### _law_members -/
abbrev s__law_members : Stmt := topS 22
def g__law_members : FS :=
    sSeq (sIf (pTest (pOp gEq (pOp gIx (pVar 0) (pC (.int 2))) (pC (.int 0)))) (sRet (pLst (aCons (pOp gIx (pVar 0) (pC (.int 0))) (aNil)))) (sNext))
    (sRet (pLR3 (aCons (pOp gIx (pVar 0) (pC (.int 0))) (aCons (pOp gAdd (pOp gIx (pVar 0) (pC (.int 1))) (pC (.int 1))) (aCons (pOp gIx (pVar 0) (pC (.int 2))) (aNil))))))
def w__law_members : WS :=
    wSeq (wSIf (wTest (wOp uEq (wOp uIx (wVar 0) (wC (.int 2))) (wC (.int 0)))) (wRet (wLst (wCons (wOp uIx (wVar 0) (wC (.int 0))) (wNil)))) (wNext))
    (wRet (wLR3 (wCons (wOp uIx (wVar 0) (wC (.int 0))) (wCons (wOp uAdd (wOp uIx (wVar 0) (wC (.int 1))) (wC (.int 1))) (wCons (wOp uIx (wVar 0) (wC (.int 2))) (wNil))))))
abbrev N__law_members : List Str := [PySem.Str.ofString "one"]
theorem rn__law_members {a0 : D} : rho0 N__law_members [a0] = [some a0] := rfl
theorem sc__law_members : FnScope N__law_members [PySem.Str.ofString "one"] (defScope s__law_members) := ⟨rfl, rfl, rfl, by decide +kernel, rfl, by decide +kernel, by decide +kernel⟩
def Φ__law_members : List D → PM → Out D := Pd.run 1 N__law_members (g__law_members)
def W__law_members : List X → W U := wrun 1 1 (w__law_members)
theorem nx__law_members (xs : List X) : noX (W__law_members xs) = W__law_members xs := noX_wrun
theorem ok__law_members {P : Program} {w : World} {K : PySem.W.Frag} {mg : Str → Option Value} {base : Heap} (F : FunM K mg "_law_members" s__law_members [PySem.Str.ofString "one"]) (m_list : mg "list" = none) (m_range : mg "range" = none) :
    Callee P w K mg base "_law_members" 1 (Pd.run 1 N__law_members (g__law_members)) := by
  refine callee_run F sc__law_members rfl fun f cdv A outer s H E hr => ?_
  have nd := sc__law_members.nd
  exact pdb_cons (pds_if (pdt_cmp o_eq (pd_ix (pd_var 0) (pd_int)) (pd_int) (nomark _)) (pdb_one (pds_ret (pd_lst (pda_cons (pd_ix (pd_var 0) (pd_int)) (pda_nil))))) (pdb_nil))
    (pdb_one (pds_ret (pd_listR3 rfl rfl m_list rfl m_range (pda_cons (pd_ix (pd_var 0) (pd_int)) (pda_cons (pd_op o_add (pd_ix (pd_var 0) (pd_int)) (pd_int)) (pda_cons (pd_ix (pd_var 0) (pd_int)) (pda_nil)))))))
/-! ### _law_divisor -/
abbrev s__law_divisor : Stmt := topS 23
def lc__law_divisor_1 : FT :=
    pTest (pOp gNe (pVar 1) (pC (.int 0)))
def lb__law_divisor_1 : FS :=
    sPar 0 1 (aCons (pVar 1) (aCons (pOp gMod (pCB bInt (aCons (pVar 0) (aNil))) (pVar 1)) (aNil)))
def wc__law_divisor_1 : Pu.Env → W Bool :=
    wTest (wOp uNe (wVar 1) (wC (.int 0)))
def wb__law_divisor_1 : WS :=
    wPar 0 1 (wCons (wVar 1) (wCons (wOp uMod (wCB uInt (wCons (wVar 0) (wNil))) (wVar 1)) (wNil)))
def g__law_divisor : FS :=
    sSeq (sWhile (lc__law_divisor_1) (lb__law_divisor_1) 1000000000)
    (sRet (pCB bAbs (aCons (pVar 0) (aNil))))
def w__law_divisor : WS :=
    wSeq (wWhile (wc__law_divisor_1) (wb__law_divisor_1) [] 1000000000)
    (wRet (wCB uAbs (wCons (wVar 0) (wNil))))
abbrev N__law_divisor : List Str := [PySem.Str.ofString "one", PySem.Str.ofString "other"]
theorem rn__law_divisor {a0 a1 : D} : rho0 N__law_divisor [a0, a1] = [some a0, some a1] := rfl
theorem sc__law_divisor : FnScope N__law_divisor [PySem.Str.ofString "one", PySem.Str.ofString "other"] (defScope s__law_divisor) := ⟨rfl, rfl, rfl, by decide +kernel, rfl, by decide +kernel, by decide +kernel⟩
def Φ__law_divisor : List D → PM → Out D := Pd.run 2 N__law_divisor (g__law_divisor)
def W__law_divisor : List X → W U := wrun 2 2 (w__law_divisor)
theorem nx__law_divisor (xs : List X) : noX (W__law_divisor xs) = W__law_divisor xs := noX_wrun
theorem ok__law_divisor {P : Program} {w : World} {K : PySem.W.Frag} {mg : Str → Option Value} {base : Heap} (F : FunM K mg "_law_divisor" s__law_divisor [PySem.Str.ofString "one", PySem.Str.ofString "other"]) (m_int : mg "int" = none) (m_abs : mg "abs" = none) :
    Callee P w K mg base "_law_divisor" 1 (Pd.run 2 N__law_divisor (g__law_divisor)) := by
  refine callee_run F sc__law_divisor rfl fun f cdv A outer s H E hr => ?_
  have nd := sc__law_divisor.nd
  exact pdb_cons (pds_while 1000000000 PassesOwn.never (pdt_cmp o_ne (pd_var 1) (pd_int) (nomark _)) (pdb_one (pds_par 0 1 rfl nd (pda_cons (pd_var 1) (pda_cons (pd_op o_mod (pd_callT b_int rfl m_int (by decide +kernel) (pda_cons (pd_var 0) (pda_nil))) (pd_var 1)) (pda_nil))) (by decide) (by rfl))))
    (pdb_one (pds_ret (pd_callB b_abs rfl m_abs (by decide +kernel) (pda_cons (pd_var 0) (pda_nil)))))
/-! ### _law_made -/
abbrev s__law_made : Stmt := topS 24
def g__law_made : FS :=
    sRet (pTup (aCons (pVar 0) (aCons (pVar 1) (aCons (pIf (pTest (pOp gEq (pVar 0) (pVar 1))) (pC (.int 0)) (pVar 2)) (aNil)))))
def w__law_made : WS :=
    wRet (wTup (wCons (wVar 0) (wCons (wVar 1) (wCons (wIf (wTest (wOp uEq (wVar 0) (wVar 1))) (wC (.int 0)) (wVar 2)) (wNil)))))
abbrev N__law_made : List Str := [PySem.Str.ofString "low", PySem.Str.ofString "high", PySem.Str.ofString "step"]
theorem rn__law_made {a0 a1 a2 : D} : rho0 N__law_made [a0, a1, a2] = [some a0, some a1, some a2] := rfl
theorem sc__law_made : FnScope N__law_made [PySem.Str.ofString "low", PySem.Str.ofString "high", PySem.Str.ofString "step"] (defScope s__law_made) := ⟨rfl, rfl, rfl, by decide +kernel, rfl, by decide +kernel, by decide +kernel⟩
def Φ__law_made : List D → PM → Out D := Pd.run 3 N__law_made (g__law_made)
def W__law_made : List X → W U := wrun 3 3 (w__law_made)
theorem nx__law_made (xs : List X) : noX (W__law_made xs) = W__law_made xs := noX_wrun
theorem ok__law_made {P : Program} {w : World} {K : PySem.W.Frag} {mg : Str → Option Value} {base : Heap} (F : FunM K mg "_law_made" s__law_made [PySem.Str.ofString "low", PySem.Str.ofString "high", PySem.Str.ofString "step"]) :
    Callee P w K mg base "_law_made" 1 (Pd.run 3 N__law_made (g__law_made)) := by
  refine callee_run F sc__law_made rfl fun f cdv A outer s H E hr => ?_
  have nd := sc__law_made.nd
  exact pdb_one (pds_ret (pd_tup (pda_cons (pd_var 0) (pda_cons (pd_var 1) (pda_cons (pd_if (pdt_cmp o_eq (pd_var 0) (pd_var 1) (nomark _)) (pd_int) (pd_var 2)) (pda_nil))))))
/-! ### _law_results -/
abbrev s__law_results : Stmt := topS 25
def g__law_results : FS :=
    sSeq (sIf (pTest (pOp gEq (pVar 0) (pC (.str (PySem.Str.ofString "+"))))) (sRet (pOp gAdd (pVar 1) (pVar 2))) (sNext))
    (sSeq (sIf (pTest (pOp gEq (pVar 0) (pC (.str (PySem.Str.ofString "-"))))) (sRet (pOp gSub (pVar 1) (pVar 2))) (sNext))
    (sSeq (sIf (pTest (pOp gEq (pVar 0) (pC (.str (PySem.Str.ofString "*"))))) (sRet (pOp gMul (pVar 1) (pVar 2))) (sNext))
    (sSeq (sIf (pTest (pOp gEq (pVar 2) (pC (.int 0)))) (sRet (pC .non)) (sNext))
    (sSeq (sAsg (pOp gFdiv (pCB bInt (aCons (pVar 1) (aNil))) (pVar 2)) (fName 3))
    (sRet (pIf (pTest (pOp gEq (pVar 0) (pC (.str (PySem.Str.ofString "/"))))) (pVar 3) (pOp gSub (pVar 1) (pOp gMul (pVar 3) (pVar 2)))))))))
def w__law_results : WS :=
    wSeq (wSIf (wTest (wOp uEq (wVar 0) (wC (.str (PySem.Str.ofString "+"))))) (wRet (wOp uAdd (wVar 1) (wVar 2))) (wNext))
    (wSeq (wSIf (wTest (wOp uEq (wVar 0) (wC (.str (PySem.Str.ofString "-"))))) (wRet (wOp uSub (wVar 1) (wVar 2))) (wNext))
    (wSeq (wSIf (wTest (wOp uEq (wVar 0) (wC (.str (PySem.Str.ofString "*"))))) (wRet (wOp uMul (wVar 1) (wVar 2))) (wNext))
    (wSeq (wSIf (wTest (wOp uEq (wVar 2) (wC (.int 0)))) (wRet (wC .non)) (wNext))
    (wSeq (wAsg (wOp uFdiv (wCB uInt (wCons (wVar 1) (wNil))) (wVar 2)) (wName 3))
    (wRet (wIf (wTest (wOp uEq (wVar 0) (wC (.str (PySem.Str.ofString "/"))))) (wVar 3) (wOp uSub (wVar 1) (wOp uMul (wVar 3) (wVar 2)))))))))
abbrev N__law_results : List Str := [PySem.Str.ofString "sign", PySem.Str.ofString "left", PySem.Str.ofString "right", PySem.Str.ofString "times"]
theorem rn__law_results {a0 a1 a2 : D} : rho0 N__law_results [a0, a1, a2] = [some a0, some a1, some a2, none] := rfl
theorem sc__law_results : FnScope N__law_results [PySem.Str.ofString "sign", PySem.Str.ofString "left", PySem.Str.ofString "right"] (defScope s__law_results) := ⟨rfl, rfl, rfl, by decide +kernel, rfl, by decide +kernel, by decide +kernel⟩
def Φ__law_results : List D → PM → Out D := Pd.run 3 N__law_results (g__law_results)
def W__law_results : List X → W U := wrun 3 4 (w__law_results)
theorem nx__law_results (xs : List X) : noX (W__law_results xs) = W__law_results xs := noX_wrun
theorem ok__law_results {P : Program} {w : World} {K : PySem.W.Frag} {mg : Str → Option Value} {base : Heap} (F : FunM K mg "_law_results" s__law_results [PySem.Str.ofString "sign", PySem.Str.ofString "left", PySem.Str.ofString "right"]) (m_int : mg "int" = none) :
    Callee P w K mg base "_law_results" 1 (Pd.run 3 N__law_results (g__law_results)) := by
  refine callee_run F sc__law_results rfl fun f cdv A outer s H E hr => ?_
  have nd := sc__law_results.nd
  exact pdb_cons (pds_if (pdt_cmp o_eq (pd_var 0) (pd_str) (nomark _)) (pdb_one (pds_ret (pd_op o_add (pd_var 1) (pd_var 2)))) (pdb_nil))
    (pdb_cons (pds_if (pdt_cmp o_eq (pd_var 0) (pd_str) (nomark _)) (pdb_one (pds_ret (pd_op o_sub (pd_var 1) (pd_var 2)))) (pdb_nil))
    (pdb_cons (pds_if (pdt_cmp o_eq (pd_var 0) (pd_str) (nomark _)) (pdb_one (pds_ret (pd_op o_mul (pd_var 1) (pd_var 2)))) (pdb_nil))
    (pdb_cons (pds_if (pdt_cmp o_eq (pd_var 2) (pd_int) (nomark _)) (pdb_one (pds_ret (pd_non))) (pdb_nil))
    (pdb_cons (pds_set 3 (pd_op o_fdiv (pd_callT b_int rfl m_int (by decide +kernel) (pda_cons (pd_var 1) (pda_nil))) (pd_var 2)) nd)
    (pdb_one (pds_ret (pd_if (pdt_cmp o_eq (pd_var 0) (pd_str) (nomark _)) (pd_var 3) (pd_op o_sub (pd_var 1) (pd_op o_mul (pd_var 3) (pd_var 2))))))))))
/-! ### _law_parts -/
abbrev s__law_parts : Stmt := topS 26
def g__law_parts : FS :=
    sSeq (sAsg (pVar 0) (fTup 3 (fCons (fName 2) (fCons (fName 3) (fCons (fName 4) (fNil))))))
    (sSeq (sAsg (pLst (aNil)) (fName 1))
    (sSeq (sIf (pTest (pOp gGe (pVar 3) (pC (.int 1)))) (sSeq (sAsg (pVar 2) (fName 5))
      (sSeq (sIf (pTest (pOp gLt (pVar 2) (pC (.int 1)))) (sAsg (pOp gSub (pVar 3) (pOp gMul (pOp gFdiv (pOp gSub (pVar 3) (pC (.int 1))) (pCB bMax2 (aCons (pC (.int 1)) (aCons (pVar 4) (aNil))))) (pVar 4))) (fName 5)) (sNext))
      (sAsg (pOp gAdd (pVar 1) (pLst (aCons (pVar 5) (aCons (pVar 3) (aNil))))) (fName 1)))) (sNext))
    (sSeq (sIf (pTest (pOp gLe (pVar 2) (pUn gNeg (pC (.int 1))))) (sSeq (sAsg (pVar 3) (fName 6))
      (sSeq (sIf (pTest (pOp gGt (pVar 3) (pUn gNeg (pC (.int 1))))) (sAsg (pOp gAdd (pVar 2) (pOp gMul (pOp gFdiv (pOp gSub (pOp gSub (pC (.int 0)) (pC (.int 1))) (pVar 2)) (pCB bMax2 (aCons (pC (.int 1)) (aCons (pVar 4) (aNil))))) (pVar 4))) (fName 6)) (sNext))
      (sAsg (pOp gAdd (pVar 1) (pLst (aCons (pVar 2) (aCons (pVar 6) (aNil))))) (fName 1)))) (sNext))
    (sRet (pVar 1)))))
def w__law_parts : WS :=
    wSeq (wAsg (wVar 0) (wUnp 3 (wTCons (wName 2) (wTCons (wName 3) (wTCons (wName 4) (wTNil))))))
    (wSeq (wAsg (wLst (wNil)) (wName 1))
    (wSeq (wSIf (wTest (wOp uGe (wVar 3) (wC (.int 1)))) (wSeq (wAsg (wVar 2) (wName 5))
      (wSeq (wSIf (wTest (wOp uLt (wVar 2) (wC (.int 1)))) (wAsg (wOp uSub (wVar 3) (wOp uMul (wOp uFdiv (wOp uSub (wVar 3) (wC (.int 1))) (wCB uMax2 (wCons (wC (.int 1)) (wCons (wVar 4) (wNil))))) (wVar 4))) (wName 5)) (wNext))
      (wAsg (wOp uAdd (wVar 1) (wLst (wCons (wVar 5) (wCons (wVar 3) (wNil))))) (wName 1)))) (wNext))
    (wSeq (wSIf (wTest (wOp uLe (wVar 2) (wUn uNeg (wC (.int 1))))) (wSeq (wAsg (wVar 3) (wName 6))
      (wSeq (wSIf (wTest (wOp uGt (wVar 3) (wUn uNeg (wC (.int 1))))) (wAsg (wOp uAdd (wVar 2) (wOp uMul (wOp uFdiv (wOp uSub (wOp uSub (wC (.int 0)) (wC (.int 1))) (wVar 2)) (wCB uMax2 (wCons (wC (.int 1)) (wCons (wVar 4) (wNil))))) (wVar 4))) (wName 6)) (wNext))
      (wAsg (wOp uAdd (wVar 1) (wLst (wCons (wVar 2) (wCons (wVar 6) (wNil))))) (wName 1)))) (wNext))
    (wRet (wVar 1)))))
abbrev N__law_parts : List Str := [PySem.Str.ofString "second", PySem.Str.ofString "ends", PySem.Str.ofString "low", PySem.Str.ofString "high", PySem.Str.ofString "step", PySem.Str.ofString "first", PySem.Str.ofString "last"]
theorem rn__law_parts {a0 : D} : rho0 N__law_parts [a0] = [some a0, none, none, none, none, none, none] := rfl
theorem sc__law_parts : FnScope N__law_parts [PySem.Str.ofString "second"] (defScope s__law_parts) := ⟨rfl, rfl, rfl, by decide +kernel, rfl, by decide +kernel, by decide +kernel⟩
def Φ__law_parts : List D → PM → Out D := Pd.run 1 N__law_parts (g__law_parts)
def W__law_parts : List X → W U := wrun 1 7 (w__law_parts)
theorem nx__law_parts (xs : List X) : noX (W__law_parts xs) = W__law_parts xs := noX_wrun
theorem ok__law_parts {P : Program} {w : World} {K : PySem.W.Frag} {mg : Str → Option Value} {base : Heap} (F : FunM K mg "_law_parts" s__law_parts [PySem.Str.ofString "second"]) (m_max : mg "max" = none) :
    Callee P w K mg base "_law_parts" 1 (Pd.run 1 N__law_parts (g__law_parts)) := by
  refine callee_run F sc__law_parts rfl fun f cdv A outer s H E hr => ?_
  have nd := sc__law_parts.nd
  exact pdb_cons (pds_asg (pd_var 0) (pdg_tup rfl (pdgs_cons (pdg_name (i := 2) nd) (pdgs_cons (pdg_name (i := 3) nd) (pdgs_cons (pdg_name (i := 4) nd) (pdgs_nil))))))
    (pdb_cons (pds_set 1 (pd_lst (pda_nil)) nd)
    (pdb_cons (pds_if (pdt_cmp o_ge (pd_var 3) (pd_int) (nomark _)) (pdb_cons (pds_set 5 (pd_var 2) nd)
      (pdb_cons (pds_if (pdt_cmp o_lt (pd_var 2) (pd_int) (nomark _)) (pdb_one (pds_set 5 (pd_op o_sub (pd_var 3) (pd_op o_mul (pd_op o_fdiv (pd_op o_sub (pd_var 3) (pd_int)) (pd_callB (b_max2 rfl) rfl m_max (by decide +kernel) (pda_cons (pd_int) (pda_cons (pd_var 4) (pda_nil))))) (pd_var 4))) nd)) (pdb_nil))
      (pdb_one (pds_set 1 (pd_op o_add (pd_var 1) (pd_lst (pda_cons (pd_var 5) (pda_cons (pd_var 3) (pda_nil))))) nd)))) (pdb_nil))
    (pdb_cons (pds_if (pdt_cmp o_le (pd_var 2) (pd_neg (pd_int)) (nomark _)) (pdb_cons (pds_set 6 (pd_var 3) nd)
      (pdb_cons (pds_if (pdt_cmp o_gt (pd_var 3) (pd_neg (pd_int)) (nomark _)) (pdb_one (pds_set 6 (pd_op o_add (pd_var 2) (pd_op o_mul (pd_op o_fdiv (pd_op o_sub (pd_op o_sub (pd_int) (pd_int)) (pd_var 2)) (pd_callB (b_max2 rfl) rfl m_max (by decide +kernel) (pda_cons (pd_int) (pda_cons (pd_var 4) (pda_nil))))) (pd_var 4))) nd)) (pdb_nil))
      (pdb_one (pds_set 1 (pd_op o_add (pd_var 1) (pd_lst (pda_cons (pd_var 2) (pda_cons (pd_var 6) (pda_nil))))) nd)))) (pdb_nil))
    (pdb_one (pds_ret (pd_var 1))))))
/-! ### _law_rest -/
abbrev s__law_rest : Stmt := topS 27
def g__law_rest (Φ__law_made : List D → PM → Out D) (Φ__law_results : List D → PM → Out D) : FS :=
    sSeq (sAsg (pVar 1) (fTup 3 (fCons (fName 3) (fCons (fName 4) (fCons (fName 5) (fNil))))))
    (sSeq (sIf (pTest (pOp gLt (pVar 3) (pVar 4))) (sRet (pCall Φ__law_made (aCons (pCB bMin2 (aCons (pC (.int 0)) (aCons (pOp gAdd (pVar 3) (pC (.int 1))) (aNil)))) (aCons (pCB bMax2 (aCons (pC (.int 0)) (aCons (pOp gSub (pVar 4) (pC (.int 1))) (aNil)))) (aCons (pC (.int 1)) (aNil)))))) (sNext))
    (sSeq (sIf (pTest (pOp gEq (pVar 3) (pC (.int 0)))) (sRet (pC .non)) (sNext))
    (sSeq (sIf (pTest (pOp gEq (pOp gMod (pCB bInt (aCons (pOp gIx (pVar 0) (pC (.int 2))) (aNil))) (pVar 3)) (pC (.int 0)))) (sSeq (sAsg (pCall Φ__law_results (aCons (pC (.str (PySem.Str.ofString "mod"))) (aCons (pOp gIx (pVar 0) (pC (.int 0))) (aCons (pVar 3) (aNil))))) (fName 6))
      (sRet (pTup (aCons (pVar 6) (aCons (pVar 6) (aCons (pC (.int 0)) (aNil))))))) (sNext))
    (sSeq (sAsg (pCall Φ__law_results (aCons (pC (.str (PySem.Str.ofString "/"))) (aCons (pOp gIx (pVar 0) (pC (.int 0))) (aCons (pVar 3) (aNil))))) (fName 2))
    (sSeq (sIf (pTest (pOp gEq (pCall Φ__law_results (aCons (pC (.str (PySem.Str.ofString "/"))) (aCons (pOp gIx (pVar 0) (pC (.int 1))) (aCons (pVar 3) (aNil))))) (pVar 2))) (sRet (pCall Φ__law_made (aCons (pOp gSub (pOp gIx (pVar 0) (pC (.int 0))) (pOp gMul (pVar 2) (pVar 3))) (aCons (pOp gSub (pOp gIx (pVar 0) (pC (.int 1))) (pOp gMul (pVar 2) (pVar 3))) (aCons (pOp gIx (pVar 0) (pC (.int 2))) (aNil)))))) (sNext))
    (sRet (pCall Φ__law_made (aCons (pCB bMin2 (aCons (pC (.int 0)) (aCons (pOp gAdd (pVar 3) (pC (.int 1))) (aNil)))) (aCons (pCB bMax2 (aCons (pC (.int 0)) (aCons (pOp gSub (pVar 3) (pC (.int 1))) (aNil)))) (aCons (pC (.int 1)) (aNil)))))))))))
def w__law_rest (W__law_made : List X → W U) (W__law_results : List X → W U) : WS :=
    wSeq (wAsg (wVar 1) (wUnp 3 (wTCons (wName 3) (wTCons (wName 4) (wTCons (wName 5) (wTNil))))))
    (wSeq (wSIf (wTest (wOp uLt (wVar 3) (wVar 4))) (wRet (wCall W__law_made (wCons (wU (wCB uMin2 (wCons (wC (.int 0)) (wCons (wOp uAdd (wVar 3) (wC (.int 1))) (wNil))))) (wCons (wU (wCB uMax2 (wCons (wC (.int 0)) (wCons (wOp uSub (wVar 4) (wC (.int 1))) (wNil))))) (wCons (wU (wC (.int 1))) (wNil)))))) (wNext))
    (wSeq (wSIf (wTest (wOp uEq (wVar 3) (wC (.int 0)))) (wRet (wC .non)) (wNext))
    (wSeq (wSIf (wTest (wOp uEq (wOp uMod (wCB uInt (wCons (wOp uIx (wVar 0) (wC (.int 2))) (wNil))) (wVar 3)) (wC (.int 0)))) (wSeq (wAsg (wCall W__law_results (wCons (wU (wC (.str (PySem.Str.ofString "mod")))) (wCons (wU (wOp uIx (wVar 0) (wC (.int 0)))) (wCons (wU (wVar 3)) (wNil))))) (wName 6))
      (wRet (wTup (wCons (wVar 6) (wCons (wVar 6) (wCons (wC (.int 0)) (wNil))))))) (wNext))
    (wSeq (wAsg (wCall W__law_results (wCons (wU (wC (.str (PySem.Str.ofString "/")))) (wCons (wU (wOp uIx (wVar 0) (wC (.int 0)))) (wCons (wU (wVar 3)) (wNil))))) (wName 2))
    (wSeq (wSIf (wTest (wOp uEq (wCall W__law_results (wCons (wU (wC (.str (PySem.Str.ofString "/")))) (wCons (wU (wOp uIx (wVar 0) (wC (.int 1)))) (wCons (wU (wVar 3)) (wNil))))) (wVar 2))) (wRet (wCall W__law_made (wCons (wU (wOp uSub (wOp uIx (wVar 0) (wC (.int 0))) (wOp uMul (wVar 2) (wVar 3)))) (wCons (wU (wOp uSub (wOp uIx (wVar 0) (wC (.int 1))) (wOp uMul (wVar 2) (wVar 3)))) (wCons (wU (wOp uIx (wVar 0) (wC (.int 2)))) (wNil)))))) (wNext))
    (wRet (wCall W__law_made (wCons (wU (wCB uMin2 (wCons (wC (.int 0)) (wCons (wOp uAdd (wVar 3) (wC (.int 1))) (wNil))))) (wCons (wU (wCB uMax2 (wCons (wC (.int 0)) (wCons (wOp uSub (wVar 3) (wC (.int 1))) (wNil))))) (wCons (wU (wC (.int 1))) (wNil)))))))))))
abbrev N__law_rest : List Str := [PySem.Str.ofString "first", PySem.Str.ofString "second", PySem.Str.ofString "times", PySem.Str.ofString "low", PySem.Str.ofString "high", PySem.Str.ofString "step", PySem.Str.ofString "only"]
theorem rn__law_rest {a0 a1 : D} : rho0 N__law_rest [a0, a1] = [some a0, some a1, none, none, none, none, none] := rfl
theorem sc__law_rest : FnScope N__law_rest [PySem.Str.ofString "first", PySem.Str.ofString "second"] (defScope s__law_rest) := ⟨rfl, rfl, rfl, by decide +kernel, rfl, by decide +kernel, by decide +kernel⟩
def Φ__law_rest : List D → PM → Out D := Pd.run 2 N__law_rest (g__law_rest Φ__law_made Φ__law_results)
def W__law_rest : List X → W U := wrun 2 7 (w__law_rest W__law_made W__law_results)
theorem nx__law_rest (xs : List X) : noX (W__law_rest xs) = W__law_rest xs := noX_wrun
theorem ok__law_rest {P : Program} {w : World} {K : PySem.W.Frag} {mg : Str → Option Value} {base : Heap} (F : FunM K mg "_law_rest" s__law_rest [PySem.Str.ofString "first", PySem.Str.ofString "second"]) {Φ__law_made : List D → PM → Out D} (C__law_made : Callee P w K mg base "_law_made" 1 Φ__law_made) {Φ__law_results : List D → PM → Out D} (C__law_results : Callee P w K mg base "_law_results" 1 Φ__law_results) (m_max : mg "max" = none) (m_min : mg "min" = none) (m_int : mg "int" = none) :
    Callee P w K mg base "_law_rest" 2 (Pd.run 2 N__law_rest (g__law_rest Φ__law_made Φ__law_results)) := by
  refine callee_run F sc__law_rest rfl fun f cdv A outer s H E hr => ?_
  have nd := sc__law_rest.nd
  exact pdb_cons (pds_asg (pd_var 1) (pdg_tup rfl (pdgs_cons (pdg_name (i := 3) nd) (pdgs_cons (pdg_name (i := 4) nd) (pdgs_cons (pdg_name (i := 5) nd) (pdgs_nil))))))
    (pdb_cons (pds_if (pdt_cmp o_lt (pd_var 3) (pd_var 4) (nomark _)) (pdb_one (pds_ret (pd_callC C__law_made (hr.mono (by decide)) rfl (pda_cons (pd_callB (b_min2 rfl) rfl m_min (by decide +kernel) (pda_cons (pd_int) (pda_cons (pd_op o_add (pd_var 3) (pd_int)) (pda_nil)))) (pda_cons (pd_callB (b_max2 rfl) rfl m_max (by decide +kernel) (pda_cons (pd_int) (pda_cons (pd_op o_sub (pd_var 4) (pd_int)) (pda_nil)))) (pda_cons (pd_int) (pda_nil))))))) (pdb_nil))
    (pdb_cons (pds_if (pdt_cmp o_eq (pd_var 3) (pd_int) (nomark _)) (pdb_one (pds_ret (pd_non))) (pdb_nil))
    (pdb_cons (pds_if (pdt_cmp o_eq (pd_op o_mod (pd_callT b_int rfl m_int (by decide +kernel) (pda_cons (pd_ix (pd_var 0) (pd_int)) (pda_nil))) (pd_var 3)) (pd_int) (nomark _)) (pdb_cons (pds_set 6 (pd_callC C__law_results (hr.mono (by decide)) rfl (pda_cons (pd_str) (pda_cons (pd_ix (pd_var 0) (pd_int)) (pda_cons (pd_var 3) (pda_nil))))) nd)
      (pdb_one (pds_ret (pd_tup (pda_cons (pd_var 6) (pda_cons (pd_var 6) (pda_cons (pd_int) (pda_nil)))))))) (pdb_nil))
    (pdb_cons (pds_set 2 (pd_callC C__law_results (hr.mono (by decide)) rfl (pda_cons (pd_str) (pda_cons (pd_ix (pd_var 0) (pd_int)) (pda_cons (pd_var 3) (pda_nil))))) nd)
    (pdb_cons (pds_if (pdt_cmp o_eq (pd_callC C__law_results (hr.mono (by decide)) rfl (pda_cons (pd_str) (pda_cons (pd_ix (pd_var 0) (pd_int)) (pda_cons (pd_var 3) (pda_nil))))) (pd_var 2) (nomark _)) (pdb_one (pds_ret (pd_callC C__law_made (hr.mono (by decide)) rfl (pda_cons (pd_op o_sub (pd_ix (pd_var 0) (pd_int)) (pd_op o_mul (pd_var 2) (pd_var 3))) (pda_cons (pd_op o_sub (pd_ix (pd_var 0) (pd_int)) (pd_op o_mul (pd_var 2) (pd_var 3))) (pda_cons (pd_ix (pd_var 0) (pd_int)) (pda_nil))))))) (pdb_nil))
    (pdb_one (pds_ret (pd_callC C__law_made (hr.mono (by decide)) rfl (pda_cons (pd_callB (b_min2 rfl) rfl m_min (by decide +kernel) (pda_cons (pd_int) (pda_cons (pd_op o_add (pd_var 3) (pd_int)) (pda_nil)))) (pda_cons (pd_callB (b_max2 rfl) rfl m_max (by decide +kernel) (pda_cons (pd_int) (pda_cons (pd_op o_sub (pd_var 3) (pd_int)) (pda_nil)))) (pda_cons (pd_int) (pda_nil))))))))))))
/-! ### _law_pairs -/
abbrev s__law_pairs : Stmt := topS 28
def lb__law_pairs_1 : FS :=
    sDrop (pExt (pVar 2) (pLc (pItems (pVar 1)) (fName 4) pYes (pTup (aCons (pVar 3) (aCons (pVar 4) (aNil)))) [4]))
def wb__law_pairs_1 : WS :=
    wExt 2 (wLc (wItems (wVar 1)) (wName 4) wYes (wTup (wCons (wVar 3) (wCons (wVar 4) (wNil)))) [4])
def g__law_pairs : FS :=
    sSeq (sAsg (pNew (aNil)) (fName 2))
    (sSeq (sFor (pItems (pVar 0)) (fName 3) (lb__law_pairs_1))
    (sRet (pVar 2)))
def w__law_pairs : WS :=
    wSeq (wNew (wLst (wNil)) 2)
    (wSeq (wFor (wItems (wVar 0)) (wName 3) (wb__law_pairs_1) [3])
    (wRet (wVarO 2)))
abbrev N__law_pairs : List Str := [PySem.Str.ofString "lefts", PySem.Str.ofString "rights", PySem.Str.ofString "rows", PySem.Str.ofString "left", PySem.Str.ofString "right"]
theorem rn__law_pairs {a0 a1 : D} : rho0 N__law_pairs [a0, a1] = [some a0, some a1, none, none, none] := rfl
theorem sc__law_pairs : FnScope N__law_pairs [PySem.Str.ofString "lefts", PySem.Str.ofString "rights"] (defScope s__law_pairs) := ⟨rfl, rfl, rfl, by decide +kernel, rfl, by decide +kernel, by decide +kernel⟩
def Φ__law_pairs : List D → PM → Out D := Pd.run 2 N__law_pairs (g__law_pairs)
def W__law_pairs : List X → W U := wrun 2 5 (w__law_pairs)
theorem nx__law_pairs (xs : List X) : noX (W__law_pairs xs) = W__law_pairs xs := noX_wrun
theorem ok__law_pairs {P : Program} {w : World} {K : PySem.W.Frag} {mg : Str → Option Value} {base : Heap} (F : FunM K mg "_law_pairs" s__law_pairs [PySem.Str.ofString "lefts", PySem.Str.ofString "rights"]) :
    Callee P w K mg base "_law_pairs" 1 (Pd.run 2 N__law_pairs (g__law_pairs)) := by
  refine callee_run F sc__law_pairs rfl fun f cdv A outer s H E hr => ?_
  have nd := sc__law_pairs.nd
  exact pdb_cons (pds_set 2 (pd_new (pda_nil)) nd)
    (pdb_cons (pds_for PassesOwn.never rfl (pdi_any (pd_var 0)) (pdg_name (i := 3) nd) (pdb_one (pds_expr (pd_extend (pd_var 2) (pd_lc (own := [((PySem.Str.ofString "right"), 4)]) rfl nd (pdi_any (pd_var 1)) (blkOk_by (N := N__law_pairs) (sc := defScope s__law_pairs) (by decide +kernel)) (by decide) (fun _ _ _ _ _ => pg_name (i := 4) nd rfl (Or.inl rfl)) (fun _ _ _ _ _ => pd_tup (pda_cons (pd_var 3) (pda_cons (pd_var 4) (pda_nil)))))))))
    (pdb_one (pds_ret (pd_var 2))))
/-! ### _law_raw -/
abbrev s__law_raw : Stmt := topS 29
def g__law_raw (Φ__law_divisor : List D → PM → Out D) (Φ__law_made : List D → PM → Out D) (Φ__law_pairs : List D → PM → Out D) (Φ__law_rest : List D → PM → Out D) (Φ__law_parts : List D → PM → Out D) (Φ__law_results : List D → PM → Out D) : FS :=
    sSeq (sAsg (pCall Φ__law_divisor (aCons (pOp gIx (pVar 1) (pC (.int 2))) (aCons (pOp gIx (pVar 2) (pC (.int 2))) (aNil)))) (fName 3))
    (sSeq (sIf (pTest (pOp gEq (pVar 0) (pC (.str (PySem.Str.ofString "+"))))) (sRet (pCall Φ__law_made (aCons (pOp gAdd (pOp gIx (pVar 1) (pC (.int 0))) (pOp gIx (pVar 2) (pC (.int 0)))) (aCons (pOp gAdd (pOp gIx (pVar 1) (pC (.int 1))) (pOp gIx (pVar 2) (pC (.int 1)))) (aCons (pVar 3) (aNil)))))) (sNext))
    (sSeq (sIf (pTest (pOp gEq (pVar 0) (pC (.str (PySem.Str.ofString "-"))))) (sRet (pCall Φ__law_made (aCons (pOp gSub (pOp gIx (pVar 1) (pC (.int 0))) (pOp gIx (pVar 2) (pC (.int 1)))) (aCons (pOp gSub (pOp gIx (pVar 1) (pC (.int 1))) (pOp gIx (pVar 2) (pC (.int 0)))) (aCons (pVar 3) (aNil)))))) (sNext))
    (sSeq (sIf (pTest (pOp gEq (pVar 0) (pC (.str (PySem.Str.ofString "*"))))) (sSeq (sAsg (pLc (pItems (pCall Φ__law_pairs (aCons (pSl gSl (pVar 1) (oNone) (oSome (pC (.int 2)))) (aCons (pSl gSl (pVar 2) (oNone) (oSome (pC (.int 2)))) (aNil))))) (fName 5) pYes (pOp gMul (pOp gIx (pVar 5) (pC (.int 0))) (pOp gIx (pVar 5) (pC (.int 1)))) [5]) (fName 4))
      (sSeq (sAsg (pCall Φ__law_divisor (aCons (pCall Φ__law_divisor (aCons (pOp gMul (pOp gIx (pVar 1) (pC (.int 0))) (pOp gIx (pVar 2) (pC (.int 2)))) (aCons (pOp gMul (pOp gIx (pVar 2) (pC (.int 0))) (pOp gIx (pVar 1) (pC (.int 2)))) (aNil)))) (aCons (pOp gMul (pOp gIx (pVar 1) (pC (.int 2))) (pOp gIx (pVar 2) (pC (.int 2)))) (aNil)))) (fName 3))
      (sRet (pCall Φ__law_made (aCons (pCB bMinL (aCons (pVar 4) (aNil))) (aCons (pCB bMaxL (aCons (pVar 4) (aNil))) (aCons (pVar 3) (aNil)))))))) (sNext))
    (sSeq (sIf (pTest (pOp gEq (pVar 0) (pC (.str (PySem.Str.ofString "mod"))))) (sRet (pCall Φ__law_rest (aCons (pVar 1) (aCons (pVar 2) (aNil))))) (sNext))
    (sSeq (sAsg (pLc (pItems (pCall Φ__law_pairs (aCons (pSl gSl (pVar 1) (oNone) (oSome (pC (.int 2)))) (aCons (pCall Φ__law_parts (aCons (pVar 2) (aNil))) (aNil))))) (fName 5) pYes (pCall Φ__law_results (aCons (pC (.str (PySem.Str.ofString "/"))) (aCons (pOp gIx (pVar 5) (pC (.int 0))) (aCons (pOp gIx (pVar 5) (pC (.int 1))) (aNil))))) [5]) (fName 4))
    (sSeq (sIf (pTest (pOp gEq (pCB bLen (aCons (pVar 4) (aNil))) (pC (.int 0)))) (sRet (pC .non)) (sNext))
    (sRet (pCall Φ__law_made (aCons (pCB bMinL (aCons (pVar 4) (aNil))) (aCons (pCB bMaxL (aCons (pVar 4) (aNil))) (aCons (pC (.int 1)) (aNil))))))))))))
def w__law_raw (W__law_divisor : List X → W U) (W__law_made : List X → W U) (W__law_pairs : List X → W U) (W__law_rest : List X → W U) (W__law_parts : List X → W U) (W__law_results : List X → W U) : WS :=
    wSeq (wAsg (wCall W__law_divisor (wCons (wU (wOp uIx (wVar 1) (wC (.int 2)))) (wCons (wU (wOp uIx (wVar 2) (wC (.int 2)))) (wNil)))) (wName 3))
    (wSeq (wSIf (wTest (wOp uEq (wVar 0) (wC (.str (PySem.Str.ofString "+"))))) (wRet (wCall W__law_made (wCons (wU (wOp uAdd (wOp uIx (wVar 1) (wC (.int 0))) (wOp uIx (wVar 2) (wC (.int 0))))) (wCons (wU (wOp uAdd (wOp uIx (wVar 1) (wC (.int 1))) (wOp uIx (wVar 2) (wC (.int 1))))) (wCons (wU (wVar 3)) (wNil)))))) (wNext))
    (wSeq (wSIf (wTest (wOp uEq (wVar 0) (wC (.str (PySem.Str.ofString "-"))))) (wRet (wCall W__law_made (wCons (wU (wOp uSub (wOp uIx (wVar 1) (wC (.int 0))) (wOp uIx (wVar 2) (wC (.int 1))))) (wCons (wU (wOp uSub (wOp uIx (wVar 1) (wC (.int 1))) (wOp uIx (wVar 2) (wC (.int 0))))) (wCons (wU (wVar 3)) (wNil)))))) (wNext))
    (wSeq (wSIf (wTest (wOp uEq (wVar 0) (wC (.str (PySem.Str.ofString "*"))))) (wSeq (wAsg (wLc (wItems (wCall W__law_pairs (wCons (wU (wSl uSl (wVar 1) (wONone) (wOSome (wC (.int 2))))) (wCons (wU (wSl uSl (wVar 2) (wONone) (wOSome (wC (.int 2))))) (wNil))))) (wName 5) wYes (wOp uMul (wOp uIx (wVar 5) (wC (.int 0))) (wOp uIx (wVar 5) (wC (.int 1)))) [5]) (wName 4))
      (wSeq (wAsg (wCall W__law_divisor (wCons (wU (wCall W__law_divisor (wCons (wU (wOp uMul (wOp uIx (wVar 1) (wC (.int 0))) (wOp uIx (wVar 2) (wC (.int 2))))) (wCons (wU (wOp uMul (wOp uIx (wVar 2) (wC (.int 0))) (wOp uIx (wVar 1) (wC (.int 2))))) (wNil))))) (wCons (wU (wOp uMul (wOp uIx (wVar 1) (wC (.int 2))) (wOp uIx (wVar 2) (wC (.int 2))))) (wNil)))) (wName 3))
      (wRet (wCall W__law_made (wCons (wU (wCB uMinL (wCons (wVar 4) (wNil)))) (wCons (wU (wCB uMaxL (wCons (wVar 4) (wNil)))) (wCons (wU (wVar 3)) (wNil)))))))) (wNext))
    (wSeq (wSIf (wTest (wOp uEq (wVar 0) (wC (.str (PySem.Str.ofString "mod"))))) (wRet (wCall W__law_rest (wCons (wU (wVar 1)) (wCons (wU (wVar 2)) (wNil))))) (wNext))
    (wSeq (wAsg (wLc (wItems (wCall W__law_pairs (wCons (wU (wSl uSl (wVar 1) (wONone) (wOSome (wC (.int 2))))) (wCons (wU (wCall W__law_parts (wCons (wU (wVar 2)) (wNil)))) (wNil))))) (wName 5) wYes (wCall W__law_results (wCons (wU (wC (.str (PySem.Str.ofString "/")))) (wCons (wU (wOp uIx (wVar 5) (wC (.int 0)))) (wCons (wU (wOp uIx (wVar 5) (wC (.int 1)))) (wNil))))) [5]) (wName 4))
    (wSeq (wSIf (wTest (wOp uEq (wCB uLen (wCons (wVar 4) (wNil))) (wC (.int 0)))) (wRet (wC .non)) (wNext))
    (wRet (wCall W__law_made (wCons (wU (wCB uMinL (wCons (wVar 4) (wNil)))) (wCons (wU (wCB uMaxL (wCons (wVar 4) (wNil)))) (wCons (wU (wC (.int 1))) (wNil))))))))))))
abbrev N__law_raw : List Str := [PySem.Str.ofString "sign", PySem.Str.ofString "first", PySem.Str.ofString "second", PySem.Str.ofString "step", PySem.Str.ofString "ends", PySem.Str.ofString "pair"]
theorem rn__law_raw {a0 a1 a2 : D} : rho0 N__law_raw [a0, a1, a2] = [some a0, some a1, some a2, none, none, none] := rfl
theorem sc__law_raw : FnScope N__law_raw [PySem.Str.ofString "sign", PySem.Str.ofString "first", PySem.Str.ofString "second"] (defScope s__law_raw) := ⟨rfl, rfl, rfl, by decide +kernel, rfl, by decide +kernel, by decide +kernel⟩
def Φ__law_raw : List D → PM → Out D := Pd.run 3 N__law_raw (g__law_raw Φ__law_divisor Φ__law_made Φ__law_pairs Φ__law_rest Φ__law_parts Φ__law_results)
def W__law_raw : List X → W U := wrun 3 6 (w__law_raw W__law_divisor W__law_made W__law_pairs W__law_rest W__law_parts W__law_results)
theorem nx__law_raw (xs : List X) : noX (W__law_raw xs) = W__law_raw xs := noX_wrun
theorem ok__law_raw {P : Program} {w : World} {K : PySem.W.Frag} {mg : Str → Option Value} {base : Heap} (F : FunM K mg "_law_raw" s__law_raw [PySem.Str.ofString "sign", PySem.Str.ofString "first", PySem.Str.ofString "second"]) {Φ__law_divisor : List D → PM → Out D} (C__law_divisor : Callee P w K mg base "_law_divisor" 1 Φ__law_divisor) {Φ__law_made : List D → PM → Out D} (C__law_made : Callee P w K mg base "_law_made" 1 Φ__law_made) {Φ__law_pairs : List D → PM → Out D} (C__law_pairs : Callee P w K mg base "_law_pairs" 1 Φ__law_pairs) {Φ__law_rest : List D → PM → Out D} (C__law_rest : Callee P w K mg base "_law_rest" 2 Φ__law_rest) {Φ__law_parts : List D → PM → Out D} (C__law_parts : Callee P w K mg base "_law_parts" 1 Φ__law_parts) {Φ__law_results : List D → PM → Out D} (C__law_results : Callee P w K mg base "_law_results" 1 Φ__law_results) (m_max : mg "max" = none) (m_min : mg "min" = none) (m_len : mg "len" = none) :
    Callee P w K mg base "_law_raw" 3 (Pd.run 3 N__law_raw (g__law_raw Φ__law_divisor Φ__law_made Φ__law_pairs Φ__law_rest Φ__law_parts Φ__law_results)) := by
  refine callee_run F sc__law_raw rfl fun f cdv A outer s H E hr => ?_
  have nd := sc__law_raw.nd
  exact pdb_cons (pds_set 3 (pd_callC C__law_divisor (hr.mono (by decide)) rfl (pda_cons (pd_ix (pd_var 1) (pd_int)) (pda_cons (pd_ix (pd_var 2) (pd_int)) (pda_nil)))) nd)
    (pdb_cons (pds_if (pdt_cmp o_eq (pd_var 0) (pd_str) (nomark _)) (pdb_one (pds_ret (pd_callC C__law_made (hr.mono (by decide)) rfl (pda_cons (pd_op o_add (pd_ix (pd_var 1) (pd_int)) (pd_ix (pd_var 2) (pd_int))) (pda_cons (pd_op o_add (pd_ix (pd_var 1) (pd_int)) (pd_ix (pd_var 2) (pd_int))) (pda_cons (pd_var 3) (pda_nil))))))) (pdb_nil))
    (pdb_cons (pds_if (pdt_cmp o_eq (pd_var 0) (pd_str) (nomark _)) (pdb_one (pds_ret (pd_callC C__law_made (hr.mono (by decide)) rfl (pda_cons (pd_op o_sub (pd_ix (pd_var 1) (pd_int)) (pd_ix (pd_var 2) (pd_int))) (pda_cons (pd_op o_sub (pd_ix (pd_var 1) (pd_int)) (pd_ix (pd_var 2) (pd_int))) (pda_cons (pd_var 3) (pda_nil))))))) (pdb_nil))
    (pdb_cons (pds_if (pdt_cmp o_eq (pd_var 0) (pd_str) (nomark _)) (pdb_cons (pds_setLc (own := [((PySem.Str.ofString "pair"), 5)]) 4 rfl nd rfl (by rfl) (pdi_any (pd_callC C__law_pairs (hr.mono (by decide)) rfl (pda_cons (pd_sl (pd_var 1) (pdo_none) (pdo_some (pd_int))) (pda_cons (pd_sl (pd_var 2) (pdo_none) (pdo_some (pd_int))) (pda_nil))))) (blkOk_by (N := N__law_raw) (sc := defScope s__law_raw) (by decide +kernel)) (by decide) (fun _ _ _ _ _ => pg_name (i := 5) nd rfl (Or.inl rfl)) (fun _ _ _ _ _ => pd_op o_mul (pd_ix (pd_var 5) (pd_int)) (pd_ix (pd_var 5) (pd_int))))
      (pdb_cons (pds_set 3 (pd_callC C__law_divisor (hr.mono (by decide)) rfl (pda_cons (pd_callC C__law_divisor (hr.mono (by decide)) rfl (pda_cons (pd_op o_mul (pd_ix (pd_var 1) (pd_int)) (pd_ix (pd_var 2) (pd_int))) (pda_cons (pd_op o_mul (pd_ix (pd_var 2) (pd_int)) (pd_ix (pd_var 1) (pd_int))) (pda_nil)))) (pda_cons (pd_op o_mul (pd_ix (pd_var 1) (pd_int)) (pd_ix (pd_var 2) (pd_int))) (pda_nil)))) nd)
      (pdb_one (pds_ret (pd_callC C__law_made (hr.mono (by decide)) rfl (pda_cons (pd_callB (b_minL rfl) rfl m_min (by decide +kernel) (pda_cons (pd_var 4) (pda_nil))) (pda_cons (pd_callB (b_maxL rfl) rfl m_max (by decide +kernel) (pda_cons (pd_var 4) (pda_nil))) (pda_cons (pd_var 3) (pda_nil))))))))) (pdb_nil))
    (pdb_cons (pds_if (pdt_cmp o_eq (pd_var 0) (pd_str) (nomark _)) (pdb_one (pds_ret (pd_callC C__law_rest (hr.mono (by decide)) rfl (pda_cons (pd_var 1) (pda_cons (pd_var 2) (pda_nil)))))) (pdb_nil))
    (pdb_cons (pds_setLc (own := [((PySem.Str.ofString "pair"), 5)]) 4 rfl nd rfl (by rfl) (pdi_any (pd_callC C__law_pairs (hr.mono (by decide)) rfl (pda_cons (pd_sl (pd_var 1) (pdo_none) (pdo_some (pd_int))) (pda_cons (pd_callC C__law_parts (hr.mono (by decide)) rfl (pda_cons (pd_var 2) (pda_nil))) (pda_nil))))) (blkOk_by (N := N__law_raw) (sc := defScope s__law_raw) (by decide +kernel)) (by decide) (fun _ _ _ _ _ => pg_name (i := 5) nd rfl (Or.inl rfl)) (fun _ _ _ _ _ => pd_callC C__law_results (hr.mono (by decide)) rfl (pda_cons (pd_str) (pda_cons (pd_ix (pd_var 5) (pd_int)) (pda_cons (pd_ix (pd_var 5) (pd_int)) (pda_nil))))))
    (pdb_cons (pds_if (pdt_cmp o_eq (pd_callB b_len rfl m_len (by decide +kernel) (pda_cons (pd_var 4) (pda_nil))) (pd_int) (nomark _)) (pdb_one (pds_ret (pd_non))) (pdb_nil))
    (pdb_one (pds_ret (pd_callC C__law_made (hr.mono (by decide)) rfl (pda_cons (pd_callB (b_minL rfl) rfl m_min (by decide +kernel) (pda_cons (pd_var 4) (pda_nil))) (pda_cons (pd_callB (b_maxL rfl) rfl m_max (by decide +kernel) (pda_cons (pd_var 4) (pda_nil))) (pda_cons (pd_int) (pda_nil)))))))))))))
/-! ### _law_has -/
abbrev s__law_has : Stmt := topS 30
def g__law_has : FS :=
    sRet (pAndV (pCh gLe gLe (pOp gIx (pVar 0) (pC (.int 0))) (pVar 1) (pOp gIx (pVar 0) (pC (.int 1)))) (pOp gEq (pOp gMod (pCB bInt (aCons (pOp gSub (pVar 1) (pOp gIx (pVar 0) (pC (.int 0)))) (aNil))) (pCB bMax2 (aCons (pC (.int 1)) (aCons (pOp gIx (pVar 0) (pC (.int 2))) (aNil))))) (pC (.int 0))))
def w__law_has : WS :=
    wRet (wAndV (wCh uLe uLe (wOp uIx (wVar 0) (wC (.int 0))) (wVar 1) (wOp uIx (wVar 0) (wC (.int 1)))) (wOp uEq (wOp uMod (wCB uInt (wCons (wOp uSub (wVar 1) (wOp uIx (wVar 0) (wC (.int 0)))) (wNil))) (wCB uMax2 (wCons (wC (.int 1)) (wCons (wOp uIx (wVar 0) (wC (.int 2))) (wNil))))) (wC (.int 0))))
abbrev N__law_has : List Str := [PySem.Str.ofString "one", PySem.Str.ofString "number"]
theorem rn__law_has {a0 a1 : D} : rho0 N__law_has [a0, a1] = [some a0, some a1] := rfl
theorem sc__law_has : FnScope N__law_has [PySem.Str.ofString "one", PySem.Str.ofString "number"] (defScope s__law_has) := ⟨rfl, rfl, rfl, by decide +kernel, rfl, by decide +kernel, by decide +kernel⟩
def Φ__law_has : List D → PM → Out D := Pd.run 2 N__law_has (g__law_has)
def W__law_has : List X → W U := wrun 2 2 (w__law_has)
theorem nx__law_has (xs : List X) : noX (W__law_has xs) = W__law_has xs := noX_wrun
theorem ok__law_has {P : Program} {w : World} {K : PySem.W.Frag} {mg : Str → Option Value} {base : Heap} (F : FunM K mg "_law_has" s__law_has [PySem.Str.ofString "one", PySem.Str.ofString "number"]) (m_int : mg "int" = none) (m_max : mg "max" = none) :
    Callee P w K mg base "_law_has" 1 (Pd.run 2 N__law_has (g__law_has)) := by
  refine callee_run F sc__law_has rfl fun f cdv A outer s H E hr => ?_
  have nd := sc__law_has.nd
  exact pdb_one (pds_ret (pd_and (pd_chain o_le o_le (pd_ix (pd_var 0) (pd_int)) (pd_var 1) (pd_ix (pd_var 0) (pd_int))) (pd_one (pd_cmp o_eq (pd_op o_mod (pd_callT b_int rfl m_int (by decide +kernel) (pda_cons (pd_op o_sub (pd_var 1) (pd_ix (pd_var 0) (pd_int))) (pda_nil))) (pd_callB (b_max2 rfl) rfl m_max (by decide +kernel) (pda_cons (pd_int) (pda_cons (pd_ix (pd_var 0) (pd_int)) (pda_nil))))) (pd_int) (nomark _)))))
/-! ### _law_due -/
abbrev s__law_due : Stmt := topS 31
def g__law_due (Φ__law_has : List D → PM → Out D) (Φ__law_raw : List D → PM → Out D) (Φ__law_made : List D → PM → Out D) : FS :=
    sSeq (sAsg (pTup (aNil)) (fName 3))
    (sSeq (sIf (pAnd (pTest (pOp gIn (pVar 0) (pTup (aCons (pC (.str (PySem.Str.ofString "/"))) (aCons (pC (.str (PySem.Str.ofString "mod"))) (aNil)))))) (pTest (pCall Φ__law_has (aCons (pVar 2) (aCons (pC (.int 0)) (aNil)))))) (sAsg (pTup (aCons (pC (.str (PySem.Str.ofString "division"))) (aNil))) (fName 3)) (sNext))
    (sSeq (sAsg (pCall Φ__law_raw (aCons (pVar 0) (aCons (pVar 1) (aCons (pVar 2) (aNil))))) (fName 4))
    (sSeq (sIf (pTest (pOp gIs2 (pVar 4) (pC .non))) (sRet (pTup (aCons (pC .non) (aCons (pVar 3) (aNil))))) (sNext))
    (sSeq (sAsg (pVar 4) (fTup 3 (fCons (fName 5) (fCons (fName 6) (fCons (fName 7) (fNil))))))
    (sSeq (sIf (pOr (pTest (pOp gLt (pVar 5) (pUn gNeg (pC (.int 10000))))) (pTest (pOp gGt (pVar 6) (pC (.int 10000))))) (sAsg (pOp gAdd (pVar 3) (pTup (aCons (pC (.str (PySem.Str.ofString "overflow"))) (aNil)))) (fName 3)) (sNext))
    (sSeq (sIf (pTest (pOp gLt (pVar 5) (pUn gNeg (pC (.int 10000))))) (sAsg (pOp gAdd (pVar 5) (pOp gMul (pOp gFdiv (pOp gSub (pOp gAdd (pOp gSub (pOp gSub (pC (.int 0)) (pC (.int 10000))) (pVar 5)) (pVar 7)) (pC (.int 1))) (pCB bMax2 (aCons (pC (.int 1)) (aCons (pVar 7) (aNil))))) (pVar 7))) (fName 5)) (sNext))
    (sSeq (sIf (pTest (pOp gGt (pVar 6) (pC (.int 10000)))) (sAsg (pOp gSub (pVar 6) (pOp gMul (pOp gFdiv (pOp gSub (pOp gAdd (pOp gSub (pVar 6) (pC (.int 10000))) (pVar 7)) (pC (.int 1))) (pCB bMax2 (aCons (pC (.int 1)) (aCons (pVar 7) (aNil))))) (pVar 7))) (fName 6)) (sNext))
    (sSeq (sIf (pOr (pAnd (pTest (pOp gEq (pOp gIx (pVar 4) (pC (.int 2))) (pC (.int 0)))) (pTest (pOp gEqQ (pSl gSl (pVar 3) (oSome (pUn gNeg (pC (.int 1)))) (oNone)) (pTup (aCons (pC (.str (PySem.Str.ofString "overflow"))) (aNil)))))) (pTest (pOp gGt (pVar 5) (pVar 6)))) (sRet (pTup (aCons (pC .non) (aCons (pVar 3) (aNil))))) (sNext))
    (sRet (pTup (aCons (pCall Φ__law_made (aCons (pVar 5) (aCons (pVar 6) (aCons (pVar 7) (aNil))))) (aCons (pVar 3) (aNil)))))))))))))
def w__law_due (W__law_has : List X → W U) (W__law_raw : List X → W U) (W__law_made : List X → W U) : WS :=
    wSeq (wAsg (wTup (wNil)) (wName 3))
    (wSeq (wSIf (wAnd (wTest (wOp uIn (wVar 0) (wTup (wCons (wC (.str (PySem.Str.ofString "/"))) (wCons (wC (.str (PySem.Str.ofString "mod"))) (wNil)))))) (wTest (wCall W__law_has (wCons (wU (wVar 2)) (wCons (wU (wC (.int 0))) (wNil)))))) (wAsg (wTup (wCons (wC (.str (PySem.Str.ofString "division"))) (wNil))) (wName 3)) (wNext))
    (wSeq (wAsg (wCall W__law_raw (wCons (wU (wVar 0)) (wCons (wU (wVar 1)) (wCons (wU (wVar 2)) (wNil))))) (wName 4))
    (wSeq (wSIf (wTest (wOp uIs (wVar 4) (wC .non))) (wRet (wTup (wCons (wC .non) (wCons (wVar 3) (wNil))))) (wNext))
    (wSeq (wAsg (wVar 4) (wUnp 3 (wTCons (wName 5) (wTCons (wName 6) (wTCons (wName 7) (wTNil))))))
    (wSeq (wSIf (wOr (wTest (wOp uLt (wVar 5) (wUn uNeg (wC (.int 10000))))) (wTest (wOp uGt (wVar 6) (wC (.int 10000))))) (wAsg (wOp uAdd (wVar 3) (wTup (wCons (wC (.str (PySem.Str.ofString "overflow"))) (wNil)))) (wName 3)) (wNext))
    (wSeq (wSIf (wTest (wOp uLt (wVar 5) (wUn uNeg (wC (.int 10000))))) (wAsg (wOp uAdd (wVar 5) (wOp uMul (wOp uFdiv (wOp uSub (wOp uAdd (wOp uSub (wOp uSub (wC (.int 0)) (wC (.int 10000))) (wVar 5)) (wVar 7)) (wC (.int 1))) (wCB uMax2 (wCons (wC (.int 1)) (wCons (wVar 7) (wNil))))) (wVar 7))) (wName 5)) (wNext))
    (wSeq (wSIf (wTest (wOp uGt (wVar 6) (wC (.int 10000)))) (wAsg (wOp uSub (wVar 6) (wOp uMul (wOp uFdiv (wOp uSub (wOp uAdd (wOp uSub (wVar 6) (wC (.int 10000))) (wVar 7)) (wC (.int 1))) (wCB uMax2 (wCons (wC (.int 1)) (wCons (wVar 7) (wNil))))) (wVar 7))) (wName 6)) (wNext))
    (wSeq (wSIf (wOr (wAnd (wTest (wOp uEq (wOp uIx (wVar 4) (wC (.int 2))) (wC (.int 0)))) (wTest (wOp uEqQ (wSl uSl (wVar 3) (wOSome (wUn uNeg (wC (.int 1)))) (wONone)) (wTup (wCons (wC (.str (PySem.Str.ofString "overflow"))) (wNil)))))) (wTest (wOp uGt (wVar 5) (wVar 6)))) (wRet (wTup (wCons (wC .non) (wCons (wVar 3) (wNil))))) (wNext))
    (wRet (wTup (wCons (wCall W__law_made (wCons (wU (wVar 5)) (wCons (wU (wVar 6)) (wCons (wU (wVar 7)) (wNil))))) (wCons (wVar 3) (wNil)))))))))))))
abbrev N__law_due : List Str := [PySem.Str.ofString "sign", PySem.Str.ofString "first", PySem.Str.ofString "second", PySem.Str.ofString "kinds", PySem.Str.ofString "raw", PySem.Str.ofString "low", PySem.Str.ofString "high", PySem.Str.ofString "step"]
theorem rn__law_due {a0 a1 a2 : D} : rho0 N__law_due [a0, a1, a2] = [some a0, some a1, some a2, none, none, none, none, none] := rfl
theorem sc__law_due : FnScope N__law_due [PySem.Str.ofString "sign", PySem.Str.ofString "first", PySem.Str.ofString "second"] (defScope s__law_due) := ⟨rfl, rfl, rfl, by decide +kernel, rfl, by decide +kernel, by decide +kernel⟩
def Φ__law_due : List D → PM → Out D := Pd.run 3 N__law_due (g__law_due Φ__law_has Φ__law_raw Φ__law_made)
def W__law_due : List X → W U := wrun 3 8 (w__law_due W__law_has W__law_raw W__law_made)
theorem nx__law_due (xs : List X) : noX (W__law_due xs) = W__law_due xs := noX_wrun
theorem ok__law_due {P : Program} {w : World} {K : PySem.W.Frag} {mg : Str → Option Value} {base : Heap} (F : FunM K mg "_law_due" s__law_due [PySem.Str.ofString "sign", PySem.Str.ofString "first", PySem.Str.ofString "second"]) {Φ__law_has : List D → PM → Out D} (C__law_has : Callee P w K mg base "_law_has" 1 Φ__law_has) {Φ__law_raw : List D → PM → Out D} (C__law_raw : Callee P w K mg base "_law_raw" 3 Φ__law_raw) {Φ__law_made : List D → PM → Out D} (C__law_made : Callee P w K mg base "_law_made" 1 Φ__law_made) (m_max : mg "max" = none) :
    Callee P w K mg base "_law_due" 4 (Pd.run 3 N__law_due (g__law_due Φ__law_has Φ__law_raw Φ__law_made)) := by
  refine callee_run F sc__law_due rfl fun f cdv A outer s H E hr => ?_
  have nd := sc__law_due.nd
  exact pdb_cons (pds_set 3 (pd_tup (pda_nil)) nd)
    (pdb_cons (pds_if (pdt_w (pdw_and (pdt_cmp o_in (pd_var 0) (pd_tup (pda_cons (pd_str) (pda_cons (pd_str) (pda_nil)))) (by rfl)) (pdw_and1 (pdt_val (pd_callC C__law_has (hr.mono (by decide)) rfl (pda_cons (pd_var 2) (pda_cons (pd_int) (pda_nil)))))))) (pdb_one (pds_set 3 (pd_tup (pda_cons (pd_str) (pda_nil))) nd)) (pdb_nil))
    (pdb_cons (pds_set 4 (pd_callC C__law_raw (hr.mono (by decide)) rfl (pda_cons (pd_var 0) (pda_cons (pd_var 1) (pda_cons (pd_var 2) (pda_nil))))) nd)
    (pdb_cons (pds_if (pdt_cmp o_is2 (pd_var 4) (pd_non) (nomark _)) (pdb_one (pds_ret (pd_tup (pda_cons (pd_non) (pda_cons (pd_var 3) (pda_nil)))))) (pdb_nil))
    (pdb_cons (pds_asg (pd_var 4) (pdg_tup rfl (pdgs_cons (pdg_name (i := 5) nd) (pdgs_cons (pdg_name (i := 6) nd) (pdgs_cons (pdg_name (i := 7) nd) (pdgs_nil))))))
    (pdb_cons (pds_if (pdt_w (pdw_or (pdt_cmp o_lt (pd_var 5) (pd_neg (pd_int)) (nomark _)) (pdw_or1 (pdt_cmp o_gt (pd_var 6) (pd_int) (nomark _))))) (pdb_one (pds_set 3 (pd_op o_add (pd_var 3) (pd_tup (pda_cons (pd_str) (pda_nil)))) nd)) (pdb_nil))
    (pdb_cons (pds_if (pdt_cmp o_lt (pd_var 5) (pd_neg (pd_int)) (nomark _)) (pdb_one (pds_set 5 (pd_op o_add (pd_var 5) (pd_op o_mul (pd_op o_fdiv (pd_op o_sub (pd_op o_add (pd_op o_sub (pd_op o_sub (pd_int) (pd_int)) (pd_var 5)) (pd_var 7)) (pd_int)) (pd_callB (b_max2 rfl) rfl m_max (by decide +kernel) (pda_cons (pd_int) (pda_cons (pd_var 7) (pda_nil))))) (pd_var 7))) nd)) (pdb_nil))
    (pdb_cons (pds_if (pdt_cmp o_gt (pd_var 6) (pd_int) (nomark _)) (pdb_one (pds_set 6 (pd_op o_sub (pd_var 6) (pd_op o_mul (pd_op o_fdiv (pd_op o_sub (pd_op o_add (pd_op o_sub (pd_var 6) (pd_int)) (pd_var 7)) (pd_int)) (pd_callB (b_max2 rfl) rfl m_max (by decide +kernel) (pda_cons (pd_int) (pda_cons (pd_var 7) (pda_nil))))) (pd_var 7))) nd)) (pdb_nil))
    (pdb_cons (pds_if (pdt_w (pdw_or (pdt_w (pdw_and (pdt_cmp o_eq (pd_ix (pd_var 4) (pd_int)) (pd_int) (nomark _)) (pdw_and1 (pdt_cmp (o_eqQ hr.units) (pd_sl (pd_var 3) (pdo_some (pd_neg (pd_int))) (pdo_none)) (pd_tup (pda_cons (pd_str) (pda_nil))) (nomark _))))) (pdw_or1 (pdt_cmp o_gt (pd_var 5) (pd_var 6) (nomark _))))) (pdb_one (pds_ret (pd_tup (pda_cons (pd_non) (pda_cons (pd_var 3) (pda_nil)))))) (pdb_nil))
    (pdb_one (pds_ret (pd_tup (pda_cons (pd_callC C__law_made (hr.mono (by decide)) rfl (pda_cons (pd_var 5) (pda_cons (pd_var 6) (pda_cons (pd_var 7) (pda_nil))))) (pda_cons (pd_var 3) (pda_nil))))))))))))))
/-! ### _law_sound -/
abbrev s__law_sound : Stmt := topS 32
def lb__law_sound_1 (Φ__law_results : List D → PM → Out D) (Φ__law_has : List D → PM → Out D) : FS :=
    sSeq (sAsg (pCall Φ__law_results (aCons (pVar 0) (aCons (pVar 4) (aCons (pVar 7) (aNil))))) (fName 8))
        (sIf (pTest (pOp gIs2 (pVar 8) (pC .non))) (sIf (pTest (pOp gNotIn (pC (.str (PySem.Str.ofString "division"))) (pVar 6))) (sRet (pC (.bl false))) (sNext)) (sIf (pNot (pTest (pCh gLe gLe (pUn gNeg (pC (.int 10000))) (pVar 8) (pC (.int 10000))))) (sIf (pTest (pOp gNotIn (pC (.str (PySem.Str.ofString "overflow"))) (pVar 6))) (sRet (pC (.bl false))) (sNext)) (sIf (pOr (pTest (pOp gIs2 (pVar 5) (pC .non))) (pNot (pTest (pCall Φ__law_has (aCons (pVar 5) (aCons (pVar 8) (aNil))))))) (sRet (pC (.bl false))) (sNext))))
def wb__law_sound_1 (W__law_results : List X → W U) (W__law_has : List X → W U) : WS :=
    wSeq (wAsg (wCall W__law_results (wCons (wU (wVar 0)) (wCons (wU (wVar 4)) (wCons (wU (wVar 7)) (wNil))))) (wName 8))
        (wSIf (wTest (wOp uIs (wVar 8) (wC .non))) (wSIf (wTest (wOp uNotIn (wC (.str (PySem.Str.ofString "division"))) (wVar 6))) (wRet (wC (.bl false))) (wNext)) (wSIf (wNot (wTest (wCh uLe uLe (wUn uNeg (wC (.int 10000))) (wVar 8) (wC (.int 10000))))) (wSIf (wTest (wOp uNotIn (wC (.str (PySem.Str.ofString "overflow"))) (wVar 6))) (wRet (wC (.bl false))) (wNext)) (wSIf (wOr (wTest (wOp uIs (wVar 5) (wC .non))) (wNot (wTest (wCall W__law_has (wCons (wU (wVar 5)) (wCons (wU (wVar 8)) (wNil))))))) (wRet (wC (.bl false))) (wNext))))
def lb__law_sound_2 (Φ__law_results : List D → PM → Out D) (Φ__law_has : List D → PM → Out D) : FS :=
    sFor (pItems (pVar 3)) (fName 7) (lb__law_sound_1 Φ__law_results Φ__law_has)
def wb__law_sound_2 (W__law_results : List X → W U) (W__law_has : List X → W U) : WS :=
    wFor (wItems (wVar 3)) (wName 7) (wb__law_sound_1 W__law_results W__law_has) [7, 8]
def g__law_sound (Φ__law_results : List D → PM → Out D) (Φ__law_has : List D → PM → Out D) : FS :=
    sSeq (sAsg (pVar 1) (fTup 2 (fCons (fName 5) (fCons (fName 6) (fNil)))))
    (sSeq (sFor (pItems (pVar 2)) (fName 4) (lb__law_sound_2 Φ__law_results Φ__law_has))
    (sRet (pC (.bl true))))
def w__law_sound (W__law_results : List X → W U) (W__law_has : List X → W U) : WS :=
    wSeq (wAsg (wVar 1) (wUnp 2 (wTCons (wName 5) (wTCons (wName 6) (wTNil)))))
    (wSeq (wFor (wItems (wVar 2)) (wName 4) (wb__law_sound_2 W__law_results W__law_has) [4, 7, 8])
    (wRet (wC (.bl true))))
abbrev N__law_sound : List Str := [PySem.Str.ofString "sign", PySem.Str.ofString "told", PySem.Str.ofString "lefts", PySem.Str.ofString "rights", PySem.Str.ofString "left", PySem.Str.ofString "found", PySem.Str.ofString "kinds", PySem.Str.ofString "right", PySem.Str.ofString "result"]
theorem rn__law_sound {a0 a1 a2 a3 : D} : rho0 N__law_sound [a0, a1, a2, a3] = [some a0, some a1, some a2, some a3, none, none, none, none, none] := rfl
theorem sc__law_sound : FnScope N__law_sound [PySem.Str.ofString "sign", PySem.Str.ofString "told", PySem.Str.ofString "lefts", PySem.Str.ofString "rights"] (defScope s__law_sound) := ⟨rfl, rfl, rfl, by decide +kernel, rfl, by decide +kernel, by decide +kernel⟩
def Φ__law_sound : List D → PM → Out D := Pd.run 4 N__law_sound (g__law_sound Φ__law_results Φ__law_has)
def W__law_sound : List X → W U := wrun 4 9 (w__law_sound W__law_results W__law_has)
theorem nx__law_sound (xs : List X) : noX (W__law_sound xs) = W__law_sound xs := noX_wrun
theorem ok__law_sound {P : Program} {w : World} {K : PySem.W.Frag} {mg : Str → Option Value} {base : Heap} (F : FunM K mg "_law_sound" s__law_sound [PySem.Str.ofString "sign", PySem.Str.ofString "told", PySem.Str.ofString "lefts", PySem.Str.ofString "rights"]) {Φ__law_results : List D → PM → Out D} (C__law_results : Callee P w K mg base "_law_results" 1 Φ__law_results) {Φ__law_has : List D → PM → Out D} (C__law_has : Callee P w K mg base "_law_has" 1 Φ__law_has) :
    Callee P w K mg base "_law_sound" 2 (Pd.run 4 N__law_sound (g__law_sound Φ__law_results Φ__law_has)) := by
  refine callee_run F sc__law_sound rfl fun f cdv A outer s H E hr => ?_
  have nd := sc__law_sound.nd
  exact pdb_cons (pds_asg (pd_var 1) (pdg_tup rfl (pdgs_cons (pdg_name (i := 5) nd) (pdgs_cons (pdg_name (i := 6) nd) (pdgs_nil)))))
    (pdb_cons (pds_for PassesOwn.never rfl (pdi_any (pd_var 2)) (pdg_name (i := 4) nd) (pdb_one (pds_for PassesOwn.never rfl (pdi_any (pd_var 3)) (pdg_name (i := 7) nd) (pdb_cons (pds_set 8 (pd_callC C__law_results (hr.mono (by decide)) rfl (pda_cons (pd_var 0) (pda_cons (pd_var 4) (pda_cons (pd_var 7) (pda_nil))))) nd)
        (pdb_one (pds_if (pdt_cmp o_is2 (pd_var 8) (pd_non) (nomark _)) (pdb_one (pds_if (pdt_cmp o_notIn (pd_str) (pd_var 6) (by rfl)) (pdb_one (pds_ret (pd_bl))) (pdb_nil))) (pdb_one (pds_if (pdt_not (pdt_chain o_le o_le (pd_neg (pd_int)) (pd_var 8) (pd_int))) (pdb_one (pds_if (pdt_cmp o_notIn (pd_str) (pd_var 6) (by rfl)) (pdb_one (pds_ret (pd_bl))) (pdb_nil))) (pdb_one (pds_if (pdt_w (pdw_or (pdt_cmp o_is2 (pd_var 5) (pd_non) (nomark _)) (pdw_or1 (pdt_not (pdt_val (pd_callC C__law_has (hr.mono (by decide)) rfl (pda_cons (pd_var 5) (pda_cons (pd_var 8) (pda_nil))))))))) (pdb_one (pds_ret (pd_bl))) (pdb_nil)))))))))))
    (pdb_one (pds_ret (pd_bl))))
/-! ### _law_some -/
abbrev s__law_some : Stmt := topS 33
def g__law_some (Φ__law_next : List D → PM → Out D) : FS :=
    sSeq (sAsg (pC (.int 0)) (fName 3))
    (sSeq (sIf (pTest (pOp gGt (pOp gIx (pVar 2) (pC (.int 2))) (pC (.int 0)))) (sAsg (pOp gFdiv (pOp gSub (pOp gIx (pVar 2) (pC (.int 1))) (pOp gIx (pVar 2) (pC (.int 0)))) (pOp gIx (pVar 2) (pC (.int 2)))) (fName 3)) (sNext))
    (sRet (pOp gAdd (pLst (aCons (pOp gIx (pVar 2) (pC (.int 0))) (aCons (pOp gIx (pVar 2) (pC (.int 1))) (aNil)))) (pLc (pRng1 (aCons (pC (.int 2)) (aNil))) (fName 4) pYes (pOp gAdd (pOp gIx (pVar 2) (pC (.int 0))) (pOp gMul (pOp gIx (pVar 2) (pC (.int 2))) (pCall Φ__law_next (aCons (pVar 0) (aCons (pVar 1) (aCons (pOp gAdd (pVar 3) (pC (.int 1))) (aNil))))))) [4]))))
def w__law_some (W__law_next : List X → W U) : WS :=
    wSeq (wAsg (wC (.int 0)) (wName 3))
    (wSeq (wSIf (wTest (wOp uGt (wOp uIx (wVar 2) (wC (.int 2))) (wC (.int 0)))) (wAsg (wOp uFdiv (wOp uSub (wOp uIx (wVar 2) (wC (.int 1))) (wOp uIx (wVar 2) (wC (.int 0)))) (wOp uIx (wVar 2) (wC (.int 2)))) (wName 3)) (wNext))
    (wRet (wOp uAdd (wLst (wCons (wOp uIx (wVar 2) (wC (.int 0))) (wCons (wOp uIx (wVar 2) (wC (.int 1))) (wNil)))) (wLc (wRng1 (wCons (wC (.int 2)) (wNil))) (wName 4) wYes (wOp uAdd (wOp uIx (wVar 2) (wC (.int 0))) (wOp uMul (wOp uIx (wVar 2) (wC (.int 2))) (wCall W__law_next (wCons (wU (wVar 0)) (wCons (wU (wVar 1)) (wCons (wU (wOp uAdd (wVar 3) (wC (.int 1)))) (wNil))))))) [4]))))
abbrev N__law_some : List Str := [PySem.Str.ofString "state", PySem.Str.ofString "script", PySem.Str.ofString "one", PySem.Str.ofString "count", PySem.Str.ofString "k"]
theorem rn__law_some {a0 a1 a2 : D} : rho0 N__law_some [a0, a1, a2] = [some a0, some a1, some a2, none, none] := rfl
theorem sc__law_some : FnScope N__law_some [PySem.Str.ofString "state", PySem.Str.ofString "script", PySem.Str.ofString "one"] (defScope s__law_some) := ⟨rfl, rfl, rfl, by decide +kernel, rfl, by decide +kernel, by decide +kernel⟩
def Φ__law_some : List D → PM → Out D := Pd.run 3 N__law_some (g__law_some Φ__law_next)
def W__law_some : List X → W U := wrun 3 5 (w__law_some W__law_next)
theorem nx__law_some (xs : List X) : noX (W__law_some xs) = W__law_some xs := noX_wrun
theorem ok__law_some {P : Program} {w : World} {K : PySem.W.Frag} {mg : Str → Option Value} {base : Heap} (F : FunM K mg "_law_some" s__law_some [PySem.Str.ofString "state", PySem.Str.ofString "script", PySem.Str.ofString "one"]) {Φ__law_next : List D → PM → Out D} (C__law_next : Callee P w K mg base "_law_next" 1 Φ__law_next) (m_range : mg "range" = none) :
    Callee P w K mg base "_law_some" 2 (Pd.run 3 N__law_some (g__law_some Φ__law_next)) := by
  refine callee_run F sc__law_some rfl fun f cdv A outer s H E hr => ?_
  have nd := sc__law_some.nd
  exact pdb_cons (pds_set 3 (pd_int) nd)
    (pdb_cons (pds_if (pdt_cmp o_gt (pd_ix (pd_var 2) (pd_int)) (pd_int) (nomark _)) (pdb_one (pds_set 3 (pd_op o_fdiv (pd_op o_sub (pd_ix (pd_var 2) (pd_int)) (pd_ix (pd_var 2) (pd_int))) (pd_ix (pd_var 2) (pd_int))) nd)) (pdb_nil))
    (pdb_one (pds_ret (pd_op o_add (pd_lst (pda_cons (pd_ix (pd_var 2) (pd_int)) (pda_cons (pd_ix (pd_var 2) (pd_int)) (pda_nil)))) (pd_lc (own := [((PySem.Str.ofString "k"), 4)]) rfl nd (pdi_rng1 rfl m_range (pda_cons (pd_int) (pda_nil))) (blkOk_by (N := N__law_some) (sc := defScope s__law_some) (by decide +kernel)) (by decide) (fun _ _ _ _ _ => pg_name (i := 4) nd rfl (Or.inl rfl)) (fun _ _ _ _ _ => pd_op o_add (pd_ix (pd_var 2) (pd_int)) (pd_op o_mul (pd_ix (pd_var 2) (pd_int)) (pd_callC C__law_next (hr.mono (by decide)) rfl (pda_cons (pd_var 0) (pda_cons (pd_var 1) (pda_cons (pd_op o_add (pd_var 3) (pd_int)) (pda_nil))))))))))))
/-! ### law -/
abbrev s_law : Stmt := topS 34
def lb_law_1 (Φ__law_range : List D → PM → Out D) (Φ__law_next : List D → PM → Out D) (Φ_combine : List D → PM → Out D) (Φ__law_same : List D → PM → Out D) (Φ__law_due : List D → PM → Out D) (Φ__law_some : List D → PM → Out D) (Φ__law_members : List D → PM → Out D) (Φ__law_sound : List D → PM → Out D) : FS :=
    sSeq (sAsg (pCall Φ__law_range (aCons (pVar 1) (aCons (pVar 0) (aCons (pVar 3) (aNil))))) (fName 4))
        (sSeq (sAsg (pCall Φ__law_range (aCons (pVar 1) (aCons (pVar 0) (aCons (pAndV (pVar 3) (pOp gEq (pCall Φ__law_next (aCons (pVar 1) (aCons (pVar 0) (aCons (pC (.int 2)) (aNil))))) (pC (.int 0)))) (aNil))))) (fName 5))
        (sSeq (sAsg (pCall Φ_combine (aCons (pVar 2) (aCons (pVar 4) (aCons (pVar 5) (aNil))))) (fName 6))
        (sSeq (sIf (pNot (pTest (pCall Φ__law_same (aCons (pVar 6) (aCons (pCall Φ__law_due (aCons (pVar 2) (aCons (pVar 4) (aCons (pVar 5) (aNil))))) (aNil)))))) (sRet (pC (.bl false))) (sNext))
        (sSeq (sIf (pTest (pVar 3)) (sPar 7 8 (aCons (pCall Φ__law_some (aCons (pVar 1) (aCons (pVar 0) (aCons (pVar 4) (aNil))))) (aCons (pCall Φ__law_some (aCons (pVar 1) (aCons (pVar 0) (aCons (pVar 5) (aNil))))) (aNil)))) (sPar 7 8 (aCons (pCall Φ__law_members (aCons (pVar 4) (aNil))) (aCons (pCall Φ__law_members (aCons (pVar 5) (aNil))) (aNil)))))
        (sIf (pNot (pTest (pCall Φ__law_sound (aCons (pVar 2) (aCons (pVar 6) (aCons (pVar 7) (aCons (pVar 8) (aNil)))))))) (sRet (pC (.bl false))) (sNext))))))
def wb_law_1 (W__law_range : List X → W U) (W__law_next : List X → W U) (W_combine : List X → W U) (W__law_same : List X → W U) (W__law_due : List X → W U) (W__law_some : List X → W U) (W__law_members : List X → W U) (W__law_sound : List X → W U) : WS :=
    wSeq (wAsg (wCall W__law_range (wCons (wU (wVar 1)) (wCons (wU (wVar 0)) (wCons (wU (wVar 3)) (wNil))))) (wName 4))
        (wSeq (wAsg (wCall W__law_range (wCons (wU (wVar 1)) (wCons (wU (wVar 0)) (wCons (wU (wAndV (wVar 3) (wOp uEq (wCall W__law_next (wCons (wU (wVar 1)) (wCons (wU (wVar 0)) (wCons (wU (wC (.int 2))) (wNil))))) (wC (.int 0))))) (wNil))))) (wName 5))
        (wSeq (wAsg (wCall W_combine (wCons (wU (wVar 2)) (wCons (wU (wVar 4)) (wCons (wU (wVar 5)) (wNil))))) (wName 6))
        (wSeq (wSIf (wNot (wTest (wCall W__law_same (wCons (wU (wVar 6)) (wCons (wU (wCall W__law_due (wCons (wU (wVar 2)) (wCons (wU (wVar 4)) (wCons (wU (wVar 5)) (wNil)))))) (wNil)))))) (wRet (wC (.bl false))) (wNext))
        (wSeq (wSIf (wTest (wVar 3)) (wPar 7 8 (wCons (wCall W__law_some (wCons (wU (wVar 1)) (wCons (wU (wVar 0)) (wCons (wU (wVar 4)) (wNil))))) (wCons (wCall W__law_some (wCons (wU (wVar 1)) (wCons (wU (wVar 0)) (wCons (wU (wVar 5)) (wNil))))) (wNil)))) (wPar 7 8 (wCons (wCall W__law_members (wCons (wU (wVar 4)) (wNil))) (wCons (wCall W__law_members (wCons (wU (wVar 5)) (wNil))) (wNil)))))
        (wSIf (wNot (wTest (wCall W__law_sound (wCons (wU (wVar 2)) (wCons (wU (wVar 6)) (wCons (wU (wVar 7)) (wCons (wU (wVar 8)) (wNil)))))))) (wRet (wC (.bl false))) (wNext))))))
def lb_law_2 (Φ__law_range : List D → PM → Out D) (Φ__law_next : List D → PM → Out D) (Φ_combine : List D → PM → Out D) (Φ__law_same : List D → PM → Out D) (Φ__law_due : List D → PM → Out D) (Φ__law_some : List D → PM → Out D) (Φ__law_members : List D → PM → Out D) (Φ__law_sound : List D → PM → Out D) : FS :=
    sFor (pItems (pTup (aCons (pC (.bl false)) (aCons (pC (.bl false)) (aCons (pC (.bl true)) (aNil)))))) (fName 3) (lb_law_1 Φ__law_range Φ__law_next Φ_combine Φ__law_same Φ__law_due Φ__law_some Φ__law_members Φ__law_sound)
def wb_law_2 (W__law_range : List X → W U) (W__law_next : List X → W U) (W_combine : List X → W U) (W__law_same : List X → W U) (W__law_due : List X → W U) (W__law_some : List X → W U) (W__law_members : List X → W U) (W__law_sound : List X → W U) : WS :=
    wFor (wItems (wTup (wCons (wC (.bl false)) (wCons (wC (.bl false)) (wCons (wC (.bl true)) (wNil)))))) (wName 3) (wb_law_1 W__law_range W__law_next W_combine W__law_same W__law_due W__law_some W__law_members W__law_sound) [3, 4, 5, 6, 7, 8]
def g_law (Φ__law_range : List D → PM → Out D) (Φ__law_next : List D → PM → Out D) (Φ_combine : List D → PM → Out D) (Φ__law_same : List D → PM → Out D) (Φ__law_due : List D → PM → Out D) (Φ__law_some : List D → PM → Out D) (Φ__law_members : List D → PM → Out D) (Φ__law_sound : List D → PM → Out D) : FS :=
    sSeq (sAsg (pNew (aCons (pC (.int 0)) (aCons (pC (.int 0)) (aCons (pC (.int 1)) (aCons (pC (.int 0)) (aNil)))))) (fName 1))
    (sSeq (sFor (pItems (pTup (aCons (pC (.str (PySem.Str.ofString "+"))) (aCons (pC (.str (PySem.Str.ofString "-"))) (aCons (pC (.str (PySem.Str.ofString "*"))) (aCons (pC (.str (PySem.Str.ofString "/"))) (aCons (pC (.str (PySem.Str.ofString "mod"))) (aNil)))))))) (fName 2) (lb_law_2 Φ__law_range Φ__law_next Φ_combine Φ__law_same Φ__law_due Φ__law_some Φ__law_members Φ__law_sound))
    (sRet (pC (.bl true))))
def w_law (W__law_range : List X → W U) (W__law_next : List X → W U) (W_combine : List X → W U) (W__law_same : List X → W U) (W__law_due : List X → W U) (W__law_some : List X → W U) (W__law_members : List X → W U) (W__law_sound : List X → W U) : WS :=
    wSeq (wFor (wItems (wTup (wCons (wC (.str (PySem.Str.ofString "+"))) (wCons (wC (.str (PySem.Str.ofString "-"))) (wCons (wC (.str (PySem.Str.ofString "*"))) (wCons (wC (.str (PySem.Str.ofString "/"))) (wCons (wC (.str (PySem.Str.ofString "mod"))) (wNil)))))))) (wName 2) (wb_law_2 W__law_range W__law_next W_combine W__law_same W__law_due W__law_some W__law_members W__law_sound) [2, 3, 4, 5, 6, 7, 8])
    (wRet (wC (.bl true)))
abbrev N_law : List Str := [PySem.Str.ofString "script", PySem.Str.ofString "state", PySem.Str.ofString "sign", PySem.Str.ofString "wide", PySem.Str.ofString "first", PySem.Str.ofString "second", PySem.Str.ofString "told", PySem.Str.ofString "lefts", PySem.Str.ofString "rights"]
theorem rn_law {a0 : D} : rho0 N_law [a0] = [some a0, none, none, none, none, none, none, none, none] := rfl
theorem sc_law : FnScope N_law [PySem.Str.ofString "script"] (defScope s_law) := ⟨rfl, rfl, rfl, by decide +kernel, rfl, by decide +kernel, by decide +kernel⟩
def Φ_law : List D → PM → Out D := Pd.run 1 N_law (g_law Φ__law_range Φ__law_next Φ_combine Φ__law_same Φ__law_due Φ__law_some Φ__law_members Φ__law_sound)
theorem ok_law {P : Program} {w : World} {K : PySem.W.Frag} {mg : Str → Option Value} {base : Heap} {f : Addr} {fd : FuncData} (F : Fun K "law" "law" s_law f fd) {Φ__law_range : List D → PM → Out D} (C__law_range : Callee P w K mg base "_law_range" 2 Φ__law_range) {Φ__law_next : List D → PM → Out D} (C__law_next : Callee P w K mg base "_law_next" 1 Φ__law_next) {Φ_combine : List D → PM → Out D} (C_combine : Callee P w K mg base "combine" 4 Φ_combine) {Φ__law_same : List D → PM → Out D} (C__law_same : Callee P w K mg base "_law_same" 3 Φ__law_same) {Φ__law_due : List D → PM → Out D} (C__law_due : Callee P w K mg base "_law_due" 4 Φ__law_due) {Φ__law_some : List D → PM → Out D} (C__law_some : Callee P w K mg base "_law_some" 2 Φ__law_some) {Φ__law_members : List D → PM → Out D} (C__law_members : Callee P w K mg base "_law_members" 1 Φ__law_members) {Φ__law_sound : List D → PM → Out D} (C__law_sound : Callee P w K mg base "_law_sound" 2 Φ__law_sound) :
    FnOk P w K mg base CX0 5 f fd ["script"] (spP K (Pd.run 1 N_law (g_law Φ__law_range Φ__law_next Φ_combine Φ__law_same Φ__law_due Φ__law_some Φ__law_members Φ__law_sound))) := by
  refine law_run F sc_law rfl fun f cdv A outer s H E hr => ?_
  have nd := sc_law.nd
  exact pdb_cons (pds_set 1 (pd_new (pda_cons (pd_int) (pda_cons (pd_int) (pda_cons (pd_int) (pda_cons (pd_int) (pda_nil)))))) nd)
    (pdb_cons (pds_for PassesOwn.never rfl (pdi_any (pd_tup (pda_cons (pd_str) (pda_cons (pd_str) (pda_cons (pd_str) (pda_cons (pd_str) (pda_cons (pd_str) (pda_nil)))))))) (pdg_name (i := 2) nd) (pdb_one (pds_for PassesOwn.never rfl (pdi_any (pd_tup (pda_cons (pd_bl) (pda_cons (pd_bl) (pda_cons (pd_bl) (pda_nil)))))) (pdg_name (i := 3) nd) (pdb_cons (pds_set 4 (pd_callC C__law_range (hr.mono (by decide)) rfl (pda_cons (pd_var 1) (pda_cons (pd_var 0) (pda_cons (pd_var 3) (pda_nil))))) nd)
        (pdb_cons (pds_set 5 (pd_callC C__law_range (hr.mono (by decide)) rfl (pda_cons (pd_var 1) (pda_cons (pd_var 0) (pda_cons (pd_and (pd_var 3) (pd_one (pd_cmp o_eq (pd_callC C__law_next (hr.mono (by decide)) rfl (pda_cons (pd_var 1) (pda_cons (pd_var 0) (pda_cons (pd_int) (pda_nil))))) (pd_int) (nomark _)))) (pda_nil))))) nd)
        (pdb_cons (pds_set 6 (pd_callC C_combine (hr.mono (by decide)) rfl (pda_cons (pd_var 2) (pda_cons (pd_var 4) (pda_cons (pd_var 5) (pda_nil))))) nd)
        (pdb_cons (pds_if (pdt_not (pdt_val (pd_callC C__law_same (hr.mono (by decide)) rfl (pda_cons (pd_var 6) (pda_cons (pd_callC C__law_due (hr.mono (by decide)) rfl (pda_cons (pd_var 2) (pda_cons (pd_var 4) (pda_cons (pd_var 5) (pda_nil))))) (pda_nil)))))) (pdb_one (pds_ret (pd_bl))) (pdb_nil))
        (pdb_cons (pds_if (pdt_val (pd_var 3)) (pdb_one (pds_par 7 8 rfl nd (pda_cons (pd_callC C__law_some (hr.mono (by decide)) rfl (pda_cons (pd_var 1) (pda_cons (pd_var 0) (pda_cons (pd_var 4) (pda_nil))))) (pda_cons (pd_callC C__law_some (hr.mono (by decide)) rfl (pda_cons (pd_var 1) (pda_cons (pd_var 0) (pda_cons (pd_var 5) (pda_nil))))) (pda_nil))) (by decide) (by rfl))) (pdb_one (pds_par 7 8 rfl nd (pda_cons (pd_callC C__law_members (hr.mono (by decide)) rfl (pda_cons (pd_var 4) (pda_nil))) (pda_cons (pd_callC C__law_members (hr.mono (by decide)) rfl (pda_cons (pd_var 5) (pda_nil))) (pda_nil))) (by decide) (by rfl))))
        (pdb_one (pds_if (pdt_not (pdt_val (pd_callC C__law_sound (hr.mono (by decide)) rfl (pda_cons (pd_var 2) (pda_cons (pd_var 6) (pda_cons (pd_var 7) (pda_cons (pd_var 8) (pda_nil)))))))) (pdb_one (pds_ret (pd_bl))) (pdb_nil)))))))))))
    (pdb_one (pds_ret (pd_bl))))
/-! ### the pure reading -/
theorem so_has : DefS (Pd.run 2 N_has (g_has)) (wrun 2 5 (w_has)) := def_run rfl fun n =>
    ss_seq (ss_asg (sp_var 0) (st_tup (st_cons (st_name 2) (st_cons (st_name 3) (st_cons (st_name 4) (st_nil))))))
    (ss_seq (ss_if (sb_or (sb_test (SX.pl (sp_op ou_lt (SX.pl (sp_var 1)) (SX.pl (sp_var 2))))) (sb_test (SX.pl (sp_op ou_gt (SX.pl (sp_var 1)) (SX.pl (sp_var 3)))))) (ss_ret (SX.po (sp_c (.bl false)))) (ss_next))
    (ss_ret (SX.po (sp_orV (SX.pl (sp_op ou_eq (SX.pl (sp_var 4)) (SX.pl (sp_c (.int 0))))) (sp_op ou_eq (SX.pl (sp_op ou_mod (SX.pl (sp_op ou_sub (SX.pl (sp_var 1)) (SX.pl (sp_var 2)))) (SX.pl (sp_var 4)))) (SX.pl (sp_c (.int 0))))))))
theorem S_has : DefS Φ_has W_has := so_has
theorem so_with_ends : DefS (Pd.run 3 N_with_ends (g_with_ends)) (wrun 3 3 (w_with_ends)) := def_run rfl fun n =>
    ss_seq (ss_if (sb_test (SX.pl (sp_op ou_eq (SX.pl (sp_var 0)) (SX.pl (sp_var 1))))) (ss_ret (SX.po (sp_tup (si_cons (sp_var 0) (si_cons (sp_var 0) (si_cons (sp_c (.int 0)) (si_nil))))))) (ss_next))
    (ss_ret (SX.po (sp_tup (si_cons (sp_var 0) (si_cons (sp_var 1) (si_cons (sp_var 2) (si_nil)))))))
theorem S_with_ends : DefS Φ_with_ends W_with_ends := so_with_ends
theorem so_at_most {Φ_with_ends : List D → PM → Out D} {W_with_ends : List X → W U} (S_with_ends : DefS Φ_with_ends W_with_ends) : DefS (Pd.run 2 N_at_most (g_at_most Φ_with_ends)) (wrun 2 5 (w_at_most W_with_ends)) := def_run rfl fun n =>
    ss_seq (ss_asg (sp_var 0) (st_tup (st_cons (st_name 2) (st_cons (st_name 3) (st_cons (st_name 4) (st_nil))))))
    (ss_seq (ss_if (sb_test (SX.pl (sp_op ou_ge (SX.pl (sp_var 1)) (SX.pl (sp_var 3))))) (ss_ret (SX.po (sp_var 0))) (ss_next))
    (ss_seq (ss_if (sb_test (SX.pl (sp_op ou_lt (SX.pl (sp_var 1)) (SX.pl (sp_var 2))))) (ss_ret (SX.po (sp_c .non))) (ss_next))
    (ss_ret (SX.po (sp_call S_with_ends (sxs_cons (sx_u (sp_var 2)) (sxs_cons (sx_u (sp_op ou_sub (SX.pl (sp_var 1)) (SX.pl (sp_op ou_mod (SX.pl (sp_op ou_sub (SX.pl (sp_var 1)) (SX.pl (sp_var 2)))) (SX.pl (sp_var 4)))))) (sxs_cons (sx_u (sp_var 4)) (sxs_nil)))))))))
theorem S_at_most : DefS Φ_at_most W_at_most := so_at_most S_with_ends
theorem so_at_least {Φ_with_ends : List D → PM → Out D} {W_with_ends : List X → W U} (S_with_ends : DefS Φ_with_ends W_with_ends) : DefS (Pd.run 2 N_at_least (g_at_least Φ_with_ends)) (wrun 2 5 (w_at_least W_with_ends)) := def_run rfl fun n =>
    ss_seq (ss_asg (sp_var 0) (st_tup (st_cons (st_name 2) (st_cons (st_name 3) (st_cons (st_name 4) (st_nil))))))
    (ss_seq (ss_if (sb_test (SX.pl (sp_op ou_le (SX.pl (sp_var 1)) (SX.pl (sp_var 2))))) (ss_ret (SX.po (sp_var 0))) (ss_next))
    (ss_seq (ss_if (sb_test (SX.pl (sp_op ou_gt (SX.pl (sp_var 1)) (SX.pl (sp_var 3))))) (ss_ret (SX.po (sp_c .non))) (ss_next))
    (ss_ret (SX.po (sp_call S_with_ends (sxs_cons (sx_u (sp_op ou_add (SX.pl (sp_var 1)) (SX.pl (sp_op ou_mod (SX.pl (sp_op ou_sub (SX.pl (sp_var 3)) (SX.pl (sp_var 1)))) (SX.pl (sp_var 4)))))) (sxs_cons (sx_u (sp_var 3)) (sxs_cons (sx_u (sp_var 4)) (sxs_nil)))))))))
theorem S_at_least : DefS Φ_at_least W_at_least := so_at_least S_with_ends
theorem so_between {Φ_at_least : List D → PM → Out D} {W_at_least : List X → W U} (S_at_least : DefS Φ_at_least W_at_least) {Φ_at_most : List D → PM → Out D} {W_at_most : List X → W U} (S_at_most : DefS Φ_at_most W_at_most) : DefS (Pd.run 3 N_between (g_between Φ_at_least Φ_at_most)) (wrun 3 4 (w_between W_at_least W_at_most)) := def_run rfl fun n =>
    ss_seq (ss_asg (sp_call S_at_least (sxs_cons (sx_u (sp_var 0)) (sxs_cons (sx_u (sp_var 1)) (sxs_nil)))) (st_name 3))
    (ss_seq (ss_if (sb_test (SX.pl (sp_op ou_is2 (SX.pl (sp_var 3)) (SX.pl (sp_c .non))))) (ss_ret (SX.po (sp_c .non))) (ss_next))
    (ss_ret (SX.po (sp_call S_at_most (sxs_cons (sx_u (sp_var 3)) (sxs_cons (sx_u (sp_var 2)) (sxs_nil)))))))
theorem S_between : DefS Φ_between W_between := so_between S_at_least S_at_most
theorem so_raw_sum : DefS (Pd.run 2 N_raw_sum (g_raw_sum)) (wrun 2 2 (w_raw_sum)) := def_run rfl fun n =>
    ss_ret (SX.po (sp_tup (si_cons (sp_op ou_add (SX.pl (sp_op ou_ix (SX.pl (sp_var 0)) (SX.pl (sp_c (.int 0))))) (SX.pl (sp_op ou_ix (SX.pl (sp_var 1)) (SX.pl (sp_c (.int 0)))))) (si_cons (sp_op ou_add (SX.pl (sp_op ou_ix (SX.pl (sp_var 0)) (SX.pl (sp_c (.int 1))))) (SX.pl (sp_op ou_ix (SX.pl (sp_var 1)) (SX.pl (sp_c (.int 1)))))) (si_cons (sp_cb bu_gcd (sls_cons (SX.pl (sp_op ou_ix (SX.pl (sp_var 0)) (SX.pl (sp_c (.int 2))))) (sls_cons (SX.pl (sp_op ou_ix (SX.pl (sp_var 1)) (SX.pl (sp_c (.int 2))))) (sls_nil)))) (si_nil))))))
theorem S_raw_sum : DefS Φ_raw_sum W_raw_sum := so_raw_sum
theorem so_raw_difference : DefS (Pd.run 2 N_raw_difference (g_raw_difference)) (wrun 2 2 (w_raw_difference)) := def_run rfl fun n =>
    ss_ret (SX.po (sp_tup (si_cons (sp_op ou_sub (SX.pl (sp_op ou_ix (SX.pl (sp_var 0)) (SX.pl (sp_c (.int 0))))) (SX.pl (sp_op ou_ix (SX.pl (sp_var 1)) (SX.pl (sp_c (.int 1)))))) (si_cons (sp_op ou_sub (SX.pl (sp_op ou_ix (SX.pl (sp_var 0)) (SX.pl (sp_c (.int 1))))) (SX.pl (sp_op ou_ix (SX.pl (sp_var 1)) (SX.pl (sp_c (.int 0)))))) (si_cons (sp_cb bu_gcd (sls_cons (SX.pl (sp_op ou_ix (SX.pl (sp_var 0)) (SX.pl (sp_c (.int 2))))) (sls_cons (SX.pl (sp_op ou_ix (SX.pl (sp_var 1)) (SX.pl (sp_c (.int 2))))) (sls_nil)))) (si_nil))))))
theorem S_raw_difference : DefS Φ_raw_difference W_raw_difference := so_raw_difference
theorem so_raw_product : DefS (Pd.run 2 N_raw_product (g_raw_product)) (wrun 2 6 (w_raw_product)) := def_run rfl fun n =>
    ss_seq (ss_asg (sp_lcn ⟨si_items (sp_sl su_sl (SX.pl (sp_var 0)) (so_none) (so_some (SX.pl (sp_c (.int 2))))), stu_name 4, sb_yes, rfl⟩ rfl (scs_cons ⟨si_items (sp_sl su_sl (SX.pl (sp_var 1)) (so_none) (so_some (SX.pl (sp_c (.int 2))))), stu_name 5, sb_yes, rfl⟩ (scs_nil)) (sp_op ou_mul (SX.pl (sp_var 4)) (SX.pl (sp_var 5)))) (st_name 2))
    (ss_seq (ss_asg (sp_cb bu_gcd (sls_cons (SX.pl (sp_op ou_mul (SX.pl (sp_op ou_ix (SX.pl (sp_var 0)) (SX.pl (sp_c (.int 0))))) (SX.pl (sp_op ou_ix (SX.pl (sp_var 1)) (SX.pl (sp_c (.int 2))))))) (sls_cons (SX.pl (sp_op ou_mul (SX.pl (sp_op ou_ix (SX.pl (sp_var 1)) (SX.pl (sp_c (.int 0))))) (SX.pl (sp_op ou_ix (SX.pl (sp_var 0)) (SX.pl (sp_c (.int 2))))))) (sls_cons (SX.pl (sp_op ou_mul (SX.pl (sp_op ou_ix (SX.pl (sp_var 0)) (SX.pl (sp_c (.int 2))))) (SX.pl (sp_op ou_ix (SX.pl (sp_var 1)) (SX.pl (sp_c (.int 2))))))) (sls_nil))))) (st_name 3))
    (ss_ret (SX.po (sp_tup (si_cons (sp_cb bu_minL (sls_cons (SX.pl (sp_var 2)) (sls_nil))) (si_cons (sp_cb bu_maxL (sls_cons (SX.pl (sp_var 2)) (sls_nil))) (si_cons (sp_var 3) (si_nil))))))))
theorem S_raw_product : DefS Φ_raw_product W_raw_product := so_raw_product
theorem so_raw_quotient {Φ_at_most : List D → PM → Out D} {W_at_most : List X → W U} (S_at_most : DefS Φ_at_most W_at_most) {Φ_at_least : List D → PM → Out D} {W_at_least : List X → W U} (S_at_least : DefS Φ_at_least W_at_least) {Φ_with_ends : List D → PM → Out D} {W_with_ends : List X → W U} (S_with_ends : DefS Φ_with_ends W_with_ends) : DefS (Pd.run 2 N_raw_quotient (g_raw_quotient Φ_at_most Φ_at_least Φ_with_ends)) (wrun 2 7 (w_raw_quotient W_at_most W_at_least W_with_ends)) := def_run rfl fun n =>
    ss_seq (ss_asg (sp_lc [4] (si_items (sp_tup (si_cons (sp_call S_at_least (sxs_cons (sx_u (sp_var 1)) (sxs_cons (sx_u (sp_c (.int 1))) (sxs_nil)))) (si_cons (sp_call S_at_most (sxs_cons (sx_u (sp_var 1)) (sxs_cons (sx_u (sp_un nu_neg (SX.pl (sp_c (.int 1))))) (sxs_nil)))) (si_nil))))) (st_name 4) (sb_test (SX.pl (sp_op ou_isNot2 (SX.pl (sp_var 4)) (SX.pl (sp_c .non))))) (sp_var 4)) (st_name 2))
    (ss_seq (ss_asg (sp_lcn ⟨si_items (sp_sl su_sl (SX.pl (sp_var 0)) (so_none) (so_some (SX.pl (sp_c (.int 2))))), stu_name 5, sb_yes, rfl⟩ rfl (scs_cons ⟨si_items (sp_var 2), stu_name 4, sb_yes, rfl⟩ (scs_cons ⟨si_items (sp_sl su_sl (SX.pl (sp_var 4)) (so_none) (so_some (SX.pl (sp_c (.int 2))))), stu_name 6, sb_yes, rfl⟩ (scs_nil))) (sp_op ou_fdiv (SX.pl (sp_var 5)) (SX.pl (sp_var 6)))) (st_name 3))
    (ss_seq (ss_if (sb_test (SX.pl (sp_op ou_eqQ (SX.pl (sp_var 3)) (SX.pl (sp_lst (si_nil)))))) (ss_ret (SX.po (sp_c .non))) (ss_next))
    (ss_ret (SX.po (sp_call S_with_ends (sxs_cons (sx_u (sp_cb bu_minL (sls_cons (SX.pl (sp_var 3)) (sls_nil)))) (sxs_cons (sx_u (sp_cb bu_maxL (sls_cons (SX.pl (sp_var 3)) (sls_nil)))) (sxs_cons (sx_u (sp_c (.int 1))) (sxs_nil)))))))))
theorem S_raw_quotient : DefS Φ_raw_quotient W_raw_quotient := so_raw_quotient S_at_most S_at_least S_with_ends
theorem so_remainder_by_one : DefS (Pd.run 2 N_remainder_by_one (g_remainder_by_one)) (wrun 2 6 (w_remainder_by_one)) := def_run rfl fun n =>
    ss_seq (ss_asg (sp_var 0) (st_tup (st_cons (st_name 3) (st_cons (st_name 4) (st_cons (st_name 5) (st_nil))))))
    (ss_seq (ss_asg (sp_op ou_fdiv (SX.pl (sp_var 3)) (SX.pl (sp_var 1))) (st_name 2))
    (ss_seq (ss_if (sb_test (SX.pl (sp_op ou_eq (SX.pl (sp_op ou_mod (SX.pl (sp_var 5)) (SX.pl (sp_var 1)))) (SX.pl (sp_c (.int 0)))))) (ss_ret (SX.po (sp_tup (si_cons (sp_op ou_mod (SX.pl (sp_var 3)) (SX.pl (sp_var 1))) (si_cons (sp_op ou_mod (SX.pl (sp_var 3)) (SX.pl (sp_var 1))) (si_cons (sp_c (.int 0)) (si_nil))))))) (ss_next))
    (ss_seq (ss_if (sb_test (SX.pl (sp_op ou_eq (SX.pl (sp_op ou_fdiv (SX.pl (sp_var 4)) (SX.pl (sp_var 1)))) (SX.pl (sp_var 2))))) (ss_ret (SX.po (sp_tup (si_cons (sp_op ou_sub (SX.pl (sp_var 3)) (SX.pl (sp_op ou_mul (SX.pl (sp_var 2)) (SX.pl (sp_var 1))))) (si_cons (sp_op ou_sub (SX.pl (sp_var 4)) (SX.pl (sp_op ou_mul (SX.pl (sp_var 2)) (SX.pl (sp_var 1))))) (si_cons (sp_var 5) (si_nil))))))) (ss_next))
    (ss_ret (SX.po (sp_tup (si_cons (sp_cb bu_min2 (sls_cons (SX.pl (sp_c (.int 0))) (sls_cons (SX.pl (sp_op ou_add (SX.pl (sp_var 1)) (SX.pl (sp_c (.int 1))))) (sls_nil)))) (si_cons (sp_cb bu_max2 (sls_cons (SX.pl (sp_c (.int 0))) (sls_cons (SX.pl (sp_op ou_sub (SX.pl (sp_var 1)) (SX.pl (sp_c (.int 1))))) (sls_nil)))) (si_cons (sp_c (.int 1)) (si_nil))))))))))
theorem S_remainder_by_one : DefS Φ_remainder_by_one W_remainder_by_one := so_remainder_by_one
theorem so_raw_remainder {Φ_with_ends : List D → PM → Out D} {W_with_ends : List X → W U} (S_with_ends : DefS Φ_with_ends W_with_ends) {Φ_remainder_by_one : List D → PM → Out D} {W_remainder_by_one : List X → W U} (S_remainder_by_one : DefS Φ_remainder_by_one W_remainder_by_one) : DefS (Pd.run 2 N_raw_remainder (g_raw_remainder Φ_with_ends Φ_remainder_by_one)) (wrun 2 5 (w_raw_remainder W_with_ends W_remainder_by_one)) := def_run rfl fun n =>
    ss_seq (ss_asg (sp_var 1) (st_tup (st_cons (st_name 2) (st_cons (st_name 3) (st_cons (st_name 4) (st_nil))))))
    (ss_seq (ss_if (sb_test (SX.pl (sp_op ou_ne (SX.pl (sp_var 4)) (SX.pl (sp_c (.int 0)))))) (ss_ret (SX.po (sp_call S_with_ends (sxs_cons (sx_u (sp_cb bu_min2 (sls_cons (SX.pl (sp_c (.int 0))) (sls_cons (SX.pl (sp_op ou_add (SX.pl (sp_var 2)) (SX.pl (sp_c (.int 1))))) (sls_nil))))) (sxs_cons (sx_u (sp_cb bu_max2 (sls_cons (SX.pl (sp_c (.int 0))) (sls_cons (SX.pl (sp_op ou_sub (SX.pl (sp_var 3)) (SX.pl (sp_c (.int 1))))) (sls_nil))))) (sxs_cons (sx_u (sp_c (.int 1))) (sxs_nil))))))) (ss_next))
    (ss_seq (ss_if (sb_test (SX.pl (sp_op ou_eq (SX.pl (sp_var 2)) (SX.pl (sp_c (.int 0)))))) (ss_ret (SX.po (sp_c .non))) (ss_next))
    (ss_ret (SX.po (sp_call S_remainder_by_one (sxs_cons (sx_u (sp_var 0)) (sxs_cons (sx_u (sp_var 2)) (sxs_nil))))))))
theorem S_raw_remainder : DefS Φ_raw_remainder W_raw_remainder := so_raw_remainder S_with_ends S_remainder_by_one
theorem so_combine {Φ_raw_sum : List D → PM → Out D} {W_raw_sum : List X → W U} (S_raw_sum : DefS Φ_raw_sum W_raw_sum) {Φ_raw_difference : List D → PM → Out D} {W_raw_difference : List X → W U} (S_raw_difference : DefS Φ_raw_difference W_raw_difference) {Φ_raw_product : List D → PM → Out D} {W_raw_product : List X → W U} (S_raw_product : DefS Φ_raw_product W_raw_product) {Φ_raw_quotient : List D → PM → Out D} {W_raw_quotient : List X → W U} (S_raw_quotient : DefS Φ_raw_quotient W_raw_quotient) {Φ_raw_remainder : List D → PM → Out D} {W_raw_remainder : List X → W U} (S_raw_remainder : DefS Φ_raw_remainder W_raw_remainder) {Φ_has : List D → PM → Out D} {W_has : List X → W U} (S_has : DefS Φ_has W_has) {Φ_between : List D → PM → Out D} {W_between : List X → W U} (S_between : DefS Φ_between W_between) : DefS (Pd.run 3 N_combine (g_combine Φ_raw_sum Φ_raw_difference Φ_raw_product Φ_raw_quotient Φ_raw_remainder Φ_has Φ_between)) (wrun 3 6 (w_combine W_raw_sum W_raw_difference W_raw_product W_raw_quotient W_raw_remainder W_has W_between)) := def_run rfl fun n =>
    ss_seq (ss_disp 3 4 (tabs_cons S_raw_sum (tabs_cons S_raw_difference (tabs_cons S_raw_product (tabs_cons S_raw_quotient (tabs_cons S_raw_remainder (tabs_nil)))))) (sp_var 0) (sxs_cons (sx_u (sp_var 1)) (sxs_cons (sx_u (sp_var 2)) (sxs_nil))))
      (ss_seq (ss_new 5 (si_nil))
    (ss_seq (ss_if (sb_and (sb_test (SX.pl (sp_op ou_in (SX.pl (sp_var 0)) (SX.pl (sp_tup (si_cons (sp_c (.str (PySem.Str.ofString "/"))) (si_cons (sp_c (.str (PySem.Str.ofString "mod"))) (si_nil)))))))) (sb_test (SX.pl (sp_call S_has (sxs_cons (sx_u (sp_var 2)) (sxs_cons (sx_u (sp_c (.int 0))) (sxs_nil))))))) (ss_app 5 (sp_c (.str (PySem.Str.ofString "division")))) (ss_next))
    (ss_seq (ss_if (sb_test (SX.pl (sp_op ou_is2 (SX.pl (sp_var 4)) (SX.pl (sp_c .non))))) (ss_ret (SX.po (sp_tup (si_cons (sp_c .non) (si_cons (sp_cb bu_tuple (sls_cons (sl_var 5) (sls_nil))) (si_nil)))))) (ss_next))
    (ss_seq (ss_if (sb_or (sb_test (SX.pl (sp_op ou_lt (SX.pl (sp_op ou_ix (SX.pl (sp_var 4)) (SX.pl (sp_c (.int 0))))) (SX.pl (sp_c u_LEAST_VALUE))))) (sb_test (SX.pl (sp_op ou_gt (SX.pl (sp_op ou_ix (SX.pl (sp_var 4)) (SX.pl (sp_c (.int 1))))) (SX.pl (sp_c u_GREATEST_VALUE)))))) (ss_app 5 (sp_c (.str (PySem.Str.ofString "overflow")))) (ss_next))
    (ss_ret (SX.po (sp_tup (si_cons (sp_call S_between (sxs_cons (sx_u (sp_var 4)) (sxs_cons (sx_u (sp_c u_LEAST_VALUE)) (sxs_cons (sx_u (sp_c u_GREATEST_VALUE)) (sxs_nil))))) (si_cons (sp_cb bu_tuple (sls_cons (sl_var 5) (sls_nil))) (si_nil))))))))))
theorem S_combine : DefS Φ_combine W_combine := so_combine S_raw_sum S_raw_difference S_raw_product S_raw_quotient S_raw_remainder S_has S_between
theorem S__law_next : DefS Φ__law_next W__law_next := def_next rfl
theorem so__law_same {Φ__law_same : List D → PM → Out D} {W__law_same : List X → W U} (S__law_same : DefS Φ__law_same W__law_same) : DefS (Pd.run 2 N__law_same (g__law_same Φ__law_same)) (wrun 2 3 (w__law_same W__law_same)) := def_run rfl fun n =>
    ss_seq (ss_if (sb_test (SX.pl (sp_op ou_is2 (SX.pl (sp_var 1)) (SX.pl (sp_c .non))))) (ss_ret (SX.po (sp_op ou_is2 (SX.pl (sp_var 0)) (SX.pl (sp_c .non))))) (ss_next))
    (ss_seq (ss_if (sb_test (SX.pl (sp_cb bu_isi (sls_cons (SX.pl (sp_var 1)) (sls_cons (SX.pl (sp_c (.ty "tuple"))) (sls_nil)))))) (ss_seq (ss_if (sb_or (sb_not (sb_test (SX.pl (sp_cb bu_isi (sls_cons (SX.pl (sp_var 0)) (sls_cons (SX.pl (sp_c (.ty "tuple"))) (sls_nil))))))) (sb_test (SX.pl (sp_op ou_ne (SX.pl (sp_cb bu_len (sls_cons (SX.pl (sp_var 0)) (sls_nil)))) (SX.pl (sp_cb bu_len (sls_cons (SX.pl (sp_var 1)) (sls_nil)))))))) (ss_ret (SX.po (sp_c (.bl false)))) (ss_next))
      (ss_seq (ss_for [2] (si_rng1 (si_cons (sp_cb bu_len (sls_cons (SX.pl (sp_var 1)) (sls_nil))) (si_nil))) (st_name 2) (ss_if (sb_not (sb_test (SX.pl (sp_call S__law_same (sxs_cons (sx_u (sp_op ou_ix (SX.pl (sp_var 0)) (SX.pl (sp_var 2)))) (sxs_cons (sx_u (sp_op ou_ix (SX.pl (sp_var 1)) (SX.pl (sp_var 2)))) (sxs_nil))))))) (ss_ret (SX.po (sp_c (.bl false)))) (ss_next)))
      (ss_ret (SX.po (sp_c (.bl true)))))) (ss_next))
    (ss_seq (ss_if (sb_test (SX.pl (sp_cb bu_isi (sls_cons (SX.pl (sp_var 1)) (sls_cons (SX.pl (sp_c (.ty "bool"))) (sls_nil)))))) (ss_ret (SX.po (sp_andV (SX.pl (sp_cb bu_isi (sls_cons (SX.pl (sp_var 0)) (sls_cons (SX.pl (sp_c (.ty "bool"))) (sls_nil))))) (sp_op ou_eq (SX.pl (sp_var 0)) (SX.pl (sp_var 1)))))) (ss_next))
    (ss_seq (ss_if (sb_test (SX.pl (sp_cb bu_isi (sls_cons (SX.pl (sp_var 1)) (sls_cons (SX.pl (sp_c (.ty "int"))) (sls_nil)))))) (ss_ret (SX.po (sp_andV (SX.pl (sp_cb bu_isi (sls_cons (SX.pl (sp_var 0)) (sls_cons (SX.pl (sp_c (.ty "int"))) (sls_nil))))) (sp_andV (SX.pl (sp_notV (SX.pl (sp_cb bu_isi (sls_cons (SX.pl (sp_var 0)) (sls_cons (SX.pl (sp_c (.ty "bool"))) (sls_nil))))))) (sp_op ou_eq (SX.pl (sp_var 0)) (SX.pl (sp_var 1))))))) (ss_next))
    (ss_ret (SX.po (sp_andV (SX.pl (sp_cb bu_isi (sls_cons (SX.pl (sp_var 0)) (sls_cons (SX.pl (sp_c (.ty "str"))) (sls_nil))))) (sp_op ou_eq (SX.pl (sp_var 0)) (SX.pl (sp_var 1)))))))))
theorem sr__law_same : ∀ t, DefS (Ψ__law_same t) (V__law_same t)
  | 0 => fun _ _ _ _ _ _ _ q => q.elim
  | t + 1 => by
    have I__law_same := sr__law_same t
    exact so__law_same I__law_same
theorem S__law_same : DefS Φ__law_same W__law_same := sr__law_same 3
theorem so__law_range {Φ__law_next : List D → PM → Out D} {W__law_next : List X → W U} (S__law_next : DefS Φ__law_next W__law_next) : DefS (Pd.run 3 N__law_range (g__law_range Φ__law_next)) (wrun 3 8 (w__law_range W__law_next)) := def_run rfl fun n =>
    ss_seq (ss_asg (sp_op ou_sub (SX.pl (sp_call S__law_next (sxs_cons (sx_u (sp_var 0)) (sxs_cons (sx_u (sp_var 1)) (sxs_cons (sx_u (sp_op ou_ix (SX.pl (sp_lst (si_cons (sp_c (.int 25)) (si_cons (sp_c (.int 20001)) (si_nil))))) (SX.pl (sp_cb bu_int (sls_cons (SX.pl (sp_var 2)) (sls_nil)))))) (sxs_nil)))))) (SX.pl (sp_op ou_ix (SX.pl (sp_lst (si_cons (sp_c (.int 12)) (si_cons (sp_c (.int 10000)) (si_nil))))) (SX.pl (sp_cb bu_int (sls_cons (SX.pl (sp_var 2)) (sls_nil))))))) (st_name 3))
    (ss_seq (ss_asg (sp_call S__law_next (sxs_cons (sx_u (sp_var 0)) (sxs_cons (sx_u (sp_var 1)) (sxs_cons (sx_u (sp_c (.int 5))) (sxs_nil))))) (st_name 4))
    (ss_seq (ss_if (sb_test (SX.pl (sp_op ou_eq (SX.pl (sp_var 4)) (SX.pl (sp_c (.int 0)))))) (ss_ret (SX.po (sp_tup (si_cons (sp_var 3) (si_cons (sp_var 3) (si_cons (sp_c (.int 0)) (si_nil))))))) (ss_next))
    (ss_seq (ss_asg (sp_op ou_add (SX.pl (sp_c (.int 1))) (SX.pl (sp_call S__law_next (sxs_cons (sx_u (sp_var 0)) (sxs_cons (sx_u (sp_var 1)) (sxs_cons (sx_u (sp_op ou_ix (SX.pl (sp_lst (si_cons (sp_c (.int 7)) (si_cons (sp_c (.int 400)) (si_nil))))) (SX.pl (sp_cb bu_int (sls_cons (SX.pl (sp_var 2)) (sls_nil)))))) (sxs_nil))))))) (st_name 5))
    (ss_seq (ss_if (sb_test (SX.pl (sp_op ou_eq (SX.pl (sp_var 4)) (SX.pl (sp_c (.int 1)))))) (ss_asg (sp_c (.int 1)) (st_name 5)) (ss_next))
    (ss_seq (ss_asg (sp_op ou_fdiv (SX.pl (sp_op ou_sub (SX.pl (sp_c (.int 10000))) (SX.pl (sp_var 3)))) (SX.pl (sp_var 5))) (st_name 6))
    (ss_seq (ss_asg (sp_cb bu_min2 (sls_cons (SX.pl (sp_var 6)) (sls_cons (SX.pl (sp_op ou_add (SX.pl (sp_c (.int 1))) (SX.pl (sp_call S__law_next (sxs_cons (sx_u (sp_var 0)) (sxs_cons (sx_u (sp_var 1)) (sxs_cons (sx_u (sp_op ou_ix (SX.pl (sp_lst (si_cons (sp_c (.int 9)) (si_cons (sp_c (.int 6000)) (si_nil))))) (SX.pl (sp_cb bu_int (sls_cons (SX.pl (sp_var 2)) (sls_nil)))))) (sxs_nil)))))))) (sls_nil)))) (st_name 7))
    (ss_seq (ss_if (sb_test (SX.pl (sp_op ou_lt (SX.pl (sp_var 7)) (SX.pl (sp_c (.int 1)))))) (ss_ret (SX.po (sp_tup (si_cons (sp_var 3) (si_cons (sp_var 3) (si_cons (sp_c (.int 0)) (si_nil))))))) (ss_next))
    (ss_ret (SX.po (sp_tup (si_cons (sp_var 3) (si_cons (sp_op ou_add (SX.pl (sp_var 3)) (SX.pl (sp_op ou_mul (SX.pl (sp_var 5)) (SX.pl (sp_var 7))))) (si_cons (sp_var 5) (si_nil))))))))))))))
theorem S__law_range : DefS Φ__law_range W__law_range := so__law_range S__law_next
theorem so__law_members : DefS (Pd.run 1 N__law_members (g__law_members)) (wrun 1 1 (w__law_members)) := def_run rfl fun n =>
    ss_seq (ss_if (sb_test (SX.pl (sp_op ou_eq (SX.pl (sp_op ou_ix (SX.pl (sp_var 0)) (SX.pl (sp_c (.int 2))))) (SX.pl (sp_c (.int 0)))))) (ss_ret (SX.po (sp_lst (si_cons (sp_op ou_ix (SX.pl (sp_var 0)) (SX.pl (sp_c (.int 0)))) (si_nil))))) (ss_next))
    (ss_ret (SX.po (sp_lr3 (si_cons (sp_op ou_ix (SX.pl (sp_var 0)) (SX.pl (sp_c (.int 0)))) (si_cons (sp_op ou_add (SX.pl (sp_op ou_ix (SX.pl (sp_var 0)) (SX.pl (sp_c (.int 1))))) (SX.pl (sp_c (.int 1)))) (si_cons (sp_op ou_ix (SX.pl (sp_var 0)) (SX.pl (sp_c (.int 2)))) (si_nil)))))))
theorem S__law_members : DefS Φ__law_members W__law_members := so__law_members
theorem so__law_divisor : DefS (Pd.run 2 N__law_divisor (g__law_divisor)) (wrun 2 2 (w__law_divisor)) := def_run rfl fun n =>
    ss_seq (ss_while [] (sb_test (SX.pl (sp_op ou_ne (SX.pl (sp_var 1)) (SX.pl (sp_c (.int 0)))))) (ss_par 0 1 (si_cons (sp_var 1) (si_cons (sp_op ou_mod (SX.pl (sp_cb bu_int (sls_cons (SX.pl (sp_var 0)) (sls_nil)))) (SX.pl (sp_var 1))) (si_nil)))) 1000000000)
    (ss_ret (SX.po (sp_cb bu_abs (sls_cons (SX.pl (sp_var 0)) (sls_nil)))))
theorem S__law_divisor : DefS Φ__law_divisor W__law_divisor := so__law_divisor
theorem so__law_made : DefS (Pd.run 3 N__law_made (g__law_made)) (wrun 3 3 (w__law_made)) := def_run rfl fun n =>
    ss_ret (SX.po (sp_tup (si_cons (sp_var 0) (si_cons (sp_var 1) (si_cons (sx_if (sb_test (SX.pl (sp_op ou_eq (SX.pl (sp_var 0)) (SX.pl (sp_var 1))))) (sp_c (.int 0)) (sp_var 2)) (si_nil))))))
theorem S__law_made : DefS Φ__law_made W__law_made := so__law_made
theorem so__law_results : DefS (Pd.run 3 N__law_results (g__law_results)) (wrun 3 4 (w__law_results)) := def_run rfl fun n =>
    ss_seq (ss_if (sb_test (SX.pl (sp_op ou_eq (SX.pl (sp_var 0)) (SX.pl (sp_c (.str (PySem.Str.ofString "+"))))))) (ss_ret (SX.po (sp_op ou_add (SX.pl (sp_var 1)) (SX.pl (sp_var 2))))) (ss_next))
    (ss_seq (ss_if (sb_test (SX.pl (sp_op ou_eq (SX.pl (sp_var 0)) (SX.pl (sp_c (.str (PySem.Str.ofString "-"))))))) (ss_ret (SX.po (sp_op ou_sub (SX.pl (sp_var 1)) (SX.pl (sp_var 2))))) (ss_next))
    (ss_seq (ss_if (sb_test (SX.pl (sp_op ou_eq (SX.pl (sp_var 0)) (SX.pl (sp_c (.str (PySem.Str.ofString "*"))))))) (ss_ret (SX.po (sp_op ou_mul (SX.pl (sp_var 1)) (SX.pl (sp_var 2))))) (ss_next))
    (ss_seq (ss_if (sb_test (SX.pl (sp_op ou_eq (SX.pl (sp_var 2)) (SX.pl (sp_c (.int 0)))))) (ss_ret (SX.po (sp_c .non))) (ss_next))
    (ss_seq (ss_asg (sp_op ou_fdiv (SX.pl (sp_cb bu_int (sls_cons (SX.pl (sp_var 1)) (sls_nil)))) (SX.pl (sp_var 2))) (st_name 3))
    (ss_ret (SX.po (sx_if (sb_test (SX.pl (sp_op ou_eq (SX.pl (sp_var 0)) (SX.pl (sp_c (.str (PySem.Str.ofString "/"))))))) (sp_var 3) (sp_op ou_sub (SX.pl (sp_var 1)) (SX.pl (sp_op ou_mul (SX.pl (sp_var 3)) (SX.pl (sp_var 2))))))))))))
theorem S__law_results : DefS Φ__law_results W__law_results := so__law_results
theorem so__law_parts : DefS (Pd.run 1 N__law_parts (g__law_parts)) (wrun 1 7 (w__law_parts)) := def_run rfl fun n =>
    ss_seq (ss_asg (sp_var 0) (st_tup (st_cons (st_name 2) (st_cons (st_name 3) (st_cons (st_name 4) (st_nil))))))
    (ss_seq (ss_asg (sp_lst (si_nil)) (st_name 1))
    (ss_seq (ss_if (sb_test (SX.pl (sp_op ou_ge (SX.pl (sp_var 3)) (SX.pl (sp_c (.int 1)))))) (ss_seq (ss_asg (sp_var 2) (st_name 5))
      (ss_seq (ss_if (sb_test (SX.pl (sp_op ou_lt (SX.pl (sp_var 2)) (SX.pl (sp_c (.int 1)))))) (ss_asg (sp_op ou_sub (SX.pl (sp_var 3)) (SX.pl (sp_op ou_mul (SX.pl (sp_op ou_fdiv (SX.pl (sp_op ou_sub (SX.pl (sp_var 3)) (SX.pl (sp_c (.int 1))))) (SX.pl (sp_cb bu_max2 (sls_cons (SX.pl (sp_c (.int 1))) (sls_cons (SX.pl (sp_var 4)) (sls_nil))))))) (SX.pl (sp_var 4))))) (st_name 5)) (ss_next))
      (ss_asg (sp_op ou_add (SX.pl (sp_var 1)) (SX.pl (sp_lst (si_cons (sp_var 5) (si_cons (sp_var 3) (si_nil)))))) (st_name 1)))) (ss_next))
    (ss_seq (ss_if (sb_test (SX.pl (sp_op ou_le (SX.pl (sp_var 2)) (SX.pl (sp_un nu_neg (SX.pl (sp_c (.int 1)))))))) (ss_seq (ss_asg (sp_var 3) (st_name 6))
      (ss_seq (ss_if (sb_test (SX.pl (sp_op ou_gt (SX.pl (sp_var 3)) (SX.pl (sp_un nu_neg (SX.pl (sp_c (.int 1)))))))) (ss_asg (sp_op ou_add (SX.pl (sp_var 2)) (SX.pl (sp_op ou_mul (SX.pl (sp_op ou_fdiv (SX.pl (sp_op ou_sub (SX.pl (sp_op ou_sub (SX.pl (sp_c (.int 0))) (SX.pl (sp_c (.int 1))))) (SX.pl (sp_var 2)))) (SX.pl (sp_cb bu_max2 (sls_cons (SX.pl (sp_c (.int 1))) (sls_cons (SX.pl (sp_var 4)) (sls_nil))))))) (SX.pl (sp_var 4))))) (st_name 6)) (ss_next))
      (ss_asg (sp_op ou_add (SX.pl (sp_var 1)) (SX.pl (sp_lst (si_cons (sp_var 2) (si_cons (sp_var 6) (si_nil)))))) (st_name 1)))) (ss_next))
    (ss_ret (SX.po (sp_var 1))))))
theorem S__law_parts : DefS Φ__law_parts W__law_parts := so__law_parts
theorem so__law_rest {Φ__law_made : List D → PM → Out D} {W__law_made : List X → W U} (S__law_made : DefS Φ__law_made W__law_made) {Φ__law_results : List D → PM → Out D} {W__law_results : List X → W U} (S__law_results : DefS Φ__law_results W__law_results) : DefS (Pd.run 2 N__law_rest (g__law_rest Φ__law_made Φ__law_results)) (wrun 2 7 (w__law_rest W__law_made W__law_results)) := def_run rfl fun n =>
    ss_seq (ss_asg (sp_var 1) (st_tup (st_cons (st_name 3) (st_cons (st_name 4) (st_cons (st_name 5) (st_nil))))))
    (ss_seq (ss_if (sb_test (SX.pl (sp_op ou_lt (SX.pl (sp_var 3)) (SX.pl (sp_var 4))))) (ss_ret (SX.po (sp_call S__law_made (sxs_cons (sx_u (sp_cb bu_min2 (sls_cons (SX.pl (sp_c (.int 0))) (sls_cons (SX.pl (sp_op ou_add (SX.pl (sp_var 3)) (SX.pl (sp_c (.int 1))))) (sls_nil))))) (sxs_cons (sx_u (sp_cb bu_max2 (sls_cons (SX.pl (sp_c (.int 0))) (sls_cons (SX.pl (sp_op ou_sub (SX.pl (sp_var 4)) (SX.pl (sp_c (.int 1))))) (sls_nil))))) (sxs_cons (sx_u (sp_c (.int 1))) (sxs_nil))))))) (ss_next))
    (ss_seq (ss_if (sb_test (SX.pl (sp_op ou_eq (SX.pl (sp_var 3)) (SX.pl (sp_c (.int 0)))))) (ss_ret (SX.po (sp_c .non))) (ss_next))
    (ss_seq (ss_if (sb_test (SX.pl (sp_op ou_eq (SX.pl (sp_op ou_mod (SX.pl (sp_cb bu_int (sls_cons (SX.pl (sp_op ou_ix (SX.pl (sp_var 0)) (SX.pl (sp_c (.int 2))))) (sls_nil)))) (SX.pl (sp_var 3)))) (SX.pl (sp_c (.int 0)))))) (ss_seq (ss_asg (sp_call S__law_results (sxs_cons (sx_u (sp_c (.str (PySem.Str.ofString "mod")))) (sxs_cons (sx_u (sp_op ou_ix (SX.pl (sp_var 0)) (SX.pl (sp_c (.int 0))))) (sxs_cons (sx_u (sp_var 3)) (sxs_nil))))) (st_name 6))
      (ss_ret (SX.po (sp_tup (si_cons (sp_var 6) (si_cons (sp_var 6) (si_cons (sp_c (.int 0)) (si_nil)))))))) (ss_next))
    (ss_seq (ss_asg (sp_call S__law_results (sxs_cons (sx_u (sp_c (.str (PySem.Str.ofString "/")))) (sxs_cons (sx_u (sp_op ou_ix (SX.pl (sp_var 0)) (SX.pl (sp_c (.int 0))))) (sxs_cons (sx_u (sp_var 3)) (sxs_nil))))) (st_name 2))
    (ss_seq (ss_if (sb_test (SX.pl (sp_op ou_eq (SX.pl (sp_call S__law_results (sxs_cons (sx_u (sp_c (.str (PySem.Str.ofString "/")))) (sxs_cons (sx_u (sp_op ou_ix (SX.pl (sp_var 0)) (SX.pl (sp_c (.int 1))))) (sxs_cons (sx_u (sp_var 3)) (sxs_nil)))))) (SX.pl (sp_var 2))))) (ss_ret (SX.po (sp_call S__law_made (sxs_cons (sx_u (sp_op ou_sub (SX.pl (sp_op ou_ix (SX.pl (sp_var 0)) (SX.pl (sp_c (.int 0))))) (SX.pl (sp_op ou_mul (SX.pl (sp_var 2)) (SX.pl (sp_var 3)))))) (sxs_cons (sx_u (sp_op ou_sub (SX.pl (sp_op ou_ix (SX.pl (sp_var 0)) (SX.pl (sp_c (.int 1))))) (SX.pl (sp_op ou_mul (SX.pl (sp_var 2)) (SX.pl (sp_var 3)))))) (sxs_cons (sx_u (sp_op ou_ix (SX.pl (sp_var 0)) (SX.pl (sp_c (.int 2))))) (sxs_nil))))))) (ss_next))
    (ss_ret (SX.po (sp_call S__law_made (sxs_cons (sx_u (sp_cb bu_min2 (sls_cons (SX.pl (sp_c (.int 0))) (sls_cons (SX.pl (sp_op ou_add (SX.pl (sp_var 3)) (SX.pl (sp_c (.int 1))))) (sls_nil))))) (sxs_cons (sx_u (sp_cb bu_max2 (sls_cons (SX.pl (sp_c (.int 0))) (sls_cons (SX.pl (sp_op ou_sub (SX.pl (sp_var 3)) (SX.pl (sp_c (.int 1))))) (sls_nil))))) (sxs_cons (sx_u (sp_c (.int 1))) (sxs_nil))))))))))))
theorem S__law_rest : DefS Φ__law_rest W__law_rest := so__law_rest S__law_made S__law_results
theorem so__law_pairs : DefS (Pd.run 2 N__law_pairs (g__law_pairs)) (wrun 2 5 (w__law_pairs)) := def_run rfl fun n =>
    ss_seq (ss_new 2 (si_nil))
    (ss_seq (ss_for [3] (si_items (sp_var 0)) (st_name 3) (ss_ext 2 (SX.pl (sp_lc [4] (si_items (sp_var 1)) (st_name 4) sb_yes (sp_tup (si_cons (sp_var 3) (si_cons (sp_var 4) (si_nil))))))))
    (ss_ret (so_var 2)))
theorem S__law_pairs : DefS Φ__law_pairs W__law_pairs := so__law_pairs
theorem so__law_raw {Φ__law_divisor : List D → PM → Out D} {W__law_divisor : List X → W U} (S__law_divisor : DefS Φ__law_divisor W__law_divisor) {Φ__law_made : List D → PM → Out D} {W__law_made : List X → W U} (S__law_made : DefS Φ__law_made W__law_made) {Φ__law_pairs : List D → PM → Out D} {W__law_pairs : List X → W U} (S__law_pairs : DefS Φ__law_pairs W__law_pairs) {Φ__law_rest : List D → PM → Out D} {W__law_rest : List X → W U} (S__law_rest : DefS Φ__law_rest W__law_rest) {Φ__law_parts : List D → PM → Out D} {W__law_parts : List X → W U} (S__law_parts : DefS Φ__law_parts W__law_parts) {Φ__law_results : List D → PM → Out D} {W__law_results : List X → W U} (S__law_results : DefS Φ__law_results W__law_results) : DefS (Pd.run 3 N__law_raw (g__law_raw Φ__law_divisor Φ__law_made Φ__law_pairs Φ__law_rest Φ__law_parts Φ__law_results)) (wrun 3 6 (w__law_raw W__law_divisor W__law_made W__law_pairs W__law_rest W__law_parts W__law_results)) := def_run rfl fun n =>
    ss_seq (ss_asg (sp_call S__law_divisor (sxs_cons (sx_u (sp_op ou_ix (SX.pl (sp_var 1)) (SX.pl (sp_c (.int 2))))) (sxs_cons (sx_u (sp_op ou_ix (SX.pl (sp_var 2)) (SX.pl (sp_c (.int 2))))) (sxs_nil)))) (st_name 3))
    (ss_seq (ss_if (sb_test (SX.pl (sp_op ou_eq (SX.pl (sp_var 0)) (SX.pl (sp_c (.str (PySem.Str.ofString "+"))))))) (ss_ret (SX.po (sp_call S__law_made (sxs_cons (sx_u (sp_op ou_add (SX.pl (sp_op ou_ix (SX.pl (sp_var 1)) (SX.pl (sp_c (.int 0))))) (SX.pl (sp_op ou_ix (SX.pl (sp_var 2)) (SX.pl (sp_c (.int 0))))))) (sxs_cons (sx_u (sp_op ou_add (SX.pl (sp_op ou_ix (SX.pl (sp_var 1)) (SX.pl (sp_c (.int 1))))) (SX.pl (sp_op ou_ix (SX.pl (sp_var 2)) (SX.pl (sp_c (.int 1))))))) (sxs_cons (sx_u (sp_var 3)) (sxs_nil))))))) (ss_next))
    (ss_seq (ss_if (sb_test (SX.pl (sp_op ou_eq (SX.pl (sp_var 0)) (SX.pl (sp_c (.str (PySem.Str.ofString "-"))))))) (ss_ret (SX.po (sp_call S__law_made (sxs_cons (sx_u (sp_op ou_sub (SX.pl (sp_op ou_ix (SX.pl (sp_var 1)) (SX.pl (sp_c (.int 0))))) (SX.pl (sp_op ou_ix (SX.pl (sp_var 2)) (SX.pl (sp_c (.int 1))))))) (sxs_cons (sx_u (sp_op ou_sub (SX.pl (sp_op ou_ix (SX.pl (sp_var 1)) (SX.pl (sp_c (.int 1))))) (SX.pl (sp_op ou_ix (SX.pl (sp_var 2)) (SX.pl (sp_c (.int 0))))))) (sxs_cons (sx_u (sp_var 3)) (sxs_nil))))))) (ss_next))
    (ss_seq (ss_if (sb_test (SX.pl (sp_op ou_eq (SX.pl (sp_var 0)) (SX.pl (sp_c (.str (PySem.Str.ofString "*"))))))) (ss_seq (ss_asg (sp_lc [5] (si_items (sp_call S__law_pairs (sxs_cons (sx_u (sp_sl su_sl (SX.pl (sp_var 1)) (so_none) (so_some (SX.pl (sp_c (.int 2)))))) (sxs_cons (sx_u (sp_sl su_sl (SX.pl (sp_var 2)) (so_none) (so_some (SX.pl (sp_c (.int 2)))))) (sxs_nil))))) (st_name 5) sb_yes (sp_op ou_mul (SX.pl (sp_op ou_ix (SX.pl (sp_var 5)) (SX.pl (sp_c (.int 0))))) (SX.pl (sp_op ou_ix (SX.pl (sp_var 5)) (SX.pl (sp_c (.int 1))))))) (st_name 4))
      (ss_seq (ss_asg (sp_call S__law_divisor (sxs_cons (sx_u (sp_call S__law_divisor (sxs_cons (sx_u (sp_op ou_mul (SX.pl (sp_op ou_ix (SX.pl (sp_var 1)) (SX.pl (sp_c (.int 0))))) (SX.pl (sp_op ou_ix (SX.pl (sp_var 2)) (SX.pl (sp_c (.int 2))))))) (sxs_cons (sx_u (sp_op ou_mul (SX.pl (sp_op ou_ix (SX.pl (sp_var 2)) (SX.pl (sp_c (.int 0))))) (SX.pl (sp_op ou_ix (SX.pl (sp_var 1)) (SX.pl (sp_c (.int 2))))))) (sxs_nil))))) (sxs_cons (sx_u (sp_op ou_mul (SX.pl (sp_op ou_ix (SX.pl (sp_var 1)) (SX.pl (sp_c (.int 2))))) (SX.pl (sp_op ou_ix (SX.pl (sp_var 2)) (SX.pl (sp_c (.int 2))))))) (sxs_nil)))) (st_name 3))
      (ss_ret (SX.po (sp_call S__law_made (sxs_cons (sx_u (sp_cb bu_minL (sls_cons (SX.pl (sp_var 4)) (sls_nil)))) (sxs_cons (sx_u (sp_cb bu_maxL (sls_cons (SX.pl (sp_var 4)) (sls_nil)))) (sxs_cons (sx_u (sp_var 3)) (sxs_nil))))))))) (ss_next))
    (ss_seq (ss_if (sb_test (SX.pl (sp_op ou_eq (SX.pl (sp_var 0)) (SX.pl (sp_c (.str (PySem.Str.ofString "mod"))))))) (ss_ret (SX.po (sp_call S__law_rest (sxs_cons (sx_u (sp_var 1)) (sxs_cons (sx_u (sp_var 2)) (sxs_nil)))))) (ss_next))
    (ss_seq (ss_asg (sp_lc [5] (si_items (sp_call S__law_pairs (sxs_cons (sx_u (sp_sl su_sl (SX.pl (sp_var 1)) (so_none) (so_some (SX.pl (sp_c (.int 2)))))) (sxs_cons (sx_u (sp_call S__law_parts (sxs_cons (sx_u (sp_var 2)) (sxs_nil)))) (sxs_nil))))) (st_name 5) sb_yes (sp_call S__law_results (sxs_cons (sx_u (sp_c (.str (PySem.Str.ofString "/")))) (sxs_cons (sx_u (sp_op ou_ix (SX.pl (sp_var 5)) (SX.pl (sp_c (.int 0))))) (sxs_cons (sx_u (sp_op ou_ix (SX.pl (sp_var 5)) (SX.pl (sp_c (.int 1))))) (sxs_nil)))))) (st_name 4))
    (ss_seq (ss_if (sb_test (SX.pl (sp_op ou_eq (SX.pl (sp_cb bu_len (sls_cons (SX.pl (sp_var 4)) (sls_nil)))) (SX.pl (sp_c (.int 0)))))) (ss_ret (SX.po (sp_c .non))) (ss_next))
    (ss_ret (SX.po (sp_call S__law_made (sxs_cons (sx_u (sp_cb bu_minL (sls_cons (SX.pl (sp_var 4)) (sls_nil)))) (sxs_cons (sx_u (sp_cb bu_maxL (sls_cons (SX.pl (sp_var 4)) (sls_nil)))) (sxs_cons (sx_u (sp_c (.int 1))) (sxs_nil)))))))))))))
theorem S__law_raw : DefS Φ__law_raw W__law_raw := so__law_raw S__law_divisor S__law_made S__law_pairs S__law_rest S__law_parts S__law_results
theorem so__law_has : DefS (Pd.run 2 N__law_has (g__law_has)) (wrun 2 2 (w__law_has)) := def_run rfl fun n =>
    ss_ret (SX.po (sp_andV (SX.pl (sp_ch ou_le ou_le (SX.pl (sp_op ou_ix (SX.pl (sp_var 0)) (SX.pl (sp_c (.int 0))))) (SX.pl (sp_var 1)) (SX.pl (sp_op ou_ix (SX.pl (sp_var 0)) (SX.pl (sp_c (.int 1))))))) (sp_op ou_eq (SX.pl (sp_op ou_mod (SX.pl (sp_cb bu_int (sls_cons (SX.pl (sp_op ou_sub (SX.pl (sp_var 1)) (SX.pl (sp_op ou_ix (SX.pl (sp_var 0)) (SX.pl (sp_c (.int 0))))))) (sls_nil)))) (SX.pl (sp_cb bu_max2 (sls_cons (SX.pl (sp_c (.int 1))) (sls_cons (SX.pl (sp_op ou_ix (SX.pl (sp_var 0)) (SX.pl (sp_c (.int 2))))) (sls_nil))))))) (SX.pl (sp_c (.int 0))))))
theorem S__law_has : DefS Φ__law_has W__law_has := so__law_has
theorem so__law_due {Φ__law_has : List D → PM → Out D} {W__law_has : List X → W U} (S__law_has : DefS Φ__law_has W__law_has) {Φ__law_raw : List D → PM → Out D} {W__law_raw : List X → W U} (S__law_raw : DefS Φ__law_raw W__law_raw) {Φ__law_made : List D → PM → Out D} {W__law_made : List X → W U} (S__law_made : DefS Φ__law_made W__law_made) : DefS (Pd.run 3 N__law_due (g__law_due Φ__law_has Φ__law_raw Φ__law_made)) (wrun 3 8 (w__law_due W__law_has W__law_raw W__law_made)) := def_run rfl fun n =>
    ss_seq (ss_asg (sp_tup (si_nil)) (st_name 3))
    (ss_seq (ss_if (sb_and (sb_test (SX.pl (sp_op ou_in (SX.pl (sp_var 0)) (SX.pl (sp_tup (si_cons (sp_c (.str (PySem.Str.ofString "/"))) (si_cons (sp_c (.str (PySem.Str.ofString "mod"))) (si_nil)))))))) (sb_test (SX.pl (sp_call S__law_has (sxs_cons (sx_u (sp_var 2)) (sxs_cons (sx_u (sp_c (.int 0))) (sxs_nil))))))) (ss_asg (sp_tup (si_cons (sp_c (.str (PySem.Str.ofString "division"))) (si_nil))) (st_name 3)) (ss_next))
    (ss_seq (ss_asg (sp_call S__law_raw (sxs_cons (sx_u (sp_var 0)) (sxs_cons (sx_u (sp_var 1)) (sxs_cons (sx_u (sp_var 2)) (sxs_nil))))) (st_name 4))
    (ss_seq (ss_if (sb_test (SX.pl (sp_op ou_is2 (SX.pl (sp_var 4)) (SX.pl (sp_c .non))))) (ss_ret (SX.po (sp_tup (si_cons (sp_c .non) (si_cons (sp_var 3) (si_nil)))))) (ss_next))
    (ss_seq (ss_asg (sp_var 4) (st_tup (st_cons (st_name 5) (st_cons (st_name 6) (st_cons (st_name 7) (st_nil))))))
    (ss_seq (ss_if (sb_or (sb_test (SX.pl (sp_op ou_lt (SX.pl (sp_var 5)) (SX.pl (sp_un nu_neg (SX.pl (sp_c (.int 10000)))))))) (sb_test (SX.pl (sp_op ou_gt (SX.pl (sp_var 6)) (SX.pl (sp_c (.int 10000))))))) (ss_asg (sp_op ou_add (SX.pl (sp_var 3)) (SX.pl (sp_tup (si_cons (sp_c (.str (PySem.Str.ofString "overflow"))) (si_nil))))) (st_name 3)) (ss_next))
    (ss_seq (ss_if (sb_test (SX.pl (sp_op ou_lt (SX.pl (sp_var 5)) (SX.pl (sp_un nu_neg (SX.pl (sp_c (.int 10000)))))))) (ss_asg (sp_op ou_add (SX.pl (sp_var 5)) (SX.pl (sp_op ou_mul (SX.pl (sp_op ou_fdiv (SX.pl (sp_op ou_sub (SX.pl (sp_op ou_add (SX.pl (sp_op ou_sub (SX.pl (sp_op ou_sub (SX.pl (sp_c (.int 0))) (SX.pl (sp_c (.int 10000))))) (SX.pl (sp_var 5)))) (SX.pl (sp_var 7)))) (SX.pl (sp_c (.int 1))))) (SX.pl (sp_cb bu_max2 (sls_cons (SX.pl (sp_c (.int 1))) (sls_cons (SX.pl (sp_var 7)) (sls_nil))))))) (SX.pl (sp_var 7))))) (st_name 5)) (ss_next))
    (ss_seq (ss_if (sb_test (SX.pl (sp_op ou_gt (SX.pl (sp_var 6)) (SX.pl (sp_c (.int 10000)))))) (ss_asg (sp_op ou_sub (SX.pl (sp_var 6)) (SX.pl (sp_op ou_mul (SX.pl (sp_op ou_fdiv (SX.pl (sp_op ou_sub (SX.pl (sp_op ou_add (SX.pl (sp_op ou_sub (SX.pl (sp_var 6)) (SX.pl (sp_c (.int 10000))))) (SX.pl (sp_var 7)))) (SX.pl (sp_c (.int 1))))) (SX.pl (sp_cb bu_max2 (sls_cons (SX.pl (sp_c (.int 1))) (sls_cons (SX.pl (sp_var 7)) (sls_nil))))))) (SX.pl (sp_var 7))))) (st_name 6)) (ss_next))
    (ss_seq (ss_if (sb_or (sb_and (sb_test (SX.pl (sp_op ou_eq (SX.pl (sp_op ou_ix (SX.pl (sp_var 4)) (SX.pl (sp_c (.int 2))))) (SX.pl (sp_c (.int 0)))))) (sb_test (SX.pl (sp_op ou_eqQ (SX.pl (sp_sl su_sl (SX.pl (sp_var 3)) (so_some (SX.pl (sp_un nu_neg (SX.pl (sp_c (.int 1)))))) (so_none))) (SX.pl (sp_tup (si_cons (sp_c (.str (PySem.Str.ofString "overflow"))) (si_nil)))))))) (sb_test (SX.pl (sp_op ou_gt (SX.pl (sp_var 5)) (SX.pl (sp_var 6)))))) (ss_ret (SX.po (sp_tup (si_cons (sp_c .non) (si_cons (sp_var 3) (si_nil)))))) (ss_next))
    (ss_ret (SX.po (sp_tup (si_cons (sp_call S__law_made (sxs_cons (sx_u (sp_var 5)) (sxs_cons (sx_u (sp_var 6)) (sxs_cons (sx_u (sp_var 7)) (sxs_nil))))) (si_cons (sp_var 3) (si_nil))))))))))))))
theorem S__law_due : DefS Φ__law_due W__law_due := so__law_due S__law_has S__law_raw S__law_made
theorem so__law_sound {Φ__law_results : List D → PM → Out D} {W__law_results : List X → W U} (S__law_results : DefS Φ__law_results W__law_results) {Φ__law_has : List D → PM → Out D} {W__law_has : List X → W U} (S__law_has : DefS Φ__law_has W__law_has) : DefS (Pd.run 4 N__law_sound (g__law_sound Φ__law_results Φ__law_has)) (wrun 4 9 (w__law_sound W__law_results W__law_has)) := def_run rfl fun n =>
    ss_seq (ss_asg (sp_var 1) (st_tup (st_cons (st_name 5) (st_cons (st_name 6) (st_nil)))))
    (ss_seq (ss_for [4, 7, 8] (si_items (sp_var 2)) (st_name 4) (ss_for [7, 8] (si_items (sp_var 3)) (st_name 7) (ss_seq (ss_asg (sp_call S__law_results (sxs_cons (sx_u (sp_var 0)) (sxs_cons (sx_u (sp_var 4)) (sxs_cons (sx_u (sp_var 7)) (sxs_nil))))) (st_name 8))
        (ss_if (sb_test (SX.pl (sp_op ou_is2 (SX.pl (sp_var 8)) (SX.pl (sp_c .non))))) (ss_if (sb_test (SX.pl (sp_op ou_notIn (SX.pl (sp_c (.str (PySem.Str.ofString "division")))) (SX.pl (sp_var 6))))) (ss_ret (SX.po (sp_c (.bl false)))) (ss_next)) (ss_if (sb_not (sb_test (SX.pl (sp_ch ou_le ou_le (SX.pl (sp_un nu_neg (SX.pl (sp_c (.int 10000))))) (SX.pl (sp_var 8)) (SX.pl (sp_c (.int 10000))))))) (ss_if (sb_test (SX.pl (sp_op ou_notIn (SX.pl (sp_c (.str (PySem.Str.ofString "overflow")))) (SX.pl (sp_var 6))))) (ss_ret (SX.po (sp_c (.bl false)))) (ss_next)) (ss_if (sb_or (sb_test (SX.pl (sp_op ou_is2 (SX.pl (sp_var 5)) (SX.pl (sp_c .non))))) (sb_not (sb_test (SX.pl (sp_call S__law_has (sxs_cons (sx_u (sp_var 5)) (sxs_cons (sx_u (sp_var 8)) (sxs_nil)))))))) (ss_ret (SX.po (sp_c (.bl false)))) (ss_next)))))))
    (ss_ret (SX.po (sp_c (.bl true)))))
theorem S__law_sound : DefS Φ__law_sound W__law_sound := so__law_sound S__law_results S__law_has
theorem so__law_some {Φ__law_next : List D → PM → Out D} {W__law_next : List X → W U} (S__law_next : DefS Φ__law_next W__law_next) : DefS (Pd.run 3 N__law_some (g__law_some Φ__law_next)) (wrun 3 5 (w__law_some W__law_next)) := def_run rfl fun n =>
    ss_seq (ss_asg (sp_c (.int 0)) (st_name 3))
    (ss_seq (ss_if (sb_test (SX.pl (sp_op ou_gt (SX.pl (sp_op ou_ix (SX.pl (sp_var 2)) (SX.pl (sp_c (.int 2))))) (SX.pl (sp_c (.int 0)))))) (ss_asg (sp_op ou_fdiv (SX.pl (sp_op ou_sub (SX.pl (sp_op ou_ix (SX.pl (sp_var 2)) (SX.pl (sp_c (.int 1))))) (SX.pl (sp_op ou_ix (SX.pl (sp_var 2)) (SX.pl (sp_c (.int 0))))))) (SX.pl (sp_op ou_ix (SX.pl (sp_var 2)) (SX.pl (sp_c (.int 2)))))) (st_name 3)) (ss_next))
    (ss_ret (SX.po (sp_op ou_add (SX.pl (sp_lst (si_cons (sp_op ou_ix (SX.pl (sp_var 2)) (SX.pl (sp_c (.int 0)))) (si_cons (sp_op ou_ix (SX.pl (sp_var 2)) (SX.pl (sp_c (.int 1)))) (si_nil))))) (SX.pl (sp_lc [4] (si_rng1 (si_cons (sp_c (.int 2)) (si_nil))) (st_name 4) sb_yes (sp_op ou_add (SX.pl (sp_op ou_ix (SX.pl (sp_var 2)) (SX.pl (sp_c (.int 0))))) (SX.pl (sp_op ou_mul (SX.pl (sp_op ou_ix (SX.pl (sp_var 2)) (SX.pl (sp_c (.int 2))))) (SX.pl (sp_call S__law_next (sxs_cons (sx_u (sp_var 0)) (sxs_cons (sx_u (sp_var 1)) (sxs_cons (sx_u (sp_op ou_add (SX.pl (sp_var 3)) (SX.pl (sp_c (.int 1))))) (sxs_nil)))))))))))))))
theorem S__law_some : DefS Φ__law_some W__law_some := so__law_some S__law_next
theorem ss_law {Φ__law_range : List D → PM → Out D} {W__law_range : List X → W U} (S__law_range : DefS Φ__law_range W__law_range) {Φ__law_next : List D → PM → Out D} {W__law_next : List X → W U} (S__law_next : DefS Φ__law_next W__law_next) {Φ_combine : List D → PM → Out D} {W_combine : List X → W U} (S_combine : DefS Φ_combine W_combine) {Φ__law_same : List D → PM → Out D} {W__law_same : List X → W U} (S__law_same : DefS Φ__law_same W__law_same) {Φ__law_due : List D → PM → Out D} {W__law_due : List X → W U} (S__law_due : DefS Φ__law_due W__law_due) {Φ__law_some : List D → PM → Out D} {W__law_some : List X → W U} (S__law_some : DefS Φ__law_some W__law_some) {Φ__law_members : List D → PM → Out D} {W__law_members : List X → W U} (S__law_members : DefS Φ__law_members W__law_members) {Φ__law_sound : List D → PM → Out D} {W__law_sound : List X → W U} (S__law_sound : DefS Φ__law_sound W__law_sound) (n : Nat) : SS n (sSeq (sFor (pItems (pTup (aCons (pC (.str (PySem.Str.ofString "+"))) (aCons (pC (.str (PySem.Str.ofString "-"))) (aCons (pC (.str (PySem.Str.ofString "*"))) (aCons (pC (.str (PySem.Str.ofString "/"))) (aCons (pC (.str (PySem.Str.ofString "mod"))) (aNil)))))))) (fName 2) (lb_law_2 Φ__law_range Φ__law_next Φ_combine Φ__law_same Φ__law_due Φ__law_some Φ__law_members Φ__law_sound))
    (sRet (pC (.bl true)))) (w_law W__law_range W__law_next W_combine W__law_same W__law_due W__law_some W__law_members W__law_sound) :=
    ss_seq (ss_for [2, 3, 4, 5, 6, 7, 8] (si_items (sp_tup (si_cons (sp_c (.str (PySem.Str.ofString "+"))) (si_cons (sp_c (.str (PySem.Str.ofString "-"))) (si_cons (sp_c (.str (PySem.Str.ofString "*"))) (si_cons (sp_c (.str (PySem.Str.ofString "/"))) (si_cons (sp_c (.str (PySem.Str.ofString "mod"))) (si_nil)))))))) (st_name 2) (ss_for [3, 4, 5, 6, 7, 8] (si_items (sp_tup (si_cons (sp_c (.bl false)) (si_cons (sp_c (.bl false)) (si_cons (sp_c (.bl true)) (si_nil)))))) (st_name 3) (ss_seq (ss_asg (sp_call S__law_range (sxs_cons (sx_u (sp_var 1)) (sxs_cons (sx_u (sp_var 0)) (sxs_cons (sx_u (sp_var 3)) (sxs_nil))))) (st_name 4))
        (ss_seq (ss_asg (sp_call S__law_range (sxs_cons (sx_u (sp_var 1)) (sxs_cons (sx_u (sp_var 0)) (sxs_cons (sx_u (sp_andV (SX.pl (sp_var 3)) (sp_op ou_eq (SX.pl (sp_call S__law_next (sxs_cons (sx_u (sp_var 1)) (sxs_cons (sx_u (sp_var 0)) (sxs_cons (sx_u (sp_c (.int 2))) (sxs_nil)))))) (SX.pl (sp_c (.int 0)))))) (sxs_nil))))) (st_name 5))
        (ss_seq (ss_asg (sp_call S_combine (sxs_cons (sx_u (sp_var 2)) (sxs_cons (sx_u (sp_var 4)) (sxs_cons (sx_u (sp_var 5)) (sxs_nil))))) (st_name 6))
        (ss_seq (ss_if (sb_not (sb_test (SX.pl (sp_call S__law_same (sxs_cons (sx_u (sp_var 6)) (sxs_cons (sx_u (sp_call S__law_due (sxs_cons (sx_u (sp_var 2)) (sxs_cons (sx_u (sp_var 4)) (sxs_cons (sx_u (sp_var 5)) (sxs_nil)))))) (sxs_nil))))))) (ss_ret (SX.po (sp_c (.bl false)))) (ss_next))
        (ss_seq (ss_if (sb_test (SX.pl (sp_var 3))) (ss_par 7 8 (si_cons (sp_call S__law_some (sxs_cons (sx_u (sp_var 1)) (sxs_cons (sx_u (sp_var 0)) (sxs_cons (sx_u (sp_var 4)) (sxs_nil))))) (si_cons (sp_call S__law_some (sxs_cons (sx_u (sp_var 1)) (sxs_cons (sx_u (sp_var 0)) (sxs_cons (sx_u (sp_var 5)) (sxs_nil))))) (si_nil)))) (ss_par 7 8 (si_cons (sp_call S__law_members (sxs_cons (sx_u (sp_var 4)) (sxs_nil))) (si_cons (sp_call S__law_members (sxs_cons (sx_u (sp_var 5)) (sxs_nil))) (si_nil)))))
        (ss_if (sb_not (sb_test (SX.pl (sp_call S__law_sound (sxs_cons (sx_u (sp_var 2)) (sxs_cons (sx_u (sp_var 6)) (sxs_cons (sx_u (sp_var 7)) (sxs_cons (sx_u (sp_var 8)) (sxs_nil))))))))) (ss_ret (SX.po (sp_c (.bl false)))) (ss_next)))))))))
    (ss_ret (SX.po (sp_c (.bl true))))
def wlaw (ns : List Int) : W WFl := w_law W__law_range W__law_next W_combine W__law_same W__law_due W__law_some W__law_members W__law_sound (some (.u (.rol ns)) :: some (.u .st) :: List.replicate 7 none)
theorem law_of_w (ns : List Int) (h : wlaw ns (fun wf => wf = .rt (.bl true)) (fun _ _ => False)) : ∃ M, Φ_law [.rol (ns.map .int)] [] = .ok (.bl true) M :=
  law_end (N := N_law) (nl := 7) (f := aCons (pC (.int 0)) (aCons (pC (.int 0)) (aCons (pC (.int 1)) (aCons (pC (.int 0)) (aNil))))) (ds := [.int 0, .int 0, .int 1, .int 0]) rfl rfl (by decide) Rst.start rfl (ss_law S__law_range S__law_next S_combine S__law_same S__law_due S__law_some S__law_members S__law_sound) h
/-! ### what the top has left -/
theorem all_mk {l : PySem.W.OpenLaw} {w : World} {K : PySem.W.Frag} {h : Heap} {mg : Str → Option Value} {fa : Addr} (X : K.In h) (G : h.Ns mainGlobals mg) (hfa : mg "law" = some (.ref fa))
    {f_has : Addr} {oc_has kV_has dc_has pm_has cd_has ct_has : Value} {od_has an_has : Option Addr} {sl_has : Array (Option Value)}
    {f_with_ends : Addr} {oc_with_ends kV_with_ends dc_with_ends pm_with_ends cd_with_ends ct_with_ends : Value} {od_with_ends an_with_ends : Option Addr} {sl_with_ends : Array (Option Value)}
    {f_at_most : Addr} {oc_at_most kV_at_most dc_at_most pm_at_most cd_at_most ct_at_most : Value} {od_at_most an_at_most : Option Addr} {sl_at_most : Array (Option Value)}
    {f_at_least : Addr} {oc_at_least kV_at_least dc_at_least pm_at_least cd_at_least ct_at_least : Value} {od_at_least an_at_least : Option Addr} {sl_at_least : Array (Option Value)}
    {f_between : Addr} {oc_between kV_between dc_between pm_between cd_between ct_between : Value} {od_between an_between : Option Addr} {sl_between : Array (Option Value)}
    {f_raw_sum : Addr} {oc_raw_sum kV_raw_sum dc_raw_sum pm_raw_sum cd_raw_sum ct_raw_sum : Value} {od_raw_sum an_raw_sum : Option Addr} {sl_raw_sum : Array (Option Value)}
    {f_raw_difference : Addr} {oc_raw_difference kV_raw_difference dc_raw_difference pm_raw_difference cd_raw_difference ct_raw_difference : Value} {od_raw_difference an_raw_difference : Option Addr} {sl_raw_difference : Array (Option Value)}
    {f_raw_product : Addr} {oc_raw_product kV_raw_product dc_raw_product pm_raw_product cd_raw_product ct_raw_product : Value} {od_raw_product an_raw_product : Option Addr} {sl_raw_product : Array (Option Value)}
    {f_raw_quotient : Addr} {oc_raw_quotient kV_raw_quotient dc_raw_quotient pm_raw_quotient cd_raw_quotient ct_raw_quotient : Value} {od_raw_quotient an_raw_quotient : Option Addr} {sl_raw_quotient : Array (Option Value)}
    {f_remainder_by_one : Addr} {oc_remainder_by_one kV_remainder_by_one dc_remainder_by_one pm_remainder_by_one cd_remainder_by_one ct_remainder_by_one : Value} {od_remainder_by_one an_remainder_by_one : Option Addr} {sl_remainder_by_one : Array (Option Value)}
    {f_raw_remainder : Addr} {oc_raw_remainder kV_raw_remainder dc_raw_remainder pm_raw_remainder cd_raw_remainder ct_raw_remainder : Value} {od_raw_remainder an_raw_remainder : Option Addr} {sl_raw_remainder : Array (Option Value)}
    {f_combine : Addr} {oc_combine kV_combine dc_combine pm_combine cd_combine ct_combine : Value} {od_combine an_combine : Option Addr} {sl_combine : Array (Option Value)}
    {f__law_next : Addr} {oc__law_next kV__law_next dc__law_next pm__law_next cd__law_next ct__law_next : Value} {od__law_next an__law_next : Option Addr} {sl__law_next : Array (Option Value)}
    {f__law_same : Addr} {oc__law_same kV__law_same dc__law_same pm__law_same cd__law_same ct__law_same : Value} {od__law_same an__law_same : Option Addr} {sl__law_same : Array (Option Value)}
    {f__law_range : Addr} {oc__law_range kV__law_range dc__law_range pm__law_range cd__law_range ct__law_range : Value} {od__law_range an__law_range : Option Addr} {sl__law_range : Array (Option Value)}
    {f__law_members : Addr} {oc__law_members kV__law_members dc__law_members pm__law_members cd__law_members ct__law_members : Value} {od__law_members an__law_members : Option Addr} {sl__law_members : Array (Option Value)}
    {f__law_divisor : Addr} {oc__law_divisor kV__law_divisor dc__law_divisor pm__law_divisor cd__law_divisor ct__law_divisor : Value} {od__law_divisor an__law_divisor : Option Addr} {sl__law_divisor : Array (Option Value)}
    {f__law_made : Addr} {oc__law_made kV__law_made dc__law_made pm__law_made cd__law_made ct__law_made : Value} {od__law_made an__law_made : Option Addr} {sl__law_made : Array (Option Value)}
    {f__law_results : Addr} {oc__law_results kV__law_results dc__law_results pm__law_results cd__law_results ct__law_results : Value} {od__law_results an__law_results : Option Addr} {sl__law_results : Array (Option Value)}
    {f__law_parts : Addr} {oc__law_parts kV__law_parts dc__law_parts pm__law_parts cd__law_parts ct__law_parts : Value} {od__law_parts an__law_parts : Option Addr} {sl__law_parts : Array (Option Value)}
    {f__law_rest : Addr} {oc__law_rest kV__law_rest dc__law_rest pm__law_rest cd__law_rest ct__law_rest : Value} {od__law_rest an__law_rest : Option Addr} {sl__law_rest : Array (Option Value)}
    {f__law_pairs : Addr} {oc__law_pairs kV__law_pairs dc__law_pairs pm__law_pairs cd__law_pairs ct__law_pairs : Value} {od__law_pairs an__law_pairs : Option Addr} {sl__law_pairs : Array (Option Value)}
    {f__law_raw : Addr} {oc__law_raw kV__law_raw dc__law_raw pm__law_raw cd__law_raw ct__law_raw : Value} {od__law_raw an__law_raw : Option Addr} {sl__law_raw : Array (Option Value)}
    {f__law_has : Addr} {oc__law_has kV__law_has dc__law_has pm__law_has cd__law_has ct__law_has : Value} {od__law_has an__law_has : Option Addr} {sl__law_has : Array (Option Value)}
    {f__law_due : Addr} {oc__law_due kV__law_due dc__law_due pm__law_due cd__law_due ct__law_due : Value} {od__law_due an__law_due : Option Addr} {sl__law_due : Array (Option Value)}
    {f__law_sound : Addr} {oc__law_sound kV__law_sound dc__law_sound pm__law_sound cd__law_sound ct__law_sound : Value} {od__law_sound an__law_sound : Option Addr} {sl__law_sound : Array (Option Value)}
    {f__law_some : Addr} {oc__law_some kV__law_some dc__law_some pm__law_some cd__law_some ct__law_some : Value} {od__law_some an__law_some : Option Addr} {sl__law_some : Array (Option Value)}
    {f_law : Addr} {oc_law kV_law dc_law pm_law cd_law ct_law : Value} {od_law an_law : Option Addr} {sl_law : Array (Option Value)}
    {d_RAW_RANGES : Addr} {es_RAW_RANGES : Array DictEntry} {n_RAW_RANGES : Nat}
    {t_LEAST_VALUE : Tok}
    {t_GREATEST_VALUE : Tok}
    (a_has : PySem.W.nsIn K mainGlobals "has" = some (some (.ref f_has)))
    (l_has : K.lookup f_has = some ⟨oc_has, od_has, .func (PySem.W.fnOf "has" "has" (defArgs s_has) (defBody s_has) (defScope s_has) .none kV_has dc_has pm_has an_has cd_has ct_has), sl_has⟩)
    (c_has : PySem.W.codeIn K cd_has "has" = true)
    (k_has : PySem.W.keepIn K (.ref f_has) = true)
    (a_with_ends : PySem.W.nsIn K mainGlobals "with_ends" = some (some (.ref f_with_ends)))
    (l_with_ends : K.lookup f_with_ends = some ⟨oc_with_ends, od_with_ends, .func (PySem.W.fnOf "with_ends" "with_ends" (defArgs s_with_ends) (defBody s_with_ends) (defScope s_with_ends) .none kV_with_ends dc_with_ends pm_with_ends an_with_ends cd_with_ends ct_with_ends), sl_with_ends⟩)
    (c_with_ends : PySem.W.codeIn K cd_with_ends "with_ends" = true)
    (k_with_ends : PySem.W.keepIn K (.ref f_with_ends) = true)
    (a_at_most : PySem.W.nsIn K mainGlobals "at_most" = some (some (.ref f_at_most)))
    (l_at_most : K.lookup f_at_most = some ⟨oc_at_most, od_at_most, .func (PySem.W.fnOf "at_most" "at_most" (defArgs s_at_most) (defBody s_at_most) (defScope s_at_most) .none kV_at_most dc_at_most pm_at_most an_at_most cd_at_most ct_at_most), sl_at_most⟩)
    (c_at_most : PySem.W.codeIn K cd_at_most "at_most" = true)
    (k_at_most : PySem.W.keepIn K (.ref f_at_most) = true)
    (a_at_least : PySem.W.nsIn K mainGlobals "at_least" = some (some (.ref f_at_least)))
    (l_at_least : K.lookup f_at_least = some ⟨oc_at_least, od_at_least, .func (PySem.W.fnOf "at_least" "at_least" (defArgs s_at_least) (defBody s_at_least) (defScope s_at_least) .none kV_at_least dc_at_least pm_at_least an_at_least cd_at_least ct_at_least), sl_at_least⟩)
    (c_at_least : PySem.W.codeIn K cd_at_least "at_least" = true)
    (k_at_least : PySem.W.keepIn K (.ref f_at_least) = true)
    (a_between : PySem.W.nsIn K mainGlobals "between" = some (some (.ref f_between)))
    (l_between : K.lookup f_between = some ⟨oc_between, od_between, .func (PySem.W.fnOf "between" "between" (defArgs s_between) (defBody s_between) (defScope s_between) .none kV_between dc_between pm_between an_between cd_between ct_between), sl_between⟩)
    (c_between : PySem.W.codeIn K cd_between "between" = true)
    (k_between : PySem.W.keepIn K (.ref f_between) = true)
    (a_raw_sum : PySem.W.nsIn K mainGlobals "raw_sum" = some (some (.ref f_raw_sum)))
    (l_raw_sum : K.lookup f_raw_sum = some ⟨oc_raw_sum, od_raw_sum, .func (PySem.W.fnOf "raw_sum" "raw_sum" (defArgs s_raw_sum) (defBody s_raw_sum) (defScope s_raw_sum) .none kV_raw_sum dc_raw_sum pm_raw_sum an_raw_sum cd_raw_sum ct_raw_sum), sl_raw_sum⟩)
    (c_raw_sum : PySem.W.codeIn K cd_raw_sum "raw_sum" = true)
    (k_raw_sum : PySem.W.keepIn K (.ref f_raw_sum) = true)
    (a_raw_difference : PySem.W.nsIn K mainGlobals "raw_difference" = some (some (.ref f_raw_difference)))
    (l_raw_difference : K.lookup f_raw_difference = some ⟨oc_raw_difference, od_raw_difference, .func (PySem.W.fnOf "raw_difference" "raw_difference" (defArgs s_raw_difference) (defBody s_raw_difference) (defScope s_raw_difference) .none kV_raw_difference dc_raw_difference pm_raw_difference an_raw_difference cd_raw_difference ct_raw_difference), sl_raw_difference⟩)
    (c_raw_difference : PySem.W.codeIn K cd_raw_difference "raw_difference" = true)
    (k_raw_difference : PySem.W.keepIn K (.ref f_raw_difference) = true)
    (a_raw_product : PySem.W.nsIn K mainGlobals "raw_product" = some (some (.ref f_raw_product)))
    (l_raw_product : K.lookup f_raw_product = some ⟨oc_raw_product, od_raw_product, .func (PySem.W.fnOf "raw_product" "raw_product" (defArgs s_raw_product) (defBody s_raw_product) (defScope s_raw_product) .none kV_raw_product dc_raw_product pm_raw_product an_raw_product cd_raw_product ct_raw_product), sl_raw_product⟩)
    (c_raw_product : PySem.W.codeIn K cd_raw_product "raw_product" = true)
    (k_raw_product : PySem.W.keepIn K (.ref f_raw_product) = true)
    (a_raw_quotient : PySem.W.nsIn K mainGlobals "raw_quotient" = some (some (.ref f_raw_quotient)))
    (l_raw_quotient : K.lookup f_raw_quotient = some ⟨oc_raw_quotient, od_raw_quotient, .func (PySem.W.fnOf "raw_quotient" "raw_quotient" (defArgs s_raw_quotient) (defBody s_raw_quotient) (defScope s_raw_quotient) .none kV_raw_quotient dc_raw_quotient pm_raw_quotient an_raw_quotient cd_raw_quotient ct_raw_quotient), sl_raw_quotient⟩)
    (c_raw_quotient : PySem.W.codeIn K cd_raw_quotient "raw_quotient" = true)
    (k_raw_quotient : PySem.W.keepIn K (.ref f_raw_quotient) = true)
    (a_remainder_by_one : PySem.W.nsIn K mainGlobals "remainder_by_one" = some (some (.ref f_remainder_by_one)))
    (l_remainder_by_one : K.lookup f_remainder_by_one = some ⟨oc_remainder_by_one, od_remainder_by_one, .func (PySem.W.fnOf "remainder_by_one" "remainder_by_one" (defArgs s_remainder_by_one) (defBody s_remainder_by_one) (defScope s_remainder_by_one) .none kV_remainder_by_one dc_remainder_by_one pm_remainder_by_one an_remainder_by_one cd_remainder_by_one ct_remainder_by_one), sl_remainder_by_one⟩)
    (c_remainder_by_one : PySem.W.codeIn K cd_remainder_by_one "remainder_by_one" = true)
    (k_remainder_by_one : PySem.W.keepIn K (.ref f_remainder_by_one) = true)
    (a_raw_remainder : PySem.W.nsIn K mainGlobals "raw_remainder" = some (some (.ref f_raw_remainder)))
    (l_raw_remainder : K.lookup f_raw_remainder = some ⟨oc_raw_remainder, od_raw_remainder, .func (PySem.W.fnOf "raw_remainder" "raw_remainder" (defArgs s_raw_remainder) (defBody s_raw_remainder) (defScope s_raw_remainder) .none kV_raw_remainder dc_raw_remainder pm_raw_remainder an_raw_remainder cd_raw_remainder ct_raw_remainder), sl_raw_remainder⟩)
    (c_raw_remainder : PySem.W.codeIn K cd_raw_remainder "raw_remainder" = true)
    (k_raw_remainder : PySem.W.keepIn K (.ref f_raw_remainder) = true)
    (a_combine : PySem.W.nsIn K mainGlobals "combine" = some (some (.ref f_combine)))
    (l_combine : K.lookup f_combine = some ⟨oc_combine, od_combine, .func (PySem.W.fnOf "combine" "combine" (defArgs s_combine) (defBody s_combine) (defScope s_combine) .none kV_combine dc_combine pm_combine an_combine cd_combine ct_combine), sl_combine⟩)
    (c_combine : PySem.W.codeIn K cd_combine "combine" = true)
    (k_combine : PySem.W.keepIn K (.ref f_combine) = true)
    (a__law_next : PySem.W.nsIn K mainGlobals "_law_next" = some (some (.ref f__law_next)))
    (l__law_next : K.lookup f__law_next = some ⟨oc__law_next, od__law_next, .func (PySem.W.fnOf "_law_next" "_law_next" (defArgs s__law_next) (defBody s__law_next) (defScope s__law_next) .none kV__law_next dc__law_next pm__law_next an__law_next cd__law_next ct__law_next), sl__law_next⟩)
    (c__law_next : PySem.W.codeIn K cd__law_next "_law_next" = true)
    (k__law_next : PySem.W.keepIn K (.ref f__law_next) = true)
    (a__law_same : PySem.W.nsIn K mainGlobals "_law_same" = some (some (.ref f__law_same)))
    (l__law_same : K.lookup f__law_same = some ⟨oc__law_same, od__law_same, .func (PySem.W.fnOf "_law_same" "_law_same" (defArgs s__law_same) (defBody s__law_same) (defScope s__law_same) .none kV__law_same dc__law_same pm__law_same an__law_same cd__law_same ct__law_same), sl__law_same⟩)
    (c__law_same : PySem.W.codeIn K cd__law_same "_law_same" = true)
    (k__law_same : PySem.W.keepIn K (.ref f__law_same) = true)
    (a__law_range : PySem.W.nsIn K mainGlobals "_law_range" = some (some (.ref f__law_range)))
    (l__law_range : K.lookup f__law_range = some ⟨oc__law_range, od__law_range, .func (PySem.W.fnOf "_law_range" "_law_range" (defArgs s__law_range) (defBody s__law_range) (defScope s__law_range) .none kV__law_range dc__law_range pm__law_range an__law_range cd__law_range ct__law_range), sl__law_range⟩)
    (c__law_range : PySem.W.codeIn K cd__law_range "_law_range" = true)
    (k__law_range : PySem.W.keepIn K (.ref f__law_range) = true)
    (a__law_members : PySem.W.nsIn K mainGlobals "_law_members" = some (some (.ref f__law_members)))
    (l__law_members : K.lookup f__law_members = some ⟨oc__law_members, od__law_members, .func (PySem.W.fnOf "_law_members" "_law_members" (defArgs s__law_members) (defBody s__law_members) (defScope s__law_members) .none kV__law_members dc__law_members pm__law_members an__law_members cd__law_members ct__law_members), sl__law_members⟩)
    (c__law_members : PySem.W.codeIn K cd__law_members "_law_members" = true)
    (k__law_members : PySem.W.keepIn K (.ref f__law_members) = true)
    (a__law_divisor : PySem.W.nsIn K mainGlobals "_law_divisor" = some (some (.ref f__law_divisor)))
    (l__law_divisor : K.lookup f__law_divisor = some ⟨oc__law_divisor, od__law_divisor, .func (PySem.W.fnOf "_law_divisor" "_law_divisor" (defArgs s__law_divisor) (defBody s__law_divisor) (defScope s__law_divisor) .none kV__law_divisor dc__law_divisor pm__law_divisor an__law_divisor cd__law_divisor ct__law_divisor), sl__law_divisor⟩)
    (c__law_divisor : PySem.W.codeIn K cd__law_divisor "_law_divisor" = true)
    (k__law_divisor : PySem.W.keepIn K (.ref f__law_divisor) = true)
    (a__law_made : PySem.W.nsIn K mainGlobals "_law_made" = some (some (.ref f__law_made)))
    (l__law_made : K.lookup f__law_made = some ⟨oc__law_made, od__law_made, .func (PySem.W.fnOf "_law_made" "_law_made" (defArgs s__law_made) (defBody s__law_made) (defScope s__law_made) .none kV__law_made dc__law_made pm__law_made an__law_made cd__law_made ct__law_made), sl__law_made⟩)
    (c__law_made : PySem.W.codeIn K cd__law_made "_law_made" = true)
    (k__law_made : PySem.W.keepIn K (.ref f__law_made) = true)
    (a__law_results : PySem.W.nsIn K mainGlobals "_law_results" = some (some (.ref f__law_results)))
    (l__law_results : K.lookup f__law_results = some ⟨oc__law_results, od__law_results, .func (PySem.W.fnOf "_law_results" "_law_results" (defArgs s__law_results) (defBody s__law_results) (defScope s__law_results) .none kV__law_results dc__law_results pm__law_results an__law_results cd__law_results ct__law_results), sl__law_results⟩)
    (c__law_results : PySem.W.codeIn K cd__law_results "_law_results" = true)
    (k__law_results : PySem.W.keepIn K (.ref f__law_results) = true)
    (a__law_parts : PySem.W.nsIn K mainGlobals "_law_parts" = some (some (.ref f__law_parts)))
    (l__law_parts : K.lookup f__law_parts = some ⟨oc__law_parts, od__law_parts, .func (PySem.W.fnOf "_law_parts" "_law_parts" (defArgs s__law_parts) (defBody s__law_parts) (defScope s__law_parts) .none kV__law_parts dc__law_parts pm__law_parts an__law_parts cd__law_parts ct__law_parts), sl__law_parts⟩)
    (c__law_parts : PySem.W.codeIn K cd__law_parts "_law_parts" = true)
    (k__law_parts : PySem.W.keepIn K (.ref f__law_parts) = true)
    (a__law_rest : PySem.W.nsIn K mainGlobals "_law_rest" = some (some (.ref f__law_rest)))
    (l__law_rest : K.lookup f__law_rest = some ⟨oc__law_rest, od__law_rest, .func (PySem.W.fnOf "_law_rest" "_law_rest" (defArgs s__law_rest) (defBody s__law_rest) (defScope s__law_rest) .none kV__law_rest dc__law_rest pm__law_rest an__law_rest cd__law_rest ct__law_rest), sl__law_rest⟩)
    (c__law_rest : PySem.W.codeIn K cd__law_rest "_law_rest" = true)
    (k__law_rest : PySem.W.keepIn K (.ref f__law_rest) = true)
    (a__law_pairs : PySem.W.nsIn K mainGlobals "_law_pairs" = some (some (.ref f__law_pairs)))
    (l__law_pairs : K.lookup f__law_pairs = some ⟨oc__law_pairs, od__law_pairs, .func (PySem.W.fnOf "_law_pairs" "_law_pairs" (defArgs s__law_pairs) (defBody s__law_pairs) (defScope s__law_pairs) .none kV__law_pairs dc__law_pairs pm__law_pairs an__law_pairs cd__law_pairs ct__law_pairs), sl__law_pairs⟩)
    (c__law_pairs : PySem.W.codeIn K cd__law_pairs "_law_pairs" = true)
    (k__law_pairs : PySem.W.keepIn K (.ref f__law_pairs) = true)
    (a__law_raw : PySem.W.nsIn K mainGlobals "_law_raw" = some (some (.ref f__law_raw)))
    (l__law_raw : K.lookup f__law_raw = some ⟨oc__law_raw, od__law_raw, .func (PySem.W.fnOf "_law_raw" "_law_raw" (defArgs s__law_raw) (defBody s__law_raw) (defScope s__law_raw) .none kV__law_raw dc__law_raw pm__law_raw an__law_raw cd__law_raw ct__law_raw), sl__law_raw⟩)
    (c__law_raw : PySem.W.codeIn K cd__law_raw "_law_raw" = true)
    (k__law_raw : PySem.W.keepIn K (.ref f__law_raw) = true)
    (a__law_has : PySem.W.nsIn K mainGlobals "_law_has" = some (some (.ref f__law_has)))
    (l__law_has : K.lookup f__law_has = some ⟨oc__law_has, od__law_has, .func (PySem.W.fnOf "_law_has" "_law_has" (defArgs s__law_has) (defBody s__law_has) (defScope s__law_has) .none kV__law_has dc__law_has pm__law_has an__law_has cd__law_has ct__law_has), sl__law_has⟩)
    (c__law_has : PySem.W.codeIn K cd__law_has "_law_has" = true)
    (k__law_has : PySem.W.keepIn K (.ref f__law_has) = true)
    (a__law_due : PySem.W.nsIn K mainGlobals "_law_due" = some (some (.ref f__law_due)))
    (l__law_due : K.lookup f__law_due = some ⟨oc__law_due, od__law_due, .func (PySem.W.fnOf "_law_due" "_law_due" (defArgs s__law_due) (defBody s__law_due) (defScope s__law_due) .none kV__law_due dc__law_due pm__law_due an__law_due cd__law_due ct__law_due), sl__law_due⟩)
    (c__law_due : PySem.W.codeIn K cd__law_due "_law_due" = true)
    (k__law_due : PySem.W.keepIn K (.ref f__law_due) = true)
    (a__law_sound : PySem.W.nsIn K mainGlobals "_law_sound" = some (some (.ref f__law_sound)))
    (l__law_sound : K.lookup f__law_sound = some ⟨oc__law_sound, od__law_sound, .func (PySem.W.fnOf "_law_sound" "_law_sound" (defArgs s__law_sound) (defBody s__law_sound) (defScope s__law_sound) .none kV__law_sound dc__law_sound pm__law_sound an__law_sound cd__law_sound ct__law_sound), sl__law_sound⟩)
    (c__law_sound : PySem.W.codeIn K cd__law_sound "_law_sound" = true)
    (k__law_sound : PySem.W.keepIn K (.ref f__law_sound) = true)
    (a__law_some : PySem.W.nsIn K mainGlobals "_law_some" = some (some (.ref f__law_some)))
    (l__law_some : K.lookup f__law_some = some ⟨oc__law_some, od__law_some, .func (PySem.W.fnOf "_law_some" "_law_some" (defArgs s__law_some) (defBody s__law_some) (defScope s__law_some) .none kV__law_some dc__law_some pm__law_some an__law_some cd__law_some ct__law_some), sl__law_some⟩)
    (c__law_some : PySem.W.codeIn K cd__law_some "_law_some" = true)
    (k__law_some : PySem.W.keepIn K (.ref f__law_some) = true)
    (a_law : PySem.W.nsIn K mainGlobals "law" = some (some (.ref f_law)))
    (l_law : K.lookup f_law = some ⟨oc_law, od_law, .func (PySem.W.fnOf "law" "law" (defArgs s_law) (defBody s_law) (defScope s_law) .none kV_law dc_law pm_law an_law cd_law ct_law), sl_law⟩)
    (c_law : PySem.W.codeIn K cd_law "law" = true)
    (k_law : PySem.W.keepIn K (.ref f_law) = true)
    (b_gcd : PySem.W.nsIn K mainGlobals "gcd" = some (some (.builtin "math.gcd")))
    (b_max : PySem.W.nsIn K mainGlobals "max" = some none)
    (b_min : PySem.W.nsIn K mainGlobals "min" = some none)
    (b_tuple : PySem.W.nsIn K mainGlobals "tuple" = some none)
    (b_int : PySem.W.nsIn K mainGlobals "int" = some none)
    (b_len : PySem.W.nsIn K mainGlobals "len" = some none)
    (b_abs : PySem.W.nsIn K mainGlobals "abs" = some none)
    (b_isinstance : PySem.W.nsIn K mainGlobals "isinstance" = some none)
    (b_range : PySem.W.nsIn K mainGlobals "range" = some none)
    (b_bool : PySem.W.nsIn K mainGlobals "bool" = some none)
    (b_str : PySem.W.nsIn K mainGlobals "str" = some none)
    (b_list : PySem.W.nsIn K mainGlobals "list" = some none)
    (v_RAW_RANGES : PySem.W.nsIn K mainGlobals "RAW_RANGES" = some (some (.ref d_RAW_RANGES)))
    (l_RAW_RANGES : K.lookup d_RAW_RANGES = some ⟨.type "dict", none, .dict es_RAW_RANGES n_RAW_RANGES, #[]⟩)
    (q_RAW_RANGES : PySem.W.KeysLit w.params es_RAW_RANGES.toList)
    (i_RAW_RANGES : [f_raw_sum, f_raw_difference, f_raw_product, f_raw_quotient, f_raw_remainder].Nodup)
    (e_RAW_RANGES_0 : PySem.W.nsIn K d_RAW_RANGES (PySem.Str.ofString "+") = some (some (.ref f_raw_sum)))
    (e_RAW_RANGES_1 : PySem.W.nsIn K d_RAW_RANGES (PySem.Str.ofString "-") = some (some (.ref f_raw_difference)))
    (e_RAW_RANGES_2 : PySem.W.nsIn K d_RAW_RANGES (PySem.Str.ofString "*") = some (some (.ref f_raw_product)))
    (e_RAW_RANGES_3 : PySem.W.nsIn K d_RAW_RANGES (PySem.Str.ofString "/") = some (some (.ref f_raw_quotient)))
    (e_RAW_RANGES_4 : PySem.W.nsIn K d_RAW_RANGES (PySem.Str.ofString "mod") = some (some (.ref f_raw_remainder)))
    (v_LEAST_VALUE : PySem.W.nsIn K mainGlobals "LEAST_VALUE" = some (some (.int (-10000) t_LEAST_VALUE)))
    (v_GREATEST_VALUE : PySem.W.nsIn K mainGlobals "GREATEST_VALUE" = some (some (.int 10000 t_GREATEST_VALUE)))
    : ∃ fd : FuncData, (∀ (s : Shared) (u : Value), BindsTo s fd ⟨[u], []⟩ [("script", u)]) ∧ ∀ base : Heap, K.In base → base.Ns mainGlobals mg → FnOk l.prog w K mg base CX0 5 fa fd ["script"] (spP K Φ_law) := by
  have F_has : FunM K mg "has" s_has [PySem.Str.ofString "span", PySem.Str.ofString "n"] := funM_of X G a_has l_has c_has k_has (fun us hl => match us, hl with | [_, _], _ => rfl)
  have F_with_ends : FunM K mg "with_ends" s_with_ends [PySem.Str.ofString "low", PySem.Str.ofString "high", PySem.Str.ofString "step"] := funM_of X G a_with_ends l_with_ends c_with_ends k_with_ends (fun us hl => match us, hl with | [_, _, _], _ => rfl)
  have F_at_most : FunM K mg "at_most" s_at_most [PySem.Str.ofString "span", PySem.Str.ofString "n"] := funM_of X G a_at_most l_at_most c_at_most k_at_most (fun us hl => match us, hl with | [_, _], _ => rfl)
  have F_at_least : FunM K mg "at_least" s_at_least [PySem.Str.ofString "span", PySem.Str.ofString "n"] := funM_of X G a_at_least l_at_least c_at_least k_at_least (fun us hl => match us, hl with | [_, _], _ => rfl)
  have F_between : FunM K mg "between" s_between [PySem.Str.ofString "span", PySem.Str.ofString "low", PySem.Str.ofString "high"] := funM_of X G a_between l_between c_between k_between (fun us hl => match us, hl with | [_, _, _], _ => rfl)
  have F_raw_sum : FunM K mg "raw_sum" s_raw_sum [PySem.Str.ofString "first", PySem.Str.ofString "second"] := funM_of X G a_raw_sum l_raw_sum c_raw_sum k_raw_sum (fun us hl => match us, hl with | [_, _], _ => rfl)
  have F_raw_difference : FunM K mg "raw_difference" s_raw_difference [PySem.Str.ofString "first", PySem.Str.ofString "second"] := funM_of X G a_raw_difference l_raw_difference c_raw_difference k_raw_difference (fun us hl => match us, hl with | [_, _], _ => rfl)
  have F_raw_product : FunM K mg "raw_product" s_raw_product [PySem.Str.ofString "first", PySem.Str.ofString "second"] := funM_of X G a_raw_product l_raw_product c_raw_product k_raw_product (fun us hl => match us, hl with | [_, _], _ => rfl)
  have F_raw_quotient : FunM K mg "raw_quotient" s_raw_quotient [PySem.Str.ofString "first", PySem.Str.ofString "second"] := funM_of X G a_raw_quotient l_raw_quotient c_raw_quotient k_raw_quotient (fun us hl => match us, hl with | [_, _], _ => rfl)
  have F_remainder_by_one : FunM K mg "remainder_by_one" s_remainder_by_one [PySem.Str.ofString "first", PySem.Str.ofString "divisor"] := funM_of X G a_remainder_by_one l_remainder_by_one c_remainder_by_one k_remainder_by_one (fun us hl => match us, hl with | [_, _], _ => rfl)
  have F_raw_remainder : FunM K mg "raw_remainder" s_raw_remainder [PySem.Str.ofString "first", PySem.Str.ofString "second"] := funM_of X G a_raw_remainder l_raw_remainder c_raw_remainder k_raw_remainder (fun us hl => match us, hl with | [_, _], _ => rfl)
  have F_combine : FunM K mg "combine" s_combine [PySem.Str.ofString "sign", PySem.Str.ofString "first", PySem.Str.ofString "second"] := funM_of X G a_combine l_combine c_combine k_combine (fun us hl => match us, hl with | [_, _, _], _ => rfl)
  have F__law_next : FunM K mg "_law_next" s__law_next [PySem.Str.ofString "state", PySem.Str.ofString "script", PySem.Str.ofString "many"] := funM_of X G a__law_next l__law_next c__law_next k__law_next (fun us hl => match us, hl with | [_, _, _], _ => rfl)
  have F__law_same : FunM K mg "_law_same" s__law_same [PySem.Str.ofString "actual", PySem.Str.ofString "due"] := funM_of X G a__law_same l__law_same c__law_same k__law_same (fun us hl => match us, hl with | [_, _], _ => rfl)
  have F__law_range : FunM K mg "_law_range" s__law_range [PySem.Str.ofString "state", PySem.Str.ofString "script", PySem.Str.ofString "wide"] := funM_of X G a__law_range l__law_range c__law_range k__law_range (fun us hl => match us, hl with | [_, _, _], _ => rfl)
  have F__law_members : FunM K mg "_law_members" s__law_members [PySem.Str.ofString "one"] := funM_of X G a__law_members l__law_members c__law_members k__law_members (fun us hl => match us, hl with | [_], _ => rfl)
  have F__law_divisor : FunM K mg "_law_divisor" s__law_divisor [PySem.Str.ofString "one", PySem.Str.ofString "other"] := funM_of X G a__law_divisor l__law_divisor c__law_divisor k__law_divisor (fun us hl => match us, hl with | [_, _], _ => rfl)
  have F__law_made : FunM K mg "_law_made" s__law_made [PySem.Str.ofString "low", PySem.Str.ofString "high", PySem.Str.ofString "step"] := funM_of X G a__law_made l__law_made c__law_made k__law_made (fun us hl => match us, hl with | [_, _, _], _ => rfl)
  have F__law_results : FunM K mg "_law_results" s__law_results [PySem.Str.ofString "sign", PySem.Str.ofString "left", PySem.Str.ofString "right"] := funM_of X G a__law_results l__law_results c__law_results k__law_results (fun us hl => match us, hl with | [_, _, _], _ => rfl)
  have F__law_parts : FunM K mg "_law_parts" s__law_parts [PySem.Str.ofString "second"] := funM_of X G a__law_parts l__law_parts c__law_parts k__law_parts (fun us hl => match us, hl with | [_], _ => rfl)
  have F__law_rest : FunM K mg "_law_rest" s__law_rest [PySem.Str.ofString "first", PySem.Str.ofString "second"] := funM_of X G a__law_rest l__law_rest c__law_rest k__law_rest (fun us hl => match us, hl with | [_, _], _ => rfl)
  have F__law_pairs : FunM K mg "_law_pairs" s__law_pairs [PySem.Str.ofString "lefts", PySem.Str.ofString "rights"] := funM_of X G a__law_pairs l__law_pairs c__law_pairs k__law_pairs (fun us hl => match us, hl with | [_, _], _ => rfl)
  have F__law_raw : FunM K mg "_law_raw" s__law_raw [PySem.Str.ofString "sign", PySem.Str.ofString "first", PySem.Str.ofString "second"] := funM_of X G a__law_raw l__law_raw c__law_raw k__law_raw (fun us hl => match us, hl with | [_, _, _], _ => rfl)
  have F__law_has : FunM K mg "_law_has" s__law_has [PySem.Str.ofString "one", PySem.Str.ofString "number"] := funM_of X G a__law_has l__law_has c__law_has k__law_has (fun us hl => match us, hl with | [_, _], _ => rfl)
  have F__law_due : FunM K mg "_law_due" s__law_due [PySem.Str.ofString "sign", PySem.Str.ofString "first", PySem.Str.ofString "second"] := funM_of X G a__law_due l__law_due c__law_due k__law_due (fun us hl => match us, hl with | [_, _, _], _ => rfl)
  have F__law_sound : FunM K mg "_law_sound" s__law_sound [PySem.Str.ofString "sign", PySem.Str.ofString "told", PySem.Str.ofString "lefts", PySem.Str.ofString "rights"] := funM_of X G a__law_sound l__law_sound c__law_sound k__law_sound (fun us hl => match us, hl with | [_, _, _, _], _ => rfl)
  have F__law_some : FunM K mg "_law_some" s__law_some [PySem.Str.ofString "state", PySem.Str.ofString "script", PySem.Str.ofString "one"] := funM_of X G a__law_some l__law_some c__law_some k__law_some (fun us hl => match us, hl with | [_, _, _], _ => rfl)
  have F_law : FunM K mg "law" s_law [PySem.Str.ofString "script"] := funM_of X G a_law l_law c_law k_law (fun us hl => match us, hl with | [_], _ => rfl)
  have m_gcd : mg "gcd" = some (.builtin "math.gcd") := PySem.W.mg_of X G b_gcd
  have m_max : mg "max" = none := PySem.W.mg_none_of X G b_max
  have m_min : mg "min" = none := PySem.W.mg_none_of X G b_min
  have m_tuple : mg "tuple" = none := PySem.W.mg_none_of X G b_tuple
  have m_int : mg "int" = none := PySem.W.mg_none_of X G b_int
  have m_len : mg "len" = none := PySem.W.mg_none_of X G b_len
  have m_abs : mg "abs" = none := PySem.W.mg_none_of X G b_abs
  have m_isinstance : mg "isinstance" = none := PySem.W.mg_none_of X G b_isinstance
  have m_range : mg "range" = none := PySem.W.mg_none_of X G b_range
  have m_bool : mg "bool" = none := PySem.W.mg_none_of X G b_bool
  have m_str : mg "str" = none := PySem.W.mg_none_of X G b_str
  have m_list : mg "list" = none := PySem.W.mg_none_of X G b_list
  have G_LEAST_VALUE : GlobD K mg "LEAST_VALUE" d_LEAST_VALUE := glob_int (PySem.W.mg_of X G v_LEAST_VALUE)
  have G_GREATEST_VALUE : GlobD K mg "GREATEST_VALUE" d_GREATEST_VALUE := glob_int (PySem.W.mg_of X G v_GREATEST_VALUE)
  have T_RAW_RANGES : TabG K w mg "RAW_RANGES" [((PySem.Str.ofString "+"), PySem.Str.ofString "raw_sum"), ((PySem.Str.ofString "-"), PySem.Str.ofString "raw_difference"), ((PySem.Str.ofString "*"), PySem.Str.ofString "raw_product"), ((PySem.Str.ofString "/"), PySem.Str.ofString "raw_quotient"), ((PySem.Str.ofString "mod"), PySem.Str.ofString "raw_remainder")] := ⟨d_RAW_RANGES, es_RAW_RANGES, n_RAW_RANGES, [f_raw_sum, f_raw_difference, f_raw_product, f_raw_quotient, f_raw_remainder], PySem.W.mg_of X G v_RAW_RANGES, l_RAW_RANGES, q_RAW_RANGES, i_RAW_RANGES, ⟨e_RAW_RANGES_0, PySem.W.mg_of X G a_raw_sum, ⟨e_RAW_RANGES_1, PySem.W.mg_of X G a_raw_difference, ⟨e_RAW_RANGES_2, PySem.W.mg_of X G a_raw_product, ⟨e_RAW_RANGES_3, PySem.W.mg_of X G a_raw_quotient, ⟨e_RAW_RANGES_4, PySem.W.mg_of X G a_raw_remainder, trivial⟩⟩⟩⟩⟩⟩
  refine law_of (F := F_law) hfa fun fd hF base KB GB => ?_
  have C_has : Callee l.prog w K mg base "has" 1 Φ_has := ok_has F_has
  have C_with_ends : Callee l.prog w K mg base "with_ends" 1 Φ_with_ends := ok_with_ends F_with_ends
  have C_at_most : Callee l.prog w K mg base "at_most" 2 Φ_at_most := ok_at_most F_at_most C_with_ends
  have C_at_least : Callee l.prog w K mg base "at_least" 2 Φ_at_least := ok_at_least F_at_least C_with_ends
  have C_between : Callee l.prog w K mg base "between" 3 Φ_between := ok_between F_between C_at_least C_at_most
  have C_raw_sum : Callee l.prog w K mg base "raw_sum" 1 Φ_raw_sum := ok_raw_sum F_raw_sum m_gcd
  have C_raw_difference : Callee l.prog w K mg base "raw_difference" 1 Φ_raw_difference := ok_raw_difference F_raw_difference m_gcd
  have C_raw_product : Callee l.prog w K mg base "raw_product" 1 Φ_raw_product := ok_raw_product F_raw_product m_gcd m_max m_min
  have C_raw_quotient : Callee l.prog w K mg base "raw_quotient" 3 Φ_raw_quotient := ok_raw_quotient F_raw_quotient C_at_most C_at_least C_with_ends m_max m_min
  have C_remainder_by_one : Callee l.prog w K mg base "remainder_by_one" 1 Φ_remainder_by_one := ok_remainder_by_one F_remainder_by_one m_max m_min
  have C_raw_remainder : Callee l.prog w K mg base "raw_remainder" 2 Φ_raw_remainder := ok_raw_remainder F_raw_remainder C_with_ends C_remainder_by_one m_max m_min
  have C_combine : Callee l.prog w K mg base "combine" 4 Φ_combine := ok_combine F_combine C_raw_sum C_raw_difference C_raw_product C_raw_quotient C_raw_remainder C_has C_between G_LEAST_VALUE G_GREATEST_VALUE m_tuple T_RAW_RANGES
  have C__law_next : Callee l.prog w K mg base "_law_next" 1 Φ__law_next := ok__law_next F__law_next m_int m_len m_abs
  have C__law_same : Callee l.prog w K mg base "_law_same" 3 Φ__law_same := all__law_same F__law_same m_tuple m_isinstance m_len m_range m_bool m_int m_str 3
  have C__law_range : Callee l.prog w K mg base "_law_range" 2 Φ__law_range := ok__law_range F__law_range C__law_next m_int m_min
  have C__law_members : Callee l.prog w K mg base "_law_members" 1 Φ__law_members := ok__law_members F__law_members m_list m_range
  have C__law_divisor : Callee l.prog w K mg base "_law_divisor" 1 Φ__law_divisor := ok__law_divisor F__law_divisor m_int m_abs
  have C__law_made : Callee l.prog w K mg base "_law_made" 1 Φ__law_made := ok__law_made F__law_made
  have C__law_results : Callee l.prog w K mg base "_law_results" 1 Φ__law_results := ok__law_results F__law_results m_int
  have C__law_parts : Callee l.prog w K mg base "_law_parts" 1 Φ__law_parts := ok__law_parts F__law_parts m_max
  have C__law_rest : Callee l.prog w K mg base "_law_rest" 2 Φ__law_rest := ok__law_rest F__law_rest C__law_made C__law_results m_max m_min m_int
  have C__law_pairs : Callee l.prog w K mg base "_law_pairs" 1 Φ__law_pairs := ok__law_pairs F__law_pairs
  have C__law_raw : Callee l.prog w K mg base "_law_raw" 3 Φ__law_raw := ok__law_raw F__law_raw C__law_divisor C__law_made C__law_pairs C__law_rest C__law_parts C__law_results m_max m_min m_len
  have C__law_has : Callee l.prog w K mg base "_law_has" 1 Φ__law_has := ok__law_has F__law_has m_int m_max
  have C__law_due : Callee l.prog w K mg base "_law_due" 4 Φ__law_due := ok__law_due F__law_due C__law_has C__law_raw C__law_made m_max
  have C__law_sound : Callee l.prog w K mg base "_law_sound" 2 Φ__law_sound := ok__law_sound F__law_sound C__law_results C__law_has
  have C__law_some : Callee l.prog w K mg base "_law_some" 2 Φ__law_some := ok__law_some F__law_some C__law_next m_range
  exact ok_law hF C__law_range C__law_next C_combine C__law_same C__law_due C__law_some C__law_members C__law_sound
end G

set_option Elab.async false
set_option linter.all false
set_option maxRecDepth 100000
set_option maxHeartbeats 4000000
namespace M
open PySem L2 Pd Pu G Rm Cb
theorem v_rg0 (l h s : Int) : uIx (rg l h s) (.int 0) = ret (.int l) := v_at0 _ _
theorem v_rg1 (l h s : Int) : uIx (rg l h s) (.int 1) = ret (.int h) := v_at1 _ _ _
theorem v_rg2 (l h s : Int) : uIx (rg l h s) (.int 2) = ret (.int s) := v_at2 _ _ _ _
theorem v_rgU (θ : Pu.Env) (w : List U → Pu.Env → W Pu.Env) (l h s : Int) : wUnp 3 w (rg l h s) θ = w [.int l, .int h, .int s] θ := rfl
theorem v_rgN (l h s : Int) : uIs (rg l h s) .non = ret (.bl false) := rfl
theorem v_rgNn (l h s : Int) : uIsNot (rg l h s) .non = ret (.bl true) := rfl
theorem v_rgS2 (l h s : Int) : uSl (rg l h s) none (some 2) = ret (.tup [.int l, .int h]) := by unfold rg; rw [v_slT, v_cutT2]
local macro_rules | `(tactic| walk_at "wx") => `(tactic| simp -implicitDefEqProofs only [G.nx_has, G.nx_with_ends, G.nx_at_most, G.nx_at_least, G.nx_between, G.nx_raw_sum, G.nx_raw_difference, G.nx_raw_product, G.nx_raw_quotient, G.nx_remainder_by_one, G.nx_raw_remainder, G.nx_combine, G.nv__law_same, G.nx__law_same, G.nx__law_range, G.nx__law_members, G.nx__law_divisor, G.nx__law_made, G.nx__law_results, G.nx__law_parts, G.nx__law_rest, G.nx__law_pairs, G.nx__law_raw, G.nx__law_has, G.nx__law_due, G.nx__law_sound, G.nx__law_some, G.W__law_next, v_rg0, v_rg1, v_rg2, v_rgU, v_rgN, v_rgNn, v_rgS2, x_C, x_Op, x_Un, x_Test, x_And, x_Or, x_Not, x_If, x_AndV, x_OrV, x_NotV, x_Nil, x_Cons, x_Tup, x_Lst, x_Ch, x_U, x_E, x_K, x_Call, x_CB, x_ONone, x_OSome, x_oInt, x_Sl, x_Items, x_iL, x_iT, x_Rng1, x_Rng2, x_r1, x_r2, x_Name, x_Unp, x_TNil, x_TCons, x_Lc, x_Yes, x_Seq, x_kn, x_kr, x_kb, x_kc, x_Next, x_Break, x_Cont, x_Ret, x_RetN, x_Asg, x_Drop, x_SIf, x_New, x_own, x_NewD, x_ownL, x_uLstT, x_uLst, x_App, x_Ext, x_Aug, x_Par, x_par, x_ln, x_lc, x_lb, x_lr, x_For, x_k0, x_k1, x_fr, x_fn, x_run0, x_run1, x_run2, x_run3, x_run4, x_run5, x_run6, x_run7, x_run8, x_xU, x_xLu, x_xLe, x_xLo, x_xOu, x_xOo, x_xKd, x_xKe, x_Var, x_VarL, x_VarO, x_VarK, x_uB, x_uS, x_Ms, x_bb, x_Rret, x_Rite, x_Rgd, x_next, v_addI, v_addS, v_addT, v_addL, v_addN, v_sub, v_mul, v_fdiv, v_mod, v_lt, v_le, v_gt, v_ge, v_eqI, v_eqS, v_eqB, v_eqNN, v_eqSN, v_eqNS, v_neI, v_neS, v_neB, v_isN, v_isI, v_isS, v_isT, v_isL, v_isB, v_nisN, v_nisI, v_nisS, v_nisT, v_nisL, v_nisB, v_ixT, v_ixL, v_at0, v_at1, v_at2, v_at3, v_at4, v_neg, v_lenS, v_lenT, v_lenL, v_abs, v_intI, v_intB, v_strI, v_strS, v_tupT, v_tupL, v_lstT, v_lstL, v_max2, v_min2, v_gcd2, v_gcd3, v_augA, v_augS, v_slT, v_slL, v_isi_int_bool, v_isi_int_int, v_isi_int_str, v_isi_int_tuple, v_isi_int_list, v_isi_bool_bool, v_isi_bool_int, v_isi_bool_str, v_isi_bool_tuple, v_isi_bool_list, v_isi_str_bool, v_isi_str_int, v_isi_str_str, v_isi_str_tuple, v_isi_str_list, v_isi_tuple_bool, v_isi_tuple_int, v_isi_tuple_str, v_isi_tuple_tuple, v_isi_tuple_list, v_isi_NoneType_bool, v_isi_NoneType_int, v_isi_NoneType_str, v_isi_NoneType_tuple, v_isi_NoneType_list, v_revL, v_minL, v_maxL, v_inI, v_ninI, x_Sl3, x_LR3, v_LR3, v_Sl3, v_ss, v_sortS, v_ix3, v_put3, x_Put3, x_DGet, x_DIn, x_DNotIn, x_Put, x_xDd, x_xDe, x_xOd, v_keyI, v_keyS, v_all, v_any, v_dig, x_EnT, v_enT, v_inTl, v_inLl, v_ninTl, v_ninLl, v_inT1, v_inT2, v_inT3, v_inT4, v_inL2, v_ninT2, v_cutF1, v_cutF2, v_cutT1, v_cutT2, x_LcN, x_InN, x_InC, x_EaN, x_EaC, x_Disp, x_DispS, x_DispK, v_eqQ0, ofString_eq, String.reduceEq, reduceCtorEq, bind_ret, bind_fail, bind_raise, bind_guard, bind_ite, noX_bind, noX_ret, noX_fail, noX_raise, noX_guard, noX_ite, noX_pick, noX_any, wo_some, wo_none, guard_tt, List.getElem?_cons_zero, List.getElem?_cons_succ, List.set_cons_zero, List.set_cons_succ, List.length_cons, List.length_nil, List.map_cons, List.map_nil, List.cons_append, List.nil_append, List.replicate_succ, List.replicate_zero, decide_eq_true_eq, Bool.not_eq_true, Bool.false_eq_true, Bool.not_true, Bool.not_false, if_true, if_false, Nat.reduceAdd, Nat.reduceSub, Nat.reduceLeDiff, Nat.zero_add, Nat.add_zero, Option.some.injEq, decide_true, decide_false, Bool.true_or, Bool.false_or, Bool.or_true, Bool.or_false, Bool.true_and, Bool.false_and, Bool.and_true, Bool.and_false])
local macro_rules | `(tactic| walk_at "wl") => `(tactic| simp -implicitDefEqProofs only [G.nx_has, G.nx_with_ends, G.nx_at_most, G.nx_at_least, G.nx_between, G.nx_raw_sum, G.nx_raw_difference, G.nx_raw_product, G.nx_raw_quotient, G.nx_remainder_by_one, G.nx_raw_remainder, G.nx_combine, G.nv__law_same, G.nx__law_same, G.nx__law_range, G.nx__law_members, G.nx__law_divisor, G.nx__law_made, G.nx__law_results, G.nx__law_parts, G.nx__law_rest, G.nx__law_pairs, G.nx__law_raw, G.nx__law_has, G.nx__law_due, G.nx__law_sound, G.nx__law_some, G.W__law_next, v_rg0, v_rg1, v_rg2, v_rgU, v_rgN, v_rgNn, v_rgS2, each_cons, each_nil, lcs_cons, lcs_nil, x_C, x_Op, x_Un, x_Test, x_And, x_Or, x_Not, x_If, x_AndV, x_OrV, x_NotV, x_Nil, x_Cons, x_Tup, x_Lst, x_Ch, x_U, x_E, x_K, x_Call, x_CB, x_ONone, x_OSome, x_oInt, x_Sl, x_Items, x_iL, x_iT, x_Rng1, x_Rng2, x_r1, x_r2, x_Name, x_Unp, x_TNil, x_TCons, x_Lc, x_Yes, x_Seq, x_kn, x_kr, x_kb, x_kc, x_Next, x_Break, x_Cont, x_Ret, x_RetN, x_Asg, x_Drop, x_SIf, x_New, x_own, x_NewD, x_ownL, x_uLstT, x_uLst, x_App, x_Ext, x_Aug, x_Par, x_par, x_ln, x_lc, x_lb, x_lr, x_For, x_k0, x_k1, x_fr, x_fn, x_run0, x_run1, x_run2, x_run3, x_run4, x_run5, x_run6, x_run7, x_run8, x_xU, x_xLu, x_xLe, x_xLo, x_xOu, x_xOo, x_xKd, x_xKe, x_Var, x_VarL, x_VarO, x_VarK, x_uB, x_uS, x_Ms, x_bb, x_Rret, x_Rite, x_Rgd, x_next, v_addI, v_addS, v_addT, v_addL, v_addN, v_sub, v_mul, v_fdiv, v_mod, v_lt, v_le, v_gt, v_ge, v_eqI, v_eqS, v_eqB, v_eqNN, v_eqSN, v_eqNS, v_neI, v_neS, v_neB, v_isN, v_isI, v_isS, v_isT, v_isL, v_isB, v_nisN, v_nisI, v_nisS, v_nisT, v_nisL, v_nisB, v_ixT, v_ixL, v_at0, v_at1, v_at2, v_at3, v_at4, v_neg, v_lenS, v_lenT, v_lenL, v_abs, v_intI, v_intB, v_strI, v_strS, v_tupT, v_tupL, v_lstT, v_lstL, v_max2, v_min2, v_gcd2, v_gcd3, v_augA, v_augS, v_slT, v_slL, v_isi_int_bool, v_isi_int_int, v_isi_int_str, v_isi_int_tuple, v_isi_int_list, v_isi_bool_bool, v_isi_bool_int, v_isi_bool_str, v_isi_bool_tuple, v_isi_bool_list, v_isi_str_bool, v_isi_str_int, v_isi_str_str, v_isi_str_tuple, v_isi_str_list, v_isi_tuple_bool, v_isi_tuple_int, v_isi_tuple_str, v_isi_tuple_tuple, v_isi_tuple_list, v_isi_NoneType_bool, v_isi_NoneType_int, v_isi_NoneType_str, v_isi_NoneType_tuple, v_isi_NoneType_list, v_revL, v_minL, v_maxL, v_inI, v_ninI, x_Sl3, x_LR3, v_LR3, v_Sl3, v_ss, v_sortS, v_ix3, v_put3, x_Put3, x_DGet, x_DIn, x_DNotIn, x_Put, x_xDd, x_xDe, x_xOd, v_keyI, v_keyS, v_all, v_any, v_dig, x_EnT, v_enT, v_inTl, v_inLl, v_ninTl, v_ninLl, v_inT1, v_inT2, v_inT3, v_inT4, v_inL2, v_ninT2, v_cutF1, v_cutF2, v_cutT1, v_cutT2, x_LcN, x_InN, x_InC, x_EaN, x_EaC, x_Disp, x_DispS, x_DispK, v_eqQ0, ofString_eq, String.reduceEq, reduceCtorEq, bind_ret, bind_fail, bind_raise, bind_guard, bind_ite, noX_bind, noX_ret, noX_fail, noX_raise, noX_guard, noX_ite, noX_pick, noX_any, wo_some, wo_none, guard_tt, List.getElem?_cons_zero, List.getElem?_cons_succ, List.set_cons_zero, List.set_cons_succ, List.length_cons, List.length_nil, List.map_cons, List.map_nil, List.cons_append, List.nil_append, List.replicate_succ, List.replicate_zero, decide_eq_true_eq, Bool.not_eq_true, Bool.false_eq_true, Bool.not_true, Bool.not_false, if_true, if_false, Nat.reduceAdd, Nat.reduceSub, Nat.reduceLeDiff, Nat.zero_add, Nat.add_zero, Option.some.injEq, decide_true, decide_false, Bool.true_or, Bool.false_or, Bool.or_true, Bool.or_false, Bool.true_and, Bool.false_and, Bool.and_true, Bool.and_false])
local macro_rules | `(tactic| walk_at "wg") => `(tactic| rw [guard_true (by first | assumption | omega | decide | (simp; done) | (simp; omega))])

theorem fmod_dvd {a b : Int} (h : 0 < b) : (a.fmod b = 0) = (b ∣ a) := by
  rw [fmod_pos h]
  exact propext ⟨Int.dvd_of_emod_eq_zero, Int.emod_eq_zero_of_dvd⟩
theorem has_eq {l h s : Int} (r : Rg l h s) (n : Int) : W_has [.u (rg l h s), .u (.int n)] = ret (.bl (hasB l h s n)) := by
  unfold W_has w_has
  walk_at "wx"
  unfold hasB
  by_cases h1 : n < l
  · simp [h1, show ¬ l ≤ n by omega]
  · by_cases h2 : h < n
    · simp [h1, h2, show ¬ n ≤ h by omega]
    · rcases r with ⟨rfl, rfl⟩ | ⟨hs, _, _⟩
      · simp [show n = l by omega]
      · simp [h1, h2, show s ≠ 0 by omega, show l ≤ n by omega, show n ≤ h by omega, fmod_dvd hs]
theorem with_ends_eq (l h s : Int) : W_with_ends [.u (.int l), .u (.int h), .u (.int s)] = ret (rgO (some (mk l h s))) := by
  unfold W_with_ends w_with_ends mk
  walk_at "wx"
  split <;> rfl
theorem at_most_eq {l h s : Int} (r : Rg l h s) (n : Int) : W_at_most [.u (rg l h s), .u (.int n)] = ret (rgO (amO l h s n)) := by
  unfold W_at_most amO w_at_most
  walk_at "wx"
  by_cases h1 : h ≤ n
  · simp [h1]; rfl
  · by_cases h2 : n < l
    · simp [h1, h2]; rfl
    · have hs := r.pos (by omega)
      rw [guard_true (show s ≠ 0 by omega), fmod_pos hs, with_ends_eq l (n - (n - l) % s) s]
      walk_at "wx"
      simp [h1, h2]
theorem at_least_eq {l h s : Int} (r : Rg l h s) (n : Int) : W_at_least [.u (rg l h s), .u (.int n)] = ret (rgO (alO l h s n)) := by
  unfold W_at_least alO w_at_least
  walk_at "wx"
  by_cases h1 : n ≤ l
  · simp [h1]; rfl
  · by_cases h2 : h < n
    · simp [h1, h2]; rfl
    · have hs := r.pos (by omega)
      rw [guard_true (show s ≠ 0 by omega), fmod_pos hs, with_ends_eq (n + (h - n) % s) h s]
      walk_at "wx"
      simp [h1, h2]
theorem between_eq {l h s : Int} (r : Rg l h s) (lo hi : Int) : W_between [.u (rg l h s), .u (.int lo), .u (.int hi)] = ret (rgO (btw l h s lo hi)) := by
  unfold W_between w_between btw
  walk_at "wx"
  rw [at_least_eq r]
  walk_at "wx"
  have k := (al_ok r lo).1
  cases e : alO l h s lo with
  | none => rfl
  | some t =>
    obtain ⟨a, b, c⟩ := t
    rw [e] at k
    show _ = ret (rgO (amO a b c hi))
    rw [show rgO (some (a, b, c)) = rg a b c from rfl]
    walk_at "wx"
    rw [at_most_eq k]
    walk_at "wx"
/-! ### the raw ranges -/
theorem raw_sum_eq (l h s l2 h2 s2 : Int) : W_raw_sum [.u (rg l h s), .u (rg l2 h2 s2)] = ret (rgO (zSum l h s l2 h2 s2)) := by
  unfold W_raw_sum w_raw_sum zSum
  walk_at "wx"
  rfl
theorem raw_dif_eq (l h s l2 h2 s2 : Int) : W_raw_difference [.u (rg l h s), .u (rg l2 h2 s2)] = ret (rgO (zDif l h s l2 h2 s2)) := by
  unfold W_raw_difference w_raw_difference zDif
  walk_at "wx"
  rfl
def small (l h : Int) : Prop := -10000 ≤ l ∧ h ≤ 10000
theorem raw_mul_eq {l h s l2 h2 s2 : Int} (b : small l h) (b2 : small l2 h2) (r : Rg l h s) (r2 : Rg l2 h2 s2) : W_raw_product [.u (rg l h s), .u (rg l2 h2 s2)] = ret (rgO (zMul l h s l2 h2 s2)) := by
  obtain ⟨f1, f2, f3, f4⟩ := r.facts
  obtain ⟨g1, g2, g3, g4⟩ := r2.facts
  obtain ⟨b1, b1'⟩ := b
  obtain ⟨b2, b2'⟩ := b2
  unfold W_raw_product w_raw_product zMul
  walk_at "wx"
  have hp : ([.int (l * l2), .int (l * h2), .int (h * l2), .int (h * h2)] : List U) = (cor l h l2 h2).map .int := rfl
  repeat walk_at "wg"
  rw [hp, v_minL, guard_true (by unfold cor; simp), v_maxL, guard_true (by unfold cor; simp)]
  walk_at "wx"
  rfl
theorem raw_quo_eq {l h s l2 h2 s2 : Int} (b : small l h) (b2 : small l2 h2) (r : Rg l h s) (r2 : Rg l2 h2 s2) : W_raw_quotient [.u (rg l h s), .u (rg l2 h2 s2)] = ret (rgO (zQuo l h s l2 h2 s2)) := by
  obtain ⟨f1, f2, f3, f4⟩ := r.facts
  obtain ⟨g1, g2, g3, g4⟩ := r2.facts
  obtain ⟨b1, b1'⟩ := b
  obtain ⟨b2, b2'⟩ := b2
  unfold W_raw_quotient w_raw_quotient zQuo
  walk_at "wx"
  obtain ⟨u1, u2⟩ := alO_up r2
  obtain ⟨d1, d2⟩ := amO_dn r2
  rw [at_least_eq r2, at_most_eq r2]
  have fin : ∀ qs : List Int, qs = quoL l h l2 h2 s2 → (Pu.bind (noX (uEqQ (U.lst (qs.map .int)) (U.lst []))) fun a_3 => Pu.bind (noX (uB a_3)) fun a_4 => if a_4 = true then Pu.ret U.non else Pu.bind (noX (uMinL [U.lst (qs.map .int)])) fun a_5 => Pu.bind (noX (uMaxL [U.lst (qs.map .int)])) fun a => Pu.bind (W_with_ends [X.u a_5, X.u a, X.u (U.int 1)]) fun a => Pu.ret a) =
      Pu.ret (rgO (if quoL l h l2 h2 s2 = [] then none else some (mk (minI (quoL l h l2 h2 s2)) (maxI (quoL l h l2 h2 s2)) 1))) := fun qs e => by
    subst e
    rw [v_eqQ0]
    walk_at "wx"
    split
    · rfl
    · rename_i c
      rw [guard_true c, guard_true c, with_ends_eq]
      walk_at "wx"
  unfold upE at u2
  unfold dnE at d2
  have eq : quoL l h l2 h2 s2 = [l, h].flatMap fun a => ((match alO l2 h2 s2 1 with | none => [] | some (a, b, _) => [a, b]) ++ (match amO l2 h2 s2 (-1) with | none => [] | some (a, b, _) => [a, b])).map fun b => a.fdiv b := rfl
  cases e1 : alO l2 h2 s2 1 with
  | none =>
    rw [e1] at eq
    cases e2 : amO l2 h2 s2 (-1) with
    | none =>
      rw [e2] at eq
      rw [show rgO none = U.non from rfl]
      walk_at "wl"
      exact fin [] eq.symm
    | some t =>
      obtain ⟨p, q, t⟩ := t
      rw [e2] at eq d2
      rw [show rgO none = U.non from rfl, show rgO (some (p, q, t)) = rg p q t from rfl]
      rcases d2 with d2 | ⟨p', q', d2, d3, d4, d5⟩
      · cases d2
      · simp only [List.cons.injEq, and_true] at d2
        obtain ⟨rfl, rfl⟩ := d2
        walk_at "wl"
        repeat walk_at "wg"
        exact fin [l.fdiv p, l.fdiv q, h.fdiv p, h.fdiv q] eq.symm
  | some t =>
    obtain ⟨p, q, t⟩ := t
    rw [e1] at eq u2
    rcases u2 with u2 | ⟨p', q', u2, u3, u4, u5⟩
    · cases u2
    · simp only [List.cons.injEq, and_true] at u2
      obtain ⟨rfl, rfl⟩ := u2
      cases e2 : amO l2 h2 s2 (-1) with
      | none =>
        rw [e2] at eq
        rw [show rgO none = U.non from rfl, show rgO (some (p, q, t)) = rg p q t from rfl]
        walk_at "wl"
        repeat walk_at "wg"
        exact fin [l.fdiv p, l.fdiv q, h.fdiv p, h.fdiv q] eq.symm
      | some t2 =>
        obtain ⟨p2, q2, t2⟩ := t2
        rw [e2] at eq d2
        rw [show rgO (some (p2, q2, t2)) = rg p2 q2 t2 from rfl, show rgO (some (p, q, t)) = rg p q t from rfl]
        rcases d2 with d2 | ⟨p', q', d2, d3, d4, d5⟩
        · cases d2
        · simp only [List.cons.injEq, and_true] at d2
          obtain ⟨rfl, rfl⟩ := d2
          walk_at "wl"
          repeat walk_at "wg"
          exact fin [l.fdiv p, l.fdiv q, l.fdiv p2, l.fdiv q2, h.fdiv p, h.fdiv q, h.fdiv p2, h.fdiv q2] eq.symm
theorem one_eq (l h s m : Int) (hm : m ≠ 0) (bm : m.natAbs < 1000000) : W_remainder_by_one [.u (rg l h s), .u (.int m)] = ret (rgO (zOne l h s m)) := by
  unfold W_remainder_by_one w_remainder_by_one zOne
  walk_at "wx"
  rw [guard_true ⟨hm, by omega⟩, guard_true hm]
  split
  · rw [guard_true hm, guard_true hm]; rfl
  · rw [guard_true ⟨hm, by omega⟩]
    split
    · repeat walk_at "wg"
      rfl
    · rfl
theorem raw_rem_eq {l h s l2 h2 s2 : Int} (b2 : small l2 h2) (r2 : Rg l2 h2 s2) : W_raw_remainder [.u (rg l h s), .u (rg l2 h2 s2)] = ret (rgO (zRem l h s l2 h2 s2)) := by
  obtain ⟨g1, g2, g3, g4⟩ := r2.facts
  obtain ⟨b2, b2'⟩ := b2
  unfold W_raw_remainder w_raw_remainder zRem
  walk_at "wx"
  by_cases c : s2 = 0
  · by_cases z : l2 = 0
    · simp [c, z]; rfl
    · rw [one_eq l h s l2 z (by omega)]
      walk_at "wx"
      simp [c, z]
  · rw [with_ends_eq]
    walk_at "wx"
    simp [c]
/-! ### combine -/
def kd (dv ov : Bool) : List U := (if dv then [.str (PySem.Str.ofString "division")] else []) ++ (if ov then [.str (PySem.Str.ofString "overflow")] else [])
def ovf : O3 → Bool
  | none => false
  | some (l, h, _) => decide (l < -10000) || decide (10000 < h)
def cutO : O3 → O3
  | none => none
  | some (l, h, s) => btw l h s (-10000) 10000
def resU (raw : O3) (dv : Bool) : U := .tup [rgO (cutO raw), .tup (kd dv (ovf raw))]
def isDiv (z : Str) : Bool := decide (z = PySem.Str.ofString "/") || decide (z = PySem.Str.ofString "mod")
theorem combine_of {z : Str} {F : List X → W U} {l h s l2 h2 s2 : Int} {raw : O3} (hF : tabW [(PySem.Str.ofString "+", W_raw_sum), (PySem.Str.ofString "-", W_raw_difference), (PySem.Str.ofString "*", W_raw_product), (PySem.Str.ofString "/", W_raw_quotient), (PySem.Str.ofString "mod", W_raw_remainder)] z = some F) (nF : ∀ xs, noX (F xs) = F xs)
    (hr : F [.u (rg l h s), .u (rg l2 h2 s2)] = ret (rgO raw)) (ok : RgO raw) (r2 : Rg l2 h2 s2) : W_combine [.u (.str z), .u (rg l h s), .u (rg l2 h2 s2)] = ret (resU raw (isDiv z && hasB l2 h2 s2 0)) := by
  unfold W_combine w_combine
  walk_at "wx"
  rw [hF]
  walk_at "wx"
  rw [guard_true (by decide), hr]
  walk_at "wx"
  rw [has_eq r2]
  unfold resU kd isDiv u_LEAST_VALUE u_GREATEST_VALUE
  generalize (decide (z = PySem.Str.ofString "/") || decide (z = PySem.Str.ofString "mod")) = d1
  generalize hasB l2 h2 s2 0 = d2
  cases raw with
  | none =>
    rw [show rgO none = U.non from rfl, show cutO none = none from rfl, show ovf none = false from rfl, show rgO none = U.non from rfl]
    cases d1 <;> cases d2 <;> walk_at "wx"
    rw [guard_true (by omega)]
  | some t =>
    obtain ⟨a, b, c⟩ := t
    rw [show rgO (some (a, b, c)) = rg a b c from rfl, show cutO (some (a, b, c)) = btw a b c (-10000) 10000 from rfl, show ovf (some (a, b, c)) = (decide (a < -10000) || decide (10000 < b)) from rfl]
    have bt := between_eq (show Rg a b c from ok) (-10000) 10000
    by_cases c1 : a < -10000
    · simp only [c1]
      cases d1 <;> cases d2 <;> (walk_at "wx"; repeat walk_at "wg"; rw [bt]; walk_at "wx"; rw [if_pos c1]; try rw [guard_true (by omega)])
    · simp only [c1]
      by_cases c2 : 10000 < b
      · simp only [c2]
        cases d1 <;> cases d2 <;> (walk_at "wx"; repeat walk_at "wg"; rw [bt]; walk_at "wx"; rw [if_neg c1, if_pos c2]; try rw [guard_true (by omega)])
      · simp only [c2]
        cases d1 <;> cases d2 <;> (walk_at "wx"; repeat walk_at "wg"; rw [bt]; walk_at "wx"; rw [if_neg c1, if_neg c2])
end M

set_option Elab.async false
set_option linter.all false
set_option maxRecDepth 100000
set_option maxHeartbeats 4000000
namespace M
open PySem L2 Pd Pu G Rm Cb
local macro_rules | `(tactic| walk_at "wx") => `(tactic| simp -implicitDefEqProofs only [G.nx_has, G.nx_with_ends, G.nx_at_most, G.nx_at_least, G.nx_between, G.nx_raw_sum, G.nx_raw_difference, G.nx_raw_product, G.nx_raw_quotient, G.nx_remainder_by_one, G.nx_raw_remainder, G.nx_combine, G.nv__law_same, G.nx__law_same, G.nx__law_range, G.nx__law_members, G.nx__law_divisor, G.nx__law_made, G.nx__law_results, G.nx__law_parts, G.nx__law_rest, G.nx__law_pairs, G.nx__law_raw, G.nx__law_has, G.nx__law_due, G.nx__law_sound, G.nx__law_some, G.W__law_next, v_rg0, v_rg1, v_rg2, v_rgU, v_rgN, v_rgNn, v_rgS2, x_C, x_Op, x_Un, x_Test, x_And, x_Or, x_Not, x_If, x_AndV, x_OrV, x_NotV, x_Nil, x_Cons, x_Tup, x_Lst, x_Ch, x_U, x_E, x_K, x_Call, x_CB, x_ONone, x_OSome, x_oInt, x_Sl, x_Items, x_iL, x_iT, x_Rng1, x_Rng2, x_r1, x_r2, x_Name, x_Unp, x_TNil, x_TCons, x_Lc, x_Yes, x_Seq, x_kn, x_kr, x_kb, x_kc, x_Next, x_Break, x_Cont, x_Ret, x_RetN, x_Asg, x_Drop, x_SIf, x_New, x_own, x_NewD, x_ownL, x_uLstT, x_uLst, x_App, x_Ext, x_Aug, x_Par, x_par, x_ln, x_lc, x_lb, x_lr, x_For, x_k0, x_k1, x_fr, x_fn, x_run0, x_run1, x_run2, x_run3, x_run4, x_run5, x_run6, x_run7, x_run8, x_xU, x_xLu, x_xLe, x_xLo, x_xOu, x_xOo, x_xKd, x_xKe, x_Var, x_VarL, x_VarO, x_VarK, x_uB, x_uS, x_Ms, x_bb, x_Rret, x_Rite, x_Rgd, x_next, v_addI, v_addS, v_addT, v_addL, v_addN, v_sub, v_mul, v_fdiv, v_mod, v_lt, v_le, v_gt, v_ge, v_eqI, v_eqS, v_eqB, v_eqNN, v_eqSN, v_eqNS, v_neI, v_neS, v_neB, v_isN, v_isI, v_isS, v_isT, v_isL, v_isB, v_nisN, v_nisI, v_nisS, v_nisT, v_nisL, v_nisB, v_ixT, v_ixL, v_at0, v_at1, v_at2, v_at3, v_at4, v_neg, v_lenS, v_lenT, v_lenL, v_abs, v_intI, v_intB, v_strI, v_strS, v_tupT, v_tupL, v_lstT, v_lstL, v_max2, v_min2, v_gcd2, v_gcd3, v_augA, v_augS, v_slT, v_slL, v_isi_int_bool, v_isi_int_int, v_isi_int_str, v_isi_int_tuple, v_isi_int_list, v_isi_bool_bool, v_isi_bool_int, v_isi_bool_str, v_isi_bool_tuple, v_isi_bool_list, v_isi_str_bool, v_isi_str_int, v_isi_str_str, v_isi_str_tuple, v_isi_str_list, v_isi_tuple_bool, v_isi_tuple_int, v_isi_tuple_str, v_isi_tuple_tuple, v_isi_tuple_list, v_isi_NoneType_bool, v_isi_NoneType_int, v_isi_NoneType_str, v_isi_NoneType_tuple, v_isi_NoneType_list, v_revL, v_minL, v_maxL, v_inI, v_ninI, x_Sl3, x_LR3, v_LR3, v_Sl3, v_ss, v_sortS, v_ix3, v_put3, x_Put3, x_DGet, x_DIn, x_DNotIn, x_Put, x_xDd, x_xDe, x_xOd, v_keyI, v_keyS, v_all, v_any, v_dig, x_EnT, v_enT, v_inTl, v_inLl, v_ninTl, v_ninLl, v_inT1, v_inT2, v_inT3, v_inT4, v_inL2, v_ninT2, v_cutF1, v_cutF2, v_cutT1, v_cutT2, x_LcN, x_InN, x_InC, x_EaN, x_EaC, x_Disp, x_DispS, x_DispK, v_eqQ0, ofString_eq, String.reduceEq, reduceCtorEq, bind_ret, bind_fail, bind_raise, bind_guard, bind_ite, noX_bind, noX_ret, noX_fail, noX_raise, noX_guard, noX_ite, noX_pick, noX_any, wo_some, wo_none, guard_tt, List.getElem?_cons_zero, List.getElem?_cons_succ, List.set_cons_zero, List.set_cons_succ, List.length_cons, List.length_nil, List.map_cons, List.map_nil, List.cons_append, List.nil_append, List.replicate_succ, List.replicate_zero, decide_eq_true_eq, Bool.not_eq_true, Bool.false_eq_true, Bool.not_true, Bool.not_false, if_true, if_false, Nat.reduceAdd, Nat.reduceSub, Nat.reduceLeDiff, Nat.zero_add, Nat.add_zero, Option.some.injEq, decide_true, decide_false, Bool.true_or, Bool.false_or, Bool.or_true, Bool.or_false, Bool.true_and, Bool.false_and, Bool.and_true, Bool.and_false])
local macro_rules | `(tactic| walk_at "wl") => `(tactic| simp -implicitDefEqProofs only [G.nx_has, G.nx_with_ends, G.nx_at_most, G.nx_at_least, G.nx_between, G.nx_raw_sum, G.nx_raw_difference, G.nx_raw_product, G.nx_raw_quotient, G.nx_remainder_by_one, G.nx_raw_remainder, G.nx_combine, G.nv__law_same, G.nx__law_same, G.nx__law_range, G.nx__law_members, G.nx__law_divisor, G.nx__law_made, G.nx__law_results, G.nx__law_parts, G.nx__law_rest, G.nx__law_pairs, G.nx__law_raw, G.nx__law_has, G.nx__law_due, G.nx__law_sound, G.nx__law_some, G.W__law_next, v_rg0, v_rg1, v_rg2, v_rgU, v_rgN, v_rgNn, v_rgS2, each_cons, each_nil, lcs_cons, lcs_nil, x_C, x_Op, x_Un, x_Test, x_And, x_Or, x_Not, x_If, x_AndV, x_OrV, x_NotV, x_Nil, x_Cons, x_Tup, x_Lst, x_Ch, x_U, x_E, x_K, x_Call, x_CB, x_ONone, x_OSome, x_oInt, x_Sl, x_Items, x_iL, x_iT, x_Rng1, x_Rng2, x_r1, x_r2, x_Name, x_Unp, x_TNil, x_TCons, x_Lc, x_Yes, x_Seq, x_kn, x_kr, x_kb, x_kc, x_Next, x_Break, x_Cont, x_Ret, x_RetN, x_Asg, x_Drop, x_SIf, x_New, x_own, x_NewD, x_ownL, x_uLstT, x_uLst, x_App, x_Ext, x_Aug, x_Par, x_par, x_ln, x_lc, x_lb, x_lr, x_For, x_k0, x_k1, x_fr, x_fn, x_run0, x_run1, x_run2, x_run3, x_run4, x_run5, x_run6, x_run7, x_run8, x_xU, x_xLu, x_xLe, x_xLo, x_xOu, x_xOo, x_xKd, x_xKe, x_Var, x_VarL, x_VarO, x_VarK, x_uB, x_uS, x_Ms, x_bb, x_Rret, x_Rite, x_Rgd, x_next, v_addI, v_addS, v_addT, v_addL, v_addN, v_sub, v_mul, v_fdiv, v_mod, v_lt, v_le, v_gt, v_ge, v_eqI, v_eqS, v_eqB, v_eqNN, v_eqSN, v_eqNS, v_neI, v_neS, v_neB, v_isN, v_isI, v_isS, v_isT, v_isL, v_isB, v_nisN, v_nisI, v_nisS, v_nisT, v_nisL, v_nisB, v_ixT, v_ixL, v_at0, v_at1, v_at2, v_at3, v_at4, v_neg, v_lenS, v_lenT, v_lenL, v_abs, v_intI, v_intB, v_strI, v_strS, v_tupT, v_tupL, v_lstT, v_lstL, v_max2, v_min2, v_gcd2, v_gcd3, v_augA, v_augS, v_slT, v_slL, v_isi_int_bool, v_isi_int_int, v_isi_int_str, v_isi_int_tuple, v_isi_int_list, v_isi_bool_bool, v_isi_bool_int, v_isi_bool_str, v_isi_bool_tuple, v_isi_bool_list, v_isi_str_bool, v_isi_str_int, v_isi_str_str, v_isi_str_tuple, v_isi_str_list, v_isi_tuple_bool, v_isi_tuple_int, v_isi_tuple_str, v_isi_tuple_tuple, v_isi_tuple_list, v_isi_NoneType_bool, v_isi_NoneType_int, v_isi_NoneType_str, v_isi_NoneType_tuple, v_isi_NoneType_list, v_revL, v_minL, v_maxL, v_inI, v_ninI, x_Sl3, x_LR3, v_LR3, v_Sl3, v_ss, v_sortS, v_ix3, v_put3, x_Put3, x_DGet, x_DIn, x_DNotIn, x_Put, x_xDd, x_xDe, x_xOd, v_keyI, v_keyS, v_all, v_any, v_dig, x_EnT, v_enT, v_inTl, v_inLl, v_ninTl, v_ninLl, v_inT1, v_inT2, v_inT3, v_inT4, v_inL2, v_ninT2, v_cutF1, v_cutF2, v_cutT1, v_cutT2, x_LcN, x_InN, x_InC, x_EaN, x_EaC, x_Disp, x_DispS, x_DispK, v_eqQ0, ofString_eq, String.reduceEq, reduceCtorEq, bind_ret, bind_fail, bind_raise, bind_guard, bind_ite, noX_bind, noX_ret, noX_fail, noX_raise, noX_guard, noX_ite, noX_pick, noX_any, wo_some, wo_none, guard_tt, List.getElem?_cons_zero, List.getElem?_cons_succ, List.set_cons_zero, List.set_cons_succ, List.length_cons, List.length_nil, List.map_cons, List.map_nil, List.cons_append, List.nil_append, List.replicate_succ, List.replicate_zero, decide_eq_true_eq, Bool.not_eq_true, Bool.false_eq_true, Bool.not_true, Bool.not_false, if_true, if_false, Nat.reduceAdd, Nat.reduceSub, Nat.reduceLeDiff, Nat.zero_add, Nat.add_zero, Option.some.injEq, decide_true, decide_false, Bool.true_or, Bool.false_or, Bool.or_true, Bool.or_false, Bool.true_and, Bool.false_and, Bool.and_true, Bool.and_false])
local macro_rules | `(tactic| walk_at "wg") => `(tactic| rw [guard_true (by first | assumption | omega | decide | (simp; done) | (simp; omega))])

/-! ### _law_same -/
def plU : Nat → U → Bool
  | 0, _ => false
  | t + 1, .tup xs => decide (xs.length ≤ 1000000) && xs.all (plU t)
  | _ + 1, .int _ => true
  | _ + 1, .str _ => true
  | _ + 1, .bl _ => true
  | _ + 1, .non => true
  | _ + 1, _ => false
theorem same_refl (t : Nat) (d : U) (h : plU t d = true) : V__law_same t [.u d, .u d] = ret (.bl true) := by
  induction t generalizing d with
  | zero => cases h
  | succ t ih =>
    unfold V__law_same w__law_same
    cases d with
    | non => walk_at "wx"
    | int i => walk_at "wx"
    | str z => walk_at "wx"
    | bl b => walk_at "wx"
    | tup xs =>
      have hl : xs.length ≤ 1000000 := by simp [plU] at h; exact h.1
      have hx : ∀ x ∈ xs, plU t x = true := by simp [plU] at h; exact h.2
      walk_at "wx"
      walk_at "wg"
      rw [each_skip (θ0 := [some (.u (.tup xs)), some (.u (.tup xs)), none]) _ _ rfl]
      · walk_at "wx"
      · intro u hu
        obtain ⟨k, hk, rfl⟩ := mem_rngU hu
        have hk : k < xs.length := by omega
        unfold wb__law_same_1
        walk_at "wx"
        rw [Int.zero_add, v_atN hk]
        walk_at "wx"
        rw [ih _ (hx _ (List.getElem_mem hk))]
        walk_at "wx"
        exact ⟨_, rfl, rfl⟩
    | _ => cases h
theorem members_eq {l h s : Int} (r : Rg l h s) (b1 : -1000000 ≤ l) (b2 : h ≤ 1000000) (b3 : s ≤ 1000000) : W__law_members [.u (rg l h s)] = ret (.lst ((mem l h s).map .int)) := by
  unfold W__law_members w__law_members
  walk_at "wx"
  obtain ⟨a1, a2, a3, a4⟩ := r.facts
  rcases r with ⟨rfl, rfl⟩ | ⟨hs, hl, hd⟩
  · simp [mem]
  · have e : rngN l (h + 1) s = ((h - l) / s + 1).toNat := by
      unfold rngN
      rw [if_pos (by omega)]
      congr 3; omega
    have hk : (h - l) / s ≤ h - l := by
      refine Int.ediv_le_of_le_mul hs ?_
      have := Int.mul_le_mul_of_nonneg_left (show (1 : Int) ≤ s by omega) (show 0 ≤ h - l by omega)
      omega
    rw [if_neg (by omega), e, guard_true ⟨by omega, by omega, by omega, by omega⟩]
    unfold rngCU mem
    rw [if_neg (by omega), List.map_map]
    rfl
def PR (wide : Bool) (l h s : Int) : Prop := Rg l h s ∧ -10000 ≤ l ∧ l ≤ 10000 ∧ h ≤ 10000 ∧ s ≤ 400 ∧ (wide = false → -12 ≤ l ∧ h ≤ 75)
theorem draw_range {A : Type} {ns : List Int} {wide : Bool} {k : U → W A} {Q : A → Prop} {N : XQ} (hk : ∀ l h s, PR wide l h s → Run (k (rg l h s)) Q N) : Run (bind (W__law_range [.u .st, .u (.rol ns), .u (.bl wide)]) k) Q N := by
  have one : ∀ l, -10000 ≤ l → l ≤ 10000 → (wide = false → -12 ≤ l ∧ l ≤ 75) → Run (k (.tup [.int l, .int l, .int 0])) Q N := fun l h1 h2 h3 => hk l l 0 ⟨.one l, h1, h2, h2, by omega, h3⟩
  have many : ∀ l st c : Int, -10000 ≤ l → l ≤ 10000 → 0 < st → st ≤ 400 → (wide = false → -12 ≤ l ∧ l ≤ 12 ∧ st ≤ 7 ∧ c ≤ 9) → ¬ min ((10000 - l) / st) c < 1 → Run (k (.tup [.int l, .int (l + st * min ((10000 - l) / st) c), .int st])) Q N := fun l st c h1 h2 h3 h4 h5 h6 => by
    generalize hm : min ((10000 - l) / st) c = m at h6 ⊢
    have e1 : st * m ≤ 10000 - l := by
      have : m ≤ (10000 - l) / st := by omega
      have := Int.mul_le_mul_of_nonneg_left this (Int.le_of_lt h3)
      have := Int.mul_ediv_self_le (x := 10000 - l) (k := st) (by omega)
      omega
    have e2 : 0 < st * m := Int.mul_pos h3 (by omega)
    refine hk _ _ _ ⟨.inr ⟨h3, by omega, ⟨m, by omega⟩⟩, h1, h2, by omega, h4, fun hw => ?_⟩
    obtain ⟨a1, a2, a3, a4⟩ := h5 hw
    have : st * m ≤ 7 * 9 := Int.mul_le_mul a3 (by omega) (by omega) (by omega)
    omega
  unfold W__law_range w__law_range
  cases wide
  all_goals
    walk_at "wx"
    refine run_pick (by omega) fun r0 p0 q0 => ?_
    walk_at "wx"
    refine run_pick (by omega) fun r1 p1 q1 => ?_
    walk_at "wx"
    split
    · exact one _ (by omega) (by omega) (by first | (intro h; cases h; done) | (intro; omega))
    · refine run_pick (by omega) fun r2 p2 q2 => ?_
      walk_at "wx"
      split
      all_goals
        refine ⟨by omega, run_pick (by omega) fun r3 p3 q3 => ?_⟩
        walk_at "wx"
        rw [fdiv_pos (by omega)]
        split
        · exact one _ (by omega) (by omega) (by first | (intro h; cases h; done) | (intro; omega))
        · refine ⟨.inl (by omega), ?_⟩
          exact many _ _ _ (by omega) (by omega) (by omega) (by omega) (by first | (intro h; cases h; done) | (intro; omega)) (by assumption)
theorem wh {a0 b0 : Int} : ∀ (t : Nat) (a b : Int), b.natAbs < t → gcdI a b = gcdI a0 b0 → ∃ x : Int, wWhile wc__law_divisor_1 wb__law_divisor_1 [] t [some (.u (.int a)), some (.u (.int b))] = ret (.nx [some (.u (.int x)), some (.u (.int 0))]) ∧ (x.natAbs : Int) = gcdI a0 b0
  | 0, a, b, h, _ => by omega
  | t + 1, a, b, h, e => by
    rw [while_s]
    unfold wc__law_divisor_1 wb__law_divisor_1
    walk_at "wx"
    by_cases hb : b = 0
    · subst hb
      exact ⟨a, by simp, by rw [← e, gcdI_zero]⟩
    · have hx := fmod_small a hb
      obtain ⟨x, h1, h2⟩ := wh (a0 := a0) (b0 := b0) t b (a.fmod b) (by omega) (by rw [gcdI_fmod, e])
      refine ⟨x, ?_, h2⟩
      simp [hb, guard_true]
      exact h1
theorem divisor_eq (a b : Int) (hb : b.natAbs < 999999999) : W__law_divisor [.u (.int a), .u (.int b)] = ret (.int (gcdI a b)) := by
  unfold W__law_divisor w__law_divisor
  walk_at "wx"
  obtain ⟨x, h1, h2⟩ := wh (a0 := a) (b0 := b) 1000000000 a b (by omega) rfl
  rw [h1]
  walk_at "wx"
  rw [← h2]
  congr 2
  split <;> omega

theorem same3 (d : U) (h : plU 3 d = true) : W__law_same [.u d, .u d] = ret (.bl true) := same_refl 3 d h
theorem lcs_mapm2 {g : U → Pu.Env → W Pu.Env} {f : Pu.Env → W U} {θ : Pu.Env} {α : Type} (c F : α → U) : ∀ xs : List α, (∀ x ∈ xs, ∃ θ1, g (c x) θ = Pu.ret θ1 ∧ f θ1 = Pu.ret (F x)) → wLcs g wYes f θ (xs.map c) = Pu.ret (xs.map F)
  | [], _ => rfl
  | x :: xs, h => by
    obtain ⟨θ1, h1, h2⟩ := h x (List.mem_cons_self ..)
    rw [List.map_cons, lcs_cons, h1, bind_ret, x_Yes, bind_ret, if_pos rfl, h2, bind_ret, lcs_mapm2 c F xs fun v hv => h v (List.mem_cons_of_mem _ hv), bind_ret]
    rfl
theorem max1 {s : Int} (h : 0 < s) : max 1 s = s := by omega
theorem made_eq (l h s : Int) : W__law_made [.u (.int l), .u (.int h), .u (.int s)] = ret (rgO (some (mk l h s))) := by
  unfold W__law_made w__law_made
  walk_at "wx"
  rw [mk_eq]
  split <;> rfl
theorem lhas_eq {l h s : Int} (r : Rg l h s) (n : Int) : W__law_has [.u (rg l h s), .u (.int n)] = ret (.bl (hasB l h s n)) := by
  unfold W__law_has w__law_has
  walk_at "wx"
  unfold hasB
  obtain ⟨f1, f2, f3, f4⟩ := r.facts
  by_cases h1 : l ≤ n
  · by_cases h2 : n ≤ h
    · rw [if_pos h1, if_pos h2, guard_true (by omega)]
      rcases r with ⟨rfl, rfl⟩ | ⟨hs, _, _⟩
      · simp [show n = l by omega]
      · simp [h1, h2, max1 hs, fmod_dvd hs]
    · rw [if_pos h1, if_neg h2]; simp [h1, h2]
  · rw [if_neg h1]; simp [h1]
theorem res_sum (a b : Int) : W__law_results [.u (.str (PySem.Str.ofString "+")), .u (.int a), .u (.int b)] = ret (.int (a + b)) := by
  unfold W__law_results w__law_results
  walk_at "wx"
theorem res_dif (a b : Int) : W__law_results [.u (.str (PySem.Str.ofString "-")), .u (.int a), .u (.int b)] = ret (.int (a - b)) := by
  unfold W__law_results w__law_results
  walk_at "wx"
theorem res_mul (a b : Int) (h : a.natAbs < 1000000) : W__law_results [.u (.str (PySem.Str.ofString "*")), .u (.int a), .u (.int b)] = ret (.int (a * b)) := by
  unfold W__law_results w__law_results
  walk_at "wx"
  rw [guard_true (.inl ⟨by omega, by omega⟩)]
theorem res_quo (a b : Int) (h : b.natAbs < 1000000) : W__law_results [.u (.str (PySem.Str.ofString "/")), .u (.int a), .u (.int b)] = ret (if b = 0 then .non else .int (a.fdiv b)) := by
  unfold W__law_results w__law_results
  walk_at "wx"
  split
  · rfl
  · rw [guard_true ⟨by assumption, by omega⟩]
theorem res_rem (a b : Int) (h : b.natAbs < 1000000) : W__law_results [.u (.str (PySem.Str.ofString "mod")), .u (.int a), .u (.int b)] = ret (if b = 0 then .non else .int (a.fmod b)) := by
  unfold W__law_results w__law_results
  walk_at "wx"
  split
  · rfl
  · rw [guard_true ⟨by assumption, by omega⟩, guard_true (.inr ⟨by omega, by omega⟩), ← fmod_sub]
theorem parts_eq {l2 h2 s2 : Int} (r2 : Rg l2 h2 s2) (b : small l2 h2) (bs : s2 ≤ 100000) : W__law_parts [.u (rg l2 h2 s2)] = ret (.lst ((upE l2 h2 s2 ++ dnE l2 h2 s2).map .int)) := by
  unfold W__law_parts w__law_parts
  walk_at "wx"
  obtain ⟨f1, f2, f3, f4⟩ := r2.facts
  obtain ⟨b1, b2⟩ := b
  rw [upE_eq r2, dnE_eq r2]
  by_cases c1 : 1 ≤ h2
  · rw [if_pos c1, if_pos c1]
    by_cases c2 : l2 < 1
    · rw [if_pos c2, if_pos c2, guard_true ⟨by omega, by omega⟩, guard_true (.inr ⟨by omega, by omega⟩)]
      by_cases c3 : l2 ≤ -1
      · rw [if_pos c3, if_pos c3, if_pos (by omega), if_pos (by omega), guard_true ⟨by omega, by omega⟩, guard_true (.inr ⟨by omega, by omega⟩)]; rfl
      · rw [if_neg c3, if_neg c3]; rfl
    · rw [if_neg c2, if_neg c2, if_neg (by omega), if_neg (by omega)]; rfl
  · rw [if_neg c1, if_neg c1]
    by_cases c3 : l2 ≤ -1
    · rw [if_pos c3, if_pos c3]
      by_cases c4 : -1 < h2
      · rw [if_pos c4, if_pos c4, guard_true ⟨by omega, by omega⟩, guard_true (.inr ⟨by omega, by omega⟩)]; rfl
      · rw [if_neg c4, if_neg c4]; rfl
    · rw [if_neg c3, if_neg c3]; rfl
end M

set_option Elab.async false
set_option linter.all false
set_option maxRecDepth 100000
set_option maxHeartbeats 4000000
namespace M
open PySem L2 Pd Pu G Rm Cb
local macro_rules | `(tactic| walk_at "wx") => `(tactic| simp -implicitDefEqProofs only [G.nx_has, G.nx_with_ends, G.nx_at_most, G.nx_at_least, G.nx_between, G.nx_raw_sum, G.nx_raw_difference, G.nx_raw_product, G.nx_raw_quotient, G.nx_remainder_by_one, G.nx_raw_remainder, G.nx_combine, G.nv__law_same, G.nx__law_same, G.nx__law_range, G.nx__law_members, G.nx__law_divisor, G.nx__law_made, G.nx__law_results, G.nx__law_parts, G.nx__law_rest, G.nx__law_pairs, G.nx__law_raw, G.nx__law_has, G.nx__law_due, G.nx__law_sound, G.nx__law_some, G.W__law_next, v_rg0, v_rg1, v_rg2, v_rgU, v_rgN, v_rgNn, v_rgS2, x_C, x_Op, x_Un, x_Test, x_And, x_Or, x_Not, x_If, x_AndV, x_OrV, x_NotV, x_Nil, x_Cons, x_Tup, x_Lst, x_Ch, x_U, x_E, x_K, x_Call, x_CB, x_ONone, x_OSome, x_oInt, x_Sl, x_Items, x_iL, x_iT, x_Rng1, x_Rng2, x_r1, x_r2, x_Name, x_Unp, x_TNil, x_TCons, x_Lc, x_Yes, x_Seq, x_kn, x_kr, x_kb, x_kc, x_Next, x_Break, x_Cont, x_Ret, x_RetN, x_Asg, x_Drop, x_SIf, x_New, x_own, x_NewD, x_ownL, x_uLstT, x_uLst, x_App, x_Ext, x_Aug, x_Par, x_par, x_ln, x_lc, x_lb, x_lr, x_For, x_k0, x_k1, x_fr, x_fn, x_run0, x_run1, x_run2, x_run3, x_run4, x_run5, x_run6, x_run7, x_run8, x_xU, x_xLu, x_xLe, x_xLo, x_xOu, x_xOo, x_xKd, x_xKe, x_Var, x_VarL, x_VarO, x_VarK, x_uB, x_uS, x_Ms, x_bb, x_Rret, x_Rite, x_Rgd, x_next, v_addI, v_addS, v_addT, v_addL, v_addN, v_sub, v_mul, v_fdiv, v_mod, v_lt, v_le, v_gt, v_ge, v_eqI, v_eqS, v_eqB, v_eqNN, v_eqSN, v_eqNS, v_neI, v_neS, v_neB, v_isN, v_isI, v_isS, v_isT, v_isL, v_isB, v_nisN, v_nisI, v_nisS, v_nisT, v_nisL, v_nisB, v_ixT, v_ixL, v_at0, v_at1, v_at2, v_at3, v_at4, v_neg, v_lenS, v_lenT, v_lenL, v_abs, v_intI, v_intB, v_strI, v_strS, v_tupT, v_tupL, v_lstT, v_lstL, v_max2, v_min2, v_gcd2, v_gcd3, v_augA, v_augS, v_slT, v_slL, v_isi_int_bool, v_isi_int_int, v_isi_int_str, v_isi_int_tuple, v_isi_int_list, v_isi_bool_bool, v_isi_bool_int, v_isi_bool_str, v_isi_bool_tuple, v_isi_bool_list, v_isi_str_bool, v_isi_str_int, v_isi_str_str, v_isi_str_tuple, v_isi_str_list, v_isi_tuple_bool, v_isi_tuple_int, v_isi_tuple_str, v_isi_tuple_tuple, v_isi_tuple_list, v_isi_NoneType_bool, v_isi_NoneType_int, v_isi_NoneType_str, v_isi_NoneType_tuple, v_isi_NoneType_list, v_revL, v_minL, v_maxL, v_inI, v_ninI, x_Sl3, x_LR3, v_LR3, v_Sl3, v_ss, v_sortS, v_ix3, v_put3, x_Put3, x_DGet, x_DIn, x_DNotIn, x_Put, x_xDd, x_xDe, x_xOd, v_keyI, v_keyS, v_all, v_any, v_dig, x_EnT, v_enT, v_inTl, v_inLl, v_ninTl, v_ninLl, v_inT1, v_inT2, v_inT3, v_inT4, v_inL2, v_ninT2, v_cutF1, v_cutF2, v_cutT1, v_cutT2, x_LcN, x_InN, x_InC, x_EaN, x_EaC, x_Disp, x_DispS, x_DispK, v_eqQ0, ofString_eq, String.reduceEq, reduceCtorEq, bind_ret, bind_fail, bind_raise, bind_guard, bind_ite, noX_bind, noX_ret, noX_fail, noX_raise, noX_guard, noX_ite, noX_pick, noX_any, wo_some, wo_none, guard_tt, List.getElem?_cons_zero, List.getElem?_cons_succ, List.set_cons_zero, List.set_cons_succ, List.length_cons, List.length_nil, List.map_cons, List.map_nil, List.cons_append, List.nil_append, List.replicate_succ, List.replicate_zero, decide_eq_true_eq, Bool.not_eq_true, Bool.false_eq_true, Bool.not_true, Bool.not_false, if_true, if_false, Nat.reduceAdd, Nat.reduceSub, Nat.reduceLeDiff, Nat.zero_add, Nat.add_zero, Option.some.injEq, decide_true, decide_false, Bool.true_or, Bool.false_or, Bool.or_true, Bool.or_false, Bool.true_and, Bool.false_and, Bool.and_true, Bool.and_false])
local macro_rules | `(tactic| walk_at "wl") => `(tactic| simp -implicitDefEqProofs only [G.nx_has, G.nx_with_ends, G.nx_at_most, G.nx_at_least, G.nx_between, G.nx_raw_sum, G.nx_raw_difference, G.nx_raw_product, G.nx_raw_quotient, G.nx_remainder_by_one, G.nx_raw_remainder, G.nx_combine, G.nv__law_same, G.nx__law_same, G.nx__law_range, G.nx__law_members, G.nx__law_divisor, G.nx__law_made, G.nx__law_results, G.nx__law_parts, G.nx__law_rest, G.nx__law_pairs, G.nx__law_raw, G.nx__law_has, G.nx__law_due, G.nx__law_sound, G.nx__law_some, G.W__law_next, v_rg0, v_rg1, v_rg2, v_rgU, v_rgN, v_rgNn, v_rgS2, each_cons, each_nil, lcs_cons, lcs_nil, x_C, x_Op, x_Un, x_Test, x_And, x_Or, x_Not, x_If, x_AndV, x_OrV, x_NotV, x_Nil, x_Cons, x_Tup, x_Lst, x_Ch, x_U, x_E, x_K, x_Call, x_CB, x_ONone, x_OSome, x_oInt, x_Sl, x_Items, x_iL, x_iT, x_Rng1, x_Rng2, x_r1, x_r2, x_Name, x_Unp, x_TNil, x_TCons, x_Lc, x_Yes, x_Seq, x_kn, x_kr, x_kb, x_kc, x_Next, x_Break, x_Cont, x_Ret, x_RetN, x_Asg, x_Drop, x_SIf, x_New, x_own, x_NewD, x_ownL, x_uLstT, x_uLst, x_App, x_Ext, x_Aug, x_Par, x_par, x_ln, x_lc, x_lb, x_lr, x_For, x_k0, x_k1, x_fr, x_fn, x_run0, x_run1, x_run2, x_run3, x_run4, x_run5, x_run6, x_run7, x_run8, x_xU, x_xLu, x_xLe, x_xLo, x_xOu, x_xOo, x_xKd, x_xKe, x_Var, x_VarL, x_VarO, x_VarK, x_uB, x_uS, x_Ms, x_bb, x_Rret, x_Rite, x_Rgd, x_next, v_addI, v_addS, v_addT, v_addL, v_addN, v_sub, v_mul, v_fdiv, v_mod, v_lt, v_le, v_gt, v_ge, v_eqI, v_eqS, v_eqB, v_eqNN, v_eqSN, v_eqNS, v_neI, v_neS, v_neB, v_isN, v_isI, v_isS, v_isT, v_isL, v_isB, v_nisN, v_nisI, v_nisS, v_nisT, v_nisL, v_nisB, v_ixT, v_ixL, v_at0, v_at1, v_at2, v_at3, v_at4, v_neg, v_lenS, v_lenT, v_lenL, v_abs, v_intI, v_intB, v_strI, v_strS, v_tupT, v_tupL, v_lstT, v_lstL, v_max2, v_min2, v_gcd2, v_gcd3, v_augA, v_augS, v_slT, v_slL, v_isi_int_bool, v_isi_int_int, v_isi_int_str, v_isi_int_tuple, v_isi_int_list, v_isi_bool_bool, v_isi_bool_int, v_isi_bool_str, v_isi_bool_tuple, v_isi_bool_list, v_isi_str_bool, v_isi_str_int, v_isi_str_str, v_isi_str_tuple, v_isi_str_list, v_isi_tuple_bool, v_isi_tuple_int, v_isi_tuple_str, v_isi_tuple_tuple, v_isi_tuple_list, v_isi_NoneType_bool, v_isi_NoneType_int, v_isi_NoneType_str, v_isi_NoneType_tuple, v_isi_NoneType_list, v_revL, v_minL, v_maxL, v_inI, v_ninI, x_Sl3, x_LR3, v_LR3, v_Sl3, v_ss, v_sortS, v_ix3, v_put3, x_Put3, x_DGet, x_DIn, x_DNotIn, x_Put, x_xDd, x_xDe, x_xOd, v_keyI, v_keyS, v_all, v_any, v_dig, x_EnT, v_enT, v_inTl, v_inLl, v_ninTl, v_ninLl, v_inT1, v_inT2, v_inT3, v_inT4, v_inL2, v_ninT2, v_cutF1, v_cutF2, v_cutT1, v_cutT2, x_LcN, x_InN, x_InC, x_EaN, x_EaC, x_Disp, x_DispS, x_DispK, v_eqQ0, ofString_eq, String.reduceEq, reduceCtorEq, bind_ret, bind_fail, bind_raise, bind_guard, bind_ite, noX_bind, noX_ret, noX_fail, noX_raise, noX_guard, noX_ite, noX_pick, noX_any, wo_some, wo_none, guard_tt, List.getElem?_cons_zero, List.getElem?_cons_succ, List.set_cons_zero, List.set_cons_succ, List.length_cons, List.length_nil, List.map_cons, List.map_nil, List.cons_append, List.nil_append, List.replicate_succ, List.replicate_zero, decide_eq_true_eq, Bool.not_eq_true, Bool.false_eq_true, Bool.not_true, Bool.not_false, if_true, if_false, Nat.reduceAdd, Nat.reduceSub, Nat.reduceLeDiff, Nat.zero_add, Nat.add_zero, Option.some.injEq, decide_true, decide_false, Bool.true_or, Bool.false_or, Bool.or_true, Bool.or_false, Bool.true_and, Bool.false_and, Bool.and_true, Bool.and_false])
local macro_rules | `(tactic| walk_at "wg") => `(tactic| rw [guard_true (by first | assumption | omega | decide | (simp; done) | (simp; omega))])

theorem lpairs_eq {L R : U} (as bs : List Int) (hL : uItems L = ret (as.map .int)) (hR : uItems R = ret (bs.map .int)) (h : as.length ≤ 1000) (h2 : bs.length ≤ 1000) : W__law_pairs [.u L, .u R] = ret (.lst ((as.flatMap fun a => bs.map fun b => U.tup [.int a, .int b]))) := by
  unfold W__law_pairs w__law_pairs
  walk_at "wx"
  rw [hL]
  walk_at "wx"
  rw [each_foldm (g := wName 3) (b := wb__law_pairs_1) (ks := [3]) U.int (fun acc : List U => [some (.u L), some (.u R), some (.own acc), none, none]) (fun acc a => acc ++ bs.map fun b => U.tup [.int a, .int b])
    (fun acc xs => acc.length + xs.length * 1000 ≤ 1000000) (fun acc a r hp => by
      rw [List.length_cons, Nat.succ_mul] at hp
      refine ⟨?_, by rw [List.length_append, List.length_map]; omega⟩
      apply Exists.intro
      apply And.intro
      · unfold wb__law_pairs_1
        walk_at "wx"
        rw [hR]
        walk_at "wx"
        rw [guard_true (by rw [List.length_map]; omega), lcs_mapm2 U.int (fun b => U.tup [.int a, .int b]) bs fun b _ => ⟨_, rfl, by walk_at "wx"⟩]
        walk_at "wx"
        rw [guard_true (by rw [List.length_map]; omega)]
      · rfl) as [] _ (by rw [List.length_nil]; omega) rfl]
  walk_at "wx"
  have : ∀ (as : List Int) (acc : List U), as.foldl (fun acc a => acc ++ bs.map fun b => U.tup [.int a, .int b]) acc = acc ++ as.flatMap fun a => bs.map fun b => U.tup [.int a, .int b] := fun as => by
    induction as with
    | nil => intro acc; simp
    | cons a as ih => intro acc; rw [List.foldl_cons, ih]; simp
  rw [this, List.nil_append]
theorem lrest_eq {l h s l2 h2 s2 : Int} (r : Rg l h s) (r2 : Rg l2 h2 s2) (b : small l2 h2) : W__law_rest [.u (rg l h s), .u (rg l2 h2 s2)] = ret (rgO (zRem l h s l2 h2 s2)) := by
  obtain ⟨f1, f2, f3, f4⟩ := r.facts
  obtain ⟨g1, g2, g3, g4⟩ := r2.facts
  obtain ⟨b1, b2⟩ := b
  unfold W__law_rest w__law_rest zRem
  walk_at "wx"
  by_cases c : l2 < h2
  · have := r2.pos c
    rw [made_eq]
    walk_at "wx"
    rw [if_pos c, if_pos (by omega)]
  · obtain ⟨rfl, rfl⟩ := r2.zero c
    rw [if_neg c, if_neg (show ¬ ((0:Int) ≠ 0) by omega)]
    by_cases z : h2 = 0
    · rw [if_pos z, if_pos z]; rfl
    · rw [if_neg z, if_neg z, guard_true z]
      unfold zOne
      rw [res_rem l h2 (by omega), res_quo l h2 (by omega), res_quo h h2 (by omega), if_neg z, if_neg z, if_neg z]
      walk_at "wx"
      split
      · rfl
      · rename_i k
        split
        · rw [guard_true (.inr ⟨by omega, by omega⟩), guard_true (.inr ⟨by omega, by omega⟩), made_eq]
          walk_at "wx"
          rw [mk_eq]
          have : ¬ l = h := fun e => by
            rcases r with ⟨p1, _⟩ | ⟨_, p2, _⟩
            · rw [p1] at k; simp at k
            · omega
          rw [if_neg (by omega)]
        · rw [made_eq]
          walk_at "wx"
          have big : h2 ≠ 1 ∧ h2 ≠ -1 := by
            refine ⟨fun w => k ?_, fun w => k ?_⟩
            · have := (fmod_bounds s z).1 (by omega); omega
            · have := (fmod_bounds s z).2 (by omega); omega
          rw [mk_eq, if_neg (by omega)]
end M

set_option Elab.async false
set_option linter.all false
set_option maxRecDepth 100000
set_option maxHeartbeats 4000000
namespace M
open PySem L2 Pd Pu G Rm Cb
local macro_rules | `(tactic| walk_at "wx") => `(tactic| simp -implicitDefEqProofs only [G.nx_has, G.nx_with_ends, G.nx_at_most, G.nx_at_least, G.nx_between, G.nx_raw_sum, G.nx_raw_difference, G.nx_raw_product, G.nx_raw_quotient, G.nx_remainder_by_one, G.nx_raw_remainder, G.nx_combine, G.nv__law_same, G.nx__law_same, G.nx__law_range, G.nx__law_members, G.nx__law_divisor, G.nx__law_made, G.nx__law_results, G.nx__law_parts, G.nx__law_rest, G.nx__law_pairs, G.nx__law_raw, G.nx__law_has, G.nx__law_due, G.nx__law_sound, G.nx__law_some, G.W__law_next, v_rg0, v_rg1, v_rg2, v_rgU, v_rgN, v_rgNn, v_rgS2, x_C, x_Op, x_Un, x_Test, x_And, x_Or, x_Not, x_If, x_AndV, x_OrV, x_NotV, x_Nil, x_Cons, x_Tup, x_Lst, x_Ch, x_U, x_E, x_K, x_Call, x_CB, x_ONone, x_OSome, x_oInt, x_Sl, x_Items, x_iL, x_iT, x_Rng1, x_Rng2, x_r1, x_r2, x_Name, x_Unp, x_TNil, x_TCons, x_Lc, x_Yes, x_Seq, x_kn, x_kr, x_kb, x_kc, x_Next, x_Break, x_Cont, x_Ret, x_RetN, x_Asg, x_Drop, x_SIf, x_New, x_own, x_NewD, x_ownL, x_uLstT, x_uLst, x_App, x_Ext, x_Aug, x_Par, x_par, x_ln, x_lc, x_lb, x_lr, x_For, x_k0, x_k1, x_fr, x_fn, x_run0, x_run1, x_run2, x_run3, x_run4, x_run5, x_run6, x_run7, x_run8, x_xU, x_xLu, x_xLe, x_xLo, x_xOu, x_xOo, x_xKd, x_xKe, x_Var, x_VarL, x_VarO, x_VarK, x_uB, x_uS, x_Ms, x_bb, x_Rret, x_Rite, x_Rgd, x_next, v_addI, v_addS, v_addT, v_addL, v_addN, v_sub, v_mul, v_fdiv, v_mod, v_lt, v_le, v_gt, v_ge, v_eqI, v_eqS, v_eqB, v_eqNN, v_eqSN, v_eqNS, v_neI, v_neS, v_neB, v_isN, v_isI, v_isS, v_isT, v_isL, v_isB, v_nisN, v_nisI, v_nisS, v_nisT, v_nisL, v_nisB, v_ixT, v_ixL, v_at0, v_at1, v_at2, v_at3, v_at4, v_neg, v_lenS, v_lenT, v_lenL, v_abs, v_intI, v_intB, v_strI, v_strS, v_tupT, v_tupL, v_lstT, v_lstL, v_max2, v_min2, v_gcd2, v_gcd3, v_augA, v_augS, v_slT, v_slL, v_isi_int_bool, v_isi_int_int, v_isi_int_str, v_isi_int_tuple, v_isi_int_list, v_isi_bool_bool, v_isi_bool_int, v_isi_bool_str, v_isi_bool_tuple, v_isi_bool_list, v_isi_str_bool, v_isi_str_int, v_isi_str_str, v_isi_str_tuple, v_isi_str_list, v_isi_tuple_bool, v_isi_tuple_int, v_isi_tuple_str, v_isi_tuple_tuple, v_isi_tuple_list, v_isi_NoneType_bool, v_isi_NoneType_int, v_isi_NoneType_str, v_isi_NoneType_tuple, v_isi_NoneType_list, v_revL, v_minL, v_maxL, v_inI, v_ninI, x_Sl3, x_LR3, v_LR3, v_Sl3, v_ss, v_sortS, v_ix3, v_put3, x_Put3, x_DGet, x_DIn, x_DNotIn, x_Put, x_xDd, x_xDe, x_xOd, v_keyI, v_keyS, v_all, v_any, v_dig, x_EnT, v_enT, v_inTl, v_inLl, v_ninTl, v_ninLl, v_inT1, v_inT2, v_inT3, v_inT4, v_inL2, v_ninT2, v_cutF1, v_cutF2, v_cutT1, v_cutT2, x_LcN, x_InN, x_InC, x_EaN, x_EaC, x_Disp, x_DispS, x_DispK, v_eqQ0, ofString_eq, String.reduceEq, reduceCtorEq, bind_ret, bind_fail, bind_raise, bind_guard, bind_ite, noX_bind, noX_ret, noX_fail, noX_raise, noX_guard, noX_ite, noX_pick, noX_any, wo_some, wo_none, guard_tt, List.getElem?_cons_zero, List.getElem?_cons_succ, List.set_cons_zero, List.set_cons_succ, List.length_cons, List.length_nil, List.map_cons, List.map_nil, List.cons_append, List.nil_append, List.replicate_succ, List.replicate_zero, decide_eq_true_eq, Bool.not_eq_true, Bool.false_eq_true, Bool.not_true, Bool.not_false, if_true, if_false, Nat.reduceAdd, Nat.reduceSub, Nat.reduceLeDiff, Nat.zero_add, Nat.add_zero, Option.some.injEq, decide_true, decide_false, Bool.true_or, Bool.false_or, Bool.or_true, Bool.or_false, Bool.true_and, Bool.false_and, Bool.and_true, Bool.and_false])
local macro_rules | `(tactic| walk_at "wl") => `(tactic| simp -implicitDefEqProofs only [G.nx_has, G.nx_with_ends, G.nx_at_most, G.nx_at_least, G.nx_between, G.nx_raw_sum, G.nx_raw_difference, G.nx_raw_product, G.nx_raw_quotient, G.nx_remainder_by_one, G.nx_raw_remainder, G.nx_combine, G.nv__law_same, G.nx__law_same, G.nx__law_range, G.nx__law_members, G.nx__law_divisor, G.nx__law_made, G.nx__law_results, G.nx__law_parts, G.nx__law_rest, G.nx__law_pairs, G.nx__law_raw, G.nx__law_has, G.nx__law_due, G.nx__law_sound, G.nx__law_some, G.W__law_next, v_rg0, v_rg1, v_rg2, v_rgU, v_rgN, v_rgNn, v_rgS2, each_cons, each_nil, lcs_cons, lcs_nil, x_C, x_Op, x_Un, x_Test, x_And, x_Or, x_Not, x_If, x_AndV, x_OrV, x_NotV, x_Nil, x_Cons, x_Tup, x_Lst, x_Ch, x_U, x_E, x_K, x_Call, x_CB, x_ONone, x_OSome, x_oInt, x_Sl, x_Items, x_iL, x_iT, x_Rng1, x_Rng2, x_r1, x_r2, x_Name, x_Unp, x_TNil, x_TCons, x_Lc, x_Yes, x_Seq, x_kn, x_kr, x_kb, x_kc, x_Next, x_Break, x_Cont, x_Ret, x_RetN, x_Asg, x_Drop, x_SIf, x_New, x_own, x_NewD, x_ownL, x_uLstT, x_uLst, x_App, x_Ext, x_Aug, x_Par, x_par, x_ln, x_lc, x_lb, x_lr, x_For, x_k0, x_k1, x_fr, x_fn, x_run0, x_run1, x_run2, x_run3, x_run4, x_run5, x_run6, x_run7, x_run8, x_xU, x_xLu, x_xLe, x_xLo, x_xOu, x_xOo, x_xKd, x_xKe, x_Var, x_VarL, x_VarO, x_VarK, x_uB, x_uS, x_Ms, x_bb, x_Rret, x_Rite, x_Rgd, x_next, v_addI, v_addS, v_addT, v_addL, v_addN, v_sub, v_mul, v_fdiv, v_mod, v_lt, v_le, v_gt, v_ge, v_eqI, v_eqS, v_eqB, v_eqNN, v_eqSN, v_eqNS, v_neI, v_neS, v_neB, v_isN, v_isI, v_isS, v_isT, v_isL, v_isB, v_nisN, v_nisI, v_nisS, v_nisT, v_nisL, v_nisB, v_ixT, v_ixL, v_at0, v_at1, v_at2, v_at3, v_at4, v_neg, v_lenS, v_lenT, v_lenL, v_abs, v_intI, v_intB, v_strI, v_strS, v_tupT, v_tupL, v_lstT, v_lstL, v_max2, v_min2, v_gcd2, v_gcd3, v_augA, v_augS, v_slT, v_slL, v_isi_int_bool, v_isi_int_int, v_isi_int_str, v_isi_int_tuple, v_isi_int_list, v_isi_bool_bool, v_isi_bool_int, v_isi_bool_str, v_isi_bool_tuple, v_isi_bool_list, v_isi_str_bool, v_isi_str_int, v_isi_str_str, v_isi_str_tuple, v_isi_str_list, v_isi_tuple_bool, v_isi_tuple_int, v_isi_tuple_str, v_isi_tuple_tuple, v_isi_tuple_list, v_isi_NoneType_bool, v_isi_NoneType_int, v_isi_NoneType_str, v_isi_NoneType_tuple, v_isi_NoneType_list, v_revL, v_minL, v_maxL, v_inI, v_ninI, x_Sl3, x_LR3, v_LR3, v_Sl3, v_ss, v_sortS, v_ix3, v_put3, x_Put3, x_DGet, x_DIn, x_DNotIn, x_Put, x_xDd, x_xDe, x_xOd, v_keyI, v_keyS, v_all, v_any, v_dig, x_EnT, v_enT, v_inTl, v_inLl, v_ninTl, v_ninLl, v_inT1, v_inT2, v_inT3, v_inT4, v_inL2, v_ninT2, v_cutF1, v_cutF2, v_cutT1, v_cutT2, x_LcN, x_InN, x_InC, x_EaN, x_EaC, x_Disp, x_DispS, x_DispK, v_eqQ0, ofString_eq, String.reduceEq, reduceCtorEq, bind_ret, bind_fail, bind_raise, bind_guard, bind_ite, noX_bind, noX_ret, noX_fail, noX_raise, noX_guard, noX_ite, noX_pick, noX_any, wo_some, wo_none, guard_tt, List.getElem?_cons_zero, List.getElem?_cons_succ, List.set_cons_zero, List.set_cons_succ, List.length_cons, List.length_nil, List.map_cons, List.map_nil, List.cons_append, List.nil_append, List.replicate_succ, List.replicate_zero, decide_eq_true_eq, Bool.not_eq_true, Bool.false_eq_true, Bool.not_true, Bool.not_false, if_true, if_false, Nat.reduceAdd, Nat.reduceSub, Nat.reduceLeDiff, Nat.zero_add, Nat.add_zero, Option.some.injEq, decide_true, decide_false, Bool.true_or, Bool.false_or, Bool.or_true, Bool.or_false, Bool.true_and, Bool.false_and, Bool.and_true, Bool.and_false])
local macro_rules | `(tactic| walk_at "wg") => `(tactic| rw [guard_true (by first | assumption | omega | decide | (simp; done) | (simp; omega))])

theorem mk_id {l h s : Int} (r : Rg l h s) : mk l h s = (l, h, s) := by
  rw [mk_eq]
  rcases r with ⟨a, b⟩ | ⟨a, b, c⟩
  · rw [if_pos b, a]
  · rw [if_neg (by omega)]
theorem absmul {a b : Int} (h : a.natAbs ≤ 20000) (h2 : b.natAbs ≤ 20000) : (a * b).natAbs < 999999999 := by
  rw [Int.natAbs_mul]
  have := Nat.mul_le_mul h h2
  omega
section
variable {l h s l2 h2 s2 : Int}
theorem lraw_sum (r : Rg l h s) (r2 : Rg l2 h2 s2) (b : small l h) (b2 : small l2 h2) : W__law_raw [.u (.str (PySem.Str.ofString "+")), .u (rg l h s), .u (rg l2 h2 s2)] = ret (rgO (zSum l h s l2 h2 s2)) := by
  obtain ⟨f1, f2, f3, f4⟩ := r.facts
  obtain ⟨g1, g2, g3, g4⟩ := r2.facts
  obtain ⟨b1, b1'⟩ := b
  obtain ⟨b2, b2'⟩ := b2
  unfold W__law_raw w__law_raw
  walk_at "wx"
  rw [divisor_eq _ _ (by omega)]
  walk_at "wx"
  rw [made_eq]
  walk_at "wx"
  rw [mk_id (sum_ok r r2).1]
  rfl
theorem lraw_dif (r : Rg l h s) (r2 : Rg l2 h2 s2) (b : small l h) (b2 : small l2 h2) : W__law_raw [.u (.str (PySem.Str.ofString "-")), .u (rg l h s), .u (rg l2 h2 s2)] = ret (rgO (zDif l h s l2 h2 s2)) := by
  obtain ⟨f1, f2, f3, f4⟩ := r.facts
  obtain ⟨g1, g2, g3, g4⟩ := r2.facts
  obtain ⟨b1, b1'⟩ := b
  obtain ⟨b2, b2'⟩ := b2
  unfold W__law_raw w__law_raw
  walk_at "wx"
  rw [divisor_eq _ _ (by omega)]
  walk_at "wx"
  rw [made_eq]
  walk_at "wx"
  rw [mk_id (dif_ok r r2).1]
  rfl
theorem lraw_mul (r : Rg l h s) (r2 : Rg l2 h2 s2) (b : small l h) (b2 : small l2 h2) : W__law_raw [.u (.str (PySem.Str.ofString "*")), .u (rg l h s), .u (rg l2 h2 s2)] = ret (rgO (zMul l h s l2 h2 s2)) := by
  obtain ⟨f1, f2, f3, f4⟩ := r.facts
  obtain ⟨g1, g2, g3, g4⟩ := r2.facts
  obtain ⟨b1, b1'⟩ := b
  obtain ⟨b2, b2'⟩ := b2
  have p1 : (l2 * s).natAbs < 999999999 := absmul (by omega) (by omega)
  have p2 : (s * s2).natAbs < 999999999 := absmul (by omega) (by omega)
  unfold W__law_raw w__law_raw
  walk_at "wx"
  rw [divisor_eq _ _ (by omega)]
  walk_at "wx"
  rw [lpairs_eq (L := .tup [.int l, .int h]) (R := .tup [.int l2, .int h2]) [l, h] [l2, h2] rfl rfl (by simp) (by simp)]
  walk_at "wx"
  simp only [List.flatMap_cons, List.flatMap_nil, List.map_cons, List.map_nil, List.append_nil, List.cons_append, List.nil_append]
  walk_at "wl"
  repeat walk_at "wg"
  rw [divisor_eq _ _ p1]
  walk_at "wx"
  rw [divisor_eq _ _ p2]
  walk_at "wx"
  have hp : ([.int (l * l2), .int (l * h2), .int (h * l2), .int (h * h2)] : List U) = (cor l h l2 h2).map .int := rfl
  rw [guard_true (.inl ⟨by omega, by omega⟩), hp, v_minL, guard_true (by unfold cor; simp), v_maxL, guard_true (by unfold cor; simp)]
  walk_at "wx"
  rw [made_eq]
  walk_at "wx"
  have := mk_id (mul_ok r r2).1
  unfold mulS at this
  rw [this]
  rfl
theorem lraw_rem (r : Rg l h s) (r2 : Rg l2 h2 s2) (b : small l h) (b2 : small l2 h2) : W__law_raw [.u (.str (PySem.Str.ofString "mod")), .u (rg l h s), .u (rg l2 h2 s2)] = ret (rgO (zRem l h s l2 h2 s2)) := by
  obtain ⟨f1, f2, f3, f4⟩ := r.facts
  obtain ⟨g1, g2, g3, g4⟩ := r2.facts
  have b2' := b2
  obtain ⟨b1, b1'⟩ := b
  obtain ⟨b2, b2''⟩ := b2
  unfold W__law_raw w__law_raw
  walk_at "wx"
  rw [divisor_eq _ _ (by omega)]
  walk_at "wx"
  rw [lrest_eq r r2 b2']
  walk_at "wx"
theorem parts_nz (r2 : Rg l2 h2 s2) (b2 : small l2 h2) : ∀ x ∈ upE l2 h2 s2 ++ dnE l2 h2 s2, x ≠ 0 ∧ x.natAbs < 1000000 := fun x hx => by
  obtain ⟨b2, b2'⟩ := b2
  rcases List.mem_append.mp hx with q | q
  · rcases (alO_up r2).2 with e | ⟨p, q', e, e1, e2, e3⟩
    · rw [e] at q; cases q
    · rw [e] at q
      simp only [List.mem_cons, List.not_mem_nil, or_false] at q
      omega
  · rcases (amO_dn r2).2 with e | ⟨p, q', e, e1, e2, e3⟩
    · rw [e] at q; cases q
    · rw [e] at q
      simp only [List.mem_cons, List.not_mem_nil, or_false] at q
      omega
theorem parts_len (r2 : Rg l2 h2 s2) : (upE l2 h2 s2 ++ dnE l2 h2 s2).length ≤ 4 := by
  rw [List.length_append]
  rcases (alO_up r2).2 with e | ⟨p, q', e, e1, e2, e3⟩ <;> rcases (amO_dn r2).2 with e' | ⟨p, q', e', e1, e2, e3⟩ <;> rw [e, e'] <;> simp
theorem lraw_quo (r : Rg l h s) (r2 : Rg l2 h2 s2) (b : small l h) (b2 : small l2 h2) : W__law_raw [.u (.str (PySem.Str.ofString "/")), .u (rg l h s), .u (rg l2 h2 s2)] = ret (rgO (zQuo l h s l2 h2 s2)) := by
  obtain ⟨f1, f2, f3, f4⟩ := r.facts
  obtain ⟨g1, g2, g3, g4⟩ := r2.facts
  have nz := parts_nz r2 b2
  have pl := parts_len r2
  have pe := parts_eq r2 b2 (by obtain ⟨b2, b2'⟩ := b2; omega)
  obtain ⟨b1, b1'⟩ := b
  obtain ⟨b2, b2'⟩ := b2
  unfold W__law_raw w__law_raw
  walk_at "wx"
  rw [divisor_eq _ _ (by omega)]
  walk_at "wx"
  rw [pe]
  walk_at "wx"
  rw [lpairs_eq (L := .tup [.int l, .int h]) (R := .lst ((upE l2 h2 s2 ++ dnE l2 h2 s2).map .int)) [l, h] (upE l2 h2 s2 ++ dnE l2 h2 s2) rfl rfl (by simp) (by omega)]
  walk_at "wx"
  unfold zQuo quoL
  generalize upE l2 h2 s2 ++ dnE l2 h2 s2 = ps at nz pl ⊢
  rw [show ([l, h].flatMap fun a => ps.map fun b => U.tup [.int a, .int b]) = ([l, h].flatMap fun a => ps.map fun b => (a, b)).map fun p : Int × Int => U.tup [.int p.1, .int p.2] by simp [List.map_flatMap]; rfl]
  rw [show ([l, h].flatMap fun a => ps.map fun b => a.fdiv b) = ([l, h].flatMap fun a => ps.map fun b => (a, b)).map fun p : Int × Int => p.1.fdiv p.2 by simp [List.map_flatMap]; rfl]
  have nz2 : ∀ p ∈ ([l, h].flatMap fun a => ps.map fun b => (a, b)), p.2 ≠ 0 ∧ p.2.natAbs < 1000000 := fun p hp => by
    obtain ⟨a, _, hp⟩ := List.mem_flatMap.mp hp
    obtain ⟨x, hx, rfl⟩ := List.mem_map.mp hp
    exact nz x hx
  have pl2 : ([l, h].flatMap fun a => ps.map fun b => (a, b)).length ≤ 8 := by simp; omega
  generalize ([l, h].flatMap fun a => ps.map fun b => (a, b)) = qs at nz2 pl2 ⊢
  rw [lcs_mapm2 (fun p : Int × Int => U.tup [.int p.1, .int p.2]) (fun p : Int × Int => U.int (p.1.fdiv p.2)) qs fun p hp => ⟨_, rfl, by
    walk_at "wx"
    rw [res_quo _ _ (nz2 p hp).2, if_neg (nz2 p hp).1]⟩]
  walk_at "wx"
  have e2 : (qs.map fun p : Int × Int => U.int (p.1.fdiv p.2)) = (qs.map fun p : Int × Int => p.1.fdiv p.2).map .int := by simp
  rw [e2]
  have c : (qs = []) = ((qs.map fun p : Int × Int => p.1.fdiv p.2) = []) := by simp
  by_cases z : (qs.map fun p : Int × Int => p.1.fdiv p.2) = []
  · rw [if_pos z]
    rw [← c] at z
    subst z
    walk_at "wx"
    rfl
  · rw [if_neg z]
    have hz : ¬ qs.length = 0 := by intro w; apply z; rw [List.length_eq_zero_iff.mp w]; rfl
    walk_at "wx"
    rw [List.length_map, guard_true (by omega), if_neg (by rw [List.length_map, List.length_map]; omega), guard_true z, guard_true z, made_eq]
    walk_at "wx"
end
end M

set_option Elab.async false
set_option linter.all false
set_option maxRecDepth 100000
set_option maxHeartbeats 4000000
namespace M
open PySem L2 Pd Pu G Rm Cb
local macro_rules | `(tactic| walk_at "wx") => `(tactic| simp -implicitDefEqProofs only [G.nx_has, G.nx_with_ends, G.nx_at_most, G.nx_at_least, G.nx_between, G.nx_raw_sum, G.nx_raw_difference, G.nx_raw_product, G.nx_raw_quotient, G.nx_remainder_by_one, G.nx_raw_remainder, G.nx_combine, G.nv__law_same, G.nx__law_same, G.nx__law_range, G.nx__law_members, G.nx__law_divisor, G.nx__law_made, G.nx__law_results, G.nx__law_parts, G.nx__law_rest, G.nx__law_pairs, G.nx__law_raw, G.nx__law_has, G.nx__law_due, G.nx__law_sound, G.nx__law_some, G.W__law_next, v_rg0, v_rg1, v_rg2, v_rgU, v_rgN, v_rgNn, v_rgS2, x_C, x_Op, x_Un, x_Test, x_And, x_Or, x_Not, x_If, x_AndV, x_OrV, x_NotV, x_Nil, x_Cons, x_Tup, x_Lst, x_Ch, x_U, x_E, x_K, x_Call, x_CB, x_ONone, x_OSome, x_oInt, x_Sl, x_Items, x_iL, x_iT, x_Rng1, x_Rng2, x_r1, x_r2, x_Name, x_Unp, x_TNil, x_TCons, x_Lc, x_Yes, x_Seq, x_kn, x_kr, x_kb, x_kc, x_Next, x_Break, x_Cont, x_Ret, x_RetN, x_Asg, x_Drop, x_SIf, x_New, x_own, x_NewD, x_ownL, x_uLstT, x_uLst, x_App, x_Ext, x_Aug, x_Par, x_par, x_ln, x_lc, x_lb, x_lr, x_For, x_k0, x_k1, x_fr, x_fn, x_run0, x_run1, x_run2, x_run3, x_run4, x_run5, x_run6, x_run7, x_run8, x_xU, x_xLu, x_xLe, x_xLo, x_xOu, x_xOo, x_xKd, x_xKe, x_Var, x_VarL, x_VarO, x_VarK, x_uB, x_uS, x_Ms, x_bb, x_Rret, x_Rite, x_Rgd, x_next, v_addI, v_addS, v_addT, v_addL, v_addN, v_sub, v_mul, v_fdiv, v_mod, v_lt, v_le, v_gt, v_ge, v_eqI, v_eqS, v_eqB, v_eqNN, v_eqSN, v_eqNS, v_neI, v_neS, v_neB, v_isN, v_isI, v_isS, v_isT, v_isL, v_isB, v_nisN, v_nisI, v_nisS, v_nisT, v_nisL, v_nisB, v_ixT, v_ixL, v_at0, v_at1, v_at2, v_at3, v_at4, v_neg, v_lenS, v_lenT, v_lenL, v_abs, v_intI, v_intB, v_strI, v_strS, v_tupT, v_tupL, v_lstT, v_lstL, v_max2, v_min2, v_gcd2, v_gcd3, v_augA, v_augS, v_slT, v_slL, v_isi_int_bool, v_isi_int_int, v_isi_int_str, v_isi_int_tuple, v_isi_int_list, v_isi_bool_bool, v_isi_bool_int, v_isi_bool_str, v_isi_bool_tuple, v_isi_bool_list, v_isi_str_bool, v_isi_str_int, v_isi_str_str, v_isi_str_tuple, v_isi_str_list, v_isi_tuple_bool, v_isi_tuple_int, v_isi_tuple_str, v_isi_tuple_tuple, v_isi_tuple_list, v_isi_NoneType_bool, v_isi_NoneType_int, v_isi_NoneType_str, v_isi_NoneType_tuple, v_isi_NoneType_list, v_revL, v_minL, v_maxL, v_inI, v_ninI, x_Sl3, x_LR3, v_LR3, v_Sl3, v_ss, v_sortS, v_ix3, v_put3, x_Put3, x_DGet, x_DIn, x_DNotIn, x_Put, x_xDd, x_xDe, x_xOd, v_keyI, v_keyS, v_all, v_any, v_dig, x_EnT, v_enT, v_inTl, v_inLl, v_ninTl, v_ninLl, v_inT1, v_inT2, v_inT3, v_inT4, v_inL2, v_ninT2, v_cutF1, v_cutF2, v_cutT1, v_cutT2, x_LcN, x_InN, x_InC, x_EaN, x_EaC, x_Disp, x_DispS, x_DispK, v_eqQ0, ofString_eq, String.reduceEq, reduceCtorEq, bind_ret, bind_fail, bind_raise, bind_guard, bind_ite, noX_bind, noX_ret, noX_fail, noX_raise, noX_guard, noX_ite, noX_pick, noX_any, wo_some, wo_none, guard_tt, List.getElem?_cons_zero, List.getElem?_cons_succ, List.set_cons_zero, List.set_cons_succ, List.length_cons, List.length_nil, List.map_cons, List.map_nil, List.cons_append, List.nil_append, List.replicate_succ, List.replicate_zero, decide_eq_true_eq, Bool.not_eq_true, Bool.false_eq_true, Bool.not_true, Bool.not_false, if_true, if_false, Nat.reduceAdd, Nat.reduceSub, Nat.reduceLeDiff, Nat.zero_add, Nat.add_zero, Option.some.injEq, decide_true, decide_false, Bool.true_or, Bool.false_or, Bool.or_true, Bool.or_false, Bool.true_and, Bool.false_and, Bool.and_true, Bool.and_false])
local macro_rules | `(tactic| walk_at "wl") => `(tactic| simp -implicitDefEqProofs only [G.nx_has, G.nx_with_ends, G.nx_at_most, G.nx_at_least, G.nx_between, G.nx_raw_sum, G.nx_raw_difference, G.nx_raw_product, G.nx_raw_quotient, G.nx_remainder_by_one, G.nx_raw_remainder, G.nx_combine, G.nv__law_same, G.nx__law_same, G.nx__law_range, G.nx__law_members, G.nx__law_divisor, G.nx__law_made, G.nx__law_results, G.nx__law_parts, G.nx__law_rest, G.nx__law_pairs, G.nx__law_raw, G.nx__law_has, G.nx__law_due, G.nx__law_sound, G.nx__law_some, G.W__law_next, v_rg0, v_rg1, v_rg2, v_rgU, v_rgN, v_rgNn, v_rgS2, each_cons, each_nil, lcs_cons, lcs_nil, x_C, x_Op, x_Un, x_Test, x_And, x_Or, x_Not, x_If, x_AndV, x_OrV, x_NotV, x_Nil, x_Cons, x_Tup, x_Lst, x_Ch, x_U, x_E, x_K, x_Call, x_CB, x_ONone, x_OSome, x_oInt, x_Sl, x_Items, x_iL, x_iT, x_Rng1, x_Rng2, x_r1, x_r2, x_Name, x_Unp, x_TNil, x_TCons, x_Lc, x_Yes, x_Seq, x_kn, x_kr, x_kb, x_kc, x_Next, x_Break, x_Cont, x_Ret, x_RetN, x_Asg, x_Drop, x_SIf, x_New, x_own, x_NewD, x_ownL, x_uLstT, x_uLst, x_App, x_Ext, x_Aug, x_Par, x_par, x_ln, x_lc, x_lb, x_lr, x_For, x_k0, x_k1, x_fr, x_fn, x_run0, x_run1, x_run2, x_run3, x_run4, x_run5, x_run6, x_run7, x_run8, x_xU, x_xLu, x_xLe, x_xLo, x_xOu, x_xOo, x_xKd, x_xKe, x_Var, x_VarL, x_VarO, x_VarK, x_uB, x_uS, x_Ms, x_bb, x_Rret, x_Rite, x_Rgd, x_next, v_addI, v_addS, v_addT, v_addL, v_addN, v_sub, v_mul, v_fdiv, v_mod, v_lt, v_le, v_gt, v_ge, v_eqI, v_eqS, v_eqB, v_eqNN, v_eqSN, v_eqNS, v_neI, v_neS, v_neB, v_isN, v_isI, v_isS, v_isT, v_isL, v_isB, v_nisN, v_nisI, v_nisS, v_nisT, v_nisL, v_nisB, v_ixT, v_ixL, v_at0, v_at1, v_at2, v_at3, v_at4, v_neg, v_lenS, v_lenT, v_lenL, v_abs, v_intI, v_intB, v_strI, v_strS, v_tupT, v_tupL, v_lstT, v_lstL, v_max2, v_min2, v_gcd2, v_gcd3, v_augA, v_augS, v_slT, v_slL, v_isi_int_bool, v_isi_int_int, v_isi_int_str, v_isi_int_tuple, v_isi_int_list, v_isi_bool_bool, v_isi_bool_int, v_isi_bool_str, v_isi_bool_tuple, v_isi_bool_list, v_isi_str_bool, v_isi_str_int, v_isi_str_str, v_isi_str_tuple, v_isi_str_list, v_isi_tuple_bool, v_isi_tuple_int, v_isi_tuple_str, v_isi_tuple_tuple, v_isi_tuple_list, v_isi_NoneType_bool, v_isi_NoneType_int, v_isi_NoneType_str, v_isi_NoneType_tuple, v_isi_NoneType_list, v_revL, v_minL, v_maxL, v_inI, v_ninI, x_Sl3, x_LR3, v_LR3, v_Sl3, v_ss, v_sortS, v_ix3, v_put3, x_Put3, x_DGet, x_DIn, x_DNotIn, x_Put, x_xDd, x_xDe, x_xOd, v_keyI, v_keyS, v_all, v_any, v_dig, x_EnT, v_enT, v_inTl, v_inLl, v_ninTl, v_ninLl, v_inT1, v_inT2, v_inT3, v_inT4, v_inL2, v_ninT2, v_cutF1, v_cutF2, v_cutT1, v_cutT2, x_LcN, x_InN, x_InC, x_EaN, x_EaC, x_Disp, x_DispS, x_DispK, v_eqQ0, ofString_eq, String.reduceEq, reduceCtorEq, bind_ret, bind_fail, bind_raise, bind_guard, bind_ite, noX_bind, noX_ret, noX_fail, noX_raise, noX_guard, noX_ite, noX_pick, noX_any, wo_some, wo_none, guard_tt, List.getElem?_cons_zero, List.getElem?_cons_succ, List.set_cons_zero, List.set_cons_succ, List.length_cons, List.length_nil, List.map_cons, List.map_nil, List.cons_append, List.nil_append, List.replicate_succ, List.replicate_zero, decide_eq_true_eq, Bool.not_eq_true, Bool.false_eq_true, Bool.not_true, Bool.not_false, if_true, if_false, Nat.reduceAdd, Nat.reduceSub, Nat.reduceLeDiff, Nat.zero_add, Nat.add_zero, Option.some.injEq, decide_true, decide_false, Bool.true_or, Bool.false_or, Bool.or_true, Bool.or_false, Bool.true_and, Bool.false_and, Bool.and_true, Bool.and_false])
local macro_rules | `(tactic| walk_at "wg") => `(tactic| rw [guard_true (by first | assumption | omega | decide | (simp; done) | (simp; omega))])

theorem q_of {x y : U} {X Y : PyData} {r : Bool} (e1 : pyU x = some X) (e2 : pyU y = some Y) (c : SeqAt.shaped X = true ∧ SeqAt.shaped Y = true) (er : PyData.eqv X Y = r) : uEqQ x y = ret (.bl r) := by
  unfold uEqQ eqQ
  rw [e1, e2, wo_some, bind_ret, wo_some, bind_ret, guard_true c, er]; rfl
theorem q1 : uEqQ (.tup (cutU [.str (PySem.Str.ofString "overflow")] (some (-1)) none)) (.tup [.str (PySem.Str.ofString "overflow")]) = ret (.bl true) := q_of rfl rfl (by decide +kernel) (by decide +kernel)
theorem q2 : uEqQ (.tup (cutU [.str (PySem.Str.ofString "division"), .str (PySem.Str.ofString "overflow")] (some (-1)) none)) (.tup [.str (PySem.Str.ofString "overflow")]) = ret (.bl true) := q_of rfl rfl (by decide +kernel) (by decide +kernel)
theorem q3 : uEqQ (.tup (cutU [] (some (-1)) none)) (.tup [.str (PySem.Str.ofString "overflow")]) = ret (.bl false) := q_of rfl rfl (by decide +kernel) (by decide +kernel)
theorem q4 : uEqQ (.tup (cutU [.str (PySem.Str.ofString "division")] (some (-1)) none)) (.tup [.str (PySem.Str.ofString "overflow")]) = ret (.bl false) := q_of rfl rfl (by decide +kernel) (by decide +kernel)
def stepO : O3 → Int
  | none => 0
  | some (_, _, s) => s
theorem ldue_of {z : Str} {l h s l2 h2 s2 : Int} {raw : O3} (hr : W__law_raw [.u (.str z), .u (rg l h s), .u (rg l2 h2 s2)] = ret (rgO raw)) (ok : RgO raw) (hb : stepO raw < 1000000000) (r2 : Rg l2 h2 s2) : W__law_due [.u (.str z), .u (rg l h s), .u (rg l2 h2 s2)] = ret (resU raw (isDiv z && hasB l2 h2 s2 0)) := by
  unfold W__law_due w__law_due
  walk_at "wx"
  rw [lhas_eq r2, hr]
  unfold resU kd isDiv
  generalize (decide (z = PySem.Str.ofString "/") || decide (z = PySem.Str.ofString "mod")) = d1
  generalize hasB l2 h2 s2 0 = d2
  cases raw with
  | none =>
    rw [show rgO none = U.non from rfl, show cutO none = none from rfl, show ovf none = false from rfl, show rgO none = U.non from rfl]
    cases d1 <;> cases d2 <;> walk_at "wx"
  | some t =>
    obtain ⟨a, b, c⟩ := t
    rw [show rgO (some (a, b, c)) = rg a b c from rfl, show cutO (some (a, b, c)) = btw a b c (-10000) 10000 from rfl, show ovf (some (a, b, c)) = (decide (a < -10000) || decide (10000 < b)) from rfl]
    rw [← lcut_eq (show Rg a b c from ok)]
    have hb : c < 1000000000 := hb
    unfold lcut
    have f := Rg.facts (show Rg a b c from ok)
    have G1 : max 1 c ≠ 0 ∧ (max 1 c).natAbs < 1073741824 := by omega
    have G2 : ∀ x : Int, (-18446744073709551616 < x ∧ x < 18446744073709551616 ∨ -18446744073709551616 < c ∧ c < 18446744073709551616) := fun x => .inr ⟨by omega, by omega⟩
    cases d1 <;> cases d2 <;> (walk_at "wx"; by_cases c1 : a < -10000 <;> by_cases c2 : 10000 < b <;> by_cases c0 : c = 0)
    all_goals
      simp only [c1, c2, c0, if_true, if_false, guard_true G1, guard_true (G2 _), decide_true, decide_false, Bool.or_true, Bool.or_false, Bool.true_or, Bool.false_or, true_and, true_or, false_and, false_or, or_true, or_false, Bool.false_eq_true]
    all_goals
      first
        | (split
           · rfl
           · rw [made_eq]
             walk_at "wx")
        | (repeat rw [guard_true (by omega)]
           first | rw [q1] | rw [q2]
           walk_at "wx"
           done)
        | (repeat rw [guard_true (by omega)]
           first | rw [q1] | rw [q2]
           walk_at "wx"
           rfl)
        | (first | rw [q3] | rw [q4]
           walk_at "wx"
           split
           · rfl
           · rw [made_eq]
             walk_at "wx")
end M

set_option Elab.async false
set_option linter.all false
set_option maxRecDepth 100000
set_option maxHeartbeats 4000000
namespace M
open PySem L2 Pd Pu G Rm Cb
local macro_rules | `(tactic| walk_at "wx") => `(tactic| simp -implicitDefEqProofs only [G.nx_has, G.nx_with_ends, G.nx_at_most, G.nx_at_least, G.nx_between, G.nx_raw_sum, G.nx_raw_difference, G.nx_raw_product, G.nx_raw_quotient, G.nx_remainder_by_one, G.nx_raw_remainder, G.nx_combine, G.nv__law_same, G.nx__law_same, G.nx__law_range, G.nx__law_members, G.nx__law_divisor, G.nx__law_made, G.nx__law_results, G.nx__law_parts, G.nx__law_rest, G.nx__law_pairs, G.nx__law_raw, G.nx__law_has, G.nx__law_due, G.nx__law_sound, G.nx__law_some, G.W__law_next, v_rg0, v_rg1, v_rg2, v_rgU, v_rgN, v_rgNn, v_rgS2, x_C, x_Op, x_Un, x_Test, x_And, x_Or, x_Not, x_If, x_AndV, x_OrV, x_NotV, x_Nil, x_Cons, x_Tup, x_Lst, x_Ch, x_U, x_E, x_K, x_Call, x_CB, x_ONone, x_OSome, x_oInt, x_Sl, x_Items, x_iL, x_iT, x_Rng1, x_Rng2, x_r1, x_r2, x_Name, x_Unp, x_TNil, x_TCons, x_Lc, x_Yes, x_Seq, x_kn, x_kr, x_kb, x_kc, x_Next, x_Break, x_Cont, x_Ret, x_RetN, x_Asg, x_Drop, x_SIf, x_New, x_own, x_NewD, x_ownL, x_uLstT, x_uLst, x_App, x_Ext, x_Aug, x_Par, x_par, x_ln, x_lc, x_lb, x_lr, x_For, x_k0, x_k1, x_fr, x_fn, x_run0, x_run1, x_run2, x_run3, x_run4, x_run5, x_run6, x_run7, x_run8, x_xU, x_xLu, x_xLe, x_xLo, x_xOu, x_xOo, x_xKd, x_xKe, x_Var, x_VarL, x_VarO, x_VarK, x_uB, x_uS, x_Ms, x_bb, x_Rret, x_Rite, x_Rgd, x_next, v_addI, v_addS, v_addT, v_addL, v_addN, v_sub, v_mul, v_fdiv, v_mod, v_lt, v_le, v_gt, v_ge, v_eqI, v_eqS, v_eqB, v_eqNN, v_eqSN, v_eqNS, v_neI, v_neS, v_neB, v_isN, v_isI, v_isS, v_isT, v_isL, v_isB, v_nisN, v_nisI, v_nisS, v_nisT, v_nisL, v_nisB, v_ixT, v_ixL, v_at0, v_at1, v_at2, v_at3, v_at4, v_neg, v_lenS, v_lenT, v_lenL, v_abs, v_intI, v_intB, v_strI, v_strS, v_tupT, v_tupL, v_lstT, v_lstL, v_max2, v_min2, v_gcd2, v_gcd3, v_augA, v_augS, v_slT, v_slL, v_isi_int_bool, v_isi_int_int, v_isi_int_str, v_isi_int_tuple, v_isi_int_list, v_isi_bool_bool, v_isi_bool_int, v_isi_bool_str, v_isi_bool_tuple, v_isi_bool_list, v_isi_str_bool, v_isi_str_int, v_isi_str_str, v_isi_str_tuple, v_isi_str_list, v_isi_tuple_bool, v_isi_tuple_int, v_isi_tuple_str, v_isi_tuple_tuple, v_isi_tuple_list, v_isi_NoneType_bool, v_isi_NoneType_int, v_isi_NoneType_str, v_isi_NoneType_tuple, v_isi_NoneType_list, v_revL, v_minL, v_maxL, v_inI, v_ninI, x_Sl3, x_LR3, v_LR3, v_Sl3, v_ss, v_sortS, v_ix3, v_put3, x_Put3, x_DGet, x_DIn, x_DNotIn, x_Put, x_xDd, x_xDe, x_xOd, v_keyI, v_keyS, v_all, v_any, v_dig, x_EnT, v_enT, v_inTl, v_inLl, v_ninTl, v_ninLl, v_inT1, v_inT2, v_inT3, v_inT4, v_inL2, v_ninT2, v_cutF1, v_cutF2, v_cutT1, v_cutT2, x_LcN, x_InN, x_InC, x_EaN, x_EaC, x_Disp, x_DispS, x_DispK, v_eqQ0, ofString_eq, String.reduceEq, reduceCtorEq, bind_ret, bind_fail, bind_raise, bind_guard, bind_ite, noX_bind, noX_ret, noX_fail, noX_raise, noX_guard, noX_ite, noX_pick, noX_any, wo_some, wo_none, guard_tt, List.getElem?_cons_zero, List.getElem?_cons_succ, List.set_cons_zero, List.set_cons_succ, List.length_cons, List.length_nil, List.map_cons, List.map_nil, List.cons_append, List.nil_append, List.replicate_succ, List.replicate_zero, decide_eq_true_eq, Bool.not_eq_true, Bool.false_eq_true, Bool.not_true, Bool.not_false, if_true, if_false, Nat.reduceAdd, Nat.reduceSub, Nat.reduceLeDiff, Nat.zero_add, Nat.add_zero, Option.some.injEq, decide_true, decide_false, Bool.true_or, Bool.false_or, Bool.or_true, Bool.or_false, Bool.true_and, Bool.false_and, Bool.and_true, Bool.and_false])
local macro_rules | `(tactic| walk_at "wl") => `(tactic| simp -implicitDefEqProofs only [G.nx_has, G.nx_with_ends, G.nx_at_most, G.nx_at_least, G.nx_between, G.nx_raw_sum, G.nx_raw_difference, G.nx_raw_product, G.nx_raw_quotient, G.nx_remainder_by_one, G.nx_raw_remainder, G.nx_combine, G.nv__law_same, G.nx__law_same, G.nx__law_range, G.nx__law_members, G.nx__law_divisor, G.nx__law_made, G.nx__law_results, G.nx__law_parts, G.nx__law_rest, G.nx__law_pairs, G.nx__law_raw, G.nx__law_has, G.nx__law_due, G.nx__law_sound, G.nx__law_some, G.W__law_next, v_rg0, v_rg1, v_rg2, v_rgU, v_rgN, v_rgNn, v_rgS2, each_cons, each_nil, lcs_cons, lcs_nil, x_C, x_Op, x_Un, x_Test, x_And, x_Or, x_Not, x_If, x_AndV, x_OrV, x_NotV, x_Nil, x_Cons, x_Tup, x_Lst, x_Ch, x_U, x_E, x_K, x_Call, x_CB, x_ONone, x_OSome, x_oInt, x_Sl, x_Items, x_iL, x_iT, x_Rng1, x_Rng2, x_r1, x_r2, x_Name, x_Unp, x_TNil, x_TCons, x_Lc, x_Yes, x_Seq, x_kn, x_kr, x_kb, x_kc, x_Next, x_Break, x_Cont, x_Ret, x_RetN, x_Asg, x_Drop, x_SIf, x_New, x_own, x_NewD, x_ownL, x_uLstT, x_uLst, x_App, x_Ext, x_Aug, x_Par, x_par, x_ln, x_lc, x_lb, x_lr, x_For, x_k0, x_k1, x_fr, x_fn, x_run0, x_run1, x_run2, x_run3, x_run4, x_run5, x_run6, x_run7, x_run8, x_xU, x_xLu, x_xLe, x_xLo, x_xOu, x_xOo, x_xKd, x_xKe, x_Var, x_VarL, x_VarO, x_VarK, x_uB, x_uS, x_Ms, x_bb, x_Rret, x_Rite, x_Rgd, x_next, v_addI, v_addS, v_addT, v_addL, v_addN, v_sub, v_mul, v_fdiv, v_mod, v_lt, v_le, v_gt, v_ge, v_eqI, v_eqS, v_eqB, v_eqNN, v_eqSN, v_eqNS, v_neI, v_neS, v_neB, v_isN, v_isI, v_isS, v_isT, v_isL, v_isB, v_nisN, v_nisI, v_nisS, v_nisT, v_nisL, v_nisB, v_ixT, v_ixL, v_at0, v_at1, v_at2, v_at3, v_at4, v_neg, v_lenS, v_lenT, v_lenL, v_abs, v_intI, v_intB, v_strI, v_strS, v_tupT, v_tupL, v_lstT, v_lstL, v_max2, v_min2, v_gcd2, v_gcd3, v_augA, v_augS, v_slT, v_slL, v_isi_int_bool, v_isi_int_int, v_isi_int_str, v_isi_int_tuple, v_isi_int_list, v_isi_bool_bool, v_isi_bool_int, v_isi_bool_str, v_isi_bool_tuple, v_isi_bool_list, v_isi_str_bool, v_isi_str_int, v_isi_str_str, v_isi_str_tuple, v_isi_str_list, v_isi_tuple_bool, v_isi_tuple_int, v_isi_tuple_str, v_isi_tuple_tuple, v_isi_tuple_list, v_isi_NoneType_bool, v_isi_NoneType_int, v_isi_NoneType_str, v_isi_NoneType_tuple, v_isi_NoneType_list, v_revL, v_minL, v_maxL, v_inI, v_ninI, x_Sl3, x_LR3, v_LR3, v_Sl3, v_ss, v_sortS, v_ix3, v_put3, x_Put3, x_DGet, x_DIn, x_DNotIn, x_Put, x_xDd, x_xDe, x_xOd, v_keyI, v_keyS, v_all, v_any, v_dig, x_EnT, v_enT, v_inTl, v_inLl, v_ninTl, v_ninLl, v_inT1, v_inT2, v_inT3, v_inT4, v_inL2, v_ninT2, v_cutF1, v_cutF2, v_cutT1, v_cutT2, x_LcN, x_InN, x_InC, x_EaN, x_EaC, x_Disp, x_DispS, x_DispK, v_eqQ0, ofString_eq, String.reduceEq, reduceCtorEq, bind_ret, bind_fail, bind_raise, bind_guard, bind_ite, noX_bind, noX_ret, noX_fail, noX_raise, noX_guard, noX_ite, noX_pick, noX_any, wo_some, wo_none, guard_tt, List.getElem?_cons_zero, List.getElem?_cons_succ, List.set_cons_zero, List.set_cons_succ, List.length_cons, List.length_nil, List.map_cons, List.map_nil, List.cons_append, List.nil_append, List.replicate_succ, List.replicate_zero, decide_eq_true_eq, Bool.not_eq_true, Bool.false_eq_true, Bool.not_true, Bool.not_false, if_true, if_false, Nat.reduceAdd, Nat.reduceSub, Nat.reduceLeDiff, Nat.zero_add, Nat.add_zero, Option.some.injEq, decide_true, decide_false, Bool.true_or, Bool.false_or, Bool.or_true, Bool.or_false, Bool.true_and, Bool.false_and, Bool.and_true, Bool.and_false])
local macro_rules | `(tactic| walk_at "wg") => `(tactic| rw [guard_true (by first | assumption | omega | decide | (simp; done) | (simp; omega))])

/-! ### the five operations -/
/-- what a sign makes of two numbers -/
def op (z : Str) (a b : Int) : Option Int :=
  if z = PySem.Str.ofString "+" then some (a + b) else if z = PySem.Str.ofString "-" then some (a - b) else if z = PySem.Str.ofString "*" then some (a * b) else if b = 0 then none else if z = PySem.Str.ofString "/" then some (a.fdiv b) else some (a.fmod b)
def oU : Option Int → U
  | none => .non
  | some n => .int n
/-- a sign of which all is known -/
structure Sg (z : Str) (l h s l2 h2 s2 : Int) (raw : O3) : Prop where
  res : ∀ a b : Int, a.natAbs < 1000000 → b.natAbs < 1000000 → W__law_results [.u (.str z), .u (.int a), .u (.int b)] = ret (oU (op z a b))
  com : W_combine [.u (.str z), .u (rg l h s), .u (rg l2 h2 s2)] = ret (resU raw (isDiv z && hasB l2 h2 s2 0))
  due : W__law_due [.u (.str z), .u (rg l h s), .u (rg l2 h2 s2)] = ret (resU raw (isDiv z && hasB l2 h2 s2 0))
  rgo : RgO raw
  bnd : stepO raw < 1000000000
  sou : ∀ a b r : Int, l ≤ a ∧ a ≤ h ∧ s ∣ a - l → l2 ≤ b ∧ b ≤ h2 ∧ s2 ∣ b - l2 → op z a b = some r → inO r raw
  non : ∀ a b : Int, op z a b = none → isDiv z = true ∧ b = 0
theorem rgo_step {l h s B : Int} (r : RgO (some (l, h, s))) (h1 : -B ≤ l) (h2 : h ≤ B) (hB : B ≤ 400000000) : stepO (some (l, h, s)) < 1000000000 := by
  have f := Rg.facts (show Rg l h s from r)
  show s < 1000000000
  omega
theorem op_sum (a b : Int) : op (PySem.Str.ofString "+") a b = some (a + b) := rfl
theorem op_dif (a b : Int) : op (PySem.Str.ofString "-") a b = some (a - b) := by unfold op; rw [if_neg (by decide), if_pos rfl]
theorem op_mul (a b : Int) : op (PySem.Str.ofString "*") a b = some (a * b) := by unfold op; rw [if_neg (by decide), if_neg (by decide), if_pos rfl]
theorem op_quo (a b : Int) : op (PySem.Str.ofString "/") a b = if b = 0 then none else some (a.fdiv b) := by unfold op; rw [if_neg (by decide), if_neg (by decide), if_neg (by decide), if_pos rfl]
theorem op_rem (a b : Int) : op (PySem.Str.ofString "mod") a b = if b = 0 then none else some (a.fmod b) := by unfold op; rw [if_neg (by decide), if_neg (by decide), if_neg (by decide), if_neg (show ¬ PySem.Str.ofString "mod" = PySem.Str.ofString "/" by decide)]
section
variable {l h s l2 h2 s2 : Int}
theorem sg_sum (r : Rg l h s) (r2 : Rg l2 h2 s2) (b : small l h) (b2 : small l2 h2) : Sg (PySem.Str.ofString "+") l h s l2 h2 s2 (zSum l h s l2 h2 s2) := by
  obtain ⟨k1, k2⟩ := sum_ok r r2
  have hb : stepO (zSum l h s l2 h2 s2) < 1000000000 := rgo_step (B := 20000) k1 (by have := b.1; have := b2.1; omega) (by have := b.2; have := b2.2; omega) (by omega)
  exact ⟨fun a b _ _ => res_sum a b, combine_of rfl nx_raw_sum (raw_sum_eq ..) k1 r2, ldue_of (lraw_sum r r2 b b2) k1 hb r2, k1, hb, fun x y q hx hy e => by
    rw [op_sum] at e
    cases e
    exact k2 x y hx hy, fun a b e => by rw [op_sum] at e; cases e⟩
theorem sg_dif (r : Rg l h s) (r2 : Rg l2 h2 s2) (b : small l h) (b2 : small l2 h2) : Sg (PySem.Str.ofString "-") l h s l2 h2 s2 (zDif l h s l2 h2 s2) := by
  obtain ⟨k1, k2⟩ := dif_ok r r2
  have hb : stepO (zDif l h s l2 h2 s2) < 1000000000 := rgo_step (B := 20000) k1 (by have := b.1; have := b2.2; omega) (by have := b.2; have := b2.1; omega) (by omega)
  exact ⟨fun a b _ _ => by rw [op_dif]; exact res_dif a b, combine_of rfl nx_raw_difference (raw_dif_eq ..) k1 r2, ldue_of (lraw_dif r r2 b b2) k1 hb r2, k1, hb, fun x y q hx hy e => by
    rw [op_dif] at e
    cases e
    exact k2 x y hx hy, fun a b e => by rw [op_dif] at e; cases e⟩
theorem mulB {a b : Int} (h : a.natAbs ≤ 10000) (h2 : b.natAbs ≤ 10000) : -100000000 ≤ a * b ∧ a * b ≤ 100000000 := by
  have : (a * b).natAbs ≤ 100000000 := by
    rw [Int.natAbs_mul]
    exact Nat.mul_le_mul h h2
  omega
theorem sg_mul (r : Rg l h s) (r2 : Rg l2 h2 s2) (b : small l h) (b2 : small l2 h2) : Sg (PySem.Str.ofString "*") l h s l2 h2 s2 (zMul l h s l2 h2 s2) := by
  obtain ⟨k1, k2⟩ := mul_ok r r2
  have bb := b
  have bb2 := b2
  obtain ⟨p1, p1'⟩ := b
  obtain ⟨p2, p2'⟩ := b2
  have f := r.facts
  have g := r2.facts
  have all : ∀ x ∈ cor l h l2 h2, -100000000 ≤ x ∧ x ≤ 100000000 := fun x hx => by
    unfold cor at hx
    simp only [List.mem_cons, List.not_mem_nil, or_false] at hx
    rcases hx with rfl | rfl | rfl | rfl <;> exact mulB (by omega) (by omega)
  have ne : cor l h l2 h2 ≠ [] := by unfold cor; simp
  have hb : stepO (zMul l h s l2 h2 s2) < 1000000000 := rgo_step (B := 100000000) k1 (all _ (minI_mem _ ne)).1 (all _ (maxI_mem _ ne)).2 (by omega)
  exact ⟨fun a b ha hb => by rw [op_mul]; exact res_mul a b ha, combine_of rfl nx_raw_product (raw_mul_eq bb bb2 r r2) k1 r2, ldue_of (lraw_mul r r2 bb bb2) k1 hb r2, k1, hb, fun x y q hx hy e => by
    rw [op_mul] at e
    cases e
    exact k2 x y hx hy, fun a b e => by rw [op_mul] at e; cases e⟩
theorem stepO_quo : stepO (zQuo l h s l2 h2 s2) < 1000000000 := by
  unfold zQuo
  split
  · decide
  · rw [mk_eq]
    show (if _ then (0 : Int) else 1) < _
    split <;> decide
theorem sg_quo (r : Rg l h s) (r2 : Rg l2 h2 s2) (b : small l h) (b2 : small l2 h2) : Sg (PySem.Str.ofString "/") l h s l2 h2 s2 (zQuo l h s l2 h2 s2) := by
  obtain ⟨k1, k2⟩ := quo_ok r r2
  exact ⟨fun a b ha hb => by rw [op_quo, res_quo a b hb]; split <;> rfl, combine_of rfl nx_raw_quotient (raw_quo_eq b b2 r r2) k1 r2, ldue_of (lraw_quo r r2 b b2) k1 stepO_quo r2, k1, stepO_quo, fun x y q hx hy e => by
    rw [op_quo] at e
    split at e
    · cases e
    · cases e
      exact k2 x y hx hy (by assumption), fun a b e => by
    rw [op_quo] at e
    split at e
    · exact ⟨by decide, by assumption⟩
    · cases e⟩
theorem stepO_rem (r : Rg l h s) (b : small l h) : stepO (zRem l h s l2 h2 s2) < 1000000000 := by
  obtain ⟨b1, b2⟩ := b
  have f := r.facts
  unfold zRem zOne
  split
  · rw [mk_eq]
    show (if _ then (0 : Int) else 1) < _
    split <;> decide
  · split
    · decide
    · split
      · show (0 : Int) < _; decide
      · split
        · show s < _; omega
        · show (1 : Int) < _; decide
theorem sg_rem (r : Rg l h s) (r2 : Rg l2 h2 s2) (b : small l h) (b2 : small l2 h2) : Sg (PySem.Str.ofString "mod") l h s l2 h2 s2 (zRem l h s l2 h2 s2) := by
  obtain ⟨k1, k2⟩ := rem_ok r r2
  exact ⟨fun a b ha hb => by rw [op_rem, res_rem a b hb]; split <;> rfl, combine_of rfl nx_raw_remainder (raw_rem_eq b2 r2) k1 r2, ldue_of (lraw_rem r r2 b b2) k1 (stepO_rem r b) r2, k1, stepO_rem r b, fun x y q hx hy e => by
    rw [op_rem] at e
    split at e
    · cases e
    · cases e
      exact k2 x y hx hy (by assumption), fun a b e => by
    rw [op_rem] at e
    split at e
    · exact ⟨by decide, by assumption⟩
    · cases e⟩
end
end M

set_option Elab.async false
set_option linter.all false
set_option maxRecDepth 100000
set_option maxHeartbeats 4000000
namespace M
open PySem L2 Pd Pu G Rm Cb
local macro_rules | `(tactic| walk_at "wx") => `(tactic| simp -implicitDefEqProofs only [G.nx_has, G.nx_with_ends, G.nx_at_most, G.nx_at_least, G.nx_between, G.nx_raw_sum, G.nx_raw_difference, G.nx_raw_product, G.nx_raw_quotient, G.nx_remainder_by_one, G.nx_raw_remainder, G.nx_combine, G.nv__law_same, G.nx__law_same, G.nx__law_range, G.nx__law_members, G.nx__law_divisor, G.nx__law_made, G.nx__law_results, G.nx__law_parts, G.nx__law_rest, G.nx__law_pairs, G.nx__law_raw, G.nx__law_has, G.nx__law_due, G.nx__law_sound, G.nx__law_some, G.W__law_next, v_rg0, v_rg1, v_rg2, v_rgU, v_rgN, v_rgNn, v_rgS2, x_C, x_Op, x_Un, x_Test, x_And, x_Or, x_Not, x_If, x_AndV, x_OrV, x_NotV, x_Nil, x_Cons, x_Tup, x_Lst, x_Ch, x_U, x_E, x_K, x_Call, x_CB, x_ONone, x_OSome, x_oInt, x_Sl, x_Items, x_iL, x_iT, x_Rng1, x_Rng2, x_r1, x_r2, x_Name, x_Unp, x_TNil, x_TCons, x_Lc, x_Yes, x_Seq, x_kn, x_kr, x_kb, x_kc, x_Next, x_Break, x_Cont, x_Ret, x_RetN, x_Asg, x_Drop, x_SIf, x_New, x_own, x_NewD, x_ownL, x_uLstT, x_uLst, x_App, x_Ext, x_Aug, x_Par, x_par, x_ln, x_lc, x_lb, x_lr, x_For, x_k0, x_k1, x_fr, x_fn, x_run0, x_run1, x_run2, x_run3, x_run4, x_run5, x_run6, x_run7, x_run8, x_xU, x_xLu, x_xLe, x_xLo, x_xOu, x_xOo, x_xKd, x_xKe, x_Var, x_VarL, x_VarO, x_VarK, x_uB, x_uS, x_Ms, x_bb, x_Rret, x_Rite, x_Rgd, x_next, v_addI, v_addS, v_addT, v_addL, v_addN, v_sub, v_mul, v_fdiv, v_mod, v_lt, v_le, v_gt, v_ge, v_eqI, v_eqS, v_eqB, v_eqNN, v_eqSN, v_eqNS, v_neI, v_neS, v_neB, v_isN, v_isI, v_isS, v_isT, v_isL, v_isB, v_nisN, v_nisI, v_nisS, v_nisT, v_nisL, v_nisB, v_ixT, v_ixL, v_at0, v_at1, v_at2, v_at3, v_at4, v_neg, v_lenS, v_lenT, v_lenL, v_abs, v_intI, v_intB, v_strI, v_strS, v_tupT, v_tupL, v_lstT, v_lstL, v_max2, v_min2, v_gcd2, v_gcd3, v_augA, v_augS, v_slT, v_slL, v_isi_int_bool, v_isi_int_int, v_isi_int_str, v_isi_int_tuple, v_isi_int_list, v_isi_bool_bool, v_isi_bool_int, v_isi_bool_str, v_isi_bool_tuple, v_isi_bool_list, v_isi_str_bool, v_isi_str_int, v_isi_str_str, v_isi_str_tuple, v_isi_str_list, v_isi_tuple_bool, v_isi_tuple_int, v_isi_tuple_str, v_isi_tuple_tuple, v_isi_tuple_list, v_isi_NoneType_bool, v_isi_NoneType_int, v_isi_NoneType_str, v_isi_NoneType_tuple, v_isi_NoneType_list, v_revL, v_minL, v_maxL, v_inI, v_ninI, x_Sl3, x_LR3, v_LR3, v_Sl3, v_ss, v_sortS, v_ix3, v_put3, x_Put3, x_DGet, x_DIn, x_DNotIn, x_Put, x_xDd, x_xDe, x_xOd, v_keyI, v_keyS, v_all, v_any, v_dig, x_EnT, v_enT, v_inTl, v_inLl, v_ninTl, v_ninLl, v_inT1, v_inT2, v_inT3, v_inT4, v_inL2, v_ninT2, v_cutF1, v_cutF2, v_cutT1, v_cutT2, x_LcN, x_InN, x_InC, x_EaN, x_EaC, x_Disp, x_DispS, x_DispK, v_eqQ0, ofString_eq, String.reduceEq, reduceCtorEq, bind_ret, bind_fail, bind_raise, bind_guard, bind_ite, noX_bind, noX_ret, noX_fail, noX_raise, noX_guard, noX_ite, noX_pick, noX_any, wo_some, wo_none, guard_tt, List.getElem?_cons_zero, List.getElem?_cons_succ, List.set_cons_zero, List.set_cons_succ, List.length_cons, List.length_nil, List.map_cons, List.map_nil, List.cons_append, List.nil_append, List.replicate_succ, List.replicate_zero, decide_eq_true_eq, Bool.not_eq_true, Bool.false_eq_true, Bool.not_true, Bool.not_false, if_true, if_false, Nat.reduceAdd, Nat.reduceSub, Nat.reduceLeDiff, Nat.zero_add, Nat.add_zero, Option.some.injEq, decide_true, decide_false, Bool.true_or, Bool.false_or, Bool.or_true, Bool.or_false, Bool.true_and, Bool.false_and, Bool.and_true, Bool.and_false])
local macro_rules | `(tactic| walk_at "wl") => `(tactic| simp -implicitDefEqProofs only [G.nx_has, G.nx_with_ends, G.nx_at_most, G.nx_at_least, G.nx_between, G.nx_raw_sum, G.nx_raw_difference, G.nx_raw_product, G.nx_raw_quotient, G.nx_remainder_by_one, G.nx_raw_remainder, G.nx_combine, G.nv__law_same, G.nx__law_same, G.nx__law_range, G.nx__law_members, G.nx__law_divisor, G.nx__law_made, G.nx__law_results, G.nx__law_parts, G.nx__law_rest, G.nx__law_pairs, G.nx__law_raw, G.nx__law_has, G.nx__law_due, G.nx__law_sound, G.nx__law_some, G.W__law_next, v_rg0, v_rg1, v_rg2, v_rgU, v_rgN, v_rgNn, v_rgS2, each_cons, each_nil, lcs_cons, lcs_nil, x_C, x_Op, x_Un, x_Test, x_And, x_Or, x_Not, x_If, x_AndV, x_OrV, x_NotV, x_Nil, x_Cons, x_Tup, x_Lst, x_Ch, x_U, x_E, x_K, x_Call, x_CB, x_ONone, x_OSome, x_oInt, x_Sl, x_Items, x_iL, x_iT, x_Rng1, x_Rng2, x_r1, x_r2, x_Name, x_Unp, x_TNil, x_TCons, x_Lc, x_Yes, x_Seq, x_kn, x_kr, x_kb, x_kc, x_Next, x_Break, x_Cont, x_Ret, x_RetN, x_Asg, x_Drop, x_SIf, x_New, x_own, x_NewD, x_ownL, x_uLstT, x_uLst, x_App, x_Ext, x_Aug, x_Par, x_par, x_ln, x_lc, x_lb, x_lr, x_For, x_k0, x_k1, x_fr, x_fn, x_run0, x_run1, x_run2, x_run3, x_run4, x_run5, x_run6, x_run7, x_run8, x_xU, x_xLu, x_xLe, x_xLo, x_xOu, x_xOo, x_xKd, x_xKe, x_Var, x_VarL, x_VarO, x_VarK, x_uB, x_uS, x_Ms, x_bb, x_Rret, x_Rite, x_Rgd, x_next, v_addI, v_addS, v_addT, v_addL, v_addN, v_sub, v_mul, v_fdiv, v_mod, v_lt, v_le, v_gt, v_ge, v_eqI, v_eqS, v_eqB, v_eqNN, v_eqSN, v_eqNS, v_neI, v_neS, v_neB, v_isN, v_isI, v_isS, v_isT, v_isL, v_isB, v_nisN, v_nisI, v_nisS, v_nisT, v_nisL, v_nisB, v_ixT, v_ixL, v_at0, v_at1, v_at2, v_at3, v_at4, v_neg, v_lenS, v_lenT, v_lenL, v_abs, v_intI, v_intB, v_strI, v_strS, v_tupT, v_tupL, v_lstT, v_lstL, v_max2, v_min2, v_gcd2, v_gcd3, v_augA, v_augS, v_slT, v_slL, v_isi_int_bool, v_isi_int_int, v_isi_int_str, v_isi_int_tuple, v_isi_int_list, v_isi_bool_bool, v_isi_bool_int, v_isi_bool_str, v_isi_bool_tuple, v_isi_bool_list, v_isi_str_bool, v_isi_str_int, v_isi_str_str, v_isi_str_tuple, v_isi_str_list, v_isi_tuple_bool, v_isi_tuple_int, v_isi_tuple_str, v_isi_tuple_tuple, v_isi_tuple_list, v_isi_NoneType_bool, v_isi_NoneType_int, v_isi_NoneType_str, v_isi_NoneType_tuple, v_isi_NoneType_list, v_revL, v_minL, v_maxL, v_inI, v_ninI, x_Sl3, x_LR3, v_LR3, v_Sl3, v_ss, v_sortS, v_ix3, v_put3, x_Put3, x_DGet, x_DIn, x_DNotIn, x_Put, x_xDd, x_xDe, x_xOd, v_keyI, v_keyS, v_all, v_any, v_dig, x_EnT, v_enT, v_inTl, v_inLl, v_ninTl, v_ninLl, v_inT1, v_inT2, v_inT3, v_inT4, v_inL2, v_ninT2, v_cutF1, v_cutF2, v_cutT1, v_cutT2, x_LcN, x_InN, x_InC, x_EaN, x_EaC, x_Disp, x_DispS, x_DispK, v_eqQ0, ofString_eq, String.reduceEq, reduceCtorEq, bind_ret, bind_fail, bind_raise, bind_guard, bind_ite, noX_bind, noX_ret, noX_fail, noX_raise, noX_guard, noX_ite, noX_pick, noX_any, wo_some, wo_none, guard_tt, List.getElem?_cons_zero, List.getElem?_cons_succ, List.set_cons_zero, List.set_cons_succ, List.length_cons, List.length_nil, List.map_cons, List.map_nil, List.cons_append, List.nil_append, List.replicate_succ, List.replicate_zero, decide_eq_true_eq, Bool.not_eq_true, Bool.false_eq_true, Bool.not_true, Bool.not_false, if_true, if_false, Nat.reduceAdd, Nat.reduceSub, Nat.reduceLeDiff, Nat.zero_add, Nat.add_zero, Option.some.injEq, decide_true, decide_false, Bool.true_or, Bool.false_or, Bool.or_true, Bool.or_false, Bool.true_and, Bool.false_and, Bool.and_true, Bool.and_false])
local macro_rules | `(tactic| walk_at "wg") => `(tactic| rw [guard_true (by first | assumption | omega | decide | (simp; done) | (simp; omega))])

theorem nin_div (ov : Bool) : uNotIn (.str (PySem.Str.ofString "division")) (.tup (kd true ov)) = ret (.bl false) := by
  cases ov
  · rw [show kd true false = [PySem.Str.ofString "division"].map .str from rfl, v_ninTl]; rfl
  · rw [show kd true true = [PySem.Str.ofString "division", PySem.Str.ofString "overflow"].map .str from rfl, v_ninTl]; rfl
theorem nin_ovf (dv : Bool) : uNotIn (.str (PySem.Str.ofString "overflow")) (.tup (kd dv true)) = ret (.bl false) := by
  cases dv
  · rw [show kd false true = [PySem.Str.ofString "overflow"].map .str from rfl, v_ninTl]; rfl
  · rw [show kd true true = [PySem.Str.ofString "division", PySem.Str.ofString "overflow"].map .str from rfl, v_ninTl]; rfl
theorem plU_res (raw : O3) (dv : Bool) : plU 3 (resU raw dv) = true := by
  unfold resU
  cases cutO raw with
  | none => cases dv <;> cases ovf raw <;> rfl
  | some t => obtain ⟨a, b, c⟩ := t; cases dv <;> cases ovf raw <;> rfl
section
variable {z : Str} {l h s l2 h2 s2 : Int} {raw : O3}
def env (z : Str) (T L R A : U) (raw : O3) (dv : Bool) : Pu.Env := [some (.u (.str z)), some (.u T), some (.u L), some (.u R), some (.u A), some (.u (rgO (cutO raw))), some (.u (.tup (kd dv (ovf raw)))), none, none]
theorem snd_body (g : Sg z l h s l2 h2 s2 raw) (r2 : Rg l2 h2 s2) {T L R : U} {a b : Int} (ha : (l ≤ a ∧ a ≤ h ∧ s ∣ a - l) ∧ a.natAbs < 1000000) (hb : (l2 ≤ b ∧ b ≤ h2 ∧ s2 ∣ b - l2) ∧ b.natAbs < 1000000) :
    ∃ θ', Pu.bind (wName 7 (.int b) (env z T L R (.int a) raw (isDiv z && hasB l2 h2 s2 0))) (wb__law_sound_1 W__law_results W__law_has) = Pu.ret (.nx θ') ∧ kill θ' [7, 8] = env z T L R (.int a) raw (isDiv z && hasB l2 h2 s2 0) := by
  unfold env
  refine ⟨[some (.u (.str z)), some (.u T), some (.u L), some (.u R), some (.u (.int a)), some (.u (rgO (cutO raw))), some (.u (.tup (kd (isDiv z && hasB l2 h2 s2 0) (ovf raw)))), some (.u (.int b)), some (.u (oU (op z a b)))], ?_, rfl⟩
  have hr := g.rgo
  have hn := g.non a b
  have hs := g.sou a b
  have hg := g.res a b ha.2 hb.2
  clear g
  unfold wb__law_sound_1
  walk_at "wx"
  rw [hg]
  cases e : op z a b with
  | none =>
    obtain ⟨d, e0⟩ := hn e
    subst e0
    have hz : hasB l2 h2 s2 0 = true := hasB_iff.mpr hb.1
    rw [d, hz, show oU none = U.non from rfl]
    walk_at "wx"
    rw [nin_div]
    walk_at "wx"
  | some q =>
    have hq := hs q ha.1 hb.1 e
    rw [show oU (some q) = U.int q from rfl]
    generalize (isDiv z && hasB l2 h2 s2 0) = dv
    match raw, hr, hq with
    | none, _, hq => exact hq.elim
    | some (x, y, c), hr, hq =>
      obtain ⟨m1, m2⟩ := btw_ok (show Rg x y c from hr) (-10000) 10000
      obtain ⟨q1, q2, q3⟩ : x ≤ q ∧ q ≤ y ∧ c ∣ q - x := hq
      have hin := m2 q
      rw [show cutO (some (x, y, c)) = btw x y c (-10000) 10000 from rfl, show ovf (some (x, y, c)) = (decide (x < -10000) || decide (10000 < y)) from rfl]
      have over : ¬ (-10000 ≤ q ∧ q ≤ 10000) → (decide (x < -10000) || decide (10000 < y)) = true := fun w => by
        simp; omega
      generalize (decide (x < -10000) || decide (10000 < y)) = ov at over ⊢
      walk_at "wx"
      by_cases c1 : -10000 ≤ q
      · rw [if_pos c1]
        by_cases c2 : q ≤ 10000
        · rw [if_neg (show ¬ (!decide (q ≤ 10000)) = true by simp [c2])]
          have hm := hin.mpr ⟨⟨q1, q2, q3⟩, c1, c2⟩
          revert m1 hm
          cases btw x y c (-10000) 10000 with
          | none => exact fun _ hm => hm.elim
          | some t =>
            obtain ⟨u, v, w⟩ := t
            intro m1 hm
            rw [show rgO (some (u, v, w)) = rg u v w from rfl, lhas_eq (show Rg u v w from m1), hasB_iff.mpr hm]
            walk_at "wx"
        · rw [if_pos (show (!decide (q ≤ 10000)) = true by simp; omega), over (by omega), nin_ovf]
          walk_at "wx"
      · rw [if_neg c1, over (by omega), nin_ovf]
        walk_at "wx"
/-- the numbers of a range -/
def InR (l h s : Int) (xs : List Int) : Prop := ∀ a ∈ xs, (l ≤ a ∧ a ≤ h ∧ s ∣ a - l) ∧ a.natAbs < 1000000
theorem sound_eq (g : Sg z l h s l2 h2 s2 raw) (r2 : Rg l2 h2 s2) {as bs : List Int} (ha : InR l h s as) (hb : InR l2 h2 s2 bs) :
    W__law_sound [.u (.str z), .u (resU raw (isDiv z && hasB l2 h2 s2 0)), .u (.lst (as.map .int)), .u (.lst (bs.map .int))] = Pu.ret (.bl true) := by
  unfold W__law_sound w__law_sound resU
  walk_at "wx"
  rw [each_skip (θ0 := [some (.u (.str z)), some (.u (resU raw (isDiv z && hasB l2 h2 s2 0))), some (.u (.lst (as.map .int))), some (.u (.lst (bs.map .int))), none, some (.u (rgO (cutO raw))), some (.u (.tup (kd (isDiv z && hasB l2 h2 s2 0) (ovf raw)))), none, none]) _ _ rfl]
  · walk_at "wx"
  · intro u hu
    obtain ⟨a, hA, rfl⟩ := List.mem_map.mp hu
    refine ⟨env z (resU raw (isDiv z && hasB l2 h2 s2 0)) (.lst (as.map .int)) (.lst (bs.map .int)) (.int a) raw (isDiv z && hasB l2 h2 s2 0), ?_, rfl⟩
    unfold wb__law_sound_2
    walk_at "wx"
    rw [each_skip (θ0 := env z (resU raw (isDiv z && hasB l2 h2 s2 0)) (.lst (as.map .int)) (.lst (bs.map .int)) (.int a) raw (isDiv z && hasB l2 h2 s2 0)) _ _ rfl]
    intro u hu
    obtain ⟨b, hB, rfl⟩ := List.mem_map.mp hu
    exact snd_body g r2 (ha a hA) (hb b hB)
end
theorem members_in {l h s : Int} (r : Rg l h s) (b : small l h) : InR l h s (mem l h s) := fun a ha => by
  have := (mem_mem r a).mp ha
  obtain ⟨b1, b2⟩ := b
  exact ⟨this, by omega⟩
theorem draw_some {A : Type} {ns : List Int} {l h s : Int} (r : Rg l h s) (b : small l h) {k : U → W A} {Q : A → Prop} {N : XQ} (hk : ∀ as : List Int, InR l h s as → Run (k (.lst (as.map .int))) Q N) : Run (bind (W__law_some [.u .st, .u (.rol ns), .u (rg l h s)]) k) Q N := by
  obtain ⟨b1, b2⟩ := b
  have f := r.facts
  have two : ∀ n i j : Int, 0 ≤ i → i ≤ n → 0 ≤ j → j ≤ n → (s = 0 ∨ (0 < s ∧ n = (h - l) / s)) → Run (k (.lst [.int l, .int h, .int (l + s * i), .int (l + s * j)])) Q N := fun n i j i0 i1 j0 j1 hn => by
    have one : ∀ i, 0 ≤ i → i ≤ n → l ≤ l + s * i ∧ l + s * i ≤ h ∧ s ∣ l + s * i - l := fun i i0 i1 => by
      have d : s ∣ l + s * i - l := ⟨i, by omega⟩
      rcases hn with e | ⟨e, e2⟩
      · subst e; simp; omega
      · have k1 : 0 ≤ s * i := Int.mul_nonneg (by omega) i0
        have k2 : s * i ≤ s * n := Int.mul_le_mul_of_nonneg_left i1 (by omega)
        have k3 : s * n ≤ h - l := by rw [e2]; exact Int.mul_ediv_self_le (by omega)
        exact ⟨by omega, by omega, d⟩
    have := hk [l, h, l + s * i, l + s * j] fun a ha => by
      have m : l ≤ a ∧ a ≤ h ∧ s ∣ a - l := by
        simp only [List.mem_cons, List.not_mem_nil, or_false] at ha
        rcases ha with rfl | rfl | rfl | rfl
        · exact ⟨by omega, f.2.1, by simp⟩
        · exact ⟨f.2.1, by omega, f.2.2.2⟩
        · exact one i i0 i1
        · exact one j j0 j1
      exact ⟨m, by omega⟩
    exact this
  unfold W__law_some w__law_some
  walk_at "wx"
  rw [show rngU 0 (Int.toNat 2) = [.int 0, .int 1] from rfl]
  by_cases hs : 0 < s
  · have dn : 0 ≤ (h - l) / s := Int.ediv_nonneg (by omega) (by omega)
    have dk : (h - l) / s ≤ h - l := by
      refine Int.ediv_le_of_le_mul hs ?_
      have := Int.mul_le_mul_of_nonneg_left (show (1 : Int) ≤ s by omega) (show 0 ≤ h - l by omega)
      omega
    rw [if_pos hs, fdiv_pos hs]
    refine ⟨⟨by omega, by omega⟩, by decide, by decide, ?_⟩
    obtain ⟨n, hn⟩ : ∃ n, n = (h - l) / s := ⟨_, rfl⟩
    rw [← hn] at dn dk ⊢
    walk_at "wl"
    refine run_pick (by omega) fun i i0 i1 => ?_
    walk_at "wl"
    refine ⟨.inl (by omega), run_pick (by omega) fun j j0 j1 => ?_⟩
    walk_at "wl"
    refine ⟨.inl (by omega), ?_⟩
    exact two n i j i0 (by omega) j0 (by omega) (.inr ⟨hs, hn⟩)
  · have e : s = 0 := by omega
    rw [if_neg hs]
    refine ⟨by decide, by decide, ?_⟩
    walk_at "wl"
    refine run_pick (by omega) fun i i0 i1 => ?_
    walk_at "wl"
    refine ⟨.inl (by omega), run_pick (by omega) fun j j0 j1 => ?_⟩
    walk_at "wl"
    refine ⟨.inl (by omega), ?_⟩
    exact two 0 i j i0 (by omega) j0 (by omega) (.inl e)
/-! ### the law -/
theorem PR.small {w : Bool} {l h s : Int} (p : PR w l h s) : small l h := ⟨p.2.1, p.2.2.2.1⟩
/-- one sign, one wide -/
theorem law_one {ns : List Int} {z : Str} (sg : ∀ l h s l2 h2 s2 : Int, Rg l h s → Rg l2 h2 s2 → small l h → small l2 h2 → ∃ raw, Sg z l h s l2 h2 s2 raw) {w : Bool} {P : WFl → Prop} {N : XQ}
    (hP : ∀ a4 a5 a6 a7 a8 : Option X, P (.nx [some (.u (.rol ns)), some (.u .st), some (.u (.str z)), some (.u (.bl w)), a4, a5, a6, a7, a8])) :
    Run (wb_law_1 W__law_range W__law_next W_combine W__law_same W__law_due W__law_some W__law_members W__law_sound [some (.u (.rol ns)), some (.u .st), some (.u (.str z)), some (.u (.bl w)), none, none, none, none, none]) P N := by
  have sm : ∀ l h s l2 h2 s2 : Int, ∀ v v2 : Bool, PR v l h s → PR v2 l2 h2 s2 → ∃ raw, Sg z l h s l2 h2 s2 raw := fun l h s l2 h2 s2 v v2 p q => sg l h s l2 h2 s2 p.1 q.1 p.small q.small
  cases w
  · unfold wb_law_1
    walk_at "wx"
    refine draw_range fun l h s p => ?_
    refine draw_range fun l2 h2 s2 q => ?_
    obtain ⟨raw, g⟩ := sm l h s l2 h2 s2 _ _ p q
    rw [g.com, bind_ret, g.due, bind_ret]
    rw [same3 _ (plU_res _ _)]
    walk_at "wx"
    have p5 := p.2.2.2.2.2 rfl
    have q5 := q.2.2.2.2.2 rfl
    rw [members_eq p.1 (by omega) (by omega) (by have := p.2.2.2.2.1; omega)]
    walk_at "wx"
    rw [members_eq q.1 (by omega) (by omega) (by have := q.2.2.2.2.1; omega)]
    walk_at "wx"
    rw [sound_eq g q.1 (members_in p.1 p.small) (members_in q.1 q.small)]
    walk_at "wx"
    exact hP ..
  · unfold wb_law_1
    walk_at "wx"
    refine draw_range fun l h s p => ?_
    refine run_pick (by decide) fun i i0 i1 => ?_
    walk_at "wx"
    refine draw_range fun l2 h2 s2 q => ?_
    obtain ⟨raw, g⟩ := sm l h s l2 h2 s2 _ _ p q
    rw [g.com, bind_ret, g.due, bind_ret]
    rw [same3 _ (plU_res _ _)]
    walk_at "wx"
    refine draw_some p.1 p.small fun as ha => ?_
    refine draw_some q.1 q.small fun bs hb => ?_
    rw [sound_eq g q.1 ha hb]
    walk_at "wx"
    exact hP ..
theorem run_bind' {A B : Type} {m : W A} {K : A → W B} {Q : B → Prop} {N : XQ} (h : Run m (fun a => Run (K a) Q N) N) : Run (bind m K) Q N := h
def e0 (ns : List Int) (z : Str) : Pu.Env := [some (.u (.rol ns)), some (.u .st), some (.u (.str z)), none, none, none, none, none, none]
theorem wide_loop {ns : List Int} {z : Str} (sg : ∀ l h s l2 h2 s2 : Int, Rg l h s → Rg l2 h2 s2 → small l h → small l2 h2 → ∃ raw, Sg z l h s l2 h2 s2 raw) {P : WFl → Prop} {N : XQ} (hP : P (.nx (e0 ns z))) : ∀ (us : List Bool) (θ : Pu.Env), kill θ [3, 4, 5, 6, 7, 8] = e0 ns z →
    Run (wEach (wName 3) (wb_law_1 W__law_range W__law_next W_combine W__law_same W__law_due W__law_some W__law_members W__law_sound) [3, 4, 5, 6, 7, 8] (us.map .bl) θ) P N
  | [], θ, e => by
    rw [List.map_nil, each_nil, e]
    exact hP
  | w :: us, θ, e => by
    have ih := wide_loop (N := N) sg hP us
    rw [List.map_cons, each_cons, e]
    generalize wEach (wName 3) (wb_law_1 W__law_range W__law_next W_combine W__law_same W__law_due W__law_some W__law_members W__law_sound) [3, 4, 5, 6, 7, 8] (us.map .bl) = T at ih ⊢
    rw [show wName 3 (.bl w) (e0 ns z) = Pu.ret [some (.u (.rol ns)), some (.u .st), some (.u (.str z)), some (.u (.bl w)), none, none, none, none, none] from rfl, bind_ret]
    refine run_bind' (law_one sg fun a4 a5 a6 a7 a8 => ?_)
    rw [x_ln]
    exact ih _ rfl
theorem law_sign {ns : List Int} {z : Str} (sg : ∀ l h s l2 h2 s2 : Int, Rg l h s → Rg l2 h2 s2 → small l h → small l2 h2 → ∃ raw, Sg z l h s l2 h2 s2 raw) {P : WFl → Prop} {N : XQ}
    (hP : P (.nx (e0 ns z))) :
    Run (wb_law_2 W__law_range W__law_next W_combine W__law_same W__law_due W__law_some W__law_members W__law_sound (e0 ns z)) P N := by
  unfold wb_law_2 e0
  walk_at "wx"
  exact wide_loop sg hP [false, false, true] _ rfl
def e1 (ns : List Int) : Pu.Env := [some (.u (.rol ns)), some (.u .st), none, none, none, none, none, none, none]
theorem sign_loop {ns : List Int} {P : WFl → Prop} {N : XQ} (hP : P (.nx (e1 ns))) : ∀ (us : List Str) (hs : ∀ z ∈ us, ∀ l h s l2 h2 s2 : Int, Rg l h s → Rg l2 h2 s2 → small l h → small l2 h2 → ∃ raw, Sg z l h s l2 h2 s2 raw) (θ : Pu.Env), kill θ [2, 3, 4, 5, 6, 7, 8] = e1 ns →
    Run (wEach (wName 2) (wb_law_2 W__law_range W__law_next W_combine W__law_same W__law_due W__law_some W__law_members W__law_sound) [2, 3, 4, 5, 6, 7, 8] (us.map .str) θ) P N
  | [], _, θ, e => by
    rw [List.map_nil, each_nil, e]
    exact hP
  | z :: us, hs, θ, e => by
    have ih := sign_loop (N := N) hP us fun z hz => hs z (List.mem_cons_of_mem _ hz)
    rw [List.map_cons, each_cons, e]
    generalize wEach (wName 2) (wb_law_2 W__law_range W__law_next W_combine W__law_same W__law_due W__law_some W__law_members W__law_sound) [2, 3, 4, 5, 6, 7, 8] (us.map .str) = T at ih ⊢
    rw [show wName 2 (.str z) (e1 ns) = Pu.ret (e0 ns z) from rfl, bind_ret]
    refine run_bind' (law_sign (hs z (List.mem_cons_self ..)) ?_)
    rw [x_ln]
    exact ih _ rfl
theorem law_true (ns : List Int) (_ : ns.length ≤ 63) : ∃ M, Φ_law [.rol (ns.map .int)] [] = .ok (.bl true) M := by
  refine law_of_w ns ?_
  unfold wlaw w_law
  walk_at "wx"
  refine sign_loop (ns := ns) (P := fun a => kSeq (wRet (wC (U.bl true))) a (fun wf => wf = WFl.rt (U.bl true)) fun _ _ => False) rfl [PySem.Str.ofString "+", PySem.Str.ofString "-", PySem.Str.ofString "*", PySem.Str.ofString "/", PySem.Str.ofString "mod"] (fun z hz => ?_) _ rfl
  simp only [List.mem_cons, List.not_mem_nil, or_false] at hz
  rcases hz with rfl | rfl | rfl | rfl | rfl
  · exact fun l h s l2 h2 s2 r r2 b b2 => ⟨_, sg_sum r r2 b b2⟩
  · exact fun l h s l2 h2 s2 r r2 b b2 => ⟨_, sg_dif r r2 b b2⟩
  · exact fun l h s l2 h2 s2 r r2 b b2 => ⟨_, sg_mul r r2 b b2⟩
  · exact fun l h s l2 h2 s2 r r2 b b2 => ⟨_, sg_quo r r2 b b2⟩
  · exact fun l h s l2 h2 s2 r r2 b b2 => ⟨_, sg_rem r r2 b b2⟩
end M

open PySem PySem.W PyProof.Rows
set_option maxRecDepth 100000 in
set_option maxHeartbeats 0 in
theorem PySem.Challenge.cw_carryclaim_k09_whole_operations_on_range_holds : PySem.Challenge.rw_carryclaim_k09_whole_operations_on_range.Holds := by
  w_on; o_law; k_head; (case hw => w_witness2)
  k_fill
  refine Pd.walk (l := PySem.Challenge.rw_carryclaim_k09_whole_operations_on_range) (k := 5) (Φ := G.Φ_law) rfl rfl ⟨rfl, by decide, by decide⟩ (fun w h Y => PySem.W.kIn_of Y) M.law_true ?F
  case F =>
    intro w mg fa h KX GX hmg
    refine' G.all_mk KX GX hmg ?a_has ?l_has ?c_has ?k_has ?a_with_ends ?l_with_ends ?c_with_ends ?k_with_ends ?a_at_most ?l_at_most ?c_at_most ?k_at_most ?a_at_least ?l_at_least ?c_at_least ?k_at_least ?a_between ?l_between ?c_between ?k_between ?a_raw_sum ?l_raw_sum ?c_raw_sum ?k_raw_sum ?a_raw_difference ?l_raw_difference ?c_raw_difference ?k_raw_difference ?a_raw_product ?l_raw_product ?c_raw_product ?k_raw_product ?a_raw_quotient ?l_raw_quotient ?c_raw_quotient ?k_raw_quotient ?a_remainder_by_one ?l_remainder_by_one ?c_remainder_by_one ?k_remainder_by_one ?a_raw_remainder ?l_raw_remainder ?c_raw_remainder ?k_raw_remainder ?a_combine ?l_combine ?c_combine ?k_combine ?a__law_next ?l__law_next ?c__law_next ?k__law_next ?a__law_same ?l__law_same ?c__law_same ?k__law_same ?a__law_range ?l__law_range ?c__law_range ?k__law_range ?a__law_members ?l__law_members ?c__law_members ?k__law_members ?a__law_divisor ?l__law_divisor ?c__law_divisor ?k__law_divisor ?a__law_made ?l__law_made ?c__law_made ?k__law_made ?a__law_results ?l__law_results ?c__law_results ?k__law_results ?a__law_parts ?l__law_parts ?c__law_parts ?k__law_parts ?a__law_rest ?l__law_rest ?c__law_rest ?k__law_rest ?a__law_pairs ?l__law_pairs ?c__law_pairs ?k__law_pairs ?a__law_raw ?l__law_raw ?c__law_raw ?k__law_raw ?a__law_has ?l__law_has ?c__law_has ?k__law_has ?a__law_due ?l__law_due ?c__law_due ?k__law_due ?a__law_sound ?l__law_sound ?c__law_sound ?k__law_sound ?a__law_some ?l__law_some ?c__law_some ?k__law_some ?a_law ?l_law ?c_law ?k_law ?b_gcd ?b_max ?b_min ?b_tuple ?b_int ?b_len ?b_abs ?b_isinstance ?b_range ?b_bool ?b_str ?b_list ?v_RAW_RANGES ?l_RAW_RANGES ?q_RAW_RANGES ?i_RAW_RANGES ?e_RAW_RANGES_0 ?e_RAW_RANGES_1 ?e_RAW_RANGES_2 ?e_RAW_RANGES_3 ?e_RAW_RANGES_4 ?v_LEAST_VALUE ?v_GREATEST_VALUE
    (case a_has => k_is)
    (case l_has => k_is)
    (case c_has => k_is)
    (case k_has => k_is)
    (case a_with_ends => k_is)
    (case l_with_ends => k_is)
    (case c_with_ends => k_is)
    (case k_with_ends => k_is)
    (case a_at_most => k_is)
    (case l_at_most => k_is)
    (case c_at_most => k_is)
    (case k_at_most => k_is)
    (case a_at_least => k_is)
    (case l_at_least => k_is)
    (case c_at_least => k_is)
    (case k_at_least => k_is)
    (case a_between => k_is)
    (case l_between => k_is)
    (case c_between => k_is)
    (case k_between => k_is)
    (case a_raw_sum => k_is)
    (case l_raw_sum => k_is)
    (case c_raw_sum => k_is)
    (case k_raw_sum => k_is)
    (case a_raw_difference => k_is)
    (case l_raw_difference => k_is)
    (case c_raw_difference => k_is)
    (case k_raw_difference => k_is)
    (case a_raw_product => k_is)
    (case l_raw_product => k_is)
    (case c_raw_product => k_is)
    (case k_raw_product => k_is)
    (case a_raw_quotient => k_is)
    (case l_raw_quotient => k_is)
    (case c_raw_quotient => k_is)
    (case k_raw_quotient => k_is)
    (case a_remainder_by_one => k_is)
    (case l_remainder_by_one => k_is)
    (case c_remainder_by_one => k_is)
    (case k_remainder_by_one => k_is)
    (case a_raw_remainder => k_is)
    (case l_raw_remainder => k_is)
    (case c_raw_remainder => k_is)
    (case k_raw_remainder => k_is)
    (case a_combine => k_is)
    (case l_combine => k_is)
    (case c_combine => k_is)
    (case k_combine => k_is)
    (case a__law_next => k_is)
    (case l__law_next => k_is)
    (case c__law_next => k_is)
    (case k__law_next => k_is)
    (case a__law_same => k_is)
    (case l__law_same => k_is)
    (case c__law_same => k_is)
    (case k__law_same => k_is)
    (case a__law_range => k_is)
    (case l__law_range => k_is)
    (case c__law_range => k_is)
    (case k__law_range => k_is)
    (case a__law_members => k_is)
    (case l__law_members => k_is)
    (case c__law_members => k_is)
    (case k__law_members => k_is)
    (case a__law_divisor => k_is)
    (case l__law_divisor => k_is)
    (case c__law_divisor => k_is)
    (case k__law_divisor => k_is)
    (case a__law_made => k_is)
    (case l__law_made => k_is)
    (case c__law_made => k_is)
    (case k__law_made => k_is)
    (case a__law_results => k_is)
    (case l__law_results => k_is)
    (case c__law_results => k_is)
    (case k__law_results => k_is)
    (case a__law_parts => k_is)
    (case l__law_parts => k_is)
    (case c__law_parts => k_is)
    (case k__law_parts => k_is)
    (case a__law_rest => k_is)
    (case l__law_rest => k_is)
    (case c__law_rest => k_is)
    (case k__law_rest => k_is)
    (case a__law_pairs => k_is)
    (case l__law_pairs => k_is)
    (case c__law_pairs => k_is)
    (case k__law_pairs => k_is)
    (case a__law_raw => k_is)
    (case l__law_raw => k_is)
    (case c__law_raw => k_is)
    (case k__law_raw => k_is)
    (case a__law_has => k_is)
    (case l__law_has => k_is)
    (case c__law_has => k_is)
    (case k__law_has => k_is)
    (case a__law_due => k_is)
    (case l__law_due => k_is)
    (case c__law_due => k_is)
    (case k__law_due => k_is)
    (case a__law_sound => k_is)
    (case l__law_sound => k_is)
    (case c__law_sound => k_is)
    (case k__law_sound => k_is)
    (case a__law_some => k_is)
    (case l__law_some => k_is)
    (case c__law_some => k_is)
    (case k__law_some => k_is)
    (case a_law => k_is)
    (case l_law => k_is)
    (case c_law => k_is)
    (case k_law => k_is)
    (case b_gcd => k_is)
    (case b_max => k_is)
    (case b_min => k_is)
    (case b_tuple => k_is)
    (case b_int => k_is)
    (case b_len => k_is)
    (case b_abs => k_is)
    (case b_isinstance => k_is)
    (case b_range => k_is)
    (case b_bool => k_is)
    (case b_str => k_is)
    (case b_list => k_is)
    (case v_RAW_RANGES => k_is)
    (case l_RAW_RANGES => k_is)
    (case e_RAW_RANGES_0 => k_is)
    (case e_RAW_RANGES_1 => k_is)
    (case e_RAW_RANGES_2 => k_is)
    (case e_RAW_RANGES_3 => k_is)
    (case e_RAW_RANGES_4 => k_is)
    (case v_LEAST_VALUE => k_is)
    (case v_GREATEST_VALUE => k_is)
    (case q_RAW_RANGES => repeat (first | exact trivial | refine ⟨⟨_, _, rfl, rfl⟩, ?_⟩))
    (case i_RAW_RANGES => decide)

