import Derived.Test.YtlfjnddmeeigfabGreatDoorA1
namespace Go.AE
open Go

theorem renArr_iff {ρ : Rho} {a b : Array Value} : renArr ρ a = some b ↔ renL ρ a.toList = some b.toList := by
  obtain ⟨l⟩ := a
  obtain ⟨m⟩ := b
  simp [renArr]

theorem renL_cons {ρ : Rho} {v : Value} {l r : List Value} : renL ρ (v :: l) = some r ↔ ∃ v' l', ren ρ v = some v' ∧ renL ρ l = some l' ∧ r = v' :: l' := by
  simp only [renL, Option.bind_eq_some_iff, Option.map_eq_some_iff]
  constructor
  · rintro ⟨a, h1, b, h2, rfl⟩; exact ⟨a, b, h1, h2, rfl⟩
  · rintro ⟨a, b, h1, h2, rfl⟩; exact ⟨a, h1, b, h2, rfl⟩

theorem renL_length {ρ : Rho} : ∀ {l r : List Value}, renL ρ l = some r → r.length = l.length
  | [], r, h => by simp [renL] at h; subst h; rfl
  | v :: l, r, h => by
    obtain ⟨v', l', _, h2, rfl⟩ := renL_cons.1 h
    simp [renL_length h2]

theorem renL_append {ρ : Rho} : ∀ {l m r : List Value}, renL ρ (l ++ m) = some r ↔ ∃ l' m', renL ρ l = some l' ∧ renL ρ m = some m' ∧ r = l' ++ m'
  | [], m, r => by simp [renL]
  | v :: l, m, r => by
    rw [List.cons_append, renL_cons]
    constructor
    · rintro ⟨v', t, h1, h2, rfl⟩
      obtain ⟨l', m', h3, h4, rfl⟩ := renL_append.1 h2
      exact ⟨v' :: l', m', renL_cons.2 ⟨v', l', h1, h3, rfl⟩, h4, rfl⟩
    · rintro ⟨l', m', h1, h2, rfl⟩
      obtain ⟨v', l'', h3, h4, rfl⟩ := renL_cons.1 h1
      exact ⟨v', l'' ++ m', h3, renL_append.2 ⟨l'', m', h4, h2, rfl⟩, rfl⟩

theorem renL_get {ρ : Rho} : ∀ {l r : List Value} (i : Nat), renL ρ l = some r → ∀ v, l[i]? = some v → ∃ v', r[i]? = some v' ∧ ren ρ v = some v'
  | [], r, i, h, v, e => by simp at e
  | x :: l, r, i, h, v, e => by
    obtain ⟨x', l', h1, h2, rfl⟩ := renL_cons.1 h
    cases i with
    | zero => simp at e; subst e; exact ⟨x', rfl, h1⟩
    | succ i => simp at e ⊢; exact renL_get i h2 v e

theorem renL_set {ρ : Rho} {v v' : Value} (hv : ren ρ v = some v') : ∀ {l r : List Value} (i : Nat), renL ρ l = some r → renL ρ (l.set i v) = some (r.set i v')
  | [], r, i, h => by simp [renL] at h; subst h; simp [renL]
  | x :: l, r, i, h => by
    obtain ⟨x', l', h1, h2, rfl⟩ := renL_cons.1 h
    cases i with
    | zero => simp only [List.set_cons_zero]; exact renL_cons.2 ⟨_, _, hv, h2, rfl⟩
    | succ i => simp only [List.set_cons_succ]; exact renL_cons.2 ⟨_, _, h1, renL_set hv i h2, rfl⟩

theorem renL_take {ρ : Rho} {l r : List Value} (n : Nat) (h : renL ρ l = some r) : renL ρ (l.take n) = some (r.take n) := by
  have h0 := h
  rw [← List.take_append_drop n l] at h
  obtain ⟨a, b, h1, h2, e⟩ := renL_append.1 h
  have hl := renL_length h1
  have hl0 := renL_length h0
  have : r.take n = a := by
    rw [e]
    simp at hl
    by_cases hn : n ≤ l.length
    · rw [Nat.min_eq_left hn] at hl
      rw [List.take_append_of_le_length (by omega), List.take_of_length_le (by omega)]
    · have hb : b = [] := by
        have := renL_length h2
        simp at this
        exact List.eq_nil_of_length_eq_zero (by omega)
      subst hb
      have h3 : a.length ≤ n := by rw [hl]; exact Nat.min_le_left _ _
      simp [List.take_of_length_le h3]
  rw [this]; exact h1

theorem renL_drop {ρ : Rho} {l r : List Value} (n : Nat) (h : renL ρ l = some r) : renL ρ (l.drop n) = some (r.drop n) := by
  have ht := renL_take n h
  have h0 := h
  rw [← List.take_append_drop n l] at h
  obtain ⟨a, b, h1, h2, e⟩ := renL_append.1 h
  have : a = r.take n := by rw [h1] at ht; exact Option.some.inj ht
  have hb : r.drop n = b := by
    have e2 : r.take n ++ r.drop n = r.take n ++ b := by rw [List.take_append_drop, ← this]; exact e
    exact List.append_cancel_left e2
  rw [hb]; exact h2

theorem renL_replicate {ρ : Rho} {v v' : Value} (hv : ren ρ v = some v') : ∀ n, renL ρ (List.replicate n v) = some (List.replicate n v')
  | 0 => by simp [renL]
  | n + 1 => by simp only [List.replicate_succ]; exact renL_cons.2 ⟨_, _, hv, renL_replicate hv n, rfl⟩

theorem ren_undef (ρ : Rho) : ren ρ undef = some undef := by simp [undef, ren, renArr, renL]

theorem renArr_size {ρ : Rho} {a b : Array Value} (h : renArr ρ a = some b) : b.size = a.size := by
  have := renL_length (renArr_iff.1 h); simpa using this

theorem renArr_getD {ρ : Rho} {a b : Array Value} (h : renArr ρ a = some b) (i : Nat) : ren ρ (a.getD i undef) = some (b.getD i undef) := by
  have h' := renArr_iff.1 h
  by_cases hi : i < a.size
  · obtain ⟨v', h1, h2⟩ := renL_get i h' a[i] (by simp [hi])
    simp at h1
    rw [Array.getD_eq_getD_getElem?, Array.getD_eq_getD_getElem?, h1]
    simp [hi, h2]
  · have hs := renArr_size h
    rw [Array.getD_eq_getD_getElem?, Array.getD_eq_getD_getElem?]
    simp [hi, hs, ren_undef]

theorem renArr_set {ρ : Rho} {v v' : Value} (hv : ren ρ v = some v') {a b : Array Value} (i : Nat) (h : renArr ρ a = some b) : renArr ρ (a.setIfInBounds i v) = some (b.setIfInBounds i v') := by
  rw [renArr_iff] at *
  simpa using renL_set hv i h

/-! ### a tree of objects -/
inductive T (α : Type) where
  | lf
  | nd (l : T α) (o : Option α) (r : T α)

def T.get {α : Type} : T α → Nat → Option α
  | .lf, _ => none
  | .nd l o r, n => match n with
    | 0 => o
    | m + 1 => bif (m % 2).beq 0 then l.get (m / 2) else r.get (m / 2)

def T.set {α : Type} : Nat → T α → Nat → Option α → T α
  | 0, t, _, _ => t
  | f + 1, .lf, n, v => match n with
    | 0 => .nd .lf v .lf
    | m + 1 => bif (m % 2).beq 0 then .nd (T.set f .lf (m / 2) v) none .lf else .nd .lf none (T.set f .lf (m / 2) v)
  | f + 1, .nd l o r, n, v => match n with
    | 0 => .nd l v r
    | m + 1 => bif (m % 2).beq 0 then .nd (T.set f l (m / 2) v) o r else .nd l o (T.set f r (m / 2) v)

theorem beq0_t {x : Nat} (h : x = 0) : x.beq 0 = true := by subst h; rfl
theorem beq0_f {x : Nat} (h : ¬ x = 0) : x.beq 0 = false := by cases x with | zero => exact absurd rfl h | succ n => rfl

theorem T.get_set {α : Type} (v : Option α) : ∀ (f : Nat) (t : T α) (n k : Nat), n < f → (T.set f t n v).get k = if k = n then v else t.get k
  | 0, t, n, k, h => by omega
  | f + 1, t, n, k, h => by
    have key : ∀ (l r : T α) (o : Option α) (m : Nat), n = m + 1 → (bif (m % 2).beq 0 then T.nd (T.set f l (m / 2) v) o r else T.nd l o (T.set f r (m / 2) v)).get k = if k = n then v else (T.nd l o r).get k := by
      intro l r o m hn
      subst hn
      by_cases hm : m % 2 = 0
      · rw [beq0_t hm, cond_true]
        cases k with
        | zero => simp [T.get]
        | succ k =>
          by_cases hk : k % 2 = 0
          · simp only [T.get, beq0_t hk, cond_true]
            rw [T.get_set v f l (m / 2) (k / 2) (by omega)]
            by_cases e : k = m
            · subst e; simp
            · have : ¬ k / 2 = m / 2 := by omega
              simp [this, e]
          · have : ¬ k = m := by rintro rfl; omega
            simp [T.get, beq0_f hk, this]
      · rw [beq0_f hm, cond_false]
        cases k with
        | zero => simp [T.get]
        | succ k =>
          by_cases hk : k % 2 = 0
          · have : ¬ k = m := by rintro rfl; omega
            simp [T.get, beq0_t hk, this]
          · simp only [T.get, beq0_f hk, cond_false]
            rw [T.get_set v f r (m / 2) (k / 2) (by omega)]
            by_cases e : k = m
            · subst e; simp
            · have : ¬ k / 2 = m / 2 := by omega
              simp [this, e]
    have lfk : ∀ k, (T.nd (.lf : T α) none .lf).get k = (T.lf : T α).get k := by
      intro k
      cases k with
      | zero => simp [T.get]
      | succ k => simp only [T.get]; cases (k % 2).beq 0 <;> rfl
    cases t with
    | lf =>
      cases n with
      | zero => cases k <;> simp [T.set, T.get]
      | succ m =>
        have := key .lf .lf none m rfl
        rw [lfk] at this
        exact this
    | nd l o r =>
      cases n with
      | zero => cases k <;> simp [T.set, T.get]
      | succ m => exact key l r o m rfl
end Go.AE
