import Derived.Orders
import Derived.Laws.World
import Derived.Laws.Entries
import Derived.Laws.Tables
import Derived.Laws.Build
import Derived.Laws.Slices
import Derived.Laws.Strings
import Derived.Laws.Cells
import Derived.Laws.Append
import Derived.Laws.RangeString
set_option linter.unusedVariables false
set_option linter.unusedSimpArgs false
namespace Go.AE
open Go
structure Rho where
  blk : Nat → Option Nat
  cap : Nat → Option Nat
  st : Nat → List (Value × Nat) × Nat
def renA (ρ : Rho) (a : Addr) : Option Addr :=
  match a.spot, ρ.blk a.block with
  | none, some b => some ⟨b, a.off, none⟩
  | _, _ => none
def bigC : Nat := 9223372036854775808
def renC (ρ : Rho) (id c : Nat) : Option Nat :=
  match ρ.cap id with
  | none => some c
  | some C => if bigC ≤ c then some (c - bigC) else if c ≤ C then some (C - c) else none
theorem renC_rel {ρ : Rho} {id c C : Nat} (hC : ρ.cap id = some C) (h : c < bigC) (hc : c ≤ C) : renC ρ id c = some (C - c) := by
  have : ¬ bigC ≤ c := by omega
  simp [renC, hC, this, hc]
theorem renC_abs {ρ : Rho} {id k C : Nat} (hC : ρ.cap id = some C) : renC ρ id (bigC + k) = some k := by
  simp [renC, hC]
def renF (ρ : Rho) : Fn → Option Fn
  | .yield l => (ρ.blk l).map .yield
  | .func f => some (.func f)
  | .method n => some (.method n)
  | .methodOf t n => some (.methodOf t n)
  | .via t p f b => some (.via t p f b)
def opq (ρ : Rho) (v : Nat) : Option Value :=
  match ρ.blk v, (ρ.st v).1 with
  | some _, [(.slice (some a) 0 c, 0)] => some (.slice (some a) 0 c)
  | _, _ => none
theorem opq_form {ρ : Rho} {v : Nat} {r : Value} (h : opq ρ v = some r) : ∃ a c, r = .slice (some a) 0 c := by
  unfold opq at h
  split at h
  · cases h; exact ⟨_, _, rfl⟩
  · cases h
mutual
def ren (ρ : Rho) : Value → Option Value
  | .bool b => some (.bool b)
  | .int k n => some (.int k n)
  | .float k b => some (.float k b)
  | .complex k a b => some (.complex k a b)
  | .string s => some (.string s)
  | .pointer none => some (.pointer none)
  | .pointer (some a) => (renA ρ a).map fun b => .pointer (some b)
  | .slice none n c => some (.slice none n c)
  | .slice (some a) n c => (renA ρ a).bind fun b => (renC ρ a.block c).map fun c' => .slice (some b) n c'
  | .map none => some (.map none)
  | .map (some r) => (ρ.blk r).map fun b => .map (some b)
  | .chan none => some (.chan none)
  | .chan (some v) => opq ρ v
  | .func fn first cap => (renF ρ fn).bind fun fn' => (renArr ρ first).bind fun f' => (renArr ρ cap).map fun c' => .func fn' f' c'
  | .nilFunc => some .nilFunc
  | .iface t v => (ren ρ v).map fun v' => .iface t v'
  | .nilIface => some .nilIface
  | .agg cs => (renArr ρ cs).map .agg
  | .tuple cs => (renArr ρ cs).map .tuple
def renArr (ρ : Rho) : Array Value → Option (Array Value)
  | ⟨l⟩ => (renL ρ l).map fun l' => ⟨l'⟩
def renL (ρ : Rho) : List Value → Option (List Value)
  | [] => some []
  | v :: l => (ren ρ v).bind fun v' => (renL ρ l).map fun l' => v' :: l'
end
def Rho.le (ρ σ : Rho) : Prop := ∀ i b, ρ.blk i = some b → σ.blk i = some b ∧ σ.cap i = ρ.cap i ∧ σ.st i = ρ.st i
theorem Rho.le_refl (ρ : Rho) : ρ.le ρ := fun _ _ h => ⟨h, rfl, rfl⟩
theorem Rho.le_trans {ρ σ τ : Rho} (h : ρ.le σ) (h' : σ.le τ) : ρ.le τ := fun i b hb =>
  let ⟨h1, h2, h2s⟩ := h i b hb; let ⟨h3, h4, h4s⟩ := h' i b h1; ⟨h3, h4.trans h2, h4s.trans h2s⟩
theorem renA_mono {ρ σ : Rho} (h : ρ.le σ) {a b : Addr} (e : renA ρ a = some b) : renA σ a = some b := by
  unfold renA at *
  split at e
  · rename_i b' h1 h2
    simp only [h1, (h _ _ h2).1]; exact e
  · cases e
theorem renC_mono {ρ σ : Rho} (h : ρ.le σ) {i b c d : Nat} (hb : ρ.blk i = some b) (e : renC ρ i c = some d) : renC σ i c = some d := by
  unfold renC at *
  rw [(h _ _ hb).2.1]; exact e
theorem renA_blk {ρ : Rho} {a b : Addr} (e : renA ρ a = some b) : ρ.blk a.block = some b.block := by
  unfold renA at e
  split at e
  · rename_i b' h1 h2
    simp at e; subst e; exact h2
  · cases e
theorem opq_mono {ρ σ : Rho} (h : ρ.le σ) {v : Nat} {r : Value} (e : opq ρ v = some r) : opq σ v = some r := by
  unfold opq at e
  split at e
  · rename_i b a c hb hs
    obtain ⟨h1, _, h2⟩ := h _ _ hb
    cases e
    unfold opq
    rw [h1, h2, hs]
    rfl
  · cases e
theorem renF_mono {ρ σ : Rho} (h : ρ.le σ) {f g : Fn} (e : renF ρ f = some g) : renF σ f = some g := by
  cases f <;> simp only [renF] at * <;> try exact e
  rename_i l
  cases hb : ρ.blk l with
  | none => simp [hb] at e
  | some b => rw [hb] at e; rw [(h _ _ hb).1]; exact e
mutual
theorem ren_mono {ρ σ : Rho} (h : ρ.le σ) : ∀ (v r : Value), ren ρ v = some r → ren σ v = some r
  | .bool b, r, e => by simp only [ren] at *; exact e
  | .int k n, r, e => by simp only [ren] at *; exact e
  | .float k n, r, e => by simp only [ren] at *; exact e
  | .complex k n _, r, e => by simp only [ren] at *; exact e
  | .string b, r, e => by simp only [ren] at *; exact e
  | .pointer none, r, e => by simp only [ren] at *; exact e
  | .pointer (some a), r, e => by
    simp only [ren, Option.map_eq_some_iff] at *
    obtain ⟨b, hb, e⟩ := e
    exact ⟨b, renA_mono h hb, e⟩
  | .slice none _ _, r, e => by simp only [ren] at *; exact e
  | .slice (some a) _ _, r, e => by
    simp only [ren, Option.map_eq_some_iff, Option.bind_eq_some_iff] at *
    obtain ⟨b, hb, c, hc, e⟩ := e
    exact ⟨b, renA_mono h hb, c, renC_mono h (renA_blk hb) hc, e⟩
  | .map none, r, e => by simp only [ren] at *; exact e
  | .map (some l), r, e => by
    simp only [ren, Option.map_eq_some_iff] at *
    obtain ⟨b, hb, e⟩ := e
    exact ⟨b, (h _ _ hb).1, e⟩
  | .chan none, r, e => by simp only [ren] at *; exact e
  | .chan (some v), r, e => by simp only [ren] at *; exact opq_mono h e
  | .func fn first cap, r, e => by
    simp only [ren, Option.map_eq_some_iff, Option.bind_eq_some_iff] at *
    obtain ⟨b, hb, c, hc, d, hd, e⟩ := e
    exact ⟨b, renF_mono h hb, c, renArr_mono h _ _ hc, d, renArr_mono h _ _ hd, e⟩
  | .nilFunc, r, e => by simp only [ren] at *; exact e
  | .iface t v, r, e => by
    simp only [ren, Option.map_eq_some_iff] at *
    obtain ⟨b, hb, e⟩ := e
    exact ⟨b, ren_mono h _ _ hb, e⟩
  | .nilIface, r, e => by simp only [ren] at *; exact e
  | .agg cs, r, e => by
    simp only [ren, Option.map_eq_some_iff] at *
    obtain ⟨b, hb, e⟩ := e
    exact ⟨b, renArr_mono h _ _ hb, e⟩
  | .tuple cs, r, e => by
    simp only [ren, Option.map_eq_some_iff] at *
    obtain ⟨b, hb, e⟩ := e
    exact ⟨b, renArr_mono h _ _ hb, e⟩
theorem renArr_mono {ρ σ : Rho} (h : ρ.le σ) : ∀ (v r : Array Value), renArr ρ v = some r → renArr σ v = some r
  | ⟨l⟩, r, e => by
    simp only [renArr, Option.map_eq_some_iff] at *
    obtain ⟨b, hb, e⟩ := e
    exact ⟨b, renL_mono h _ _ hb, e⟩
theorem renL_mono {ρ σ : Rho} (h : ρ.le σ) : ∀ (v r : List Value), renL ρ v = some r → renL σ v = some r
  | [], r, e => by simp only [renL] at *; exact e
  | v :: l, r, e => by
    simp only [renL, Option.map_eq_some_iff, Option.bind_eq_some_iff] at *
    obtain ⟨b, hb, c, hc, e⟩ := e
    exact ⟨b, ren_mono h _ _ hb, c, renL_mono h _ _ hc, e⟩
end
end Go.AE
namespace Go.AE
open Go
theorem renArr_iff {ρ : Rho} {a b : Array Value} : renArr ρ a = some b ↔ renL ρ a.toList = some b.toList := by
  obtain ⟨l⟩ := a
  obtain ⟨m⟩ := b
  simp [renArr]
theorem renL_cons {ρ : Rho} {v : Value} {l r : List Value} : renL ρ (v :: l) = some r ↔ ∃ v' l', ren ρ v = some v' ∧ renL ρ l = some l' ∧ r = v' :: l' := by
  simp only [renL, Option.bind_eq_some_iff, Option.map_eq_some_iff]
  constructor
  · rintro ⟨a, h1, b, h2, rfl⟩; exact ⟨a, b, h1, h2, rfl⟩
  · rintro ⟨a, b, h1, h2, rfl⟩; exact ⟨a, h1, b, h2, rfl⟩
theorem renL_length {ρ : Rho} : ∀ {l r : List Value}, renL ρ l = some r → r.length = l.length
  | [], r, h => by simp [renL] at h; subst h; rfl
  | v :: l, r, h => by
    obtain ⟨v', l', _, h2, rfl⟩ := renL_cons.1 h
    simp [renL_length h2]
theorem renL_append {ρ : Rho} : ∀ {l m r : List Value}, renL ρ (l ++ m) = some r ↔ ∃ l' m', renL ρ l = some l' ∧ renL ρ m = some m' ∧ r = l' ++ m'
  | [], m, r => by simp [renL]
  | v :: l, m, r => by
    rw [List.cons_append, renL_cons]
    constructor
    · rintro ⟨v', t, h1, h2, rfl⟩
      obtain ⟨l', m', h3, h4, rfl⟩ := renL_append.1 h2
      exact ⟨v' :: l', m', renL_cons.2 ⟨v', l', h1, h3, rfl⟩, h4, rfl⟩
    · rintro ⟨l', m', h1, h2, rfl⟩
      obtain ⟨v', l'', h3, h4, rfl⟩ := renL_cons.1 h1
      exact ⟨v', l'' ++ m', h3, renL_append.2 ⟨l'', m', h4, h2, rfl⟩, rfl⟩
theorem renL_get {ρ : Rho} : ∀ {l r : List Value} (i : Nat), renL ρ l = some r → ∀ v, l[i]? = some v → ∃ v', r[i]? = some v' ∧ ren ρ v = some v'
  | [], r, i, h, v, e => by simp at e
  | x :: l, r, i, h, v, e => by
    obtain ⟨x', l', h1, h2, rfl⟩ := renL_cons.1 h
    cases i with
    | zero => simp at e; subst e; exact ⟨x', rfl, h1⟩
    | succ i => simp at e ⊢; exact renL_get i h2 v e
theorem renL_set {ρ : Rho} {v v' : Value} (hv : ren ρ v = some v') : ∀ {l r : List Value} (i : Nat), renL ρ l = some r → renL ρ (l.set i v) = some (r.set i v')
  | [], r, i, h => by simp [renL] at h; subst h; simp [renL]
  | x :: l, r, i, h => by
    obtain ⟨x', l', h1, h2, rfl⟩ := renL_cons.1 h
    cases i with
    | zero => simp only [List.set_cons_zero]; exact renL_cons.2 ⟨_, _, hv, h2, rfl⟩
    | succ i => simp only [List.set_cons_succ]; exact renL_cons.2 ⟨_, _, h1, renL_set hv i h2, rfl⟩
theorem renL_take {ρ : Rho} {l r : List Value} (n : Nat) (h : renL ρ l = some r) : renL ρ (l.take n) = some (r.take n) := by
  have h0 := h
  rw [← List.take_append_drop n l] at h
  obtain ⟨a, b, h1, h2, e⟩ := renL_append.1 h
  have hl := renL_length h1
  have hl0 := renL_length h0
  have : r.take n = a := by
    rw [e]
    simp at hl
    by_cases hn : n ≤ l.length
    · rw [Nat.min_eq_left hn] at hl
      rw [List.take_append_of_le_length (by omega), List.take_of_length_le (by omega)]
    · have hb : b = [] := by
        have := renL_length h2
        simp at this
        exact List.eq_nil_of_length_eq_zero (by omega)
      subst hb
      have h3 : a.length ≤ n := by rw [hl]; exact Nat.min_le_left _ _
      simp [List.take_of_length_le h3]
  rw [this]; exact h1
theorem renL_drop {ρ : Rho} {l r : List Value} (n : Nat) (h : renL ρ l = some r) : renL ρ (l.drop n) = some (r.drop n) := by
  have ht := renL_take n h
  have h0 := h
  rw [← List.take_append_drop n l] at h
  obtain ⟨a, b, h1, h2, e⟩ := renL_append.1 h
  have : a = r.take n := by rw [h1] at ht; exact Option.some.inj ht
  have hb : r.drop n = b := by
    have e2 : r.take n ++ r.drop n = r.take n ++ b := by rw [List.take_append_drop, ← this]; exact e
    exact List.append_cancel_left e2
  rw [hb]; exact h2
theorem renL_replicate {ρ : Rho} {v v' : Value} (hv : ren ρ v = some v') : ∀ n, renL ρ (List.replicate n v) = some (List.replicate n v')
  | 0 => by simp [renL]
  | n + 1 => by simp only [List.replicate_succ]; exact renL_cons.2 ⟨_, _, hv, renL_replicate hv n, rfl⟩
theorem ren_undef (ρ : Rho) : ren ρ undef = some undef := by simp [undef, ren, renArr, renL]
theorem renArr_size {ρ : Rho} {a b : Array Value} (h : renArr ρ a = some b) : b.size = a.size := by
  have := renL_length (renArr_iff.1 h); simpa using this
theorem renArr_getD {ρ : Rho} {a b : Array Value} (h : renArr ρ a = some b) (i : Nat) : ren ρ (a.getD i undef) = some (b.getD i undef) := by
  have h' := renArr_iff.1 h
  by_cases hi : i < a.size
  · obtain ⟨v', h1, h2⟩ := renL_get i h' a[i] (by simp [hi])
    simp at h1
    rw [Array.getD_eq_getD_getElem?, Array.getD_eq_getD_getElem?, h1]
    simp [hi, h2]
  · have hs := renArr_size h
    rw [Array.getD_eq_getD_getElem?, Array.getD_eq_getD_getElem?]
    simp [hi, hs, ren_undef]
theorem renArr_set {ρ : Rho} {v v' : Value} (hv : ren ρ v = some v') {a b : Array Value} (i : Nat) (h : renArr ρ a = some b) : renArr ρ (a.setIfInBounds i v) = some (b.setIfInBounds i v') := by
  rw [renArr_iff] at *
  simpa using renL_set hv i h
inductive T (α : Type) where
  | lf
  | nd (l : T α) (o : Option α) (r : T α)
def T.get {α : Type} : T α → Nat → Option α
  | .lf, _ => none
  | .nd l o r, n => match n with
    | 0 => o
    | m + 1 => bif (m % 2).beq 0 then l.get (m / 2) else r.get (m / 2)
def T.set {α : Type} : Nat → T α → Nat → Option α → T α
  | 0, t, _, _ => t
  | f + 1, .lf, n, v => match n with
    | 0 => .nd .lf v .lf
    | m + 1 => bif (m % 2).beq 0 then .nd (T.set f .lf (m / 2) v) none .lf else .nd .lf none (T.set f .lf (m / 2) v)
  | f + 1, .nd l o r, n, v => match n with
    | 0 => .nd l v r
    | m + 1 => bif (m % 2).beq 0 then .nd (T.set f l (m / 2) v) o r else .nd l o (T.set f r (m / 2) v)
theorem beq0_t {x : Nat} (h : x = 0) : x.beq 0 = true := by subst h; rfl
theorem beq0_f {x : Nat} (h : ¬ x = 0) : x.beq 0 = false := by cases x with | zero => exact absurd rfl h | succ n => rfl
theorem T.get_set {α : Type} (v : Option α) : ∀ (f : Nat) (t : T α) (n k : Nat), n < f → (T.set f t n v).get k = if k = n then v else t.get k
  | 0, t, n, k, h => by omega
  | f + 1, t, n, k, h => by
    have key : ∀ (l r : T α) (o : Option α) (m : Nat), n = m + 1 → (bif (m % 2).beq 0 then T.nd (T.set f l (m / 2) v) o r else T.nd l o (T.set f r (m / 2) v)).get k = if k = n then v else (T.nd l o r).get k := by
      intro l r o m hn
      subst hn
      by_cases hm : m % 2 = 0
      · rw [beq0_t hm, cond_true]
        cases k with
        | zero => simp [T.get]
        | succ k =>
          by_cases hk : k % 2 = 0
          · simp only [T.get, beq0_t hk, cond_true]
            rw [T.get_set v f l (m / 2) (k / 2) (by omega)]
            by_cases e : k = m
            · subst e; simp
            · have : ¬ k / 2 = m / 2 := by omega
              simp [this, e]
          · have : ¬ k = m := by rintro rfl; omega
            simp [T.get, beq0_f hk, this]
      · rw [beq0_f hm, cond_false]
        cases k with
        | zero => simp [T.get]
        | succ k =>
          by_cases hk : k % 2 = 0
          · have : ¬ k = m := by rintro rfl; omega
            simp [T.get, beq0_t hk, this]
          · simp only [T.get, beq0_f hk, cond_false]
            rw [T.get_set v f r (m / 2) (k / 2) (by omega)]
            by_cases e : k = m
            · subst e; simp
            · have : ¬ k / 2 = m / 2 := by omega
              simp [this, e]
    have lfk : ∀ k, (T.nd (.lf : T α) none .lf).get k = (T.lf : T α).get k := by
      intro k
      cases k with
      | zero => simp [T.get]
      | succ k => simp only [T.get]; cases (k % 2).beq 0 <;> rfl
    cases t with
    | lf =>
      cases n with
      | zero => cases k <;> simp [T.set, T.get]
      | succ m =>
        have := key .lf .lf none m rfl
        rw [lfk] at this
        exact this
    | nd l o r =>
      cases n with
      | zero => cases k <;> simp [T.set, T.get]
      | succ m => exact key l r o m rfl
end Go.AE
namespace Go.AE
open Go
inductive AObj where
  | cells (c : List Value) (elem : TypeId) (opn : Option Nat) (ro : Bool)
  | iter (s : ByteArray) (pos : Nat)
  | loop (l : Loop)
  | defd (ds : Option (List Deferred))

  | mp (es : List (Value × Value)) (v : Nat)

  | mit (m : Option Nat) (v : Nat) (ks : List Value)

  | win (off : Nat) (c : List Value)
structure AH where
  next : Nat
  m : T AObj
def AH.get (h : AH) (i : Nat) : Option AObj := h.m.get i
def AH.put (h : AH) (i : Nat) (o : Option AObj) : AH := { h with m := T.set (i + 1) h.m i o }
def AH.push (h : AH) (o : AObj) : AH := { next := h.next + 1, m := T.set (h.next + 1) h.m h.next (some o) }
theorem AH.get_put (h : AH) (i k : Nat) (o : Option AObj) : (h.put i o).get k = if k = i then o else h.get k := T.get_set o _ _ _ _ (by omega)
theorem AH.get_push (h : AH) (k : Nat) (o : AObj) : (h.push o).get k = if k = h.next then some o else h.get k := T.get_set _ _ _ _ _ (by omega)
@[simp] theorem AH.next_put (h : AH) (i : Nat) (o : Option AObj) : (h.put i o).next = h.next := rfl
@[simp] theorem AH.next_push (h : AH) (o : AObj) : (h.push o).next = h.next + 1 := rfl
def renT (ρ : Rho) : Target → Option Target
  | .fn f c => (renF ρ f).bind fun f' => (renArr ρ c).map fun c' => .fn f' c'
  | .nil => some .nil
  | .builtin b a t c => some (.builtin b a t c)
  | .collected r => (ρ.blk r).map .collected
  | .coroexit _ => none
def renD (ρ : Rho) (d : Deferred) : Option Deferred := (renT ρ d.target).bind fun t => (renArr ρ d.args).map fun a => ⟨t, a⟩
def renDs (ρ : Rho) : List Deferred → Option (List Deferred)
  | [] => some []
  | d :: l => (renD ρ d).bind fun d' => (renDs ρ l).map fun l' => d' :: l'
theorem renT_mono {ρ σ : Rho} (h : ρ.le σ) {t u : Target} (e : renT ρ t = some u) : renT σ t = some u := by
  cases t <;> simp only [renT, Option.map_eq_some_iff, Option.bind_eq_some_iff] at * <;> try exact e
  · obtain ⟨f, hf, c, hc, e⟩ := e
    exact ⟨f, renF_mono h hf, c, renArr_mono h _ _ hc, e⟩
  · obtain ⟨b, hb, e⟩ := e
    exact ⟨b, (h _ _ hb).1, e⟩
theorem renD_mono {ρ σ : Rho} (h : ρ.le σ) {t u : Deferred} (e : renD ρ t = some u) : renD σ t = some u := by
  simp only [renD, Option.map_eq_some_iff, Option.bind_eq_some_iff] at *
  obtain ⟨f, hf, c, hc, e⟩ := e
  exact ⟨f, renT_mono h hf, c, renArr_mono h _ _ hc, e⟩
theorem renDs_mono {ρ σ : Rho} (h : ρ.le σ) : ∀ {t u : List Deferred}, renDs ρ t = some u → renDs σ t = some u
  | [], u, e => by simp only [renDs] at *; exact e
  | d :: l, u, e => by
    simp only [renDs, Option.map_eq_some_iff, Option.bind_eq_some_iff] at *
    obtain ⟨f, hf, c, hc, e⟩ := e
    exact ⟨f, renD_mono h hf, c, renDs_mono h hc, e⟩
def StOK (L : List (Value × Nat)) (clock : Nat) : Prop := (∀ p ∈ L, ∀ q ∈ L, p.2 = q.2 ↔ p.1 = q.1) ∧ ∀ p ∈ L, p.2 < clock
def ObjR (ρ : Rho) (id : Nat) : AObj → Obj → Prop
  | .cells c t opn ro, .cells arr t' fz => (ro = true ∨ t' = t) ∧ (∃ c' tail, arr.toList = c' ++ tail ∧ renL ρ c = some c' ∧ (opn = none → tail = [])) ∧
      (ro = true ∨ fz = (0, 0) ∨ arr.size ≤ fz.1) ∧ (opn = none → ρ.cap id = none) ∧ (∀ sz, opn = some sz → ∃ C, ρ.cap id = some C ∧ arr.size = C * sz)
  | .iter s p, .stringIter s' p' => s' = s ∧ p' = p
  | .loop l, .loop l' => l'.state = l.state ∧ l'.pending = l.pending ∧ l'.fn = l.fn ∧ renArr ρ l.tmps = some l'.tmps ∧ l'.params = l.params ∧ l'.assign = l.assign ∧ l'.body = l.body ∧ ρ.blk l.defers = some l'.defers
  | .defd none, .deferred none => True
  | .defd (some ds), .deferred (some ds') => renDs ρ ds = some ds'
  | .mp es v, .map ents clock => (∃ vs, renL ρ (es.map (·.2)) = some vs ∧ ((es.map (·.1)).zip vs).Perm (ents.toList.map fun e => (e.key, e.val))) ∧ (∃ b, ρ.blk v = some b) ∧
      (ρ.st v).2 = clock ∧ StOK (ρ.st v).1 clock ∧ ∀ e ∈ ents.toList, (e.key, e.born) ∈ (ρ.st v).1
  | .mit none _ _, .mapIter mm _ _ _ => mm = none
  | .mit (some m) v ks, .mapIter mm since seen last => (∃ r, ρ.blk m = some r ∧ mm = some r) ∧ (∃ b, ρ.blk v = some b) ∧ since = (ρ.st v).2 ∧ last = since ∧ (∀ k n, (k, n) ∈ (ρ.st v).1 → (n ∈ seen.toList ↔ k ∈ ks)) ∧
      ∀ k0 r0, ks = k0 :: r0 → ∃ n, seen.back? = some n ∧ (k0, n) ∈ (ρ.st v).1
  | .win off c, .cells arr _ _ => (∀ σ, renL σ c = some c) ∧ (arr.toList.drop off).take c.length = c ∧ ρ.cap id = none
  | _, _ => False
theorem ObjR.mono {ρ σ : Rho} (h : ρ.le σ) {id b : Nat} (hid : ρ.blk id = some b) {o : AObj} {x : Obj} (e : ObjR ρ id o x) : ObjR σ id o x := by
  cases o with
  | cells c t opn ro =>
    cases x <;> simp only [ObjR] at * <;> try exact e
    obtain ⟨h1, ⟨c', tail, h2, h3, h4⟩, h5, h6, h7⟩ := e
    refine ⟨h1, ⟨c', tail, h2, renL_mono h _ _ h3, h4⟩, h5, fun q => by rw [(h _ _ hid).2.1]; exact h6 q, fun sz q => by rw [(h _ _ hid).2.1]; exact h7 sz q⟩
  | iter s p => cases x <;> simp only [ObjR] at * <;> exact e
  | loop l =>
    cases x <;> simp only [ObjR] at * <;> try exact e
    obtain ⟨h1, h2, h3, h4, h5, h6, h7, h8⟩ := e
    exact ⟨h1, h2, h3, renArr_mono h _ _ h4, h5, h6, h7, (h _ _ h8).1⟩
  | defd ds =>
    cases ds with
    | none =>
      cases x with
      | deferred d => cases d <;> simp only [ObjR] at *
      | _ => simp only [ObjR] at *
    | some ds =>
      cases x with
      | deferred d => cases d <;> simp only [ObjR] at * <;> first | exact e | exact renDs_mono h e
      | _ => simp only [ObjR] at *
  | mp es v =>
    cases x <;> simp only [ObjR] at * <;> try exact e
    obtain ⟨⟨vs, h1, h2⟩, ⟨b, h3⟩, h4, h5, h6⟩ := e
    obtain ⟨q1, _, q2⟩ := h _ _ h3
    refine ⟨⟨vs, renL_mono h _ _ h1, h2⟩, ⟨b, q1⟩, by rw [q2]; exact h4, by rw [q2]; exact h5, by rw [q2]; exact h6⟩
  | mit m v ks =>
    cases m with
    | none => cases x <;> simp only [ObjR] at * <;> exact e
    | some m =>
      cases x <;> simp only [ObjR] at * <;> try exact e
      obtain ⟨⟨r, h1, h2⟩, ⟨b, h3⟩, h4, h5, h6, h7⟩ := e
      obtain ⟨q1, _, q2⟩ := h _ _ h3
      refine ⟨⟨r, (h _ _ h1).1, h2⟩, ⟨b, q1⟩, by rw [q2]; exact h4, h5, by rw [q2]; exact h6, by rw [q2]; exact h7⟩
  | win off c =>
    cases x <;> simp only [ObjR] at * <;> try exact e
    exact ⟨e.1, e.2.1, by rw [(h _ _ hid).2.1]; exact e.2.2⟩
structure WR (G : Nat) (ρ : Rho) (h : AH) (w : World) : Prop where
  obj : ∀ i o, h.get i = some o → ∃ b x, ρ.blk i = some b ∧ w.heap[b]? = some x ∧ ObjR ρ i o x
  fresh : ∀ i, h.next ≤ i → ρ.blk i = none
  inj : ∀ i j o p b, h.get i = some o → h.get j = some p → ρ.blk i = some b → ρ.blk j = some b → i = j
  glob : ∀ g, g < G → ρ.blk g = some g ∧ ρ.cap g = none
  gp : G ≤ h.next
def AObj.ro : AObj → Bool
  | .cells _ _ _ r => r
  | .win _ _ => true
  | _ => false
def Wset (ρ : Rho) (h : AH) (b : Nat) : Prop := ∃ i o, h.get i = some o ∧ o.ro = false ∧ ρ.blk i = some b
structure Ext (ρ : Rho) (h : AH) (w : World) (ρ' : Rho) (h' : AH) (w' : World) : Prop where
  le : ρ.le ρ'
  low : ∀ i, i < h.next → ρ'.blk i = ρ.blk i
  next : h.next ≤ h'.next
  size : w.heap.size ≤ w'.heap.size
  pres : ∀ b, b < w.heap.size → ¬ Wset ρ h b → w'.heap[b]? = w.heap[b]?
  shrink : ∀ b, b < w.heap.size → Wset ρ' h' b → Wset ρ h b
  tape : w'.tape = w.tape
  os : w'.os = w.os
  output : w'.output = w.output
theorem Ext.refl (ρ : Rho) (h : AH) (w : World) : Ext ρ h w ρ h w :=
  ⟨Rho.le_refl ρ, fun _ _ => rfl, Nat.le_refl _, Nat.le_refl _, fun _ _ _ => rfl, fun _ _ h => h, rfl, rfl, rfl⟩
theorem Ext.trans {ρ ρ' ρ'' : Rho} {h h' h'' : AH} {w w' w'' : World} (a : Ext ρ h w ρ' h' w') (b : Ext ρ' h' w' ρ'' h'' w'') : Ext ρ h w ρ'' h'' w'' where
  le := Rho.le_trans a.le b.le
  low := fun i hi => (b.low i (Nat.lt_of_lt_of_le hi a.next)).trans (a.low i hi)
  next := Nat.le_trans a.next b.next
  size := Nat.le_trans a.size b.size
  pres := fun k hk hn => (b.pres k (Nat.lt_of_lt_of_le hk a.size) (fun hw => hn (a.shrink k hk hw))).trans (a.pres k hk hn)
  shrink := fun k hk hw => a.shrink k hk (b.shrink k (Nat.lt_of_lt_of_le hk a.size) hw)
  tape := b.tape.trans a.tape
  os := b.os.trans a.os
  output := b.output.trans a.output
theorem WR.drawn {G : Nat} {ρ : Rho} {h : AH} {w : World} (H : WR G ρ h w) (n : Nat) : WR G ρ h { w with drawn := n } := ⟨H.obj, H.fresh, H.inj, H.glob, H.gp⟩
theorem Ext.drawn (ρ : Rho) (h : AH) (w : World) (n : Nat) : Ext ρ h w ρ h { w with drawn := n } :=
  ⟨Rho.le_refl ρ, fun _ _ => rfl, Nat.le_refl _, Nat.le_refl _, fun _ _ _ => rfl, fun _ _ h => h, rfl, rfl, rfl⟩
theorem WR.lt {G : Nat} {ρ : Rho} {h : AH} {w : World} (H : WR G ρ h w) {i : Nat} {o : AObj} (e : h.get i = some o) {b : Nat} (hb : ρ.blk i = some b) : b < w.heap.size := by
  obtain ⟨b', x, h1, h2, _⟩ := H.obj i o e
  rw [hb] at h1; cases h1
  exact (Array.getElem?_eq_some_iff.1 h2).1
theorem WR.next_gt {G : Nat} {ρ : Rho} {h : AH} {w : World} (H : WR G ρ h w) {i b : Nat} (hb : ρ.blk i = some b) : i < h.next := by
  rcases Nat.lt_or_ge i h.next with q | q
  · exact q
  · rw [H.fresh i q] at hb; cases hb
def Rho.bind (ρ : Rho) (i b : Nat) (c : Option Nat) : Rho :=
  ⟨fun k => if k = i then some b else ρ.blk k, fun k => if k = i then c else ρ.cap k, ρ.st⟩
def Rho.bindS (ρ : Rho) (i : Nat) (s : List (Value × Nat) × Nat) : Rho :=
  ⟨fun k => if k = i then some 0 else ρ.blk k, fun k => if k = i then none else ρ.cap k, fun k => if k = i then s else ρ.st k⟩
theorem Rho.le_bind {ρ : Rho} {i : Nat} (h : ρ.blk i = none) (b : Nat) (c : Option Nat) : ρ.le (ρ.bind i b c) := fun k b' hk => by
  have : k ≠ i := by rintro rfl; rw [h] at hk; cases hk
  simp [Rho.bind, this, hk]
theorem Rho.le_bindS {ρ : Rho} {i : Nat} (h : ρ.blk i = none) (s : List (Value × Nat) × Nat) : ρ.le (ρ.bindS i s) := fun k b' hk => by
  have : k ≠ i := by rintro rfl; rw [h] at hk; cases hk
  simp [Rho.bindS, this, hk]
def AH.bump (h : AH) : AH := { h with next := h.next + 1 }
@[simp] theorem AH.next_bump (h : AH) : h.bump.next = h.next + 1 := rfl
theorem WR.ver {G : Nat} {ρ : Rho} {h : AH} {w : World} (H : WR G ρ h w) (s : List (Value × Nat) × Nat) : WR G (ρ.bindS h.next s) h.bump w := by
  have hn := H.fresh h.next (Nat.le_refl _)
  have hle := Rho.le_bindS hn s
  have hgp := H.gp
  have key : ∀ i o, h.get i = some o → i ≠ h.next := fun i o e q => by
    obtain ⟨b, x, h1, _⟩ := H.obj i o e
    rw [q, hn] at h1; cases h1
  refine ⟨fun i p e => ?_, fun i hi => ?_, fun i j p q b e1 e2 b1 b2 => ?_, fun g hg => ?_, by simp; omega⟩
  · obtain ⟨b, y, h1, h2, h3⟩ := H.obj i p e
    exact ⟨b, y, (hle _ _ h1).1, h2, h3.mono hle h1⟩
  · have h1 : h.next + 1 ≤ i := hi
    have h2 : i ≠ h.next := by omega
    simp only [Rho.bindS, h2, if_false]
    exact H.fresh i (by omega)
  · have hi := key i p e1
    have hj := key j q e2
    simp only [Rho.bindS, hi, hj, if_false] at b1 b2
    exact H.inj i j p q b e1 e2 b1 b2
  · have : g ≠ h.next := by omega
    simp only [Rho.bindS, this, if_false]
    exact H.glob g hg
theorem Ext.ver {G : Nat} {ρ : Rho} {h : AH} {w : World} (H : WR G ρ h w) (s : List (Value × Nat) × Nat) : Ext ρ h w (ρ.bindS h.next s) h.bump w where
  le := Rho.le_bindS (H.fresh _ (Nat.le_refl _)) _
  low := fun i hi => by have : i ≠ h.next := by omega
                        simp [Rho.bindS, this]
  next := by simp
  size := Nat.le_refl _
  pres := fun _ _ _ => rfl
  shrink := fun b _ ⟨i, p, e, r, q⟩ => by
    have e' : h.get i = some p := e
    obtain ⟨b', x, h1, _⟩ := H.obj i p e'
    have hi : i ≠ h.next := by rintro rfl; rw [H.fresh _ (Nat.le_refl _)] at h1; cases h1
    simp only [Rho.bindS, hi, if_false] at q
    exact ⟨i, p, e', r, q⟩
  tape := rfl
  os := rfl
  output := rfl
theorem WR.alloc {G : Nat} {ρ : Rho} {h : AH} {w w' : World} (H : WR G ρ h w) (o : AObj) (x : Obj) (c : Option Nat) (hw : w'.heap = w.heap.push x)
    (hx : ObjR (ρ.bind h.next w.heap.size c) h.next o x) : WR G (ρ.bind h.next w.heap.size c) (h.push o) w' := by
  have hn := H.fresh h.next (Nat.le_refl _)
  have hle := Rho.le_bind hn w.heap.size c
  have hgp := H.gp
  refine ⟨fun i p e => ?_, fun i hi => ?_, fun i j p q b e1 e2 b1 b2 => ?_, fun g hg => ?_, by simp; omega⟩
  · rw [AH.get_push] at e
    by_cases hi : i = h.next
    · subst hi
      simp at e; subst e
      exact ⟨w.heap.size, x, by simp [Rho.bind], by rw [hw]; simp, hx⟩
    · rw [if_neg hi] at e
      obtain ⟨b, y, h1, h2, h3⟩ := H.obj i p e
      refine ⟨b, y, (hle _ _ h1).1, ?_, h3.mono hle h1⟩
      have hb := (Array.getElem?_eq_some_iff.1 h2).1
      rw [hw, Array.getElem?_push, if_neg (Nat.ne_of_lt hb), h2]
  · have h1 : h.next + 1 ≤ i := hi
    have h2 : i ≠ h.next := by omega
    simp only [Rho.bind, h2, if_false]
    exact H.fresh i (by omega)
  · rw [AH.get_push] at e1 e2
    have old : ∀ k r, h.get k = some r → (ρ.bind h.next w.heap.size c).blk k = some b → k ≠ h.next → b < w.heap.size := fun k r hr hb hk => by
      simp only [Rho.bind, hk, if_false] at hb
      exact H.lt hr hb
    by_cases hi : i = h.next <;> by_cases hj : j = h.next
    · rw [hi, hj]
    · exfalso
      rw [if_neg hj] at e2
      have := old j q e2 b2 hj
      simp only [Rho.bind, hi, if_true] at b1
      injection b1 with b1
      omega
    · exfalso
      rw [if_neg hi] at e1
      have := old i p e1 b1 hi
      simp only [Rho.bind, hj, if_true] at b2
      injection b2 with b2
      omega
    · rw [if_neg hi] at e1
      rw [if_neg hj] at e2
      simp only [Rho.bind, hi, hj, if_false] at b1 b2
      exact H.inj i j p q b e1 e2 b1 b2
  · have : g ≠ h.next := by omega
    simp only [Rho.bind, this, if_false]
    exact H.glob g hg
theorem Ext.alloc {G : Nat} {ρ : Rho} {h : AH} {w w' : World} (H : WR G ρ h w) (o : AObj) (x : Obj) (c : Option Nat) (hw : w'.heap = w.heap.push x) (ht : w'.tape = w.tape) (ho : w'.os = w.os) (hu : w'.output = w.output) :
    Ext ρ h w (ρ.bind h.next w.heap.size c) (h.push o) w' where
  le := Rho.le_bind (H.fresh _ (Nat.le_refl _)) _ _
  low := fun i hi => by have : i ≠ h.next := by omega
                        simp [Rho.bind, this]
  next := by simp
  size := by rw [hw]; simp
  pres := fun b hb _ => by rw [hw, Array.getElem?_push, if_neg (Nat.ne_of_lt hb)]
  shrink := fun b hb ⟨i, p, e, r, q⟩ => by
    rw [AH.get_push] at e
    by_cases hi : i = h.next
    · simp only [Rho.bind, hi, if_true] at q
      injection q with q
      omega
    · rw [if_neg hi] at e
      simp only [Rho.bind, hi, if_false] at q
      exact ⟨i, p, e, r, q⟩
  tape := ht
  os := ho
  output := hu
theorem WR.set {G : Nat} {ρ : Rho} {h : AH} {w w' : World} (H : WR G ρ h w) {i b : Nat} {o o' : AObj} {x' : Obj} (e : h.get i = some o) (hb : ρ.blk i = some b)
    (hw : w'.heap = w.heap.setIfInBounds b x') (hx : ObjR ρ i o' x') : WR G ρ (h.put i (some o')) w' := by
  have hlt := H.lt e hb
  refine ⟨fun k p ek => ?_, H.fresh, fun k j p q c e1 e2 b1 b2 => ?_, H.glob, H.gp⟩
  · rw [AH.get_put] at ek
    by_cases hk : k = i
    · subst hk
      simp at ek; subst ek
      exact ⟨b, x', hb, by rw [hw]; simp [hlt], hx⟩
    · rw [if_neg hk] at ek
      obtain ⟨b', y, h1, h2, h3⟩ := H.obj k p ek
      refine ⟨b', y, h1, ?_, h3⟩
      have hne : b ≠ b' := by rintro rfl; exact hk (H.inj k i p o b ek e h1 hb)
      rw [hw, Array.getElem?_setIfInBounds_ne hne, h2]
  · have old : ∀ k r, (h.put i (some o')).get k = some r → ∃ s, h.get k = some s := fun k r hr => by
      rw [AH.get_put] at hr
      by_cases hk : k = i
      · exact ⟨o, hk ▸ e⟩
      · rw [if_neg hk] at hr; exact ⟨r, hr⟩
    obtain ⟨s, hs⟩ := old k p e1
    obtain ⟨s', hs'⟩ := old j q e2
    exact H.inj k j s s' c hs hs' b1 b2
theorem Ext.set {G : Nat} {ρ : Rho} {h : AH} {w w' : World} (_H : WR G ρ h w) {i b : Nat} {o o' : AObj} {x' : Obj} (e : h.get i = some o) (hro : o.ro = false) (hb : ρ.blk i = some b)
    (hw : w'.heap = w.heap.setIfInBounds b x') (ht : w'.tape = w.tape) (ho : w'.os = w.os) (hu : w'.output = w.output) : Ext ρ h w ρ (h.put i (some o')) w' where
  le := Rho.le_refl _
  low := fun _ _ => rfl
  next := by simp
  size := by rw [hw]; simp
  pres := fun c _ hn => by
    have : b ≠ c := by rintro rfl; exact hn ⟨i, o, e, hro, hb⟩
    rw [hw, Array.getElem?_setIfInBounds_ne this]
  shrink := fun c _ ⟨k, p, ek, r, q⟩ => by
    rw [AH.get_put] at ek
    by_cases hk : k = i
    · subst hk; exact ⟨k, o, e, hro, q⟩
    · rw [if_neg hk] at ek; exact ⟨k, p, ek, r, q⟩
  tape := ht
  os := ho
  output := hu
theorem WR.drop {G : Nat} {ρ : Rho} {h : AH} {w : World} (H : WR G ρ h w) (i : Nat) : WR G ρ (h.put i none) w := by
  have old : ∀ k r, (h.put i none).get k = some r → h.get k = some r := fun k r hr => by
    rw [AH.get_put] at hr
    by_cases hk : k = i
    · rw [if_pos hk] at hr; cases hr
    · rw [if_neg hk] at hr; exact hr
  exact ⟨fun k p ek => H.obj k p (old k p ek), H.fresh, fun k j p q c e1 e2 b1 b2 => H.inj k j p q c (old k p e1) (old j q e2) b1 b2, H.glob, H.gp⟩
theorem Ext.drop (ρ : Rho) (h : AH) (w : World) (i : Nat) : Ext ρ h w ρ (h.put i none) w where
  le := Rho.le_refl _
  low := fun _ _ => rfl
  next := by simp
  size := Nat.le_refl _
  pres := fun _ _ _ => rfl
  shrink := fun c _ ⟨k, p, ek, r, q⟩ => by
    rw [AH.get_put] at ek
    by_cases hk : k = i
    · rw [if_pos hk] at ek; cases ek
    · rw [if_neg hk] at ek; exact ⟨k, p, ek, r, q⟩
  tape := rfl
  os := rfl
  output := rfl
theorem WR.move {G : Nat} {ρ : Rho} {h : AH} {w w' : World} (H : WR G ρ h w) {i b : Nat} {o o' : AObj} {x' : Obj} {c : Option Nat} (e : h.get i = some o) (hb : ρ.blk i = some b)
    (hw : w'.heap = w.heap.setIfInBounds b x') (hx : ObjR (ρ.bind h.next b c) h.next o' x') : WR G (ρ.bind h.next b c) ((h.put i none).push o') w' := by
  have hn := H.fresh h.next (Nat.le_refl _)
  have hle := Rho.le_bind hn b c
  have hlt := H.lt e hb
  have hin : i < h.next := H.next_gt hb
  have old : ∀ k r, ((h.put i none).push o').get k = some r → k ≠ h.next → h.get k = some r ∧ k ≠ i := fun k r hr hk => by
    rw [AH.get_push, AH.next_put, if_neg hk, AH.get_put] at hr
    by_cases hki : k = i
    · rw [if_pos hki] at hr; cases hr
    · rw [if_neg hki] at hr; exact ⟨hr, hki⟩
  have hgp := H.gp
  refine ⟨fun k p ek => ?_, fun k hk => ?_, fun k j p q d e1 e2 b1 b2 => ?_, fun g hg => ?_, by simp; omega⟩
  · by_cases hk : k = h.next
    · subst hk
      rw [AH.get_push, AH.next_put, if_pos rfl] at ek
      cases ek
      exact ⟨b, x', by simp [Rho.bind], by rw [hw]; simp [hlt], hx⟩
    · obtain ⟨e0, hki⟩ := old k p ek hk
      obtain ⟨b', y, h1, h2, h3⟩ := H.obj k p e0
      refine ⟨b', y, (hle _ _ h1).1, ?_, h3.mono hle h1⟩
      have hne : b ≠ b' := by rintro rfl; exact hki (H.inj k i p o b e0 e h1 hb)
      rw [hw, Array.getElem?_setIfInBounds_ne hne, h2]
  · have h1 : h.next + 1 ≤ k := hk
    have h2 : k ≠ h.next := by omega
    simp only [Rho.bind, h2, if_false]
    exact H.fresh k (by omega)
  · by_cases hk : k = h.next <;> by_cases hj : j = h.next
    · rw [hk, hj]
    · exfalso
      obtain ⟨e0, hji⟩ := old j q e2 hj
      simp only [Rho.bind, hk, hj, if_true, if_false] at b1 b2
      cases b1
      exact hji (H.inj j i q o b e0 e b2 hb)
    · exfalso
      obtain ⟨e0, hki⟩ := old k p e1 hk
      simp only [Rho.bind, hk, hj, if_true, if_false] at b1 b2
      cases b2
      exact hki (H.inj k i p o b e0 e b1 hb)
    · obtain ⟨e0, _⟩ := old k p e1 hk
      obtain ⟨e3, _⟩ := old j q e2 hj
      simp only [Rho.bind, hk, hj, if_false] at b1 b2
      exact H.inj k j p q d e0 e3 b1 b2
  · have : g ≠ h.next := by omega
    simp only [Rho.bind, this, if_false]
    exact H.glob g hg
theorem Ext.move {G : Nat} {ρ : Rho} {h : AH} {w w' : World} (H : WR G ρ h w) {i b : Nat} {o o' : AObj} {x' : Obj} {c : Option Nat} (e : h.get i = some o) (hro : o.ro = false) (hb : ρ.blk i = some b)
    (hw : w'.heap = w.heap.setIfInBounds b x') (ht : w'.tape = w.tape) (ho : w'.os = w.os) (hu : w'.output = w.output) : Ext ρ h w (ρ.bind h.next b c) ((h.put i none).push o') w' where
  le := Rho.le_bind (H.fresh _ (Nat.le_refl _)) _ _
  low := fun k hk => by have : k ≠ h.next := by omega
                        simp [Rho.bind, this]
  next := by simp
  size := by rw [hw]; simp
  pres := fun d _ hn => by
    have : b ≠ d := by rintro rfl; exact hn ⟨i, o, e, hro, hb⟩
    rw [hw, Array.getElem?_setIfInBounds_ne this]
  shrink := fun d _ ⟨k, p, ek, r, q⟩ => by
    rw [AH.get_push, AH.next_put] at ek
    by_cases hk : k = h.next
    · simp only [Rho.bind, hk, if_true] at q
      cases q
      exact ⟨i, o, e, hro, hb⟩
    · rw [if_neg hk, AH.get_put] at ek
      simp only [Rho.bind, hk, if_false] at q
      by_cases hki : k = i
      · rw [if_pos hki] at ek; cases ek
      · rw [if_neg hki] at ek; exact ⟨k, p, ek, r, q⟩
  tape := ht
  os := ho
  output := hu
end Go.AE
namespace Go.AE
open Go
mutual
def closed : Value → Bool
  | .bool _ | .int _ _ | .float _ _ | .complex _ _ _ | .string _ | .pointer none | .slice none _ _ | .map none | .chan none | .nilFunc | .nilIface => true
  | .pointer (some _) | .slice (some _) _ _ | .map (some _) | .chan (some _) => false
  | .func fn first cap => (match fn with | .yield _ => false | _ => true) && (closedArr first && closedArr cap)
  | .iface _ v => closed v
  | .agg cs | .tuple cs => closedArr cs
def closedArr : Array Value → Bool
  | ⟨l⟩ => closedL l
def closedL : List Value → Bool
  | [] => true
  | v :: l => closed v && closedL l
end
mutual
theorem closed_ren (ρ : Rho) : ∀ v, closed v = true → ren ρ v = some v
  | .bool _, _ | .int _ _, _ | .float _ _, _ | .complex _ _ _, _ | .string _, _ | .pointer none, _ | .slice none _ _, _ | .map none, _ | .chan none, _ | .nilFunc, _ | .nilIface, _ => by simp only [ren]
  | .pointer (some _), h | .slice (some _) _ _, h | .map (some _), h | .chan (some _), h => by simp [closed] at h
  | .func fn first cap, h => by
    simp only [closed, Bool.and_eq_true] at h
    have h1 := closedArr_ren ρ first h.2.1
    have h2 := closedArr_ren ρ cap h.2.2
    cases fn <;> simp_all [ren, renF]
  | .iface _ v, h => by
    simp only [closed] at h
    simp [ren, closed_ren ρ v h]
  | .agg cs, h => by
    simp only [closed] at h
    simp [ren, closedArr_ren ρ cs h]
  | .tuple cs, h => by
    simp only [closed] at h
    simp [ren, closedArr_ren ρ cs h]
theorem closedArr_ren (ρ : Rho) : ∀ v, closedArr v = true → renArr ρ v = some v
  | ⟨l⟩, h => by
    simp only [closedArr] at h
    simp [renArr, closedL_ren ρ l h]
theorem closedL_ren (ρ : Rho) : ∀ v, closedL v = true → renL ρ v = some v
  | [], _ => by simp [renL]
  | v :: l, h => by
    simp only [closedL, Bool.and_eq_true] at h
    simp [renL, closed_ren ρ v h.1, closedL_ren ρ l h.2]
end
def pureRun (P : Program) {α : Type} : Sem α → Option α
  | .pure a => some a
  | .program k => pureRun P (k P)
  | .mark _ k => pureRun P k
  | _ => none
theorem pureRun_run {P : Program} {α : Type} : ∀ {s : Sem α} {a : α}, pureRun P s = some a → ∀ w, s.run P w = .ok a w
  | .pure b, a, h, w => by simp [pureRun] at h; simp [Sem.run, h]
  | .program k, a, h, w => by
    simp only [pureRun] at h
    simp only [Sem.run]
    exact pureRun_run h w
  | .mark m k, a, h, w => by
    simp only [pureRun] at h
    simp only [Sem.run]
    exact pureRun_run h w
  | .load .., _, h, _ | .store .., _, h, _ | .new .., _, h, _ | .shape .., _, h, _ | .freeze .., _, h, _ | .frozen .., _, h, _ | .getObj .., _, h, _ | .setObj .., _, h, _ | .choose .., _, h, _ | .sys .., _, h, _ | .halt _, _, h, _ => by simp [pureRun] at h
def okOpd (G : Nat) : Operand → Bool
  | .tmp _ => true
  | .const v => closed v
  | .global g => Nat.blt g G
  | .func _ => true
theorem ev_ren {G : Nat} {ρ : Rho} {h : AH} {w : World} (H : WR G ρ h w) {a b : Act} (ht : renArr ρ a.tmps = some b.tmps) {x : Operand} (hx : okOpd G x = true) : ren ρ (a.eval x) = some (b.eval x) := by
  cases x with
  | tmp t => exact renArr_getD ht t
  | const v => exact closed_ren ρ v hx
  | global g =>
    have hg : g < G := Nat.blt_eq ▸ hx
    simp [Act.eval, ren, renA, (H.glob g hg).1]
  | func f => simp [Act.eval, ren, renF, renArr, renL]
theorem closed_op {P : Program} {ρ : Rho} {o : Oper} {e e' : Operand → Value} (hs : ∀ cs b, o.op ≠ .select cs b) (hr : ∀ x ∈ o.op.operands, ren ρ (e x) = some (e' x)) (hc : ∀ x ∈ o.op.operands, closed (e x) = true)
    {n : Next} (hp : pureRun P (execOp e o) = some n) : ∀ w, (execOp e' o).run P w = .ok n w := by
  have : execOp e' o = execOp e o := execOp_congr o hs fun x hx => by
    have h1 := hr x hx
    rw [closed_ren ρ _ (hc x hx)] at h1
    exact (Option.some.inj h1).symm
  rw [this]
  exact pureRun_run hp
def aggT (P : Program) (t : TypeId) : Option Bool :=
  match P.underlying t with
  | some (.struct _) => some true
  | some (.array _ _) => some true
  | some _ => some false
  | none => none
def sizeT (P : Program) (t : TypeId) : Option Nat := (P.info? t).map (·.size)
theorem run_isAgg {P : Program} {t : TypeId} {b : Bool} (h : aggT P t = some b) (w : World) : (isAgg t).run P w = .ok b w := by
  unfold aggT at h
  unfold isAgg
  cases hu : P.underlying t with
  | none => simp [hu] at h
  | some d =>
    simp only [hu] at h
    rw [Sem.run_bind, run_underlying hu]
    cases d <;> simp at h <;> subst h <;> rfl
theorem run_sizeOf {P : Program} {t : TypeId} {n : Nat} (h : sizeT P t = some n) (w : World) : (sizeOf t).run P w = .ok n w := by
  unfold sizeT at h
  obtain ⟨i, hi, rfl⟩ := Option.map_eq_some_iff.1 h
  simp [sizeOf, typeInfo, hi]
theorem renA_add {ρ : Rho} {a b : Addr} (h : renA ρ a = some b) (n : Nat) : renA ρ (a.add n) = some (b.add n) := by
  unfold renA at h
  split at h
  · rename_i b' h1 h2
    simp at h; subst h
    by_cases hn : n = 0
    · subst hn; simp [Addr.add, renA, h1, h2]
    · simp [Addr.add, hn, renA, h2]
  · cases h
theorem renA_sure {ρ : Rho} {v r : Value} {a : Addr} (hv : v = .pointer (some a)) (h : ren ρ v = some r) : ∃ b, renA ρ a = some b ∧ r = .pointer (some b) := by
  subst hv
  simp only [ren, Option.map_eq_some_iff] at h
  obtain ⟨b, hb, e⟩ := h
  exact ⟨b, hb, e.symm⟩
theorem ren_ptr {ρ : Rho} {a : Addr} {r : Value} (h : ren ρ (.pointer (some a)) = some r) : ∃ b, renA ρ a = some b ∧ r = .pointer (some b) := renA_sure rfl h
theorem ren_int {ρ : Rho} {k : IntKind} {n : Int} {r : Value} (h : ren ρ (.int k n) = some r) : r = .int k n := by simp [ren] at h; exact h.symm
theorem ren_bool {ρ : Rho} {b : Bool} {r : Value} (h : ren ρ (.bool b) = some r) : r = .bool b := by simp [ren] at h; exact h.symm
theorem ren_string {ρ : Rho} {b : ByteArray} {r : Value} (h : ren ρ (.string b) = some r) : r = .string b := by simp [ren] at h; exact h.symm
theorem ren_slice {ρ : Rho} {a : Addr} {n c : Nat} {r : Value} (h : ren ρ (.slice (some a) n c) = some r) : ∃ b c', renA ρ a = some b ∧ renC ρ a.block c = some c' ∧ r = .slice (some b) n c' := by
  simp only [ren, Option.map_eq_some_iff, Option.bind_eq_some_iff] at h
  obtain ⟨b, hb, c', hc, e⟩ := h
  exact ⟨b, c', hb, hc, e.symm⟩
theorem ren_agg {ρ : Rho} {cs : Array Value} {r : Value} (h : ren ρ (.agg cs) = some r) : ∃ cs', renArr ρ cs = some cs' ∧ r = .agg cs' := by
  simp only [ren, Option.map_eq_some_iff] at h
  obtain ⟨b, hb, e⟩ := h
  exact ⟨b, hb, e.symm⟩
theorem ren_tuple {ρ : Rho} {cs : Array Value} {r : Value} (h : ren ρ (.tuple cs) = some r) : ∃ cs', renArr ρ cs = some cs' ∧ r = .tuple cs' := by
  simp only [ren, Option.map_eq_some_iff] at h
  obtain ⟨b, hb, e⟩ := h
  exact ⟨b, hb, e.symm⟩
theorem ren_iface {ρ : Rho} {t : TypeId} {v r : Value} (h : ren ρ (.iface t v) = some r) : ∃ v', ren ρ v = some v' ∧ r = .iface t v' := by
  simp only [ren, Option.map_eq_some_iff] at h
  obtain ⟨b, hb, e⟩ := h
  exact ⟨b, hb, e.symm⟩
def AH.opn (h : AH) (i : Nat) : Option (Option Nat) :=
  match h.get i with
  | some (.cells _ _ o _) => some o
  | _ => none
theorem WR.closedCap {G : Nat} {ρ : Rho} {h : AH} {w : World} (H : WR G ρ h w) {i : Nat} (e : h.opn i = some none) : ρ.cap i = none := by
  unfold AH.opn at e
  split at e
  · rename_i c t o ro he
    simp at e; subst e
    obtain ⟨b, x, _, _, h3⟩ := H.obj i _ he
    cases x <;> simp only [ObjR] at h3
    simpa using h3.2.2.2.1
  · cases e
theorem renArr_map {ρ : Rho} {e e' : Operand → Value} (xs : Array Operand) (h : ∀ x ∈ xs, ren ρ (e x) = some (e' x)) : renArr ρ (xs.map e) = some (xs.map e') := by
  rw [renArr_iff]
  obtain ⟨l⟩ := xs
  simp only [List.map_toArray]
  have : ∀ l : List Operand, (∀ x ∈ l, ren ρ (e x) = some (e' x)) → renL ρ (l.map e) = some (l.map e') := by
    intro l
    induction l with
    | nil => intro _; simp [renL]
    | cons x l ih =>
      intro hl
      simp only [List.map_cons]
      exact renL_cons.2 ⟨_, _, hl x (by simp), ih fun y hy => hl y (by simp [hy]), rfl⟩
  exact this l fun x hx => h x (by simpa using hx)
def apart (P : Program) (t : TypeId) (cs : Array Value) (off : Nat) : Option Value :=
  match aggT P t, sizeT P t with
  | some true, some n => some (.agg ⟨(cs.toList.drop off).take n⟩)
  | some false, _ => cs[off]?
  | _, _ => none
theorem apart_ok {P : Program} {ρ : Rho} {t : TypeId} {cs cs' : Array Value} {off : Nat} {v : Value} (h : apart P t cs off = some v) (hr : renArr ρ cs = some cs') :
    ∃ v', ren ρ v = some v' ∧ ∀ w, (part t cs' off).run P w = .ok v' w := by
  unfold apart at h
  have hl := renArr_iff.1 hr
  split at h
  · rename_i n h1 h2
    simp at h; subst h
    refine ⟨.agg ⟨(cs'.toList.drop off).take n⟩, ?_, fun w => ?_⟩
    · simp [ren, renArr, renL_take n (renL_drop off hl)]
    · simp only [part, Sem.run_bind, run_isAgg h1, run_sizeOf h2, Result.andThen_ok, if_true, Sem.run_pure]
      congr 2
      apply Array.toList_inj.1
      simp
  · rename_i h1
    obtain ⟨v', h2, h3⟩ := renL_get off hl v (by simpa using h)
    have h4 : cs'[off]? = some v' := by simpa using h2
    refine ⟨v', h3, fun w => ?_⟩
    simp only [part, Sem.run_bind, run_isAgg h1, Result.andThen_ok, h4]
    rfl
  · cases h
end Go.AE
namespace Go.AE
open Go
def isIface (P : Program) (t : TypeId) : Bool := match P.underlying t with | some (.interface _) => true | _ => false
def numO (e : Operand → Value) (d : Int) : Option Operand → Option Int
  | none => some d
  | some y => match e y with | .int _ k => some k | _ => none
def AH.ocap (h : AH) (i : Nat) : Option (Nat × Nat) :=
  match h.get i with
  | some (.cells c _ (some sz) _) => some (sz, c.length)
  | _ => none
def aslo (L : Nat) (a : Addr) (c s : Nat) (l u : Int) : Option (Option Int) → Option Value
  | none =>
    if bigC ≤ c then
      if 0 ≤ l ∧ l ≤ u ∧ u ≤ (c - bigC : Nat) then some (.slice (some (if c - bigC = l.toNat then a else a.add (l.toNat * s))) (u - l).toNat (bigC + (c - bigC - l.toNat))) else none
    else
      if 0 ≤ l ∧ l ≤ u ∧ (c + u.toNat) * s ≤ L ∧ (l < u ∨ l = 0) ∧ c + l.toNat < bigC then some (.slice (some (a.add (l.toNat * s))) (u - l).toNat (c + l.toNat)) else none
  | some none => none
  | some (some m) =>
    if bigC ≤ c then
      if 0 ≤ l ∧ l ≤ u ∧ u ≤ m ∧ m ≤ (c - bigC : Nat) then some (.slice (some (if m.toNat = l.toNat then a else a.add (l.toNat * s))) (u - l).toNat (bigC + (m.toNat - l.toNat))) else none
    else
      if 0 ≤ l ∧ l ≤ u ∧ u ≤ m ∧ (c + m.toNat) * s ≤ L then some (.slice (some (if m.toNat = l.toNat then a else a.add (l.toNat * s))) (u - l).toNat (bigC + (m.toNat - l.toNat))) else none
def aptr (P : Program) (h : AH) (e : Operand → Value) : Op → Option Value
  | .move x | .assign x => some (e x)
  | .pick c a b => match e c with
    | .bool t => some (if t then e a else e b)
    | _ => none
  | .nilCheck x => match e x with
    | .pointer (some a) => some (.pointer (some a))
    | .func (.func f) first cap => some (.func (.func f) first cap)
    | _ => none
  | .makeInterface t x => if P.concrete t then some (.iface t (e x)) else none
  | .makeFunc fn first cap => match fn with
    | .yield _ => none
    | fn => some (.func fn (first.map e) (cap.map e))
  | .extract x i => match e x with
    | .tuple vs => vs[i]?
    | _ => none
  | .field t x f => match P.underlying t, e x with
    | some (.struct fields), .agg cs => (fields[f]?).bind fun fd => apart P fd.type cs fd.offset
    | _, _ => none
  | .fieldAddr t x f => match P.underlying t, e x with
    | some (.struct fields), .pointer (some a) => (fields[f]?).bind fun fd => match sizeT P fd.type with
      | some (_ + 1) => some (.pointer (some (a.add fd.offset)))
      | _ => none
    | _, _ => none
  | .indexAddr t x i => match P.underlying t, e x, e i with
    | some (.slice el), .slice (some a) n _, .int _ k => match sizeT P el with
      | some s => if 0 ≤ k ∧ k < n then some (.pointer (some (a.add (k.toNat * s)))) else none
      | none => none
    | some (.array n el), .pointer (some a), .int _ k => match sizeT P el with
      | some s => if 0 ≤ k ∧ k < n then some (.pointer (some (a.add (k.toNat * s)))) else none
      | none => none
    | _, _, _ => none
  | .build t ps => match (P.info? t).bind (·.zero) with
    | some z => if closed z then (P.built t (ps.toList.map fun p => (p.1, e p.2))).map .agg else none
    | none => none
  | .typeAssert x _ a ok => match P.underlying a, e x with
    | some (.interface want), .iface t v => match P.info? t with
      | some i => match Instr.missingMethod want i.methods with
        | none => some (if ok then .tuple #[.iface t v, .bool true] else .iface t v)
        | some _ => none
      | none => none
    | some d, .iface t v => match d with
      | .interface _ => none
      | _ => if t = a then some (if ok then .tuple #[v, .bool true] else v) else none
    | _, _ => none
  | .binOp op t x y _ => match op, P.underlying t, e x, e y with
    | .eql, some (.pointer _), .pointer (some _), .pointer none => some (.bool false)
    | .neq, some (.pointer _), .pointer (some _), .pointer none => some (.bool true)
    | .eql, some (.slice _), .slice (some _) _ _, .slice none _ _ => some (.bool false)
    | .neq, some (.slice _), .slice (some _) _ _, .slice none _ _ => some (.bool true)
    | .eql, some (.interface _), .iface _ _, .nilIface => some (.bool false)
    | .neq, some (.interface _), .iface _ _, .nilIface => some (.bool true)
    | .eql, some (.func _ _ _), .func _ _ _, .nilFunc => some (.bool false)
    | .neq, some (.func _ _ _), .func _ _ _, .nilFunc => some (.bool true)
    | _, _, _, _ => none
  | .slice t x lo hi mx =>
    match P.underlying t, e x with
    | some (.slice el), .slice (some a) n c => match h.opn a.block, sizeT P el, numO e 0 lo, numO e n hi with
      | some none, some s, some l, some u => match mx with
        | none => if 0 ≤ l ∧ l ≤ u ∧ u ≤ c then some (.slice (some (if c = l.toNat then a else a.add (l.toNat * s))) (u - l).toNat (c - l.toNat)) else none
        | some m => match numO e c (some m), hi with
          | some m, some _ => if 0 ≤ l ∧ l ≤ u ∧ u ≤ m ∧ m ≤ c then some (.slice (some (if m.toNat = l.toNat then a else a.add (l.toNat * s))) (u - l).toNat (m.toNat - l.toNat)) else none
          | _, _ => none
      | some (some _), some s, some l, some u => match h.ocap a.block with
        | some (sz, L) => if sz = s ∧ 0 < s ∧ (mx.isSome = true → hi.isSome = true) then aslo L a c s l u (mx.map fun m => numO e c (some m)) else none
        | none => none
      | _, _, _, _ => none
    | some (.array n el), .pointer (some a) => match sizeT P el, numO e 0 lo, numO e n hi, mx with
      | some s, some l, some u, none => if 0 ≤ l ∧ l ≤ u ∧ u ≤ n ∧ h.opn a.block = some none then some (.slice (some (if n = l.toNat then a else a.add (l.toNat * s))) (u - l).toNat (n - l.toNat)) else none
      | _, _, _, _ => none
    | _, _ => none
  | .call { callee := .builtin b, args := args, argTypes := ts } => match b, args.toList, (ts[0]?).bind P.underlying with
    | .len, [x], some (.slice _) => match e x with
      | .slice (some _) n _ => some (.int .i64 n)
      | _ => none
    | .cap, [x], some (.slice _) => match e x with
      | .slice (some a) _ c => match h.opn a.block with
        | some none => some (.int .i64 c)
        | some (some _) => if bigC ≤ c then some (.int .i64 ((c - bigC : Nat) : Int)) else none
        | _ => none
      | _ => none
    | _, _, _ => none
  | _ => none
theorem renC_closed {G : Nat} {ρ : Rho} {h : AH} {w : World} (H : WR G ρ h w) {i c c' : Nat} (ho : h.opn i = some none) (hc : renC ρ i c = some c') : c' = c := by
  unfold renC at hc
  rw [H.closedCap ho] at hc
  simpa using hc.symm
theorem ren_slice_closed {G : Nat} {ρ : Rho} {h : AH} {w : World} (H : WR G ρ h w) {a : Addr} {n c : Nat} {r : Value} (ho : h.opn a.block = some none) (hr : ren ρ (.slice (some a) n c) = some r) :
    ∃ b, renA ρ a = some b ∧ r = .slice (some b) n c := by
  obtain ⟨b, c', h1, h2, h3⟩ := ren_slice hr
  rw [renC_closed H ho h2] at h3
  exact ⟨b, h1, h3⟩
theorem add_block (a : Addr) (n : Nat) : (a.add n).block = a.block := by
  unfold Addr.add; split <;> rfl
theorem ren_slice_mk {G : Nat} {ρ : Rho} {h : AH} {w : World} (H : WR G ρ h w) {a b : Addr} {n c : Nat} (ho : h.opn a.block = some none) (hr : renA ρ a = some b) : ren ρ (.slice (some a) n c) = some (.slice (some b) n c) := by
  simp [ren, hr, renC, H.closedCap ho]
section
variable {P : Program} {G : Nat} {ρ : Rho} {h : AH} {w : World} {e e' : Operand → Value}
theorem run_sb {e' : Operand → Value} {y : Operand} {k : IntKind} {i : Int} {n : Nat} {code : BoundsCode} (hy : e' y = .int k i) (h0 : 0 ≤ i) (h1 : i ≤ n) (w : World) : (Instr.sliceBound (e' y) n code).run P w = .ok i.toNat w := by
  rw [hy]
  simp [Instr.sliceBound, asIntOf, h0, h1]
theorem numO_ren {d : Int} {o : Option Operand} {k : Int} (hk : numO e d o = some k) (hr : ∀ y, o = some y → ren ρ (e y) = some (e' y)) : numO e' d o = some k := by
  cases o with
  | none => exact hk
  | some y =>
    simp only [numO] at hk ⊢
    cases hy : e y <;> simp only [hy] at hk <;> try (cases hk; done)
    have := hr y rfl
    rw [hy] at this
    rw [ren_int this]
    exact hk
theorem run_bounds {isS : Bool} {n c : Nat} {lo hi mx : Option Operand} {l u m : Int} (hl : numO e' 0 lo = some l) (hu : numO e' n hi = some u)
    (hm : (mx = none ∧ m = c) ∨ (hi ≠ none ∧ numO e' c mx = some m)) (h0 : 0 ≤ l) (h1 : l ≤ u) (h2 : u ≤ m) (h3 : m ≤ c) (w : World) :
    (Instr.sliceBounds isS n c (lo.map e') (hi.map e') (mx.map e')).run P w = .ok (l.toNat, u.toNat, m.toNat) w := by
  have il : ∀ (y : Operand) (z : Int) (d : Int), numO e' d (some y) = some z → ∃ k, e' y = .int k z := fun y z d hz => by
    simp only [numO] at hz
    cases hy : e' y <;> simp only [hy] at hz <;> try (cases hz; done)
    exact ⟨_, by rw [Option.some.inj hz]⟩
  have sb : ∀ (y : Operand) (z d : Int) (n : Nat) (code : BoundsCode) (w : World), numO e' d (some y) = some z → 0 ≤ z → z ≤ n → (Instr.sliceBound (e' y) n code).run P w = .ok z.toNat w := fun y z d n code w hz h0 h1 => by
    obtain ⟨k, hk⟩ := il y z d hz
    exact run_sb hk h0 h1 w
  cases mx with
  | none =>
    have hmc : m = c := by
      rcases hm with ⟨_, hm⟩ | ⟨_, hm⟩
      · exact hm
      · simp [numO] at hm; exact hm.symm
    subst hmc
    cases hi with
    | none =>
      simp [numO] at hu; subst hu
      cases lo with
      | none => simp [numO] at hl; subst hl; simp [Instr.sliceBounds]
      | some x => simp [Instr.sliceBounds, sb x l 0 _ _ _ hl h0 h1]
    | some y =>
      cases lo with
      | none => simp [numO] at hl; subst hl; simp [Instr.sliceBounds, sb y u n _ _ _ hu (by omega) h2]
      | some x => simp [Instr.sliceBounds, sb y u n _ _ _ hu (by omega) h2, sb x l 0 u.toNat _ _ hl h0 (by omega)]
  | some z =>
    rcases hm with ⟨hm, _⟩ | ⟨hne, hm⟩
    · cases hm
    cases hi with
    | none => exact absurd rfl hne
    | some y =>
      cases lo with
      | none => simp [numO] at hl; subst hl; simp [Instr.sliceBounds, sb z m c _ _ _ hm (by omega) h3, sb y u n m.toNat _ _ hu (by omega) (by omega)]
      | some x => simp [Instr.sliceBounds, sb z m c _ _ _ hm (by omega) h3, sb y u n m.toNat _ _ hu (by omega) (by omega), sb x l 0 u.toNat _ _ hl h0 (by omega)]
end
end Go.AE
namespace Go.AE
open Go
section
variable {P : Program} {G : Nat} {ρ : Rho} {h : AH} {w : World} {e e' : Operand → Value}
def PureAt (P : Program) (ρ : Rho) (e' : Operand → Value) (o : Oper) (v : Value) : Prop :=
  ∃ v', ren ρ v = some v' ∧ ∀ w', (execOp e' o).run P w' = .ok (.value v') w'
theorem ren_cells (ρ : Rho) : ∀ v v' : Value, ren ρ v = some v' → renArr ρ v.cells = some v'.cells
  | .agg cs, v', q => by obtain ⟨cs', q1, rfl⟩ := ren_agg q; exact q1
  | .bool _, v', q | .int _ _, v', q | .float _ _, v', q | .complex _ _ _, v', q | .string _, v', q | .pointer none, v', q | .slice none _ _, v', q | .map none, v', q | .chan none, v', q | .nilFunc, v', q | .nilIface, v', q => by
    have q0 := q
    simp [ren] at q
    subst q
    simp [Value.cells, renArr, renL, q0]
  | .pointer (some a), v', q => by
    have q0 := q
    obtain ⟨b, _, rfl⟩ := ren_ptr q
    simp [Value.cells, renArr, renL, q0]
  | .slice (some a) n c, v', q => by
    have q0 := q
    obtain ⟨b, c', _, _, rfl⟩ := ren_slice q
    simp [Value.cells, renArr, renL, q0]
  | .map (some r), v', q => by
    have q0 := q
    simp only [ren, Option.map_eq_some_iff] at q
    obtain ⟨b, _, rfl⟩ := q
    simp [Value.cells, renArr, renL, q0]
  | .chan (some r), v', q => by
    have q0 := q
    simp only [ren] at q
    obtain ⟨a, c, rfl⟩ := opq_form q
    simp [Value.cells, renArr, renL, q0]
  | .func fn f c, v', q => by
    have q0 := q
    simp only [ren, Option.bind_eq_some_iff, Option.map_eq_some_iff] at q
    obtain ⟨fn', _, f', _, c', _, rfl⟩ := q
    simp [Value.cells, renArr, renL, q0]
  | .iface t u, v', q => by
    have q0 := q
    obtain ⟨u', _, rfl⟩ := ren_iface q
    simp [Value.cells, renArr, renL, q0]
  | .tuple vs, v', q => by
    have q0 := q
    obtain ⟨u', _, rfl⟩ := ren_tuple q
    simp [Value.cells, renArr, renL, q0]
theorem fill_ren {place : Nat → Option (Nat × Nat)} : ∀ {ps : List (Nat × Value)} {ps' : List (Nat × Value)} {cells cells' out : Array Value},
    ps'.map (·.1) = ps.map (·.1) → renL ρ (ps.map (·.2)) = some (ps'.map (·.2)) → renArr ρ cells = some cells' →
    Instr.fill place cells ps = some out → ∃ out', Instr.fill place cells' ps' = some out' ∧ renArr ρ out = some out'
  | [], ps', cells, cells', out, h1, h2, h3, h4 => by
    cases ps' with
    | nil => simp [Instr.fill] at h4 ⊢; subst h4; exact h3
    | cons x xs => simp at h1
  | (i, v) :: ps, ps', cells, cells', out, h1, h2, h3, h4 => by
    cases ps' with
    | nil => simp at h1
    | cons x ps' =>
      obtain ⟨i', v'⟩ := x
      simp only [List.map_cons, List.cons.injEq] at h1
      obtain ⟨rfl, h1⟩ := h1
      simp only [List.map_cons] at h2
      obtain ⟨v'', l', e1, e2, e3⟩ := renL_cons.1 h2
      injection e3 with e3 e4
      subst e3; subst e4
      simp only [Instr.fill] at h4 ⊢
      cases hp : place i' with
      | none => simp [hp] at h4
      | some os =>
        obtain ⟨off, size⟩ := os
        simp only [hp] at h4 ⊢
        have hcells : renArr ρ v.cells = some v'.cells := ren_cells ρ v v' e1
        have hsz := renArr_size hcells
        have hcz := renArr_size h3
        rw [hsz, hcz]
        split at h4
        · cases h4
        · rename_i hcond
          rw [if_neg hcond]
          refine fill_ren h1 e2 ?_ h4

          have key : ∀ (l l' : List Value) (k : Nat) (a a' : Array Value), renL ρ l = some l' → renArr ρ a = some a' →
              renArr ρ ((l.zipIdx k).foldl (fun cs (p : Value × Nat) => cs.setIfInBounds (off + p.2) p.1) a) = some ((l'.zipIdx k).foldl (fun cs (p : Value × Nat) => cs.setIfInBounds (off + p.2) p.1) a') := by
            intro l
            induction l with
            | nil => intro l' k a a' hl ha; simp [renL] at hl; subst hl; exact ha
            | cons x l ih =>
              intro l' k a a' hl ha
              obtain ⟨x', l'', q1, q2, rfl⟩ := renL_cons.1 hl
              simp only [List.zipIdx_cons, List.foldl_cons]
              exact ih _ _ _ _ q2 (renArr_set q1 _ ha)
          have := key v.cells.toList v'.cells.toList 0 cells cells' (renArr_iff.1 hcells) h3
          rw [← Array.foldl_toList, ← Array.foldl_toList, Array.toList_zipIdx, Array.toList_zipIdx]
          exact this
theorem run_pick {c a b : Operand} {t : Bool} (hc : e' c = .bool t) (w' : World) : (do pure (Next.value (if ← asBool (e' c) then e' a else e' b)) : Sem Next).run P w' = .ok (.value (if t then e' a else e' b)) w' := by
  rw [hc]; simp [asBool]
theorem open_cap (H : WR G ρ h w) {a b : Addr} {sz L : Nat} (ho : h.ocap a.block = some (sz, L)) (_hb : renA ρ a = some b) : ∃ C, ρ.cap a.block = some C ∧ L ≤ C * sz := by
  unfold AH.ocap at ho
  split at ho
  case h_2 => cases ho
  rename_i c t sz0 ro hg
  cases ho
  obtain ⟨b', x, q1, q2, q3⟩ := H.obj _ _ hg
  cases x <;> simp only [ObjR] at q3
  rename_i arr t' fz
  obtain ⟨_, ⟨c', tail, r1, r2, _⟩, _, _, r5⟩ := q3
  obtain ⟨C, hC, hs⟩ := r5 _ rfl
  refine ⟨C, hC, ?_⟩
  have := renL_length r2
  have hl := congrArg List.length r1
  simp at hl
  omega
theorem ocap_of_opn {i sz : Nat} (ho : h.opn i = some (some sz)) : ∃ L, h.ocap i = some (sz, L) := by
  unfold AH.opn at ho
  split at ho
  · rename_i c t o ro hg
    simp at ho; subst ho
    exact ⟨c.length, by simp [AH.ocap, hg]⟩
  · cases ho
end
end Go.AE
namespace Go.AE
open Go
section
variable {P : Program} {G : Nat} {ρ : Rho} {h : AH} {w : World} {e e' : Operand → Value}
theorem eqIn_ptr (d : Nat) {t el : TypeId} (hu : P.underlying t = some (.pointer el)) (a : Addr) (w : World) : (Op.equalIn (d + 1) t (.pointer (some a)) (.pointer none)).run P w = .ok false w := by
  simp only [Op.equalIn, Sem.run_bind, run_underlying hu, Result.andThen_ok]; rfl
theorem eqIn_slice (d : Nat) {t el : TypeId} (hu : P.underlying t = some (.slice el)) (a : Addr) (n c m k : Nat) (w : World) : (Op.equalIn (d + 1) t (.slice (some a) n c) (.slice none m k)).run P w = .ok false w := by
  simp only [Op.equalIn, Sem.run_bind, run_underlying hu, Result.andThen_ok]; rfl
theorem eqIn_iface (d : Nat) {t : TypeId} {ms : Array (String × TypeId)} (hu : P.underlying t = some (.interface ms)) (u : TypeId) (v : Value) (w : World) : (Op.equalIn (d + 1) t (.iface u v) .nilIface).run P w = .ok false w := by
  simp only [Op.equalIn, Sem.run_bind, run_underlying hu, Result.andThen_ok]; rfl
theorem eqIn_func (d : Nat) {t : TypeId} {a b : Array TypeId} {c : Bool} (hu : P.underlying t = some (.func a b c)) (f : Fn) (x y : Array Value) (w : World) : (Op.equalIn (d + 1) t (.func f x y) .nilFunc).run P w = .ok false w := by
  simp only [Op.equalIn, Sem.run_bind, run_underlying hu, Result.andThen_ok]; rfl
theorem eq_eql {t : TypeId} {X Y : Value} (hE : ∀ w, (Op.equalIn (9999 + 1) t X Y).run P w = .ok false w) (w : World) : (do pure (Value.bool (← Op.equal t X Y)) : Sem Value).run P w = .ok (.bool false) w := by
  rw [Sem.run_bind]; erw [hE]; rfl
theorem eq_neq {t : TypeId} {X Y : Value} (hE : ∀ w, (Op.equalIn (9999 + 1) t X Y).run P w = .ok false w) (w : World) : (do pure (Value.bool (!(← Op.equal t X Y))) : Sem Value).run P w = .ok (.bool true) w := by
  rw [Sem.run_bind]; erw [hE]; rfl
theorem nilcmp {dst : Option Tmp} {bop : BinOp} {t yt type : TypeId} {x y : Operand} {pos : String} {after : Array Edge} {guard : Option (Nat × Bool)} {X Y : Value} {b : Bool} (hX : e' x = X) (hY : e' y = Y)
    (hg : eqGuard bop t x y X Y = pure ()) (hb : ∀ w, (binOp bop t X Y).run P w = .ok (.bool b) w) (w' : World) : (execOp e' ⟨dst, .binOp bop t x y yt, type, pos, after, guard⟩).run P w' = .ok (.value (.bool b)) w' := by
  simp only [execOp, hX, hY, hg, Sem.run_bind, Sem.run_pure, Result.andThen_ok, hb]
theorem aptr_ok (H : WR G ρ h w) (o : Oper) (hr : ∀ x ∈ o.op.operands, ren ρ (e x) = some (e' x)) {v : Value} (hv : aptr P h e o.op = some v) : PureAt P ρ e' o v := by
  obtain ⟨dst, op, type, pos, after, guard⟩ := o
  simp only at hr hv
  cases op <;> simp only [aptr] at hv <;> try (cases hv; done)
  case move x => cases hv; exact ⟨_, hr x (by simp [Op.operands]), fun _ => rfl⟩
  case assign x => cases hv; exact ⟨_, hr x (by simp [Op.operands]), fun _ => rfl⟩
  case pick c a b =>
    have hc := hr c (by simp [Op.operands])
    cases hce : e c <;> simp only [hce] at hv <;> try (cases hv; done)
    rename_i t
    rw [hce] at hc
    have hc' := ren_bool hc
    cases hv
    refine ⟨if t then e' a else e' b, ?_, fun w' => run_pick hc' w'⟩
    cases t
    · exact hr b (by simp [Op.operands])
    · exact hr a (by simp [Op.operands])
  case nilCheck x =>
    have hx := hr x (by simp [Op.operands])
    split at hv
    · rename_i a ha
      cases hv
      rw [ha] at hx
      obtain ⟨b, hb, hx'⟩ := ren_ptr hx
      exact ⟨.pointer (some b), by simp [ren, hb], fun w' => by simp only [execOp, hx']; rfl⟩
    · rename_i f first cap hf
      cases hv
      rw [hf] at hx
      have hx0 := hx
      simp only [ren, renF, Option.bind_eq_some_iff, Option.map_eq_some_iff] at hx
      obtain ⟨fn', hfn, f', hf', c', hc', hx'⟩ := hx
      cases hfn
      exact ⟨e' x, by rw [← hx0], fun w' => by simp only [execOp, ← hx']; rfl⟩
    · cases hv
  case makeInterface t x =>
    split at hv
    · rename_i hc
      cases hv
      have hx := hr x (by simp [Op.operands])
      refine ⟨.iface t (e' x), by simp [ren, hx], fun w' => ?_⟩
      simp only [execOp, Sem.run_bind, run_makeInterface _ _ _ hc, Result.andThen_ok, Sem.run_pure]
    · cases hv
  case makeFunc fn first cap =>
    have h1 := renArr_map (ρ := ρ) (e := e) (e' := e') first fun x hx => hr x (by simp [Op.operands, hx])
    have h2 := renArr_map (ρ := ρ) (e := e) (e' := e') cap fun x hx => hr x (by simp [Op.operands, hx])
    have key : ∀ fn', renF ρ fn = some fn' → fn' = fn → v = .func fn (first.map e) (cap.map e) → PureAt P ρ e' ⟨dst, .makeFunc fn first cap, type, pos, after, guard⟩ v := fun fn' q1 q2 q3 => by
      subst q3; subst q2
      exact ⟨.func fn' (first.map e') (cap.map e'), by simp only [ren, q1, h1, h2]; rfl, fun w' => by simp only [execOp, Instr.makeFunc]; rfl⟩
    cases fn <;> simp only at hv <;> first
      | (cases hv; done)
      | exact key _ rfl rfl (Option.some.inj hv).symm
  case extract x i =>
    have hx := hr x (by simp [Op.operands])
    cases hce : e x <;> simp only [hce] at hv <;> try (cases hv; done)
    rename_i vs
    rw [hce] at hx
    obtain ⟨vs', h1, h2⟩ := ren_tuple hx
    obtain ⟨v', h3, h4⟩ := renL_get i (renArr_iff.1 h1) v (by simpa using hv)
    have h5 : vs'[i]? = some v' := by simpa using h3
    refine ⟨v', h4, fun w' => ?_⟩
    simp only [execOp, h2, Instr.extract, h5]; rfl
  case field t x f =>
    have hx := hr x (by simp [Op.operands])
    split at hv
    · rename_i fields cs hu hce
      rw [hce] at hx
      obtain ⟨cs', h1, h2⟩ := ren_agg hx
      cases hf : fields[f]? with
      | none => simp [hf] at hv
      | some fd =>
        simp only [hf, Option.bind_some] at hv
        obtain ⟨v', h3, h4⟩ := apart_ok hv h1
        refine ⟨v', h3, fun w' => ?_⟩
        simp only [execOp, h2, Instr.field, Sem.run_bind, run_underlying hu, Result.andThen_ok, hf, asAgg, Sem.run_pure, h4]
    · cases hv
  case fieldAddr t x f =>
    have hx := hr x (by simp [Op.operands])
    split at hv
    · rename_i fields a hu hce
      rw [hce] at hx
      obtain ⟨b, h1, h2⟩ := ren_ptr hx
      cases hf : fields[f]? with
      | none => simp [hf] at hv
      | some fd =>
        simp only [hf, Option.bind_some] at hv
        split at hv
        · rename_i n hs
          cases hv
          refine ⟨.pointer (some (b.add fd.offset)), by simp [ren, renA_add h1], fun w' => ?_⟩
          simp [execOp, h2, Instr.fieldAt, run_underlying hu, hf, Instr.sureAddr, fieldPlace, run_sizeOf hs]
        · cases hv
    · cases hv
  case indexAddr t x i =>
    have hx := hr x (by simp [Op.operands])
    have hi := hr i (by simp [Op.operands])
    split at hv
    · rename_i el a n c k z hu hce hci
      rw [hce] at hx
      rw [hci] at hi
      obtain ⟨b, c', h1, _, h2⟩ := ren_slice hx
      have h3 := ren_int hi
      split at hv
      · rename_i s hs
        split at hv
        · rename_i hin
          cases hv
          refine ⟨.pointer (some (b.add (z.toNat * s))), by simp [ren, renA_add h1], fun w' => ?_⟩
          simp [execOp, h2, h3, Instr.indexAt, asIntOf, run_underlying hu, hin, run_sizeOf hs]
        · cases hv
      · cases hv
    · rename_i n el a k z hu hce hci
      rw [hce] at hx
      rw [hci] at hi
      obtain ⟨b, h1, h2⟩ := ren_ptr hx
      have h3 := ren_int hi
      split at hv
      · rename_i s hs
        split at hv
        · rename_i hin
          cases hv
          refine ⟨.pointer (some (b.add (z.toNat * s))), by simp [ren, renA_add h1], fun w' => ?_⟩
          simp [execOp, h2, h3, Instr.indexAt, asIntOf, run_underlying hu, hin, run_sizeOf hs, Instr.sureAddr]
        · cases hv
      · cases hv
    · cases hv
  case build t ps =>
    split at hv
    case h_2 => cases hv
    rename_i z0 hz0
    split at hv
    case isFalse => cases hv
    rename_i hzc
    cases hb : P.built t (ps.toList.map fun p => (p.1, e p.2)) with
    | none => simp [hb] at hv
    | some cells =>
      simp only [hb, Option.map_some, Option.some.injEq] at hv
      subst hv
      have hl : renL ρ ((ps.toList.map fun p => (p.1, e p.2)).map (·.2)) = some ((ps.toList.map fun p => (p.1, e' p.2)).map (·.2)) := by
        have := renArr_map (ρ := ρ) (e := e) (e' := e') (ps.toList.map (·.2)).toArray fun x hx => hr x (by simpa [Op.operands] using hx)
        simpa [renArr_iff, List.map_map, Function.comp_def] using this
      have hbuilt : ∃ out', P.built t (ps.toList.map fun p => (p.1, e' p.2)) = some out' ∧ renArr ρ cells = some out' := by
        unfold Program.built at hb ⊢
        cases hit : P.info? t with
        | none => simp [hit] at hb
        | some it =>
          cases hu : P.underlying t with
          | none => simp [hit, hu] at hb
          | some d =>
            cases hz : it.zero with
            | none => cases d <;> simp [hit, hu, hz] at hb
            | some z =>
              cases d <;> try (simp [hit, hu] at hb; done)
              case array n el =>
                cases hie : P.info? el with
                | none => simp [hit, hu, hz, hie] at hb
                | some ie =>
                  simp only [hit, hu, hz, hie] at hb ⊢
                  have : z0 = z := by simpa [hit, hz] using hz0.symm
                  subst this
                  exact fill_ren (by simp [List.map_map, Function.comp_def]) hl (ren_cells ρ z0 z0 (closed_ren ρ z0 hzc)) hb
              case struct fields =>
                cases hpl : fields.toList.mapM (fun f => (P.info? f.type).map fun i => (f.offset, i.size)) with
                | none => simp [hit, hu, hz, hpl] at hb
                | some places =>
                  simp only [hit, hu, hz, hpl] at hb ⊢
                  have : z0 = z := by simpa [hit, hz] using hz0.symm
                  subst this
                  exact fill_ren (by simp [List.map_map, Function.comp_def]) hl (ren_cells ρ z0 z0 (closed_ren ρ z0 hzc)) hb
      obtain ⟨out', h1, h2⟩ := hbuilt
      refine ⟨.agg out', by simp [ren, h2], fun w' => ?_⟩
      simp only [execOp, Sem.run_bind]
      rw [run_build w' t _ out' (by simpa using h1)]
      rfl
  case typeAssert x xt a ok =>
    have hx := hr x (by simp [Op.operands])
    split at hv
    · rename_i want t u hu hce
      rw [hce] at hx
      have hx0 := hx
      obtain ⟨u', h1, h2⟩ := ren_iface hx
      split at hv
      · rename_i i hi
        split at hv
        · rename_i hm
          cases hv
          refine ⟨if ok then .tuple #[.iface t u', .bool true] else .iface t u', ?_, fun w' => ?_⟩
          · cases ok <;> simp [ren, renArr, renL, h1]
          · simp [execOp, h2, Instr.typeAssert, run_underlying hu, typeInfo, hi, hm]
        · cases hv
      · cases hv
    · rename_i d t u hnot hu hce
      rw [hce] at hx
      obtain ⟨u', h1, h2⟩ := ren_iface hx
      split at hv
      · cases hv
      · rename_i hni
        split at hv
        · rename_i hta
          cases hv
          refine ⟨if ok then .tuple #[u', .bool true] else u', ?_, fun w' => ?_⟩
          · cases ok <;> simp [ren, renArr, renL, h1]
          · subst hta
            cases d <;> first
              | exact absurd rfl (hni _)
              | simp [execOp, h2, Instr.typeAssert, run_underlying hu]
        · cases hv
    · cases hv
  case binOp bop t x y yt =>
    have hx := hr x (by simp [Op.operands])
    have hy := hr y (by simp [Op.operands])
    have fin : ∀ (b : Bool), v = .bool b → (∀ w', (execOp e' ⟨dst, .binOp bop t x y yt, type, pos, after, guard⟩).run P w' = .ok (.value (.bool b)) w') → PureAt P ρ e' ⟨dst, .binOp bop t x y yt, type, pos, after, guard⟩ v := fun b q1 q2 => by
      subst q1; exact ⟨.bool b, by simp [ren], q2⟩
    split at hv <;> first | (cases hv; done) | skip
    · rename_i hu hce hcy
      rw [hce] at hx; rw [hcy] at hy
      obtain ⟨b, _, hx⟩ := ren_ptr hx
      exact fin _ (Option.some.inj hv).symm (nilcmp hx (Option.some.inj (by simpa [ren] using hy)).symm rfl (eq_eql (eqIn_ptr 9999 hu b)))
    · rename_i hu hce hcy
      rw [hce] at hx; rw [hcy] at hy
      obtain ⟨b, _, hx⟩ := ren_ptr hx
      exact fin _ (Option.some.inj hv).symm (nilcmp hx (Option.some.inj (by simpa [ren] using hy)).symm rfl (eq_neq (eqIn_ptr 9999 hu b)))
    · rename_i hu hce hcy
      rw [hce] at hx; rw [hcy] at hy
      obtain ⟨b, c', _, _, hx⟩ := ren_slice hx
      exact fin _ (Option.some.inj hv).symm (nilcmp hx (Option.some.inj (by simpa [ren] using hy)).symm rfl (eq_eql (eqIn_slice 9999 hu b _ c' _ _)))
    · rename_i hu hce hcy
      rw [hce] at hx; rw [hcy] at hy
      obtain ⟨b, c', _, _, hx⟩ := ren_slice hx
      exact fin _ (Option.some.inj hv).symm (nilcmp hx (Option.some.inj (by simpa [ren] using hy)).symm rfl (eq_neq (eqIn_slice 9999 hu b _ c' _ _)))
    · rename_i hu hce hcy
      rw [hce] at hx; rw [hcy] at hy
      obtain ⟨b, _, hx⟩ := ren_iface hx
      exact fin _ (Option.some.inj hv).symm (nilcmp hx (Option.some.inj (by simpa [ren] using hy)).symm rfl (eq_eql (eqIn_iface 9999 hu _ b)))
    · rename_i hu hce hcy
      rw [hce] at hx; rw [hcy] at hy
      obtain ⟨b, _, hx⟩ := ren_iface hx
      exact fin _ (Option.some.inj hv).symm (nilcmp hx (Option.some.inj (by simpa [ren] using hy)).symm rfl (eq_neq (eqIn_iface 9999 hu _ b)))
    · rename_i hu hce hcy
      rw [hce] at hx; rw [hcy] at hy
      simp only [ren, Option.bind_eq_some_iff, Option.map_eq_some_iff] at hx
      obtain ⟨fn', _, f', _, c', _, hx⟩ := hx
      exact fin _ (Option.some.inj hv).symm (nilcmp hx.symm (Option.some.inj (by simpa [ren] using hy)).symm rfl (eq_eql (eqIn_func 9999 hu fn' f' c')))
    · rename_i hu hce hcy
      rw [hce] at hx; rw [hcy] at hy
      simp only [ren, Option.bind_eq_some_iff, Option.map_eq_some_iff] at hx
      obtain ⟨fn', _, f', _, c', _, hx⟩ := hx
      exact fin _ (Option.some.inj hv).symm (nilcmp hx.symm (Option.some.inj (by simpa [ren] using hy)).symm rfl (eq_neq (eqIn_func 9999 hu fn' f' c')))
  case slice t x lo hi mx =>
    have hx := hr x (by simp [Op.operands])
    have hlo : ∀ y, lo = some y → ren ρ (e y) = some (e' y) := fun y q => hr y (by simp [Op.operands, q])
    have hhi : ∀ y, hi = some y → ren ρ (e y) = some (e' y) := fun y q => hr y (by simp [Op.operands, q])
    have hmx : ∀ y, mx = some y → ren ρ (e y) = some (e' y) := fun y q => hr y (by simp [Op.operands, q])
    split at hv
    · rename_i el a n c hu hce
      rw [hce] at hx
      split at hv
      · rename_i s l u ho hs hl hh
        obtain ⟨b, h1, h2⟩ := ren_slice_closed H ho hx
        have hl' := numO_ren hl hlo
        have hh' := numO_ren hh hhi
        have fin : ∀ m : Int, ((mx = none ∧ m = c) ∨ (hi ≠ none ∧ numO e' c mx = some m)) → 0 ≤ l → l ≤ u → u ≤ m → m ≤ c →
            v = .slice (some (if m.toNat = l.toNat then a else a.add (l.toNat * s))) (u - l).toNat (m.toNat - l.toNat) → PureAt P ρ e' ⟨dst, .slice t x lo hi mx, type, pos, after, guard⟩ v := by
          intro m hm q0 q1 q2 q3 q4
          subst q4
          refine ⟨.slice (some (if m.toNat = l.toNat then b else b.add (l.toNat * s))) (u - l).toNat (m.toNat - l.toNat), ?_, fun w' => ?_⟩
          · split
            · exact ren_slice_mk H ho h1
            · exact ren_slice_mk H (by rw [add_block]; exact ho) (renA_add h1 _)
          · have e1 : (u - l).toNat = u.toNat - l.toNat := by omega
            simp only [execOp, h2, Instr.sliceAt, Sem.run_bind, run_underlying hu, Result.andThen_ok, Instr.slice, run_bounds hl' hh' hm q0 q1 q2 q3, run_sizeOf hs, Sem.run_pure, Option.map_some, e1]
            split <;> rfl
        split at hv
        · split at hv
          · rename_i hin
            refine fin c (.inl ⟨rfl, rfl⟩) hin.1 hin.2.1 hin.2.2 (Int.le_refl _) ?_
            simpa using (Option.some.inj hv).symm
          · cases hv
        · rename_i m
          split at hv
          · rename_i m' y hm
            split at hv
            · rename_i hin
              exact fin m' (.inr ⟨by simp, numO_ren hm hmx⟩) hin.1 hin.2.1 hin.2.2.1 hin.2.2.2 (Option.some.inj hv).symm
            · cases hv
          · cases hv
      · rename_i sz0 s l u ho hs hl hh
        split at hv
        case h_2 => cases hv
        rename_i sz L hoc
        split at hv
        case isFalse => cases hv
        rename_i hcond
        obtain ⟨rfl, hspos, hmxhi⟩ := hcond
        have hl' := numO_ren hl hlo
        have hh' := numO_ren hh hhi
        obtain ⟨b, c', h1, h2, h3⟩ := ren_slice hx
        obtain ⟨C, hC, hLC⟩ := open_cap H hoc h1
        have hL : ∀ k, (c + k) * sz ≤ L → c + k ≤ C := fun k hk => by
          have : (c + k) * sz ≤ C * sz := Nat.le_trans hk hLC
          exact Nat.le_of_mul_le_mul_right this hspos
        have fin : ∀ (m : Int) (a2 : Addr) (c2 : Nat), ((mx = none ∧ m = c') ∨ (hi ≠ none ∧ numO e' c' mx = some m)) → 0 ≤ l → l ≤ u → u ≤ m → m ≤ c' →
            (∀ b2, b2 = (if m.toNat = l.toNat then b else b.add (l.toNat * sz)) → renA ρ a2 = some b2 ∧ renC ρ a2.block c2 = some (m.toNat - l.toNat)) →
            v = .slice (some a2) (u - l).toNat c2 → PureAt P ρ e' ⟨dst, .slice t x lo hi mx, type, pos, after, guard⟩ v := by
          intro m a2 c2 hm q0 q1 q2 q3 q5 q4
          subst q4
          obtain ⟨g1, g2⟩ := q5 _ rfl
          have e1 : (u - l).toNat = u.toNat - l.toNat := by omega
          refine ⟨.slice (some (if m.toNat = l.toNat then b else b.add (l.toNat * sz))) (u - l).toNat (m.toNat - l.toNat), ?_, fun w' => ?_⟩
          · simp only [ren, g1, g2, Option.bind_some, Option.map_some]
          · simp only [execOp, h3, Instr.sliceAt, Sem.run_bind, run_underlying hu, Result.andThen_ok, Instr.slice, run_bounds hl' hh' hm q0 q1 q2 q3, run_sizeOf hs, Sem.run_pure, Option.map_some, e1]
            split <;> rfl
        have hadd := renA_add h1 (l.toNat * sz)
        have addr : ∀ (m : Int) (b2 : Addr), b2 = (if m.toNat = l.toNat then b else b.add (l.toNat * sz)) → renA ρ (if m.toNat = l.toNat then a else a.add (l.toNat * sz)) = some b2 ∧ (if m.toNat = l.toNat then a else a.add (l.toNat * sz)).block = a.block := fun m b2 hb2 => by
          subst hb2
          split
          · exact ⟨h1, rfl⟩
          · exact ⟨hadd, add_block _ _⟩
        have mxs : ∀ m, mx.map (fun m => numO e c (some m)) = some (some m) → hi ≠ none ∧ numO e' c' mx = some m := fun m hm => by
          cases mx with
          | none => cases hm
          | some y =>
            simp only [Option.map_some, Option.some.injEq] at hm
            have hhi2 := hmxhi rfl
            refine ⟨fun q => (by rw [q] at hhi2; cases hhi2), ?_⟩
            have := numO_ren (e := e) (e' := e') (d := c) (o := some y) hm hmx
            exact this
        generalize hmq : mx.map (fun m => numO e c (some m)) = mq at hv
        cases mq with
        | none =>
          have hmn : mx = none := by cases mx with | none => rfl | some y => cases hmq
          simp only [aslo] at hv
          split at hv
          · rename_i hbig
            obtain ⟨k, rfl⟩ : ∃ k, c = bigC + k := ⟨c - bigC, by omega⟩
            rw [renC_abs hC] at h2
            cases h2
            rw [Nat.add_sub_cancel_left] at hv
            split at hv
            case isFalse => cases hv
            rename_i hin
            refine fin (c' : Int) _ _ (.inl ⟨hmn, rfl⟩) hin.1 hin.2.1 hin.2.2 (Int.le_refl _) (fun b2 hb2 => ?_) (Option.some.inj hv).symm
            obtain ⟨g1, g2⟩ := addr (c' : Int) b2 hb2
            simp only [Int.toNat_natCast] at g1 g2 ⊢
            exact ⟨g1, by rw [g2]; exact renC_abs hC⟩
          · rename_i hbig
            split at hv
            case isFalse => cases hv
            rename_i hin
            obtain ⟨q0, q1, q2, q3, q4⟩ := hin
            have hcu := hL _ q2
            rw [renC_rel hC (by omega) (by omega)] at h2
            cases h2
            refine fin ((C - c : Nat) : Int) _ _ (.inl ⟨hmn, rfl⟩) q0 q1 (by omega) (Int.le_refl _) (fun b2 hb2 => ?_) (Option.some.inj hv).symm
            subst hb2
            rw [add_block]
            refine ⟨?_, ?_⟩
            · split
              · rename_i hq
                have hl0 : l.toNat = 0 := by
                  rcases q3 with q3 | q3
                  · simp only [Int.toNat_natCast] at hq; omega
                  · omega
                rw [hl0, Nat.zero_mul]
                simpa [Addr.add] using h1
              · exact hadd
            · rw [renC_rel hC q4 (by omega)]
              simp only [Int.toNat_natCast]
              congr 1
              omega
        | some mo =>
          cases mo with
          | none => simp [aslo] at hv
          | some m =>
            obtain ⟨hhin, hnm⟩ := mxs m hmq
            simp only [aslo] at hv
            split at hv
            · rename_i hbig
              obtain ⟨k, rfl⟩ : ∃ k, c = bigC + k := ⟨c - bigC, by omega⟩
              rw [renC_abs hC] at h2
              cases h2
              rw [Nat.add_sub_cancel_left] at hv
              split at hv
              case isFalse => cases hv
              rename_i hin
              refine fin m _ _ (.inr ⟨hhin, hnm⟩) hin.1 hin.2.1 hin.2.2.1 hin.2.2.2 (fun b2 hb2 => ?_) (Option.some.inj hv).symm
              obtain ⟨g1, g2⟩ := addr m b2 hb2
              exact ⟨g1, by rw [g2]; exact renC_abs hC⟩
            · rename_i hbig
              split at hv
              case isFalse => cases hv
              rename_i hin
              obtain ⟨q0, q1, q2, q3⟩ := hin
              have hcu := hL _ q3
              rw [renC_rel hC (by omega) (by omega)] at h2
              cases h2
              refine fin m _ _ (.inr ⟨hhin, hnm⟩) q0 q1 q2 (by omega) (fun b2 hb2 => ?_) (Option.some.inj hv).symm
              obtain ⟨g1, g2⟩ := addr m b2 hb2
              exact ⟨g1, by rw [g2]; exact renC_abs hC⟩
      · cases hv
    · rename_i n el a hu hce
      rw [hce] at hx
      obtain ⟨b, h1, h2⟩ := ren_ptr hx
      split at hv
      · rename_i s l u hs hl hh
        have hl' := numO_ren hl hlo
        have hh' := numO_ren hh hhi
        split at hv
        · rename_i hin
          obtain ⟨q0, q1, q2, ho⟩ := hin
          cases hv
          refine ⟨.slice (some (if n = l.toNat then b else b.add (l.toNat * s))) (u - l).toNat (n - l.toNat), ?_, fun w' => ?_⟩
          · split
            · exact ren_slice_mk H ho h1
            · exact ren_slice_mk H (by rw [add_block]; exact ho) (renA_add h1 _)
          · have e1 : (u - l).toNat = u.toNat - l.toNat := by omega
            have hb := run_bounds (P := P) (isS := false) (mx := none) (m := n) hl' hh' (.inl ⟨rfl, rfl⟩) q0 q1 q2 (Int.le_refl _)
            simp only [Option.map_none] at hb
            simp only [execOp, h2, Instr.sliceAt, Sem.run_bind, run_underlying hu, Result.andThen_ok, Instr.sureAddr, hb, run_sizeOf hs, Sem.run_pure, Option.map_none, e1, Int.toNat_natCast]
        · cases hv
      · cases hv
    · cases hv
  case call c =>
    obtain ⟨callee, args, ts⟩ := c
    cases callee <;> simp only at hv <;> try (cases hv; done)
    rename_i b
    have one : ∀ x, args.toList = [x] → args = #[x] := fun x q => by cases args; simp at q; simp [q]
    split at hv
    · rename_i x el harg hu
      have ha := one x harg
      subst ha
      have hx := hr x (by simp [Op.operands, Call.operands])
      obtain ⟨t0, ht0, hu0⟩ := Option.bind_eq_some_iff.1 hu
      split at hv
      · rename_i a n c hce
        cases hv
        rw [hce] at hx
        obtain ⟨b', c', _, _, h2⟩ := ren_slice hx
        refine ⟨.int .i64 n, by simp [ren], fun w' => ?_⟩
        simp [execOp, resolve, invoke, Go.builtin, Builtin.len_, ht0, h2, run_underlying hu0, goInt]
      · cases hv
    · rename_i x el harg hu
      have ha := one x harg
      subst ha
      have hx := hr x (by simp [Op.operands, Call.operands])
      obtain ⟨t0, ht0, hu0⟩ := Option.bind_eq_some_iff.1 hu
      split at hv
      · rename_i a n c hce
        split at hv
        · rename_i ho
          cases hv
          rw [hce] at hx
          obtain ⟨b', _, h2⟩ := ren_slice_closed H ho hx
          refine ⟨.int .i64 c, by simp [ren], fun w' => ?_⟩
          simp [execOp, resolve, invoke, Go.builtin, Builtin.cap_, ht0, h2, run_underlying hu0, goInt]
        · rename_i sz0 ho
          split at hv
          case isFalse => cases hv
          rename_i hbig
          cases hv
          rw [hce] at hx
          obtain ⟨b', c', q1, q2, h2⟩ := ren_slice hx
          obtain ⟨k, rfl⟩ : ∃ k, c = bigC + k := ⟨c - bigC, by omega⟩
          obtain ⟨L, hoc⟩ := ocap_of_opn ho
          obtain ⟨C, hC, _⟩ := open_cap H hoc q1
          rw [renC_abs hC] at q2
          cases q2
          rw [Nat.add_sub_cancel_left]
          refine ⟨.int .i64 c', by simp [ren], fun w' => ?_⟩
          simp [execOp, resolve, invoke, Go.builtin, Builtin.cap_, ht0, h2, run_underlying hu0, goInt]
        · cases hv
      · cases hv
    · cases hv
end
end Go.AE
namespace Go.AE
open Go
def acells (h : AH) (a : Addr) (n : Nat) : Option (List Value) :=
  match a.spot, h.get a.block with
  | none, some (.cells c _ _ _) => if a.off + n ≤ c.length then some ((c.drop a.off).take n) else none
  | none, some (.win o c) => if o ≤ a.off ∧ a.off - o + n ≤ c.length then some ((c.drop (a.off - o)).take n) else none
  | _, _ => none
def aload (P : Program) (h : AH) (t : TypeId) (a : Addr) : Option Value :=
  match aggT P t, sizeT P t with
  | some true, some n => (acells h a n).map fun l => .agg ⟨l⟩
  | some false, _ => (acells h a 1).bind (·[0]?)
  | _, _ => none
def loadN (P : Program) (t : TypeId) : Nat :=
  match aggT P t, sizeT P t with
  | some true, some n => n
  | _, _ => 1
section
variable {P : Program} {G : Nat} {ρ : Rho} {h : AH} {w : World} {e e' : Operand → Value}
theorem renA_form {a b : Addr} (hb : renA ρ a = some b) : a.spot = none ∧ b = ⟨b.block, a.off, none⟩ ∧ ρ.blk a.block = some b.block := by
  unfold renA at hb
  split at hb
  · rename_i b' h1 h2
    cases hb
    exact ⟨h1, rfl, h2⟩
  · cases hb
theorem win_ok (H : WR G ρ h w) {a b : Addr} {n o : Nat} {l c : List Value} (_hs : a.spot = none) (hbf : b = ⟨b.block, a.off, none⟩) (hblk : ρ.blk a.block = some b.block) (hg : h.get a.block = some (.win o c))
    (hl : (if o ≤ a.off ∧ a.off - o + n ≤ c.length then some ((c.drop (a.off - o)).take n) else none) = some l) :
    ∃ l', renL ρ l = some l' ∧ l'.length = n ∧ ∀ j v, l'[j]? = some v → w.cell? (b.add j) = some v := by
  split at hl
  case isFalse => cases hl
  rename_i hle
  cases hl
  obtain ⟨b', x, h1, h2, h3⟩ := H.obj _ _ hg
  rw [hblk] at h1; cases h1
  cases x <;> simp only [ObjR] at h3
  rename_i arr t' fz
  obtain ⟨hcl, hwin, _⟩ := h3
  refine ⟨(c.drop (a.off - o)).take n, renL_take n (renL_drop (a.off - o) (hcl ρ)), by simp; omega, fun j v hv => ?_⟩
  have hj : j < n := by
    have := (List.getElem?_eq_some_iff.1 hv).1
    simp at this; omega
  rw [List.getElem?_take_of_lt hj, List.getElem?_drop] at hv
  have hlt := (List.getElem?_eq_some_iff.1 hv).1
  have hw := congrArg (fun l : List Value => l[a.off - o + j]?) hwin
  simp only [List.getElem?_take_of_lt hlt, List.getElem?_drop, hv] at hw
  rw [show o + (a.off - o + j) = a.off + j by omega, Array.getElem?_toList] at hw
  rw [hbf]
  by_cases h0 : j = 0
  · subst h0
    simpa [Addr.add, World.cell?, h2] using hw
  · simp [Addr.add, World.cell?, h2, hw, h0]
theorem cells_ok (H : WR G ρ h w) {a b : Addr} {n : Nat} {l : List Value} (hl : acells h a n = some l) (hb : renA ρ a = some b) :
    ∃ l', renL ρ l = some l' ∧ l'.length = n ∧ ∀ j v, l'[j]? = some v → w.cell? (b.add j) = some v := by
  obtain ⟨hs, hbf, hblk⟩ := renA_form hb
  unfold acells at hl
  rw [hs] at hl
  split at hl
  case h_3 => cases hl
  case h_2 =>
    rename_i o c _ hg
    exact win_ok H hs hbf hblk hg hl
  rename_i c t o ro _ hg
  split at hl
  case isFalse => cases hl
  rename_i hle
  cases hl
  obtain ⟨b', x, h1, h2, h3⟩ := H.obj _ _ hg
  rw [hblk] at h1; cases h1
  cases x <;> simp only [ObjR] at h3
  rename_i arr t' fz
  obtain ⟨_, ⟨c', tail, q1, q2, _⟩, _⟩ := h3
  have hlen := renL_length q2
  refine ⟨(c'.drop a.off).take n, renL_take n (renL_drop a.off q2), by simp; omega, fun j v hv => ?_⟩
  have hj : j < n := by
    have := (List.getElem?_eq_some_iff.1 hv).1
    simp at this; omega
  have hcell : c'[a.off + j]? = some v := by
    rw [List.getElem?_take_of_lt hj, List.getElem?_drop] at hv
    exact hv
  have harr : arr[a.off + j]? = some v := by
    have : arr.toList[a.off + j]? = some v := by
      rw [q1, List.getElem?_append_left (by omega)]; exact hcell
    simpa using this
  rw [hbf]
  have hadd : Addr.add ⟨b.block, a.off, none⟩ j = ⟨b.block, a.off + j, none⟩ := Addr.add_lit _ _ _
  rw [hadd]
  simp [World.cell?, h2, harr]
theorem load_ok (H : WR G ρ h w) {t : TypeId} {a b : Addr} {v : Value} (hv : aload P h t a = some v) (hb : renA ρ a = some b) :
    ∃ v', ren ρ v = some v' ∧ ∀ w', (∀ j, j < loadN P t → w'.cell? (b.add j) = w.cell? (b.add j)) → (loadVar t b).run P w' = .ok v' w' := by
  unfold aload at hv
  split at hv
  · rename_i n h1 h2
    obtain ⟨l, hl, rfl⟩ := Option.map_eq_some_iff.1 hv
    obtain ⟨l', r1, r2, r3⟩ := cells_ok H hl hb
    refine ⟨.agg ⟨l'⟩, by simp [ren, renArr, r1], fun w' hw' => ?_⟩
    have hn : loadN P t = n := by simp [loadN, h1, h2]
    have := run_loadCells_list (P := P) (w := w') b l' fun j v hv => by
      have hj := (List.getElem?_eq_some_iff.1 hv).1
      rw [hw' j (by omega)]
      exact r3 j v hv
    rw [r2] at this
    simp only [loadVar, Sem.run_bind, run_isAgg h1, run_sizeOf h2, Result.andThen_ok, if_true, this]
    rfl
  · rename_i h1
    obtain ⟨l, hl, hl0⟩ := Option.bind_eq_some_iff.1 hv
    obtain ⟨l', r1, r2, r3⟩ := cells_ok H hl hb
    obtain ⟨v', s1, s2⟩ := renL_get 0 r1 v hl0
    refine ⟨v', s2, fun w' hw' => ?_⟩
    have h0 := r3 0 v' s1
    have hn : 0 < loadN P t := by unfold loadN; rw [h1]; simp
    rw [← hw' 0 hn, Addr.add_zero'] at h0
    simp only [loadVar, Sem.run_bind, run_isAgg h1, Result.andThen_ok, Bool.false_eq_true, if_false, run_load, h0]
  · cases hv
def lspl : List Value → Nat → List Value → List Value
  | l, _, [] => l
  | l, k, v :: vs => lspl (l.set k v) (k + 1) vs
def spl : Array Value → Nat → List Value → Array Value
  | a, _, [] => a
  | a, k, v :: vs => spl (a.setIfInBounds k v) (k + 1) vs
theorem spl_toList : ∀ (vs : List Value) (a : Array Value) (k : Nat), (spl a k vs).toList = lspl a.toList k vs
  | [], _, _ => rfl
  | v :: vs, a, k => by simp [spl, lspl, spl_toList vs]
theorem lspl_length : ∀ (vs l : List Value) (k : Nat), (lspl l k vs).length = l.length
  | [], _, _ => rfl
  | v :: vs, l, k => by simp [lspl, lspl_length vs]
theorem spl_size (vs : List Value) (a : Array Value) (k : Nat) : (spl a k vs).size = a.size := by
  have := congrArg List.length (spl_toList vs a k)
  simpa [lspl_length] using this
theorem lspl_append : ∀ (vs l tail : List Value) (k : Nat), k + vs.length ≤ l.length → lspl (l ++ tail) k vs = lspl l k vs ++ tail
  | [], _, _, _, _ => rfl
  | v :: vs, l, tail, k, h => by
    simp only [List.length_cons] at h
    simp only [lspl]
    rw [List.set_append_left _ _ (by omega), lspl_append vs _ _ _ (by simp; omega)]
theorem lspl_ren : ∀ {vs vs' l l' : List Value} (k : Nat), renL ρ vs = some vs' → renL ρ l = some l' → renL ρ (lspl l k vs) = some (lspl l' k vs')
  | [], vs', l, l', k, h1, h2 => by simp [renL] at h1; subst h1; exact h2
  | v :: vs, vs', l, l', k, h1, h2 => by
    obtain ⟨v', vs'', q1, q2, rfl⟩ := renL_cons.1 h1
    simp only [lspl]
    exact lspl_ren (k + 1) q2 (renL_set q1 k h2)
theorem oneCell_ren : ∀ (v v' : Value), ren ρ v = some v' → v.oneCell' = true → v'.oneCell' = true
  | .agg cs, v', q, h1 | .tuple cs, v', q, h1 => by simp [Value.oneCell'] at h1
  | .bool _, v', q, _ | .int _ _, v', q, _ | .float _ _, v', q, _ | .complex _ _ _, v', q, _ | .string _, v', q, _ | .pointer none, v', q, _ | .slice none _ _, v', q, _ | .map none, v', q, _ | .chan none, v', q, _ | .nilFunc, v', q, _ | .nilIface, v', q, _ => by
    simp [ren] at q
    subst q
    rfl
  | .pointer (some a), v', q, _ => by obtain ⟨b, _, rfl⟩ := ren_ptr q; rfl
  | .slice (some a) n c, v', q, _ => by obtain ⟨b, c', _, _, rfl⟩ := ren_slice q; rfl
  | .map (some r), v', q, _ => by
    simp only [ren, Option.map_eq_some_iff] at q
    obtain ⟨b, _, rfl⟩ := q; rfl
  | .chan (some r), v', q, _ => by
    simp only [ren] at q
    obtain ⟨a, c, rfl⟩ := opq_form q
    rfl
  | .func fn f c, v', q, _ => by
    simp only [ren, Option.bind_eq_some_iff, Option.map_eq_some_iff] at q
    obtain ⟨fn', _, f', _, c', _, rfl⟩ := q; rfl
  | .iface t u, v', q, _ => by obtain ⟨u', _, rfl⟩ := ren_iface q; rfl
theorem setCell_heap {b off : Nat} {arr : Array Value} {T : TypeId} {fz : Nat × Nat} (hg : w.heap[b]? = some (.cells arr T fz)) (v : Value) :
    w.setCell ⟨b, off, none⟩ v = { w with heap := w.heap.setIfInBounds b (.cells (arr.setIfInBounds off v) T fz) } := by
  have hlt := (Array.getElem?_eq_some_iff.1 hg).1
  have hge := (Array.getElem?_eq_some_iff.1 hg).2
  have : (w.heap.modify b fun | .cells c elem frozen => .cells (c.setIfInBounds off v) elem frozen | o => o) = w.heap.setIfInBounds b (.cells (arr.setIfInBounds off v) T fz) := by
    apply Array.ext_getElem?
    intro i
    rw [Array.getElem?_modify, Array.getElem?_setIfInBounds]
    by_cases hi : b = i
    · subst hi; simp [hlt, hge]
    · simp [hi]
  unfold World.setCell
  simp only [Option.isSome_none, Bool.false_eq_true, if_false]
  rw [← this]
  rfl
theorem setIf_self {b : Nat} {x : Obj} {hp : Array Obj} (hg : hp[b]? = some x) : hp.setIfInBounds b x = hp := by
  have hlt := (Array.getElem?_eq_some_iff.1 hg).1
  have hge := (Array.getElem?_eq_some_iff.1 hg).2
  apply Array.ext_getElem?
  intro i
  rw [Array.getElem?_setIfInBounds]
  by_cases hi : b = i
  · subst hi; simp [hlt, hge]
  · simp [hi]
theorem run_stores (P : Program) {b : Nat} {T : TypeId} {fz : Nat × Nat} : ∀ (vs : List Value) (off i : Nat) (arr : Array Value) (w : World), w.heap[b]? = some (.cells arr T fz) → off + i + vs.length ≤ arr.size →
    (fz = (0, 0) ∨ arr.size ≤ fz.1) → (∀ v ∈ vs, v.oneCell' = true) →
    (storeCells ⟨b, off, none⟩ vs i).run P w = .ok () { w with heap := w.heap.setIfInBounds b (.cells (spl arr (off + i) vs) T fz) }
  | [], off, i, arr, w, hg, _, _, _ => by simp [storeCells, spl, setIf_self hg]
  | v :: vs, off, i, arr, w, hg, hle, hz, ho => by
    simp only [List.length_cons] at hle
    have hadd : Addr.add ⟨b, off, none⟩ i = ⟨b, off + i, none⟩ := Addr.add_lit _ _ _
    have hcell : w.cell? ⟨b, off + i, none⟩ = some arr[off + i] := by
      simp [World.cell?, hg]
    have hfr : w.frozen? ⟨b, off + i, none⟩ = false := by
      obtain ⟨lo, hi⟩ := fz
      simp only [World.frozen?, hg]
      rcases hz with hz | hz
      · simp at hz; simp [hz]
      · simp at hz ⊢; omega
    simp only [storeCells, Sem.run_bind, hadd, run_store P w _ v .plain (ho v (by simp)), hcell, hfr, Bool.false_eq_true, if_false, Result.andThen_ok]
    rw [setCell_heap hg]
    have hlt := (Array.getElem?_eq_some_iff.1 hg).1
    have := run_stores P (b := b) (T := T) (fz := fz) vs off (i + 1) (arr.setIfInBounds (off + i) v) { w with heap := w.heap.setIfInBounds b (.cells (arr.setIfInBounds (off + i) v) T fz) }
      (by simp [hlt]) (by simp; omega) (by simpa using hz) fun u hu => ho u (by simp [hu])
    rw [this]
    simp only [spl, Nat.add_assoc]
    congr 2
    apply Array.ext_getElem?
    intro k
    simp only [Array.getElem?_setIfInBounds]
    by_cases hk : b = k
    · subst hk; simp [hlt]
    · simp [hk]
end
end Go.AE
namespace Go.AE
open Go
def OpAt (P : Program) (G : Nat) (ρ : Rho) (h : AH) (w : World) (e' : Operand → Value) (o : Oper) (v : Value) (h' : AH) : Prop :=
  ∃ ρ' v' w', WR G ρ' h' w' ∧ Ext ρ h w ρ' h' w' ∧ ren ρ' v = some v' ∧ ((execOp e' o).run P w = .ok (.value v') w' ∨ ((execOp e' o).run P w = .ok .skip w' ∧ v' = undef))
section
variable {P : Program} {G : Nat} {ρ : Rho} {h : AH} {w : World} {e e' : Operand → Value}
theorem PureAt.opAt (H : WR G ρ h w) {o : Oper} {v : Value} (hp : PureAt P ρ e' o v) : OpAt P G ρ h w e' o v h :=
  let ⟨v', h1, h2⟩ := hp; ⟨ρ, v', w, H, Ext.refl _ _ _, h1, .inl (h2 w)⟩
theorem push_row (H : WR G ρ h w) {cells cells' : Array Value} (hc : renArr ρ cells = some cells') (t : TypeId) :
    WR G (ρ.bind h.next w.heap.size none) (h.push (.cells cells.toList t none false)) { w with heap := w.heap.push (.cells cells' t) } ∧
    Ext ρ h w (ρ.bind h.next w.heap.size none) (h.push (.cells cells.toList t none false)) { w with heap := w.heap.push (.cells cells' t) } := by
  have hle := Rho.le_bind (H.fresh h.next (Nat.le_refl _)) w.heap.size none
  refine ⟨H.alloc _ _ none rfl ?_, Ext.alloc H _ _ none rfl rfl rfl rfl⟩
  simp only [ObjR]
  exact ⟨.inr trivial, ⟨cells'.toList, [], by simp, renL_mono hle _ _ (renArr_iff.1 hc), fun _ => rfl⟩, .inr (.inl trivial), fun _ => by simp [Rho.bind], fun sz q => by cases q⟩
theorem push_open (H : WR G ρ h w) {cells cells' : List Value} (hc : renL ρ cells = some cells') (t : TypeId) (arr : Array Value) (tail : List Value) (harr : arr.toList = cells' ++ tail) (sz C : Nat) (hC : arr.size = C * sz)
    (fz : Nat × Nat) (hz : fz = (0, 0) ∨ arr.size ≤ fz.1) (w' : World) (hw : w'.heap = w.heap.push (.cells arr t fz)) (ht : w'.tape = w.tape) (ho : w'.os = w.os) (hu : w'.output = w.output) :
    WR G (ρ.bind h.next w.heap.size (some C)) (h.push (.cells cells t (some sz) false)) w' ∧
    Ext ρ h w (ρ.bind h.next w.heap.size (some C)) (h.push (.cells cells t (some sz) false)) w' := by
  have hle := Rho.le_bind (H.fresh h.next (Nat.le_refl _)) w.heap.size (some C)
  refine ⟨H.alloc _ _ (some C) hw ?_, Ext.alloc H _ _ (some C) hw ht ho hu⟩
  simp only [ObjR]
  exact ⟨.inr trivial, ⟨cells', tail, harr, renL_mono hle _ _ hc, fun q => by cases q⟩, .inr hz, fun q => (by cases q), fun s q => ⟨C, by simp [Rho.bind], by cases q; exact hC⟩⟩
theorem ren_new (ρ : Rho) (i b : Nat) (c : Option Nat) (off : Nat) : renA (ρ.bind i b c) ⟨i, off, none⟩ = some ⟨b, off, none⟩ := by simp [renA, Rho.bind]
def azero (P : Program) (t : TypeId) : Option Value := (P.info? t).bind (·.zero)
theorem run_zero {t : TypeId} {z : Value} (hz : azero P t = some z) (w : World) : (zeroValue t).run P w = .ok z w := by
  obtain ⟨i, h1, h2⟩ := Option.bind_eq_some_iff.1 hz
  simp [zeroValue, typeInfo, h1, h2]
def aalloc (h : AH) (t : TypeId) (v : Value) : Value × AH := (.pointer (some ⟨h.next, 0, none⟩), h.push (.cells v.cells.toList t none false))
theorem run_newVar (t : TypeId) (v : Value) (w : World) : (newVar t v).run P w = .ok ⟨w.heap.size, 0, none⟩ { w with heap := w.heap.push (.cells v.cells t) } := by
  simp [newVar, newRow]
theorem box_ok (H : WR G ρ h w) {v v' : Value} (hv : ren ρ v = some v') (t : TypeId) {o : Oper}
    (hrun : (execOp e' o).run P w = .ok (.value (.pointer (some ⟨w.heap.size, 0, none⟩))) { w with heap := w.heap.push (.cells v'.cells t) }) : OpAt P G ρ h w e' o (aalloc h t v).1 (aalloc h t v).2 := by
  obtain ⟨h1, h2⟩ := push_row H (ren_cells ρ v v' hv) t
  exact ⟨_, .pointer (some ⟨w.heap.size, 0, none⟩), _, h1, h2, by simp [aalloc, ren, ren_new], .inl hrun⟩
def astore (P : Program) (h : AH) (t : TypeId) (a : Addr) (v : Value) : Option AH :=
  match h.get a.block with
  | some (.cells c el o ro) =>
    let vs := v.cells.toList
    if sizeT P t = some vs.length ∧ a.off + vs.length ≤ c.length ∧ ro = false ∧ vs.all (·.oneCell') then some (h.put a.block (some (.cells (lspl c a.off vs) el o ro))) else none
  | _ => none
theorem renL_all {p : Value → Bool} (hp : ∀ v v', ren ρ v = some v' → p v = true → p v' = true) : ∀ {l l' : List Value}, renL ρ l = some l' → l.all p = true → ∀ v ∈ l', p v = true
  | [], l', h, _, v, hv => by simp [renL] at h; subst h; cases hv
  | x :: l, l', h, ha, v, hv => by
    obtain ⟨x', l'', h1, h2, rfl⟩ := renL_cons.1 h
    simp only [List.all_cons, Bool.and_eq_true] at ha
    rcases List.mem_cons.1 hv with rfl | hv
    · exact hp _ _ h1 ha.1
    · exact renL_all hp h2 ha.2 v hv
theorem stores_ok (P : Program) (H : WR G ρ h w) {a b : Addr} {c : List Value} {el : TypeId} {o : Option Nat} (hg : h.get a.block = some (.cells c el o false)) (hb : renA ρ a = some b) {vs vs' : List Value} (hv : renL ρ vs = some vs') (hle : a.off + vs.length ≤ c.length)
    (h1 : vs.all (·.oneCell') = true) : ∃ w', (storeCells b vs').run P w = .ok () w' ∧ WR G ρ (h.put a.block (some (.cells (lspl c a.off vs) el o false))) w' ∧ Ext ρ h w ρ (h.put a.block (some (.cells (lspl c a.off vs) el o false))) w' := by
  obtain ⟨hs, hbf, hblk⟩ := renA_form hb
  obtain ⟨b', x, q1, q2, q3⟩ := H.obj _ _ hg
  rw [hblk] at q1; cases q1
  cases x <;> simp only [ObjR] at q3
  rename_i arr t' fz
  obtain ⟨ht, ⟨c', tail, r1, r2, r3⟩, r4, r5, r6⟩ := q3
  replace ht := ht.resolve_left (by simp)
  subst ht
  have hlen := renL_length hv
  have hclen := renL_length r2
  have hal : arr.size = c'.length + tail.length := by
    have := congrArg List.length r1
    simpa using this
  have hrun := run_stores P vs' a.off 0 arr w q2 (by omega) (r4.resolve_left (by simp)) (renL_all (fun v v' => oneCell_ren v v') hv h1)
  rw [← hbf] at hrun
  refine ⟨_, hrun, ?_, ?_⟩
  · refine H.set hg hblk rfl ?_
    simp only [ObjR]
    refine ⟨.inr trivial, ⟨lspl c' a.off vs', tail, ?_, lspl_ren _ hv r2, r3⟩, by simpa [spl_size] using r4, r5, by simpa [spl_size] using r6⟩
    simp only [Nat.add_zero]
    rw [spl_toList, r1, lspl_append _ _ _ _ (by omega)]
  · exact Ext.set H hg rfl hblk rfl rfl rfl rfl
theorem store_ok (H : WR G ρ h w) {t : TypeId} {a b : Addr} {v v' : Value} {h' : AH} (ha : astore P h t a v = some h') (hb : renA ρ a = some b) (hv : ren ρ v = some v') :
    ∃ w', (storeVar t b v').run P w = .ok () w' ∧ WR G ρ h' w' ∧ Ext ρ h w ρ h' w' := by
  unfold astore at ha
  split at ha
  case h_2 => cases ha
  rename_i c el o ro hg
  dsimp only at ha
  split at ha
  case isFalse => cases ha
  rename_i hcond
  obtain ⟨k1, k2, rfl, k4⟩ := hcond
  cases ha
  have hc := ren_cells ρ v v' hv
  obtain ⟨w', r1, r2, r3⟩ := stores_ok P H hg hb (renArr_iff.1 hc) k2 k4
  refine ⟨w', ?_, r2, r3⟩
  have hsz := renArr_size hc
  have hs : v'.cells.size = v.cells.toList.length := by simpa using hsz
  simp only [storeVar, Sem.run_bind, run_sizeOf k1, Result.andThen_ok, hs, ne_eq, not_true_eq_false, if_false]
  exact r1
theorem range_ok (H : WR G ρ h w) {t : TypeId} {s : ByteArray} (hu : P.underlying t = some .string) {o : Oper} {x : Operand} (ho : o.op = .range t x) (hx : e' x = .string s) :
    OpAt P G ρ h w e' o (.pointer (some ⟨h.next, 0, none⟩)) (h.push (.iter s 0)) := by
  refine ⟨ρ.bind h.next w.heap.size none, .pointer (some ⟨w.heap.size, 0, none⟩), { w with heap := w.heap.push (.stringIter s 0) }, H.alloc _ _ none rfl ⟨rfl, rfl⟩, Ext.alloc H _ _ none rfl rfl rfl rfl, by simp [ren, ren_new], .inl ?_⟩
  simp [execOp, ho, hx, Instr.range, run_underlying hu]
def anext (h : AH) (v : Value) : Option (Value × AH) :=
  match v with
  | .pointer (some ⟨r, 0, _⟩) => match h.get r with
    | some (.iter s pos) =>
      if pos < s.size then
        match Utf8.decode s pos with
        | (c, width) => some (.tuple #[.bool true, .int .i64 pos, .int .i32 c], h.put r (some (.iter s (pos + width))))
      else some (.tuple #[.bool false], h)
    | _ => none
  | _ => none
theorem next_ok (H : WR G ρ h w) {v v' : Value} {r : Value × AH} (hn : anext h v = some r) (hv : ren ρ v = some v') {o : Oper} {x : Operand} (ho : o.op = .next x true) (hx : e' x = v') : OpAt P G ρ h w e' o r.1 r.2 := by
  unfold anext at hn
  split at hn
  case h_2 => cases hn
  rename_i r0 sp
  obtain ⟨b, hb, hv'⟩ := ren_ptr hv
  obtain ⟨hs, hbf, hblk⟩ := renA_form hb
  simp only at hs hbf hblk
  split at hn
  case h_2 => cases hn
  rename_i s pos hg
  obtain ⟨b', y, q1, q2, q3⟩ := H.obj _ _ hg
  rw [hblk] at q1; cases q1
  cases y <;> simp only [ObjR] at q3
  obtain ⟨rfl, rfl⟩ := q3
  rename_i s pos
  have hgo : (getObj b.block).run P w = .ok (.stringIter s pos) w := by simp [getObj, Sem.run, q2]
  split at hn
  · rename_i hlt
    rw [hbf] at hv'
    have hrun : (execOp e' o).run P w = ((setObj b.block (.stringIter s (pos + (Utf8.decode s pos).2))).run P w).andThen fun _ w1 => .ok (.value (.tuple #[.bool true, .int .i64 pos, .int .i32 (Utf8.decode s pos).1])) w1 := by
      simp only [execOp, ho, hx, hv', Instr.next, Sem.run_bind, hgo, Result.andThen_ok, hlt, if_true]
      simp only [setObj, Sem.run, q2, Result.andThen_ok]
      rfl
    generalize Utf8.decode s pos = d at hn hrun
    obtain ⟨c, wd⟩ := d
    cases hn
    have hset : (setObj b.block (.stringIter s (pos + wd))).run P w = .ok () { w with heap := w.heap.setIfInBounds b.block (.stringIter s (pos + wd)) } := by simp [setObj, Sem.run, q2]
    rw [hset] at hrun
    exact ⟨ρ, .tuple #[.bool true, .int .i64 pos, .int .i32 c], { w with heap := w.heap.setIfInBounds b.block (.stringIter s (pos + wd)) }, H.set hg hblk rfl ⟨rfl, rfl⟩, Ext.set H hg rfl hblk rfl rfl rfl rfl, by simp [ren, renArr, renL], .inl hrun⟩
  · rename_i hlt
    cases hn
    refine ⟨ρ, .tuple #[.bool false], w, H, Ext.refl _ _ _, by simp [ren, renArr, renL], .inl ?_⟩
    rw [hbf] at hv'
    simp only [execOp, ho, hx, hv', Instr.next, Sem.run_bind, hgo, Result.andThen_ok, hlt, if_false]
    rfl
end
end Go.AE
namespace Go.AE
open Go
def asrc (h : AH) (sz : Nat) : Value → Option (Nat × List Value)
  | .slice (some a) n _ => (acells h a (n * sz)).map fun l => (n, l)
  | .slice none 0 _ => some (0, [])
  | .string s => if sz = 1 then some (s.size, s.data.toList.map fun b => .int .u8 b.toNat) else none
  | _ => none
section
variable {P : Program} {G : Nat} {ρ : Rho} {h : AH} {w : World} {e e' : Operand → Value}
theorem WR.of_heap (H : WR G ρ h w) {w' : World} (hw : w'.heap = w.heap) : WR G ρ h w' := ⟨fun i o q => by rw [hw]; exact H.obj i o q, H.fresh, H.inj, H.glob, H.gp⟩
theorem map_int_closed (l : List UInt8) : renL ρ (l.map fun b => Value.int .u8 b.toNat) = some (l.map fun b => Value.int .u8 b.toNat) := by
  induction l with
  | nil => simp [renL]
  | cons b l ih => simp only [List.map_cons]; exact renL_cons.2 ⟨_, _, by simp [ren], ih, rfl⟩
theorem src_ok (H : WR G ρ h w) {sz n : Nat} {x x' : Value} {news : List Value} (hs : asrc h sz x = some (n, news)) (hx : ren ρ x = some x') :
    ∃ news', renL ρ news = some news' ∧ news'.length = n * sz ∧ (∀ w' : World, (Builtin.lenOf x').run P w' = .ok n w') ∧
      (∀ m, m ≤ n → ∀ w' : World, w'.heap = w.heap → (Builtin.firstCells sz m x').run P w' = .ok (news'.take (m * sz)).toArray w') := by
  unfold asrc at hs
  split at hs
  · rename_i a k c
    obtain ⟨l, hl, hp⟩ := Option.map_eq_some_iff.1 hs
    cases hp
    obtain ⟨b, c', h1, _, rfl⟩ := ren_slice hx
    obtain ⟨l', r1, r2, r3⟩ := cells_ok H hl h1
    refine ⟨l', r1, r2, fun _ => rfl, fun m hm w' hw => ?_⟩
    have hmul : m * sz ≤ n * sz := Nat.mul_le_mul_right _ hm
    refine run_firstCells_some w' sz m b n c' (l'.take (m * sz)) (by simp; omega) fun j v hv => ?_
    have hj := (List.getElem?_eq_some_iff.1 hv).1
    simp at hj
    rw [List.getElem?_take_of_lt (by omega)] at hv
    have := r3 j v hv
    simp only [World.cell?, hw] at this ⊢
    exact this
  · rename_i c
    cases hs
    simp [ren] at hx; subst hx
    exact ⟨[], by simp [renL], by simp, fun _ => rfl, fun m hm w' _ => by simp [Builtin.firstCells]⟩
  · rename_i s
    split at hs
    case isFalse => cases hs
    rename_i hsz
    cases hs
    subst hsz
    simp [ren] at hx; subst hx
    refine ⟨s.data.toList.map fun b => .int .u8 b.toNat, map_int_closed _, by simp, fun _ => rfl, fun m hm w' _ => ?_⟩
    simp only [Builtin.firstCells, Sem.run_pure, Nat.mul_one]
    congr 1
    apply Array.toList_inj.1
    simp [ByteArray.data_extract]
  · cases hs
def srcT : TypeDesc → Bool
  | .string | .slice _ => true
  | _ => false
theorem run_append_in {t u ty el : TypeId} {d : TypeDesc} {sz n sLen sCap : Nat} {base : Addr} {x : Value} {news : List Value} (ht : P.underlying t = some (.slice el))
    (hu : P.underlying u = some d) (hd : srcT d = true) (hs : sizeT P el = some sz) (hl : ∀ w' : World, (Builtin.lenOf x).run P w' = .ok n w') (hn : (Builtin.firstCells sz n x).run P w = .ok news.toArray w) (hle : sLen + n ≤ sCap) :
    (Builtin.append_ #[t, u] ty #[.slice (some base) sLen sCap, x]).run P w = ((storeCells (base.add (sLen * sz)) news).run P w).andThen fun _ w' => .ok (.slice (some base) (sLen + n) sCap) w' := by
  cases d <;> (try (simp [srcT] at hd; done)) <;> simp [Builtin.append_, run_underlying ht, run_underlying hu, run_sizeOf hs, hl, hn, hle]
theorem run_append_in_nil {t u ty el : TypeId} {d : TypeDesc} {sz sLen sCap : Nat} {x : Value} (ht : P.underlying t = some (.slice el))
    (hu : P.underlying u = some d) (hd : srcT d = true) (hs : sizeT P el = some sz) (hl : ∀ w' : World, (Builtin.lenOf x).run P w' = .ok 0 w') (hn : (Builtin.firstCells sz 0 x).run P w = .ok #[] w) (hle : sLen ≤ sCap) :
    (Builtin.append_ #[t, u] ty #[.slice none sLen sCap, x]).run P w = .ok (.slice none sLen sCap) w := by
  cases d <;> (try (simp [srcT] at hd; done)) <;> simp [Builtin.append_, run_underlying ht, run_underlying hu, run_sizeOf hs, hl, hn, hle]
theorem run_append_new {t u ty el : TypeId} {d : TypeDesc} {i : TypeInfo} {z : Value} {sz n sLen sCap : Nat} {base : Option Addr} {x : Value} {olds news : List Value} (ht : P.underlying t = some (.slice el))
    (hu : P.underlying u = some d) (hd : srcT d = true) (hi : P.info? el = some i) (hiz : i.zero = some z) (hs : i.size = sz) (hl : ∀ w' : World, (Builtin.lenOf x).run P w' = .ok n w')
    (ho : (Builtin.firstCells sz sLen (.slice base sLen sCap)).run P w.drew = .ok olds.toArray w.drew) (hn : (Builtin.firstCells sz n x).run P w.drew = .ok news.toArray w.drew) (hlt : sCap < sLen + n)
    (h63 : sLen + n ≤ 9223372036854775807) (hfit : (sLen + n) * i.bytes ≤ 140737488355328) :
    (Builtin.append_ #[t, u] ty #[.slice base sLen sCap, x]).run P w = .ok (.slice (some ⟨w.heap.size, 0, none⟩) (sLen + n) (grownCap w (sLen + n) sCap el))
      (w.drew.alloc (.cells (olds.toArray ++ news.toArray ++ Builtin.zeroCells z.cells (grownCap w (sLen + n) sCap el - (sLen + n))) el)) := by
  have hno : ¬ (sLen + n ≤ sCap) := by omega
  have h63' : ¬ (9223372036854775807 < ((sLen : Int) + (n : Int))) := by omega
  have h48 := growslice_fits hlt hfit
  have h48' : ¬ (281474976710656 < Builtin.nextslicecap (sLen + n) sCap * i.bytes) := by omega
  subst hs
  cases d <;> (try (simp [srcT] at hd; done)) <;>
    (simp [Builtin.append_, run_underlying ht, run_underlying hu, sizeOf, typeInfo, zeroValue, hi, hiz, hl, hno, h63', h48', Question.forced, ho, hn, newRow, grownCap]
     try (congr 2; apply Array.ext'; simp [List.append_assoc]))
end
end Go.AE
