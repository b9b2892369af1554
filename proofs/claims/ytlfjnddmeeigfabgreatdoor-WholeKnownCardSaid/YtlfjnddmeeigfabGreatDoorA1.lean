import Derived.Orders
namespace Go.AE
open Go

structure Rho where
  blk : Nat → Option Nat
  cap : Nat → Option Nat

def renA (ρ : Rho) (a : Addr) : Option Addr :=
  match a.spot, ρ.blk a.block with
  | none, some b => some ⟨b, a.off, none⟩
  | _, _ => none

def renC (ρ : Rho) (id c : Nat) : Option Nat :=
  match ρ.cap id with
  | none => some c
  | some C => if c ≤ C then some (C - c) else none

def renF (ρ : Rho) : Fn → Option Fn
  | .yield l => (ρ.blk l).map .yield
  | .func f => some (.func f)
  | .method n => some (.method n)
  | .methodOf t n => some (.methodOf t n)
  | .via t p f b => some (.via t p f b)

mutual
def ren (ρ : Rho) : Value → Option Value
  | .bool b => some (.bool b)
  | .int k n => some (.int k n)
  | .float k b => some (.float k b)
  | .complex k a b => some (.complex k a b)
  | .string s => some (.string s)
  | .pointer none => some (.pointer none)
  | .pointer (some a) => (renA ρ a).map fun b => .pointer (some b)
  | .slice none n c => some (.slice none n c)
  | .slice (some a) n c => (renA ρ a).bind fun b => (renC ρ a.block c).map fun c' => .slice (some b) n c'
  | .map none => some (.map none)
  | .map (some r) => (ρ.blk r).map fun b => .map (some b)
  | .chan none => some (.chan none)
  | .chan (some _) => none
  | .func fn first cap => (renF ρ fn).bind fun fn' => (renArr ρ first).bind fun f' => (renArr ρ cap).map fun c' => .func fn' f' c'
  | .nilFunc => some .nilFunc
  | .iface t v => (ren ρ v).map fun v' => .iface t v'
  | .nilIface => some .nilIface
  | .agg cs => (renArr ρ cs).map .agg
  | .tuple cs => (renArr ρ cs).map .tuple
def renArr (ρ : Rho) : Array Value → Option (Array Value)
  | ⟨l⟩ => (renL ρ l).map fun l' => ⟨l'⟩
def renL (ρ : Rho) : List Value → Option (List Value)
  | [] => some []
  | v :: l => (ren ρ v).bind fun v' => (renL ρ l).map fun l' => v' :: l'
end

def Rho.le (ρ σ : Rho) : Prop := ∀ i b, ρ.blk i = some b → σ.blk i = some b ∧ σ.cap i = ρ.cap i

theorem Rho.le_refl (ρ : Rho) : ρ.le ρ := fun _ _ h => ⟨h, rfl⟩
theorem Rho.le_trans {ρ σ τ : Rho} (h : ρ.le σ) (h' : σ.le τ) : ρ.le τ := fun i b hb =>
  let ⟨h1, h2⟩ := h i b hb; let ⟨h3, h4⟩ := h' i b h1; ⟨h3, h4.trans h2⟩

theorem renA_mono {ρ σ : Rho} (h : ρ.le σ) {a b : Addr} (e : renA ρ a = some b) : renA σ a = some b := by
  unfold renA at *
  split at e
  · rename_i b' h1 h2
    simp only [h1, (h _ _ h2).1]; exact e
  · cases e
theorem renC_mono {ρ σ : Rho} (h : ρ.le σ) {i b c d : Nat} (hb : ρ.blk i = some b) (e : renC ρ i c = some d) : renC σ i c = some d := by
  unfold renC at *
  rw [(h _ _ hb).2]; exact e
theorem renA_blk {ρ : Rho} {a b : Addr} (e : renA ρ a = some b) : ρ.blk a.block = some b.block := by
  unfold renA at e
  split at e
  · rename_i b' h1 h2
    simp at e; subst e; exact h2
  · cases e
theorem renF_mono {ρ σ : Rho} (h : ρ.le σ) {f g : Fn} (e : renF ρ f = some g) : renF σ f = some g := by
  cases f <;> simp only [renF] at * <;> try exact e
  rename_i l
  cases hb : ρ.blk l with
  | none => simp [hb] at e
  | some b => rw [hb] at e; rw [(h _ _ hb).1]; exact e

mutual
theorem ren_mono {ρ σ : Rho} (h : ρ.le σ) : ∀ (v r : Value), ren ρ v = some r → ren σ v = some r
  | .bool b, r, e => by simp only [ren] at *; exact e
  | .int k n, r, e => by simp only [ren] at *; exact e
  | .float k n, r, e => by simp only [ren] at *; exact e
  | .complex k n _, r, e => by simp only [ren] at *; exact e
  | .string b, r, e => by simp only [ren] at *; exact e
  | .pointer none, r, e => by simp only [ren] at *; exact e
  | .pointer (some a), r, e => by
    simp only [ren, Option.map_eq_some_iff] at *
    obtain ⟨b, hb, e⟩ := e
    exact ⟨b, renA_mono h hb, e⟩
  | .slice none _ _, r, e => by simp only [ren] at *; exact e
  | .slice (some a) _ _, r, e => by
    simp only [ren, Option.map_eq_some_iff, Option.bind_eq_some_iff] at *
    obtain ⟨b, hb, c, hc, e⟩ := e
    exact ⟨b, renA_mono h hb, c, renC_mono h (renA_blk hb) hc, e⟩
  | .map none, r, e => by simp only [ren] at *; exact e
  | .map (some l), r, e => by
    simp only [ren, Option.map_eq_some_iff] at *
    obtain ⟨b, hb, e⟩ := e
    exact ⟨b, (h _ _ hb).1, e⟩
  | .chan none, r, e => by simp only [ren] at *; exact e
  | .chan (some _), r, e => by simp [ren] at e
  | .func fn first cap, r, e => by
    simp only [ren, Option.map_eq_some_iff, Option.bind_eq_some_iff] at *
    obtain ⟨b, hb, c, hc, d, hd, e⟩ := e
    exact ⟨b, renF_mono h hb, c, renArr_mono h _ _ hc, d, renArr_mono h _ _ hd, e⟩
  | .nilFunc, r, e => by simp only [ren] at *; exact e
  | .iface t v, r, e => by
    simp only [ren, Option.map_eq_some_iff] at *
    obtain ⟨b, hb, e⟩ := e
    exact ⟨b, ren_mono h _ _ hb, e⟩
  | .nilIface, r, e => by simp only [ren] at *; exact e
  | .agg cs, r, e => by
    simp only [ren, Option.map_eq_some_iff] at *
    obtain ⟨b, hb, e⟩ := e
    exact ⟨b, renArr_mono h _ _ hb, e⟩
  | .tuple cs, r, e => by
    simp only [ren, Option.map_eq_some_iff] at *
    obtain ⟨b, hb, e⟩ := e
    exact ⟨b, renArr_mono h _ _ hb, e⟩
theorem renArr_mono {ρ σ : Rho} (h : ρ.le σ) : ∀ (v r : Array Value), renArr ρ v = some r → renArr σ v = some r
  | ⟨l⟩, r, e => by
    simp only [renArr, Option.map_eq_some_iff] at *
    obtain ⟨b, hb, e⟩ := e
    exact ⟨b, renL_mono h _ _ hb, e⟩
theorem renL_mono {ρ σ : Rho} (h : ρ.le σ) : ∀ (v r : List Value), renL ρ v = some r → renL σ v = some r
  | [], r, e => by simp only [renL] at *; exact e
  | v :: l, r, e => by
    simp only [renL, Option.map_eq_some_iff, Option.bind_eq_some_iff] at *
    obtain ⟨b, hb, c, hc, e⟩ := e
    exact ⟨b, ren_mono h _ _ hb, c, renL_mono h _ _ hc, e⟩
end
end Go.AE
