import Derived.Test.YtlfjnddmeeigfabGreatDoorA7
import Derived.Laws.Cells
import Derived.Laws.Append
namespace Go.AE
open Go

/-- A cell of the abstract heap. -/
def acell (h : AH) (a : Addr) : Option Value :=
  match a.spot, h.get a.block with
  | none, some (.cells c _ _ _) => c[a.off]?
  | _, _ => none

/-- n cells from a on. -/
def acells (h : AH) (a : Addr) (n : Nat) : Option (List Value) :=
  match a.spot, h.get a.block with
  | none, some (.cells c _ _ _) => if a.off + n ≤ c.length then some ((c.drop a.off).take n) else none
  | _, _ => none

def aload (P : Program) (h : AH) (t : TypeId) (a : Addr) : Option Value :=
  match aggT P t, sizeT P t with
  | some true, some n => (acells h a n).map fun l => .agg ⟨l⟩
  | some false, _ => (acells h a 1).bind (·[0]?)
  | _, _ => none

def loadN (P : Program) (t : TypeId) : Nat :=
  match aggT P t, sizeT P t with
  | some true, some n => n
  | _, _ => 1

section
variable {P : Program} {G : Nat} {ρ : Rho} {h : AH} {w : World} {e e' : Operand → Value}

theorem renA_form {a b : Addr} (hb : renA ρ a = some b) : a.spot = none ∧ b = ⟨b.block, a.off, none⟩ ∧ ρ.blk a.block = some b.block := by
  unfold renA at hb
  split at hb
  · rename_i b' h1 h2
    cases hb
    exact ⟨h1, rfl, h2⟩
  · cases hb

theorem cells_ok (H : WR G ρ h w) {a b : Addr} {n : Nat} {l : List Value} (hl : acells h a n = some l) (hb : renA ρ a = some b) :
    ∃ l', renL ρ l = some l' ∧ l'.length = n ∧ ∀ j v, l'[j]? = some v → w.cell? (b.add j) = some v := by
  obtain ⟨hs, hbf, hblk⟩ := renA_form hb
  unfold acells at hl
  rw [hs] at hl
  split at hl
  case h_2 => cases hl
  rename_i c t o ro _ hg
  split at hl
  case isFalse => cases hl
  rename_i hle
  cases hl
  obtain ⟨b', x, h1, h2, h3⟩ := H.obj _ _ hg
  rw [hblk] at h1; cases h1
  cases x <;> simp only [ObjR] at h3
  rename_i arr t' fz
  obtain ⟨_, ⟨c', tail, q1, q2, _⟩, _⟩ := h3
  have hlen := renL_length q2
  refine ⟨(c'.drop a.off).take n, renL_take n (renL_drop a.off q2), by simp; omega, fun j v hv => ?_⟩
  have hj : j < n := by
    have := (List.getElem?_eq_some_iff.1 hv).1
    simp at this; omega
  have hcell : c'[a.off + j]? = some v := by
    rw [List.getElem?_take_of_lt hj, List.getElem?_drop] at hv
    exact hv
  have harr : arr[a.off + j]? = some v := by
    have : arr.toList[a.off + j]? = some v := by
      rw [q1, List.getElem?_append_left (by omega)]; exact hcell
    simpa using this
  rw [hbf]
  have hadd : Addr.add ⟨b.block, a.off, none⟩ j = ⟨b.block, a.off + j, none⟩ := Addr.add_lit _ _ _
  rw [hadd]
  simp [World.cell?, h2, harr]

theorem load_ok (H : WR G ρ h w) {t : TypeId} {a b : Addr} {v : Value} (hv : aload P h t a = some v) (hb : renA ρ a = some b) :
    ∃ v', ren ρ v = some v' ∧ ∀ w', (∀ j, j < loadN P t → w'.cell? (b.add j) = w.cell? (b.add j)) → (loadVar t b).run P w' = .ok v' w' := by
  unfold aload at hv
  split at hv
  · rename_i n h1 h2
    obtain ⟨l, hl, rfl⟩ := Option.map_eq_some_iff.1 hv
    obtain ⟨l', r1, r2, r3⟩ := cells_ok H hl hb
    refine ⟨.agg ⟨l'⟩, by simp [ren, renArr, r1], fun w' hw' => ?_⟩
    have hn : loadN P t = n := by simp [loadN, h1, h2]
    have := run_loadCells_list (P := P) (w := w') b l' fun j v hv => by
      have hj := (List.getElem?_eq_some_iff.1 hv).1
      rw [hw' j (by omega)]
      exact r3 j v hv
    rw [r2] at this
    simp only [loadVar, Sem.run_bind, run_isAgg h1, run_sizeOf h2, Result.andThen_ok, if_true, this]
    rfl
  · rename_i h1
    obtain ⟨l, hl, hl0⟩ := Option.bind_eq_some_iff.1 hv
    obtain ⟨l', r1, r2, r3⟩ := cells_ok H hl hb
    obtain ⟨v', s1, s2⟩ := renL_get 0 r1 v hl0
    refine ⟨v', s2, fun w' hw' => ?_⟩
    have h0 := r3 0 v' s1
    have hn : 0 < loadN P t := by unfold loadN; rw [h1]; simp
    rw [← hw' 0 hn, Addr.add_zero'] at h0
    simp only [loadVar, Sem.run_bind, run_isAgg h1, Result.andThen_ok, Bool.false_eq_true, if_false, run_load, h0]
  · cases hv

/-! ### stores -/
def lspl : List Value → Nat → List Value → List Value
  | l, _, [] => l
  | l, k, v :: vs => lspl (l.set k v) (k + 1) vs
def spl : Array Value → Nat → List Value → Array Value
  | a, _, [] => a
  | a, k, v :: vs => spl (a.setIfInBounds k v) (k + 1) vs

theorem spl_toList : ∀ (vs : List Value) (a : Array Value) (k : Nat), (spl a k vs).toList = lspl a.toList k vs
  | [], _, _ => rfl
  | v :: vs, a, k => by simp [spl, lspl, spl_toList vs]
theorem lspl_length : ∀ (vs l : List Value) (k : Nat), (lspl l k vs).length = l.length
  | [], _, _ => rfl
  | v :: vs, l, k => by simp [lspl, lspl_length vs]
theorem spl_size (vs : List Value) (a : Array Value) (k : Nat) : (spl a k vs).size = a.size := by
  have := congrArg List.length (spl_toList vs a k)
  simpa [lspl_length] using this
theorem lspl_append : ∀ (vs l tail : List Value) (k : Nat), k + vs.length ≤ l.length → lspl (l ++ tail) k vs = lspl l k vs ++ tail
  | [], _, _, _, _ => rfl
  | v :: vs, l, tail, k, h => by
    simp only [List.length_cons] at h
    simp only [lspl]
    rw [List.set_append_left _ _ (by omega), lspl_append vs _ _ _ (by simp; omega)]
theorem lspl_ren : ∀ {vs vs' l l' : List Value} (k : Nat), renL ρ vs = some vs' → renL ρ l = some l' → renL ρ (lspl l k vs) = some (lspl l' k vs')
  | [], vs', l, l', k, h1, h2 => by simp [renL] at h1; subst h1; exact h2
  | v :: vs, vs', l, l', k, h1, h2 => by
    obtain ⟨v', vs'', q1, q2, rfl⟩ := renL_cons.1 h1
    simp only [lspl]
    exact lspl_ren (k + 1) q2 (renL_set q1 k h2)

theorem oneCell_ren : ∀ (v v' : Value), ren ρ v = some v' → v.oneCell' = true → v'.oneCell' = true
  | .agg cs, v', q, h1 | .tuple cs, v', q, h1 => by simp [Value.oneCell'] at h1
  | .bool _, v', q, _ | .int _ _, v', q, _ | .float _ _, v', q, _ | .complex _ _ _, v', q, _ | .string _, v', q, _ | .pointer none, v', q, _ | .slice none _ _, v', q, _ | .map none, v', q, _ | .chan none, v', q, _ | .nilFunc, v', q, _ | .nilIface, v', q, _ => by
    simp [ren] at q
    subst q
    rfl
  | .pointer (some a), v', q, _ => by obtain ⟨b, _, rfl⟩ := ren_ptr q; rfl
  | .slice (some a) n c, v', q, _ => by obtain ⟨b, c', _, _, rfl⟩ := ren_slice q; rfl
  | .map (some r), v', q, _ => by
    simp only [ren, Option.map_eq_some_iff] at q
    obtain ⟨b, _, rfl⟩ := q; rfl
  | .chan (some r), v', q, _ => by simp [ren] at q
  | .func fn f c, v', q, _ => by
    simp only [ren, Option.bind_eq_some_iff, Option.map_eq_some_iff] at q
    obtain ⟨fn', _, f', _, c', _, rfl⟩ := q; rfl
  | .iface t u, v', q, _ => by obtain ⟨u', _, rfl⟩ := ren_iface q; rfl

theorem setCell_heap {b off : Nat} {arr : Array Value} {T : TypeId} {fz : Nat × Nat} (hg : w.heap[b]? = some (.cells arr T fz)) (v : Value) :
    w.setCell ⟨b, off, none⟩ v = { w with heap := w.heap.setIfInBounds b (.cells (arr.setIfInBounds off v) T fz) } := by
  have hlt := (Array.getElem?_eq_some_iff.1 hg).1
  have hge := (Array.getElem?_eq_some_iff.1 hg).2
  have : (w.heap.modify b fun | .cells c elem frozen => .cells (c.setIfInBounds off v) elem frozen | o => o) = w.heap.setIfInBounds b (.cells (arr.setIfInBounds off v) T fz) := by
    apply Array.ext_getElem?
    intro i
    rw [Array.getElem?_modify, Array.getElem?_setIfInBounds]
    by_cases hi : b = i
    · subst hi; simp [hlt, hge]
    · simp [hi]
  unfold World.setCell
  simp only [Option.isSome_none, Bool.false_eq_true, if_false]
  rw [← this]
  rfl

theorem setIf_self {b : Nat} {x : Obj} {hp : Array Obj} (hg : hp[b]? = some x) : hp.setIfInBounds b x = hp := by
  have hlt := (Array.getElem?_eq_some_iff.1 hg).1
  have hge := (Array.getElem?_eq_some_iff.1 hg).2
  apply Array.ext_getElem?
  intro i
  rw [Array.getElem?_setIfInBounds]
  by_cases hi : b = i
  · subst hi; simp [hlt, hge]
  · simp [hi]

theorem run_stores (P : Program) {b : Nat} {T : TypeId} {fz : Nat × Nat} : ∀ (vs : List Value) (off i : Nat) (arr : Array Value) (w : World), w.heap[b]? = some (.cells arr T fz) → off + i + vs.length ≤ arr.size →
    (fz = (0, 0) ∨ arr.size ≤ fz.1) → (∀ v ∈ vs, v.oneCell' = true) →
    (storeCells ⟨b, off, none⟩ vs i).run P w = .ok () { w with heap := w.heap.setIfInBounds b (.cells (spl arr (off + i) vs) T fz) }
  | [], off, i, arr, w, hg, _, _, _ => by simp [storeCells, spl, setIf_self hg]
  | v :: vs, off, i, arr, w, hg, hle, hz, ho => by
    simp only [List.length_cons] at hle
    have hadd : Addr.add ⟨b, off, none⟩ i = ⟨b, off + i, none⟩ := Addr.add_lit _ _ _
    have hcell : w.cell? ⟨b, off + i, none⟩ = some arr[off + i] := by
      simp [World.cell?, hg]
    have hfr : w.frozen? ⟨b, off + i, none⟩ = false := by
      obtain ⟨lo, hi⟩ := fz
      simp only [World.frozen?, hg]
      rcases hz with hz | hz
      · simp at hz; simp [hz]
      · simp at hz ⊢; omega
    simp only [storeCells, Sem.run_bind, hadd, run_store P w _ v .plain (ho v (by simp)), hcell, hfr, Bool.false_eq_true, if_false, Result.andThen_ok]
    rw [setCell_heap hg]
    have hlt := (Array.getElem?_eq_some_iff.1 hg).1
    have := run_stores P (b := b) (T := T) (fz := fz) vs off (i + 1) (arr.setIfInBounds (off + i) v) { w with heap := w.heap.setIfInBounds b (.cells (arr.setIfInBounds (off + i) v) T fz) }
      (by simp [hlt]) (by simp; omega) (by simpa using hz) fun u hu => ho u (by simp [hu])
    rw [this]
    simp only [spl, Nat.add_assoc]
    congr 2
    apply Array.ext_getElem?
    intro k
    simp only [Array.getElem?_setIfInBounds]
    by_cases hk : b = k
    · subst hk; simp [hlt]
    · simp [hk]
end
end Go.AE
