import Derived.Test.YtlfjnddmeeigfabGreatDoorA21
import Derived.OrdersHeld
namespace Go.AE
open Go

section
variable {P : Program} {ops : Array Oper} {Q : Exit → Act → World → Prop} {md : Region.Mode}

abbrev Watch := (World → Prop) × (Nat → Bool)

/-- Whatever order is picked, and behind each operation that is carried out what was taken early stands. -/
def wpX (P : Program) (md : Region.Mode) (ops : Array Oper) (Q : Exit → Act → World → Prop) : List Watch → Nat → Array Bool → Act → World → Prop
  | _, 0, listed, a, w => Region.ready md ops listed = [] ∧ Q .normal a w
  | Γ, fuel + 1, listed, a, w =>
    (Region.ready md ops listed = [] → Q .normal a w) ∧
    ∀ i ∈ Region.ready md ops listed, wpOp P ops Q i (fun a' w' => (∀ g ∈ Γ, g.2 i = true → g.1 w') ∧ wpX P md ops Q (Γ.filter (·.2 i)) fuel (listed.setIfInBounds i true) a' w') a w

theorem wpAny_of_X : ∀ (fuel : Nat) (Γ : List Watch) (listed : Array Bool) (a : Act) (w : World), wpX P md ops Q Γ fuel listed a w → wpAny P md ops Q fuel listed a w
  | 0, _, _, _, _, h => h
  | fuel + 1, _, _, _, _, h => ⟨h.1, fun i hi => wpOp_mono (fun a' w' h' => wpAny_of_X fuel _ _ a' w' h'.2) (h.2 i hi)⟩

theorem wpX_imp : ∀ (fuel : Nat) (Γ Γ' : List Watch) (listed : Array Bool) (a : Act) (w : World), (∀ g ∈ Γ', g ∈ Γ ∨ ∀ w, g.1 w) → wpX P md ops Q Γ fuel listed a w → wpX P md ops Q Γ' fuel listed a w
  | 0, _, _, _, _, _, _, h => h
  | fuel + 1, Γ, Γ', _, _, _, hs, h => ⟨h.1, fun i hi => wpOp_mono (fun a' w' h' => ⟨fun g hg hgi => (hs g hg).elim (fun q => h'.1 g q hgi) (fun q => q w'),
      wpX_imp fuel _ _ _ a' w' (fun g hg => by
        obtain ⟨h1, h2⟩ := List.mem_filter.1 hg
        exact (hs g h1).imp (fun q => List.mem_filter.2 ⟨q, h2⟩) id) h'.2⟩) (h.2 i hi)⟩

theorem wpX_first {S : World → Prop} {nb : Nat → Bool} {i : Nat} {oi : Oper} {v : Value} (hi : ops[i]? = some oi) (hsel : ∀ (j : Nat) (o : Oper) cs b, ops[j]? = some o → o.op ≠ .select cs b)
    (hQ : ∀ c a w, Q (.panic c) (a.put oi.dst v) w → Q (.panic c) a w) :
    ∀ (fuel : Nat) (Γ : List Watch) (listed : Array Bool) (a : Act) (w : World),
      (∀ j oj, ops[j]? = some oj → j ≠ i → listed.getD j true = false → nb j = true → oi.apart ops oj = true) →
      (∀ j oj, ops[j]? = some oj → j ≠ i → listed.getD j true = false → nb j = false → ∃ e ∈ oj.after, Region.binds md e = true ∧ (e.on = i ∨ (listed.getD e.on true = false ∧ nb e.on = false))) →
      i ∈ Region.ready md ops listed → YieldsIf P ops S oi v a → S w → (∀ g ∈ Γ, g.1 w) →
      wpX P md ops Q ((S, nb) :: Γ) fuel (listed.setIfInBounds i true) (a.put oi.dst v) w → wpX P md ops Q Γ (fuel + 1) listed a w := by
  intro fuel
  induction fuel with
  | zero =>
    intro Γ listed a w _ _ hr hy hS hΓ H
    refine ⟨fun h => (by rw [h] at hr; cases hr), fun j hj => ?_⟩
    by_cases hji : j = i
    · subst hji
      exact hy.wpOp hi hS ⟨fun g hg _ => hΓ g hg, wpX_imp _ _ _ _ _ _ (fun g hg => .inl (List.mem_cons_of_mem _ (List.mem_filter.1 hg).1)) H⟩
    · have := ready_mono hj hji
      rw [H.1] at this
      cases this
  | succ fuel ih =>
    intro Γ listed a w hap hcl hr hy hS hΓ H
    refine ⟨fun h => (by rw [h] at hr; cases hr), fun j hj => ?_⟩
    by_cases hji : j = i
    · subst hji
      exact hy.wpOp hi hS ⟨fun g hg _ => hΓ g hg, wpX_imp _ _ _ _ _ _ (fun g hg => .inl (List.mem_cons_of_mem _ (List.mem_filter.1 hg).1)) H⟩
    · have h1 := H.2 j (ready_mono hj hji)
      obtain ⟨hjun, oj, hoj, hall⟩ := mem_ready.1 hj
      have hnb : nb j = true := by
        cases q : nb j with
        | true => rfl
        | false =>
          exfalso
          obtain ⟨e, he, hb, hx⟩ := hcl j oj hoj hji hjun q
          have hl := hall e he hb
          rcases hx with rfl | ⟨hx, _⟩
          · have h0 := (mem_ready.1 hr).1
            rcases Nat.lt_or_ge e.on listed.size with h' | h'
            · simp [h'] at hl h0; rw [h0] at hl; cases hl
            · simp [Array.getElem?_eq_none h'] at hl
          · rcases Nat.lt_or_ge e.on listed.size with h' | h'
            · simp [h'] at hl hx; rw [hx] at hl; cases hl
            · simp [Array.getElem?_eq_none h'] at hl
      have h2 := wpOp_putIf hoj (hap j oj hoj hji hjun hnb) (fun cs b => hsel i oi cs b hi) (fun cs b => hsel j oj cs b hoj) hQ hy h1
      have un : ∀ k, (listed.setIfInBounds j true).getD k true = false → listed.getD k true = false := fun k hun => by
        by_cases hjk : j = k
        · subst hjk; exact hjun
        · rw [getD_set_ne true hjk] at hun; exact hun
      have hcl' : ∀ k ok, ops[k]? = some ok → k ≠ i → (listed.setIfInBounds j true).getD k true = false → nb k = false →
          ∃ e ∈ ok.after, Region.binds md e = true ∧ (e.on = i ∨ ((listed.setIfInBounds j true).getD e.on true = false ∧ nb e.on = false)) := fun k ok hk hki hun hnk => by
        obtain ⟨e, he, hb, hx⟩ := hcl k ok hk hki (un k hun) hnk
        refine ⟨e, he, hb, hx.imp id fun ⟨p, q⟩ => ⟨?_, q⟩⟩
        have : j ≠ e.on := fun q' => by rw [← q', hnb] at q; cases q
        rw [getD_set_ne true this]; exact p
      have hfl : ((S, nb) :: Γ).filter (fun g : Watch => g.2 j) = (S, nb) :: Γ.filter (fun g : Watch => g.2 j) := by
        simp [hnb]
      rw [hfl] at h2
      refine wpOp_mono (fun a' w' h3 => ⟨fun g hg hgi => h3.2.1 g (List.mem_cons_of_mem _ hg) hgi, ih (Γ.filter (fun g : Watch => g.2 j)) (listed.setIfInBounds j true) a' w' (fun k ok hk hki hun hn => hap k ok hk hki (un k hun) hn) hcl' (ready_mono hr (Ne.symm hji)) h3.1 (h3.2.1 (S, nb) (List.mem_cons_self ..) hnb)
        (fun g hg => h3.2.1 g (List.mem_cons_of_mem _ (List.mem_filter.1 hg).1) (List.mem_filter.1 hg).2) ?_⟩) h2
      rw [Array.setIfInBounds_comm _ _ hji]
      exact h3.2.2
end
end Go.AE
