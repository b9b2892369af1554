import Derived.Test.YtlfjnddmeeigfabGreatDoorA5
namespace Go.AE
open Go

section
variable {P : Program} {G : Nat} {ρ : Rho} {h : AH} {w : World} {e e' : Operand → Value}

/-- What 'aptr_ok' says of one operation. -/
def PureAt (P : Program) (ρ : Rho) (e' : Operand → Value) (o : Oper) (v : Value) : Prop :=
  ∃ v', ren ρ v = some v' ∧ ∀ w', (execOp e' o).run P w' = .ok (.value v') w'

theorem ren_cells (ρ : Rho) : ∀ v v' : Value, ren ρ v = some v' → renArr ρ v.cells = some v'.cells
  | .agg cs, v', q => by obtain ⟨cs', q1, rfl⟩ := ren_agg q; exact q1
  | .bool _, v', q | .int _ _, v', q | .float _ _, v', q | .complex _ _ _, v', q | .string _, v', q | .pointer none, v', q | .slice none _ _, v', q | .map none, v', q | .chan none, v', q | .nilFunc, v', q | .nilIface, v', q => by
    have q0 := q
    simp [ren] at q
    subst q
    simp [Value.cells, renArr, renL, q0]
  | .pointer (some a), v', q => by
    have q0 := q
    obtain ⟨b, _, rfl⟩ := ren_ptr q
    simp [Value.cells, renArr, renL, q0]
  | .slice (some a) n c, v', q => by
    have q0 := q
    obtain ⟨b, c', _, _, rfl⟩ := ren_slice q
    simp [Value.cells, renArr, renL, q0]
  | .map (some r), v', q => by
    have q0 := q
    simp only [ren, Option.map_eq_some_iff] at q
    obtain ⟨b, _, rfl⟩ := q
    simp [Value.cells, renArr, renL, q0]
  | .chan (some r), v', q => by simp [ren] at q
  | .func fn f c, v', q => by
    have q0 := q
    simp only [ren, Option.bind_eq_some_iff, Option.map_eq_some_iff] at q
    obtain ⟨fn', _, f', _, c', _, rfl⟩ := q
    simp [Value.cells, renArr, renL, q0]
  | .iface t u, v', q => by
    have q0 := q
    obtain ⟨u', _, rfl⟩ := ren_iface q
    simp [Value.cells, renArr, renL, q0]
  | .tuple vs, v', q => by
    have q0 := q
    obtain ⟨u', _, rfl⟩ := ren_tuple q
    simp [Value.cells, renArr, renL, q0]

theorem fill_ren {place : Nat → Option (Nat × Nat)} : ∀ {ps : List (Nat × Value)} {ps' : List (Nat × Value)} {cells cells' out : Array Value},
    ps'.map (·.1) = ps.map (·.1) → renL ρ (ps.map (·.2)) = some (ps'.map (·.2)) → renArr ρ cells = some cells' →
    Instr.fill place cells ps = some out → ∃ out', Instr.fill place cells' ps' = some out' ∧ renArr ρ out = some out'
  | [], ps', cells, cells', out, h1, h2, h3, h4 => by
    cases ps' with
    | nil => simp [Instr.fill] at h4 ⊢; subst h4; exact h3
    | cons x xs => simp at h1
  | (i, v) :: ps, ps', cells, cells', out, h1, h2, h3, h4 => by
    cases ps' with
    | nil => simp at h1
    | cons x ps' =>
      obtain ⟨i', v'⟩ := x
      simp only [List.map_cons, List.cons.injEq] at h1
      obtain ⟨rfl, h1⟩ := h1
      simp only [List.map_cons] at h2
      obtain ⟨v'', l', e1, e2, e3⟩ := renL_cons.1 h2
      injection e3 with e3 e4
      subst e3; subst e4
      simp only [Instr.fill] at h4 ⊢
      cases hp : place i' with
      | none => simp [hp] at h4
      | some os =>
        obtain ⟨off, size⟩ := os
        simp only [hp] at h4 ⊢
        have hcells : renArr ρ v.cells = some v'.cells := ren_cells ρ v v' e1
        have hsz := renArr_size hcells
        have hcz := renArr_size h3
        rw [hsz, hcz]
        split at h4
        · cases h4
        · rename_i hcond
          rw [if_neg hcond]
          refine fill_ren h1 e2 ?_ h4
          -- the fold
          have key : ∀ (l l' : List Value) (k : Nat) (a a' : Array Value), renL ρ l = some l' → renArr ρ a = some a' →
              renArr ρ ((l.zipIdx k).foldl (fun cs (p : Value × Nat) => cs.setIfInBounds (off + p.2) p.1) a) = some ((l'.zipIdx k).foldl (fun cs (p : Value × Nat) => cs.setIfInBounds (off + p.2) p.1) a') := by
            intro l
            induction l with
            | nil => intro l' k a a' hl ha; simp [renL] at hl; subst hl; exact ha
            | cons x l ih =>
              intro l' k a a' hl ha
              obtain ⟨x', l'', q1, q2, rfl⟩ := renL_cons.1 hl
              simp only [List.zipIdx_cons, List.foldl_cons]
              exact ih _ _ _ _ q2 (renArr_set q1 _ ha)
          have := key v.cells.toList v'.cells.toList 0 cells cells' (renArr_iff.1 hcells) h3
          rw [← Array.foldl_toList, ← Array.foldl_toList, Array.toList_zipIdx, Array.toList_zipIdx]
          exact this

theorem run_pick {c a b : Operand} {t : Bool} (hc : e' c = .bool t) (w' : World) : (do pure (Next.value (if ← asBool (e' c) then e' a else e' b)) : Sem Next).run P w' = .ok (.value (if t then e' a else e' b)) w' := by
  rw [hc]; simp [asBool]

end
end Go.AE
