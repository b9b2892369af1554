import Derived.Test.YtlfjnddmeeigfabGreatDoorA22
namespace Go.AE
open Go

section
variable {P : Program} {G : Nat} {ρ : Rho} {h : AH} {w : World}

/-- A block under a number that was kept. -/
theorem WR.allocAt {w' : World} (H : WR G ρ h w) (r : Nat) (hr : r < h.next) (hn : ρ.blk r = none) (hg : h.get r = none) (o : AObj) (x : Obj) (c : Option Nat) (hw : w'.heap = w.heap.push x)
    (hx : ObjR (ρ.bind r w.heap.size c) r o x) : WR G (ρ.bind r w.heap.size c) (h.put r (some o)) w' := by
  have hle := Rho.le_bind hn w.heap.size c
  refine ⟨fun i p e => ?_, fun i hi => ?_, fun i j p q b e1 e2 b1 b2 => ?_, fun g hgG => ?_, H.gp⟩
  · rw [AH.get_put] at e
    by_cases hi : i = r
    · subst hi
      simp at e; subst e
      exact ⟨w.heap.size, x, by simp [Rho.bind], by rw [hw]; simp, hx⟩
    · rw [if_neg hi] at e
      obtain ⟨b, y, h1, h2, h3⟩ := H.obj i p e
      refine ⟨b, y, (hle _ _ h1).1, ?_, h3.mono hle h1⟩
      have hb := (Array.getElem?_eq_some_iff.1 h2).1
      rw [hw, Array.getElem?_push, if_neg (Nat.ne_of_lt hb), h2]
  · have hi' : h.next ≤ i := hi
    have h2 : i ≠ r := by omega
    simp only [Rho.bind, h2, if_false]
    exact H.fresh i hi'
  · rw [AH.get_put] at e1 e2
    have old : ∀ k s, h.get k = some s → (ρ.bind r w.heap.size c).blk k = some b → k ≠ r → b < w.heap.size := fun k s hs hb hk => by
      simp only [Rho.bind, hk, if_false] at hb
      exact H.lt hs hb
    by_cases hi : i = r <;> by_cases hj : j = r
    · rw [hi, hj]
    · exfalso
      rw [if_neg hj] at e2
      have := old j q e2 b2 hj
      simp only [Rho.bind, hi, if_true] at b1
      injection b1 with b1
      omega
    · exfalso
      rw [if_neg hi] at e1
      have := old i p e1 b1 hi
      simp only [Rho.bind, hj, if_true] at b2
      injection b2 with b2
      omega
    · rw [if_neg hi] at e1
      rw [if_neg hj] at e2
      simp only [Rho.bind, hi, hj, if_false] at b1 b2
      exact H.inj i j p q b e1 e2 b1 b2
  · have hgr : g ≠ r := by
      rintro rfl
      rw [(H.glob g hgG).1] at hn
      cases hn
    simp only [Rho.bind, hgr, if_false]
    exact H.glob g hgG

theorem Ext.allocAt {w' : World} (_H : WR G ρ h w) (r base : Nat) (hr : r < h.next) (hb : base ≤ r) (hn : ρ.blk r = none) (o : AObj) (x : Obj) (c : Option Nat) (hw : w'.heap = w.heap.push x) (ht : w'.tape = w.tape) (ho : w'.os = w.os) (hu : w'.output = w.output) :
    Ext ρ { h with next := base } w (ρ.bind r w.heap.size c) (h.put r (some o)) w' where
  le := Rho.le_bind hn _ _
  low := fun i hi => by have hi' : i < base := hi
                        have : i ≠ r := by omega
                        simp [Rho.bind, this]
  next := by simp; omega
  size := by rw [hw]; simp
  pres := fun b hb' _ => by rw [hw, Array.getElem?_push, if_neg (Nat.ne_of_lt hb')]
  shrink := fun b hb' ⟨i, p, e, q, s⟩ => by
    rw [AH.get_put] at e
    by_cases hi : i = r
    · simp only [Rho.bind, hi, if_true] at s
      injection s with s
      omega
    · rw [if_neg hi] at e
      simp only [Rho.bind, hi, if_false] at s
      exact ⟨i, p, e, q, s⟩
  tape := ht
  os := ho
  output := hu

theorem Ext.cast {ρ0 : Rho} {h0 : AH} {w0 : World} (E : Ext ρ0 h0 w0 ρ h w) {n : Nat} (hn : h0.next ≤ n) : Ext ρ0 h0 w0 ρ { h with next := n } w :=
  ⟨E.le, E.low, hn, E.size, E.pres, E.shrink, E.tape, E.os, E.output⟩

def HeldR (ρ : Rho) (g : Held) (W : Watch) : Prop :=
  W.2 = (fun j => !g.wt.getD j false) ∧ ∃ b l', renA ρ g.a = some b ∧ renL ρ g.l = some l' ∧ W.1 = fun w => ∀ j v, l'[j]? = some v → w.cell? (b.add j) = some v
def HeldsR (ρ : Rho) : List Held → List Watch → Prop
  | [], [] => True
  | g :: gs, W :: Γ => HeldR ρ g W ∧ HeldsR ρ gs Γ
  | _, _ => False
theorem HeldsR.mono {ρ σ : Rho} (hle : ρ.le σ) : ∀ {gs : List Held} {Γ : List Watch}, HeldsR ρ gs Γ → HeldsR σ gs Γ
  | [], [], _ => trivial
  | _g :: _gs, _W :: _Γ, ⟨⟨h1, b, l', h2, h3, h4⟩, hr⟩ => ⟨⟨h1, b, l', renA_mono hle h2, renL_mono hle _ _ h3, h4⟩, HeldsR.mono hle hr⟩
  | [], _ :: _, x | _ :: _, [], x => x

/-- Behind an operation what was taken early stands, and what is watched on. -/
theorem held_after {ρ' : Rho} {h' : AH} {w' : World} (W' : WR G ρ' h' w') (hle : ρ.le ρ') (i : Nat) : ∀ {gs : List Held} {Γ : List Watch}, HeldsR ρ gs Γ → gs.all (heldOk h' i) = true →
    (∀ g ∈ Γ, g.2 i = true → g.1 w') ∧ HeldsR ρ' (gs.filter fun g => !g.wt.getD i false) (Γ.filter fun g => g.2 i)
  | [], [], _, _ => ⟨by simp, by simp [HeldsR]⟩
  | g :: gs, W :: Γ, ⟨⟨h1, b, l', h2, h3, h4⟩, hr⟩, hall => by
    simp only [List.all_cons, Bool.and_eq_true] at hall
    obtain ⟨i1, i2⟩ := held_after W' hle i hr hall.2
    have hW2 : W.2 i = !g.wt.getD i false := by rw [h1]
    have hg := hall.1
    unfold heldOk at hg
    refine ⟨fun V hV hVi => ?_, ?_⟩
    · rcases List.mem_cons.1 hV with rfl | hV
      · rw [hW2] at hVi
        simp only [Bool.not_eq_true'] at hVi
        rw [hVi, Bool.false_or] at hg
        split at hg
        · rename_i l hl
          have := veqL_sound _ _ hg
          subst this
          obtain ⟨l2, r1, r2, r3⟩ := cells_ok W' hl (renA_mono hle h2)
          rw [renL_mono hle _ _ h3] at r1
          cases r1
          rw [h4]
          exact r3
        · cases hg
      · exact i1 V hV hVi
    · simp only [List.filter_cons, hW2]
      by_cases q : g.wt.getD i false = true
      · simp only [q, Bool.not_true, Bool.false_eq_true, if_false]; exact i2
      · simp only [Bool.not_eq_true] at q
        simp only [q, Bool.not_false, if_true]
        exact ⟨⟨h1, b, l', renA_mono hle h2, renL_mono hle _ _ h3, h4⟩, i2⟩
  | [], _ :: _, x, _ | _ :: _, [], x, _ => x.elim

theorem putA_ren {ops : Array Oper} {i : Nat} {o : Oper} (ho : ops[i]? = some o) {tm : Array Value} {a : Act} (ht : renArr ρ tm = some a.tmps) {v v' : Value} (hv : ren ρ v = some v') : renArr ρ (putA ops i tm v) = some (a.put o.dst v').tmps := by
  unfold putA
  rw [ho, Option.bind_some]
  cases o.dst with
  | none => exact ht
  | some d => exact renArr_set hv d ht

theorem evA_eq (a : Act) : a.eval = evA a.tmps := by
  funext x
  cases x <;> rfl

theorem perform_ok {nest : FuncId → Array Value → AH → Option (Value × AH)} (hnest : NestOK P G nest) {base : Nat} {ops : Array Oper} {o : Oper} {i : Nat} {tm : Array Value} {v : Value} {h' : AH} (hp : perform P G nest base o i tm h = some (v, h'))
    (H : WR G ρ h w) {a : Act} (ht : renArr ρ tm = some a.tmps) (ho : ops[i]? = some o) (hw : Region.wanted o (yielded ops a.tmps) = true) (hb : (∃ t, o.op = .alloc t) → ρ.blk (base + i) = none) (hbn : base ≤ h.next) {Q : Exit → Act → World → Prop} {K : Act → World → Prop}
    (hK : ∀ ρ' v' w', WR G ρ' h' w' → Ext ρ { h with next := base } w ρ' h' w' → (∀ k, k ≠ i → base + k < h.next → ρ'.blk (base + k) = ρ.blk (base + k)) → h.next ≤ h'.next → ren ρ' v = some v' → K (a.put o.dst v') w') : wpOp P ops Q i K a w := by
  unfold wpOp
  simp only [ho, hw, if_true]
  refine .inl ?_
  unfold Oper.wp
  have hcast : ∀ {ρ' : Rho} {h2 : AH} {w' : World}, Ext ρ h w ρ' h2 w' → Ext ρ { h with next := base } w ρ' h2 w' := fun E =>
    ⟨E.le, fun j hj => E.low j (Nat.lt_of_lt_of_le hj hbn), Nat.le_trans hbn E.next, E.size, E.pres, E.shrink, E.tape, E.os, E.output⟩
  have gen : (match aop P G h (evA tm) o with
    | some (.val v h') => some (v, h')
    | some (.enter f args) => nest f args h
    | _ => none) = some (v, h') → o.upon P a K Q ((execOp a.eval o).run P w) := by
    intro hp
    split at hp
    · rename_i v0 h0 hop
      cases hp
      have hsim := aop_ok H (a := { tmps := tm, defers := [] }) (b := { tmps := a.tmps, defers := [] }) ht o hop
      obtain ⟨ρ', v', w', h1, h2, h3, h4⟩ := hsim
      have he : ({ tmps := a.tmps, defers := [] } : Act).eval = a.eval := (evA_eq a).symm
      rw [he] at h4
      have := hK ρ' v' w' h1 (hcast h2) (fun k _ hk => h2.low _ hk) h2.next h3
      rcases h4 with h4 | ⟨h4, rfl⟩
      · rw [h4]; exact this
      · rw [h4]; exact this
    · rename_i f args hop
      have hsim := aop_ok H (a := { tmps := tm, defers := [] }) (b := { tmps := a.tmps, defers := [] }) ht o hop
      obtain ⟨hbd, args', h1, h2⟩ := hsim
      have he : ({ tmps := a.tmps, defers := [] } : Act).eval = a.eval := (evA_eq a).symm
      rw [he] at h2
      rw [h2]
      refine Calls.mono (hnest f args h v h' hp ρ w args' H h1) fun e w' hx => ?_
      obtain ⟨ρ', v', rfl, h3, h4, h5⟩ := hx
      exact hK ρ' v' w' h3 (hcast h4) (fun k _ hk => h4.low _ hk) h4.next h5
    · cases hp
  unfold perform at hp
  split at hp
  · rename_i t hop
    replace hb := hb ⟨t, hop⟩
    obtain ⟨z, hz, hp⟩ := Option.bind_eq_some_iff.1 hp
    split at hp
    case isFalse => cases hp
    rename_i hc
    simp only [Bool.and_eq_true] at hc
    obtain ⟨hc1, hc2, hc3⟩ := hc
    cases hp
    have hr : base + i < h.next := Nat.blt_eq ▸ hc3
    have hg : h.get (base + i) = none := by
      cases q : h.get (base + i) with
      | none => rfl
      | some x => rw [q] at hc2; cases hc2
    have hcl := closed_ren ρ z hc1
    have hrun : (execOp a.eval o).run P w = .ok (.value (.pointer (some ⟨w.heap.size, 0, none⟩))) { w with heap := w.heap.push (.cells z.cells t) } := by
      simp only [execOp, hop, Instr.alloc, Sem.run_bind, run_zero hz, Result.andThen_ok, run_newVar, Sem.run_pure]
    have hle := Rho.le_bind hb w.heap.size none
    have hobj : ObjR (ρ.bind (base + i) w.heap.size none) (base + i) (.cells z.cells.toList t none false) (.cells z.cells t) := by
      simp only [ObjR]
      exact ⟨.inr trivial, ⟨z.cells.toList, [], by simp, renL_mono hle _ _ (renArr_iff.1 (ren_cells ρ z z hcl)), fun _ => rfl⟩, .inl trivial, fun _ => by simp [Rho.bind], fun sz q => by cases q⟩
    rw [hrun]
    refine hK _ (.pointer (some ⟨w.heap.size, 0, none⟩)) _ (H.allocAt (base + i) hr hb hg _ _ none rfl hobj) (Ext.allocAt H (base + i) base hr (by omega) hb _ _ none rfl rfl rfl rfl) (fun k hk _ => ?_) (by simp) (by simp [ren, ren_new])
    have : base + k ≠ base + i := by omega
    simp only [Rho.bind, this, if_false]
  · exact gen hp
end
end Go.AE
