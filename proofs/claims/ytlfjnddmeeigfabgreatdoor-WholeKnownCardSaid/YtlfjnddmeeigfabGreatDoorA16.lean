import Derived.Test.YtlfjnddmeeigfabGreatDoorA15
namespace Go.AE
open Go

structure SR (G : Nat) (ρ : Rho) (s : AS) (fr : Frame) (cs : List Frame) (w : World) : Prop where
  fr : FrR ρ s.fr fr
  cs : FrRs ρ s.cs cs
  w : WR G ρ s.h w

def StepTo (P : Program) (G : Nat) (ρ : Rho) (s s' : AS) (fr : Frame) (cs cs0 : List Frame) (w : World) : Prop :=
  ∃ ρ' fr' cs' w', SR G ρ' s' fr' cs' w' ∧ Ext ρ s.h w ρ' s'.h w' ∧ Steps P (lone fr (cs ++ cs0) w) (lone fr' (cs' ++ cs0) w')

def DrawOK (P : Program) (G : Nat) (draw : Array Oper → Array Value → AH → Option (Array Value × AH)) : Prop :=
  ∀ ops tm h tm' h', draw ops tm h = some (tm', h') → ∀ (ρ : Rho) (fr : Frame) (cs : List Frame) (w : World) (k : List Item) (id : Nat), WR G ρ h w → renArr ρ tm = some fr.tmps → fr.mode = .run →
    fr.todo = .code (.region id ops true) :: k → ∃ ρ' tmr w', WR G ρ' h' w' ∧ Ext ρ h w ρ' h' w' ∧ renArr ρ' tm' = some tmr ∧ Steps P (lone fr cs w) (lone { fr with tmps := tmr, todo := k } cs w')

/-- What is told of calls is so. -/
def NestOK (P : Program) (G : Nat) (nest : FuncId → Array Value → AH → Option (Value × AH)) : Prop :=
  ∀ f args h v h', nest f args h = some (v, h') → ∀ (ρ : Rho) (w : World) (args' : Array Value), WR G ρ h w → renArr ρ args = some args' →
    Calls P f args' w fun e w' => ∃ ρ' v', e = .returned v' ∧ WR G ρ' h' w' ∧ Ext ρ h w ρ' h' w' ∧ ren ρ' v = some v'

section
variable {P : Program} {G : Nat} {ρ : Rho} {h : AH} {w : World} {cs cs0 : List Frame}

theorem renM_run {a b : Frame} (hf : FrR ρ a b) (hm : a.mode = .run) : b.mode = .run := by
  have := hf.mode
  rw [hm] at this
  simpa [renM] using this.symm

theorem FrRs.cons_inv {a : Frame} {l m : List Frame} (h : FrRs ρ (a :: l) m) : ∃ b m', m = b :: m' ∧ FrR ρ a b ∧ FrRs ρ l m' := by
  cases m with
  | nil => exact h.elim
  | cons b m' => exact ⟨b, m', rfl, h.1, h.2⟩

theorem FrR.withTodo {a b : Frame} (hf : FrR ρ a b) {k k' : List Item} (hk : renIs ρ k = some k') : FrR ρ { a with todo := k } { b with todo := k' } := ⟨hf.fn, hf.tmps, hk, hf.defers, hf.mode, hf.kind, hf.round⟩
theorem FrR.withMode {a b : Frame} (hf : FrR ρ a b) {k k' : FrameMode} (hk : renM ρ k = some k') : FrR ρ { a with mode := k } { b with mode := k' } := ⟨hf.fn, hf.tmps, hf.todo, hf.defers, hk, hf.kind, hf.round⟩
theorem FrR.withDefers {a b : Frame} (hf : FrR ρ a b) {k k' : List Deferred} (hk : renDs ρ k = some k') : FrR ρ { a with defers := k } { b with defers := k' } := ⟨hf.fn, hf.tmps, hf.todo, hk, hf.mode, hf.kind, hf.round⟩
theorem FrR.withTmps {a b : Frame} (hf : FrR ρ a b) {k k' : Array Value} (hk : renArr ρ k = some k') : FrR ρ { a with tmps := k } { b with tmps := k' } := ⟨hf.fn, hk, hf.todo, hf.defers, hf.mode, hf.kind, hf.round⟩

theorem raise_ren {a b : Frame} (hf : FrR ρ a b) {c c' : List PanicEntry} (hc : renP ρ c = some c') : FrR ρ (a.raise c) (b.raise c') := by
  have happ : ∀ (x y x' y' : List PanicEntry), renP ρ x = some x' → renP ρ y = some y' → renP ρ (x ++ y) = some (x' ++ y') := by
    intro x
    induction x with
    | nil => intro y x' y' h1 h2; simp [renP] at h1; subst h1; exact h2
    | cons p x ih =>
      intro y x' y' h1 h2
      simp only [renP, List.cons_append, Option.bind_eq_some_iff, Option.map_eq_some_iff] at h1 ⊢
      obtain ⟨v, q1, l, q2, rfl⟩ := h1
      exact ⟨v, q1, l ++ y', ih y l y' q2 h2, rfl⟩
  have hm := hf.mode
  unfold Frame.raise
  cases hma : a.mode with
  | run => rw [hma] at hm; simp [renM] at hm; rw [← hm]; exact hf.withMode (by simp [renM, hc])
  | returning => rw [hma] at hm; simp [renM] at hm; rw [← hm]; exact hf.withMode (by simp [renM, hc])
  | panicking ch =>
    rw [hma] at hm
    simp only [renM, Option.map_eq_some_iff] at hm
    obtain ⟨ch', h1, h2⟩ := hm
    rw [← h2]
    exact hf.withMode (by simp [renM, happ _ _ _ _ hc h1])

theorem dropWhile_nil {α : Type} (p : α → Bool) : ∀ l : List α, (∀ x ∈ l, p x = true) → l.dropWhile p = []
  | [], _ => rfl
  | x :: l, h => by
    rw [List.dropWhile_cons, h x (by simp)]
    exact dropWhile_nil p l fun y hy => h y (by simp [hy])

/-- A frame's return, in the machine. -/
theorem settle_ren {c c' : Frame} {d : Frame} (hf : FrR ρ c d) (hs : settleF c = some c') : FrR ρ c' (match d.mode with
        | .panicking ({ recovered := true, .. } :: older) =>
          match older.dropWhile (!·.goexit) with
          | [] => { d with mode := .returning }
          | rest => { d with mode := .panicking rest }
        | _ => d) := by
  have hm := hf.mode
  unfold settleF at hs
  split at hs
  · rename_i p older hcm
    split at hs
    case isFalse => cases hs
    rename_i hall
    cases hs
    rw [hcm] at hm
    simp only [renM, renP, Option.map_eq_some_iff, Option.bind_eq_some_iff] at hm
    obtain ⟨ch', ⟨v', _, l', hl', rfl⟩, h2⟩ := hm
    rw [← h2]
    have : l'.dropWhile (!·.goexit) = [] := by
      refine dropWhile_nil _ _ ?_
      have key : ∀ (x x' : List PanicEntry), renP ρ x = some x' → x.all (fun p => !p.goexit) = true → ∀ q ∈ x', (!q.goexit) = true := by
        intro x
        induction x with
        | nil => intro x' h1 _; simp [renP] at h1; subst h1; simp
        | cons p x ih =>
          intro x' h1 h2
          simp only [renP, Option.bind_eq_some_iff, Option.map_eq_some_iff] at h1
          obtain ⟨v, q1, l, q2, rfl⟩ := h1
          simp only [List.all_cons, Bool.and_eq_true] at h2
          intro q hq
          rcases List.mem_cons.1 hq with rfl | hq
          · exact h2.1
          · exact ih l q2 h2.2 q hq
      exact key older l' hl' hall
    simp only [this]
    exact hf.withMode (by simp [renM])
  · rename_i hno
    cases hs
    have : ∀ v' g l', d.mode ≠ .panicking (⟨v', true, g⟩ :: l') := by
      intro v' g l' q
      rw [q] at hm
      cases hcm : c.mode with
      | run => rw [hcm] at hm; simp [renM] at hm
      | returning => rw [hcm] at hm; simp [renM] at hm
      | panicking ch =>
        rw [hcm] at hm
        simp only [renM, Option.map_eq_some_iff] at hm
        obtain ⟨ch', h1, h2⟩ := hm
        cases h2
        cases ch with
        | nil => simp [renP] at h1
        | cons p ch =>
          simp only [renP, Option.bind_eq_some_iff, Option.map_eq_some_iff] at h1
          obtain ⟨v, q1, l, q2, q3⟩ := h1
          injection q3 with q3 q4
          cases p with
          | mk pv pr pg =>
            simp only [PanicEntry.mk.injEq] at q3
            obtain ⟨_, rfl, rfl⟩ := q3
            exact hno pv pg ch hcm
    split
    · rename_i v' g l' q
      exact absurd q (this _ _ _)
    · exact hf

theorem return_ok {a : Frame} {acs : List Frame} {h' : AH} {s' : AS} {fr : Frame} {v v' : Value} {w' : World} (hk : fr.kind = a.kind) (hcs : FrRs ρ acs cs) (hw : WR G ρ h' w') (ha : areturn a acs h' v = some s') (hv : ren ρ v = some v') :
    s'.h = h' ∧ ∃ fr' cs', SR G ρ s' fr' cs' w' ∧ ∀ (main : Bool) (cs0 : List Frame), doReturn P main fr (cs ++ cs0) none v' w' = .go { frame := fr', callers := cs' ++ cs0, status := .running, dying := none } w' := by
  unfold areturn at ha
  split at ha
  · cases ha
  rename_i c rest
  obtain ⟨d, m, rfl, hf, hr⟩ := hcs.cons_inv
  split at ha
  · rename_i hkn
    cases ha
    refine ⟨rfl, d.finish v', m, ⟨finish_ren hf hv, hr, hw⟩, fun main cs0 => ?_⟩
    simp [doReturn, hk, hkn]
  · rename_i hkd
    obtain ⟨c', hs, he⟩ := Option.map_eq_some_iff.1 ha
    cases he
    refine ⟨rfl, _, m, ⟨settle_ren hf hs, hr, hw⟩, fun main cs0 => ?_⟩
    simp only [doReturn, hk, hkd, List.cons_append]
    rfl
  · cases ha
end
end Go.AE
