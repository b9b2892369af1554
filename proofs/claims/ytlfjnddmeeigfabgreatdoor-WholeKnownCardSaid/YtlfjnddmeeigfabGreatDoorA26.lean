import Derived.Test.YtlfjnddmeeigfabGreatDoorA25
namespace Go.AE
open Go

section
variable {P : Program} {G : Nat} {ρ : Rho} {h : AH} {w : World} {cs cs0 : List Frame}

theorem StepTo.refl {s : AS} {fr : Frame} (H : SR G ρ s fr cs w) : StepTo P G ρ s s fr cs cs0 w := ⟨ρ, fr, cs, w, H, Ext.refl _ _ _, .refl _ _⟩

theorem iter_ok {hk : FuncId → Array Value → AH → Option (Value × AH)} (hhk : NestOK P G hk) {draw : Array Oper → Array Value → AH → Option (Array Value × AH)} (hdraw : DrawOK P G draw) : ∀ (n : Nat) {s s' : AS} {ρ : Rho} {fr : Frame} {cs : List Frame} {w : World}, SR G ρ s fr cs w → iter (astep P G hk draw) n s = some s' → StepTo P G ρ s s' fr cs cs0 w
  | 0, s, s', ρ, fr, cs, w, H, hi => by
    simp only [iter] at hi
    cases hi
    exact StepTo.refl H
  | n + 1, s, s', ρ, fr, cs, w, H, hi => by
    simp only [iter] at hi
    cases q : astep P G hk draw s with
    | none =>
      rw [q] at hi
      cases hi
      exact StepTo.refl H
    | some s1 =>
      rw [q] at hi
      obtain ⟨ρ1, fr1, cs1, w1, H1, E1, S1⟩ := astep_ok (cs0 := cs0) hhk hdraw H q
      obtain ⟨ρ2, fr2, cs2, w2, H2, E2, S2⟩ := iter_ok hhk hdraw n H1 hi
      exact ⟨ρ2, fr2, cs2, w2, H2, E1.trans E2, S1.trans S2⟩

theorem iter_add (f : AS → Option AS) : ∀ (m n : Nat) (s s' : AS), iter f m s = some s' → iter f (m + n) s = iter f n s' := by
  intro m
  induction m with
  | zero => intro n s s' h; simp only [iter] at h; cases h; simp
  | succ m ih =>
    intro n s s' h
    simp only [iter] at h
    rw [Nat.succ_add]
    simp only [iter]
    cases q : f s with
    | none =>
      rw [q] at h
      cases h
      cases n with
      | zero => rfl
      | succ n => simp only [iter, q]
    | some s1 => rw [q] at h; exact ih n s1 s' h

theorem final_ok {s : AS} {fr : Frame} (H : SR G ρ s fr cs w) {v : Value} {h' : AH} (hf : afinal P s = some (v, h')) : cs = [] ∧ h' = s.h ∧ ∃ v', ren ρ v = some v' ∧ fr.leaving P w (.returned v') := by
  unfold afinal at hf
  split at hf
  case h_2 => cases hf
  rename_i fn hcs hm hd hfn
  split at hf
  case h_2 => cases hf
  rename_i hk
  obtain ⟨v0, hv, he⟩ := Option.map_eq_some_iff.1 hf
  cases he
  have hc := H.cs
  rw [hcs] at hc
  obtain ⟨v', h1, h2⟩ := results_ok H.w H.fr.tmps hv
  have hmd := H.fr.mode
  rw [hm] at hmd
  have hdd := H.fr.defers
  rw [hd] at hdd
  refine ⟨?_, rfl, v', h1, ?_, ?_, ?_, fn, ?_, h2⟩
  · cases cs with
    | nil => rfl
    | cons c cs => exact hc.elim
  · simpa [renM] using hmd.symm
  · simpa [renDs] using hdd.symm
  · rw [H.fr.kind]; exact hk
  · rw [H.fr.fn]; exact hfn

theorem callF_ok {hk : FuncId → Array Value → AH → Option (Value × AH)} (hhk : NestOK P G hk) {draw : Array Oper → Array Value → AH → Option (Array Value × AH)} (hdraw : DrawOK P G draw) {n : Nat} : NestOK P G (acallF P G hk draw n) := by
  intro f args h v h' hc ρ w args' H ha
  unfold acallF at hc
  split at hc
  case isFalse => cases hc
  rename_i hb
  obtain ⟨s, hs, hf⟩ := Option.bind_eq_some_iff.1 hc
  split at hf
  case isFalse => cases hf
  rename_i hfn
  have hfn : s.fr.fn = f := Nat.eq_of_beq_eq_true hfn
  intro cs0
  have H0 : SR G ρ ⟨Frame.enter P f args .normal, [], h⟩ (Frame.enter P f args' .normal) [] w := ⟨enter_ren ha f .normal, trivial, H⟩
  obtain ⟨ρ', fr', cs', w', H', E', S'⟩ := iter_ok (cs0 := cs0) hhk hdraw n H0 hs
  obtain ⟨rfl, rfl, v', h1, h2⟩ := final_ok H' hf
  refine ⟨.returned v', w', fr', ⟨ρ', v', rfl, H'.w, E', h1⟩, S', ?_, h2⟩
  rw [H'.fr.fn, hfn]

theorem call_ok (hmix : P.follows .mixedOrders = true) {hk : FuncId → Array Value → AH → Option (Value × AH)} (hhk : NestOK P G hk) {n : Nat} : ∀ d, NestOK P G (acall P G hk n d)
  | 0 => by intro f args h v h' hc; simp [acall] at hc
  | d + 1 => by
    intro f args h v h' hc
    simp only [acall] at hc
    split at hc
    · rename_i r hr
      cases hc
      exact hhk f args h v h' hr
    · exact callF_ok hhk (draw_ok hmix (call_ok hmix hhk d)) f args h v h' hc
end
end Go.AE
