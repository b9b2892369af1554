import Derived.Test.YtlfjnddmeeigfabGreatDoorA17
namespace Go.AE
open Go

section
variable {P : Program} {G : Nat} {ρ : Rho} {h : AH} {w : World} {cs cs0 : List Frame}

theorem leave_ok {s s' : AS} {fr : Frame} (H : SR G ρ s fr cs w) (_hm : fr.mode = .run) {jump : Option Code} (ha : aleave s.fr s.cs s.h jump = some s')
    (hex : ∀ w, stepG P true { frame := fr, callers := cs ++ cs0, status := .running, dying := none } w =
      (match fr.roundOf with
      | none => if jump matches none | some .ret then GStep.go { frame := { fr with mode := .returning }, callers := cs ++ cs0, status := .running, dying := none } w else .ended (.stuck "exit, goto: no such block or label" (fr.pos P)) w
      | some l =>
        let (r, es) := (Instr.endRound l jump).runT P w #[]
        GStep.after (seen P fr.fn es) <| match r with
        | .ok v w => doReturn P true fr (cs ++ cs0) none v w
        | .halt _ w => .ended (.stuck "range over a function: no such loop" (fr.pos P)) w)) : StepTo P G ρ s s' fr cs cs0 w := by
  unfold aleave at ha
  rcases H.fr.round with ⟨h1, h2⟩ | ⟨l, l', h1, h2, h3⟩
  · rw [h1] at ha
    simp only at ha
    split at ha
    all_goals first | (cases ha; done) | skip
    all_goals
      cases ha
      refine ⟨ρ, { fr with mode := .returning }, cs, w, ⟨⟨H.fr.fn, H.fr.tmps, H.fr.todo, H.fr.defers, by simp [renM], H.fr.kind, .inl ⟨rfl, h2⟩⟩, H.cs, H.w⟩, Ext.refl _ _ _, .one (step_lone_go ?_)⟩
      rw [hex, h2]
      simp
  · rw [h1] at ha
    simp only at ha
    split at ha
    case h_2 => cases ha
    rename_i r hg
    obtain ⟨b, x, q1, q2, q3⟩ := H.w.obj _ _ hg
    rw [h3] at q1; cases q1
    cases x <;> simp only [ObjR] at q3
    rename_i r'
    obtain ⟨r1, r2, r3, r4, r5, r6, r7, r8⟩ := q3
    have hset := H.w.set (w' := { w with heap := w.heap.setIfInBounds l' (.loop { r' with state := if jump.isNone then .ready else .done, pending := jump }) }) (o' := .loop { r with state := if jump.isNone then .ready else .done, pending := jump }) hg h3 rfl
      (by simp only [ObjR]; exact ⟨trivial, trivial, r3, r4, r5, r6, r7, r8⟩)
    have hext := Ext.set (w' := { w with heap := w.heap.setIfInBounds l' (.loop { r' with state := if jump.isNone then .ready else .done, pending := jump }) }) (x' := .loop { r' with state := if jump.isNone then .ready else .done, pending := jump }) (o' := .loop { r with state := if jump.isNone then .ready else .done, pending := jump }) H.w hg rfl h3 rfl rfl rfl rfl
    obtain ⟨e1, fr', cs', hsr, hret⟩ := return_ok (P := P) (fr := fr) H.fr.kind H.cs hset ha (v' := .bool jump.isNone) (by simp [ren])
    refine ⟨ρ, fr', cs', _, hsr, by rw [e1]; exact hext, .one (step_lone_go ?_)⟩
    rw [hex, h2]
    have hgo : (getObj l').run P w = .ok (.loop r') w := by simp [getObj, Sem.run, q2]
    have hrun : (Instr.endRound l' jump).run P w = .ok (.bool jump.isNone) { w with heap := w.heap.setIfInBounds l' (.loop { r' with state := if jump.isNone then .ready else .done, pending := jump }) } := by
      simp only [Instr.endRound, Instr.getLoop, Sem.run_bind, hgo, Result.andThen_ok, Sem.run_pure]
      simp [setObj, Sem.run, q2]
    simp only [Sem.runT_eq, hrun, GStep.bare_after, hret]
    try rfl

theorem unwind_ok {s s' : AS} {fr : Frame} (H : SR G ρ s fr cs w) (hm : fr.mode ≠ .run) (ha : aunwind P s.fr s.cs s.h = some s') : StepTo P G ρ s s' fr cs cs0 w := by
  have hst : ∀ w, stepG P true { frame := fr, callers := cs ++ cs0, status := .running, dying := none } w = unwind P true fr (cs ++ cs0) none w := fun w => by
    simp only [stepG]
  unfold aunwind at ha
  have hdf := H.fr.defers
  split at ha
  · rename_i d ds hds
    rw [hds] at hdf
    simp only [renDs, Option.bind_eq_some_iff, Option.map_eq_some_iff] at hdf
    obtain ⟨d', hd, ds', hds', hdf⟩ := hdf
    simp only [renD, Option.bind_eq_some_iff, Option.map_eq_some_iff] at hd
    obtain ⟨t', ht, args', hargs, rfl⟩ := hd
    split at ha
    · rename_i blk htg
      rw [htg] at ht
      simp only [renT, Option.map_eq_some_iff] at ht
      obtain ⟨b, hb, rfl⟩ := ht
      split at ha
      case h_2 => cases ha
      rename_i cl hg
      cases ha
      obtain ⟨b', x, q1, q2, q3⟩ := H.w.obj _ _ hg
      rw [hb] at q1; cases q1
      cases x <;> simp only [ObjR] at q3
      rename_i calls
      cases calls with
      | none => simp only at q3
      | some cl' =>
        simp only at q3
        have hset := H.w.set (w' := { w with heap := w.heap.setIfInBounds b (.deferred none) }) (o' := .defd none) hg hb rfl (by simp only [ObjR])
        have hext := Ext.set (w' := { w with heap := w.heap.setIfInBounds b (.deferred none) }) (x' := .deferred none) (o' := .defd none) H.w hg rfl hb rfl rfl rfl rfl
        have happ : ∀ (x y x' y' : List Deferred), renDs ρ x = some x' → renDs ρ y = some y' → renDs ρ (x ++ y) = some (x' ++ y') := by
          intro x
          induction x with
          | nil => intro y x' y' h1 h2; simp [renDs] at h1; subst h1; exact h2
          | cons p x ih =>
            intro y x' y' h1 h2
            simp only [renDs, List.cons_append, Option.bind_eq_some_iff, Option.map_eq_some_iff] at h1 ⊢
            obtain ⟨v, q1, l, q2, rfl⟩ := h1
            exact ⟨v, q1, l ++ y', ih y l y' q2 h2, rfl⟩
        refine ⟨ρ, { fr with defers := cl' ++ ds' }, cs, _, ⟨H.fr.withDefers (happ _ _ _ _ q3 hds'), H.cs, hset⟩, hext, .one (step_lone_go ?_)⟩
        rw [hst]
        have hrun : (Instr.takeDeferred b).run P w = .ok cl' { w with heap := w.heap.setIfInBounds b (.deferred none) } := by
          simp [Instr.takeDeferred, getObj, setObj, Sem.run, q2]
        simp [unwind, ← hdf, hrun]
    · rename_i f cap htg
      rw [htg] at ht
      simp only [renT, renF, Option.bind_eq_some_iff, Option.map_eq_some_iff] at ht
      obtain ⟨fn', hfn, cap', hcap, rfl⟩ := ht
      cases hfn
      split at ha
      case isFalse => cases ha
      rename_i hb
      cases ha
      have hcat := renArr_append hargs hcap
      refine ⟨ρ, _, { fr with defers := ds' } :: cs, w, ⟨enter_ren hcat f .deferred, ⟨H.fr.withDefers hds', H.cs⟩, H.w⟩, Ext.refl _ _ _, .one ?_⟩
      have hinv : (invoke (.fn (.func f) cap') args').run P w = .ok (.enter f (args' ++ cap')) w := by simp [invoke, run_callFunc hb]
      exact step_defer hm hdf.symm rfl hinv
    · cases ha
  · rename_i hds
    rw [hds] at hdf
    simp [renDs] at hdf
    split at ha
    · cases ha
    rename_i fn hfn
    have hfn' : P.funcs[fr.fn]? = some fn := by rw [H.fr.fn]; exact hfn
    have hmd := H.fr.mode
    split at ha
    · cases ha
    · rename_i chain hmc
      rw [hmc] at hmd
      simp only [renM, Option.map_eq_some_iff] at hmd
      obtain ⟨ch', hch, hmd⟩ := hmd
      split at ha
      case h_2 => cases ha
      rename_i c rest hcs
      cases ha
      have hcr := H.cs
      rw [hcs] at hcr
      obtain ⟨d, m, rfl, hf, hr⟩ := hcr.cons_inv
      refine ⟨ρ, d.raise ch', m, w, ⟨raise_ren hf hch, hr, H.w⟩, Ext.refl _ _ _, .one (step_lone_go ?_)⟩
      rw [hst]
      simp [unwind, hdf, ← hmd, Frame.catches, hfn']
    · rename_i hmc
      rw [hmc] at hmd
      simp only [renM, Option.some.injEq] at hmd
      obtain ⟨v, hv, ha⟩ := Option.bind_eq_some_iff.1 ha
      obtain ⟨v', h1, h2⟩ := results_ok H.w H.fr.tmps hv
      obtain ⟨e1, fr', cs', hsr, hret⟩ := return_ok (P := P) (fr := fr) H.fr.kind H.cs H.w ha h1
      refine ⟨ρ, fr', cs', w, hsr, by rw [e1]; exact Ext.refl _ _ _, .one (step_lone_go ?_)⟩
      rw [hst]
      simp only [unwind, hdf, ← hmd, hfn', Sem.runT_eq, h2, GStep.bare_after, hret]
      rfl
end
end Go.AE
