import Derived.Test.YtlfjnddmeeigfabGreatDoorA18
namespace Go.AE
open Go

section
variable {P : Program} {G : Nat} {ρ : Rho} {h : AH} {w : World} {cs cs0 : List Frame}

theorem notDefer {o : Oper} (h : isDefer o.op = false) : ∀ c, o.op ≠ .defer c := fun c q => by rw [q] at h; cases h

theorem rangeFunc_ok {s s' : AS} {fr : Frame} (H : SR G ρ s fr cs w) (hm : fr.mode = .run) {f : Operand} {params : Array Tmp} {assign body : Code} {k k' : List Item} (hta : s.fr.todo = .code (.rangeFunc f params assign body) :: k) (ht : fr.todo = .code (.rangeFunc f params assign body) :: k') (hk : renIs ρ k = some k')
    {g : FuncId} {first cap : Array Value} (hro : s.fr.roundOf = none) (hok : okOpd G f = true) (hf : ({ tmps := s.fr.tmps, defers := [] } : Act).eval f = .func (.func g) first cap) (hb : hasBody P g = true)
    (hs : s' = ⟨Frame.enter P g (first ++ #[.func (.yield (s.h.push (.defd (some []))).next) #[] #[]] ++ cap) .normal, { s.fr with todo := .inRangeFunc (s.h.push (.defd (some []))).next :: k, defers := { target := .collected s.h.next, args := #[] } :: s.fr.defers } :: s.cs,
      (s.h.push (.defd (some []))).push (.loop { state := .ready, pending := none, fn := s.fr.fn, tmps := s.fr.tmps, params, assign, body, defers := s.h.next })⟩) : StepTo P G ρ s s' fr cs cs0 w := by
  subst hs
  have hro' : fr.roundOf = none := by
    rcases H.fr.round with ⟨_, h2⟩ | ⟨l, l', h1, _⟩
    · exact h2
    · rw [hro] at h1; cases h1
  have hev := ev_ren H.w (a := { tmps := s.fr.tmps, defers := [] }) (b := { tmps := fr.tmps, defers := [] }) H.fr.tmps hok
  rw [hf, ← eval_eq fr []] at hev
  simp only [ren, renF, Option.bind_eq_some_iff, Option.map_eq_some_iff] at hev
  obtain ⟨fn', hfn, first', hfirst, cap', hcap, hev⟩ := hev
  cases hfn
  -- two new objects
  let ρ1 := ρ.bind s.h.next w.heap.size none
  let h1 := s.h.push (.defd (some []))
  let w1 : World := { w with heap := w.heap.push (.deferred (some [])) }
  have W1 : WR G ρ1 h1 w1 := H.w.alloc _ _ none rfl (by simp [ObjR, renDs])
  have E1 : Ext ρ s.h w ρ1 h1 w1 := Ext.alloc H.w _ (.deferred (some [])) none rfl rfl rfl rfl
  let lp : Loop := { state := .ready, pending := none, fn := fr.fn, tmps := fr.tmps, params, assign, body, defers := w.heap.size }
  let w2 : World := { w1 with heap := w1.heap.push (.loop lp) }
  let ρ2 := ρ1.bind h1.next w1.heap.size none
  have hle2 : ρ1.le ρ2 := Rho.le_bind (W1.fresh _ (Nat.le_refl _)) _ _
  have W2 : WR G ρ2 (h1.push (.loop { state := .ready, pending := none, fn := s.fr.fn, tmps := s.fr.tmps, params, assign, body, defers := s.h.next })) w2 := by
    refine W1.alloc _ _ none rfl ?_
    simp only [ObjR]
    refine ⟨rfl, rfl, H.fr.fn, renArr_mono (Rho.le_trans E1.le hle2) _ _ H.fr.tmps, rfl, rfl, rfl, ?_⟩
    exact (hle2 s.h.next w.heap.size (by simp [ρ1, Rho.bind])).1
  have E2 : Ext ρ1 h1 w1 ρ2 (h1.push (.loop { state := .ready, pending := none, fn := s.fr.fn, tmps := s.fr.tmps, params, assign, body, defers := s.h.next })) w2 := Ext.alloc W1 _ (.loop lp) none rfl rfl rfl rfl
  have E := E1.trans E2
  have hl : ρ2.blk h1.next = some w1.heap.size := by simp [ρ2, Rho.bind]
  have hd : ρ2.blk s.h.next = some w.heap.size := (hle2 _ _ (by simp [ρ1, Rho.bind])).1
  have hargs : renArr ρ2 (first ++ #[.func (.yield h1.next) #[] #[]] ++ cap) = some (first' ++ #[.func (.yield w1.heap.size) #[] #[]] ++ cap') := by
    refine renArr_append (renArr_append (renArr_mono E.le _ _ hfirst) ?_) (renArr_mono E.le _ _ hcap)
    simp [renArr, renL, ren, renF, hl]
  have hcaller : FrR ρ2 { s.fr with todo := .inRangeFunc h1.next :: k, defers := { target := .collected s.h.next, args := #[] } :: s.fr.defers } { fr with todo := .inRangeFunc w1.heap.size :: k', defers := { target := .collected w.heap.size, args := #[] } :: fr.defers } := by
    have hdd := renDs_mono E.le H.fr.defers
    refine ⟨H.fr.fn, renArr_mono E.le _ _ H.fr.tmps, ?_, ?_, renM_mono E.le H.fr.mode, H.fr.kind, .inl ⟨hro, hro'⟩⟩
    · exact renIs_cons.2 ⟨_, _, by simp [renI, hl], renIs_mono E.le hk, rfl⟩
    · simp [renDs, renD, renT, hd, renArr, renL, hdd]
  refine ⟨ρ2, _, _ :: cs, w2, ⟨enter_ren hargs g .normal, ⟨hcaller, H.cs.mono E.le⟩, W2⟩, E, .one (step_lone_go ?_)⟩
  have hrun : (Instr.enterLoop fr.fn fr.tmps params assign body fr.roundOf).run P w = .ok (w1.heap.size, [{ target := .collected w.heap.size, args := #[] }]) w2 := by
    rw [hro']
    simp [Instr.enterLoop, w1, w2, lp]
  simp only [stepG, hm, stepG.exec, ht, Sem.runT_eq, hrun, GStep.bare_after]
  have hrun2 : ∀ fr2 : Frame, fr2.eval f = .func (.func g) first' cap' → (do let d ← resolve fr2.eval { callee := .value f, args := #[.const (.func (.yield w1.heap.size) #[] #[])], argTypes := #[] } 0; invoke d.target d.args : Sem Next).run P w2 = .ok (.enter g (first' ++ #[.func (.yield w1.heap.size) #[] #[]] ++ cap')) w2 := fun fr2 hf2 => by
    have hc : ∀ v : Value, fr2.eval (.const v) = v := fun _ => rfl
    simp only [resolve, List.map_toArray, List.map_cons, List.map_nil, hf2, hc, Deferred.ofValue, Sem.run_bind, Sem.run_pure, Result.andThen_ok, invoke, run_callFunc hb]
  have hr3 := hrun2 { fr with todo := .inRangeFunc w1.heap.size :: k', defers := [{ target := .collected w.heap.size, args := #[] }] ++ fr.defers } (by
    have : ({ fr with todo := .inRangeFunc w1.heap.size :: k', defers := [{ target := .collected w.heap.size, args := #[] }] ++ fr.defers } : Frame).eval f = fr.eval f := by cases f <;> rfl
    rw [this, ← hev])
  simp only [stepG.apply, Sem.runT_eq, if_true, hm] at hr3 ⊢
  rw [hr3]
  simp only [GStep.bare_after]
  rfl

theorem astep_ok {hk : FuncId → Array Value → AH → Option (Value × AH)} (hhk : NestOK P G hk) {draw : Array Oper → Array Value → AH → Option (Array Value × AH)} (hdraw : DrawOK P G draw) {s s' : AS} {fr : Frame} (H : SR G ρ s fr cs w) (hs : astep P G hk draw s = some s') : StepTo P G ρ s s' fr cs cs0 w := by
  unfold astep at hs
  split at hs
  case h_2 =>
    rename_i hno
    refine unwind_ok H (fun q => hno ?_) hs
    have hmd := H.fr.mode
    rw [q] at hmd
    cases hmm : s.fr.mode with
    | run => rfl
    | returning => rw [hmm] at hmd; simp [renM] at hmd
    | panicking c => rw [hmm] at hmd; simp [renM] at hmd
  rename_i hma
  have hm := renM_run H.fr hma
  split at hs
  · -- control
    rename_i k hk
    split at hs
    case isFalse => cases hs
    rename_i hok
    cases hs
    obtain ⟨k', h1, h2⟩ := ctl_ren (ρ := ρ) (ev' := fr.eval) (fun c x y k0 q => by
      rw [q] at hok
      rw [eval_eq fr []]
      exact ev_ren H.w H.fr.tmps hok) H.fr.todo hk
    exact ⟨ρ, { fr with todo := k' }, cs, w, ⟨H.fr.withTodo h2, H.cs, H.w⟩, Ext.refl _ _ _, .one (step_ctl hm h1)⟩
  · rename_i hctl
    have htd := H.fr.todo
    split at hs
    · -- an operation
      rename_i ops i rest k hta
      rw [hta] at htd
      obtain ⟨x', k', q1, q2, ht⟩ := renIs_cons.1 htd
      cases q1
      split at hs
      case h_2 => cases hs
      rename_i o ho
      have hy := yielded_ren H.fr.tmps ops
      split at hs
      · rename_i hw
        split at hs
        · cases hs
        rename_i hdf
        obtain ⟨r, hr, hs⟩ := Option.bind_eq_some_iff.1 hs
        refine opstep_ok hhk H hm ht ho (by rw [hy]; exact hw) ?_ hr hs
        rcases H.fr.round with ⟨_, h2⟩ | ⟨l, l', h1, _⟩
        · exact .inl h2
        · refine .inr (notDefer ?_)
          rw [h1] at hdf
          simpa using hdf
      · rename_i hw
        cases hs
        refine ⟨ρ, fr.finish undef, cs, w, ⟨finish_ren H.fr (ren_undef ρ), H.cs, H.w⟩, Ext.refl _ _ _, .one (step_lone_go ?_)⟩
        have hw' : Region.wanted o (yielded ops fr.tmps) = false := by rw [hy]; simpa using hw
        simp [stepG, hm, stepG.exec, ht, ho, hw']
    · rename_i k hta
      rw [hta] at htd
      obtain ⟨x', k', q1, q2, ht⟩ := renIs_cons.1 htd
      cases q1
      exact leave_ok H hm hs fun w => by simp only [stepG, hm, stepG.exec, ht]; rfl
    · rename_i hta
      rw [hta] at htd
      simp [renIs] at htd
      exact leave_ok H hm hs fun w => by simp only [stepG, hm, stepG.exec, htd]; rfl
    · rename_i id k hta
      rw [hta] at htd
      obtain ⟨x', k', q1, q2, ht⟩ := renIs_cons.1 htd
      cases q1
      have hn : exitTo id k' = none := exitTo_none q2 (by rw [hta] at hctl; exact hctl)
      exact leave_ok H hm hs fun w => by simp only [stepG, hm, stepG.exec, ht, hn, Option.elim_none]; rfl
    · rename_i l k hta
      rw [hta] at htd
      obtain ⟨x', k', q1, q2, ht⟩ := renIs_cons.1 htd
      cases q1
      have hn : gotoIn l k' = none := gotoIn_none q2 (by rw [hta] at hctl; exact hctl)
      exact leave_ok H hm hs fun w => by simp only [stepG, hm, stepG.exec, ht, hn, Option.elim_none]; rfl
    · rename_i id ops k hta
      rw [hta] at htd
      obtain ⟨x', k', q1, q2, ht⟩ := renIs_cons.1 htd
      cases q1
      obtain ⟨r, hr, rfl⟩ := Option.map_eq_some_iff.1 hs
      obtain ⟨ρ', tmr, w', h1, h2, h3, h4⟩ := hdraw ops s.fr.tmps s.h r.1 r.2 hr ρ fr (cs ++ cs0) w k' id H.w H.fr.tmps hm ht
      have hf := H.fr.mono h2.le
      exact ⟨ρ', { fr with tmps := tmr, todo := k' }, cs, w', ⟨⟨hf.fn, h3, renIs_mono h2.le q2, hf.defers, hf.mode, hf.kind, hf.round⟩, H.cs.mono h2.le, h1⟩, h2, h4⟩
    · rename_i f params assign body k hta
      rw [hta] at htd
      obtain ⟨x', k', q1, q2, ht⟩ := renIs_cons.1 htd
      cases q1
      split at hs
      case h_2 => cases hs
      rename_i g first cap hro hok hf
      split at hs
      case isFalse => cases hs
      rename_i hb
      exact rangeFunc_ok H hm hta ht q2 hro hok hf hb (Option.some.inj hs).symm
    · rename_i k hta
      rw [hta] at htd
      obtain ⟨x', k', q1, q2, ht⟩ := renIs_cons.1 htd
      cases q1
      split at hs
      case h_2 => cases hs
      rename_i l hro
      split at hs
      case h_2 => cases hs
      rename_i r hg
      split at hs
      case isFalse => cases hs
      rename_i hst
      cases hs
      rcases H.fr.round with ⟨h1, _⟩ | ⟨l0, l', h1, h2, h3⟩
      · rw [hro] at h1; cases h1
      rw [hro] at h1; cases h1
      obtain ⟨b, x, p1, p2, p3⟩ := H.w.obj _ _ hg
      rw [h3] at p1; cases p1
      cases x <;> simp only [ObjR] at p3
      rename_i r'
      obtain ⟨r1, r2, r3, r4, r5, r6, r7, r8⟩ := p3
      have hset := H.w.set (w' := { w with heap := w.heap.setIfInBounds l' (.loop { r' with state := .busy }) }) (o' := .loop { r with state := .busy }) hg h3 rfl (by simp only [ObjR]; exact ⟨trivial, r2, r3, r4, r5, r6, r7, r8⟩)
      have hext := Ext.set (w' := { w with heap := w.heap.setIfInBounds l' (.loop { r' with state := .busy }) }) (x' := .loop { r' with state := .busy }) (o' := .loop { r with state := .busy }) H.w hg rfl h3 rfl rfl rfl rfl
      refine ⟨ρ, fr.finish undef, cs, _, ⟨finish_ren H.fr (ren_undef ρ), H.cs, hset⟩, hext, .one (step_lone_go ?_)⟩
      have hgo : (getObj l').run P w = .ok (.loop r') w := by simp [getObj, Sem.run, p2]
      have hready : r'.state = .ready := by rw [r1]; simpa using hst
      have hrun : (do fr.roundOf.elim (stuck "beginRound: no round") Instr.beginRound; pure .skip : Sem Next).run P w = .ok .skip { w with heap := w.heap.setIfInBounds l' (.loop { r' with state := .busy }) } := by
        rw [h2]
        simp only [Option.elim_some, Instr.beginRound, Instr.getLoop, Sem.run_bind, hgo, Result.andThen_ok, Sem.run_pure, hready]
        simp [setObj, Sem.run, p2]
      simp only [stepG, hm, stepG.exec, ht]
      simp only [stepG.apply, Sem.runT_eq, if_true, hrun, GStep.bare_after]
      rfl
    · rename_i l k hta
      rw [hta] at htd
      obtain ⟨x', k', q1, q2, ht⟩ := renIs_cons.1 htd
      simp only [renI, Option.map_eq_some_iff] at q1
      obtain ⟨l', h3, rfl⟩ := q1
      split at hs
      case h_2 => cases hs
      rename_i r hg
      split at hs
      · cases hs
      rename_i hst
      cases hs
      obtain ⟨b, x, p1, p2, p3⟩ := H.w.obj _ _ hg
      rw [h3] at p1; cases p1
      cases x <;> simp only [ObjR] at p3
      rename_i r'
      obtain ⟨r1, r2, r3, r4, r5, r6, r7, r8⟩ := p3
      have hset := H.w.set (w' := { w with heap := w.heap.setIfInBounds l' (.loop { r' with state := .exhausted }) }) (o' := .loop { r with state := .exhausted }) hg h3 rfl (by simp only [ObjR]; exact ⟨trivial, r2, r3, r4, r5, r6, r7, r8⟩)
      have hext := Ext.set (w' := { w with heap := w.heap.setIfInBounds l' (.loop { r' with state := .exhausted }) }) (x' := .loop { r' with state := .exhausted }) (o' := .loop { r with state := .exhausted }) H.w hg rfl h3 rfl rfl rfl rfl
      have htodo : renIs ρ ((r.pending.map Item.code).toList ++ k) = some ((r'.pending.map Item.code).toList ++ k') := by
        rw [r2]
        cases r.pending with
        | none => exact q2
        | some c => exact renIs_cons.2 ⟨_, _, rfl, q2, rfl⟩
      refine ⟨ρ, { fr with todo := (r'.pending.map Item.code).toList ++ k' }, cs, _, ⟨H.fr.withTodo htodo, H.cs, hset⟩, hext, .one (step_lone_go ?_)⟩
      have hgo : (getObj l').run P w = .ok (.loop r') w := by simp [getObj, Sem.run, p2]
      have hbusy : (r'.state == .busy) = false := by rw [r1]; simpa using hst
      have hrun : (Instr.endLoop l').run P w = .ok r'.pending { w with heap := w.heap.setIfInBounds l' (.loop { r' with state := .exhausted }) } := by
        simp only [Instr.endLoop, Instr.getLoop, Sem.run_bind, hgo, Result.andThen_ok, Sem.run_pure, hbusy]
        simp [setObj, Sem.run, p2]
      simp only [stepG, hm, stepG.exec, ht, Sem.runT_eq, hrun, GStep.bare_after]
      rfl
    · cases hs
end
end Go.AE
