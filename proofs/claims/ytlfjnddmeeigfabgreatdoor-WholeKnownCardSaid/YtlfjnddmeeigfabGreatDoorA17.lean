import Derived.Test.YtlfjnddmeeigfabGreatDoorA16
import Derived.Defers
namespace Go.AE
open Go

section
variable {P : Program} {G : Nat} {ρ : Rho} {h : AH} {w : World} {cs cs0 : List Frame}

/-- An operation's step. -/
theorem opstep_ok {s s' : AS} {fr : Frame} {ops : Array Oper} {i : Nat} {rest : List Nat} {k : List Item} {o : Oper} {r : AR1} {hk : FuncId → Array Value → AH → Option (Value × AH)} (hhk : NestOK P G hk) (H : SR G ρ s fr cs w) (hm : fr.mode = .run) (ht : fr.todo = .inRegion ops (i :: rest) :: k)
    (ho : ops[i]? = some o) (hw : Region.wanted o (yielded ops fr.tmps) = true) (hro : fr.roundOf = none ∨ ∀ c, o.op ≠ .defer c) (hr : aop P G s.h ({ tmps := s.fr.tmps, defers := [] } : Act).eval o = some r) (hs : aopstep P hk s.fr s.cs s.h r = some s') : StepTo P G ρ s s' fr cs cs0 w := by
  have hsim := aop_ok H.w (a := { tmps := s.fr.tmps, defers := [] }) (b := { tmps := fr.tmps, defers := [] }) H.fr.tmps o hr
  rw [← eval_eq fr []] at hsim
  have hstep := stepG_op' (P := P) (cs := cs ++ cs0) (w := w) hm ht ho hw hro
  obtain ⟨fn, tmps, todo, defers, mode, kind, roundOf⟩ := fr
  simp only at ht hm
  subst ht
  subst hm
  cases r with
  | val v h' =>
    obtain ⟨ρ', v', w', h1, h2, h3, h4⟩ := hsim
    cases hs
    have hf := finish_ren (H.fr.mono h2.le) h3
    refine ⟨ρ', _, cs, w', ⟨hf, H.cs.mono h2.le, h1⟩, h2, .one (step_lone_go ?_)⟩
    rw [hstep]
    rcases h4 with h4 | ⟨h4, rfl⟩ <;> simp [stepG.apply, h4]
  | enter f args =>
    obtain ⟨hb, args', h1, h2⟩ := hsim
    simp only [aopstep] at hs
    split at hs
    · rename_i v h' hq
      cases hs
      obtain ⟨e, w', fr', ⟨ρ', v', rfl, c2, c3, c4⟩, c5, c6, c7⟩ := hhk f args s.h v h' hq ρ w args' H.w h1 (⟨fn, tmps, .inRegion ops (i :: rest) :: k, defers, .run, kind, roundOf⟩ :: (cs ++ cs0))
      refine ⟨ρ', _, cs, w', ⟨finish_ren (H.fr.mono c3.le) c4, H.cs.mono c3.le, c2⟩, c3, .head (step_lone_go (by rw [hstep]; simp [stepG.apply, h2])) (c5.trans (.one (step_leave_returned c7)))⟩
    · cases hs
      refine ⟨ρ, _, _ :: cs, w, ⟨enter_ren h1 f .normal, ⟨H.fr, H.cs⟩, H.w⟩, Ext.refl _ _ _, .one (step_lone_go ?_)⟩
      rw [hstep]
      simp [stepG.apply, h2]
  | defer d =>
    obtain ⟨d', h1, h2⟩ := hsim
    simp only [aopstep] at hs
    split at hs
    case isFalse => cases hs
    rename_i hrn
    cases hs
    have hd : renDs ρ (d :: s.fr.defers) = some (d' :: defers) := by
      have := H.fr.defers
      simp only at this
      simp [renDs, h1, this]
    have hf := finish_ren (H.fr.withDefers hd) (ren_undef ρ)
    refine ⟨ρ, _, cs, w, ⟨hf, H.cs, H.w⟩, Ext.refl _ _ _, .one (step_lone_go ?_)⟩
    rw [hstep]
    simp [stepG.apply, h2]
  | recover =>
    simp only [OpSim] at hsim
    simp only [aopstep] at hs
    split at hs
    case isFalse => cases hs
    rename_i hrn
    obtain ⟨q, hq, rfl⟩ := Option.map_eq_some_iff.1 hs
    have hrn' : roundOf = none := by
      rcases H.fr.round with ⟨_, h2⟩ | ⟨l, l', h1, _⟩
      · exact h2
      · rw [h1] at hrn; cases hrn
    subst hrn'
    have hk := H.fr.kind
    simp only at hk
    have nofind : ∀ v, (tryRecover ⟨fn, tmps, .inRegion ops (i :: rest) :: k, defers, .run, kind, none⟩ (cs ++ cs0)) = none → q = (.nilIface, s.cs) → StepTo P G ρ s ⟨s.fr.finish q.1, q.2, s.h⟩ ⟨fn, tmps, .inRegion ops (i :: rest) :: k, defers, .run, kind, none⟩ cs cs0 w ∧ v = v := fun (v : Nat) ht hq => by
      subst hq
      refine ⟨⟨ρ, _, cs, w, ⟨finish_ren H.fr (v := .nilIface) (v' := .nilIface) (by simp [ren]), H.cs, H.w⟩, Ext.refl _ _ _, .one (step_lone_go ?_)⟩, rfl⟩
      rw [hstep]
      simp only [stepG.apply, Sem.runT_eq, if_true, hsim, GStep.bare_after]
      rw [ht]
      rfl
    unfold arecover at hq
    split at hq
    · rename_i hkn
      cases hq
      exact (nofind 0 (by rw [hkn] at hk; simp [tryRecover, hk]) rfl).1
    · rename_i c crest hkd hcs
      have hcr := H.cs
      rw [hcs] at hcr
      obtain ⟨d, m, rfl, hf, hr⟩ := hcr.cons_inv
      have hmd := hf.mode
      rw [hkd] at hk
      split at hq
      · rename_i v older hcm
        cases hq
        rw [hcm] at hmd
        simp only [renM, renP, Option.map_eq_some_iff, Option.bind_eq_some_iff] at hmd
        obtain ⟨ch', ⟨v', hv, l', hl, rfl⟩, h2⟩ := hmd
        refine ⟨ρ, _, { d with mode := .panicking ({ v := v', recovered := true } :: l') } :: m, w, ⟨finish_ren H.fr hv, ⟨hf.withMode (by simp [renM, renP, hv, hl]), hr⟩, H.w⟩, Ext.refl _ _ _, .one (step_lone_go ?_)⟩
        rw [hstep]
        simp only [stepG.apply, Sem.runT_eq, if_true, hsim, GStep.bare_after]
        simp [tryRecover, hk, ← h2]
      · rename_i hno
        cases hq
        refine (nofind 0 ?_ (by rw [hcs])).1
        have : ∀ v' l', d.mode ≠ .panicking (⟨v', false, false⟩ :: l') := by
          intro v' l' q
          rw [q] at hmd
          cases hcm : c.mode with
          | run => rw [hcm] at hmd; simp [renM] at hmd
          | returning => rw [hcm] at hmd; simp [renM] at hmd
          | panicking ch =>
            rw [hcm] at hmd
            simp only [renM, Option.map_eq_some_iff] at hmd
            obtain ⟨ch', h1, h2⟩ := hmd
            cases h2
            cases ch with
            | nil => simp [renP] at h1
            | cons p ch =>
              simp only [renP, Option.bind_eq_some_iff, Option.map_eq_some_iff] at h1
              obtain ⟨v, q1, l, q2, q3⟩ := h1
              injection q3 with q3 q4
              cases p with
              | mk pv pr pg =>
                simp only [PanicEntry.mk.injEq] at q3
                obtain ⟨_, rfl, rfl⟩ := q3
                exact hno pv ch hcm
        simp only [tryRecover, hk, List.cons_append]
    · cases hq
  | panic v =>
    obtain ⟨v', h1, h2⟩ := hsim
    cases hs
    refine ⟨ρ, _, cs, w, ⟨raise_ren H.fr (c := [⟨v, false, false⟩]) (c' := [⟨v', false, false⟩]) (by simp [renP, h1]), H.cs, H.w⟩, Ext.refl _ _ _, .one (step_lone_go ?_)⟩
    rw [hstep]
    simp [stepG.apply, h2]
  | round l f tm as bo =>
    obtain ⟨l', tm', h1, h2, h3⟩ := hsim
    cases hs
    have hfr : FrR ρ (Frame.round l f tm as bo .normal) (Frame.round l' f tm' as bo .normal) := ⟨rfl, h2, by simp [Frame.round, renIs, renI], by simp [Frame.round, renDs], by simp [Frame.round, renM], rfl, .inr ⟨l, l', rfl, rfl, h1⟩⟩
    refine ⟨ρ, _, _ :: cs, w, ⟨hfr, ⟨H.fr, H.cs⟩, H.w⟩, Ext.refl _ _ _, .one (step_lone_go ?_)⟩
    rw [hstep]
    simp [stepG.apply, h3]

theorem run_aload {ρ : Rho} {h : AH} (H : WR G ρ h w) {t : TypeId} {a b : Addr} {v : Value} (hv : aload P h t a = some v) (hb : renA ρ a = some b) : ∃ v', ren ρ v = some v' ∧ (loadVar t b).run P w = .ok v' w := by
  obtain ⟨v', h1, h2⟩ := load_ok H hv hb
  exact ⟨v', h1, h2 w fun _ _ => rfl⟩

theorem ares_ok {ρ : Rho} {h : AH} (H : WR G ρ h w) {tm tm' : Array Value} (ht : renArr ρ tm = some tm') : ∀ {l : List ResultVar} {vs : List Value}, aresL P h tm l = some vs →
    ∃ vs', renL ρ vs = some vs' ∧ (l.mapM fun | .tmp t => pure (tm'.getD t undef) | .cell a t => do loadVar t (← asAddr (tm'.getD a undef)) : Sem (List Value)).run P w = .ok vs' w
  | [], vs, q => by simp [aresL] at q; subst q; exact ⟨[], by simp [renL], by simp⟩
  | r :: l, vs, q => by
    simp only [aresL, Option.bind_eq_some_iff, Option.map_eq_some_iff] at q
    obtain ⟨v, hv, vs0, hvs, rfl⟩ := q
    obtain ⟨vs', h1, h2⟩ := ares_ok H ht hvs
    cases r with
    | tmp t =>
      simp only [ares1, Option.some.injEq] at hv
      subst hv
      refine ⟨_ :: vs', renL_cons.2 ⟨_, _, renArr_getD ht t, h1, rfl⟩, ?_⟩
      simp only [List.mapM_cons, Sem.run_bind, Sem.run_pure, Result.andThen_ok]
      erw [h2]
      rfl
    | cell a t =>
      simp only [ares1] at hv
      split at hv
      case h_2 => cases hv
      rename_i ad hce
      have hx := renArr_getD ht a
      rw [hce] at hx
      obtain ⟨b, hb, hx'⟩ := ren_ptr hx
      obtain ⟨v', h3, h4⟩ := run_aload H hv hb
      refine ⟨v' :: vs', renL_cons.2 ⟨_, _, h3, h1, rfl⟩, ?_⟩
      simp only [List.mapM_cons, Sem.run_bind, hx', asAddr, Sem.run_pure, Result.andThen_ok, h4]
      erw [h2]
      rfl

theorem results_ok {ρ : Rho} {h : AH} (H : WR G ρ h w) {fn : Func} {tm tm' : Array Value} (ht : renArr ρ tm = some tm') {v : Value} (hv : aresults P h fn tm = some v) : ∃ v', ren ρ v = some v' ∧ (results fn tm').run P w = .ok v' w := by
  obtain ⟨vs, hvs, rfl⟩ := Option.map_eq_some_iff.1 hv
  obtain ⟨vs', h1, h2⟩ := ares_ok H ht hvs
  have hlen := renL_length h1
  refine ⟨one vs', ?_, ?_⟩
  · unfold one
    split
    · rename_i v0
      obtain ⟨v', l', q1, q2, rfl⟩ := renL_cons.1 h1
      simp [renL] at q2; subst q2
      exact q1
    · rename_i hno
      have : renArr ρ vs.toArray = some vs'.toArray := renArr_iff.2 (by simpa using h1)
      split
      · rename_i v0
        exfalso
        cases vs with
        | nil => simp at hlen
        | cons x xs => cases xs with
          | nil => exact hno x rfl
          | cons y ys => simp at hlen
      · simp [ren, this]
  · have hrun : (fn.results.mapM (fun | .tmp t => pure (tm'.getD t undef) | .cell a t => do loadVar t (← asAddr (tm'.getD a undef))) : Sem (Array Value)).run P w = .ok vs'.toArray w := by
      rw [← Array.toArray_toList (xs := fn.results), List.mapM_toArray, Sem.run_map]
      erw [h2]
      rfl
    unfold results
    rw [Sem.run_bind]
    erw [hrun]
    simp only [Result.andThen_ok, Sem.run_pure]
    congr 1
    unfold one
    split
    · rename_i hsz
      split
      · simp
      · rename_i hno
        exfalso
        cases vs' with
        | nil => simp at hsz
        | cons x xs => cases xs with
          | nil => exact hno x rfl
          | cons y ys => simp at hsz
    · rename_i hsz
      split
      · simp at hsz
      · rfl
end
end Go.AE
