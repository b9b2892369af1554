import Derived.Test.YtlfjnddmeeigfabGreatDoorA24
namespace Go.AE
open Go

section
variable {P : Program} {G : Nat} {ρ : Rho} {h : AH} {w : World}

/-- wpOps at a frame of any kind, where it only ends. -/
theorem gen_ops {ops : Array Oper} (hnd : ∀ (j : Nat) (o : Oper) c, ops[j]? = some o → o.op ≠ .defer c) {Q : Exit → Act → World → Prop} (hQ : ∀ e a w, Q e a w → e = .normal) {fn : FuncId} {kind : CallKind} {ro : Option Nat} {k : List Item} {cs : List Frame} :
    ∀ (l : List Nat) (tm : Array Value) (df : List Deferred) (w : World), wpOps P ops Q l ⟨tm, df⟩ w →
      ∃ a' w', Q .normal a' w' ∧ Steps P (lone ⟨fn, tm, .inRegion ops l :: k, df, .run, kind, ro⟩ cs w) (lone ⟨fn, a'.tmps, k, a'.defers, .run, kind, ro⟩ cs w')
  | [], tm, df, w, h => ⟨_, _, h, .one (step_lone_go (by simp [stepG, stepG.exec]))⟩
  | i :: rest, tm, df, w, h => by
    simp only [wpOps] at h
    have skip : ∀ (v : Option Tmp), (ops[i]?).bind (·.dst) = v → ((ops[i]?).map (Region.wanted · (yielded ops tm))).getD false = false → step P (lone ⟨fn, tm, .inRegion ops (i :: rest) :: k, df, .run, kind, ro⟩ cs w) = .next (lone ⟨fn, ((⟨tm, df⟩ : Act).put v undef).tmps, .inRegion ops rest :: k, df, .run, kind, ro⟩ cs w) := fun v hv hs => by
      refine step_lone_go ?_
      simp only [stepG, stepG.exec, hs]
      simp only [Frame.finish, hv]
      cases v <;> rfl
    cases ho : ops[i]? with
    | none =>
      rw [ho] at h skip
      obtain ⟨a', w', h1, h2⟩ := gen_ops hnd hQ (fn := fn) (kind := kind) (ro := ro) (k := k) (cs := cs) rest tm df w h
      exact ⟨a', w', h1, .head (skip none rfl rfl) h2⟩
    | some o =>
      rw [ho] at h skip
      simp only at h
      by_cases hw : Region.wanted o (yielded ops tm) = true
      · rw [if_pos hw] at h
        rcases h with h | ⟨_, a0, w0, hq⟩
        case inr => cases hQ _ _ _ hq
        have hg := stepG_op' (P := P) (fr := ⟨fn, tm, .inRegion ops (i :: rest) :: k, df, .run, kind, ro⟩) (cs := cs) (w := w) rfl rfl ho hw (.inr fun c => hnd i o c ho)
        rw [eval_eq _ df] at hg
        have hfin : ∀ v df', (⟨fn, tm, .inRegion ops (i :: rest) :: k, df', .run, kind, ro⟩ : Frame).finish v = ⟨fn, ((⟨tm, df'⟩ : Act).put o.dst v).tmps, .inRegion ops rest :: k, ((⟨tm, df'⟩ : Act).put o.dst v).defers, .run, kind, ro⟩ := fun v df' => by
          simp only [Frame.finish, ho, Option.bind_some]
          cases o.dst <;> rfl
        simp only [Oper.wp, Oper.upon] at h
        split at h
        · rename_i v w' hr
          obtain ⟨a', w'', h1, h2⟩ := gen_ops hnd hQ (fn := fn) (kind := kind) (ro := ro) (k := k) (cs := cs) rest ((⟨tm, df⟩ : Act).put o.dst v).tmps ((⟨tm, df⟩ : Act).put o.dst v).defers w' h
          refine ⟨a', w'', h1, .head (step_lone_go ?_) h2⟩
          rw [hg, ← hfin]; simp [stepG.apply, hr]
        · rename_i w' hr
          obtain ⟨a', w'', h1, h2⟩ := gen_ops hnd hQ (fn := fn) (kind := kind) (ro := ro) (k := k) (cs := cs) rest ((⟨tm, df⟩ : Act).put o.dst undef).tmps ((⟨tm, df⟩ : Act).put o.dst undef).defers w' h
          refine ⟨a', w'', h1, .head (step_lone_go ?_) h2⟩
          rw [hg, ← hfin]; simp [stepG.apply, hr]
        · rename_i d w' hr
          obtain ⟨a', w'', h1, h2⟩ := gen_ops hnd hQ (fn := fn) (kind := kind) (ro := ro) (k := k) (cs := cs) rest ((⟨tm, d :: df⟩ : Act).put o.dst undef).tmps ((⟨tm, d :: df⟩ : Act).put o.dst undef).defers w' h
          refine ⟨a', w'', h1, .head (step_lone_go ?_) h2⟩
          have hfin' := hfin undef (d :: df)
          rw [hg]; simp only [stepG.apply, Sem.runT_eq, hr, GStep.bare_after]
          exact congrArg (fun fr => GStep.go { frame := fr, callers := cs, status := .running, dying := none } w') hfin'
        · rename_i f args w' hr
          obtain ⟨e, w'', fr, hR, hsteps, _, hleave⟩ := h (⟨fn, tm, .inRegion ops (i :: rest) :: k, df, .run, kind, ro⟩ :: cs)
          have henter : step P (lone ⟨fn, tm, .inRegion ops (i :: rest) :: k, df, .run, kind, ro⟩ cs w) = .next (lone (Frame.enter P f args .normal) (⟨fn, tm, .inRegion ops (i :: rest) :: k, df, .run, kind, ro⟩ :: cs) w') :=
            step_lone_go (by rw [hg]; simp [stepG.apply, hr])
          cases e with
          | returned v =>
            obtain ⟨a', w3, h1, h2⟩ := gen_ops hnd hQ (fn := fn) (kind := kind) (ro := ro) (k := k) (cs := cs) rest ((⟨tm, df⟩ : Act).put o.dst v).tmps ((⟨tm, df⟩ : Act).put o.dst v).defers w'' hR
            refine ⟨a', w3, h1, .head henter (hsteps.trans (.head ?_ h2))⟩
            rw [← hfin]; exact step_leave_returned hleave
          | panicked chain => cases hQ _ _ _ hR
          | outgrown =>
            obtain ⟨a0, w0, hq⟩ := hR
            cases hQ _ _ _ hq
        · rename_i row args w' hr
          obtain ⟨v, w'', hR, hsteps⟩ := h ⟨fn, tm, .inRegion ops (i :: rest) :: k, df, .run, kind, ro⟩ cs
          have henter : step P (lone ⟨fn, tm, .inRegion ops (i :: rest) :: k, df, .run, kind, ro⟩ cs w) = .next (lone (Frame.ofRow P row args .normal) (⟨fn, tm, .inRegion ops (i :: rest) :: k, df, .run, kind, ro⟩ :: cs) w') :=
            step_lone_go (by rw [hg]; simp [stepG.apply, hr])
          obtain ⟨a', w3, h1, h2⟩ := gen_ops hnd hQ (fn := fn) (kind := kind) (ro := ro) (k := k) (cs := cs) rest ((⟨tm, df⟩ : Act).put o.dst v).tmps ((⟨tm, df⟩ : Act).put o.dst v).defers w'' hR
          refine ⟨a', w3, h1, .head henter (hsteps.trans ?_)⟩
          rw [hfin]; exact h2
        · cases hQ _ _ _ h
        · exact h.elim
      · rw [if_neg hw] at h
        obtain ⟨a', w', h1, h2⟩ := gen_ops hnd hQ (fn := fn) (kind := kind) (ro := ro) (k := k) (cs := cs) rest _ _ w h
        refine ⟨a', w', h1, .head ?_ h2⟩
        rw [skip o.dst rfl (by simpa using hw)]
        cases o.dst <;> rfl

theorem WR.cast (H : WR G ρ h w) {n : Nat} (hn : h.next ≤ n) : WR G ρ { h with next := n } w :=
  ⟨H.obj, fun i hi => H.fresh i (Nat.le_trans hn hi), H.inj, H.glob, Nat.le_trans H.gp hn⟩

theorem draw_ok (hmix : P.follows .mixedOrders = true) {nest : FuncId → Array Value → AH → Option (Value × AH)} (hnest : NestOK P G nest) : DrawOK P G (adrawAll P G nest) := by
  intro ops tm h tm' h' hd ρ fr cs w k id H ht hm hto
  unfold adrawAll at hd
  split at hd
  case isFalse => cases hd
  rename_i hc
  simp only [Bool.and_eq_true, Bool.not_eq_true', Array.any_eq_false] at hc
  obtain ⟨hns, hnd⟩ := hc
  have hnd' : ∀ (j : Nat) (o : Oper) c, ops[j]? = some o → o.op ≠ .defer c := fun j o c hj q => by
    obtain ⟨hlt, e⟩ := Array.getElem?_eq_some_iff.1 hj
    have := hnd j hlt
    rw [e, q] at this
    simp [isDefer] at this
  let w1 : World := { w with drawn := w.drawn + 1 }
  have H1 : WR G ρ h w1 := H.drawn _
  have E1 : Ext ρ h w ρ h w1 := Ext.drawn _ _ _ _
  have hpre : ∀ k, (Array.replicate ops.size false).getD k true = false → k < ops.size := fun k hk => by
    rcases Nat.lt_or_ge k ops.size with q | q
    · exact q
    · simp [q] at hk
  have hX : wpX P .any ops (DrawQ G ρ h w fr.defers (tm', h')) [] ops.size (Array.replicate ops.size false) ⟨fr.tmps, fr.defers⟩ w1 := by
    by_cases hal : hasAlloc ops = true
    · rw [if_pos hal] at hd
      exact adraw_ok hnest hns rfl hd (H1.cast (n := h.next + ops.size) (by omega)) (E1.cast (n := h.next + ops.size) (by omega)) ht rfl (Γ := []) (by exact trivial) (by simp) (fun _ => Nat.le_refl _) (by simp) (fun _ k _ _ => H.fresh _ (by omega))
    · rw [if_neg hal] at hd
      exact adraw_ok hnest hns rfl hd H1 E1 ht rfl (Γ := []) (by exact trivial) (by simp) (fun q => absurd q hal) (Nat.le_refl _) (fun q => absurd q hal)
  have hA := wpAny_of_X _ _ _ _ _ hX
  have hO := wpAny_sound ops.size (w.tape w.drawn (.order fr.fn id)) _ _ _ hA
  obtain ⟨fn, tmps, todo, defers, mode, kind, ro⟩ := fr
  simp only at hto hm hO
  subst hto
  subst hm
  obtain ⟨a', w', ⟨_, hdf, ρ', q1, q2, q3⟩, hst⟩ := gen_ops hnd' (fun e a w hq => hq.1) (fn := fn) (kind := kind) (ro := ro) (k := k) (cs := cs) _ _ _ _ hO
  refine ⟨ρ', a'.tmps, w', q1, q2, q3, .head ?_ (by simpa [hdf] using hst)⟩
  refine step_lone_go ?_
  simp only [stepG, stepG.exec]
  simp [choose, Sem.run, Question.forced, Question.cut, Region.schedule, hmix, Region.linearise]
  rfl
end
end Go.AE
