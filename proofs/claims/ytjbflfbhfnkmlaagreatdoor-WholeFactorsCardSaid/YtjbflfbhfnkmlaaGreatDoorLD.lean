import Derived.Test.YtjbflfbhfnkmlaaGreatDoorLC
import Derived.OpenShut
import Derived.Conc.Holds
import Derived.Conc.LeavingOf
import Derived.LoneHanded
import Derived.Eval
import Derived.RunNT
import Derived.Lone
import Derived.Handed
set_option linter.unusedVariables false
set_option linter.unusedSimpArgs false
namespace Go.AE
open Go
section
variable {P : Program} {G : Nat} {ρ : Rho} {h : AH} {w : World}
def DrawQ (G : Nat) (ρ0 : Rho) (h0 : AH) (w0 : World) (ds : List Deferred) (res : Array Value × AH) : Exit → Act → World → Prop := fun e a w =>
  e = .normal ∧ a.defers = ds ∧ ∃ ρ', WR G ρ' res.2 w ∧ Ext ρ0 h0 w0 ρ' res.2 w ∧ renArr ρ' res.1 = some a.tmps
theorem okTake_spec {ops : Array Oper} {listed wt : Array Bool} {i : Nat} {oi : Oper} (hi : ops[i]? = some oi) (hk : okTake ops listed wt i = true) :
    (∀ j oj, ops[j]? = some oj → j ≠ i → listed.getD j true = false → (!wt.getD j false) = true → oi.apart ops oj = true) ∧
    (∀ j oj, ops[j]? = some oj → j ≠ i → listed.getD j true = false → (!wt.getD j false) = false → ∃ e ∈ oj.after, Region.binds .any e = true ∧ (e.on = i ∨ (listed.getD e.on true = false ∧ (!wt.getD e.on false) = false))) := by
  unfold okTake at hk
  rw [hi] at hk
  simp only [List.all_eq_true, List.mem_range] at hk
  refine ⟨fun j oj hj hji hun hw => ?_, fun j oj hj hji hun hw => ?_⟩
  all_goals
    have h1 := hk j (Array.getElem?_eq_some_iff.1 hj).1
    rw [hj, hun] at h1
    simp only [Bool.or_eq_true, beq_iff_eq, hji, false_or, Bool.false_eq_true] at h1
  · simp only [Bool.not_eq_true'] at hw
    rw [if_neg (by rw [hw]; simp)] at h1
    exact h1
  · simp only [Bool.not_eq_false'] at hw
    rw [if_pos hw] at h1
    obtain ⟨e, he, hb⟩ := Array.any_eq_true'.1 h1
    simp only [Bool.and_eq_true, Bool.or_eq_true, beq_iff_eq, Bool.not_eq_true'] at hb
    exact ⟨e, he, hb.1, hb.2.imp id fun ⟨p, q⟩ => ⟨p, by simp [q]⟩⟩
theorem apureV_ok (H : WR G ρ h w) {a : Act} {tm : Array Value} (ht : renArr ρ tm = some a.tmps) {o : Oper} {v : Value} (hv : apureV P G h (evA tm) o = some v) : PureAt P ρ a.eval o v := by
  unfold apureV at hv
  split at hv
  case isFalse => cases hv
  rename_i hok
  have hr : ∀ x ∈ o.op.operands, ren ρ (evA tm x) = some (a.eval x) := fun x hx => by
    rw [evA_eq a]
    exact ev_ren H (a := { tmps := tm, defers := [] }) (b := { tmps := a.tmps, defers := [] }) ht (Array.all_eq_true_iff_forall_mem.1 hok x hx)
  split at hv
  · rename_i v' hp
    cases hv
    exact aptr_ok H o hr hp
  · by_cases hc : (notSelect o.op && o.op.operands.all (fun x => closed (evA tm x))) = true
    case neg => rw [if_neg hc] at hv; cases hv
    rw [if_pos hc] at hv
    simp only [Bool.and_eq_true] at hc
    split at hv
    case h_2 => cases hv
    rename_i v' hp
    split at hv
    case isFalse => cases hv
    rename_i hcv
    cases hv
    have hs : ∀ cs b, o.op ≠ .select cs b := fun cs b q => by rw [q] at hc; simp [notSelect] at hc
    exact ⟨v, closed_ren ρ v hcv, closed_op (P := P) hs hr (fun x hx => Array.all_eq_true_iff_forall_mem.1 hc.2 x hx) hp⟩
theorem aloadV_ok (H : WR G ρ h w) {a : Act} {tm : Array Value} (ht : renArr ρ tm = some a.tmps) {o : Oper} {v : Value} {ad : Addr} {n : Nat} {l : List Value} (hv : aloadV P G h (evA tm) o = some (v, ad, n, l)) :
    ∃ b l' v', renA ρ ad = some b ∧ renL ρ l = some l' ∧ ren ρ v = some v' ∧ (∀ j u, l'[j]? = some u → w.cell? (b.add j) = some u) ∧
      ∀ w', (∀ j u, l'[j]? = some u → w'.cell? (b.add j) = some u) → (execOp a.eval o).run P w' = .ok (.value v') w' := by
  unfold aloadV at hv
  split at hv
  case h_2 => cases hv
  rename_i t x hop
  split at hv
  case isFalse => cases hv
  rename_i hok
  split at hv
  case h_2 => cases hv
  rename_i a0 hce
  split at hv
  case h_2 => cases hv
  rename_i v0 l0 h1 h2
  cases hv
  have hx : ren ρ (evA tm x) = some (a.eval x) := by
    rw [evA_eq a]
    exact ev_ren H (a := { tmps := tm, defers := [] }) (b := { tmps := a.tmps, defers := [] }) ht hok
  rw [hce] at hx
  obtain ⟨b, hb, hx'⟩ := ren_ptr hx
  obtain ⟨l', r1, r2, r3⟩ := cells_ok H h2 hb
  obtain ⟨v', s1, s2⟩ := load_ok H h1 hb
  refine ⟨b, l', v', hb, r1, s1, r3, fun w' hw' => ?_⟩
  have hld := s2 w' fun j hj => by
    have : ∃ u, l'[j]? = some u := ⟨_, List.getElem?_eq_getElem (by omega)⟩
    obtain ⟨u, hu⟩ := this
    rw [hw' j u hu, r3 j u hu]
  simp only [execOp, hop, hx', Instr.loadAt, Instr.sureAddr, Sem.run_bind, Sem.run_pure, Result.andThen_ok, hld]
theorem pick_ok (H : WR G ρ h w) {ops : Array Oper} {listed : Array Bool} {tm : Array Value} {a : Act} (ht : renArr ρ tm = some a.tmps) : ∀ {rs : List Nat} {i : Nat} {v : Value} {gs : List Held}, pick P G ops listed tm h rs = some (i, v, gs) →
    i ∈ rs ∧ ∃ o v' wt S, ops[i]? = some o ∧ okTake ops listed wt i = true ∧ ren ρ v = some v' ∧ YieldsIf P ops S o v' a ∧ S w ∧
      ((gs = [] ∧ ∀ w, S w) ∨ ∃ g, gs = [g] ∧ HeldR ρ g (S, fun j => !wt.getD j false))
  | [], i, v, gs, hp => by simp [pick] at hp
  | k :: rest, i, v, gs, hp => by
    have go : pick P G ops listed tm h rest = some (i, v, gs) → _ := fun q => let ⟨q1, q2⟩ := pick_ok H ht q; And.intro (List.mem_cons_of_mem k q1) q2
    unfold pick at hp
    split at hp
    · cases hp
    rename_i o ho
    dsimp only at hp
    have hy := yielded_ren ht ops
    split at hp
    · rename_i v0 gs0 hr
      split at hp
      · rename_i hk
        cases hp
        refine ⟨List.mem_cons_self .., ?_⟩
        split at hr
        · rename_i hw
          have hw' : Region.wanted o (yielded ops a.tmps) = true := by rw [hy]; exact hw
          split at hr
          · rename_i v1 hv1
            cases hr
            obtain ⟨v', p1, p2⟩ := apureV_ok H ht hv1
            exact ⟨o, v', _, fun _ => True, ho, hk, p1, .inl ⟨hw', fun w' _ => p2 w'⟩, trivial, .inl ⟨rfl, fun _ => trivial⟩⟩
          · split at hr
            · rename_i v1 ad n l hl
              cases hr
              obtain ⟨b, l', v', p1, p2, p3, p4, p5⟩ := aloadV_ok H ht hl
              exact ⟨o, v', _, fun w => ∀ j u, l'[j]? = some u → w.cell? (b.add j) = some u, ho, hk, p3, .inl ⟨hw', p5⟩, p4, .inr ⟨_, rfl, rfl, b, l', p1, p2, rfl⟩⟩
            · cases hr
        · rename_i hw
          cases hr
          have hw' : Region.wanted o (yielded ops a.tmps) = false := by rw [hy]; simpa using hw
          exact ⟨o, undef, _, fun _ => True, ho, hk, ren_undef ρ, .inr ⟨hw', rfl⟩, trivial, .inl ⟨rfl, fun _ => trivial⟩⟩
      · exact go hp
    · exact go hp
theorem same_sound {r s : Array Value × AH} (hs : same r s = true) : r = s := by
  unfold same at hs
  simp only [Bool.and_eq_true] at hs
  obtain ⟨r1, r2⟩ := r
  obtain ⟨s1, s2⟩ := s
  obtain ⟨n1, m1⟩ := r2
  obtain ⟨n2, m2⟩ := s2
  simp only at hs
  rw [veqA_sound _ _ hs.1, Nat.eq_of_beq_eq_true hs.2.1, teq_sound _ _ hs.2.2]
theorem branches_ok {nest : FuncId → Array Value → AH → Option (Value × AH)} {base : Nat} {ops : Array Oper} {rec_ : Nat → List Held → Array Value → AH → Option (Array Value × AH)} {gs : List Held} {tm : Array Value} : ∀ {rs : List Nat} {r : Array Value × AH},
    branches P G nest base ops rec_ gs tm h rs = some r → ∀ i ∈ rs, ∃ o v h', ops[i]? = some o ∧ Region.wanted o (yielded ops tm) = true ∧ perform P G nest base o i tm h = some (v, h') ∧ gs.all (heldOk h' i) = true ∧
      rec_ i (gs.filter fun g => !g.wt.getD i false) (putA ops i tm v) h' = some r
  | [], r, hb, i, hi => by cases hi
  | k :: rest, r, hb, i, hi => by
    unfold branches at hb
    split at hb
    · cases hb
    rename_i o ho
    split at hb
    case isFalse => cases hb
    rename_i hw
    split at hb
    case h_2 => cases hb
    rename_i v h' hp
    split at hb
    case isFalse => cases hb
    rename_i hall
    split at hb
    case h_2 => cases hb
    rename_i r0 hr
    have hd : r0 = r ∧ (rest = [] ∨ branches P G nest base ops rec_ gs tm h rest = some r) := by
      split at hb
      · cases hb; exact ⟨rfl, .inl rfl⟩
      · split at hb
        case h_2 => cases hb
        rename_i s hs
        split at hb
        case isFalse => cases hb
        rename_i hsame
        cases hb
        have := same_sound hsame
        subst this
        exact ⟨rfl, .inr hs⟩
    obtain ⟨rfl, hrest⟩ := hd
    rcases List.mem_cons.1 hi with rfl | hi
    · exact ⟨o, v, h', ho, hw, hp, hall, hr⟩
    · rcases hrest with rfl | hrest
      · cases hi
      · exact branches_ok hrest i hi
theorem adraw_ok {nest : FuncId → Array Value → AH → Option (Value × AH)} (hnest : NestOK P G nest) {base : Nat} {ops : Array Oper} (hns : Region.noSelect ops = true) {ρ0 : Rho} {h0 : AH} {w0 : World} (hbase : h0.next = base) {ds : List Deferred} :
    ∀ {f : Nat} {listed : Array Bool} {gs : List Held} {tm : Array Value} {h : AH} {res : Array Value × AH}, adraw P G nest base ops f listed gs tm h = some res →
    ∀ {ρ : Rho} {a : Act} {w : World} {Γ : List Watch}, WR G ρ h w → Ext ρ0 h0 w0 ρ h w → renArr ρ tm = some a.tmps → a.defers = ds → HeldsR ρ gs Γ → (∀ g ∈ Γ, g.1 w) →
      (hasAlloc ops = true → base + ops.size ≤ h.next) → base ≤ h.next → (hasAlloc ops = true → ∀ k, k < ops.size → listed.getD k true = false → ρ.blk (base + k) = none) → wpX P .any ops (DrawQ G ρ0 h0 w0 ds res) Γ f listed a w
  | 0, listed, gs, tm, h, res, hd, ρ, a, w, Γ, H, E, ht, hdf, hG, hΓ, hn, hbn, hΩ => by
    unfold adraw at hd
    split at hd
    case isFalse => cases hd
    rename_i hr
    cases hd
    exact ⟨by simpa using hr, rfl, hdf, ρ, H, E, ht⟩
  | f + 1, listed, gs, tm, h, res, hd, ρ, a, w, Γ, H, E, ht, hdf, hG, hΓ, hn, hbn, hΩ => by
    unfold adraw at hd
    split at hd
    · rename_i hr
      cases hd
      exact ⟨fun _ => ⟨rfl, hdf, ρ, H, E, ht⟩, fun i hi => (by rw [hr] at hi; cases hi)⟩
    · rename_i r rs hr
      split at hd
      ·
        rename_i i v g hp
        obtain ⟨hmem, o, v', wt, S, ho, hk, hv, hy, hS, hg⟩ := pick_ok (P := P) H ht hp
        obtain ⟨k1, k2⟩ := okTake_spec ho hk
        have hpd : (a.put o.dst v').defers = ds := by
          cases o.dst <;> exact hdf
        have hΩ' : hasAlloc ops = true → ∀ k, k < ops.size → (listed.setIfInBounds i true).getD k true = false → ρ.blk (base + k) = none := fun hal k hk hun => by
          refine hΩ hal k hk ?_
          by_cases q : i = k
          · subst q
            exact (mem_ready.1 (hr ▸ hmem)).1
          · rw [getD_set_ne true q] at hun; exact hun
        refine wpX_first ho (Region.noSelect_spec hns) (fun c a w q => by cases q.1) f Γ listed a w k1 k2 (hr ▸ hmem) hy hS hΓ ?_
        rcases hg with ⟨rfl, hall⟩ | ⟨g0, rfl, hg0⟩
        · have := adraw_ok hnest hns hbase hd H E (putA_ren ho ht hv) hpd hG hΓ hn hbn hΩ'
          exact wpX_imp _ _ _ _ _ _ (fun q hq => by
            rcases List.mem_cons.1 hq with rfl | hq
            · exact .inr hall
            · exact .inl hq) this
        · exact adraw_ok hnest hns hbase hd H E (putA_ren ho ht hv) hpd (Γ := (S, fun j => !wt.getD j false) :: Γ) ⟨hg0, hG⟩ (fun q hq => by
            rcases List.mem_cons.1 hq with rfl | hq
            · exact hS
            · exact hΓ q hq) hn hbn hΩ'
      ·
        refine ⟨fun q => (by rw [hr] at q; cases q), fun i hi => ?_⟩
        rw [hr] at hi
        obtain ⟨o, v, h', ho, hw, hpf, hall, hrec⟩ := branches_ok hd i hi
        have hw' : Region.wanted o (yielded ops a.tmps) = true := by rw [yielded_ren ht]; exact hw
        have hisz := (Array.getElem?_eq_some_iff.1 ho).1
        have hun := (mem_ready.1 (hr ▸ hi : i ∈ Region.ready .any ops listed)).1
        have hal : (∃ t, o.op = .alloc t) → hasAlloc ops = true := fun ⟨t, q⟩ => by
          unfold hasAlloc
          exact Array.any_eq_true'.2 ⟨o, Array.mem_of_getElem? ho, by rw [q]⟩
        refine perform_ok hnest hpf H ht ho hw' (fun q => hΩ (hal q) i hisz hun) hbn fun ρ' v' w' W' E' hlow hnx hv' => ?_
        have E2 := (E.cast (n := base) (by omega)).trans E'
        obtain ⟨c1, c2⟩ := held_after W' E'.le i hG hall
        refine ⟨c1, adraw_ok hnest hns hbase hrec W' E2 (putA_ren ho (renArr_mono E'.le _ _ ht) hv') ?_ c2 (fun g hg => c1 g (List.mem_filter.1 hg).1 (List.mem_filter.1 hg).2) (fun q => Nat.le_trans (hn q) hnx) (Nat.le_trans hbn hnx) fun hala k hk hunk => ?_⟩
        · cases o.dst <;> exact hdf
        · have hki : k ≠ i := by
            rintro rfl
            have hls : k < listed.size := by
              rcases Nat.lt_or_ge k listed.size with q | q
              · exact q
              · simp [Array.getElem?_eq_none q] at hun
            simp [hls] at hunk
          have hold : listed.getD k true = false := by rw [getD_set_ne true (Ne.symm hki)] at hunk; exact hunk
          have q := hn hala
          rw [hlow k hki (by omega)]
          exact hΩ hala k hk hold
end
end Go.AE
namespace Go.AE
open Go
section
variable {P : Program} {G : Nat} {ρ : Rho} {h : AH} {w : World}
theorem gen_ops {ops : Array Oper} (hnd : ∀ (j : Nat) (o : Oper) c, ops[j]? = some o → o.op ≠ .defer c) {Q : Exit → Act → World → Prop} (hQ : ∀ e a w, Q e a w → e = .normal) {fn : FuncId} {kind : CallKind} {ro : Option Nat} {k : List Item} {cs : List Frame} :
    ∀ (l : List Nat) (tm : Array Value) (df : List Deferred) (w : World), wpOps P ops Q l ⟨tm, df⟩ w →
      ∃ a' w', Q .normal a' w' ∧ Steps P (lone ⟨fn, tm, .inRegion ops l :: k, df, .run, kind, ro⟩ cs w) (lone ⟨fn, a'.tmps, k, a'.defers, .run, kind, ro⟩ cs w')
  | [], tm, df, w, h => ⟨_, _, h, .one (step_lone_go (by simp [stepG, stepG.exec]))⟩
  | i :: rest, tm, df, w, h => by
    simp only [wpOps] at h
    have skip : ∀ (v : Option Tmp), (ops[i]?).bind (·.dst) = v → ((ops[i]?).map (Region.wanted · (yielded ops tm))).getD false = false → step P (lone ⟨fn, tm, .inRegion ops (i :: rest) :: k, df, .run, kind, ro⟩ cs w) = .next (lone ⟨fn, ((⟨tm, df⟩ : Act).put v undef).tmps, .inRegion ops rest :: k, df, .run, kind, ro⟩ cs w) := fun v hv hs => by
      refine step_lone_go ?_
      simp only [stepG, stepG.exec, hs]
      simp only [Frame.finish, hv]
      cases v <;> rfl
    cases ho : ops[i]? with
    | none =>
      rw [ho] at h skip
      obtain ⟨a', w', h1, h2⟩ := gen_ops hnd hQ (fn := fn) (kind := kind) (ro := ro) (k := k) (cs := cs) rest tm df w h
      exact ⟨a', w', h1, .head (skip none rfl rfl) h2⟩
    | some o =>
      rw [ho] at h skip
      simp only at h
      by_cases hw : Region.wanted o (yielded ops tm) = true
      · rw [if_pos hw] at h
        rcases h with h | ⟨_, a0, w0, hq⟩
        case inr => cases hQ _ _ _ hq
        have hg := stepG_op' (P := P) (fr := ⟨fn, tm, .inRegion ops (i :: rest) :: k, df, .run, kind, ro⟩) (cs := cs) (w := w) rfl rfl ho hw (.inr fun c => hnd i o c ho)
        rw [eval_eq _ df] at hg
        have hfin : ∀ v df', (⟨fn, tm, .inRegion ops (i :: rest) :: k, df', .run, kind, ro⟩ : Frame).finish v = ⟨fn, ((⟨tm, df'⟩ : Act).put o.dst v).tmps, .inRegion ops rest :: k, ((⟨tm, df'⟩ : Act).put o.dst v).defers, .run, kind, ro⟩ := fun v df' => by
          simp only [Frame.finish, ho, Option.bind_some]
          cases o.dst <;> rfl
        simp only [Oper.wp, Oper.upon] at h
        split at h
        · rename_i v w' hr
          obtain ⟨a', w'', h1, h2⟩ := gen_ops hnd hQ (fn := fn) (kind := kind) (ro := ro) (k := k) (cs := cs) rest ((⟨tm, df⟩ : Act).put o.dst v).tmps ((⟨tm, df⟩ : Act).put o.dst v).defers w' h
          refine ⟨a', w'', h1, .head (step_lone_go ?_) h2⟩
          rw [hg, ← hfin]; simp [stepG.apply, hr]
        · rename_i w' hr
          obtain ⟨a', w'', h1, h2⟩ := gen_ops hnd hQ (fn := fn) (kind := kind) (ro := ro) (k := k) (cs := cs) rest ((⟨tm, df⟩ : Act).put o.dst undef).tmps ((⟨tm, df⟩ : Act).put o.dst undef).defers w' h
          refine ⟨a', w'', h1, .head (step_lone_go ?_) h2⟩
          rw [hg, ← hfin]; simp [stepG.apply, hr]
        · rename_i d w' hr
          obtain ⟨a', w'', h1, h2⟩ := gen_ops hnd hQ (fn := fn) (kind := kind) (ro := ro) (k := k) (cs := cs) rest ((⟨tm, d :: df⟩ : Act).put o.dst undef).tmps ((⟨tm, d :: df⟩ : Act).put o.dst undef).defers w' h
          refine ⟨a', w'', h1, .head (step_lone_go ?_) h2⟩
          have hfin' := hfin undef (d :: df)
          rw [hg]; simp only [stepG.apply, Sem.runT_eq, hr, GStep.bare_after]
          exact congrArg (fun fr => GStep.go { frame := fr, callers := cs, status := .running, dying := none } w') hfin'
        · rename_i f args w' hr
          obtain ⟨e, w'', fr, hR, hsteps, _, hleave⟩ := h (⟨fn, tm, .inRegion ops (i :: rest) :: k, df, .run, kind, ro⟩ :: cs)
          have henter : step P (lone ⟨fn, tm, .inRegion ops (i :: rest) :: k, df, .run, kind, ro⟩ cs w) = .next (lone (Frame.enter P f args .normal) (⟨fn, tm, .inRegion ops (i :: rest) :: k, df, .run, kind, ro⟩ :: cs) w') :=
            step_lone_go (by rw [hg]; simp [stepG.apply, hr])
          cases e with
          | returned v =>
            obtain ⟨a', w3, h1, h2⟩ := gen_ops hnd hQ (fn := fn) (kind := kind) (ro := ro) (k := k) (cs := cs) rest ((⟨tm, df⟩ : Act).put o.dst v).tmps ((⟨tm, df⟩ : Act).put o.dst v).defers w'' hR
            refine ⟨a', w3, h1, .head henter (hsteps.trans (.head ?_ h2))⟩
            rw [← hfin]; exact step_leave_returned hleave
          | panicked chain => cases hQ _ _ _ hR
          | outgrown =>
            obtain ⟨a0, w0, hq⟩ := hR
            cases hQ _ _ _ hq
        · rename_i row args w' hr
          obtain ⟨v, w'', hR, hsteps⟩ := h ⟨fn, tm, .inRegion ops (i :: rest) :: k, df, .run, kind, ro⟩ cs
          have henter : step P (lone ⟨fn, tm, .inRegion ops (i :: rest) :: k, df, .run, kind, ro⟩ cs w) = .next (lone (Frame.ofRow P row args .normal) (⟨fn, tm, .inRegion ops (i :: rest) :: k, df, .run, kind, ro⟩ :: cs) w') :=
            step_lone_go (by rw [hg]; simp [stepG.apply, hr])
          obtain ⟨a', w3, h1, h2⟩ := gen_ops hnd hQ (fn := fn) (kind := kind) (ro := ro) (k := k) (cs := cs) rest ((⟨tm, df⟩ : Act).put o.dst v).tmps ((⟨tm, df⟩ : Act).put o.dst v).defers w'' hR
          refine ⟨a', w3, h1, .head henter (hsteps.trans ?_)⟩
          rw [hfin]; exact h2
        · cases hQ _ _ _ h
        · exact h.elim
      · rw [if_neg hw] at h
        obtain ⟨a', w', h1, h2⟩ := gen_ops hnd hQ (fn := fn) (kind := kind) (ro := ro) (k := k) (cs := cs) rest _ _ w h
        refine ⟨a', w', h1, .head ?_ h2⟩
        rw [skip o.dst rfl (by simpa using hw)]
        cases o.dst <;> rfl
theorem WR.cast (H : WR G ρ h w) {n : Nat} (hn : h.next ≤ n) : WR G ρ { h with next := n } w :=
  ⟨H.obj, fun i hi => H.fresh i (Nat.le_trans hn hi), H.inj, H.glob, Nat.le_trans H.gp hn⟩
theorem draw_ok (hmix : P.follows .mixedOrders = true) {nest : FuncId → Array Value → AH → Option (Value × AH)} (hnest : NestOK P G nest) : DrawOK P G (adrawAll P G nest) := by
  intro ops tm h tm' h' hd ρ fr cs w k id H ht hm hto
  unfold adrawAll at hd
  split at hd
  case isFalse => cases hd
  rename_i hc
  simp only [Bool.and_eq_true, Bool.not_eq_true', Array.any_eq_false] at hc
  obtain ⟨hns, hnd⟩ := hc
  have hnd' : ∀ (j : Nat) (o : Oper) c, ops[j]? = some o → o.op ≠ .defer c := fun j o c hj q => by
    obtain ⟨hlt, e⟩ := Array.getElem?_eq_some_iff.1 hj
    have := hnd j hlt
    rw [e, q] at this
    simp [isDefer] at this
  let w1 : World := { w with drawn := w.drawn + 1 }
  have H1 : WR G ρ h w1 := H.drawn _
  have E1 : Ext ρ h w ρ h w1 := Ext.drawn _ _ _ _
  have hpre : ∀ k, (Array.replicate ops.size false).getD k true = false → k < ops.size := fun k hk => by
    rcases Nat.lt_or_ge k ops.size with q | q
    · exact q
    · simp [q] at hk
  have hX : wpX P .any ops (DrawQ G ρ h w fr.defers (tm', h')) [] ops.size (Array.replicate ops.size false) ⟨fr.tmps, fr.defers⟩ w1 := by
    by_cases hal : hasAlloc ops = true
    · rw [if_pos hal] at hd
      exact adraw_ok hnest hns rfl hd (H1.cast (n := h.next + ops.size) (by omega)) (E1.cast (n := h.next + ops.size) (by omega)) ht rfl (Γ := []) (by exact trivial) (by simp) (fun _ => Nat.le_refl _) (by simp) (fun _ k _ _ => H.fresh _ (by omega))
    · rw [if_neg hal] at hd
      exact adraw_ok hnest hns rfl hd H1 E1 ht rfl (Γ := []) (by exact trivial) (by simp) (fun q => absurd q hal) (Nat.le_refl _) (fun q => absurd q hal)
  have hA := wpAny_of_X _ _ _ _ _ hX
  have hO := wpAny_sound ops.size (w.tape w.drawn (.order fr.fn id)) _ _ _ hA
  obtain ⟨fn, tmps, todo, defers, mode, kind, ro⟩ := fr
  simp only at hto hm hO
  subst hto
  subst hm
  obtain ⟨a', w', ⟨_, hdf, ρ', q1, q2, q3⟩, hst⟩ := gen_ops hnd' (fun e a w hq => hq.1) (fn := fn) (kind := kind) (ro := ro) (k := k) (cs := cs) _ _ _ _ hO
  refine ⟨ρ', a'.tmps, w', q1, q2, q3, .head ?_ (by simpa [hdf] using hst)⟩
  refine step_lone_go ?_
  simp only [stepG, stepG.exec]
  simp [choose, Sem.run, Question.forced, Question.cut, Region.schedule, hmix, Region.linearise]
  rfl
end
end Go.AE
namespace Go.AE
open Go
section
variable {P : Program} {G : Nat} {ρ : Rho} {h : AH} {w : World} {cs cs0 : List Frame}
theorem StepTo.refl {s : AS} {fr : Frame} (H : SR G ρ s fr cs w) : StepTo P G ρ s s fr cs cs0 w := ⟨ρ, fr, cs, w, H, Ext.refl _ _ _, .refl _ _⟩
theorem iter_ok {hk : FuncId → Array Value → AH → Option (Value × AH)} (hhk : NestOK P G hk) {draw : Array Oper → Array Value → AH → Option (Array Value × AH)} (hdraw : DrawOK P G draw) : ∀ (n : Nat) {s s' : AS} {ρ : Rho} {fr : Frame} {cs : List Frame} {w : World}, SR G ρ s fr cs w → iter (astep P G hk draw) n s = some s' → StepTo P G ρ s s' fr cs cs0 w
  | 0, s, s', ρ, fr, cs, w, H, hi => by
    simp only [iter] at hi
    cases hi
    exact StepTo.refl H
  | n + 1, s, s', ρ, fr, cs, w, H, hi => by
    simp only [iter] at hi
    cases q : astep P G hk draw s with
    | none =>
      rw [q] at hi
      cases hi
      exact StepTo.refl H
    | some s1 =>
      rw [q] at hi
      obtain ⟨ρ1, fr1, cs1, w1, H1, E1, S1⟩ := astep_ok (cs0 := cs0) hhk hdraw H q
      obtain ⟨ρ2, fr2, cs2, w2, H2, E2, S2⟩ := iter_ok hhk hdraw n H1 hi
      exact ⟨ρ2, fr2, cs2, w2, H2, E1.trans E2, S1.trans S2⟩
theorem final_ok {s : AS} {fr : Frame} (H : SR G ρ s fr cs w) {v : Value} {h' : AH} (hf : afinal P s = some (v, h')) : cs = [] ∧ h' = s.h ∧ ∃ v', ren ρ v = some v' ∧ fr.leaving P w (.returned v') := by
  unfold afinal at hf
  split at hf
  case h_2 => cases hf
  rename_i fn hcs hm hd hfn
  split at hf
  case h_2 => cases hf
  rename_i hk
  obtain ⟨v0, hv, he⟩ := Option.map_eq_some_iff.1 hf
  cases he
  have hc := H.cs
  rw [hcs] at hc
  obtain ⟨v', h1, h2⟩ := results_ok H.w H.fr.tmps hv
  have hmd := H.fr.mode
  rw [hm] at hmd
  have hdd := H.fr.defers
  rw [hd] at hdd
  refine ⟨?_, rfl, v', h1, ?_, ?_, ?_, fn, ?_, h2⟩
  · cases cs with
    | nil => rfl
    | cons c cs => exact hc.elim
  · simpa [renM] using hmd.symm
  · simpa [renDs] using hdd.symm
  · rw [H.fr.kind]; exact hk
  · rw [H.fr.fn]; exact hfn
end
end Go.AE
namespace Go.AE
open Go
def mkH (next : Nat) (l : List (Nat × AObj)) : AH := l.foldl (fun h x => h.put x.1 (some x.2)) { next, m := .lf }
def look (ids : List Nat) (s : AS) : Frame × List Frame × Nat × List (Option AObj) := (s.fr, s.cs, s.h.next, ids.map s.h.get)
theorem mkH_next (next : Nat) : ∀ (l : List (Nat × AObj)) (h : AH), h.next = next → (l.foldl (fun h x => h.put x.1 (some x.2)) h).next = next
  | [], _h, e => e
  | x :: l, h, e => mkH_next next l (h.put x.1 (some x.2)) e
theorem mkH_get : ∀ (l : List (Nat × AObj)) (h : AH) (i : Nat) (o : AObj), (l.foldl (fun h x => h.put x.1 (some x.2)) h).get i = some o → (i, o) ∈ l ∨ h.get i = some o
  | [], h, i, o, e => .inr e
  | x :: l, h, i, o, e => by
    rcases mkH_get l (h.put x.1 (some x.2)) i o e with q | q
    · exact .inl (List.mem_cons_of_mem _ q)
    · rw [AH.get_put] at q
      split at q
      · rename_i hi
        cases q
        exact .inl (by rw [hi]; exact List.mem_cons_self ..)
      · exact .inr q
section
variable {P : Program} {G : Nat} {ρ : Rho} {h : AH} {w : World} {cs cs0 : List Frame}
theorem WR.sub (H : WR G ρ h w) {h' : AH} (hn : h'.next = h.next) (hs : ∀ i o, h'.get i = some o → h.get i = some o) : WR G ρ h' w :=
  ⟨fun i o e => H.obj i o (hs i o e), fun i hi => H.fresh i (by omega), fun i j o p b e1 e2 => H.inj i j o p b (hs _ _ e1) (hs _ _ e2), H.glob, by rw [hn]; exact H.gp⟩
theorem Ext.sub {ρ0 : Rho} {h0 : AH} {w0 : World} (E : Ext ρ0 h0 w0 ρ h w) {h' : AH} (hn : h'.next = h.next) (hs : ∀ i o, h'.get i = some o → h.get i = some o) : Ext ρ0 h0 w0 ρ h' w :=
  ⟨E.le, E.low, by rw [hn]; exact E.next, E.size, E.pres, fun b hb hw => E.shrink b hb (let ⟨i, o, e1, e2, e3⟩ := hw; ⟨i, o, hs i o e1, e2, e3⟩), E.tape, E.os, E.output⟩
theorem calls_of_segs {f : FuncId} {args args' : Array Value} {s : AS} {v : Value} {h' : AH} (_H : WR G ρ h w) (_ha : renArr ρ args = some args')
    (hs : ∀ cs0, StepTo P G ρ ⟨Frame.enter P f args .normal, [], h⟩ s (Frame.enter P f args' .normal) [] cs0 w) (hf : afinal P s = some (v, h')) (hfn : s.fr.fn = f) :
    Calls P f args' w fun e w' => ∃ ρ' v', e = .returned v' ∧ WR G ρ' h' w' ∧ Ext ρ h w ρ' h' w' ∧ ren ρ' v = some v' := by
  intro cs0
  obtain ⟨ρ', fr', cs', w', H', E', S'⟩ := hs cs0
  obtain ⟨rfl, rfl, v', h1, h2⟩ := final_ok H' hf
  refine ⟨.returned v', w', fr', ⟨ρ', v', rfl, H'.w, E', h1⟩, S', ?_, h2⟩
  rw [H'.fr.fn, hfn]
theorem start_ok {f : FuncId} {args args' : Array Value} (H : WR G ρ h w) (ha : renArr ρ args = some args') :
    StepTo P G ρ ⟨Frame.enter P f args .normal, [], h⟩ ⟨Frame.enter P f args .normal, [], h⟩ (Frame.enter P f args' .normal) [] cs0 w :=
  StepTo.refl ⟨enter_ren ha f .normal, trivial, H⟩
end
end Go.AE
namespace Go.AE
open Go
section
variable {P : Program} {G : Nat} {ρ : Rho} {h : AH} {w : World}
theorem WR.grow (H : WR G ρ h w) (x : Obj) : WR G ρ h (w.alloc x) := by
  refine ⟨fun i o e => ?_, H.fresh, H.inj, H.glob, H.gp⟩
  obtain ⟨b, y, h1, h2, h3⟩ := H.obj i o e
  have hb := (Array.getElem?_eq_some_iff.1 h2).1
  exact ⟨b, y, h1, by simp only [World.alloc]; rw [Array.getElem?_push, if_neg (Nat.ne_of_lt hb), h2], h3⟩
theorem Ext.grow {ρ0 : Rho} {h0 : AH} {w0 : World} (E : Ext ρ0 h0 w0 ρ h w) (x : Obj) : Ext ρ0 h0 w0 ρ h (w.alloc x) :=
  ⟨E.le, E.low, E.next, by simp only [World.alloc, Array.size_push]; have := E.size; omega, fun b hb hn => by
    have hs := E.size
    simp only [World.alloc]
    rw [Array.getElem?_push, if_neg (by omega)]
    exact E.pres b hb hn, E.shrink, E.tape, E.os, E.output⟩
theorem cell_of (H : WR G ρ h w) {a b : Addr} {c : List Value} {el : TypeId} {o : Option Nat} (hg : h.get a.block = some (.cells c el o false)) (hb : renA ρ a = some b) (hlt : a.off < c.length) : ∃ old, w.cell? b = some old ∧ w.frozen? b = false := by
  obtain ⟨hs, hbf, hblk⟩ := renA_form hb
  obtain ⟨b', x, q1, q2, q3⟩ := H.obj _ _ hg
  rw [hblk] at q1; cases q1
  cases x <;> simp only [ObjR] at q3
  rename_i arr t' fz
  obtain ⟨_, ⟨c', tail, r1, r2, _⟩, r4, _, _⟩ := q3
  have hlen := renL_length r2
  have hal : arr.size = c'.length + tail.length := by
    have := congrArg List.length r1
    simpa using this
  have hlt' : a.off < arr.size := by omega
  refine ⟨arr[a.off], ?_, ?_⟩
  · rw [hbf]
    simp [World.cell?, q2, hlt']
  · rw [hbf]
    obtain ⟨lo, hi⟩ := fz
    simp only [World.frozen?, q2]
    rcases r4.resolve_left (by simp) with r4 | r4
    · cases r4; simp
    · simp only at r4
      have : ¬ lo ≤ a.off := by omega
      simp [this]
end
end Go.AE
namespace Go.AE
open Go
section
variable {P : Program} {w : World}
def litV : DataW Unit → Value
  | .lit l => l.value
  | _ => undef
theorem trod_int {H : Type} {enc : TypeId × Value → H} {base : Nat} {spare : Nat → Bool} {held : Bool} {fuel : Nat} {t : TypeId} {k : IntKind} {cs : List Value} {x : DataW H × List MemPlace} (ht : P.underlying t = some (.int k))
    (h : DataW.trod enc P w base spare held fuel t cs = some x) : ∃ n, cs = [.int k n] ∧ x.1 = .lit (.int k n) := by
  cases fuel with
  | zero => simp [DataW.trod] at h
  | succ m =>
    unfold DataW.trod at h
    rw [ht] at h
    split at h <;> simp_all
    obtain ⟨⟨rfl, _⟩, rfl⟩ := h
    rfl
theorem drop_take_one {α : Type} : ∀ (cs : List α) (i : Nat) (v : α), (cs.drop i).take 1 = [v] → cs[i]? = some v
  | [], i, v, h => by simp at h
  | c :: cs, 0, v, h => by simp at h; simp [h]
  | c :: cs, i + 1, v, h => by
    have := drop_take_one cs i v (by simpa using h)
    simpa using this
theorem table_cells {fuel : Nat} {t e : TypeId} {k : IntKind} {n : Nat} {cs : List Value} {ds : List (DataW Unit)} {p : List MemPlace} {base : Nat} {spare : Nat → Bool} {held : Bool} (ht : P.underlying t = some (.array n e)) (he : P.underlying e = some (.int k)) (hce : P.cellsOf e = 1) (hct : P.cellsOf t = n)
    (h : DataW.trod (fun _ => ()) P w base spare held fuel t cs = some (.agg ds, p)) : cs = ds.map litV := by
  obtain ⟨xs, m, _, hx, hlen, hxn, hget⟩ := DataW.trod_array ht h
  have hds : ds = xs.map (·.1) := by
    have := congrArg Prod.fst hx
    simpa using this
  subst hds
  rw [hct] at hlen
  refine List.ext_getElem? fun i => ?_
  rcases Nat.lt_or_ge i n with hi | hi
  · have h1 := hget i hi
    rw [hce, Nat.mul_one] at h1
    have hxi : xs[i]? = some xs[i] := List.getElem?_eq_getElem (by omega)
    rw [hxi] at h1
    obtain ⟨z, h2, h3⟩ := trod_int he h1
    rw [drop_take_one _ _ _ h2]
    simp [hxi, h3, litV, Lit.value]
  · rw [List.getElem?_eq_none (by omega), List.getElem?_eq_none (by simp; omega)]
end
section
variable {P : Program}
theorem runN_last : ∀ (n : Nat) (m m' : Machine), runN P n m = .next m' → runN P (n + 1) m = step P m'
  | 0, m, m', h => by
    simp only [runN] at h
    cases h
    simp only [runN]
    cases step P m <;> rfl
  | n + 1, m, m', h => by
    rw [runN] at h ⊢
    cases q : step P m with
    | next m1 => rw [q] at h; exact runN_last n m1 m' h
    | ended o w => rw [q] at h; cases h
theorem good_of_calls {f : FuncId} {args : Array Value} {w : World} {Post : Value → World → Prop} (h : Calls P f args w fun e w' => ∃ v, e = .returned v ∧ Post v w') (hi : P.inits.idxOf? f = none) :
    ∃ M last o w' t', runNT P (M + 1) (Conc.solo (Conc.G (Frame.enter P f args .normal) []) w) #[] = (.ended o w', t') ∧ runN P M (Conc.solo (Conc.G (Frame.enter P f args .normal) []) w) = .next last ∧
      step P last = .ended o w' ∧ Conc.Good P Post last o w' t' := by
  obtain ⟨e, w', fr, ⟨v, rfl, hR⟩, hcomes, hfn, hleave⟩ := h []
  obtain ⟨n, hn⟩ := hcomes
  have hst : step P (lone fr [] w') = .ended (.done v) w' := step_leave_done hleave (by rw [hfn]; exact hi)
  have hn1 : runN P (n + 1) (lone (Frame.enter P f args .normal) [] w) = .ended (.done v) w' := by
    rw [runN_last n _ _ hn]
    exact hst
  refine ⟨n, lone fr [] w', .done v, w', (runNT P (n + 1) (lone (Frame.enter P f args .normal) [] w) #[]).2, Prod.ext (by rw [show Conc.solo (Conc.G (Frame.enter P f args .normal) []) w = lone (Frame.enter P f args .normal) [] w from rfl, runNT_fst, hn1]) rfl, hn, hst, v, rfl, hR, ?_, handedOver_of_lone hn, ⟨?_, rfl⟩, ?_⟩
  · intro said
    exact (no_race_of_lone (said := said) P n _ _ hn (by simp [lone]) rfl).2
  · intro g hg
    simp [lone] at hg
  · intro i g hg hi0
    exfalso
    have : i < 1 := by
      have := (Array.getElem?_eq_some_iff.1 hg).1
      simpa [lone] using this
    omega
theorem returnsInLeavingWide_of_change_and {H : Type} {enc : TypeId × Value → H} {a : Assume} {C : Checked} {os : Os} {f : FuncId} {fn : Func} {s : ChangeSpec} {conds : List PathCond} {apart fresh handsOn again : Bool} {X : World → Array Value → Prop}
    (hX : ∀ (w w' : World) (args : Array Value), w.heap = w'.heap → X w args → X w' args)
    (own : ownKnob C.prog.godebug = none) (started : os.Started) (noInit : C.prog.inits.idxOf? f = none) (hfn : C.prog.funcs[f]? = some fn)
    (witness : ∃ (w : World) (tape : Tape) (i : Input), w.os = os ∧ (w.forCall tape i).Shaped C.prog ∧ i.vars = [] ∧ Input.okWide C.prog (w.forCall tape i) .any w.heap.size f i ∧
      ((s.pre enc C.prog fn conds apart (w.forCall tape i).memory i.args ∧ X (w.forCall tape i).memory i.args) ∧ sizedMet enc C.prog fn (OpenSpec.ofChange s) apart (w.forCall tape i).memory i.args) ∧ a.holds C.prog (lone (Frame.enter C.prog f i.args .normal) [] (w.forCall tape i)))
    (contract : ∀ (W : World) (base : Nat) (args : Array Value) (ds gs : List (DataW H)) (before : List MemPlace),
      (∀ (j : Nat) t v, fn.params[j]? = some t → args[j]? = some v → Value.okWide C.prog W .any base t v) →
      DataW.Whole enc C.prog fn.params.toList s.vars apart W args.toList ds gs before → X W args → W.ShapedOpen C.prog →
      Calls C.prog f args W fun e W' => ∃ v, e = .returned v ∧ s.post enc C.prog fn apart fresh handsOn again W args v W') :
    ReturnsInLeavingWide a C os f .any (fun w args => (s.pre enc C.prog fn conds apart w args ∧ X w args) ∧ sizedMet enc C.prog fn (OpenSpec.ofChange s) apart w args) (s.post enc C.prog fn apart fresh handsOn again) := by
  refine returnsInLeavingWide_of_good own started witness ?_
  intro w tape i _ hsh _ hok hpre hholds
  obtain ⟨_, _, _, fn', hfn', _, _, _, _, hval⟩ := hok
  have e : fn' = fn := Option.some.inj (hfn'.symm.trans hfn)
  subst e
  obtain ⟨⟨⟨ds, gs, before, hw, hc⟩, hx⟩, hz⟩ := hpre
  have hw' := DataW.Whole.of_heap (w' := w.forCall tape i) (by rfl) hw
  obtain ⟨M, last, o, w', t', h1, h2, h3, h4⟩ := good_of_calls (contract (w.forCall tape i) w.heap.size i.args ds gs before hval hw' (hX _ _ _ (by rfl) hx) hsh) noInit
  exact ⟨M, last, o, w', t', h1, h2, h3, h4.mono fun v hp => ChangeSpec.post_blind hp⟩
end
end Go.AE
namespace Go.AE
open Go
def aconvV (P : Program) (G : Nat) (h : AH) (e : Operand → Value) (o : Oper) : Option (Value × Addr × Nat × List Value) :=
  match o.op with
  | .convert s d x => if okOpd G x then match P.underlying s, P.underlying d, e x with
      | some (.slice el), some .string, .slice (some a) n _ => match P.underlying el, acells h a n with
        | some (.int .u8), some l => (intsOf l).map fun ns => (.string ⟨(ns.map fun n => UInt8.ofNat n.toNat).toArray⟩, a, n, l)
        | _, _ => none
      | _, _, _ => none
    else none
  | _ => none
def areadV (P : Program) (G : Nat) (h : AH) (e : Operand → Value) (o : Oper) : Option (Value × Addr × Nat × List Value) :=
  match aloadV P G h e o with
  | some r => some r
  | none => aconvV P G h e o
def pickX (P : Program) (G : Nat) (ops : Array Oper) (listed : Array Bool) (tm : Array Value) (h : AH) : List Nat → Option (Nat × Value × List Held)
  | [] => none
  | i :: rest =>
    match ops[i]? with
    | none => none
    | some o =>
      let wt := waits ops listed i 0 ops.toList #[]
      let r : Option (Value × List Held) :=
        if Region.wanted o (yielded ops tm) then
          match apureV P G h (evA tm) o with
          | some v => some (v, [])
          | none => match areadV P G h (evA tm) o with
            | some (v, a, n, l) => some (v, [⟨a, n, l, wt⟩])
            | none => none
        else some (undef, [])
      match r with
      | some (v, gs) => if okTake ops listed wt i then some (i, v, gs) else pickX P G ops listed tm h rest
      | none => pickX P G ops listed tm h rest
def adrawX (P : Program) (G : Nat) (nest : FuncId → Array Value → AH → Option (Value × AH)) (base : Nat) (ops : Array Oper) : Nat → Array Bool → List Held → Array Value → AH → Option (Array Value × AH)
  | 0, listed, _, tm, h => if (Region.ready .any ops listed).isEmpty then some (tm, h) else none
  | f + 1, listed, gs, tm, h =>
    match Region.ready .any ops listed with
    | [] => some (tm, h)
    | r :: rs => match pickX P G ops listed tm h (r :: rs) with
      | some (i, v, g) => adrawX P G nest base ops f (listed.setIfInBounds i true) (g ++ gs) (putA ops i tm v) h
      | none => branches P G nest base ops (fun i gs tm h => adrawX P G nest base ops f (listed.setIfInBounds i true) gs tm h) gs tm h (r :: rs)
def adrawAllX (P : Program) (G : Nat) (nest : FuncId → Array Value → AH → Option (Value × AH)) (ops : Array Oper) (tm : Array Value) (h : AH) : Option (Array Value × AH) :=
  if Region.noSelect ops && !(ops.any fun o => isDefer o.op) then
    adrawX P G nest h.next ops ops.size (Array.replicate ops.size false) [] tm (if hasAlloc ops then { h with next := h.next + ops.size } else h)
  else none
section
variable {P : Program} {G : Nat} {ρ : Rho} {h : AH} {w : World}
theorem aconvV_ok (H : WR G ρ h w) {a : Act} {tm : Array Value} (ht : renArr ρ tm = some a.tmps) {o : Oper} {v : Value} {ad : Addr} {n : Nat} {l : List Value} (hv : aconvV P G h (evA tm) o = some (v, ad, n, l)) :
    ∃ b l' v', renA ρ ad = some b ∧ renL ρ l = some l' ∧ ren ρ v = some v' ∧ (∀ j u, l'[j]? = some u → w.cell? (b.add j) = some u) ∧
      ∀ w', (∀ j u, l'[j]? = some u → w'.cell? (b.add j) = some u) → (execOp a.eval o).run P w' = .ok (.value v') w' := by
  unfold aconvV at hv
  split at hv
  case h_2 => cases hv
  rename_i s d x hop
  split at hv
  case isFalse => cases hv
  rename_i hok
  split at hv
  case h_2 => cases hv
  rename_i el a0 n0 c hs hd hce
  split at hv
  case h_2 => cases hv
  rename_i l0 he hl
  obtain ⟨ns, hns, hq⟩ := Option.map_eq_some_iff.1 hv
  cases hq
  have hx : ren ρ (evA tm x) = some (a.eval x) := by
    rw [evA_eq a]
    exact ev_ren H (a := { tmps := tm, defers := [] }) (b := { tmps := a.tmps, defers := [] }) ht hok
  rw [hce] at hx
  obtain ⟨b, c', q1, _, hx'⟩ := ren_slice hx
  obtain ⟨l', r1, r2, r3⟩ := cells_ok H hl q1
  have hl' := intsOf_spec hns
  subst hl'
  rw [ints_ren] at r1
  cases r1
  refine ⟨b, _, _, q1, ints_ren ns, by simp [ren]; rfl, r3, fun w' hw' => ?_⟩
  have hload := run_loadCells_list (P := P) w' b (ns.map (Value.int .u8)) hw'
  rw [r2] at hload
  simp only [execOp, hop, hx', Sem.run_bind]
  rw [run_convert_bytes_string w' s d el _ _ c' hs he hd, run_bytesToString w' b _ c' ns hload, foldl_push_bytes]
  simp [ByteArray.empty, ByteArray.emptyWithCapacity]
  try rfl
theorem areadV_ok (H : WR G ρ h w) {a : Act} {tm : Array Value} (ht : renArr ρ tm = some a.tmps) {o : Oper} {v : Value} {ad : Addr} {n : Nat} {l : List Value} (hv : areadV P G h (evA tm) o = some (v, ad, n, l)) :
    ∃ b l' v', renA ρ ad = some b ∧ renL ρ l = some l' ∧ ren ρ v = some v' ∧ (∀ j u, l'[j]? = some u → w.cell? (b.add j) = some u) ∧
      ∀ w', (∀ j u, l'[j]? = some u → w'.cell? (b.add j) = some u) → (execOp a.eval o).run P w' = .ok (.value v') w' := by
  unfold areadV at hv
  split at hv
  · rename_i r hr
    cases hv
    exact aloadV_ok H ht hr
  · exact aconvV_ok H ht hv
theorem pickX_ok (H : WR G ρ h w) {ops : Array Oper} {listed : Array Bool} {tm : Array Value} {a : Act} (ht : renArr ρ tm = some a.tmps) : ∀ {rs : List Nat} {i : Nat} {v : Value} {gs : List Held}, pickX P G ops listed tm h rs = some (i, v, gs) →
    i ∈ rs ∧ ∃ o v' wt S, ops[i]? = some o ∧ okTake ops listed wt i = true ∧ ren ρ v = some v' ∧ YieldsIf P ops S o v' a ∧ S w ∧
      ((gs = [] ∧ ∀ w, S w) ∨ ∃ g, gs = [g] ∧ HeldR ρ g (S, fun j => !wt.getD j false))
  | [], i, v, gs, hp => by simp [pickX] at hp
  | k :: rest, i, v, gs, hp => by
    have go : pickX P G ops listed tm h rest = some (i, v, gs) → _ := fun q => let ⟨q1, q2⟩ := pickX_ok H ht q; And.intro (List.mem_cons_of_mem k q1) q2
    unfold pickX at hp
    split at hp
    · cases hp
    rename_i o ho
    dsimp only at hp
    have hy := yielded_ren ht ops
    split at hp
    · rename_i v0 gs0 hr
      split at hp
      · rename_i hk
        cases hp
        refine ⟨List.mem_cons_self .., ?_⟩
        split at hr
        · rename_i hw
          have hw' : Region.wanted o (yielded ops a.tmps) = true := by rw [hy]; exact hw
          split at hr
          · rename_i v1 hv1
            cases hr
            obtain ⟨v', p1, p2⟩ := apureV_ok H ht hv1
            exact ⟨o, v', _, fun _ => True, ho, hk, p1, .inl ⟨hw', fun w' _ => p2 w'⟩, trivial, .inl ⟨rfl, fun _ => trivial⟩⟩
          · split at hr
            · rename_i v1 ad n l hl
              cases hr
              obtain ⟨b, l', v', p1, p2, p3, p4, p5⟩ := areadV_ok H ht hl
              exact ⟨o, v', _, fun w => ∀ j u, l'[j]? = some u → w.cell? (b.add j) = some u, ho, hk, p3, .inl ⟨hw', p5⟩, p4, .inr ⟨_, rfl, rfl, b, l', p1, p2, rfl⟩⟩
            · cases hr
        · rename_i hw
          cases hr
          have hw' : Region.wanted o (yielded ops a.tmps) = false := by rw [hy]; simpa using hw
          exact ⟨o, undef, _, fun _ => True, ho, hk, ren_undef ρ, .inr ⟨hw', rfl⟩, trivial, .inl ⟨rfl, fun _ => trivial⟩⟩
      · exact go hp
    · exact go hp
theorem adrawX_ok {nest : FuncId → Array Value → AH → Option (Value × AH)} (hnest : NestOK P G nest) {base : Nat} {ops : Array Oper} (hns : Region.noSelect ops = true) {ρ0 : Rho} {h0 : AH} {w0 : World} (hbase : h0.next = base) {ds : List Deferred} :
    ∀ {f : Nat} {listed : Array Bool} {gs : List Held} {tm : Array Value} {h : AH} {res : Array Value × AH}, adrawX P G nest base ops f listed gs tm h = some res →
    ∀ {ρ : Rho} {a : Act} {w : World} {Γ : List Watch}, WR G ρ h w → Ext ρ0 h0 w0 ρ h w → renArr ρ tm = some a.tmps → a.defers = ds → HeldsR ρ gs Γ → (∀ g ∈ Γ, g.1 w) →
      (hasAlloc ops = true → base + ops.size ≤ h.next) → base ≤ h.next → (hasAlloc ops = true → ∀ k, k < ops.size → listed.getD k true = false → ρ.blk (base + k) = none) → wpX P .any ops (DrawQ G ρ0 h0 w0 ds res) Γ f listed a w
  | 0, listed, gs, tm, h, res, hd, ρ, a, w, Γ, H, E, ht, hdf, hG, hΓ, hn, hbn, hΩ => by
    unfold adrawX at hd
    split at hd
    case isFalse => cases hd
    rename_i hr
    cases hd
    exact ⟨by simpa using hr, rfl, hdf, ρ, H, E, ht⟩
  | f + 1, listed, gs, tm, h, res, hd, ρ, a, w, Γ, H, E, ht, hdf, hG, hΓ, hn, hbn, hΩ => by
    unfold adrawX at hd
    split at hd
    · rename_i hr
      cases hd
      exact ⟨fun _ => ⟨rfl, hdf, ρ, H, E, ht⟩, fun i hi => (by rw [hr] at hi; cases hi)⟩
    · rename_i r rs hr
      split at hd
      ·
        rename_i i v g hp
        obtain ⟨hmem, o, v', wt, S, ho, hk, hv, hy, hS, hg⟩ := pickX_ok (P := P) H ht hp
        obtain ⟨k1, k2⟩ := okTake_spec ho hk
        have hpd : (a.put o.dst v').defers = ds := by
          cases o.dst <;> exact hdf
        have hΩ' : hasAlloc ops = true → ∀ k, k < ops.size → (listed.setIfInBounds i true).getD k true = false → ρ.blk (base + k) = none := fun hal k hk hun => by
          refine hΩ hal k hk ?_
          by_cases q : i = k
          · subst q
            exact (mem_ready.1 (hr ▸ hmem)).1
          · rw [getD_set_ne true q] at hun; exact hun
        refine wpX_first ho (Region.noSelect_spec hns) (fun c a w q => by cases q.1) f Γ listed a w k1 k2 (hr ▸ hmem) hy hS hΓ ?_
        rcases hg with ⟨rfl, hall⟩ | ⟨g0, rfl, hg0⟩
        · have := adrawX_ok hnest hns hbase hd H E (putA_ren ho ht hv) hpd hG hΓ hn hbn hΩ'
          exact wpX_imp _ _ _ _ _ _ (fun q hq => by
            rcases List.mem_cons.1 hq with rfl | hq
            · exact .inr hall
            · exact .inl hq) this
        · exact adrawX_ok hnest hns hbase hd H E (putA_ren ho ht hv) hpd (Γ := (S, fun j => !wt.getD j false) :: Γ) ⟨hg0, hG⟩ (fun q hq => by
            rcases List.mem_cons.1 hq with rfl | hq
            · exact hS
            · exact hΓ q hq) hn hbn hΩ'
      ·
        refine ⟨fun q => (by rw [hr] at q; cases q), fun i hi => ?_⟩
        rw [hr] at hi
        obtain ⟨o, v, h', ho, hw, hpf, hall, hrec⟩ := branches_ok hd i hi
        have hw' : Region.wanted o (yielded ops a.tmps) = true := by rw [yielded_ren ht]; exact hw
        have hisz := (Array.getElem?_eq_some_iff.1 ho).1
        have hun := (mem_ready.1 (hr ▸ hi : i ∈ Region.ready .any ops listed)).1
        have hal : (∃ t, o.op = .alloc t) → hasAlloc ops = true := fun ⟨t, q⟩ => by
          unfold hasAlloc
          exact Array.any_eq_true'.2 ⟨o, Array.mem_of_getElem? ho, by rw [q]⟩
        refine perform_ok hnest hpf H ht ho hw' (fun q => hΩ (hal q) i hisz hun) hbn fun ρ' v' w' W' E' hlow hnx hv' => ?_
        have E2 := (E.cast (n := base) (by omega)).trans E'
        obtain ⟨c1, c2⟩ := held_after W' E'.le i hG hall
        refine ⟨c1, adrawX_ok hnest hns hbase hrec W' E2 (putA_ren ho (renArr_mono E'.le _ _ ht) hv') ?_ c2 (fun g hg => c1 g (List.mem_filter.1 hg).1 (List.mem_filter.1 hg).2) (fun q => Nat.le_trans (hn q) hnx) (Nat.le_trans hbn hnx) fun hala k hk hunk => ?_⟩
        · cases o.dst <;> exact hdf
        · have hki : k ≠ i := by
            rintro rfl
            have hls : k < listed.size := by
              rcases Nat.lt_or_ge k listed.size with q | q
              · exact q
              · simp [Array.getElem?_eq_none q] at hun
            simp [hls] at hunk
          have hold : listed.getD k true = false := by rw [getD_set_ne true (Ne.symm hki)] at hunk; exact hunk
          have q := hn hala
          rw [hlow k hki (by omega)]
          exact hΩ hala k hk hold
theorem drawX_ok (hmix : P.follows .mixedOrders = true) {nest : FuncId → Array Value → AH → Option (Value × AH)} (hnest : NestOK P G nest) : DrawOK P G (adrawAllX P G nest) := by
  intro ops tm h tm' h' hd ρ fr cs w k id H ht hm hto
  unfold adrawAllX at hd
  split at hd
  case isFalse => cases hd
  rename_i hc
  simp only [Bool.and_eq_true, Bool.not_eq_true', Array.any_eq_false] at hc
  obtain ⟨hns, hnd⟩ := hc
  have hnd' : ∀ (j : Nat) (o : Oper) c, ops[j]? = some o → o.op ≠ .defer c := fun j o c hj q => by
    obtain ⟨hlt, e⟩ := Array.getElem?_eq_some_iff.1 hj
    have := hnd j hlt
    rw [e, q] at this
    simp [isDefer] at this
  let w1 : World := { w with drawn := w.drawn + 1 }
  have H1 : WR G ρ h w1 := H.drawn _
  have E1 : Ext ρ h w ρ h w1 := Ext.drawn _ _ _ _
  have hpre : ∀ k, (Array.replicate ops.size false).getD k true = false → k < ops.size := fun k hk => by
    rcases Nat.lt_or_ge k ops.size with q | q
    · exact q
    · simp [q] at hk
  have hX : wpX P .any ops (DrawQ G ρ h w fr.defers (tm', h')) [] ops.size (Array.replicate ops.size false) ⟨fr.tmps, fr.defers⟩ w1 := by
    by_cases hal : hasAlloc ops = true
    · rw [if_pos hal] at hd
      exact adrawX_ok hnest hns rfl hd (H1.cast (n := h.next + ops.size) (by omega)) (E1.cast (n := h.next + ops.size) (by omega)) ht rfl (Γ := []) (by exact trivial) (by simp) (fun _ => Nat.le_refl _) (by simp) (fun _ k _ _ => H.fresh _ (by omega))
    · rw [if_neg hal] at hd
      exact adrawX_ok hnest hns rfl hd H1 E1 ht rfl (Γ := []) (by exact trivial) (by simp) (fun q => absurd q hal) (Nat.le_refl _) (fun q => absurd q hal)
  have hA := wpAny_of_X _ _ _ _ _ hX
  have hO := wpAny_sound ops.size (w.tape w.drawn (.order fr.fn id)) _ _ _ hA
  obtain ⟨fn, tmps, todo, defers, mode, kind, ro⟩ := fr
  simp only at hto hm hO
  subst hto
  subst hm
  obtain ⟨a', w', ⟨_, hdf, ρ', q1, q2, q3⟩, hst⟩ := gen_ops hnd' (fun e a w hq => hq.1) (fn := fn) (kind := kind) (ro := ro) (k := k) (cs := cs) _ _ _ _ hO
  refine ⟨ρ', a'.tmps, w', q1, q2, q3, .head ?_ (by simpa [hdf] using hst)⟩
  refine step_lone_go ?_
  simp only [stepG, stepG.exec]
  simp [choose, Sem.run, Question.forced, Question.cut, Region.schedule, hmix, Region.linearise]
  rfl
def noncmp : AObj → Bool
  | .loop _ => true
  | .defd (some _) => true
  | _ => false
def mg (o o' : Option AObj) : Option AObj := match o' with
  | some y => some y
  | none => match o with
    | some x => if noncmp x then some x else none
    | none => none
def cmpO (o : Option AObj) : Option AObj := match o with
  | some x => if noncmp x then none else some x
  | none => none
def stripT : T AObj → T AObj
  | .lf => .lf
  | .nd l o r => .nd (stripT l) (cmpO o) (stripT r)
def mergeT : T AObj → T AObj → T AObj
  | .lf, s => s
  | .nd l o r, .lf => .nd (mergeT l .lf) (mg o none) (mergeT r .lf)
  | .nd l o r, .nd l' o' r' => .nd (mergeT l l') (mg o o') (mergeT r r')
def T.root {α : Type} : T α → Option α
  | .lf => none
  | .nd _ o _ => o
def T.left {α : Type} : T α → T α
  | .lf => .lf
  | .nd l _ _ => l
def T.right {α : Type} : T α → T α
  | .lf => .lf
  | .nd _ _ r => r
def roOk (t : T AObj) : T AObj → Bool
  | .lf => true
  | .nd l o r => (match o with | some y => !y.ro || t.root.isSome | none => true) && (roOk t.left l && roOk t.right r)
theorem stripT_get : ∀ (t : T AObj) (i : Nat), (stripT t).get i = cmpO (t.get i)
  | .lf, _ => rfl
  | .nd l o r, 0 => rfl
  | .nd l o r, m + 1 => by
    simp only [stripT, T.get]
    cases (m % 2).beq 0
    · exact stripT_get r _
    · exact stripT_get l _
theorem mg_none (s : Option AObj) : mg none s = s := by cases s <;> rfl
theorem mergeT_get : ∀ (t s : T AObj) (i : Nat), (mergeT t s).get i = mg (t.get i) (s.get i)
  | .lf, s, i => by simp only [mergeT, T.get, mg_none]
  | .nd l o r, .lf, 0 => rfl
  | .nd l o r, .lf, m + 1 => by
    simp only [mergeT, T.get]
    cases (m % 2).beq 0
    · exact mergeT_get r .lf _
    · exact mergeT_get l .lf _
  | .nd l o r, .nd l' o' r', 0 => rfl
  | .nd l o r, .nd l' o' r', m + 1 => by
    simp only [mergeT, T.get]
    cases (m % 2).beq 0
    · exact mergeT_get r r' _
    · exact mergeT_get l l' _
theorem roOk_get : ∀ (s t : T AObj), roOk t s = true → ∀ i y, s.get i = some y → y.ro = true → ∃ x, t.get i = some x
  | .lf, t, _, i, y, h, _ => by simp [T.get] at h
  | .nd l o r, t, hk, i, y, h, hro => by
    simp only [roOk, Bool.and_eq_true] at hk
    obtain ⟨h1, h2, h3⟩ := hk
    cases i with
    | zero =>
      simp only [T.get] at h
      rw [h] at h1
      simp only [hro, Bool.not_true, Bool.false_or] at h1
      cases t with
      | lf => cases h1
      | nd a b c => exact Option.isSome_iff_exists.1 h1
    | succ m =>
      simp only [T.get] at h
      cases q : (m % 2).beq 0 with
      | false =>
        rw [q] at h
        obtain ⟨x, hx⟩ := roOk_get r t.right h3 _ y h hro
        cases t with
        | lf => simp [T.right, T.get] at hx
        | nd a b c => exact ⟨x, by simp only [T.get, q]; exact hx⟩
      | true =>
        rw [q] at h
        obtain ⟨x, hx⟩ := roOk_get l t.left h2 _ y h hro
        cases t with
        | lf => simp [T.left, T.get] at hx
        | nd a b c => exact ⟨x, by simp only [T.get, q]; exact hx⟩
def aside (h : AH) : AH := ⟨h.next, stripT h.m⟩
def backH (h r : AH) : AH := ⟨r.next, mergeT h.m r.m⟩
theorem aside_get {i : Nat} {o : AObj} (e : (aside h).get i = some o) : h.get i = some o ∧ noncmp o = false := by
  have e1 : cmpO (h.get i) = some o := (stripT_get h.m i).symm.trans e
  unfold cmpO at e1
  split at e1
  · rename_i x hx
    split at e1
    · cases e1
    · rename_i hn
      cases e1
      exact ⟨hx, by simpa using hn⟩
  · cases e1
theorem back_get {r : AH} {i : Nat} {o : AObj} (e : (backH h r).get i = some o) : r.get i = some o ∨ (h.get i = some o ∧ noncmp o = true ∧ r.get i = none) := by
  have e1 : mg (h.get i) (r.get i) = some o := (mergeT_get h.m r.m i).symm.trans e
  unfold mg at e1
  split at e1
  · rename_i y hy
    cases e1
    exact .inl hy
  · rename_i hr
    split at e1
    · rename_i x hx
      split at e1
      · rename_i hn
        cases e1
        exact .inr ⟨hx, hn, hr⟩
      · cases e1
    · cases e1
theorem back_ok (H : WR G ρ h w) {ρ' : Rho} {r : AH} {w' : World} (W' : WR G ρ' r w') (E : Ext ρ (aside h) w ρ' r w') (hro : roOk (aside h).m r.m = true) : WR G ρ' (backH h r) w' ∧ Ext ρ h w ρ' (backH h r) w' := by
  have hnw : ∀ i o b, h.get i = some o → noncmp o = true → ρ.blk i = some b → ¬ Wset ρ (aside h) b := fun i o b h1 h2 h3 ⟨k, p, e1, _, e3⟩ => by
    obtain ⟨g1, g2⟩ := aside_get e1
    have := H.inj k i p o b g1 h1 e3 h3
    subst this
    rw [h1] at g1
    cases g1
    rw [h2] at g2; cases g2
  have keep : ∀ i o, h.get i = some o → noncmp o = true → ∃ b x, ρ'.blk i = some b ∧ w'.heap[b]? = some x ∧ ObjR ρ' i o x ∧ ρ.blk i = some b ∧ b < w.heap.size := fun i o h1 h2 => by
    obtain ⟨b, x, q1, q2, q3⟩ := H.obj i o h1
    have hlt := (Array.getElem?_eq_some_iff.1 q2).1
    exact ⟨b, x, (E.le _ _ q1).1, (E.pres b hlt (hnw i o b h1 h2 q1)).trans q2, q3.mono E.le q1, q1, hlt⟩
  have apart : ∀ i o j p b, h.get i = some o → noncmp o = true → ρ.blk i = some b → b < w.heap.size → r.get j = some p → ρ'.blk j = some b → False := fun i o j p b h1 h2 h3 hlt h4 h5 => by
    cases hp : p.ro with
    | false => exact hnw i o b h1 h2 h3 (E.shrink b hlt ⟨j, p, h4, hp, h5⟩)
    | true =>
      obtain ⟨x, hx⟩ := roOk_get r.m (aside h).m hro j p h4 hp
      obtain ⟨g1, g2⟩ := aside_get (h := h) (i := j) hx
      obtain ⟨b2, _, k1, _⟩ := H.obj j x g1
      have := (E.le _ _ k1).1
      rw [h5] at this
      cases this
      have := H.inj j i x o b g1 h1 k1 h3
      subst this
      rw [h1] at g1
      cases g1
      rw [h2] at g2; cases g2
  refine ⟨⟨fun i o e => ?_, W'.fresh, fun i j o p b e1 e2 b1 b2 => ?_, W'.glob, W'.gp⟩, ⟨E.le, E.low, E.next, E.size, fun b hb hn => E.pres b hb fun ⟨k, p, e1, e2, e3⟩ => hn ⟨k, p, (aside_get e1).1, e2, e3⟩, fun b hb ⟨k, p, e1, e2, e3⟩ => ?_, E.tape, E.os, E.output⟩⟩
  · rcases back_get e with q | ⟨q1, q2, _⟩
    · exact W'.obj i o q
    · obtain ⟨b, x, k1, k2, k3, _⟩ := keep i o q1 q2
      exact ⟨b, x, k1, k2, k3⟩
  · rcases back_get e1 with q | ⟨q1, q2, _⟩ <;> rcases back_get e2 with s | ⟨s1, s2, _⟩
    · exact W'.inj i j o p b q s b1 b2
    · exfalso
      obtain ⟨b', x, k1, _, _, k4, k5⟩ := keep j p s1 s2
      rw [b2] at k1; cases k1
      exact apart j p i o b s1 s2 k4 k5 q b1
    · exfalso
      obtain ⟨b', x, k1, _, _, k4, k5⟩ := keep i o q1 q2
      rw [b1] at k1; cases k1
      exact apart i o j p b q1 q2 k4 k5 s b2
    · obtain ⟨b', x, k1, _, _, k4, k5⟩ := keep i o q1 q2
      obtain ⟨b2', x2, l1, _, _, l4, l5⟩ := keep j p s1 s2
      rw [b1] at k1; cases k1
      rw [b2] at l1; cases l1
      exact H.inj i j o p b q1 s1 k4 l4
  · rcases back_get e1 with q | ⟨q1, q2, _⟩
    · obtain ⟨k', p', g1, g2, g3⟩ := E.shrink b hb ⟨k, p, q, e2, e3⟩
      exact ⟨k', p', (aside_get g1).1, g2, g3⟩
    · obtain ⟨b', x, k1, _, _, k4, k5⟩ := keep k p q1 q2
      rw [e3] at k1; cases k1
      exact ⟨k, p, q1, e2, k4⟩
def adrawAllF (P : Program) (G : Nat) (nest : FuncId → Array Value → AH → Option (Value × AH)) (ops : Array Oper) (tm : Array Value) (h : AH) : Option (Array Value × AH) :=
  match adrawAllX P G nest ops tm (aside h) with
  | some (t, r) => if roOk (aside h).m r.m then some (t, backH h r) else none
  | none => none
theorem drawF_ok (hmix : P.follows .mixedOrders = true) {nest : FuncId → Array Value → AH → Option (Value × AH)} (hnest : NestOK P G nest) : DrawOK P G (adrawAllF P G nest) := by
  intro ops tm h tm' h' hd ρ fr cs w k id H ht hm hto
  unfold adrawAllF at hd
  split at hd
  case h_2 => cases hd
  rename_i t r hr
  split at hd
  case isFalse => cases hd
  rename_i hro
  cases hd
  have Ha : WR G ρ (aside h) w := H.sub rfl fun i o e => (aside_get e).1
  obtain ⟨ρ', tmr, w', h1, h2, h3, h4⟩ := drawX_ok hmix hnest ops tm (aside h) _ r hr ρ fr cs w k id Ha ht hm hto
  obtain ⟨g1, g2⟩ := back_ok H h1 h2 hro
  exact ⟨ρ', tmr, w', g1, g2, h3, h4⟩
def adrawC (P : Program) (G : Nat) (nest : FuncId → Array Value → AH → Option (Value × AH)) (ops : Array Oper) (tm : Array Value) (h : AH) : Option (Array Value × AH) :=
  match adrawAll P G nest ops tm h with
  | some r => some r
  | none => match adrawAllX P G nest ops tm h with
    | some r => some r
    | none => adrawAllF P G nest ops tm h
theorem drawC_ok (hmix : P.follows .mixedOrders = true) {nest : FuncId → Array Value → AH → Option (Value × AH)} (hnest : NestOK P G nest) : DrawOK P G (adrawC P G nest) := by
  intro ops tm h tm' h' hd
  unfold adrawC at hd
  split at hd
  · rename_i r hr
    cases hd
    exact draw_ok hmix hnest ops tm h tm' h' hr
  · split at hd
    · rename_i r hr
      cases hd
      exact drawX_ok hmix hnest ops tm h tm' h' hr
    · exact drawF_ok hmix hnest ops tm h tm' h' hd
end
end Go.AE
namespace Go.AE
open Go
inductive NR where
  | ret (v : Value) (h : AH)
  | pan (v : Value) (h : AH)
def CallsR (G : Nat) (ρ : Rho) (h : AH) (w : World) : NR → Ending → World → Prop
  | .ret v h', e, w' => ∃ ρ' v', e = .returned v' ∧ WR G ρ' h' w' ∧ Ext ρ h w ρ' h' w' ∧ ren ρ' v = some v'
  | .pan v h', e, w' => ∃ ρ' v', e = .panicked [⟨v', false, false⟩] ∧ WR G ρ' h' w' ∧ Ext ρ h w ρ' h' w' ∧ ren ρ' v = some v'
def NestOKR (P : Program) (G : Nat) (nest : FuncId → Array Value → AH → Option NR) : Prop :=
  ∀ f args h r, nest f args h = some r → ∀ (ρ : Rho) (w : World) (args' : Array Value), WR G ρ h w → renArr ρ args = some args' → Calls P f args' w (CallsR G ρ h w r)
def retOf (nest : FuncId → Array Value → AH → Option NR) : FuncId → Array Value → AH → Option (Value × AH) := fun f args h => match nest f args h with
  | some (.ret v h') => some (v, h')
  | _ => none
theorem retOf_ok {P : Program} {G : Nat} {nest : FuncId → Array Value → AH → Option NR} (hn : NestOKR P G nest) : NestOK P G (retOf nest) := by
  intro f args h v h' hc ρ w args' H ha
  unfold retOf at hc
  split at hc
  · rename_i v0 h0 hr
    cases hc
    exact hn f args h _ hr ρ w args' H ha
  · cases hc
def adrawP (P : Program) (G : Nat) (nest : FuncId → Array Value → AH → Option NR) (base : Nat) (ops : Array Oper) : Nat → Array Bool → List Held → Array Value → AH → Option (Value × AH)
  | 0, _, _, _, _ => none
  | f + 1, listed, gs, tm, h =>
    match Region.ready .any ops listed with
    | [] => none
    | r :: rs => match pickX P G ops listed tm h (r :: rs) with
      | some (i, v, g) => adrawP P G nest base ops f (listed.setIfInBounds i true) (g ++ gs) (putA ops i tm v) h
      | none => match rs, ops[r]? with
        | [], some o => if Region.wanted o (yielded ops tm) then
            match perform P G (retOf nest) base o r tm h with
            | some (v, h') => if gs.all (heldOk h' r) then adrawP P G nest base ops f (listed.setIfInBounds r true) (gs.filter fun g => !g.wt.getD r false) (putA ops r tm v) h' else none
            | none => match aop P G h (evA tm) o with
              | some (.enter g args) => match nest g args h with
                | some (.pan v h') => some (v, h')
                | _ => none
              | some (.panic v) => some (v, h)
              | _ => none
          else none
        | _, _ => none
def adrawAllP (P : Program) (G : Nat) (nest : FuncId → Array Value → AH → Option NR) (ops : Array Oper) (tm : Array Value) (h : AH) : Option (Value × AH) :=
  if Region.noSelect ops && !(ops.any fun o => isDefer o.op) then
    adrawP P G nest h.next ops ops.size (Array.replicate ops.size false) [] tm (if hasAlloc ops then { h with next := h.next + ops.size } else h)
  else none
section
variable {P : Program} {G : Nat} {ρ : Rho} {h : AH} {w : World} {cs cs0 : List Frame}
def DrawQP (G : Nat) (ρ0 : Rho) (h0 : AH) (w0 : World) (ds : List Deferred) (v : Value) (h' : AH) : Exit → Act → World → Prop := fun e a w =>
  a.defers = ds ∧ ∃ ρ' v', e = .panic [⟨v', false, false⟩] ∧ WR G ρ' h' w ∧ Ext ρ0 h0 w0 ρ' h' w ∧ ren ρ' v = some v'
theorem adrawP_ok {nest : FuncId → Array Value → AH → Option NR} (hnest : NestOKR P G nest) {base : Nat} {ops : Array Oper} (hns : Region.noSelect ops = true) {ρ0 : Rho} {h0 : AH} {w0 : World} (hbase : h0.next = base) {ds : List Deferred} :
    ∀ {f : Nat} {listed : Array Bool} {gs : List Held} {tm : Array Value} {h : AH} {v : Value} {h' : AH}, adrawP P G nest base ops f listed gs tm h = some (v, h') →
    ∀ {ρ : Rho} {a : Act} {w : World} {Γ : List Watch}, WR G ρ h w → Ext ρ0 h0 w0 ρ h w → renArr ρ tm = some a.tmps → a.defers = ds → HeldsR ρ gs Γ → (∀ g ∈ Γ, g.1 w) →
      (hasAlloc ops = true → base + ops.size ≤ h.next) → base ≤ h.next → (hasAlloc ops = true → ∀ k, k < ops.size → listed.getD k true = false → ρ.blk (base + k) = none) → wpX P .any ops (DrawQP G ρ0 h0 w0 ds v h') Γ f listed a w
  | 0, listed, gs, tm, h, v, h', hd, ρ, a, w, Γ, H, E, ht, hdf, hG, hΓ, hn, hbn, hΩ => by
    simp [adrawP] at hd
  | f + 1, listed, gs, tm, h, pv0, h', hd, ρ, a, w, Γ, H, E, ht, hdf, hG, hΓ, hn, hbn, hΩ => by
    unfold adrawP at hd
    split at hd
    · cases hd
    · rename_i r rs hr
      split at hd
      ·
        rename_i i v g hp
        obtain ⟨hmem, o, v', wt, S, ho, hk, hv, hy, hS, hg⟩ := pickX_ok (P := P) H ht hp
        obtain ⟨k1, k2⟩ := okTake_spec ho hk
        have hpd : (a.put o.dst v').defers = ds := by
          cases o.dst <;> exact hdf
        have hΩ' : hasAlloc ops = true → ∀ k, k < ops.size → (listed.setIfInBounds i true).getD k true = false → ρ.blk (base + k) = none := fun hal k hk hun => by
          refine hΩ hal k hk ?_
          by_cases q : i = k
          · subst q
            exact (mem_ready.1 (hr ▸ hmem)).1
          · rw [getD_set_ne true q] at hun; exact hun
        have hQ : ∀ c (a : Act) (w : World), DrawQP G ρ0 h0 w0 ds pv0 h' (.panic c) (a.put o.dst v') w → DrawQP G ρ0 h0 w0 ds pv0 h' (.panic c) a w := fun c a w q => by
          refine ⟨?_, q.2⟩
          have := q.1
          cases hd2 : o.dst <;> rw [hd2] at this <;> exact this
        refine wpX_first ho (Region.noSelect_spec hns) hQ f Γ listed a w k1 k2 (hr ▸ hmem) hy hS hΓ ?_
        rcases hg with ⟨rfl, hall⟩ | ⟨g0, rfl, hg0⟩
        · have := adrawP_ok hnest hns hbase hd H E (putA_ren ho ht hv) hpd hG hΓ hn hbn hΩ'
          exact wpX_imp _ _ _ _ _ _ (fun q hq => by
            rcases List.mem_cons.1 hq with rfl | hq
            · exact .inr hall
            · exact .inl hq) this
        · exact adrawP_ok hnest hns hbase hd H E (putA_ren ho ht hv) hpd (Γ := (S, fun j => !wt.getD j false) :: Γ) ⟨hg0, hG⟩ (fun q hq => by
            rcases List.mem_cons.1 hq with rfl | hq
            · exact hS
            · exact hΓ q hq) hn hbn hΩ'
      ·
        split at hd
        case h_2 => cases hd
        rename_i o ho _
        split at hd
        case isFalse => cases hd
        rename_i hw
        have hw' : Region.wanted o (yielded ops a.tmps) = true := by rw [yielded_ren ht]; exact hw
        refine ⟨fun q => (by rw [hr] at q; cases q), fun i hi => ?_⟩
        rw [hr] at hi
        obtain rfl := List.mem_singleton.1 hi
        have hisz := (Array.getElem?_eq_some_iff.1 ho).1
        have hun := (mem_ready.1 (hr ▸ hi : i ∈ Region.ready .any ops listed)).1
        have hal : (∃ t, o.op = .alloc t) → hasAlloc ops = true := fun ⟨t, q⟩ => by
          unfold hasAlloc
          exact Array.any_eq_true'.2 ⟨o, Array.mem_of_getElem? ho, by rw [q]⟩
        split at hd
        · rename_i v h1 hpf
          split at hd
          case isFalse => cases hd
          rename_i hall
          refine perform_ok (retOf_ok hnest) hpf H ht ho hw' (fun q => hΩ (hal q) i hisz hun) hbn fun ρ' v' w' W' E' hlow hnx hv' => ?_
          have E2 := (E.cast (n := base) (by omega)).trans E'
          obtain ⟨c1, c2⟩ := held_after W' E'.le i hG hall
          refine ⟨c1, adrawP_ok hnest hns hbase hd W' E2 (putA_ren ho (renArr_mono E'.le _ _ ht) hv') ?_ c2 (fun g hg => c1 g (List.mem_filter.1 hg).1 (List.mem_filter.1 hg).2) (fun q => Nat.le_trans (hn q) hnx) (Nat.le_trans hbn hnx) fun hala k hk hunk => ?_⟩
          · cases o.dst <;> exact hdf
          · have hki : k ≠ i := by
              rintro rfl
              have hls : k < listed.size := by
                rcases Nat.lt_or_ge k listed.size with q | q
                · exact q
                · simp [Array.getElem?_eq_none q] at hun
              simp [hls] at hunk
            have hold : listed.getD k true = false := by rw [getD_set_ne true (Ne.symm hki)] at hunk; exact hunk
            have q := hn hala
            rw [hlow k hki (by omega)]
            exact hΩ hala k hk hold
        ·
          have he : ({ tmps := a.tmps, defers := [] } : Act).eval = a.eval := (evA_eq a).symm
          unfold wpOp
          simp only [ho, hw', if_true]
          refine .inl ?_
          unfold Oper.wp
          split at hd
          · rename_i g args hop
            split at hd
            case h_2 => cases hd
            rename_i v1 h1 hg1
            cases hd
            have hsim := aop_ok H (a := { tmps := tm, defers := [] }) (b := { tmps := a.tmps, defers := [] }) ht o hop
            obtain ⟨hbd, args', g1, g2⟩ := hsim
            rw [he] at g2
            rw [g2]
            refine Calls.mono (hnest g args h _ hg1 ρ w args' H g1) fun e w' hx => ?_
            obtain ⟨ρ', v', rfl, k3, k4, k5⟩ := hx
            exact ⟨hdf, ρ', v', rfl, k3, E.trans k4, k5⟩
          · rename_i v1 hop
            cases hd
            have hsim := aop_ok H (a := { tmps := tm, defers := [] }) (b := { tmps := a.tmps, defers := [] }) ht o hop
            obtain ⟨v', g1, g2⟩ := hsim
            rw [he] at g2
            rw [g2]
            exact ⟨hdf, ρ, v', rfl, H, E, g1⟩
          · cases hd
theorem gen_opsP {ops : Array Oper} {Q : Exit → Act → World → Prop} (hQ : ∀ e a w, Q e a w → ∃ c, e = .panic c) {fn : FuncId} {kind : CallKind} {ro : Option Nat} {k : List Item} {cs : List Frame} (hnd : ∀ (j : Nat) (o : Oper) c, ops[j]? = some o → o.op ≠ .defer c) :
    ∀ (l : List Nat) (tm : Array Value) (df : List Deferred) (w : World), wpOps P ops Q l ⟨tm, df⟩ w →
      ∃ c a' w' td, Q (.panic c) a' w' ∧ Steps P (lone ⟨fn, tm, .inRegion ops l :: k, df, .run, kind, ro⟩ cs w) (lone ⟨fn, a'.tmps, td, a'.defers, .panicking c, kind, ro⟩ cs w')
  | [], tm, df, w, h => by
    obtain ⟨c, hc⟩ := hQ _ _ _ (h : Q .normal ⟨tm, df⟩ w)
    cases hc
  | i :: rest, tm, df, w, h => by
    simp only [wpOps] at h
    have skip : ∀ (v : Option Tmp), (ops[i]?).bind (·.dst) = v → ((ops[i]?).map (Region.wanted · (yielded ops tm))).getD false = false → step P (lone ⟨fn, tm, .inRegion ops (i :: rest) :: k, df, .run, kind, ro⟩ cs w) = .next (lone ⟨fn, ((⟨tm, df⟩ : Act).put v undef).tmps, .inRegion ops rest :: k, df, .run, kind, ro⟩ cs w) := fun v hv hs => by
      refine step_lone_go ?_
      simp only [stepG, stepG.exec, hs]
      simp only [Frame.finish, hv]
      cases v <;> rfl
    cases ho : ops[i]? with
    | none =>
      rw [ho] at h skip
      obtain ⟨c, a', w', td, h1, h2⟩ := gen_opsP hQ (fn := fn) (kind := kind) (ro := ro) (k := k) (cs := cs) hnd rest tm df w h
      exact ⟨c, a', w', td, h1, .head (skip none rfl rfl) h2⟩
    | some o =>
      rw [ho] at h skip
      simp only at h
      by_cases hw : Region.wanted o (yielded ops tm) = true
      · rw [if_pos hw] at h
        rcases h with h | ⟨_, a0, w0, hq⟩
        case inr =>
          obtain ⟨c, hc⟩ := hQ _ _ _ hq
          cases hc
        have hg := stepG_op' (P := P) (fr := ⟨fn, tm, .inRegion ops (i :: rest) :: k, df, .run, kind, ro⟩) (cs := cs) (w := w) rfl rfl ho hw (.inr fun c => hnd i o c ho)
        rw [eval_eq _ df] at hg
        have hfin : ∀ v df', (⟨fn, tm, .inRegion ops (i :: rest) :: k, df', .run, kind, ro⟩ : Frame).finish v = ⟨fn, ((⟨tm, df'⟩ : Act).put o.dst v).tmps, .inRegion ops rest :: k, ((⟨tm, df'⟩ : Act).put o.dst v).defers, .run, kind, ro⟩ := fun v df' => by
          simp only [Frame.finish, ho, Option.bind_some]
          cases o.dst <;> rfl
        simp only [Oper.wp, Oper.upon] at h
        split at h
        · rename_i v w' hr
          obtain ⟨c, a', w'', td, h1, h2⟩ := gen_opsP hQ (fn := fn) (kind := kind) (ro := ro) (k := k) (cs := cs) hnd rest ((⟨tm, df⟩ : Act).put o.dst v).tmps ((⟨tm, df⟩ : Act).put o.dst v).defers w' h
          refine ⟨c, a', w'', td, h1, .head (step_lone_go ?_) h2⟩
          rw [hg, ← hfin]; simp [stepG.apply, hr]
        · rename_i w' hr
          obtain ⟨c, a', w'', td, h1, h2⟩ := gen_opsP hQ (fn := fn) (kind := kind) (ro := ro) (k := k) (cs := cs) hnd rest ((⟨tm, df⟩ : Act).put o.dst undef).tmps ((⟨tm, df⟩ : Act).put o.dst undef).defers w' h
          refine ⟨c, a', w'', td, h1, .head (step_lone_go ?_) h2⟩
          rw [hg, ← hfin]; simp [stepG.apply, hr]
        · rename_i d w' hr
          obtain ⟨c, a', w'', td, h1, h2⟩ := gen_opsP hQ (fn := fn) (kind := kind) (ro := ro) (k := k) (cs := cs) hnd rest ((⟨tm, d :: df⟩ : Act).put o.dst undef).tmps ((⟨tm, d :: df⟩ : Act).put o.dst undef).defers w' h
          refine ⟨c, a', w'', td, h1, .head (step_lone_go ?_) h2⟩
          have hfin' := hfin undef (d :: df)
          rw [hg]; simp only [stepG.apply, Sem.runT_eq, hr, GStep.bare_after]
          exact congrArg (fun fr => GStep.go { frame := fr, callers := cs, status := .running, dying := none } w') hfin'
        · rename_i f args w' hr
          obtain ⟨e, w'', fr, hR, hsteps, _, hleave⟩ := h (⟨fn, tm, .inRegion ops (i :: rest) :: k, df, .run, kind, ro⟩ :: cs)
          have henter : step P (lone ⟨fn, tm, .inRegion ops (i :: rest) :: k, df, .run, kind, ro⟩ cs w) = .next (lone (Frame.enter P f args .normal) (⟨fn, tm, .inRegion ops (i :: rest) :: k, df, .run, kind, ro⟩ :: cs) w') :=
            step_lone_go (by rw [hg]; simp [stepG.apply, hr])
          cases e with
          | returned v =>
            obtain ⟨c, a', w3, td, h1, h2⟩ := gen_opsP hQ (fn := fn) (kind := kind) (ro := ro) (k := k) (cs := cs) hnd rest ((⟨tm, df⟩ : Act).put o.dst v).tmps ((⟨tm, df⟩ : Act).put o.dst v).defers w'' hR
            refine ⟨c, a', w3, td, h1, .head henter (hsteps.trans (.head ?_ h2))⟩
            rw [← hfin]; exact step_leave_returned hleave
          | panicked chain =>
            refine ⟨chain, ⟨tm, df⟩, w'', .inRegion ops (i :: rest) :: k, hR, .head henter (hsteps.trans (.one ?_))⟩
            exact step_leave_panicked hleave
          | outgrown =>
            obtain ⟨a0, w0, hq⟩ := hR
            obtain ⟨c, hc⟩ := hQ _ _ _ hq
            cases hc
        · rename_i row args w' hr
          obtain ⟨v, w'', hR, hsteps⟩ := h ⟨fn, tm, .inRegion ops (i :: rest) :: k, df, .run, kind, ro⟩ cs
          have henter : step P (lone ⟨fn, tm, .inRegion ops (i :: rest) :: k, df, .run, kind, ro⟩ cs w) = .next (lone (Frame.ofRow P row args .normal) (⟨fn, tm, .inRegion ops (i :: rest) :: k, df, .run, kind, ro⟩ :: cs) w') :=
            step_lone_go (by rw [hg]; simp [stepG.apply, hr])
          obtain ⟨c, a', w3, td, h1, h2⟩ := gen_opsP hQ (fn := fn) (kind := kind) (ro := ro) (k := k) (cs := cs) hnd rest ((⟨tm, df⟩ : Act).put o.dst v).tmps ((⟨tm, df⟩ : Act).put o.dst v).defers w'' hR
          refine ⟨c, a', w3, td, h1, .head henter (hsteps.trans ?_)⟩
          rw [hfin]; exact h2
        · rename_i v w' hr
          refine ⟨_, ⟨tm, df⟩, w', .inRegion ops (i :: rest) :: k, h, .one (step_lone_go ?_)⟩
          rw [hg]; simp [stepG.apply, hr, Frame.raise]
        · exact h.elim
      · rw [if_neg hw] at h
        obtain ⟨c, a', w', td, h1, h2⟩ := gen_opsP hQ (fn := fn) (kind := kind) (ro := ro) (k := k) (cs := cs) hnd rest _ _ w h
        refine ⟨c, a', w', td, h1, .head ?_ h2⟩
        rw [skip o.dst rfl (by simpa using hw)]
        cases o.dst <;> rfl
theorem drawP_ok (hmix : P.follows .mixedOrders = true) {nest : FuncId → Array Value → AH → Option NR} (hnest : NestOKR P G nest) {ops : Array Oper} {tm : Array Value} {v : Value} {h' : AH} (hd : adrawAllP P G nest ops tm h = some (v, h'))
    {fr : Frame} {k : List Item} {id : Nat} (H : WR G ρ h w) (ht : renArr ρ tm = some fr.tmps) (hm : fr.mode = .run) (hto : fr.todo = .code (.region id ops true) :: k) :
    ∃ ρ' v' w' fr', WR G ρ' h' w' ∧ Ext ρ h w ρ' h' w' ∧ ren ρ' v = some v' ∧ fr'.mode = .panicking [⟨v', false, false⟩] ∧ fr'.defers = fr.defers ∧ fr'.fn = fr.fn ∧ Steps P (lone fr cs w) (lone fr' cs w') := by
  unfold adrawAllP at hd
  split at hd
  case isFalse => cases hd
  rename_i hc
  simp only [Bool.and_eq_true, Bool.not_eq_true', Array.any_eq_false] at hc
  obtain ⟨hns, hnd⟩ := hc
  have hnd' : ∀ (j : Nat) (o : Oper) c, ops[j]? = some o → o.op ≠ .defer c := fun j o c hj q => by
    obtain ⟨hlt, e⟩ := Array.getElem?_eq_some_iff.1 hj
    have := hnd j hlt
    rw [e, q] at this
    simp [isDefer] at this
  let w1 : World := { w with drawn := w.drawn + 1 }
  have H1 : WR G ρ h w1 := H.drawn _
  have E1 : Ext ρ h w ρ h w1 := Ext.drawn _ _ _ _
  have hX : wpX P .any ops (DrawQP G ρ h w fr.defers v h') [] ops.size (Array.replicate ops.size false) ⟨fr.tmps, fr.defers⟩ w1 := by
    by_cases hal : hasAlloc ops = true
    · rw [if_pos hal] at hd
      exact adrawP_ok hnest hns rfl hd (H1.cast (n := h.next + ops.size) (by omega)) (E1.cast (n := h.next + ops.size) (by omega)) ht rfl (Γ := []) (by exact trivial) (by simp) (fun _ => Nat.le_refl _) (by simp) (fun _ k _ _ => H.fresh _ (by omega))
    · rw [if_neg hal] at hd
      exact adrawP_ok hnest hns rfl hd H1 E1 ht rfl (Γ := []) (by exact trivial) (by simp) (fun q => absurd q hal) (Nat.le_refl _) (fun q => absurd q hal)
  have hA := wpAny_of_X _ _ _ _ _ hX
  have hO := wpAny_sound ops.size (w.tape w.drawn (.order fr.fn id)) _ _ _ hA
  obtain ⟨fn, tmps, todo, defers, mode, kind, ro⟩ := fr
  simp only at hto hm hO
  subst hto
  subst hm
  obtain ⟨c, a', w', td, ⟨hdf, ρ', v', hc, q1, q2, q3⟩, hst⟩ := gen_opsP (fun e a w hq => by obtain ⟨_, _, _, q, _⟩ := hq; exact ⟨_, q⟩) (fn := fn) (kind := kind) (ro := ro) (k := k) (cs := cs) hnd' _ _ _ _ hO
  cases hc
  refine ⟨ρ', v', w', ⟨fn, a'.tmps, td, a'.defers, .panicking [⟨v', false, false⟩], kind, ro⟩, q1, q2, q3, rfl, hdf, rfl, .head ?_ hst⟩
  refine step_lone_go ?_
  simp only [stepG, stepG.exec]
  simp [choose, Sem.run, Question.forced, Question.cut, Region.schedule, hmix, Region.linearise]
  rfl
def bstep (P : Program) (G : Nat) (hk : FuncId → Array Value → AH → Option (Value × AH)) (nest : FuncId → Array Value → AH → Option NR) (draw : Array Oper → Array Value → AH → Option (Array Value × AH)) (s : AS) : Option AS :=
  match astep P G hk draw s with
  | some s' => some s'
  | none => match s.fr.mode, s.fr.todo, s.fr.defers, s.cs with
    | .run, .code (.region _ ops true) :: _, [], c :: rest => match P.funcs[s.fr.fn]?, adrawAllP P G nest ops s.fr.tmps s.h with
      | some _, some (v, h') => some ⟨c.raise [⟨v, false, false⟩], rest, h'⟩
      | _, _ => none
    | _, _, _, _ => none
def StepSound (P : Program) (G : Nat) (stp : AS → Option AS) : Prop :=
  ∀ {ρ : Rho} {s s' : AS} {fr : Frame} {cs cs0 : List Frame} {w : World}, SR G ρ s fr cs w → stp s = some s' → StepTo P G ρ s s' fr cs cs0 w
theorem bstep_ok (hmix : P.follows .mixedOrders = true) {hk : FuncId → Array Value → AH → Option (Value × AH)} (hhk : NestOK P G hk) {nest : FuncId → Array Value → AH → Option NR} (hnest : NestOKR P G nest) {draw : Array Oper → Array Value → AH → Option (Array Value × AH)} (hdraw : DrawOK P G draw) :
    StepSound P G (bstep P G hk nest draw) := by
  intro ρ s s' fr cs cs0 w H hs
  unfold bstep at hs
  split at hs
  · rename_i s1 h1
    cases hs
    exact astep_ok hhk hdraw H h1
  · split at hs
    case h_2 => cases hs
    rename_i id ops k c rest hmd htd hdf hcs
    split at hs
    case h_2 => cases hs
    rename_i fn v h' hfn hdr
    cases hs
    have hm := renM_run H.fr hmd
    have htd' := H.fr.todo
    rw [htd] at htd'
    obtain ⟨x', k', q1, q2, ht⟩ := renIs_cons.1 htd'
    cases q1
    have hdf' := H.fr.defers
    rw [hdf] at hdf'
    simp [renDs] at hdf'
    have hcr := H.cs
    rw [hcs] at hcr
    obtain ⟨d, m, rfl, hf, hr⟩ := hcr.cons_inv
    obtain ⟨ρ', v', w', fr', g1, g2, g3, g4, g5, g6, g7⟩ := drawP_ok (cs := (d :: m) ++ cs0) hmix hnest hdr H.w H.fr.tmps hm ht
    have hlv : fr'.leaving P w' (.panicked [⟨v', false, false⟩]) := ⟨g4, by rw [g5]; exact hdf'.symm ▸ rfl, fn, by rw [g6, H.fr.fn]; exact hfn⟩
    refine ⟨ρ', d.raise [⟨v', false, false⟩], m, w', ⟨raise_ren (hf.mono g2.le) (by simp [renP, g3]), hr.mono g2.le, g1⟩, g2, g7.trans (.one ?_)⟩
    exact step_leave_panicked hlv
theorem iterS_ok {stp : AS → Option AS} (hst : StepSound P G stp) : ∀ (n : Nat) {s s' : AS} {ρ : Rho} {fr : Frame} {cs : List Frame} {w : World}, SR G ρ s fr cs w → iter stp n s = some s' → StepTo P G ρ s s' fr cs cs0 w
  | 0, s, s', ρ, fr, cs, w, H, hi => by
    simp only [iter] at hi
    cases hi
    exact StepTo.refl H
  | n + 1, s, s', ρ, fr, cs, w, H, hi => by
    simp only [iter] at hi
    cases q : stp s with
    | none =>
      rw [q] at hi
      cases hi
      exact StepTo.refl H
    | some s1 =>
      rw [q] at hi
      obtain ⟨ρ1, fr1, cs1, w1, H1, E1, S1⟩ := hst (cs0 := cs0) H q
      obtain ⟨ρ2, fr2, cs2, w2, H2, E2, S2⟩ := iterS_ok hst n H1 hi
      exact ⟨ρ2, fr2, cs2, w2, H2, E1.trans E2, S1.trans S2⟩
def apfinal (P : Program) (G : Nat) (nest : FuncId → Array Value → AH → Option NR) (s : AS) : Option (Value × AH) :=
  match s.cs, s.fr.defers, P.funcs[s.fr.fn]? with
  | [], [], some _ => match s.fr.mode with
    | .panicking [⟨v, false, false⟩] => some (v, s.h)
    | .run => match s.fr.todo with
      | .code (.region _ ops true) :: _ => adrawAllP P G nest ops s.fr.tmps s.h
      | _ => none
    | _ => none
  | _, _, _ => none
theorem apfinal_ok (hmix : P.follows .mixedOrders = true) {nest : FuncId → Array Value → AH → Option NR} (hnest : NestOKR P G nest) {s : AS} {fr : Frame} (H : SR G ρ s fr cs w) {v : Value} {h' : AH} (hf : apfinal P G nest s = some (v, h')) :
    cs = [] ∧ ∀ cs0, ∃ ρ' v' w' fr', WR G ρ' h' w' ∧ Ext ρ s.h w ρ' h' w' ∧ ren ρ' v = some v' ∧ fr'.fn = fr.fn ∧ fr'.leaving P w' (.panicked [⟨v', false, false⟩]) ∧ Steps P (lone fr cs0 w) (lone fr' cs0 w') := by
  unfold apfinal at hf
  split at hf
  case h_2 => cases hf
  rename_i fn hcs hdf hfn
  have hc := H.cs
  rw [hcs] at hc
  have hcn : cs = [] := by
    cases cs with
    | nil => rfl
    | cons c cs => exact hc.elim
  have hdf' := H.fr.defers
  rw [hdf] at hdf'
  simp [renDs] at hdf'
  refine ⟨hcn, fun cs0 => ?_⟩
  split at hf
  · rename_i v0 hm
    cases hf
    have hmd := H.fr.mode
    rw [hm] at hmd
    simp only [renM, renP, Option.map_eq_some_iff, Option.bind_eq_some_iff] at hmd
    obtain ⟨c, ⟨v', h1, l, h2, rfl⟩, h3⟩ := hmd
    cases h2
    exact ⟨ρ, v', w, fr, H.w, Ext.refl _ _ _, h1, rfl, ⟨h3.symm, hdf'.symm ▸ rfl, fn, by rw [H.fr.fn]; exact hfn⟩, .refl _ _⟩
  · rename_i hm
    split at hf
    case h_2 => cases hf
    rename_i id ops k htd
    have hm' := renM_run H.fr hm
    have htd' := H.fr.todo
    rw [htd] at htd'
    obtain ⟨x', k', q1, q2, ht⟩ := renIs_cons.1 htd'
    cases q1
    obtain ⟨ρ', v', w', fr', g1, g2, g3, g4, g5, g6, g7⟩ := drawP_ok (cs := cs0) hmix hnest hf H.w H.fr.tmps hm' ht
    exact ⟨ρ', v', w', fr', g1, g2, g3, g6, ⟨g4, by rw [g5]; exact hdf'.symm ▸ rfl, fn, by rw [g6, H.fr.fn]; exact hfn⟩, g7⟩
  · cases hf
def acallD (P : Program) (G : Nat) (hk : FuncId → Array Value → AH → Option (Value × AH)) (n : Nat) : Nat → FuncId → Array Value → AH → Option NR
  | 0 => fun _ _ _ => none
  | d + 1 => fun f args h => match hk f args h with
    | some (v, h') => some (.ret v h')
    | none => if hasBody P f then
        (iter (bstep P G hk (acallD P G hk n d) (adrawC P G (retOf (acallD P G hk n d)))) n ⟨Frame.enter P f args .normal, [], h⟩).bind fun s => if Nat.beq s.fr.fn f then
            match afinal P s with
            | some (v, h') => some (.ret v h')
            | none => match apfinal P G (acallD P G hk n d) s with
              | some (v, h') => some (.pan v h')
              | none => none
          else none
      else none
theorem callD_ok (hmix : P.follows .mixedOrders = true) {hk : FuncId → Array Value → AH → Option (Value × AH)} (hhk : NestOK P G hk) {n : Nat} : ∀ d, NestOKR P G (acallD P G hk n d)
  | 0 => by intro f args h r hc; simp [acallD] at hc
  | d + 1 => by
    have ih := callD_ok hmix hhk (n := n) d
    intro f args h r hc ρ w args' H ha
    simp only [acallD] at hc
    split at hc
    · rename_i v h' hr
      cases hc
      exact hhk f args h v h' hr ρ w args' H ha
    · split at hc
      case isFalse => cases hc
      obtain ⟨s, hs, hf⟩ := Option.bind_eq_some_iff.1 hc
      split at hf
      case isFalse => cases hf
      rename_i hfn
      have hfn : s.fr.fn = f := Nat.eq_of_beq_eq_true hfn
      intro cs0
      have H0 : SR G ρ ⟨Frame.enter P f args .normal, [], h⟩ (Frame.enter P f args' .normal) [] w := ⟨enter_ren ha f .normal, trivial, H⟩
      obtain ⟨ρ', fr', cs', w', H', E', S'⟩ := iterS_ok (cs0 := cs0) (bstep_ok hmix hhk ih (drawC_ok hmix (retOf_ok ih))) n H0 hs
      split at hf
      · rename_i v h' hfin
        cases hf
        obtain ⟨rfl, rfl, v', h1, h2⟩ := final_ok H' hfin
        exact ⟨.returned v', w', fr', ⟨ρ', v', rfl, H'.w, E', h1⟩, S', by rw [H'.fr.fn, hfn], h2⟩
      · split at hf
        case h_2 => cases hf
        rename_i v h' hpf
        cases hf
        obtain ⟨rfl, hall⟩ := apfinal_ok hmix ih H' hpf
        obtain ⟨ρ2, v', w2, fr2, g1, g2, g3, g4, g5, g6⟩ := hall cs0
        exact ⟨.panicked [⟨v', false, false⟩], w2, fr2, ⟨ρ2, v', rfl, g1, E'.trans g2, g3⟩, S'.trans g6, by rw [g4, H'.fr.fn, hfn], g5⟩
end
end Go.AE
namespace Go.AE
open Go
def rhoG (G : Nat) (st : Nat → List (Value × Nat) × Nat) : Rho := ⟨fun i => bif Nat.blt i G then some i else none, fun _ => none, st⟩
def GlOK (G : Nat) (gl : List (Nat × AObj)) : Prop :=
  ∀ st, ∀ x ∈ gl, x.1 < G ∧ ∃ c t, x.2 = .cells c t none true ∧ renL (rhoG G st) c = some c
def TellG (P : Program) (G : Nat) (gl : List (Nat × AObj)) (f : FuncId) (args : Array Value) (v : Value) : Prop :=
  ∀ (ρ : Rho) (w : World), WR G ρ (mkH G gl) w → Calls P f args w fun e w' => ∃ ρ' h', e = .returned v ∧ WR G ρ' h' w' ∧ Ext ρ (mkH G gl) w ρ' h' w'
section
variable {P : Program} {G : Nat} {gl : List (Nat × AObj)}
theorem rhoG_blk {st : Nat → List (Value × Nat) × Nat} {i b : Nat} (h : (rhoG G st).blk i = some b) : i < G ∧ b = i := by
  simp only [rhoG] at h
  cases q : Nat.blt i G with
  | true => rw [q] at h; rw [Nat.blt_eq] at q; simp at h; exact ⟨q, h.symm⟩
  | false => rw [q] at h; cases h
theorem rhoG_at {st : Nat → List (Value × Nat) × Nat} {i : Nat} (h : i < G) : (rhoG G st).blk i = some i := by
  have : Nat.blt i G = true := by rw [Nat.blt_eq]; exact h
  simp [rhoG, this]
theorem start_of_gl (hgl : GlOK G gl) {ρ : Rho} {H : AH} {w : World} (HW : WR G ρ H w) (hh : ∀ x ∈ gl, H.get x.1 = some x.2) : WR G (rhoG G ρ.st) (mkH G gl) w := by
  have hle : (rhoG G ρ.st).le ρ := fun i b hb => by
    obtain ⟨h1, rfl⟩ := rhoG_blk hb
    exact ⟨(HW.glob _ h1).1, (HW.glob _ h1).2, rfl⟩
  have hin : ∀ i o, (mkH G gl).get i = some o → (i, o) ∈ gl := fun i o e => by
    rcases mkH_get gl _ i o e with q | q
    · exact q
    · simp [AH.get, T.get] at q
  have hn : (mkH G gl).next = G := mkH_next G gl _ rfl
  refine ⟨fun i o e => ?_, fun i hi => ?_, fun i j o p b _ _ b1 b2 => ?_, fun g hg => ⟨rhoG_at hg, rfl⟩, by rw [hn]; exact Nat.le_refl _⟩
  · have hm := hin i o e
    obtain ⟨h1, c, t, h2, h3⟩ := hgl ρ.st _ hm
    simp only at h1 h2
    subst h2
    obtain ⟨b, x, q1, q2, q3⟩ := HW.obj i _ (hh _ hm)
    rw [(HW.glob i h1).1] at q1
    cases q1
    refine ⟨i, x, rhoG_at h1, q2, ?_⟩
    cases x <;> simp only [ObjR] at q3 ⊢
    obtain ⟨g1, ⟨c', tail, g2, g3, g4⟩, g5, _, _⟩ := q3
    have := renL_mono hle _ _ h3
    rw [g3] at this
    cases this
    exact ⟨g1, ⟨c, tail, g2, h3, g4⟩, g5, fun _ => rfl, fun sz q => by cases q⟩
  · rw [hn] at hi
    have : Nat.blt i G = false := by
      cases q : Nat.blt i G with
      | false => rfl
      | true => rw [Nat.blt_eq] at q; omega
    simp [rhoG, this]
  · rw [← (rhoG_blk b1).2, ← (rhoG_blk b2).2]
theorem tell_of_segs {f : FuncId} {args : Array Value} (ha : closedArr args = true) {s : AS} {v : Value} {h' : AH} (hv : closed v = true)
    (hs : ∀ ρ w cs0, WR G ρ (mkH G gl) w → StepTo P G ρ ⟨Frame.enter P f args .normal, [], mkH G gl⟩ s (Frame.enter P f args .normal) [] cs0 w) (hf : (afinal P s).map (·.1) = some v) (hfn : Nat.beq s.fr.fn f = true) (_hh : s.h = h') :
    TellG P G gl f args v := by
  intro ρ w H
  obtain ⟨⟨v0, h0⟩, hf0, hv0⟩ := Option.map_eq_some_iff.1 hf
  simp only at hv0
  subst hv0
  refine Calls.mono (calls_of_segs H (closedArr_ren ρ args ha) (fun cs0 => hs ρ w cs0 H) hf0 (Nat.eq_of_beq_eq_true hfn)) ?_
  rintro e w' ⟨ρ', v', rfl, h1, h2, h3⟩
  rw [closed_ren ρ' _ hv] at h3
  cases h3
  exact ⟨ρ', h0, rfl, h1, h2⟩
theorem segS_ok {stp : AS → Option AS} (hst : StepSound P G stp) {n : Nat} {s : AS} {fr1 : Frame} {cs1 : List Frame} {next : Nat} {l : List (Nat × AObj)}
    (hi : (iter stp n s).map (look (l.map (·.1))) = some (fr1, cs1, next, l.map fun x => some x.2)) {ρ0 : Rho} {s0 : AS} {fr0 : Frame} {cr : List Frame} {w0 : World} {cs0 : List Frame}
    (H : StepTo P G ρ0 s0 s fr0 cr cs0 w0) : StepTo P G ρ0 s0 ⟨fr1, cs1, mkH next l⟩ fr0 cr cs0 w0 := by
  obtain ⟨ρ1, fa, ca, wa, H1, E1, S1⟩ := H
  obtain ⟨s', hs, hl⟩ := Option.map_eq_some_iff.1 hi
  obtain ⟨ρ2, fb, cb, wb, H2, E2, S2⟩ := iterS_ok (cs0 := cs0) hst n H1 hs
  simp only [look, Prod.mk.injEq] at hl
  obtain ⟨rfl, rfl, rfl, hids⟩ := hl
  have hsub : ∀ i o, (mkH s'.h.next l).get i = some o → s'.h.get i = some o := fun i o e => by
    rcases mkH_get l _ i o e with q | q
    · obtain ⟨j, hj, e⟩ := List.mem_iff_getElem.1 q
      have := congrArg (fun (m : List (Option AObj)) => m[j]?) hids
      simp [List.getElem?_eq_getElem hj, e] at this
      exact this
    · simp [AH.get, T.get] at q
  have hnx : (mkH s'.h.next l).next = s'.h.next := mkH_next _ l _ rfl
  exact ⟨ρ2, fb, cb, wb, ⟨H2.fr, H2.cs, H2.w.sub hnx hsub⟩, (E1.trans E2).sub hnx hsub, S1.trans S2⟩
end
end Go.AE
