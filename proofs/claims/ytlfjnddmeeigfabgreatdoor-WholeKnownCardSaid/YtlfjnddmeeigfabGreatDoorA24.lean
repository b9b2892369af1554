import Derived.Test.YtlfjnddmeeigfabGreatDoorA23
namespace Go.AE
open Go

section
variable {P : Program} {G : Nat} {ρ : Rho} {h : AH} {w : World}

/-- What a region that draws leaves. -/
def DrawQ (G : Nat) (ρ0 : Rho) (h0 : AH) (w0 : World) (ds : List Deferred) (res : Array Value × AH) : Exit → Act → World → Prop := fun e a w =>
  e = .normal ∧ a.defers = ds ∧ ∃ ρ', WR G ρ' res.2 w ∧ Ext ρ0 h0 w0 ρ' res.2 w ∧ renArr ρ' res.1 = some a.tmps

theorem okTake_spec {ops : Array Oper} {listed wt : Array Bool} {i : Nat} {oi : Oper} (hi : ops[i]? = some oi) (hk : okTake ops listed wt i = true) :
    (∀ j oj, ops[j]? = some oj → j ≠ i → listed.getD j true = false → (!wt.getD j false) = true → oi.apart ops oj = true) ∧
    (∀ j oj, ops[j]? = some oj → j ≠ i → listed.getD j true = false → (!wt.getD j false) = false → ∃ e ∈ oj.after, Region.binds .any e = true ∧ (e.on = i ∨ (listed.getD e.on true = false ∧ (!wt.getD e.on false) = false))) := by
  unfold okTake at hk
  rw [hi] at hk
  simp only [List.all_eq_true, List.mem_range] at hk
  refine ⟨fun j oj hj hji hun hw => ?_, fun j oj hj hji hun hw => ?_⟩
  all_goals
    have h1 := hk j (Array.getElem?_eq_some_iff.1 hj).1
    rw [hj, hun] at h1
    simp only [Bool.or_eq_true, beq_iff_eq, hji, false_or, Bool.false_eq_true] at h1
  · simp only [Bool.not_eq_true'] at hw
    rw [if_neg (by rw [hw]; simp)] at h1
    exact h1
  · simp only [Bool.not_eq_false'] at hw
    rw [if_pos hw] at h1
    obtain ⟨e, he, hb⟩ := Array.any_eq_true'.1 h1
    simp only [Bool.and_eq_true, Bool.or_eq_true, beq_iff_eq, Bool.not_eq_true'] at hb
    exact ⟨e, he, hb.1, hb.2.imp id fun ⟨p, q⟩ => ⟨p, by simp [q]⟩⟩

theorem apureV_ok (H : WR G ρ h w) {a : Act} {tm : Array Value} (ht : renArr ρ tm = some a.tmps) {o : Oper} {v : Value} (hv : apureV P G h (evA tm) o = some v) : PureAt P ρ a.eval o v := by
  unfold apureV at hv
  split at hv
  case isFalse => cases hv
  rename_i hok
  have hr : ∀ x ∈ o.op.operands, ren ρ (evA tm x) = some (a.eval x) := fun x hx => by
    rw [evA_eq a]
    exact ev_ren H (a := { tmps := tm, defers := [] }) (b := { tmps := a.tmps, defers := [] }) ht (Array.all_eq_true_iff_forall_mem.1 hok x hx)
  split at hv
  · rename_i v' hp
    cases hv
    exact aptr_ok H o hr hp
  · by_cases hc : (notSelect o.op && o.op.operands.all (fun x => closed (evA tm x))) = true
    case neg => rw [if_neg hc] at hv; cases hv
    rw [if_pos hc] at hv
    simp only [Bool.and_eq_true] at hc
    split at hv
    case h_2 => cases hv
    rename_i v' hp
    split at hv
    case isFalse => cases hv
    rename_i hcv
    cases hv
    have hs : ∀ cs b, o.op ≠ .select cs b := fun cs b q => by rw [q] at hc; simp [notSelect] at hc
    exact ⟨v, closed_ren ρ v hcv, closed_op (P := P) hs hr (fun x hx => Array.all_eq_true_iff_forall_mem.1 hc.2 x hx) hp⟩

theorem aloadV_ok (H : WR G ρ h w) {a : Act} {tm : Array Value} (ht : renArr ρ tm = some a.tmps) {o : Oper} {v : Value} {ad : Addr} {n : Nat} {l : List Value} (hv : aloadV P G h (evA tm) o = some (v, ad, n, l)) :
    ∃ b l' v', renA ρ ad = some b ∧ renL ρ l = some l' ∧ ren ρ v = some v' ∧ (∀ j u, l'[j]? = some u → w.cell? (b.add j) = some u) ∧
      ∀ w', (∀ j u, l'[j]? = some u → w'.cell? (b.add j) = some u) → (execOp a.eval o).run P w' = .ok (.value v') w' := by
  unfold aloadV at hv
  split at hv
  case h_2 => cases hv
  rename_i t x hop
  split at hv
  case isFalse => cases hv
  rename_i hok
  split at hv
  case h_2 => cases hv
  rename_i a0 hce
  split at hv
  case h_2 => cases hv
  rename_i v0 l0 h1 h2
  cases hv
  have hx : ren ρ (evA tm x) = some (a.eval x) := by
    rw [evA_eq a]
    exact ev_ren H (a := { tmps := tm, defers := [] }) (b := { tmps := a.tmps, defers := [] }) ht hok
  rw [hce] at hx
  obtain ⟨b, hb, hx'⟩ := ren_ptr hx
  obtain ⟨l', r1, r2, r3⟩ := cells_ok H h2 hb
  obtain ⟨v', s1, s2⟩ := load_ok H h1 hb
  refine ⟨b, l', v', hb, r1, s1, r3, fun w' hw' => ?_⟩
  have hld := s2 w' fun j hj => by
    have : ∃ u, l'[j]? = some u := ⟨_, List.getElem?_eq_getElem (by omega)⟩
    obtain ⟨u, hu⟩ := this
    rw [hw' j u hu, r3 j u hu]
  simp only [execOp, hop, hx', Instr.loadAt, Instr.sureAddr, Sem.run_bind, Sem.run_pure, Result.andThen_ok, hld]

theorem pick_ok (H : WR G ρ h w) {ops : Array Oper} {listed : Array Bool} {tm : Array Value} {a : Act} (ht : renArr ρ tm = some a.tmps) : ∀ {rs : List Nat} {i : Nat} {v : Value} {gs : List Held}, pick P G ops listed tm h rs = some (i, v, gs) →
    i ∈ rs ∧ ∃ o v' wt S, ops[i]? = some o ∧ okTake ops listed wt i = true ∧ ren ρ v = some v' ∧ YieldsIf P ops S o v' a ∧ S w ∧
      ((gs = [] ∧ ∀ w, S w) ∨ ∃ g, gs = [g] ∧ HeldR ρ g (S, fun j => !wt.getD j false))
  | [], i, v, gs, hp => by simp [pick] at hp
  | k :: rest, i, v, gs, hp => by
    have go : pick P G ops listed tm h rest = some (i, v, gs) → _ := fun q => let ⟨q1, q2⟩ := pick_ok H ht q; And.intro (List.mem_cons_of_mem k q1) q2
    unfold pick at hp
    split at hp
    · cases hp
    rename_i o ho
    dsimp only at hp
    have hy := yielded_ren ht ops
    split at hp
    · rename_i v0 gs0 hr
      split at hp
      · rename_i hk
        cases hp
        refine ⟨List.mem_cons_self .., ?_⟩
        split at hr
        · rename_i hw
          have hw' : Region.wanted o (yielded ops a.tmps) = true := by rw [hy]; exact hw
          split at hr
          · rename_i v1 hv1
            cases hr
            obtain ⟨v', p1, p2⟩ := apureV_ok H ht hv1
            exact ⟨o, v', _, fun _ => True, ho, hk, p1, .inl ⟨hw', fun w' _ => p2 w'⟩, trivial, .inl ⟨rfl, fun _ => trivial⟩⟩
          · split at hr
            · rename_i v1 ad n l hl
              cases hr
              obtain ⟨b, l', v', p1, p2, p3, p4, p5⟩ := aloadV_ok H ht hl
              exact ⟨o, v', _, fun w => ∀ j u, l'[j]? = some u → w.cell? (b.add j) = some u, ho, hk, p3, .inl ⟨hw', p5⟩, p4, .inr ⟨_, rfl, rfl, b, l', p1, p2, rfl⟩⟩
            · cases hr
        · rename_i hw
          cases hr
          have hw' : Region.wanted o (yielded ops a.tmps) = false := by rw [hy]; simpa using hw
          exact ⟨o, undef, _, fun _ => True, ho, hk, ren_undef ρ, .inr ⟨hw', rfl⟩, trivial, .inl ⟨rfl, fun _ => trivial⟩⟩
      · exact go hp
    · exact go hp

theorem same_sound {r s : Array Value × AH} (hs : same r s = true) : r = s := by
  unfold same at hs
  simp only [Bool.and_eq_true] at hs
  obtain ⟨r1, r2⟩ := r
  obtain ⟨s1, s2⟩ := s
  obtain ⟨n1, m1⟩ := r2
  obtain ⟨n2, m2⟩ := s2
  simp only at hs
  rw [veqA_sound _ _ hs.1, Nat.eq_of_beq_eq_true hs.2.1, teq_sound _ _ hs.2.2]

theorem branches_ok {nest : FuncId → Array Value → AH → Option (Value × AH)} {base : Nat} {ops : Array Oper} {rec_ : Nat → List Held → Array Value → AH → Option (Array Value × AH)} {gs : List Held} {tm : Array Value} : ∀ {rs : List Nat} {r : Array Value × AH},
    branches P G nest base ops rec_ gs tm h rs = some r → ∀ i ∈ rs, ∃ o v h', ops[i]? = some o ∧ Region.wanted o (yielded ops tm) = true ∧ perform P G nest base o i tm h = some (v, h') ∧ gs.all (heldOk h' i) = true ∧
      rec_ i (gs.filter fun g => !g.wt.getD i false) (putA ops i tm v) h' = some r
  | [], r, hb, i, hi => by cases hi
  | k :: rest, r, hb, i, hi => by
    unfold branches at hb
    split at hb
    · cases hb
    rename_i o ho
    split at hb
    case isFalse => cases hb
    rename_i hw
    split at hb
    case h_2 => cases hb
    rename_i v h' hp
    split at hb
    case isFalse => cases hb
    rename_i hall
    split at hb
    case h_2 => cases hb
    rename_i r0 hr
    have hd : r0 = r ∧ (rest = [] ∨ branches P G nest base ops rec_ gs tm h rest = some r) := by
      split at hb
      · cases hb; exact ⟨rfl, .inl rfl⟩
      · split at hb
        case h_2 => cases hb
        rename_i s hs
        split at hb
        case isFalse => cases hb
        rename_i hsame
        cases hb
        have := same_sound hsame
        subst this
        exact ⟨rfl, .inr hs⟩
    obtain ⟨rfl, hrest⟩ := hd
    rcases List.mem_cons.1 hi with rfl | hi
    · exact ⟨o, v, h', ho, hw, hp, hall, hr⟩
    · rcases hrest with rfl | hrest
      · cases hi
      · exact branches_ok hrest i hi

theorem adraw_ok {nest : FuncId → Array Value → AH → Option (Value × AH)} (hnest : NestOK P G nest) {base : Nat} {ops : Array Oper} (hns : Region.noSelect ops = true) {ρ0 : Rho} {h0 : AH} {w0 : World} (hbase : h0.next = base) {ds : List Deferred} :
    ∀ {f : Nat} {listed : Array Bool} {gs : List Held} {tm : Array Value} {h : AH} {res : Array Value × AH}, adraw P G nest base ops f listed gs tm h = some res →
    ∀ {ρ : Rho} {a : Act} {w : World} {Γ : List Watch}, WR G ρ h w → Ext ρ0 h0 w0 ρ h w → renArr ρ tm = some a.tmps → a.defers = ds → HeldsR ρ gs Γ → (∀ g ∈ Γ, g.1 w) →
      (hasAlloc ops = true → base + ops.size ≤ h.next) → base ≤ h.next → (hasAlloc ops = true → ∀ k, k < ops.size → listed.getD k true = false → ρ.blk (base + k) = none) → wpX P .any ops (DrawQ G ρ0 h0 w0 ds res) Γ f listed a w
  | 0, listed, gs, tm, h, res, hd, ρ, a, w, Γ, H, E, ht, hdf, hG, hΓ, hn, hbn, hΩ => by
    unfold adraw at hd
    split at hd
    case isFalse => cases hd
    rename_i hr
    cases hd
    exact ⟨by simpa using hr, rfl, hdf, ρ, H, E, ht⟩
  | f + 1, listed, gs, tm, h, res, hd, ρ, a, w, Γ, H, E, ht, hdf, hG, hΓ, hn, hbn, hΩ => by
    unfold adraw at hd
    split at hd
    · rename_i hr
      cases hd
      exact ⟨fun _ => ⟨rfl, hdf, ρ, H, E, ht⟩, fun i hi => (by rw [hr] at hi; cases hi)⟩
    · rename_i r rs hr
      split at hd
      · -- one is taken first
        rename_i i v g hp
        obtain ⟨hmem, o, v', wt, S, ho, hk, hv, hy, hS, hg⟩ := pick_ok (P := P) H ht hp
        obtain ⟨k1, k2⟩ := okTake_spec ho hk
        have hpd : (a.put o.dst v').defers = ds := by
          cases o.dst <;> exact hdf
        have hΩ' : hasAlloc ops = true → ∀ k, k < ops.size → (listed.setIfInBounds i true).getD k true = false → ρ.blk (base + k) = none := fun hal k hk hun => by
          refine hΩ hal k hk ?_
          by_cases q : i = k
          · subst q
            exact (mem_ready.1 (hr ▸ hmem)).1
          · rw [getD_set_ne true q] at hun; exact hun
        refine wpX_first ho (Region.noSelect_spec hns) (fun c a w q => by cases q.1) f Γ listed a w k1 k2 (hr ▸ hmem) hy hS hΓ ?_
        rcases hg with ⟨rfl, hall⟩ | ⟨g0, rfl, hg0⟩
        · have := adraw_ok hnest hns hbase hd H E (putA_ren ho ht hv) hpd hG hΓ hn hbn hΩ'
          exact wpX_imp _ _ _ _ _ _ (fun q hq => by
            rcases List.mem_cons.1 hq with rfl | hq
            · exact .inr hall
            · exact .inl hq) this
        · exact adraw_ok hnest hns hbase hd H E (putA_ren ho ht hv) hpd (Γ := (S, fun j => !wt.getD j false) :: Γ) ⟨hg0, hG⟩ (fun q hq => by
            rcases List.mem_cons.1 hq with rfl | hq
            · exact hS
            · exact hΓ q hq) hn hbn hΩ'
      · -- whoever comes next
        refine ⟨fun q => (by rw [hr] at q; cases q), fun i hi => ?_⟩
        rw [hr] at hi
        obtain ⟨o, v, h', ho, hw, hpf, hall, hrec⟩ := branches_ok hd i hi
        have hw' : Region.wanted o (yielded ops a.tmps) = true := by rw [yielded_ren ht]; exact hw
        have hisz := (Array.getElem?_eq_some_iff.1 ho).1
        have hun := (mem_ready.1 (hr ▸ hi : i ∈ Region.ready .any ops listed)).1
        have hal : (∃ t, o.op = .alloc t) → hasAlloc ops = true := fun ⟨t, q⟩ => by
          unfold hasAlloc
          exact Array.any_eq_true'.2 ⟨o, Array.mem_of_getElem? ho, by rw [q]⟩
        refine perform_ok hnest hpf H ht ho hw' (fun q => hΩ (hal q) i hisz hun) hbn fun ρ' v' w' W' E' hlow hnx hv' => ?_
        have E2 := (E.cast (n := base) (by omega)).trans E'
        obtain ⟨c1, c2⟩ := held_after W' E'.le i hG hall
        refine ⟨c1, adraw_ok hnest hns hbase hrec W' E2 (putA_ren ho (renArr_mono E'.le _ _ ht) hv') ?_ c2 (fun g hg => c1 g (List.mem_filter.1 hg).1 (List.mem_filter.1 hg).2) (fun q => Nat.le_trans (hn q) hnx) (Nat.le_trans hbn hnx) fun hala k hk hunk => ?_⟩
        · cases o.dst <;> exact hdf
        · have hki : k ≠ i := by
            rintro rfl
            have hls : k < listed.size := by
              rcases Nat.lt_or_ge k listed.size with q | q
              · exact q
              · simp [Array.getElem?_eq_none q] at hun
            simp [hls] at hunk
          have hold : listed.getD k true = false := by rw [getD_set_ne true (Ne.symm hki)] at hunk; exact hunk
          have q := hn hala
          rw [hlow k hki (by omega)]
          exact hΩ hala k hk hold
end
end Go.AE
