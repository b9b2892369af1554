import Derived.Test.YtlfjnddmeeigfabGreatDoorA13
namespace Go.AE
open Go

def renI (ρ : Rho) : Item → Option Item
  | .code c => some (.code c)
  | .inBlock i => some (.inBlock i)
  | .inLoop c => some (.inLoop c)
  | .inScope c => some (.inScope c)
  | .inRegion ops l => some (.inRegion ops l)
  | .inRangeFunc l => (ρ.blk l).map .inRangeFunc
  | .endRangeFunc l => (ρ.blk l).map .endRangeFunc
  | .beginRound => some .beginRound
  | .call .. => none
  | .extern .. => none

def renIs (ρ : Rho) : List Item → Option (List Item)
  | [] => some []
  | i :: l => (renI ρ i).bind fun i' => (renIs ρ l).map fun l' => i' :: l'

def renP (ρ : Rho) : List PanicEntry → Option (List PanicEntry)
  | [] => some []
  | p :: l => (ren ρ p.v).bind fun v => (renP ρ l).map fun l' => ⟨v, p.recovered, p.goexit⟩ :: l'

def renM (ρ : Rho) : FrameMode → Option FrameMode
  | .run => some .run
  | .returning => some .returning
  | .panicking c => (renP ρ c).map .panicking

structure FrR (ρ : Rho) (a b : Frame) : Prop where
  fn : b.fn = a.fn
  tmps : renArr ρ a.tmps = some b.tmps
  todo : renIs ρ a.todo = some b.todo
  defers : renDs ρ a.defers = some b.defers
  mode : renM ρ a.mode = some b.mode
  kind : b.kind = a.kind
  round : (a.roundOf = none ∧ b.roundOf = none) ∨ ∃ l l', a.roundOf = some l ∧ b.roundOf = some l' ∧ ρ.blk l = some l'

theorem renI_mono {ρ σ : Rho} (h : ρ.le σ) {x y : Item} (e : renI ρ x = some y) : renI σ x = some y := by
  cases x <;> simp only [renI, Option.map_eq_some_iff] at * <;> try exact e
  · obtain ⟨b, hb, e⟩ := e
    exact ⟨b, (h _ _ hb).1, e⟩
  · obtain ⟨b, hb, e⟩ := e
    exact ⟨b, (h _ _ hb).1, e⟩
theorem renIs_cons {ρ : Rho} {x : Item} {l r : List Item} : renIs ρ (x :: l) = some r ↔ ∃ x' l', renI ρ x = some x' ∧ renIs ρ l = some l' ∧ r = x' :: l' := by
  simp only [renIs, Option.bind_eq_some_iff, Option.map_eq_some_iff]
  constructor
  · rintro ⟨a, h1, b, h2, rfl⟩; exact ⟨a, b, h1, h2, rfl⟩
  · rintro ⟨a, b, h1, h2, rfl⟩; exact ⟨a, h1, b, h2, rfl⟩
theorem renIs_mono {ρ σ : Rho} (h : ρ.le σ) : ∀ {x y : List Item}, renIs ρ x = some y → renIs σ x = some y
  | [], y, e => by simp only [renIs] at *; exact e
  | x :: l, y, e => by
    obtain ⟨x', l', h1, h2, rfl⟩ := renIs_cons.1 e
    exact renIs_cons.2 ⟨x', l', renI_mono h h1, renIs_mono h h2, rfl⟩
theorem renP_mono {ρ σ : Rho} (h : ρ.le σ) : ∀ {x y : List PanicEntry}, renP ρ x = some y → renP σ x = some y
  | [], y, e => by simp only [renP] at *; exact e
  | x :: l, y, e => by
    simp only [renP, Option.bind_eq_some_iff, Option.map_eq_some_iff] at *
    obtain ⟨v, h1, l', h2, e⟩ := e
    exact ⟨v, ren_mono h _ _ h1, l', renP_mono h h2, e⟩
theorem renM_mono {ρ σ : Rho} (h : ρ.le σ) {x y : FrameMode} (e : renM ρ x = some y) : renM σ x = some y := by
  cases x <;> simp only [renM, Option.map_eq_some_iff] at * <;> try exact e
  obtain ⟨c, h1, e⟩ := e
  exact ⟨c, renP_mono h h1, e⟩
theorem FrR.mono {ρ σ : Rho} (h : ρ.le σ) {a b : Frame} (e : FrR ρ a b) : FrR σ a b where
  fn := e.fn
  tmps := renArr_mono h _ _ e.tmps
  todo := renIs_mono h e.todo
  defers := renDs_mono h e.defers
  mode := renM_mono h e.mode
  kind := e.kind
  round := e.round.imp id fun ⟨l, l', h1, h2, h3⟩ => ⟨l, l', h1, h2, (h _ _ h3).1⟩

def FrRs (ρ : Rho) : List Frame → List Frame → Prop
  | [], [] => True
  | a :: l, b :: m => FrR ρ a b ∧ FrRs ρ l m
  | _, _ => False
theorem FrRs.mono {ρ σ : Rho} (h : ρ.le σ) : ∀ {a b : List Frame}, FrRs ρ a b → FrRs σ a b
  | [], [], e => e
  | _a :: _l, _b :: _m, e => ⟨FrR.mono h e.1, FrRs.mono h e.2⟩
  | [], _ :: _, e | _ :: _, [], e => e

theorem exitTo_ren {ρ : Rho} {id : Nat} : ∀ {k k' r : List Item}, renIs ρ k = some k' → exitTo id k = some r → ∃ r', exitTo id k' = some r' ∧ renIs ρ r = some r'
  | [], k', r, _, h2 => by simp [exitTo] at h2
  | x :: k, k', r, h1, h2 => by
    obtain ⟨x', l', q1, q2, rfl⟩ := renIs_cons.1 h1
    cases x <;> simp only [renI, Option.map_eq_some_iff] at q1 <;> simp only [exitTo] at h2
    all_goals first
      | (cases q1; done)
      | skip
    case inBlock i =>
      cases q1
      simp only [exitTo]
      split
      · rename_i hi; rw [if_pos hi] at h2; cases h2; exact ⟨_, rfl, q2⟩
      · rename_i hi; rw [if_neg hi] at h2; exact exitTo_ren q2 h2
    case inRangeFunc l => obtain ⟨b, _, rfl⟩ := q1; simp only [exitTo]; exact exitTo_ren q2 h2
    case endRangeFunc l => obtain ⟨b, _, rfl⟩ := q1; simp only [exitTo]; exact exitTo_ren q2 h2
    all_goals (cases q1; simp only [exitTo]; exact exitTo_ren q2 h2)

theorem gotoIn_ren {ρ : Rho} {id : Nat} : ∀ {k k' r : List Item}, renIs ρ k = some k' → gotoIn id k = some r → ∃ r', gotoIn id k' = some r' ∧ renIs ρ r = some r'
  | [], k', r, _, h2 => by simp [gotoIn] at h2
  | x :: k, k', r, h1, h2 => by
    obtain ⟨x', l', q1, q2, rfl⟩ := renIs_cons.1 h1
    cases x <;> simp only [renI, Option.map_eq_some_iff] at q1 <;> simp only [gotoIn] at h2
    all_goals first
      | (cases q1; done)
      | skip
    case inScope c =>
      cases q1
      simp only [gotoIn]
      split
      · rename_i rest hf
        rw [hf] at h2
        cases h2
        exact ⟨_, rfl, renIs_cons.2 ⟨_, _, rfl, renIs_cons.2 ⟨_, _, rfl, q2, rfl⟩, rfl⟩⟩
      · rename_i hf; rw [hf] at h2; exact gotoIn_ren q2 h2
    case inRangeFunc l => obtain ⟨b, _, rfl⟩ := q1; simp only [gotoIn]; exact gotoIn_ren q2 h2
    case endRangeFunc l => obtain ⟨b, _, rfl⟩ := q1; simp only [gotoIn]; exact gotoIn_ren q2 h2
    all_goals (cases q1; simp only [gotoIn]; exact gotoIn_ren q2 h2)

theorem exitTo_none {ρ : Rho} {id : Nat} : ∀ {k k' : List Item}, renIs ρ k = some k' → exitTo id k = none → exitTo id k' = none
  | [], k', h1, _ => by simp [renIs] at h1; subst h1; rfl
  | x :: k, k', h1, h2 => by
    obtain ⟨x', l', q1, q2, rfl⟩ := renIs_cons.1 h1
    cases x <;> simp only [renI, Option.map_eq_some_iff] at q1 <;> simp only [exitTo] at h2
    all_goals first
      | (cases q1; done)
      | skip
    case inBlock i =>
      cases q1
      simp only [exitTo]
      split
      · rename_i hi; rw [if_pos hi] at h2; cases h2
      · rename_i hi; rw [if_neg hi] at h2; exact exitTo_none q2 h2
    case inRangeFunc l => obtain ⟨b, _, rfl⟩ := q1; simp only [exitTo]; exact exitTo_none q2 h2
    case endRangeFunc l => obtain ⟨b, _, rfl⟩ := q1; simp only [exitTo]; exact exitTo_none q2 h2
    all_goals (cases q1; simp only [exitTo]; exact exitTo_none q2 h2)

theorem gotoIn_none {ρ : Rho} {id : Nat} : ∀ {k k' : List Item}, renIs ρ k = some k' → gotoIn id k = none → gotoIn id k' = none
  | [], k', h1, _ => by simp [renIs] at h1; subst h1; rfl
  | x :: k, k', h1, h2 => by
    obtain ⟨x', l', q1, q2, rfl⟩ := renIs_cons.1 h1
    cases x <;> simp only [renI, Option.map_eq_some_iff] at q1 <;> simp only [gotoIn] at h2
    all_goals first
      | (cases q1; done)
      | skip
    case inScope c =>
      cases q1
      simp only [gotoIn]
      split
      · rename_i rest hf; rw [hf] at h2; cases h2
      · rename_i hf; rw [hf] at h2; exact gotoIn_none q2 h2
    case inRangeFunc l => obtain ⟨b, _, rfl⟩ := q1; simp only [gotoIn]; exact gotoIn_none q2 h2
    case endRangeFunc l => obtain ⟨b, _, rfl⟩ := q1; simp only [gotoIn]; exact gotoIn_none q2 h2
    all_goals (cases q1; simp only [gotoIn]; exact gotoIn_none q2 h2)

/-- The steps of control that stay in the frame. -/
def ctl (ev : Operand → Value) : List Item → Option (List Item)
  | .code .skip :: k | .code (.label _) :: k | .inBlock _ :: k | .inScope _ :: k => some k
  | .code (.seq a b) :: k => some (.code a :: .code b :: k)
  | .code (.cond c x y) :: k => match ev c with
    | .bool t => some (.code (if t then x else y) :: k)
    | _ => none
  | .code (.block id body) :: k => some (.code body :: .inBlock id :: k)
  | .code (.loop body) :: k | .inLoop body :: k => some (.code body :: .inLoop body :: k)
  | .code (.scope body) :: k => some (.code body :: .inScope body :: k)
  | .code (.exit id) :: k => exitTo id k
  | .code (.goto l) :: k => gotoIn l k
  | .code (.region _ ops false) :: k => some (.inRegion ops (List.range ops.size) :: k)
  | .inRegion _ [] :: k => some k
  | _ => none

section
variable {P : Program} {G : Nat} {ρ : Rho} {h : AH} {w : World} {cs : List Frame}

theorem step_ctl {fr : Frame} {k : List Item} (hm : fr.mode = .run) (hk : ctl fr.eval fr.todo = some k) : step P (lone fr cs w) = .next (lone { fr with todo := k } cs w) := by
  refine step_lone_go ?_
  unfold ctl at hk
  split at hk <;> rename_i ht <;> first
    | (cases hk; done)
    | (cases hk; simp [stepG, hm, stepG.exec, ht]; done)
    | skip
  · split at hk
    · rename_i hc
      cases hk
      simp [stepG, hm, stepG.exec, ht, hc]
    · cases hk
  · simp [stepG, hm, stepG.exec, ht, hk]
  · simp [stepG, hm, stepG.exec, ht, hk]

theorem ctl_ren {ev ev' : Operand → Value} {t t' k : List Item} (hev : ∀ c x y k, t = .code (.cond c x y) :: k → ren ρ (ev c) = some (ev' c)) (ht : renIs ρ t = some t') (hk : ctl ev t = some k) : ∃ k', ctl ev' t' = some k' ∧ renIs ρ k = some k' := by
  unfold ctl at hk
  split at hk <;> first
    | (cases hk; done)
    | skip
  case h_6 =>
    obtain ⟨x', l', q1, q2, rfl⟩ := renIs_cons.1 ht
    cases q1
    have := hev _ _ _ _ rfl
    split at hk
    · rename_i b hb
      cases hk
      rw [hb] at this
      have hb' := ren_bool this
      simp only [ctl, hb']
      exact ⟨_, rfl, renIs_cons.2 ⟨_, _, rfl, q2, rfl⟩⟩
    · cases hk
  case h_11 =>
    obtain ⟨x', l', q1, q2, rfl⟩ := renIs_cons.1 ht
    cases q1
    exact exitTo_ren q2 hk
  case h_12 =>
    obtain ⟨x', l', q1, q2, rfl⟩ := renIs_cons.1 ht
    cases q1
    exact gotoIn_ren q2 hk
  all_goals
    obtain ⟨x', l', q1, q2, rfl⟩ := renIs_cons.1 ht
    cases q1
    cases hk
    first
      | exact ⟨_, rfl, q2⟩
      | exact ⟨_, rfl, renIs_cons.2 ⟨_, _, rfl, q2, rfl⟩⟩
      | exact ⟨_, rfl, renIs_cons.2 ⟨_, _, rfl, renIs_cons.2 ⟨_, _, rfl, q2, rfl⟩, rfl⟩⟩
end
end Go.AE
