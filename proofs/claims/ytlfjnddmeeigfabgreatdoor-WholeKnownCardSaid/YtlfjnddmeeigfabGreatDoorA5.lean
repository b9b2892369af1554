import Derived.Test.YtlfjnddmeeigfabGreatDoorA4
namespace Go.AE
open Go

def isIface (P : Program) (t : TypeId) : Bool := match P.underlying t with | some (.interface _) => true | _ => false

/-- The bounds of a slice expression, as numbers. -/
def numO (e : Operand → Value) (d : Int) : Option Operand → Option Int
  | none => some d
  | some y => match e y with | .int _ k => some k | _ => none

/-- Operations that look neither at memory nor change it, on values with addresses. -/
def aptr (P : Program) (h : AH) (e : Operand → Value) : Op → Option Value
  | .move x | .assign x => some (e x)
  | .pick c a b => match e c with
    | .bool t => some (if t then e a else e b)
    | _ => none
  | .nilCheck x => match e x with
    | .pointer (some a) => some (.pointer (some a))
    | .func (.func f) first cap => some (.func (.func f) first cap)
    | _ => none
  | .makeInterface t x => if P.concrete t then some (.iface t (e x)) else none
  | .makeFunc fn first cap => match fn with
    | .yield _ => none
    | fn => some (.func fn (first.map e) (cap.map e))
  | .extract x i => match e x with
    | .tuple vs => vs[i]?
    | _ => none
  | .field t x f => match P.underlying t, e x with
    | some (.struct fields), .agg cs => (fields[f]?).bind fun fd => apart P fd.type cs fd.offset
    | _, _ => none
  | .fieldAddr t x f => match P.underlying t, e x with
    | some (.struct fields), .pointer (some a) => (fields[f]?).bind fun fd => match sizeT P fd.type with
      | some (_ + 1) => some (.pointer (some (a.add fd.offset)))
      | _ => none
    | _, _ => none
  | .indexAddr t x i => match P.underlying t, e x, e i with
    | some (.slice el), .slice (some a) n _, .int _ k => match sizeT P el with
      | some s => if 0 ≤ k ∧ k < n then some (.pointer (some (a.add (k.toNat * s)))) else none
      | none => none
    | some (.array n el), .pointer (some a), .int _ k => match sizeT P el with
      | some s => if 0 ≤ k ∧ k < n then some (.pointer (some (a.add (k.toNat * s)))) else none
      | none => none
    | _, _, _ => none
  | .build t ps => match (P.info? t).bind (·.zero) with
    | some z => if closed z then (P.built t (ps.toList.map fun p => (p.1, e p.2))).map .agg else none
    | none => none
  | .typeAssert x _ a ok => match P.underlying a, e x with
    | some (.interface want), .iface t v => match P.info? t with
      | some i => match Instr.missingMethod want i.methods with
        | none => some (if ok then .tuple #[.iface t v, .bool true] else .iface t v)
        | some _ => none
      | none => none
    | some d, .iface t v => match d with
      | .interface _ => none
      | _ => if t = a then some (if ok then .tuple #[v, .bool true] else v) else none
    | _, _ => none
  | .binOp op t x y _ => match op, P.underlying t, e x, e y with
    | .eql, some (.pointer _), .pointer (some _), .pointer none => some (.bool false)
    | .neq, some (.pointer _), .pointer (some _), .pointer none => some (.bool true)
    | .eql, some (.slice _), .slice (some _) _ _, .slice none _ _ => some (.bool false)
    | .neq, some (.slice _), .slice (some _) _ _, .slice none _ _ => some (.bool true)
    | .eql, some (.interface _), .iface _ _, .nilIface => some (.bool false)
    | .neq, some (.interface _), .iface _ _, .nilIface => some (.bool true)
    | .eql, some (.func _ _ _), .func _ _ _, .nilFunc => some (.bool false)
    | .neq, some (.func _ _ _), .func _ _ _, .nilFunc => some (.bool true)
    | _, _, _, _ => none
  | .slice t x lo hi mx =>
    match P.underlying t, e x with
    | some (.slice el), .slice (some a) n c => match h.opn a.block, sizeT P el, numO e 0 lo, numO e n hi with
      | some none, some s, some l, some u => match mx with
        | none => if 0 ≤ l ∧ l ≤ u ∧ u ≤ c then some (.slice (some (if c = l.toNat then a else a.add (l.toNat * s))) (u - l).toNat (c - l.toNat)) else none
        | some m => match numO e c (some m), hi with
          | some m, some _ => if 0 ≤ l ∧ l ≤ u ∧ u ≤ m ∧ m ≤ c then some (.slice (some (if m.toNat = l.toNat then a else a.add (l.toNat * s))) (u - l).toNat (m.toNat - l.toNat)) else none
          | _, _ => none
      | _, _, _, _ => none
    | some (.array n el), .pointer (some a) => match sizeT P el, numO e 0 lo, numO e n hi, mx with
      | some s, some l, some u, none => if 0 ≤ l ∧ l ≤ u ∧ u ≤ n ∧ h.opn a.block = some none then some (.slice (some (if n = l.toNat then a else a.add (l.toNat * s))) (u - l).toNat (n - l.toNat)) else none
      | _, _, _, _ => none
    | _, _ => none
  | .call { callee := .builtin b, args := args, argTypes := ts } => match b, args.toList, (ts[0]?).bind P.underlying with
    | .len, [x], some (.slice _) => match e x with
      | .slice (some _) n _ => some (.int .i64 n)
      | _ => none
    | .cap, [x], some (.slice _) => match e x with
      | .slice (some a) _ c => match h.opn a.block with
        | some none => some (.int .i64 c)
        | _ => none
      | _ => none
    | _, _, _ => none
  | _ => none

theorem renC_closed {G : Nat} {ρ : Rho} {h : AH} {w : World} (H : WR G ρ h w) {i c c' : Nat} (ho : h.opn i = some none) (hc : renC ρ i c = some c') : c' = c := by
  unfold renC at hc
  rw [H.closedCap ho] at hc
  simpa using hc.symm

theorem ren_slice_closed {G : Nat} {ρ : Rho} {h : AH} {w : World} (H : WR G ρ h w) {a : Addr} {n c : Nat} {r : Value} (ho : h.opn a.block = some none) (hr : ren ρ (.slice (some a) n c) = some r) :
    ∃ b, renA ρ a = some b ∧ r = .slice (some b) n c := by
  obtain ⟨b, c', h1, h2, h3⟩ := ren_slice hr
  rw [renC_closed H ho h2] at h3
  exact ⟨b, h1, h3⟩

theorem add_block (a : Addr) (n : Nat) : (a.add n).block = a.block := by
  unfold Addr.add; split <;> rfl

theorem ren_slice_mk {G : Nat} {ρ : Rho} {h : AH} {w : World} (H : WR G ρ h w) {a b : Addr} {n c : Nat} (ho : h.opn a.block = some none) (hr : renA ρ a = some b) : ren ρ (.slice (some a) n c) = some (.slice (some b) n c) := by
  simp [ren, hr, renC, H.closedCap ho]

section
variable {P : Program} {G : Nat} {ρ : Rho} {h : AH} {w : World} {e e' : Operand → Value}

theorem run_sb {e' : Operand → Value} {y : Operand} {k : IntKind} {i : Int} {n : Nat} {code : BoundsCode} (hy : e' y = .int k i) (h0 : 0 ≤ i) (h1 : i ≤ n) (w : World) : (Instr.sliceBound (e' y) n code).run P w = .ok i.toNat w := by
  rw [hy]
  simp [Instr.sliceBound, asIntOf, h0, h1]

theorem numO_ren {d : Int} {o : Option Operand} {k : Int} (hk : numO e d o = some k) (hr : ∀ y, o = some y → ren ρ (e y) = some (e' y)) : numO e' d o = some k := by
  cases o with
  | none => exact hk
  | some y =>
    simp only [numO] at hk ⊢
    cases hy : e y <;> simp only [hy] at hk <;> try (cases hk; done)
    have := hr y rfl
    rw [hy] at this
    rw [ren_int this]
    exact hk

theorem run_bounds {isS : Bool} {n c : Nat} {lo hi mx : Option Operand} {l u m : Int} (hl : numO e' 0 lo = some l) (hu : numO e' n hi = some u)
    (hm : (mx = none ∧ m = c) ∨ (hi ≠ none ∧ numO e' c mx = some m)) (h0 : 0 ≤ l) (h1 : l ≤ u) (h2 : u ≤ m) (h3 : m ≤ c) (w : World) :
    (Instr.sliceBounds isS n c (lo.map e') (hi.map e') (mx.map e')).run P w = .ok (l.toNat, u.toNat, m.toNat) w := by
  have il : ∀ (y : Operand) (z : Int) (d : Int), numO e' d (some y) = some z → ∃ k, e' y = .int k z := fun y z d hz => by
    simp only [numO] at hz
    cases hy : e' y <;> simp only [hy] at hz <;> try (cases hz; done)
    exact ⟨_, by rw [Option.some.inj hz]⟩
  have sb : ∀ (y : Operand) (z d : Int) (n : Nat) (code : BoundsCode) (w : World), numO e' d (some y) = some z → 0 ≤ z → z ≤ n → (Instr.sliceBound (e' y) n code).run P w = .ok z.toNat w := fun y z d n code w hz h0 h1 => by
    obtain ⟨k, hk⟩ := il y z d hz
    exact run_sb hk h0 h1 w
  cases mx with
  | none =>
    have hmc : m = c := by
      rcases hm with ⟨_, hm⟩ | ⟨_, hm⟩
      · exact hm
      · simp [numO] at hm; exact hm.symm
    subst hmc
    cases hi with
    | none =>
      simp [numO] at hu; subst hu
      cases lo with
      | none => simp [numO] at hl; subst hl; simp [Instr.sliceBounds]
      | some x => simp [Instr.sliceBounds, sb x l 0 _ _ _ hl h0 h1]
    | some y =>
      cases lo with
      | none => simp [numO] at hl; subst hl; simp [Instr.sliceBounds, sb y u n _ _ _ hu (by omega) h2]
      | some x => simp [Instr.sliceBounds, sb y u n _ _ _ hu (by omega) h2, sb x l 0 u.toNat _ _ hl h0 (by omega)]
  | some z =>
    rcases hm with ⟨hm, _⟩ | ⟨hne, hm⟩
    · cases hm
    cases hi with
    | none => exact absurd rfl hne
    | some y =>
      cases lo with
      | none => simp [numO] at hl; subst hl; simp [Instr.sliceBounds, sb z m c _ _ _ hm (by omega) h3, sb y u n m.toNat _ _ hu (by omega) (by omega)]
      | some x => simp [Instr.sliceBounds, sb z m c _ _ _ hm (by omega) h3, sb y u n m.toNat _ _ hu (by omega) (by omega), sb x l 0 u.toNat _ _ hl h0 (by omega)]
end
end Go.AE
