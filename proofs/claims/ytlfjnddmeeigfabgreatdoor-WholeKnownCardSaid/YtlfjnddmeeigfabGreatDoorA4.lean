import Derived.Test.YtlfjnddmeeigfabGreatDoorA3
import Derived.Laws.Entries
import Derived.Laws.Tables
import Derived.Laws.Build
import Derived.Laws.Slices
import Derived.Laws.Strings
namespace Go.AE
open Go

mutual
/-- A value without an address. -/
def closed : Value → Bool
  | .bool _ | .int _ _ | .float _ _ | .complex _ _ _ | .string _ | .pointer none | .slice none _ _ | .map none | .chan none | .nilFunc | .nilIface => true
  | .pointer (some _) | .slice (some _) _ _ | .map (some _) | .chan (some _) => false
  | .func fn first cap => (match fn with | .yield _ => false | _ => true) && (closedArr first && closedArr cap)
  | .iface _ v => closed v
  | .agg cs | .tuple cs => closedArr cs
def closedArr : Array Value → Bool
  | ⟨l⟩ => closedL l
def closedL : List Value → Bool
  | [] => true
  | v :: l => closed v && closedL l
end

mutual
theorem closed_ren (ρ : Rho) : ∀ v, closed v = true → ren ρ v = some v
  | .bool _, _ | .int _ _, _ | .float _ _, _ | .complex _ _ _, _ | .string _, _ | .pointer none, _ | .slice none _ _, _ | .map none, _ | .chan none, _ | .nilFunc, _ | .nilIface, _ => by simp only [ren]
  | .pointer (some _), h | .slice (some _) _ _, h | .map (some _), h | .chan (some _), h => by simp [closed] at h
  | .func fn first cap, h => by
    simp only [closed, Bool.and_eq_true] at h
    have h1 := closedArr_ren ρ first h.2.1
    have h2 := closedArr_ren ρ cap h.2.2
    cases fn <;> simp_all [ren, renF]
  | .iface _ v, h => by
    simp only [closed] at h
    simp [ren, closed_ren ρ v h]
  | .agg cs, h => by
    simp only [closed] at h
    simp [ren, closedArr_ren ρ cs h]
  | .tuple cs, h => by
    simp only [closed] at h
    simp [ren, closedArr_ren ρ cs h]
theorem closedArr_ren (ρ : Rho) : ∀ v, closedArr v = true → renArr ρ v = some v
  | ⟨l⟩, h => by
    simp only [closedArr] at h
    simp [renArr, closedL_ren ρ l h]
theorem closedL_ren (ρ : Rho) : ∀ v, closedL v = true → renL ρ v = some v
  | [], _ => by simp [renL]
  | v :: l, h => by
    simp only [closedL, Bool.and_eq_true] at h
    simp [renL, closed_ren ρ v h.1, closedL_ren ρ l h.2]
end

/-- What a computation comes to that looks at the program alone. -/
def pureRun (P : Program) {α : Type} : Sem α → Option α
  | .pure a => some a
  | .program k => pureRun P (k P)
  | _ => none

theorem pureRun_run {P : Program} {α : Type} : ∀ {s : Sem α} {a : α}, pureRun P s = some a → ∀ w, s.run P w = .ok a w
  | .pure b, a, h, w => by simp [pureRun] at h; simp [Sem.run, h]
  | .program k, a, h, w => by
    simp only [pureRun] at h
    simp only [Sem.run]
    exact pureRun_run h w
  | .load .., _, h, _ | .store .., _, h, _ | .new .., _, h, _ | .shape .., _, h, _ | .freeze .., _, h, _ | .frozen .., _, h, _ | .getObj .., _, h, _ | .setObj .., _, h, _ | .choose .., _, h, _ | .sys .., _, h, _ | .mark .., _, h, _ | .halt _, _, h, _ => by simp [pureRun] at h

/-- The operands that the abstract frame can say. -/
def okOpd (G : Nat) : Operand → Bool
  | .tmp _ => true
  | .const v => closed v
  | .global g => Nat.blt g G
  | .func _ => true

theorem ev_ren {G : Nat} {ρ : Rho} {h : AH} {w : World} (H : WR G ρ h w) {a b : Act} (ht : renArr ρ a.tmps = some b.tmps) {x : Operand} (hx : okOpd G x = true) : ren ρ (a.eval x) = some (b.eval x) := by
  cases x with
  | tmp t => exact renArr_getD ht t
  | const v => exact closed_ren ρ v hx
  | global g =>
    have hg : g < G := Nat.blt_eq ▸ hx
    simp [Act.eval, ren, renA, (H.glob g hg).1]
  | func f => simp [Act.eval, ren, renF, renArr, renL]

/-- RULE 1: operands without addresses. -/
theorem closed_op {P : Program} {ρ : Rho} {o : Oper} {e e' : Operand → Value} (hs : ∀ cs b, o.op ≠ .select cs b) (hr : ∀ x ∈ o.op.operands, ren ρ (e x) = some (e' x)) (hc : ∀ x ∈ o.op.operands, closed (e x) = true)
    {n : Next} (hp : pureRun P (execOp e o) = some n) : ∀ w, (execOp e' o).run P w = .ok n w := by
  have : execOp e' o = execOp e o := execOp_congr o hs fun x hx => by
    have h1 := hr x hx
    rw [closed_ren ρ _ (hc x hx)] at h1
    exact (Option.some.inj h1).symm
  rw [this]
  exact pureRun_run hp

/-- The type is a struct or an array. -/
def aggT (P : Program) (t : TypeId) : Option Bool :=
  match P.underlying t with
  | some (.struct _) => some true
  | some (.array _ _) => some true
  | some _ => some false
  | none => none
def sizeT (P : Program) (t : TypeId) : Option Nat := (P.info? t).map (·.size)

theorem run_isAgg {P : Program} {t : TypeId} {b : Bool} (h : aggT P t = some b) (w : World) : (isAgg t).run P w = .ok b w := by
  unfold aggT at h
  unfold isAgg
  cases hu : P.underlying t with
  | none => simp [hu] at h
  | some d =>
    simp only [hu] at h
    rw [Sem.run_bind, run_underlying hu]
    cases d <;> simp at h <;> subst h <;> rfl
theorem run_sizeOf {P : Program} {t : TypeId} {n : Nat} (h : sizeT P t = some n) (w : World) : (sizeOf t).run P w = .ok n w := by
  unfold sizeT at h
  obtain ⟨i, hi, rfl⟩ := Option.map_eq_some_iff.1 h
  simp [sizeOf, typeInfo, hi]

theorem renA_add {ρ : Rho} {a b : Addr} (h : renA ρ a = some b) (n : Nat) : renA ρ (a.add n) = some (b.add n) := by
  unfold renA at h
  split at h
  · rename_i b' h1 h2
    simp at h; subst h
    by_cases hn : n = 0
    · subst hn; simp [Addr.add, renA, h1, h2]
    · simp [Addr.add, hn, renA, h2]
  · cases h

theorem renA_sure {ρ : Rho} {v r : Value} {a : Addr} (hv : v = .pointer (some a)) (h : ren ρ v = some r) : ∃ b, renA ρ a = some b ∧ r = .pointer (some b) := by
  subst hv
  simp only [ren, Option.map_eq_some_iff] at h
  obtain ⟨b, hb, e⟩ := h
  exact ⟨b, hb, e.symm⟩

theorem ren_ptr {ρ : Rho} {a : Addr} {r : Value} (h : ren ρ (.pointer (some a)) = some r) : ∃ b, renA ρ a = some b ∧ r = .pointer (some b) := renA_sure rfl h
theorem ren_int {ρ : Rho} {k : IntKind} {n : Int} {r : Value} (h : ren ρ (.int k n) = some r) : r = .int k n := by simp [ren] at h; exact h.symm
theorem ren_bool {ρ : Rho} {b : Bool} {r : Value} (h : ren ρ (.bool b) = some r) : r = .bool b := by simp [ren] at h; exact h.symm
theorem ren_string {ρ : Rho} {b : ByteArray} {r : Value} (h : ren ρ (.string b) = some r) : r = .string b := by simp [ren] at h; exact h.symm
theorem ren_slice {ρ : Rho} {a : Addr} {n c : Nat} {r : Value} (h : ren ρ (.slice (some a) n c) = some r) : ∃ b c', renA ρ a = some b ∧ renC ρ a.block c = some c' ∧ r = .slice (some b) n c' := by
  simp only [ren, Option.map_eq_some_iff, Option.bind_eq_some_iff] at h
  obtain ⟨b, hb, c', hc, e⟩ := h
  exact ⟨b, c', hb, hc, e.symm⟩
theorem ren_agg {ρ : Rho} {cs : Array Value} {r : Value} (h : ren ρ (.agg cs) = some r) : ∃ cs', renArr ρ cs = some cs' ∧ r = .agg cs' := by
  simp only [ren, Option.map_eq_some_iff] at h
  obtain ⟨b, hb, e⟩ := h
  exact ⟨b, hb, e.symm⟩
theorem ren_tuple {ρ : Rho} {cs : Array Value} {r : Value} (h : ren ρ (.tuple cs) = some r) : ∃ cs', renArr ρ cs = some cs' ∧ r = .tuple cs' := by
  simp only [ren, Option.map_eq_some_iff] at h
  obtain ⟨b, hb, e⟩ := h
  exact ⟨b, hb, e.symm⟩
theorem ren_iface {ρ : Rho} {t : TypeId} {v r : Value} (h : ren ρ (.iface t v) = some r) : ∃ v', ren ρ v = some v' ∧ r = .iface t v' := by
  simp only [ren, Option.map_eq_some_iff] at h
  obtain ⟨b, hb, e⟩ := h
  exact ⟨b, hb, e.symm⟩

/-- Is the block one whose real size is not known? -/
def AH.opn (h : AH) (i : Nat) : Option (Option Nat) :=
  match h.get i with
  | some (.cells _ _ o _) => some o
  | _ => none

theorem WR.closedCap {G : Nat} {ρ : Rho} {h : AH} {w : World} (H : WR G ρ h w) {i : Nat} (e : h.opn i = some none) : ρ.cap i = none := by
  unfold AH.opn at e
  split at e
  · rename_i c t o ro he
    simp at e; subst e
    obtain ⟨b, x, _, _, h3⟩ := H.obj i _ he
    cases x <;> simp only [ObjR] at h3
    simpa using h3.2.2.2.1
  · cases e

theorem renArr_map {ρ : Rho} {e e' : Operand → Value} (xs : Array Operand) (h : ∀ x ∈ xs, ren ρ (e x) = some (e' x)) : renArr ρ (xs.map e) = some (xs.map e') := by
  rw [renArr_iff]
  obtain ⟨l⟩ := xs
  simp only [List.map_toArray]
  have : ∀ l : List Operand, (∀ x ∈ l, ren ρ (e x) = some (e' x)) → renL ρ (l.map e) = some (l.map e') := by
    intro l
    induction l with
    | nil => intro _; simp [renL]
    | cons x l ih =>
      intro hl
      simp only [List.map_cons]
      exact renL_cons.2 ⟨_, _, hl x (by simp), ih fun y hy => hl y (by simp [hy]), rfl⟩
  exact this l fun x hx => h x (by simpa using hx)

/-- A part of an aggregate value. -/
def apart (P : Program) (t : TypeId) (cs : Array Value) (off : Nat) : Option Value :=
  match aggT P t, sizeT P t with
  | some true, some n => some (.agg ⟨(cs.toList.drop off).take n⟩)
  | some false, _ => cs[off]?
  | _, _ => none

theorem apart_ok {P : Program} {ρ : Rho} {t : TypeId} {cs cs' : Array Value} {off : Nat} {v : Value} (h : apart P t cs off = some v) (hr : renArr ρ cs = some cs') :
    ∃ v', ren ρ v = some v' ∧ ∀ w, (part t cs' off).run P w = .ok v' w := by
  unfold apart at h
  have hl := renArr_iff.1 hr
  split at h
  · rename_i n h1 h2
    simp at h; subst h
    refine ⟨.agg ⟨(cs'.toList.drop off).take n⟩, ?_, fun w => ?_⟩
    · simp [ren, renArr, renL_take n (renL_drop off hl)]
    · simp only [part, Sem.run_bind, run_isAgg h1, run_sizeOf h2, Result.andThen_ok, if_true, Sem.run_pure]
      congr 2
      apply Array.toList_inj.1
      simp
  · rename_i h1
    obtain ⟨v', h2, h3⟩ := renL_get off hl v (by simpa using h)
    have h4 : cs'[off]? = some v' := by simpa using h2
    refine ⟨v', h3, fun w => ?_⟩
    simp only [part, Sem.run_bind, run_isAgg h1, Result.andThen_ok, h4]
    rfl
  · cases h
end Go.AE
