import Derived.Test.YtlfjnddmeeigfabGreatDoorA9
namespace Go.AE
open Go

/-- What is appended or copied: how many elements, and their cells. -/
def asrc (h : AH) (sz : Nat) : Value → Option (Nat × List Value)
  | .slice (some a) n _ => (acells h a (n * sz)).map fun l => (n, l)
  | .slice none 0 _ => some (0, [])
  | .string s => if sz = 1 then some (s.size, s.data.toList.map fun b => .int .u8 b.toNat) else none
  | _ => none

section
variable {P : Program} {G : Nat} {ρ : Rho} {h : AH} {w : World} {e e' : Operand → Value}

theorem WR.of_heap (H : WR G ρ h w) {w' : World} (hw : w'.heap = w.heap) : WR G ρ h w' := ⟨fun i o q => by rw [hw]; exact H.obj i o q, H.fresh, H.inj, H.glob, H.gp⟩

theorem map_int_closed (l : List UInt8) : renL ρ (l.map fun b => Value.int .u8 b.toNat) = some (l.map fun b => Value.int .u8 b.toNat) := by
  induction l with
  | nil => simp [renL]
  | cons b l ih => simp only [List.map_cons]; exact renL_cons.2 ⟨_, _, by simp [ren], ih, rfl⟩

theorem src_ok (H : WR G ρ h w) {sz n : Nat} {x x' : Value} {news : List Value} (hs : asrc h sz x = some (n, news)) (hx : ren ρ x = some x') :
    ∃ news', renL ρ news = some news' ∧ news'.length = n * sz ∧ (∀ w' : World, (Builtin.lenOf x').run P w' = .ok n w') ∧
      (∀ m, m ≤ n → ∀ w' : World, w'.heap = w.heap → (Builtin.firstCells sz m x').run P w' = .ok (news'.take (m * sz)).toArray w') := by
  unfold asrc at hs
  split at hs
  · rename_i a k c
    obtain ⟨l, hl, hp⟩ := Option.map_eq_some_iff.1 hs
    cases hp
    obtain ⟨b, c', h1, _, rfl⟩ := ren_slice hx
    obtain ⟨l', r1, r2, r3⟩ := cells_ok H hl h1
    refine ⟨l', r1, r2, fun _ => rfl, fun m hm w' hw => ?_⟩
    have hmul : m * sz ≤ n * sz := Nat.mul_le_mul_right _ hm
    refine run_firstCells_some w' sz m b n c' (l'.take (m * sz)) (by simp; omega) fun j v hv => ?_
    have hj := (List.getElem?_eq_some_iff.1 hv).1
    simp at hj
    rw [List.getElem?_take_of_lt (by omega)] at hv
    have := r3 j v hv
    simp only [World.cell?, hw] at this ⊢
    exact this
  · rename_i c
    cases hs
    simp [ren] at hx; subst hx
    exact ⟨[], by simp [renL], by simp, fun _ => rfl, fun m hm w' _ => by simp [Builtin.firstCells]⟩
  · rename_i s
    split at hs
    case isFalse => cases hs
    rename_i hsz
    cases hs
    subst hsz
    simp [ren] at hx; subst hx
    refine ⟨s.data.toList.map fun b => .int .u8 b.toNat, map_int_closed _, by simp, fun _ => rfl, fun m hm w' _ => ?_⟩
    simp only [Builtin.firstCells, Sem.run_pure, Nat.mul_one]
    congr 1
    apply Array.toList_inj.1
    simp [ByteArray.data_extract]
  · cases hs

def srcT : TypeDesc → Bool
  | .string | .slice _ => true
  | _ => false

theorem run_append_in {t u ty el : TypeId} {d : TypeDesc} {sz n sLen sCap : Nat} {base : Addr} {x : Value} {news : List Value} (ht : P.underlying t = some (.slice el))
    (hu : P.underlying u = some d) (hd : srcT d = true) (hs : sizeT P el = some sz) (hl : ∀ w' : World, (Builtin.lenOf x).run P w' = .ok n w') (hn : (Builtin.firstCells sz n x).run P w = .ok news.toArray w) (hle : sLen + n ≤ sCap) :
    (Builtin.append_ #[t, u] ty #[.slice (some base) sLen sCap, x]).run P w = ((storeCells (base.add (sLen * sz)) news).run P w).andThen fun _ w' => .ok (.slice (some base) (sLen + n) sCap) w' := by
  cases d <;> (try (simp [srcT] at hd; done)) <;> simp [Builtin.append_, run_underlying ht, run_underlying hu, run_sizeOf hs, hl, hn, hle]

theorem run_append_in_nil {t u ty el : TypeId} {d : TypeDesc} {sz sLen sCap : Nat} {x : Value} (ht : P.underlying t = some (.slice el))
    (hu : P.underlying u = some d) (hd : srcT d = true) (hs : sizeT P el = some sz) (hl : ∀ w' : World, (Builtin.lenOf x).run P w' = .ok 0 w') (hn : (Builtin.firstCells sz 0 x).run P w = .ok #[] w) (hle : sLen ≤ sCap) :
    (Builtin.append_ #[t, u] ty #[.slice none sLen sCap, x]).run P w = .ok (.slice none sLen sCap) w := by
  cases d <;> (try (simp [srcT] at hd; done)) <;> simp [Builtin.append_, run_underlying ht, run_underlying hu, run_sizeOf hs, hl, hn, hle]

theorem run_append_new {t u ty el : TypeId} {d : TypeDesc} {i : TypeInfo} {z : Value} {sz n sLen sCap : Nat} {base : Option Addr} {x : Value} {olds news : List Value} (ht : P.underlying t = some (.slice el))
    (hu : P.underlying u = some d) (hd : srcT d = true) (hi : P.info? el = some i) (hiz : i.zero = some z) (hs : i.size = sz) (hl : ∀ w' : World, (Builtin.lenOf x).run P w' = .ok n w')
    (ho : (Builtin.firstCells sz sLen (.slice base sLen sCap)).run P w.drew = .ok olds.toArray w.drew) (hn : (Builtin.firstCells sz n x).run P w.drew = .ok news.toArray w.drew) (hlt : sCap < sLen + n)
    (h63 : sLen + n ≤ 9223372036854775807) (hfit : (sLen + n) * i.bytes ≤ 140737488355328) :
    (Builtin.append_ #[t, u] ty #[.slice base sLen sCap, x]).run P w = .ok (.slice (some ⟨w.heap.size, 0, none⟩) (sLen + n) (grownCap w (sLen + n) sCap el))
      (w.drew.alloc (.cells (olds.toArray ++ news.toArray ++ Builtin.zeroCells z.cells (grownCap w (sLen + n) sCap el - (sLen + n))) el)) := by
  have hno : ¬ (sLen + n ≤ sCap) := by omega
  have h63' : ¬ (9223372036854775807 < ((sLen : Int) + (n : Int))) := by omega
  have h48 := growslice_fits hlt hfit
  have h48' : ¬ (281474976710656 < Builtin.nextslicecap (sLen + n) sCap * i.bytes) := by omega
  subst hs
  cases d <;> (try (simp [srcT] at hd; done)) <;>
    (simp [Builtin.append_, run_underlying ht, run_underlying hu, sizeOf, typeInfo, zeroValue, hi, hiz, hl, hno, h63', h48', Question.forced, ho, hn, newRow, grownCap]
     try (congr 2; apply Array.ext'; simp [List.append_assoc]))
end
end Go.AE
