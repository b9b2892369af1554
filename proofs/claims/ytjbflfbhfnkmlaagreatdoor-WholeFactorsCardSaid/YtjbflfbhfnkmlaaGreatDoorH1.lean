import Derived.Test.YtjbflfbhfnkmlaaGreatDoorAs1
import Derived.Test.YtjbflfbhfnkmlaaGreatDoorLD
import Derived.Test.YtjbflfbhfnkmlaaGreatDoorK0
set_option linter.unusedVariables false
set_option linter.unusedSimpArgs false
set_option maxRecDepth 100000
namespace Go.Proofs.YtjbflfbhfnkmlaaGreatDoor.Cn
open Go Go.AE
theorem asHook_ok : NestOK Tryz.prog 5 asHook := by
  intro f args h v h' hc ρ w args' H ha
  unfold asHook at hc
  cases hf : Nat.beq f 144 with
  | false => rw [hf] at hc; cases hc
  | true =>
  rw [hf] at hc
  simp only [cond_true] at hc
  obtain rfl := Nat.eq_of_beq_eq_true hf
  split at hc
  case h_2 => cases hc
  rename_i t c t' a hal
  split at hc
  case h_2 => cases hc
  rename_i k n hcl
  cases hq : (Nat.beq t 159 && (Nat.beq t' 161 && errOk h)) with
  | false => rw [hq] at hc; cases hc
  | true =>
  rw [hq] at hc
  simp only [cond_true] at hc
  simp only [Bool.and_eq_true] at hq
  obtain ⟨q1, q2, q3⟩ := hq
  obtain rfl := Nat.eq_of_beq_eq_true q1
  obtain rfl := Nat.eq_of_beq_eq_true q2
  obtain ⟨h1, hst, he⟩ := Option.map_eq_some_iff.1 hc
  cases he
  have hargs : args = #[.iface 159 (.agg #[.int k n]), .iface 161 (.pointer (some a))] := by
    have e1 : c = #[.int k n] := by rw [← hcl]
    rw [← e1]
    have : args = args.toList.toArray := by simp
    rw [this, hal]
  subst hargs

  have ha' := renArr_iff.1 ha
  simp only [renL, ren, renArr, Option.bind_eq_some_iff, Option.map_eq_some_iff] at ha'
  obtain ⟨b, hb, hargs'⟩ : ∃ b, renA ρ a = some b ∧ args' = #[.iface 159 (.agg #[.int k n]), .iface 161 (.pointer (some b))] := by
    cases hra : renA ρ a with
    | none => exfalso; simp [hra] at ha'
    | some b =>
      refine ⟨b, rfl, ?_⟩
      simp [hra] at ha'
      have : args' = args'.toList.toArray := by simp
      rw [this, ← ha']
  subst hargs'

  have hg : w.cell? ⟨0, 0, none⟩ = some (.iface 223 (.agg #[.pointer (some ⟨4, 156, none⟩)])) := by
    unfold errOk at q3
    split at q3
    case h_2 => cases q3
    rename_i x e1 e2 e3 hget
    obtain rfl := veq_sound _ _ q3
    obtain ⟨b0, y, p1, p2, p3⟩ := H.obj _ _ hget
    rw [(H.glob 0 (by decide)).1] at p1
    cases p1
    cases y <;> simp only [ObjR] at p3
    rename_i arr t0 fz
    obtain ⟨_, ⟨c', tail, r1, r2, _⟩, _⟩ := p3
    have h4 : renA ρ ⟨4, 156, none⟩ = some ⟨4, 156, none⟩ := by simp [renA, (H.glob 4 (by decide)).1]
    have r3 : renL ρ [errVal] = some [errVal] := by
      simp [renL, ren, renArr, errVal, h4]
    rw [r3] at r2
    cases r2
    have harr : arr = (errVal :: tail).toArray := by
      have : arr = arr.toList.toArray := by simp
      rw [this, r1]; rfl
    simp [World.cell?, p2, harr, errVal]

  have hst0 := hst
  unfold astore at hst0
  split at hst0
  case h_2 => cases hst0
  rename_i c0 el o ro hgt
  dsimp only at hst0
  split at hst0
  case isFalse => cases hst0
  rename_i hcond
  obtain ⟨k1, k2, rfl, k4⟩ := hcond
  have hlt : a.off < c0.length := by
    simp [Value.cells] at k2
    omega
  obtain ⟨old, t1, t2⟩ := cell_of H hgt hb hlt
  refine Calls.mono (as_hit k n b old w hg t1 t2) ?_
  rintro e w' ⟨rfl, rfl⟩
  have W4 := (((H.grow (.cells #[.pointer (some b)] 161)).grow (.cells #[.pointer (some ⟨4, 161, none⟩), .pointer (some ⟨w.heap.size, 0, none⟩), .int .u64 150] 199)).grow (.cells #[.pointer (some ⟨4, 161, none⟩), .pointer (some ⟨w.heap.size, 0, none⟩), .int .u64 150] 199)).grow (.cells #[.int k n] 159)
  have E4 := ((((Ext.refl ρ h w).grow (.cells #[.pointer (some b)] 161)).grow (.cells #[.pointer (some ⟨4, 161, none⟩), .pointer (some ⟨w.heap.size, 0, none⟩), .int .u64 150] 199)).grow (.cells #[.pointer (some ⟨4, 161, none⟩), .pointer (some ⟨w.heap.size, 0, none⟩), .int .u64 150] 199)).grow (.cells #[.int k n] 159)
  have hrv : ren ρ (.agg #[.int k n]) = some (.agg #[.int k n]) := by simp [ren, renArr, renL]
  obtain ⟨w5, s1, s2, s3⟩ := store_ok W4 hst hb hrv
  obtain ⟨old4, u1, u2⟩ := cell_of W4 hgt hb hlt
  rw [Ask.store159 b k n old4 _ u1 u2] at s1
  cases s1
  exact ⟨ρ, .bool true, rfl, s2, E4.trans s3, by simp [ren]⟩
end Go.Proofs.YtjbflfbhfnkmlaaGreatDoor.Cn
