import Derived.Test.YtpbbfgpnoinkjaaGreatDoorK
set_option linter.unusedVariables false
set_option linter.unusedSimpArgs false
set_option maxRecDepth 100000
set_option linter.unusedVariables false
set_option linter.unusedSimpArgs false
namespace Go.Proofs.YtpbbfgpnoinkjaaGreatDoor
open Go Go.AE Seg
noncomputable def trim_h_f (xs : List Nat) (n c : Nat) (i : Nat) (j : List Value) : Frame := ⟨156, List.toArray [(sl 5 n c), undef, (.slice none 0 0), (.int .i64 ((i : Nat) : Int)), (J j 0), (J j 1), (J j 2), (J j 3), (J j 4), (J j 5), (J j 6), (J j 7), (J j 8), (J j 9), (J j 10), (J j 11), (J j 12), (J j 13), undef, undef, undef, undef], [.code (cd Tryz.f156 [1, 1, 0, 0, 0]), .inLoop (cd Tryz.f156 [1, 1, 0, 0, 0]), .inBlock 0, .code (cd Tryz.f156 [1, 1, 1])], [], .run, .normal, none⟩
noncomputable def trim_h_o (xs : List Nat) (n c : Nat) (i : Nat) : List (Nat × AObj) := [(5, (cU xs))]
noncomputable def trim_h (xs : List Nat) (n c : Nat) (i : Nat) (j : List Value) : AS := ⟨trim_h_f xs n c i j, [], mkH 6 (trim_h_o xs n c i)⟩
theorem trim_in (xs : List Nat) (n c : Nat)  : Gets Tryz.prog 5 ⟨Frame.enter Tryz.prog 156 #[(sl 5 n c)] .normal, [], mkH 6 [(5, (cU xs))]⟩ (trim_h xs n c n [(sl 5 n c), (.int .i64 ((n : Nat) : Int)), undef, undef, undef, undef, undef, undef, undef, undef, undef, undef, undef, undef]) :=
  seg_reach hmix_ok (hk := hk0) (draw := dr0) (sc := [(13, .stay)]) (fr1 := trim_h_f xs n c n [(sl 5 n c), (.int .i64 ((n : Nat) : Int)), undef, undef, undef, undef, undef, undef, undef, undef, undef, undef, undef, undef]) (cs1 := []) (next := 6) (l := trim_h_o xs n c n) (p := True) hk0_ok dr0_ok (by kernel_rfl) trivial
theorem trim_r (xs : List Nat) (n c i a : Nat) (j : List Value) (h0 : 0 < i) (hi : i ≤ n) (hc : n ≤ xs.length) (hm : n < 9223372036854775807) (ha : a = 0) (hx : (ns .u32 xs)[i - 1]? = some (.int .u32 (a : Nat)))  : Gets Tryz.prog 5 (trim_h xs n c i j) (trim_h xs n c (i - 1) [(J j 0), (J j 1), (.int .i64 ((i : Nat) : Int)), (.bool true), (.bool true), (sl 5 n c), (.int .i64 ((i : Nat) : Int)), (.int .i64 (((i - 1) : Nat) : Int)), (.pointer (some ⟨5,(i - 1),none⟩)), (.int .u32 ((a : Nat) : Int)), (.bool true), (.bool true), (.int .i64 ((i : Nat) : Int)), (.int .i64 (((i - 1) : Nat) : Int))]) :=
  seg_reach hmix_ok (hk := hk0) (draw := dr0) (sc := [(4, .op (.rwB true)), (3, .op (.rwI (((i - 1) : Nat) : Int))), (0, .op (.idx (i - 1))), (0, .op (.ld (.int .u32 ((a : Nat) : Int)))), (0, .op (.rwB true)), (7, .op (.rwI (((i - 1) : Nat) : Int))), (4, .stay)]) (fr1 := trim_h_f xs n c (i - 1) [(J j 0), (J j 1), (.int .i64 ((i : Nat) : Int)), (.bool true), (.bool true), (sl 5 n c), (.int .i64 ((i : Nat) : Int)), (.int .i64 (((i - 1) : Nat) : Int)), (.pointer (some ⟨5,(i - 1),none⟩)), (.int .u32 ((a : Nat) : Int)), (.bool true), (.bool true), (.int .i64 ((i : Nat) : Int)), (.int .i64 (((i - 1) : Nat) : Int))]) (cs1 := []) (next := 6) (l := trim_h_o xs n c (i - 1)) (p := (decide (((i : Nat) : Int) > (0 : Int)) = true) ∧ ((IntKind.wrap .i64 (((i : Nat) : Int) - (1 : Int)) = (((i - 1) : Nat) : Int)) ∧ ((0 ≤ (((i - 1) : Nat) : Int) ∧ (((i - 1) : Nat) : Int) < ((n : Nat) : Int) ∧ 0 + Int.toNat (((i - 1) : Nat) : Int) * 1 = (i - 1)) ∧ ((((ns .u32 xs) : List Value)[(i - 1)]? = some (.int .u32 ((a : Nat) : Int))) ∧ (((((a : Nat) : Int) == (0 : Int)) = true) ∧ ((IntKind.wrap .i64 (((i : Nat) : Int) - (1 : Int)) = (((i - 1) : Nat) : Int)) ∧ True)))))) hk0_ok dr0_ok (by kernel_rfl) ⟨(by simp only [decide_eq_true_eq, decide_eq_false_iff_not, beq_iff_eq, beq_eq_false_iff_ne, bne_iff_ne, bne_eq_false_iff_eq, ne_eq, gt_iff_lt, ge_iff_le] <;> omega), (by rw [wrap_i64 (by omega) (by omega)] <;> omega), (by omega), hx, (by simp only [decide_eq_true_eq, decide_eq_false_iff_not, beq_iff_eq, beq_eq_false_iff_ne, bne_iff_ne, bne_eq_false_iff_eq, ne_eq, gt_iff_lt, ge_iff_le] <;> omega), (by rw [wrap_i64 (by omega) (by omega)] <;> omega), trivial⟩
theorem trim_o1 (xs : List Nat) (n c i a : Nat) (j : List Value) (h0 : 0 < i) (hi : i ≤ n) (hc : n ≤ xs.length) (hnc : n ≤ c) (hm : n < 9223372036854775807) (ha : a ≠ 0) (hx : (ns .u32 xs)[i - 1]? = some (.int .u32 (a : Nat)))  (hr : Gets Tryz.prog 5 ⟨Frame.enter Tryz.prog 156 #[(sl 5 n c)] .normal, [], mkH 6 [(5, (cU xs))]⟩ (trim_h xs n c i j)) : CSp Tryz.prog 5 156 #[(sl 5 n c)] (mkH 6 [(5, (cU xs))]) (sl 5 i i) (mkH 6 [(5, (cU xs))]) :=
  seg_fin hmix_ok (hk := hk0) (draw := dr0) (sc := [(4, .op (.rwB true)), (3, .op (.rwI (((i - 1) : Nat) : Int))), (0, .op (.idx (i - 1))), (0, .op (.ld (.int .u32 ((a : Nat) : Int)))), (0, .op (.rwB false)), (9, .op (.slc 0 i i)), (3, .stay)]) (next := 6) (l := [(5, (cU xs))]) (p := (decide (((i : Nat) : Int) > (0 : Int)) = true) ∧ ((IntKind.wrap .i64 (((i : Nat) : Int) - (1 : Int)) = (((i - 1) : Nat) : Int)) ∧ ((0 ≤ (((i - 1) : Nat) : Int) ∧ (((i - 1) : Nat) : Int) < ((n : Nat) : Int) ∧ 0 + Int.toNat (((i - 1) : Nat) : Int) * 1 = (i - 1)) ∧ ((((ns .u32 xs) : List Value)[(i - 1)]? = some (.int .u32 ((a : Nat) : Int))) ∧ (((((a : Nat) : Int) == (0 : Int)) = false) ∧ ((0 ≤ (0 : Int) ∧ (0 : Int) ≤ ((i : Nat) : Int) ∧ ((i : Nat) : Int) ≤ ((i : Nat) : Int) ∧ ((i : Nat) : Int) ≤ ((c : Nat) : Int) ∧ (if Int.toNat ((i : Nat) : Int) = Int.toNat (0 : Int) then 0 else 0 + Int.toNat (0 : Int) * 1) = 0 ∧ Int.toNat (((i : Nat) : Int) - (0 : Int)) = i ∧ Int.toNat ((i : Nat) : Int) - Int.toNat (0 : Int) = i) ∧ True)))))) hk0_ok dr0_ok (by kernel_rfl) ⟨(by simp only [decide_eq_true_eq, decide_eq_false_iff_not, beq_iff_eq, beq_eq_false_iff_ne, bne_iff_ne, bne_eq_false_iff_eq, ne_eq, gt_iff_lt, ge_iff_le] <;> omega), (by rw [wrap_i64 (by omega) (by omega)] <;> omega), (by omega), hx, (by simp only [decide_eq_true_eq, decide_eq_false_iff_not, beq_iff_eq, beq_eq_false_iff_ne, bne_iff_ne, bne_eq_false_iff_eq, ne_eq, gt_iff_lt, ge_iff_le] <;> omega), (by repeat (first | omega | (split <;> omega) | constructor)), trivial⟩ hr
theorem trim_o2 (xs : List Nat) (n c i : Nat) (j : List Value) (h0 : i = 0)  (hr : Gets Tryz.prog 5 ⟨Frame.enter Tryz.prog 156 #[(sl 5 n c)] .normal, [], mkH 6 [(5, (cU xs))]⟩ (trim_h xs n c i j)) : CSp Tryz.prog 5 156 #[(sl 5 n c)] (mkH 6 [(5, (cU xs))]) (sl 5 i i) (mkH 6 [(5, (cU xs))]) :=
  seg_fin hmix_ok (hk := hk0) (draw := dr0) (sc := [(4, .op (.rwB false)), (16, .op (.slc 0 i i)), (3, .stay)]) (next := 6) (l := [(5, (cU xs))]) (p := (decide (((i : Nat) : Int) > (0 : Int)) = false) ∧ ((0 ≤ (0 : Int) ∧ (0 : Int) ≤ ((i : Nat) : Int) ∧ ((i : Nat) : Int) ≤ ((i : Nat) : Int) ∧ ((i : Nat) : Int) ≤ ((c : Nat) : Int) ∧ (if Int.toNat ((i : Nat) : Int) = Int.toNat (0 : Int) then 0 else 0 + Int.toNat (0 : Int) * 1) = 0 ∧ Int.toNat (((i : Nat) : Int) - (0 : Int)) = i ∧ Int.toNat ((i : Nat) : Int) - Int.toNat (0 : Int) = i) ∧ True)) hk0_ok dr0_ok (by kernel_rfl) ⟨(by simp only [decide_eq_true_eq, decide_eq_false_iff_not, beq_iff_eq, beq_eq_false_iff_ne, bne_iff_ne, bne_eq_false_iff_eq, ne_eq, gt_iff_lt, ge_iff_le] <;> omega), (by repeat (first | omega | (split <;> omega) | constructor)), trivial⟩ hr

theorem trim_loop {n c : Nat} {xs : List Nat} (hc : n ≤ xs.length) (hnc : n ≤ c) (hm : n < 9223372036854775807) : ∀ (i : Nat) (j : List Value), i ≤ n → top xs i = top xs n →
    Gets Tryz.prog 5 ⟨Frame.enter Tryz.prog 156 #[(sl 5 n c)] .normal, [], mkH 6 [(5, (cU xs))]⟩ (trim_h xs n c i j) → CSp Tryz.prog 5 156 #[(sl 5 n c)] (mkH 6 [(5, (cU xs))]) (sl 5 (top xs n) (top xs n)) (mkH 6 [(5, (cU xs))]) := by
  intro i
  induction i with
  | zero =>
    intro j _ ht hr
    have := trim_o2 xs n c 0 j rfl hr
    rw [← ht]
    exact this
  | succ i ih =>
    intro j hi ht hr
    by_cases ha : xs.getD i 0 = 0
    · have r := trim_r xs n c (i + 1) (xs.getD i 0) j (by omega) hi hc hm ha (ns_get (by omega))
      exact ih _ (by omega) (by rw [← ht, top_zero ha]) (hr.trans r)
    · have := trim_o1 xs n c (i + 1) (xs.getD i 0) j (by omega) hi hc hnc hm ha (ns_get (by omega)) hr
      rw [← ht, top_some ha]
      exact this
/-- trimmed cuts leading zeros. -/
theorem trim_c (n0 b : Nat) (xs : List Nat) (n c : Nat) (hb : 5 ≤ b ∧ b < n0) (hc : n ≤ xs.length) (hnc : n ≤ c) (hm : n < 9223372036854775807) :
    FSp Tryz.prog 5 156 #[sl b n c] n0 [(b, cU xs)] (sl b (top xs n) (top xs n)) [(b, some (cU xs))] [] :=
  fsp_flat [b] [cU xs] [cU xs] [] [] n0 (trim_loop hc hnc hm n _ (Nat.le_refl _) rfl (trim_in xs n c)) rfl rfl rfl (by simp) (by simp; omega) (by omega) (by simp [flat, ns_closed]) (by simp [flat, ns_closed]) rfl (by simp) (by simp) rfl rfl rfl

end Go.Proofs.YtpbbfgpnoinkjaaGreatDoor
