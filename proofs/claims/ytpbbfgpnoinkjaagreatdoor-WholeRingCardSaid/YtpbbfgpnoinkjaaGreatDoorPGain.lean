import Derived.Test.YtpbbfgpnoinkjaaGreatDoorK
import Derived.Test.YtpbbfgpnoinkjaaGreatDoorTrim
set_option linter.unusedVariables false
set_option linter.unusedSimpArgs false
set_option maxRecDepth 100000
set_option linter.unusedVariables false
set_option linter.unusedSimpArgs false
namespace Go.Proofs.YtpbbfgpnoinkjaaGreatDoor
open Go Go.AE Seg
noncomputable def gain_h_f (xs ys : List Nat) (n c k e : Nat) (q i : Nat) (j : List Value) : Frame := ⟨189, List.toArray [(sl 5 n c), (sl 6 k e), undef, undef, (.int .u32 ((q : Nat) : Int)), (.int .i64 ((i : Nat) : Int)), (J j 0), (J j 1), (J j 2), (J j 3), (J j 4), (J j 5), (J j 6), (J j 7), (J j 8), (J j 9), (J j 10), (J j 11), (J j 12), (J j 13), (J j 14), (J j 15), (J j 16), (J j 17), (J j 18), (J j 19), (J j 20), (J j 21), (J j 22), (J j 23), (J j 24), (J j 25), (J j 26), (J j 27), (J j 28), (J j 29), (J j 30), (J j 31), (J j 32), (J j 33)], [.code (cd Tryz.f189 [1, 1, 0, 0]), .inLoop (cd Tryz.f189 [1, 1, 0, 0]), .inBlock 0], [], .run, .normal, none⟩
noncomputable def gain_h_o (xs ys : List Nat) (n c k e : Nat) (q i : Nat) : List (Nat × AObj) := [(5, (cU xs)), (6, (cU ys))]
noncomputable def gain_h (xs ys : List Nat) (n c k e : Nat) (q i : Nat) (j : List Value) : AS := ⟨gain_h_f xs ys n c k e q i j, [], mkH 7 (gain_h_o xs ys n c k e q i)⟩
theorem gain_in (xs ys : List Nat) (n c k e : Nat)  : Gets Tryz.prog 5 ⟨Frame.enter Tryz.prog 189 #[(sl 5 n c),(sl 6 k e)] .normal, [], mkH 7 [(5, (cU xs)), (6, (cU ys))]⟩ (gain_h xs ys n c k e 0 0 [undef, undef, undef, undef, undef, undef, undef, undef, undef, undef, undef, undef, undef, undef, undef, undef, undef, undef, undef, undef, undef, undef, undef, undef, undef, undef, undef, undef, undef, undef, undef, undef, undef, undef]) :=
  seg_reach hmix_ok (hk := hk0) (draw := dr0) (sc := [(10, .stay)]) (fr1 := gain_h_f xs ys n c k e 0 0 [undef, undef, undef, undef, undef, undef, undef, undef, undef, undef, undef, undef, undef, undef, undef, undef, undef, undef, undef, undef, undef, undef, undef, undef, undef, undef, undef, undef, undef, undef, undef, undef, undef, undef]) (cs1 := []) (next := 7) (l := gain_h_o xs ys n c k e 0 0) (p := True) hk0_ok dr0_ok (by kernel_rfl) trivial
theorem gain_r1 (xs ys : List Nat) (n c k e q i a b : Nat) (j : List Value) (hi : i < k) (hn : i < n) (hc : n ≤ xs.length) (hm : n < 9223372036854775807) (hkm : k < 9223372036854775807) (hb : b < 1000000000) (ha : a < 1000000000) (hq : q ≤ 1) (hx : (ns .u32 xs)[i]? = some (.int .u32 (a : Nat))) (hy : (ns .u32 ys)[i]? = some (.int .u32 (b : Nat)))  : Gets Tryz.prog 5 (gain_h xs ys n c k e q i j) (gain_h (xs.set i (((a + q) + b) % 1000000000)) ys n c k e (((a + q) + b) / 1000000000) (i + 1) [(.int .u32 ((((a + q) + b) : Nat) : Int)), (.int .i64 ((i : Nat) : Int)), (sl 6 k e), (.int .i64 ((k : Nat) : Int)), (.bool true), (.bool true), undef, undef, (.bool true), (.int .i64 ((i : Nat) : Int)), (.int .i64 (((i + 1) : Nat) : Int)), (sl 5 n c), (.int .i64 ((i : Nat) : Int)), (.pointer (some ⟨5,i,none⟩)), (.int .u32 ((a : Nat) : Int)), (.int .u32 ((q : Nat) : Int)), (.int .u32 (((a + q) : Nat) : Int)), (.int .i64 ((i : Nat) : Int)), (sl 6 k e), (.int .i64 ((k : Nat) : Int)), (.bool true), (.int .u32 (((a + q) : Nat) : Int)), (sl 6 k e), (.int .i64 ((i : Nat) : Int)), (.pointer (some ⟨6,i,none⟩)), (.int .u32 ((b : Nat) : Int)), (.int .u32 ((((a + q) + b) : Nat) : Int)), (.int .u32 ((((a + q) + b) : Nat) : Int)), (.int .u32 (((((a + q) + b) / 1000000000) : Nat) : Int)), (sl 5 n c), (.int .i64 ((i : Nat) : Int)), (.int .u32 ((((a + q) + b) : Nat) : Int)), (.int .u32 (((((a + q) + b) % 1000000000) : Nat) : Int)), (.pointer (some ⟨5,i,none⟩))]) :=
  seg_reach hmix_ok (hk := hk0) (draw := dr0) (sc := [(6, .op (.rwB true)), (13, .op (.idx i)), (0, .op (.ld (.int .u32 ((a : Nat) : Int)))), (1, .op (.rwI (((a + q) : Nat) : Int))), (8, .op (.rwB true)), (6, .op (.idx i)), (0, .op (.ld (.int .u32 ((b : Nat) : Int)))), (0, .op (.rwI ((((a + q) + b) : Nat) : Int))), (5, .op (.rwI (((((a + q) + b) / 1000000000) : Nat) : Int))), (6, .op (.rwI (((((a + q) + b) % 1000000000) : Nat) : Int))), (0, .op (.idx i)), (0, .op (.st (ns .u32 (xs.set i (((a + q) + b) % 1000000000))))), (4, .op (.rwI (((i + 1) : Nat) : Int))), (3, .stay)]) (fr1 := gain_h_f (xs.set i (((a + q) + b) % 1000000000)) ys n c k e (((a + q) + b) / 1000000000) (i + 1) [(.int .u32 ((((a + q) + b) : Nat) : Int)), (.int .i64 ((i : Nat) : Int)), (sl 6 k e), (.int .i64 ((k : Nat) : Int)), (.bool true), (.bool true), undef, undef, (.bool true), (.int .i64 ((i : Nat) : Int)), (.int .i64 (((i + 1) : Nat) : Int)), (sl 5 n c), (.int .i64 ((i : Nat) : Int)), (.pointer (some ⟨5,i,none⟩)), (.int .u32 ((a : Nat) : Int)), (.int .u32 ((q : Nat) : Int)), (.int .u32 (((a + q) : Nat) : Int)), (.int .i64 ((i : Nat) : Int)), (sl 6 k e), (.int .i64 ((k : Nat) : Int)), (.bool true), (.int .u32 (((a + q) : Nat) : Int)), (sl 6 k e), (.int .i64 ((i : Nat) : Int)), (.pointer (some ⟨6,i,none⟩)), (.int .u32 ((b : Nat) : Int)), (.int .u32 ((((a + q) + b) : Nat) : Int)), (.int .u32 ((((a + q) + b) : Nat) : Int)), (.int .u32 (((((a + q) + b) / 1000000000) : Nat) : Int)), (sl 5 n c), (.int .i64 ((i : Nat) : Int)), (.int .u32 ((((a + q) + b) : Nat) : Int)), (.int .u32 (((((a + q) + b) % 1000000000) : Nat) : Int)), (.pointer (some ⟨5,i,none⟩))]) (cs1 := []) (next := 7) (l := gain_h_o (xs.set i (((a + q) + b) % 1000000000)) ys n c k e (((a + q) + b) / 1000000000) (i + 1)) (p := (decide (((i : Nat) : Int) < ((k : Nat) : Int)) = true) ∧ ((0 ≤ ((i : Nat) : Int) ∧ ((i : Nat) : Int) < ((n : Nat) : Int) ∧ 0 + Int.toNat ((i : Nat) : Int) * 1 = i) ∧ ((((ns .u32 xs) : List Value)[i]? = some (.int .u32 ((a : Nat) : Int))) ∧ ((IntKind.wrap .u32 (((a : Nat) : Int) + ((q : Nat) : Int)) = (((a + q) : Nat) : Int)) ∧ ((decide (((i : Nat) : Int) < ((k : Nat) : Int)) = true) ∧ ((0 ≤ ((i : Nat) : Int) ∧ ((i : Nat) : Int) < ((k : Nat) : Int) ∧ 0 + Int.toNat ((i : Nat) : Int) * 1 = i) ∧ ((((ns .u32 ys) : List Value)[i]? = some (.int .u32 ((b : Nat) : Int))) ∧ ((IntKind.wrap .u32 ((((a + q) : Nat) : Int) + ((b : Nat) : Int)) = ((((a + q) + b) : Nat) : Int)) ∧ ((IntKind.wrap .u32 (Int.tdiv ((((a + q) + b) : Nat) : Int) (1000000000 : Int)) = (((((a + q) + b) / 1000000000) : Nat) : Int)) ∧ (((Int.tmod ((((a + q) + b) : Nat) : Int) (1000000000 : Int)) = (((((a + q) + b) % 1000000000) : Nat) : Int)) ∧ ((0 ≤ ((i : Nat) : Int) ∧ ((i : Nat) : Int) < ((n : Nat) : Int) ∧ 0 + Int.toNat ((i : Nat) : Int) * 1 = i) ∧ ((i + 1 ≤ (ns .u32 xs).length ∧ lspl (ns .u32 xs) i [(.int .u32 (((((a + q) + b) % 1000000000) : Nat) : Int))] = (ns .u32 (xs.set i (((a + q) + b) % 1000000000)))) ∧ ((IntKind.wrap .i64 (((i : Nat) : Int) + (1 : Int)) = (((i + 1) : Nat) : Int)) ∧ True))))))))))))) hk0_ok dr0_ok (by kernel_rfl) ⟨(by simp only [decide_eq_true_eq, decide_eq_false_iff_not, beq_iff_eq, beq_eq_false_iff_ne, bne_iff_ne, bne_eq_false_iff_eq, ne_eq, gt_iff_lt, ge_iff_le] <;> omega), (by omega), hx, (by rw [wrap_u32 (by omega) (by omega)] <;> omega), (by simp only [decide_eq_true_eq, decide_eq_false_iff_not, beq_iff_eq, beq_eq_false_iff_ne, bne_iff_ne, bne_eq_false_iff_eq, ne_eq, gt_iff_lt, ge_iff_le] <;> omega), (by omega), hy, (by rw [wrap_u32 (by omega) (by omega)] <;> omega), (by rw [Int.tdiv_eq_ediv_of_nonneg (by omega), wrap_u32 (by omega) (by omega)] <;> omega), (by rw [Int.tmod_eq_emod_of_nonneg (by omega)] <;> omega), (by omega), (ns_set (by omega)), (by rw [wrap_i64 (by omega) (by omega)] <;> omega), trivial⟩
theorem gain_r2 (xs ys : List Nat) (n c k e q i a : Nat) (j : List Value) (hi : k ≤ i) (hn : i < n) (hc : n ≤ xs.length) (hm : n < 9223372036854775807) (hq : q = 1) (ha : a < 1000000000) (hx : (ns .u32 xs)[i]? = some (.int .u32 (a : Nat)))  : Gets Tryz.prog 5 (gain_h xs ys n c k e q i j) (gain_h (xs.set i ((a + q) % 1000000000)) ys n c k e ((a + q) / 1000000000) (i + 1) [(.int .u32 (((a + q) : Nat) : Int)), (.int .i64 ((i : Nat) : Int)), (sl 6 k e), (.int .i64 ((k : Nat) : Int)), (.bool false), (.bool false), (.int .u32 ((q : Nat) : Int)), (.bool true), (.bool true), (.int .i64 ((i : Nat) : Int)), (.int .i64 (((i + 1) : Nat) : Int)), (sl 5 n c), (.int .i64 ((i : Nat) : Int)), (.pointer (some ⟨5,i,none⟩)), (.int .u32 ((a : Nat) : Int)), (.int .u32 ((q : Nat) : Int)), (.int .u32 (((a + q) : Nat) : Int)), (.int .i64 ((i : Nat) : Int)), (sl 6 k e), (.int .i64 ((k : Nat) : Int)), (.bool false), (J j 21), (J j 22), (J j 23), (J j 24), (J j 25), (J j 26), (.int .u32 (((a + q) : Nat) : Int)), (.int .u32 ((((a + q) / 1000000000) : Nat) : Int)), (sl 5 n c), (.int .i64 ((i : Nat) : Int)), (.int .u32 (((a + q) : Nat) : Int)), (.int .u32 ((((a + q) % 1000000000) : Nat) : Int)), (.pointer (some ⟨5,i,none⟩))]) :=
  seg_reach hmix_ok (hk := hk0) (draw := dr0) (sc := [(6, .op (.rwB false)), (2, .op (.rwB true)), (10, .op (.idx i)), (0, .op (.ld (.int .u32 ((a : Nat) : Int)))), (1, .op (.rwI (((a + q) : Nat) : Int))), (8, .op (.rwB false)), (6, .op (.rwI ((((a + q) / 1000000000) : Nat) : Int))), (6, .op (.rwI ((((a + q) % 1000000000) : Nat) : Int))), (0, .op (.idx i)), (0, .op (.st (ns .u32 (xs.set i ((a + q) % 1000000000))))), (4, .op (.rwI (((i + 1) : Nat) : Int))), (3, .stay)]) (fr1 := gain_h_f (xs.set i ((a + q) % 1000000000)) ys n c k e ((a + q) / 1000000000) (i + 1) [(.int .u32 (((a + q) : Nat) : Int)), (.int .i64 ((i : Nat) : Int)), (sl 6 k e), (.int .i64 ((k : Nat) : Int)), (.bool false), (.bool false), (.int .u32 ((q : Nat) : Int)), (.bool true), (.bool true), (.int .i64 ((i : Nat) : Int)), (.int .i64 (((i + 1) : Nat) : Int)), (sl 5 n c), (.int .i64 ((i : Nat) : Int)), (.pointer (some ⟨5,i,none⟩)), (.int .u32 ((a : Nat) : Int)), (.int .u32 ((q : Nat) : Int)), (.int .u32 (((a + q) : Nat) : Int)), (.int .i64 ((i : Nat) : Int)), (sl 6 k e), (.int .i64 ((k : Nat) : Int)), (.bool false), (J j 21), (J j 22), (J j 23), (J j 24), (J j 25), (J j 26), (.int .u32 (((a + q) : Nat) : Int)), (.int .u32 ((((a + q) / 1000000000) : Nat) : Int)), (sl 5 n c), (.int .i64 ((i : Nat) : Int)), (.int .u32 (((a + q) : Nat) : Int)), (.int .u32 ((((a + q) % 1000000000) : Nat) : Int)), (.pointer (some ⟨5,i,none⟩))]) (cs1 := []) (next := 7) (l := gain_h_o (xs.set i ((a + q) % 1000000000)) ys n c k e ((a + q) / 1000000000) (i + 1)) (p := (decide (((i : Nat) : Int) < ((k : Nat) : Int)) = false) ∧ ((decide (((q : Nat) : Int) > (0 : Int)) = true) ∧ ((0 ≤ ((i : Nat) : Int) ∧ ((i : Nat) : Int) < ((n : Nat) : Int) ∧ 0 + Int.toNat ((i : Nat) : Int) * 1 = i) ∧ ((((ns .u32 xs) : List Value)[i]? = some (.int .u32 ((a : Nat) : Int))) ∧ ((IntKind.wrap .u32 (((a : Nat) : Int) + ((q : Nat) : Int)) = (((a + q) : Nat) : Int)) ∧ ((decide (((i : Nat) : Int) < ((k : Nat) : Int)) = false) ∧ ((IntKind.wrap .u32 (Int.tdiv (((a + q) : Nat) : Int) (1000000000 : Int)) = ((((a + q) / 1000000000) : Nat) : Int)) ∧ (((Int.tmod (((a + q) : Nat) : Int) (1000000000 : Int)) = ((((a + q) % 1000000000) : Nat) : Int)) ∧ ((0 ≤ ((i : Nat) : Int) ∧ ((i : Nat) : Int) < ((n : Nat) : Int) ∧ 0 + Int.toNat ((i : Nat) : Int) * 1 = i) ∧ ((i + 1 ≤ (ns .u32 xs).length ∧ lspl (ns .u32 xs) i [(.int .u32 ((((a + q) % 1000000000) : Nat) : Int))] = (ns .u32 (xs.set i ((a + q) % 1000000000)))) ∧ ((IntKind.wrap .i64 (((i : Nat) : Int) + (1 : Int)) = (((i + 1) : Nat) : Int)) ∧ True))))))))))) hk0_ok dr0_ok (by kernel_rfl) ⟨(by simp only [decide_eq_true_eq, decide_eq_false_iff_not, beq_iff_eq, beq_eq_false_iff_ne, bne_iff_ne, bne_eq_false_iff_eq, ne_eq, gt_iff_lt, ge_iff_le] <;> omega), (by simp only [decide_eq_true_eq, decide_eq_false_iff_not, beq_iff_eq, beq_eq_false_iff_ne, bne_iff_ne, bne_eq_false_iff_eq, ne_eq, gt_iff_lt, ge_iff_le] <;> omega), (by omega), hx, (by rw [wrap_u32 (by omega) (by omega)] <;> omega), (by simp only [decide_eq_true_eq, decide_eq_false_iff_not, beq_iff_eq, beq_eq_false_iff_ne, bne_iff_ne, bne_eq_false_iff_eq, ne_eq, gt_iff_lt, ge_iff_le] <;> omega), (by rw [Int.tdiv_eq_ediv_of_nonneg (by omega), wrap_u32 (by omega) (by omega)] <;> omega), (by rw [Int.tmod_eq_emod_of_nonneg (by omega)] <;> omega), (by omega), (ns_set (by omega)), (by rw [wrap_i64 (by omega) (by omega)] <;> omega), trivial⟩
theorem gain_out (xs0 xs ys : List Nat) (n c k e q i : Nat) (j : List Value) (hi : k ≤ i) (hq : q = 0)  (hr : Gets Tryz.prog 5 ⟨Frame.enter Tryz.prog 189 #[(sl 5 n c),(sl 6 k e)] .normal, [], mkH 7 [(5, (cU xs0)), (6, (cU ys))]⟩ (gain_h xs ys n c k e q i j)) : CSp Tryz.prog 5 189 #[(sl 5 n c),(sl 6 k e)] (mkH 7 [(5, (cU xs0)), (6, (cU ys))]) undef (mkH 7 [(5, (cU xs)), (6, (cU ys))]) :=
  seg_fin hmix_ok (hk := hk0) (draw := dr0) (sc := [(6, .op (.rwB false)), (2, .op (.rwB false)), (5, .stay)]) (next := 7) (l := [(5, (cU xs)), (6, (cU ys))]) (p := (decide (((i : Nat) : Int) < ((k : Nat) : Int)) = false) ∧ ((decide (((q : Nat) : Int) > (0 : Int)) = false) ∧ True)) hk0_ok dr0_ok (by kernel_rfl) ⟨(by simp only [decide_eq_true_eq, decide_eq_false_iff_not, beq_iff_eq, beq_eq_false_iff_ne, bne_iff_ne, bne_eq_false_iff_eq, ne_eq, gt_iff_lt, ge_iff_le] <;> omega), (by simp only [decide_eq_true_eq, decide_eq_false_iff_not, beq_iff_eq, beq_eq_false_iff_ne, bne_iff_ne, bne_eq_false_iff_eq, ne_eq, gt_iff_lt, ge_iff_le] <;> omega), trivial⟩ hr

theorem gain_loop {s0 : AS} {ys : List Nat} {n k e T : Nat} (hly : Lim ys) (hk : k ≤ ys.length) (hkn : k ≤ n) (hn : n < 9223372036854775807) (hT : T < 1000000000 ^ n) :
    ∀ (m : Nat) (xs : List Nat) (q i : Nat) (j : List Value), m = n - i → xs.length = n → Lim xs → i ≤ n → q ≤ 1 → val xs + q * 1000000000 ^ i + 1000000000 ^ i * val ((ys.take k).drop i) = T →
      Gets Tryz.prog 5 s0 (gain_h xs ys n n k e q i j) → ∃ zs i' j', k ≤ i' ∧ zs.length = n ∧ Lim zs ∧ val zs = T ∧ Gets Tryz.prog 5 s0 (gain_h zs ys n n k e 0 i' j') := by
  intro m
  induction m with
  | zero =>
    intro xs q i j hm hx hl hi hq hv hr
    have hin : i = n := by omega
    subst hin
    have hq0 : q = 0 := by
      rcases Nat.eq_zero_or_pos q with h | h
      · exact h
      · have := Nat.mul_le_mul_right (1000000000 ^ i) h
        omega
    subst hq0
    refine ⟨xs, i, j, hkn, hx, hl, ?_, hr⟩
    rw [List.drop_eq_nil_of_le (by rw [List.length_take]; omega)] at hv
    exact nil_end hv
  | succ m ih =>
    intro xs q i j hm hx hl hi hq hv hr
    have hP : 1000000000 ^ (i + 1) = 1000000000 ^ i * 1000000000 := Nat.pow_succ ..
    by_cases hik : i < k
    · have ha := hl.get i
      have hb := hly.get i
      have r := gain_r1 xs ys n n k e q i (xs.getD i 0) (ys.getD i 0) j hik (by omega) (by omega) hn (by omega) hb ha hq (ns_get (by omega)) (ns_get (by omega))
      refine ih _ _ _ _ (by omega) (by simpa using hx) (hl.set (Nat.mod_lt _ (by decide))) (by omega) (by omega) ?_ (hr.trans r)
      have h1 := val_set xs i ((xs.getD i 0 + q + ys.getD i 0) % 1000000000) (by omega)
      have h2 : val ((ys.take k).drop i) = ys.getD i 0 + 1000000000 * val ((ys.take k).drop (i + 1)) := by
        rw [val_drop (by rw [List.length_take]; omega), getD_take hik]
      rw [h2] at hv
      rw [hP]
      exact carry_step h1 hv
    · by_cases hq1 : q = 1
      · subst hq1
        have hin : i < n := by
          rcases Nat.lt_or_ge i n with h | h
          · exact h
          · have := pow_le h
            omega
        have ha := hl.get i
        have r := gain_r2 xs ys n n k e 1 i (xs.getD i 0) j (by omega) hin (by omega) hn rfl ha (ns_get (by omega))
        refine ih _ _ _ _ (by omega) (by simpa using hx) (hl.set (Nat.mod_lt _ (by decide))) (by omega) (by omega) ?_ (hr.trans r)
        have h1 := val_set xs i ((xs.getD i 0 + 1) % 1000000000) (by omega)
        rw [List.drop_eq_nil_of_le (by rw [List.length_take]; omega)] at hv ⊢
        rw [hP]
        exact nil_add (carry_step0 h1 (nil_one hv))
      · have hq0 : q = 0 := by omega
        subst hq0
        refine ⟨xs, i, j, by omega, hx, hl, ?_, hr⟩
        rw [List.drop_eq_nil_of_le (by rw [List.length_take]; omega)] at hv
        exact nil_end hv

/-- gain adds y to x, which has room for the sum. -/
theorem gain_c (n0 bx byy : Nat) (xs ys : List Nat) (k e : Nat) (hb : 5 ≤ bx ∧ bx < n0 ∧ 5 ≤ byy ∧ byy < n0 ∧ bx ≠ byy) (hlx : Lim xs) (hly : Lim ys) (hk : k ≤ ys.length) (hkn : k ≤ xs.length) (hn : xs.length < 9223372036854775807)
    (hT : val xs + val (ys.take k) < 1000000000 ^ xs.length) :
    ∃ zs, zs.length = xs.length ∧ Lim zs ∧ val zs = val xs + val (ys.take k) ∧
      FSp Tryz.prog 5 189 #[sl bx xs.length xs.length, sl byy k e] n0 [(bx, cU xs), (byy, cU ys)] undef
        [(bx, some (cU zs)), (byy, some (cU ys))] [] := by
  have r := gain_in xs ys xs.length xs.length k e
  obtain ⟨zs, i', j', h1, h2, h3, h4, h5⟩ := gain_loop (T := val xs + val (ys.take k)) hly hk hkn hn hT _ xs 0 0 _ rfl rfl hlx (by omega) (by omega) (by simp) r
  have S := gain_out xs zs ys xs.length xs.length k e 0 i' j' h1 rfl h5
  refine ⟨zs, h2, h3, h4, fsp_flat [bx, byy] [cU xs, cU ys] [cU zs, cU ys] [] [] n0 S rfl rfl rfl ?_ ?_ (by omega) ?_ ?_ rfl (by simp) (by simp) rfl rfl rfl⟩
  · simp [hb.2.2.2.2]
  · simp; omega
  · simp [flat, ns_closed]
  · simp [flat, ns_closed]

end Go.Proofs.YtpbbfgpnoinkjaaGreatDoor
set_option maxRecDepth 100000
set_option linter.unusedVariables false
set_option linter.unusedSimpArgs false
namespace Go.Proofs.YtpbbfgpnoinkjaaGreatDoor
open Go Go.AE Seg
theorem copied_o (xs : List Nat) (n c k : Nat) (hc : n ≤ xs.length) (hk : n ≤ k) (hm : k < 70368744177664)  (hr : Gets Tryz.prog 5 ⟨Frame.enter Tryz.prog 154 #[(sl 5 n c),(.int .i64 ((k : Nat) : Int))] .normal, [], mkH 6 [(5, (cU xs))]⟩ ⟨Frame.enter Tryz.prog 154 #[(sl 5 n c),(.int .i64 ((k : Nat) : Int))] .normal, [], mkH 6 [(5, (cU xs))]⟩) : CSp Tryz.prog 5 154 #[(sl 5 n c),(.int .i64 ((k : Nat) : Int))] (mkH 6 [(5, (cU xs))]) (sl 6 k k) (mkH 7 [(5, (cU xs)), (6, (.cells (ns .u32 (xs.take n ++ List.replicate (k - n) 0)) 121 none false))]) :=
  seg_fin hmix_ok (hk := hk0) (draw := dr0) (sc := [(7, .op (.mks k k (ns .u32 (List.replicate k 0)))), (6, .op (.cpy n (ns .u32 (xs.take n ++ List.replicate (k - n) 0)))), (7, .stay)]) (next := 7) (l := [(5, (cU xs)), (6, (.cells (ns .u32 (xs.take n ++ List.replicate (k - n) 0)) 121 none false))]) (p := ((0 ≤ ((k : Nat) : Int) ∧ ((k : Nat) : Int) ≤ ((k : Nat) : Int) ∧ ((4 : Nat) : Int) * ((k : Nat) : Int) ≤ 281474976710656 ∧ ((k : Nat) : Int) ≤ 9223372036854775807) ∧ closedL (ns .u32 (List.replicate k 0)) = true ∧ (madeCells (Value.cells (.int .u32 (.ofNat 0))) (Int.toNat ((k : Nat) : Int) * 1)).toList = (ns .u32 (List.replicate k 0)) ∧ Int.toNat ((k : Nat) : Int) = k ∧ Int.toNat ((k : Nat) : Int) = k) ∧ ((0 + n ≤ (ns .u32 xs).length ∧ Nat.min n k = n ∧ 0 + n ≤ (ns .u32 (List.replicate k 0)).length ∧ (List.take n (List.take n (List.drop 0 (ns .u32 xs)))).all (·.oneCell') = true ∧ lspl (ns .u32 (List.replicate k 0)) 0 (List.take n (List.take n (List.drop 0 (ns .u32 xs)))) = (ns .u32 (xs.take n ++ List.replicate (k - n) 0))) ∧ True)) hk0_ok dr0_ok (by kernel_rfl) ⟨(by refine ⟨⟨?_, ?_, ?_, ?_⟩, ns_closed _ _, ns_made _ _ _, ?_, ?_⟩ <;> omega), (ns_cpy hc hk), trivial⟩ hr

/-- copied has the same limbs, and zeros behind them, in new memory. -/
theorem copied_c (n0 b : Nat) (xs : List Nat) (n c k : Nat) (hb : 5 ≤ b ∧ b < n0) (hc : n ≤ xs.length) (hk : n ≤ k) (hm : k < 70368744177664) :
    FSp Tryz.prog 5 154 #[sl b n c, .int .i64 (k : Nat)] n0 [(b, cU xs)] (sl n0 k k) [(b, some (cU xs))]
      [.cells (ns .u32 (xs.take n ++ List.replicate (k - n) 0)) 121 none false] :=
  fsp_flat [b] [cU xs] [cU xs] [6] [.cells (ns .u32 (xs.take n ++ List.replicate (k - n) 0)) 121 none false] n0 (copied_o xs n c k hc hk hm (Gets.refl _)) rfl rfl rfl (by simp) (by simp; omega) (by omega) (by simp [flat, ns_closed]) (by simp [flat, ns_closed]) (by simp [flat, ns_closed, AObj.ro]) (by simp) (by simp) rfl rfl rfl

theorem copied_n (k : Nat) (hm : k < 70368744177664)  (hr : Gets Tryz.prog 5 ⟨Frame.enter Tryz.prog 154 #[(.slice none 0 0),(.int .i64 ((k : Nat) : Int))] .normal, [], mkH 5 []⟩ ⟨Frame.enter Tryz.prog 154 #[(.slice none 0 0),(.int .i64 ((k : Nat) : Int))] .normal, [], mkH 5 []⟩) : CSp Tryz.prog 5 154 #[(.slice none 0 0),(.int .i64 ((k : Nat) : Int))] (mkH 5 []) (sl 5 k k) (mkH 6 [(5, (cU (List.replicate k 0)))]) :=
  seg_fin hmix_ok (hk := hk0) (draw := dr0) (sc := [(7, .op (.mks k k (ns .u32 (List.replicate k 0)))), (14, .stay)]) (next := 6) (l := [(5, (cU (List.replicate k 0)))]) (p := ((0 ≤ ((k : Nat) : Int) ∧ ((k : Nat) : Int) ≤ ((k : Nat) : Int) ∧ ((4 : Nat) : Int) * ((k : Nat) : Int) ≤ 281474976710656 ∧ ((k : Nat) : Int) ≤ 9223372036854775807) ∧ closedL (ns .u32 (List.replicate k 0)) = true ∧ (madeCells (Value.cells (.int .u32 (.ofNat 0))) (Int.toNat ((k : Nat) : Int) * 1)).toList = (ns .u32 (List.replicate k 0)) ∧ Int.toNat ((k : Nat) : Int) = k ∧ Int.toNat ((k : Nat) : Int) = k) ∧ True) hk0_ok dr0_ok (by kernel_rfl) ⟨(by refine ⟨⟨?_, ?_, ?_, ?_⟩, ns_closed _ _, ns_made _ _ _, ?_, ?_⟩ <;> omega), trivial⟩ hr

theorem copied_nil (n0 k : Nat) (hG : 5 ≤ n0) (hm : k < 70368744177664) :
    FSp Tryz.prog 5 154 #[.slice none 0 0, .int .i64 (k : Nat)] n0 [] (sl n0 k k) [] [cU (List.replicate k 0)] :=
  fsp_flat [] [] [] [5] [cU (List.replicate k 0)] n0 (copied_n k hm (Gets.refl _)) rfl rfl rfl (by simp) (by simp) hG rfl rfl (by simp [flat, ns_closed, AObj.ro]) (by simp) (by simp) rfl rfl rfl

end Go.Proofs.YtpbbfgpnoinkjaaGreatDoor
set_option maxRecDepth 100000
set_option linter.unusedVariables false
set_option linter.unusedSimpArgs false
namespace Go.Proofs.YtpbbfgpnoinkjaaGreatDoor
open Go Go.AE Seg
theorem plus_o (xs ys : List Nat) (n c k e : Nat) (hc : n ≤ xs.length) (hk : k ≤ ys.length) (hn : n < 1099511627776) (hkm : k < 1099511627776) (zs0 : List Nat) (hz : zs0.length = max n k + 1) (hc1 : FSp Tryz.prog 5 189 #[(sl 7 ((max n k) + 1) ((max n k) + 1)),(sl 6 k e)] 8 [(7,(.cells (ns .u32 (xs.take n ++ List.replicate (((max n k) + 1) - n) 0)) 121 none false)),(6,(cU ys))] undef [(7,some (cU zs0)),(6,some (cU ys))] []) (hr : Gets Tryz.prog 5 ⟨Frame.enter Tryz.prog 151 #[(sl 5 n c),(sl 6 k e)] .normal, [], mkH 7 [(5, (cU xs)), (6, (cU ys))]⟩ ⟨Frame.enter Tryz.prog 151 #[(sl 5 n c),(sl 6 k e)] .normal, [], mkH 7 [(5, (cU xs)), (6, (cU ys))]⟩) : CSp Tryz.prog 5 151 #[(sl 5 n c),(sl 6 k e)] (mkH 7 [(5, (cU xs)), (6, (cU ys))]) (sl 7 (top zs0 ((max n k) + 1)) (top zs0 ((max n k) + 1))) (mkH 8 [(5, (cU xs)), (6, (cU ys)), (7, (cU zs0))]) :=
  seg_fin hmix_ok (hk := hk0) (draw := dr0) (sc := [(11, .op (.rwI (((max n k) : Nat) : Int))), (0, .op (.rwI ((((max n k) + 1) : Nat) : Int))), (0, .call [5] (sl 7 ((max n k) + 1) ((max n k) + 1)) [(5,some (cU xs))] [(.cells (ns .u32 (xs.take n ++ List.replicate (((max n k) + 1) - n) 0)) 121 none false)]), (6, .call [7,6] undef [(7,some (cU zs0)),(6,some (cU ys))] []), (4, .call [7] (sl 7 (top zs0 ((max n k) + 1)) (top zs0 ((max n k) + 1))) [(7,some (cU zs0))] []), (3, .stay)]) (next := 8) (l := [(5, (cU xs)), (6, (cU ys)), (7, (cU zs0))]) (p := ((if ((k : Nat) : Int) > ((n : Nat) : Int) then ((k : Nat) : Int) else ((n : Nat) : Int)) = (((max n k) : Nat) : Int)) ∧ ((IntKind.wrap .i64 ((((max n k) : Nat) : Int) + (1 : Int)) = ((((max n k) + 1) : Nat) : Int)) ∧ ((FSp Tryz.prog 5 154 #[(sl 5 n c),(.int .i64 ((((max n k) + 1) : Nat) : Int))] 7 [(5,(cU xs))] (sl 7 ((max n k) + 1) ((max n k) + 1)) [(5,some (cU xs))] [(.cells (ns .u32 (xs.take n ++ List.replicate (((max n k) + 1) - n) 0)) 121 none false)]) ∧ ((FSp Tryz.prog 5 189 #[(sl 7 ((max n k) + 1) ((max n k) + 1)),(sl 6 k e)] 8 [(7,(.cells (ns .u32 (xs.take n ++ List.replicate (((max n k) + 1) - n) 0)) 121 none false)),(6,(cU ys))] undef [(7,some (cU zs0)),(6,some (cU ys))] []) ∧ ((FSp Tryz.prog 5 156 #[(sl 7 ((max n k) + 1) ((max n k) + 1))] 8 [(7,(cU zs0))] (sl 7 (top zs0 ((max n k) + 1)) (top zs0 ((max n k) + 1))) [(7,some (cU zs0))] []) ∧ True))))) hk0_ok dr0_ok (by kernel_rfl) ⟨(by omega), (by rw [wrap_i64 (by omega) (by omega)] <;> omega), (copied_c 7 5 xs n c ((max n k) + 1) (by omega) (by omega) (by omega) (by omega)), hc1, (trim_c 8 7 zs0 ((max n k) + 1) ((max n k) + 1) (by omega) (by rw [hz]; exact Nat.le_refl _) (by omega) (by omega)), trivial⟩ hr

/-- plus returns the sum in new memory. -/
theorem plus_c (n0 bx byy : Nat) (xs ys : List Nat) (n c k e : Nat) (hb : 5 ≤ bx ∧ bx < n0 ∧ 5 ≤ byy ∧ byy < n0 ∧ bx ≠ byy) (hlx : Lim xs) (hly : Lim ys) (hc : n ≤ xs.length) (hk : k ≤ ys.length) (hn : n < 1099511627776) (hkm : k < 1099511627776) :
    ∃ zs t, Lim zs ∧ t ≤ zs.length ∧ t ≤ max n k + 1 ∧ (0 < t → zs.getD (t - 1) 0 ≠ 0) ∧ val (zs.take t) = val (xs.take n) + val (ys.take k) ∧
      FSp Tryz.prog 5 151 #[sl bx n c, sl byy k e] n0 [(bx, cU xs), (byy, cU ys)] (sl n0 t t)
        [(bx, some (cU xs)), (byy, some (cU ys))] [cU zs] := by
  have hl1 : (xs.take n ++ List.replicate (max n k + 1 - n) 0).length = max n k + 1 := by rw [List.length_append, List.length_take, List.length_replicate]; omega
  have hv1 : val (xs.take n ++ List.replicate (max n k + 1 - n) 0) = val (xs.take n) := by rw [val_append, val_replicate, Nat.mul_zero, Nat.add_zero]
  have hx1 := val_lt (hlx.take n)
  have hy1 := val_lt (hly.take k)
  have hx2 : val (xs.take n) < 1000000000 ^ max n k := Nat.lt_of_lt_of_le hx1 (pow_le (by rw [List.length_take]; omega))
  have hy2 : val (ys.take k) < 1000000000 ^ max n k := Nat.lt_of_lt_of_le hy1 (pow_le (by rw [List.length_take]; omega))
  obtain ⟨zs, h1, h2, h3, h4⟩ := gain_c 8 7 6 (xs.take n ++ List.replicate (max n k + 1 - n) 0) ys k e (by omega) ((hlx.take n).append (Lim.replicate _)) hly hk (by rw [hl1]; omega) (by rw [hl1]; omega) (by rw [hl1, hv1]; exact sum_lt hx2 hy2)
  rw [hl1] at h1 h4
  have S := plus_o xs ys n c k e hc hk hn hkm zs h1 h4 (Gets.refl _)
  have htl := top_le zs (max n k + 1)
  refine ⟨zs, top zs (max n k + 1), h2, by rw [h1]; exact htl, htl, top_pos zs _, ?_, fsp_flat [bx, byy] [cU xs, cU ys] [cU xs, cU ys] [7] [cU zs] n0 S rfl rfl rfl ?_ ?_ (by omega) ?_ ?_ ?_ (by simp) (by simp) rfl rfl rfl⟩
  · rw [top_val, List.take_of_length_le (by rw [h1]; exact Nat.le_refl _), h3, hv1]
  · simp [hb.2.2.2.2]
  · simp; omega
  · simp [flat, ns_closed]
  · simp [flat, ns_closed]
  · simp [flat, ns_closed, AObj.ro]

end Go.Proofs.YtpbbfgpnoinkjaaGreatDoor
