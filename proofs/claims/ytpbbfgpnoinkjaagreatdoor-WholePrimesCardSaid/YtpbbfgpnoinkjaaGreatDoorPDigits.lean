import Derived.Test.YtpbbfgpnoinkjaaGreatDoorK
import Derived.Test.YtpbbfgpnoinkjaaGreatDoorPNatOf
import Derived.Test.YtpbbfgpnoinkjaaGreatDoorText
import Derived.Test.YtpbbfgpnoinkjaaGreatDoorLF
set_option linter.unusedVariables false
set_option linter.unusedSimpArgs false
set_option maxRecDepth 100000
set_option linter.unusedVariables false
set_option linter.unusedSimpArgs false
namespace Go.Proofs.YtpbbfgpnoinkjaaGreatDoor
open Go Go.AE Seg
theorem dg_z (xs : List Nat) (n c : Nat) (hn : n = 0)  (hr : Gets Tryz.prog 5 ⟨Frame.enter Tryz.prog 148 #[(sl 5 n c)] .normal, [], mkH 6 [(5, (cU xs))]⟩ ⟨Frame.enter Tryz.prog 148 #[(sl 5 n c)] .normal, [], mkH 6 [(5, (cU xs))]⟩) : CSp Tryz.prog 5 148 #[(sl 5 n c)] (mkH 6 [(5, (cU xs))]) (.int .i64 (.ofNat 0)) (mkH 6 [(5, (cU xs))]) :=
  seg_fin hmix_ok (hk := hk0) (draw := dr0) (sc := [(9, .op (.rwB true)), (7, .stay)]) (next := 6) (l := [(5, (cU xs))]) (p := ((((n : Nat) : Int) == (0 : Int)) = true) ∧ True) hk0_ok dr0_ok (by kernel_rfl) ⟨(by simp only [decide_eq_true_eq, decide_eq_false_iff_not, beq_iff_eq, beq_eq_false_iff_ne, bne_iff_ne, bne_eq_false_iff_eq, ne_eq, gt_iff_lt, ge_iff_le] <;> omega), trivial⟩ hr
noncomputable def dg_h_f (xs : List Nat) (n c u t : Nat) (j : List Value) : Frame := ⟨148, List.toArray [(sl 5 n c), undef, (.int .i64 (.ofNat 0)), (.int .i64 ((u : Nat) : Int)), (.int .u32 ((t : Nat) : Int)), (J j 0), (J j 1), (.bool false), (J j 2), (J j 3), (J j 4), (J j 5), (J j 6), (J j 7), (J j 8), (J j 9), (J j 10), (J j 11), (J j 12), (J j 13), (J j 14), (J j 15), (J j 16), (J j 17), undef], [.code (cd Tryz.f148 [1, 1, 1, 0, 1, 0, 0]), .inLoop (cd Tryz.f148 [1, 1, 1, 0, 1, 0, 0]), .inBlock 0, .code (cd Tryz.f148 [1, 1, 1, 1])], [], .run, .normal, none⟩
noncomputable def dg_h_o (xs : List Nat) (n c u t : Nat) : List (Nat × AObj) := [(5, (cU xs))]
noncomputable def dg_h (xs : List Nat) (n c u t : Nat) (j : List Value) : AS := ⟨dg_h_f xs n c u t j, [], mkH 6 (dg_h_o xs n c u t)⟩
theorem dg_in (xs : List Nat) (n c a : Nat) (hn : 0 < n) (hc : n ≤ xs.length) (hm : n < 1099511627776) (hx : (ns .u32 xs)[n - 1]? = some (.int .u32 (a : Nat)))  : Gets Tryz.prog 5 ⟨Frame.enter Tryz.prog 148 #[(sl 5 n c)] .normal, [], mkH 6 [(5, (cU xs))]⟩ (dg_h xs n c ((n - 1) * 9) a [(sl 5 n c), (.int .i64 ((n : Nat) : Int)), (sl 5 n c), (.int .i64 ((n : Nat) : Int)), (.int .i64 (((n - 1) : Nat) : Int)), (.int .i64 ((((n - 1) * 9) : Nat) : Int)), (sl 5 n c), (sl 5 n c), (.int .i64 ((n : Nat) : Int)), (.int .i64 (((n - 1) : Nat) : Int)), (.pointer (some ⟨5,(n - 1),none⟩)), (.int .u32 ((a : Nat) : Int)), undef, undef, undef, undef, undef, undef]) :=
  seg_reach hmix_ok (hk := hk0) (draw := dr0) (sc := [(9, .op (.rwB false)), (7, .op (.rwI (((n - 1) : Nat) : Int))), (0, .op (.rwI ((((n - 1) * 9) : Nat) : Int))), (8, .op (.rwI (((n - 1) : Nat) : Int))), (0, .op (.idx (n - 1))), (0, .op (.ld (.int .u32 ((a : Nat) : Int)))), (4, .stay)]) (fr1 := dg_h_f xs n c ((n - 1) * 9) a [(sl 5 n c), (.int .i64 ((n : Nat) : Int)), (sl 5 n c), (.int .i64 ((n : Nat) : Int)), (.int .i64 (((n - 1) : Nat) : Int)), (.int .i64 ((((n - 1) * 9) : Nat) : Int)), (sl 5 n c), (sl 5 n c), (.int .i64 ((n : Nat) : Int)), (.int .i64 (((n - 1) : Nat) : Int)), (.pointer (some ⟨5,(n - 1),none⟩)), (.int .u32 ((a : Nat) : Int)), undef, undef, undef, undef, undef, undef]) (cs1 := []) (next := 6) (l := dg_h_o xs n c ((n - 1) * 9) a) (p := ((((n : Nat) : Int) == (0 : Int)) = false) ∧ ((IntKind.wrap .i64 (((n : Nat) : Int) - (1 : Int)) = (((n - 1) : Nat) : Int)) ∧ ((IntKind.wrap .i64 ((((n - 1) : Nat) : Int) * (9 : Int)) = ((((n - 1) * 9) : Nat) : Int)) ∧ ((IntKind.wrap .i64 (((n : Nat) : Int) - (1 : Int)) = (((n - 1) : Nat) : Int)) ∧ ((0 ≤ (((n - 1) : Nat) : Int) ∧ (((n - 1) : Nat) : Int) < ((n : Nat) : Int) ∧ 0 + Int.toNat (((n - 1) : Nat) : Int) * 1 = (n - 1)) ∧ ((((ns .u32 xs) : List Value)[(n - 1)]? = some (.int .u32 ((a : Nat) : Int))) ∧ True)))))) hk0_ok dr0_ok (by kernel_rfl) ⟨(by simp only [decide_eq_true_eq, decide_eq_false_iff_not, beq_iff_eq, beq_eq_false_iff_ne, bne_iff_ne, bne_eq_false_iff_eq, ne_eq, gt_iff_lt, ge_iff_le] <;> omega), (by rw [wrap_i64 (by omega) (by omega)] <;> omega), (by rw [wrap_i64 (by omega) (by omega)] <;> omega), (by rw [wrap_i64 (by omega) (by omega)] <;> omega), (by omega), hx, trivial⟩
theorem dg_r (xs : List Nat) (n c u t : Nat) (j : List Value) (ht : 0 < t) (ht2 : t < 1000000000) (hu : u < 70368744177664)  : Gets Tryz.prog 5 (dg_h xs n c u t j) (dg_h xs n c (u + 1) (t / 10) [(J j 0), (J j 1), (J j 2), (J j 3), (J j 4), (J j 5), (J j 6), (J j 7), (J j 8), (J j 9), (J j 10), (J j 11), (.int .u32 ((t : Nat) : Int)), (.bool true), (.int .u32 ((t : Nat) : Int)), (.int .u32 (((t / 10) : Nat) : Int)), (.int .i64 ((u : Nat) : Int)), (.int .i64 (((u + 1) : Nat) : Int))]) :=
  seg_reach hmix_ok (hk := hk0) (draw := dr0) (sc := [(4, .op (.rwB true)), (7, .op (.rwI (((u + 1) : Nat) : Int))), (5, .op (.rwI (((t / 10) : Nat) : Int))), (3, .stay)]) (fr1 := dg_h_f xs n c (u + 1) (t / 10) [(J j 0), (J j 1), (J j 2), (J j 3), (J j 4), (J j 5), (J j 6), (J j 7), (J j 8), (J j 9), (J j 10), (J j 11), (.int .u32 ((t : Nat) : Int)), (.bool true), (.int .u32 ((t : Nat) : Int)), (.int .u32 (((t / 10) : Nat) : Int)), (.int .i64 ((u : Nat) : Int)), (.int .i64 (((u + 1) : Nat) : Int))]) (cs1 := []) (next := 6) (l := dg_h_o xs n c (u + 1) (t / 10)) (p := (decide (((t : Nat) : Int) > (0 : Int)) = true) ∧ ((IntKind.wrap .i64 (((u : Nat) : Int) + (1 : Int)) = (((u + 1) : Nat) : Int)) ∧ ((IntKind.wrap .u32 (Int.tdiv ((t : Nat) : Int) (10 : Int)) = (((t / 10) : Nat) : Int)) ∧ True))) hk0_ok dr0_ok (by kernel_rfl) ⟨(by simp only [decide_eq_true_eq, decide_eq_false_iff_not, beq_iff_eq, beq_eq_false_iff_ne, bne_iff_ne, bne_eq_false_iff_eq, ne_eq, gt_iff_lt, ge_iff_le] <;> omega), (by rw [wrap_i64 (by omega) (by omega)] <;> omega), (by rw [Int.tdiv_eq_ediv_of_nonneg (by omega), wrap_u32 (by omega) (by omega)] <;> omega), trivial⟩
theorem dg_o (xs : List Nat) (n c u t : Nat) (j : List Value) (ht : t = 0)  (hr : Gets Tryz.prog 5 ⟨Frame.enter Tryz.prog 148 #[(sl 5 n c)] .normal, [], mkH 6 [(5, (cU xs))]⟩ (dg_h xs n c u t j)) : CSp Tryz.prog 5 148 #[(sl 5 n c)] (mkH 6 [(5, (cU xs))]) (.int .i64 ((u : Nat) : Int)) (mkH 6 [(5, (cU xs))]) :=
  seg_fin hmix_ok (hk := hk0) (draw := dr0) (sc := [(4, .op (.rwB false)), (9, .stay)]) (next := 6) (l := [(5, (cU xs))]) (p := (decide (((t : Nat) : Int) > (0 : Int)) = false) ∧ True) hk0_ok dr0_ok (by kernel_rfl) ⟨(by simp only [decide_eq_true_eq, decide_eq_false_iff_not, beq_iff_eq, beq_eq_false_iff_ne, bne_iff_ne, bne_eq_false_iff_eq, ne_eq, gt_iff_lt, ge_iff_le] <;> omega), trivial⟩ hr

theorem dg_loop {xs : List Nat} {n c : Nat} : ∀ (m t u : Nat) (j : List Value), t ≤ m → t < 1000000000 → u + ndig t < 70368744177664 → Gets Tryz.prog 5 ⟨Frame.enter Tryz.prog 148 #[(sl 5 n c)] .normal, [], mkH 6 [(5, (cU xs))]⟩ (dg_h xs n c u t j) →
    CSp Tryz.prog 5 148 #[(sl 5 n c)] (mkH 6 [(5, (cU xs))]) (.int .i64 ((u + ndig t : Nat) : Int)) (mkH 6 [(5, (cU xs))]) := by
  intro m
  induction m with
  | zero =>
    intro t u j hm ht hu hr
    have h0 : t = 0 := by omega
    subst h0
    rw [ndig_zero, Nat.add_zero]
    exact dg_o xs n c u 0 j rfl hr
  | succ m ih =>
    intro t u j hm ht hu hr
    rcases Nat.eq_zero_or_pos t with h0 | h0
    · subst h0
      rw [ndig_zero, Nat.add_zero]
      exact dg_o xs n c u 0 j rfl hr
    · rw [ndig_pos h0] at hu ⊢
      have r := dg_r xs n c u t j h0 ht (by omega)
      have := ih (t / 10) (u + 1) _ (by omega) (by omega) (by omega) (hr.trans r)
      rw [show u + (ndig (t / 10) + 1) = u + 1 + ndig (t / 10) by omega]
      exact this
/-- How many digits a number has. -/
theorem dg_c (n0 b : Nat) (xs : List Nat) (n c : Nat) (hb : 5 ≤ b ∧ b < n0) (hl : Lim xs) (hc : n ≤ xs.length) (hm : n < 1099511627776) :
    FSp Tryz.prog 5 148 #[sl b n c] n0 [(b, cU xs)] (.int .i64 ((digN xs n : Nat) : Int)) [(b, some (cU xs))] [] := by
  have S : CSp Tryz.prog 5 148 #[(sl 5 n c)] (mkH 6 [(5, (cU xs))]) (.int .i64 ((digN xs n : Nat) : Int)) (mkH 6 [(5, (cU xs))]) := by
    unfold digN
    by_cases hn : n = 0
    · rw [if_pos hn]
      exact dg_z xs n c hn (Gets.refl _)
    · rw [if_neg hn]
      have hlt := hl.get (n - 1)
      have h9 := ndig_le hlt
      exact dg_loop _ _ _ _ (Nat.le_refl _) hlt (by omega) (dg_in xs n c (xs.getD (n - 1) 0) (by omega) hc hm (ns_get (by omega)))
  exact fsp_flat [b] [cU xs] [cU xs] [] [] n0 S rfl rfl rfl (by simp) (by simp; omega) (by omega) (by simp [flat, ns_closed]) (by simp [flat, ns_closed]) rfl (by simp) (by simp) rfl rfl rfl

end Go.Proofs.YtpbbfgpnoinkjaaGreatDoor
set_option maxRecDepth 100000
set_option linter.unusedVariables false
set_option linter.unusedSimpArgs false
namespace Go.Proofs.YtpbbfgpnoinkjaaGreatDoor
open Go Go.AE Seg

theorem digit_ne : ∀ d, d < 10 → ((dstr [d]).toList == (Seg.bts [45]).toList) = false := by decide +kernel
theorem mstr_size (ds : List Nat) : (mstr ds).size = ds.length + 1 := by simp [mstr, ByteArray.size]
theorem mstr_cut (ds : List Nat) : (mstr ds).extract 0 1 = Seg.bts [45] := by
  apply ByteArray.ext
  simp only [ByteArray.data_extract, mstr, Seg.bts]
  apply Array.ext'
  rw [Array.toList_extract, List.extract_eq_take_drop]
  simp
theorem mstr_rest (ds : List Nat) (n : Nat) (hn : n = ds.length + 1) : (mstr ds).extract 1 n = dstr ds := by
  apply ByteArray.ext
  simp only [ByteArray.data_extract, mstr, dstr]
  apply Array.ext'
  rw [Array.toList_extract, List.extract_eq_take_drop, hn, List.drop_succ_cons, List.drop_zero, Nat.add_sub_cancel]
  exact List.take_of_length_le (by rw [List.length_map]; exact Nat.le_refl _)
theorem mstr_cat (ds : List Nat) : Seg.bts [45] ++ dstr ds = mstr ds := by
  apply ByteArray.ext
  simp [ByteArray.data_append, mstr, dstr, Seg.bts]
theorem dstr_cut {ds : List Nat} (h : 0 < ds.length) : (dstr ds).extract 0 1 = dstr [ds.getD 0 0] := by
  rw [dstr_extract]
  cases ds with
  | nil => simp at h
  | cons d ds => rfl

theorem so_p (ds : List Nat) (d : Nat) (hd : d < 10) (h0 : 0 < (dstr ds).size) (hx : (dstr ds).extract 0 1 = dstr [d])  (hr : Gets Tryz.prog 5 ⟨Frame.enter Tryz.prog 128 #[(.string (dstr ds))] .normal, [], mkH 5 []⟩ ⟨Frame.enter Tryz.prog 128 #[(.string (dstr ds))] .normal, [], mkH 5 []⟩) : CSp Tryz.prog 5 128 #[(.string (dstr ds))] (mkH 5 []) (.tuple #[(.bool false),(.string (dstr ds))]) (mkH 5 []) :=
  seg_fin hmix_ok (hk := hk0) (draw := dr0) (sc := [(40, .op (.rwB true)), (4, .op (.sslc (dstr [d]))), (1, .op (.rwB false)), (37, .stay)]) (next := 5) (l := []) (p := (decide ((((dstr ds).size : Nat) : Int) ≥ (1 : Int)) = true) ∧ ((0 ≤ (0 : Int) ∧ (0 : Int) ≤ (1 : Int) ∧ (1 : Int) ≤ (((dstr ds).size : Nat) : Int) ∧ (dstr ds).extract (Int.toNat (0 : Int)) (Int.toNat (1 : Int)) = (dstr [d])) ∧ ((((dstr [d]).toList == (bts [45]).toList) = false) ∧ True))) hk0_ok dr0_ok (by kernel_rfl) ⟨(by rw [decide_eq_true_eq]; omega), ⟨by omega, by omega, by omega, hx⟩, (digit_ne d hd), trivial⟩ hr
theorem so_m (ds : List Nat) (hs : (mstr ds).size = ds.length + 1)  (hr : Gets Tryz.prog 5 ⟨Frame.enter Tryz.prog 128 #[(.string (mstr ds))] .normal, [], mkH 5 []⟩ ⟨Frame.enter Tryz.prog 128 #[(.string (mstr ds))] .normal, [], mkH 5 []⟩) : CSp Tryz.prog 5 128 #[(.string (mstr ds))] (mkH 5 []) (.tuple #[(.bool true),(.string (dstr ds))]) (mkH 5 []) :=
  seg_fin hmix_ok (hk := hk0) (draw := dr0) (sc := [(40, .op (.rwB true)), (4, .op (.sslc (bts [45]))), (1, .op (.rwB true)), (14, .op (.sslc (dstr ds))), (26, .stay)]) (next := 5) (l := []) (p := (decide ((((mstr ds).size : Nat) : Int) ≥ (1 : Int)) = true) ∧ ((0 ≤ (0 : Int) ∧ (0 : Int) ≤ (1 : Int) ∧ (1 : Int) ≤ (((mstr ds).size : Nat) : Int) ∧ (mstr ds).extract (Int.toNat (0 : Int)) (Int.toNat (1 : Int)) = (bts [45])) ∧ ((((bts [45]).toList == (bts [45]).toList) = true) ∧ ((0 ≤ (1 : Int) ∧ (1 : Int) ≤ (((mstr ds).size : Nat) : Int) ∧ (((mstr ds).size : Nat) : Int) ≤ (((mstr ds).size : Nat) : Int) ∧ (mstr ds).extract (Int.toNat (1 : Int)) (Int.toNat (((mstr ds).size : Nat) : Int)) = (dstr ds)) ∧ True)))) hk0_ok dr0_ok (by kernel_rfl) ⟨(by rw [decide_eq_true_eq]; omega), ⟨by omega, by omega, by omega, mstr_cut ds⟩, (by decide +kernel), ⟨by omega, by omega, by omega, mstr_rest ds _ hs⟩, trivial⟩ hr

theorem so_pc (n0 : Nat) (ds : List Nat) (hG : 5 ≤ n0) (hd : Dig ds) (h0 : 0 < ds.length) : FSp Tryz.prog 5 128 #[.string (dstr ds)] n0 [] (.tuple #[.bool false, .string (dstr ds)]) [] [] :=
  fsp_flat [] [] [] [] [] n0 (so_p ds _ (hd.get 0) (by rw [dstr_size]; exact h0) (dstr_cut h0) (Gets.refl _)) rfl rfl rfl (by simp) (by simp) hG rfl rfl rfl (by simp) (by simp) rfl rfl rfl
theorem so_mc (n0 : Nat) (ds : List Nat) (hG : 5 ≤ n0) : FSp Tryz.prog 5 128 #[.string (mstr ds)] n0 [] (.tuple #[.bool true, .string (dstr ds)]) [] [] :=
  fsp_flat [] [] [] [] [] n0 (so_m ds (mstr_size ds) (Gets.refl _)) rfl rfl rfl (by simp) (by simp) hG rfl rfl rfl (by simp) (by simp) rfl rfl rfl

theorem nu_p (ds : List Nat) (hd : Dig ds) (h0 : 0 < ds.length) (zs : List Nat) (t : Nat) (hc1 : FSp Tryz.prog 5 147 #[(.string (dstr ds))] 6 [] (sl 6 t t) [] [(cU zs)]) (hr : Gets Tryz.prog 5 ⟨Frame.enter Tryz.prog 111 #[(.string (dstr ds))] .normal, [], mkH 5 []⟩ ⟨Frame.enter Tryz.prog 111 #[(.string (dstr ds))] .normal, [], mkH 5 []⟩) : CSp Tryz.prog 5 111 #[(.string (dstr ds))] (mkH 5 []) (.agg #[(.bool false),(sl 6 t t)]) (mkH 8 [(6, (cU zs))]) :=
  seg_fin hmix_ok (hk := hk0) (draw := dr0) (sc := [(7, .call [] (.tuple #[(.bool false),(.string (dstr ds))]) [] []), (10, .call [] (sl 6 t t) [] [(cU zs)]), (22, .stay)]) (next := 8) (l := [(6, (cU zs))]) (p := (FSp Tryz.prog 5 128 #[(.string (dstr ds))] 6 [] (.tuple #[(.bool false),(.string (dstr ds))]) [] []) ∧ ((FSp Tryz.prog 5 147 #[(.string (dstr ds))] 6 [] (sl 6 t t) [] [(cU zs)]) ∧ True)) hk0_ok dr0_ok (by kernel_rfl) ⟨(so_pc 6 ds (by omega) hd h0), hc1, trivial⟩ hr
theorem nu_m (ds : List Nat) (zs : List Nat) (t : Nat) (ht : 0 < t) (hc1 : FSp Tryz.prog 5 147 #[(.string (dstr ds))] 6 [] (sl 6 t t) [] [(cU zs)]) (hr : Gets Tryz.prog 5 ⟨Frame.enter Tryz.prog 111 #[(.string (mstr ds))] .normal, [], mkH 5 []⟩ ⟨Frame.enter Tryz.prog 111 #[(.string (mstr ds))] .normal, [], mkH 5 []⟩) : CSp Tryz.prog 5 111 #[(.string (mstr ds))] (mkH 5 []) (.agg #[(.bool true),(sl 6 t t)]) (mkH 8 [(6, (cU zs))]) :=
  seg_fin hmix_ok (hk := hk0) (draw := dr0) (sc := [(7, .call [] (.tuple #[(.bool true),(.string (dstr ds))]) [] []), (10, .call [] (sl 6 t t) [] [(cU zs)]), (11, .op (.rwB true)), (10, .stay)]) (next := 8) (l := [(6, (cU zs))]) (p := (FSp Tryz.prog 5 128 #[(.string (mstr ds))] 6 [] (.tuple #[(.bool true),(.string (dstr ds))]) [] []) ∧ ((FSp Tryz.prog 5 147 #[(.string (dstr ds))] 6 [] (sl 6 t t) [] [(cU zs)]) ∧ ((decide (((t : Nat) : Int) > (0 : Int)) = true) ∧ True))) hk0_ok dr0_ok (by kernel_rfl) ⟨(so_mc 6 ds (by omega)), hc1, (by simp only [decide_eq_true_eq, decide_eq_false_iff_not, beq_iff_eq, beq_eq_false_iff_ne, bne_iff_ne, bne_eq_false_iff_eq, ne_eq, gt_iff_lt, ge_iff_le] <;> omega), trivial⟩ hr

/-- numberOf returns the number of a text. -/
theorem nu_pc (n0 : Nat) (ds : List Nat) (hG : 5 ≤ n0) (hd : Dig ds) (h0 : 0 < ds.length) (hL : ds.length < 549755813888) :
    ∃ zs t, Lim zs ∧ t ≤ zs.length ∧ t ≤ (ds.length + 9 - 1) / 9 ∧ (0 < t → zs.getD (t - 1) 0 ≠ 0) ∧ val (zs.take t) = dval ds ∧
      FSp Tryz.prog 5 111 #[.string (dstr ds)] n0 [] (.agg #[.bool false, sl n0 t t]) [] [cU zs] := by
  obtain ⟨zs, t, h1, h2, h3, h4, h5, h6⟩ := no_c 6 ds (by omega) hd hL
  exact ⟨zs, t, h1, h2, h3, h4, h5, fsp_flat [] [] [] [6] [cU zs] n0 (nu_p ds hd h0 zs t h6 (Gets.refl _)) rfl rfl rfl (by simp) (by simp) hG rfl rfl (by simp [flat, ns_closed, AObj.ro]) (by simp) (by simp) rfl rfl rfl⟩


/-- numberOf returns the number of a text. -/
theorem nu_mc (n0 : Nat) (ds : List Nat) (hG : 5 ≤ n0) (hd : Dig ds) (h0 : 0 < dval ds) (hL : ds.length < 549755813888) :
    ∃ zs t, Lim zs ∧ t ≤ zs.length ∧ t ≤ (ds.length + 9 - 1) / 9 ∧ (0 < t → zs.getD (t - 1) 0 ≠ 0) ∧ val (zs.take t) = dval ds ∧
      FSp Tryz.prog 5 111 #[.string (mstr ds)] n0 [] (.agg #[.bool true, sl n0 t t]) [] [cU zs] := by
  obtain ⟨zs, t, h1, h2, h3, h4, h5, h6⟩ := no_c 6 ds (by omega) hd hL
  have ht : 0 < t := by
    rcases Nat.eq_zero_or_pos t with q | q
    · rw [q, List.take_zero] at h5
      have h7 : val [] = 0 := rfl
      omega
    · exact q
  exact ⟨zs, t, h1, h2, h3, h4, h5, fsp_flat [] [] [] [6] [cU zs] n0 (nu_m ds zs t ht h6 (Gets.refl _)) rfl rfl rfl (by simp) (by simp) hG rfl rfl (by simp [flat, ns_closed, AObj.ro]) (by simp) (by simp) rfl rfl rfl⟩

theorem nt_p (xs : List Nat) (n c : Nat) (hlx : Lim xs) (hc : n ≤ xs.length) (hm : n < 1099511627776) (hx : 0 < n → xs.getD (n - 1) 0 ≠ 0) (l : Nat) (hl : l ≤ 400) (hc1 : FSp Tryz.prog 5 148 #[(sl 5 n c)] 7 [(5,(cU xs))] (.int .i64 ((l : Nat) : Int)) [(5,some (cU xs))] []) (hr : Gets Tryz.prog 5 ⟨Frame.enter Tryz.prog 112 #[(.agg #[(.bool false),(sl 5 n c)])] .normal, [], mkH 6 [(1, gob1), (5, (cU xs))]⟩ ⟨Frame.enter Tryz.prog 112 #[(.agg #[(.bool false),(sl 5 n c)])] .normal, [], mkH 6 [(1, gob1), (5, (cU xs))]⟩) : CSp Tryz.prog 5 112 #[(.agg #[(.bool false),(sl 5 n c)])] (mkH 6 [(1, gob1), (5, (cU xs))]) (.string (dstr (digs (val (xs.take n))))) (mkH 7 [(1, gob1), (5, (cU xs))]) :=
  seg_fin hmix_ok (hk := hk0) (draw := dr0) (sc := [(10, .call [5] (.int .i64 ((l : Nat) : Int)) [(5,some (cU xs))] []), (0, .op (.rwB false)), (27, .call [1,5] (.string (dstr (digs (val (xs.take n))))) [(1,some gob1),(5,some (cU xs))] []), (3, .stay)]) (next := 7) (l := [(1, gob1), (5, (cU xs))]) (p := (FSp Tryz.prog 5 148 #[(sl 5 n c)] 7 [(5,(cU xs))] (.int .i64 ((l : Nat) : Int)) [(5,some (cU xs))] []) ∧ ((decide (((l : Nat) : Int) > (400 : Int)) = false) ∧ ((FSp Tryz.prog 5 149 #[(sl 5 n c)] 7 [(1,gob1),(5,(cU xs))] (.string (dstr (digs (val (xs.take n))))) [(1,some gob1),(5,some (cU xs))] []) ∧ True))) hk0_ok dr0_ok (by kernel_rfl) ⟨hc1, (by simp only [decide_eq_true_eq, decide_eq_false_iff_not, beq_iff_eq, beq_eq_false_iff_ne, bne_iff_ne, bne_eq_false_iff_eq, ne_eq, gt_iff_lt, ge_iff_le] <;> omega), (tx_c 7 5 xs n c (by omega) hlx hc hm hx), trivial⟩ hr

theorem nt_pc (n0 b : Nat) (xs : List Nat) (n c : Nat) (hb : 5 ≤ b ∧ b < n0) (hlx : Lim xs) (hc : n ≤ xs.length) (hm : n < 1099511627776) (hx : 0 < n → xs.getD (n - 1) 0 ≠ 0) (hd : ndig (val (xs.take n)) ≤ 400) :
    FSp Tryz.prog 5 112 #[.agg #[.bool false, sl b n c]] n0 [(1, gob1), (b, cU xs)] (.string (dstr (digs (val (xs.take n)))))
      [(1, some gob1), (b, some (cU xs))] [] := by
  exact fsp_glob [(1, gob1)] [b] [cU xs] [cU xs] [] [] n0 (nt_p xs n c hlx hc hm hx _ hd (by have q := dg_c 7 5 xs n c (by omega) hlx hc hm; rw [digN_eq hlx hc hx] at q; exact q) (Gets.refl _)) (by decide +kernel) (by rfl) rfl (by rfl) rfl (by simp) (by simp; omega) (by omega) (by simp [flat, ns_closed]) (by simp [flat, ns_closed]) rfl (by simp) (by simp) rfl rfl rfl

theorem nt_m (xs : List Nat) (n c : Nat) (hlx : Lim xs) (hc : n ≤ xs.length) (hm : n < 1099511627776) (hx : 0 < n → xs.getD (n - 1) 0 ≠ 0) (hz : (dstr (digs (val (xs.take n)))).size < 1099511627776) (l : Nat) (hl : l ≤ 400) (hc1 : FSp Tryz.prog 5 148 #[(sl 5 n c)] 7 [(5,(cU xs))] (.int .i64 ((l : Nat) : Int)) [(5,some (cU xs))] []) (hr : Gets Tryz.prog 5 ⟨Frame.enter Tryz.prog 112 #[(.agg #[(.bool true),(sl 5 n c)])] .normal, [], mkH 6 [(1, gob1), (5, (cU xs))]⟩ ⟨Frame.enter Tryz.prog 112 #[(.agg #[(.bool true),(sl 5 n c)])] .normal, [], mkH 6 [(1, gob1), (5, (cU xs))]⟩) : CSp Tryz.prog 5 112 #[(.agg #[(.bool true),(sl 5 n c)])] (mkH 6 [(1, gob1), (5, (cU xs))]) (.string (mstr (digs (val (xs.take n))))) (mkH 7 [(1, gob1), (5, (cU xs))]) :=
  seg_fin hmix_ok (hk := hk0) (draw := dr0) (sc := [(10, .call [5] (.int .i64 ((l : Nat) : Int)) [(5,some (cU xs))] []), (0, .op (.rwB false)), (26, .call [1,5] (.string (dstr (digs (val (xs.take n))))) [(1,some gob1),(5,some (cU xs))] []), (0, .op (.cat (mstr (digs (val (xs.take n)))))), (3, .stay)]) (next := 7) (l := [(1, gob1), (5, (cU xs))]) (p := (FSp Tryz.prog 5 148 #[(sl 5 n c)] 7 [(5,(cU xs))] (.int .i64 ((l : Nat) : Int)) [(5,some (cU xs))] []) ∧ ((decide (((l : Nat) : Int) > (400 : Int)) = false) ∧ ((FSp Tryz.prog 5 149 #[(sl 5 n c)] 7 [(1,gob1),(5,(cU xs))] (.string (dstr (digs (val (xs.take n))))) [(1,some gob1),(5,some (cU xs))] []) ∧ ((((((bts [45]).size + (dstr (digs (val (xs.take n)))).size : Nat)) : Int) ≤ 9223372036854775807 ∧ (bts [45]) ++ (dstr (digs (val (xs.take n)))) = (mstr (digs (val (xs.take n))))) ∧ True)))) hk0_ok dr0_ok (by kernel_rfl) ⟨hc1, (by simp only [decide_eq_true_eq, decide_eq_false_iff_not, beq_iff_eq, beq_eq_false_iff_ne, bne_iff_ne, bne_eq_false_iff_eq, ne_eq, gt_iff_lt, ge_iff_le] <;> omega), (tx_c 7 5 xs n c (by omega) hlx hc hm hx), ⟨by rw [show (Seg.bts [45]).size = 1 from rfl]; omega, mstr_cat _⟩, trivial⟩ hr

theorem nt_mc (n0 b : Nat) (xs : List Nat) (n c : Nat) (hb : 5 ≤ b ∧ b < n0) (hlx : Lim xs) (hc : n ≤ xs.length) (hm : n < 1099511627776) (hx : 0 < n → xs.getD (n - 1) 0 ≠ 0) (hd : ndig (val (xs.take n)) ≤ 400) :
    FSp Tryz.prog 5 112 #[.agg #[.bool true, sl b n c]] n0 [(1, gob1), (b, cU xs)] (.string (mstr (digs (val (xs.take n)))))
      [(1, some gob1), (b, some (cU xs))] [] := by
  have hz : (dstr (digs (val (xs.take n)))).size < 1099511627776 := by
    rw [dstr_size]
    rcases Nat.eq_zero_or_pos (val (xs.take n)) with q | q
    · rw [q, digs_small (by decide)]; decide
    · rw [digs_len _ q]; omega
  exact fsp_glob [(1, gob1)] [b] [cU xs] [cU xs] [] [] n0 (nt_m xs n c hlx hc hm hx hz _ hd (by have q := dg_c 7 5 xs n c (by omega) hlx hc hm; rw [digN_eq hlx hc hx] at q; exact q) (Gets.refl _)) (by decide +kernel) (by rfl) rfl (by rfl) rfl (by simp) (by simp; omega) (by omega) (by simp [flat, ns_closed]) (by simp [flat, ns_closed]) rfl (by simp) (by simp) rfl rfl rfl

end Go.Proofs.YtpbbfgpnoinkjaaGreatDoor
