import Derived.Test.YtpbbfgpnoinkjaaGreatDoorPDec
import Derived.Test.YtpbbfgpnoinkjaaGreatDoorWf
set_option linter.unusedVariables false
set_option linter.unusedSimpArgs false
set_option maxRecDepth 100000
set_option linter.unusedVariables false
set_option linter.unusedSimpArgs false
namespace Go.Proofs.YtpbbfgpnoinkjaaGreatDoor
open Go Go.AE Seg

theorem mstr_get0 (ds : List Nat) : (mstr ds)[0]? = some (UInt8.ofNat 45) := by
  have h : 0 < (mstr ds).size := by rw [mstr_len]; omega
  rw [getElem?_pos (mstr ds) 0 h]
  rfl
theorem byte_no45 {d : Nat} (h : d < 10) : ((((UInt8.ofNat (48 + d)).toNat : Nat) : Int) == (45 : Int)) = false := by
  rw [byte_nat h, beq_eq_false_iff_ne]; omega
theorem byte_45 : ((((UInt8.ofNat 45).toNat : Nat) : Int) == (45 : Int)) = true := by decide
theorem byte_ge {d : Nat} (h : d < 10) : decide ((((UInt8.ofNat (48 + d)).toNat : Nat) : Int) < (48 : Int)) = false := by
  rw [byte_nat h, decide_eq_false_iff_not]; omega
theorem byte_le {d : Nat} (h : d < 10) : decide ((((UInt8.ofNat (48 + d)).toNat : Nat) : Int) > (57 : Int)) = false := by
  rw [byte_nat h, decide_eq_false_iff_not]; omega
theorem byte_sub {d : Nat} (h : d < 10) : IntKind.wrap .u8 ((((UInt8.ofNat (48 + d)).toNat : Nat) : Int) - (48 : Int)) = ((d : Nat) : Int) := by
  rw [byte_nat h]
  simp [IntKind.wrap, IntKind.signed, IntKind.bits]
  omega
theorem at_ne {a b : List UInt8} (i : Nat) (h : a[i]? ≠ b[i]?) : (!(a == b)) = true := by
  rw [Bool.not_eq_true', beq_eq_false_iff_ne]
  intro q
  exact h (by rw [q])
theorem byte_inj {d k : Nat} (h : d < 10) (hk : k < 256) (hne : 48 + d ≠ k) : UInt8.ofNat (48 + d) ≠ UInt8.ofNat k := by
  intro q
  have := congrArg UInt8.toNat q
  rw [byte_nat h, UInt8.toNat_ofNat'] at this
  omega
theorem dstr_ne_m0 {ds : List Nat} (hd : Dig ds) (h0 : 0 < ds.length) : (!((dstr ds).toList == (Seg.bts [45, 48]).toList)) = true := by
  rw [ByteArray.toList_eq, ByteArray.toList_eq]
  cases ds with
  | nil => simp at h0
  | cons d ds =>
    refine at_ne 0 fun q => ?_
    have q : some (UInt8.ofNat (48 + d)) = some (UInt8.ofNat 45) := q
    injection q with q
    exact byte_inj (hd d (List.mem_cons_self ..)) (by decide) (by omega) q
theorem mstr_ne_m0 {ds : List Nat} (hd : Dig ds) (h0 : 0 < ds.length) (h1 : ds.getD 0 0 ≠ 0) : (!((mstr ds).toList == (Seg.bts [45, 48]).toList)) = true := by
  rw [ByteArray.toList_eq, ByteArray.toList_eq]
  cases ds with
  | nil => simp at h0
  | cons d ds =>
    have h1' : d ≠ 0 := h1
    refine at_ne 1 fun q => ?_
    have q : some (UInt8.ofNat (48 + d)) = some (UInt8.ofNat 48) := q
    injection q with q
    exact byte_inj (hd d (List.mem_cons_self ..)) (by decide) (by omega) q

theorem ne_p (ds : List Nat) (d : Nat) (hd : d < 10) (h0 : 0 < (dstr ds).size) (hx : (dstr ds)[0]? = some (UInt8.ofNat (48 + d)))  (hr : Gets Tryz.prog 5 ⟨Frame.enter Tryz.prog 44 #[(.string (dstr ds))] .normal, [], mkH 5 []⟩ ⟨Frame.enter Tryz.prog 44 #[(.string (dstr ds))] .normal, [], mkH 5 []⟩) : CSp Tryz.prog 5 44 #[(.string (dstr ds))] (mkH 5 []) (.bool false) (mkH 5 []) :=
  seg_fin hmix_ok (hk := hk0) (draw := dr0) (sc := [(8, .op (.rwB true)), (2, .op (.sidx (UInt8.ofNat (48 + d)))), (0, .op (.rwB false)), (4, .stay)]) (next := 5) (l := []) (p := (decide ((((dstr ds).size : Nat) : Int) > (0 : Int)) = true) ∧ ((0 ≤ (0 : Int) ∧ (dstr ds)[Int.toNat (0 : Int)]? = some (UInt8.ofNat (48 + d))) ∧ ((((((UInt8.ofNat (48 + d)).toNat : Nat) : Int) == (45 : Int)) = false) ∧ True))) hk0_ok dr0_ok (by kernel_rfl) ⟨(by simp only [decide_eq_true_eq, decide_eq_false_iff_not, beq_iff_eq, beq_eq_false_iff_ne, bne_iff_ne, bne_eq_false_iff_eq, ne_eq, gt_iff_lt, ge_iff_le] <;> omega), ⟨by omega, hx⟩, (byte_no45 hd), trivial⟩ hr

theorem ne_pc (n0 : Nat) (ds : List Nat) (hG : 5 ≤ n0) (hd : Dig ds) (h0 : 0 < ds.length) : FSp Tryz.prog 5 44 #[.string (dstr ds)] n0 [] (.bool false) [] [] :=
  fsp_flat [] [] [] [] [] n0 (ne_p ds _ (hd.get 0) (by rw [dstr_size]; exact h0) (dstr_get h0) (Gets.refl _)) rfl rfl rfl (by simp) (by simp) hG rfl rfl rfl (by simp) (by simp) rfl rfl rfl

theorem ne_m (ds : List Nat) (h0 : 0 < (mstr ds).size)  (hr : Gets Tryz.prog 5 ⟨Frame.enter Tryz.prog 44 #[(.string (mstr ds))] .normal, [], mkH 5 []⟩ ⟨Frame.enter Tryz.prog 44 #[(.string (mstr ds))] .normal, [], mkH 5 []⟩) : CSp Tryz.prog 5 44 #[(.string (mstr ds))] (mkH 5 []) (.bool true) (mkH 5 []) :=
  seg_fin hmix_ok (hk := hk0) (draw := dr0) (sc := [(8, .op (.rwB true)), (2, .op (.sidx (UInt8.ofNat 45))), (0, .op (.rwB true)), (4, .stay)]) (next := 5) (l := []) (p := (decide ((((mstr ds).size : Nat) : Int) > (0 : Int)) = true) ∧ ((0 ≤ (0 : Int) ∧ (mstr ds)[Int.toNat (0 : Int)]? = some (UInt8.ofNat 45)) ∧ ((((((UInt8.ofNat 45).toNat : Nat) : Int) == (45 : Int)) = true) ∧ True))) hk0_ok dr0_ok (by kernel_rfl) ⟨(by simp only [decide_eq_true_eq, decide_eq_false_iff_not, beq_iff_eq, beq_eq_false_iff_ne, bne_iff_ne, bne_eq_false_iff_eq, ne_eq, gt_iff_lt, ge_iff_le] <;> omega), ⟨by omega, mstr_get0 ds⟩, byte_45, trivial⟩ hr

theorem ne_mc (n0 : Nat) (ds : List Nat) (hG : 5 ≤ n0) : FSp Tryz.prog 5 44 #[.string (mstr ds)] n0 [] (.bool true) [] [] :=
  fsp_flat [] [] [] [] [] n0 (ne_m ds (by rw [mstr_len]; omega) (Gets.refl _)) rfl rfl rfl (by simp) (by simp) hG rfl rfl rfl (by simp) (by simp) rfl rfl rfl

theorem ab_p (ds : List Nat) (hd : Dig ds) (h0 : 0 < ds.length)  (hr : Gets Tryz.prog 5 ⟨Frame.enter Tryz.prog 43 #[(.string (dstr ds))] .normal, [], mkH 5 []⟩ ⟨Frame.enter Tryz.prog 43 #[(.string (dstr ds))] .normal, [], mkH 5 []⟩) : CSp Tryz.prog 5 43 #[(.string (dstr ds))] (mkH 5 []) (.string (dstr ds)) (mkH 5 []) :=
  seg_fin hmix_ok (hk := hk0) (draw := dr0) (sc := [(8, .call [] (.bool false) [] []), (9, .stay)]) (next := 5) (l := []) (p := (FSp Tryz.prog 5 44 #[(.string (dstr ds))] 5 [] (.bool false) [] []) ∧ True) hk0_ok dr0_ok (by kernel_rfl) ⟨(ne_pc 5 ds (by omega) hd h0), trivial⟩ hr
theorem ab_m (ds : List Nat) (hs : (mstr ds).size = ds.length + 1)  (hr : Gets Tryz.prog 5 ⟨Frame.enter Tryz.prog 43 #[(.string (mstr ds))] .normal, [], mkH 5 []⟩ ⟨Frame.enter Tryz.prog 43 #[(.string (mstr ds))] .normal, [], mkH 5 []⟩) : CSp Tryz.prog 5 43 #[(.string (mstr ds))] (mkH 5 []) (.string (dstr ds)) (mkH 5 []) :=
  seg_fin hmix_ok (hk := hk0) (draw := dr0) (sc := [(8, .call [] (.bool true) [] []), (5, .op (.sslc (dstr ds))), (3, .stay)]) (next := 5) (l := []) (p := (FSp Tryz.prog 5 44 #[(.string (mstr ds))] 5 [] (.bool true) [] []) ∧ ((0 ≤ (1 : Int) ∧ (1 : Int) ≤ (((mstr ds).size : Nat) : Int) ∧ (((mstr ds).size : Nat) : Int) ≤ (((mstr ds).size : Nat) : Int) ∧ (mstr ds).extract (Int.toNat (1 : Int)) (Int.toNat (((mstr ds).size : Nat) : Int)) = (dstr ds)) ∧ True)) hk0_ok dr0_ok (by kernel_rfl) ⟨(ne_mc 5 ds (by omega)), ⟨by omega, by omega, by omega, mstr_rest ds _ hs⟩, trivial⟩ hr

theorem ab_pc (n0 : Nat) (ds : List Nat) (hG : 5 ≤ n0) (hd : Dig ds) (h0 : 0 < ds.length) : FSp Tryz.prog 5 43 #[.string (dstr ds)] n0 [] (.string (dstr ds)) [] [] :=
  fsp_flat [] [] [] [] [] n0 (ab_p ds hd h0 (Gets.refl _)) rfl rfl rfl (by simp) (by simp) hG rfl rfl rfl (by simp) (by simp) rfl rfl rfl
theorem ab_mc (n0 : Nat) (ds : List Nat) (hG : 5 ≤ n0) : FSp Tryz.prog 5 43 #[.string (mstr ds)] n0 [] (.string (dstr ds)) [] [] :=
  fsp_flat [] [] [] [] [] n0 (ab_m ds (mstr_len ds) (Gets.refl _)) rfl rfl rfl (by simp) (by simp) hG rfl rfl rfl (by simp) (by simp) rfl rfl rfl

noncomputable def rdg_h_f (ds : List Nat) (i : Nat) (jc : List Value) (j : List Value) : Frame := ⟨143, List.toArray [(.string (dstr ds)), undef, (J j 0), (.int .i64 ((i : Nat) : Int)), (J j 1), (J j 2), (.bool false), (.bool false), (J j 3), (J j 4), (J jc 0), (J jc 1), (J jc 2), (J jc 3), (J jc 4), (.bool false), (.bool false), (J j 5), (J j 6), (J j 7), (J j 8), (J j 9), (J j 10), (J j 11), (J j 12), (J j 13), (J j 14), (J j 15), (J j 16), (J j 17), (J j 18), (J j 19), (J j 20)], [.code (cd Tryz.f143 [1, 1, 0, 1, 0, 0]), .inLoop (cd Tryz.f143 [1, 1, 0, 1, 0, 0]), .inBlock 0, .code (cd Tryz.f143 [1, 1, 1])], [], .run, .normal, none⟩
noncomputable def rdg_h_o (ds : List Nat) (i : Nat) (jc : List Value) : List (Nat × AObj) := []
noncomputable def rdg_h (ds : List Nat) (i : Nat) (jc : List Value) (j : List Value) : AS := ⟨rdg_h_f ds i jc j, [], mkH 5 (rdg_h_o ds i jc)⟩
theorem rdg_in1 (ds : List Nat) (h0 : 0 < (dstr ds).size) (h1 : ¬ (dstr ds).size > 1)  : Gets Tryz.prog 5 ⟨Frame.enter Tryz.prog 143 #[(.string (dstr ds))] .normal, [], mkH 5 []⟩ (rdg_h ds 0 ([(.bool false), (.bool false), undef, undef, undef]) [(.bool false), (.string (dstr ds)), (.int .i64 (((dstr ds).size : Nat) : Int)), (.string (dstr ds)), (.int .i64 (((dstr ds).size : Nat) : Int)), undef, undef, undef, undef, undef, undef, undef, undef, undef, undef, undef, undef, undef, undef, undef, undef]) :=
  seg_reach hmix_ok (hk := hk0) (draw := dr0) (sc := [(9, .op (.rwB false)), (3, .op (.rwB false)), (16, .stay)]) (fr1 := rdg_h_f ds 0 ([(.bool false), (.bool false), undef, undef, undef]) [(.bool false), (.string (dstr ds)), (.int .i64 (((dstr ds).size : Nat) : Int)), (.string (dstr ds)), (.int .i64 (((dstr ds).size : Nat) : Int)), undef, undef, undef, undef, undef, undef, undef, undef, undef, undef, undef, undef, undef, undef, undef, undef]) (cs1 := []) (next := 5) (l := rdg_h_o ds 0 ([(.bool false), (.bool false), undef, undef, undef])) (p := (((((dstr ds).size : Nat) : Int) == (0 : Int)) = false) ∧ ((decide ((((dstr ds).size : Nat) : Int) > (1 : Int)) = false) ∧ True)) hk0_ok dr0_ok (by kernel_rfl) ⟨(by simp only [decide_eq_true_eq, decide_eq_false_iff_not, beq_iff_eq, beq_eq_false_iff_ne, bne_iff_ne, bne_eq_false_iff_eq, ne_eq, gt_iff_lt, ge_iff_le] <;> omega), (by simp only [decide_eq_true_eq, decide_eq_false_iff_not, beq_iff_eq, beq_eq_false_iff_ne, bne_iff_ne, bne_eq_false_iff_eq, ne_eq, gt_iff_lt, ge_iff_le] <;> omega), trivial⟩
theorem rdg_in2 (ds : List Nat) (h0 : 0 < (dstr ds).size) (h1 : (dstr ds).size > 1) (d : Nat) (hd0 : d < 10) (hd1 : d ≠ 0) (hx : (dstr ds)[0]? = some (UInt8.ofNat (48 + d)))  : Gets Tryz.prog 5 ⟨Frame.enter Tryz.prog 143 #[(.string (dstr ds))] .normal, [], mkH 5 []⟩ (rdg_h ds 0 ([(.bool true), (.bool true), (.string (dstr ds)), (.int .u8 (((UInt8.ofNat (48 + d)).toNat : Nat) : Int)), (.bool false)]) [(.bool false), (.string (dstr ds)), (.int .i64 (((dstr ds).size : Nat) : Int)), (.string (dstr ds)), (.int .i64 (((dstr ds).size : Nat) : Int)), undef, undef, undef, undef, undef, undef, undef, undef, undef, undef, undef, undef, undef, undef, undef, undef]) :=
  seg_reach hmix_ok (hk := hk0) (draw := dr0) (sc := [(9, .op (.rwB false)), (3, .op (.rwB true)), (2, .op (.sidx (UInt8.ofNat (48 + d)))), (0, .op (.rwB false)), (12, .stay)]) (fr1 := rdg_h_f ds 0 ([(.bool true), (.bool true), (.string (dstr ds)), (.int .u8 (((UInt8.ofNat (48 + d)).toNat : Nat) : Int)), (.bool false)]) [(.bool false), (.string (dstr ds)), (.int .i64 (((dstr ds).size : Nat) : Int)), (.string (dstr ds)), (.int .i64 (((dstr ds).size : Nat) : Int)), undef, undef, undef, undef, undef, undef, undef, undef, undef, undef, undef, undef, undef, undef, undef, undef]) (cs1 := []) (next := 5) (l := rdg_h_o ds 0 ([(.bool true), (.bool true), (.string (dstr ds)), (.int .u8 (((UInt8.ofNat (48 + d)).toNat : Nat) : Int)), (.bool false)])) (p := (((((dstr ds).size : Nat) : Int) == (0 : Int)) = false) ∧ ((decide ((((dstr ds).size : Nat) : Int) > (1 : Int)) = true) ∧ ((0 ≤ (0 : Int) ∧ (dstr ds)[Int.toNat (0 : Int)]? = some (UInt8.ofNat (48 + d))) ∧ ((((((UInt8.ofNat (48 + d)).toNat : Nat) : Int) == (48 : Int)) = false) ∧ True)))) hk0_ok dr0_ok (by kernel_rfl) ⟨(by simp only [decide_eq_true_eq, decide_eq_false_iff_not, beq_iff_eq, beq_eq_false_iff_ne, bne_iff_ne, bne_eq_false_iff_eq, ne_eq, gt_iff_lt, ge_iff_le] <;> omega), (by simp only [decide_eq_true_eq, decide_eq_false_iff_not, beq_iff_eq, beq_eq_false_iff_ne, bne_iff_ne, bne_eq_false_iff_eq, ne_eq, gt_iff_lt, ge_iff_le] <;> omega), ⟨by omega, hx⟩, (byte_ne hd0 hd1), trivial⟩
theorem rdg_r (ds : List Nat) (i d : Nat) (j jc : List Value) (hd : d < 10) (hi : i < (dstr ds).size) (hm : (dstr ds).size < 1099511627776) (hx : (dstr ds)[i]? = some (UInt8.ofNat (48 + d)))  : Gets Tryz.prog 5 (rdg_h ds i jc j) (rdg_h ds (i + 1) ([(J jc 0), (J jc 1), (J jc 2), (J jc 3), (J jc 4)]) [(J j 0), (J j 1), (J j 2), (J j 3), (J j 4), (.int .i64 ((i : Nat) : Int)), (.string (dstr ds)), (.int .i64 (((dstr ds).size : Nat) : Int)), (.bool true), (.int .i64 ((i : Nat) : Int)), (.int .i64 (((i + 1) : Nat) : Int)), (.string (dstr ds)), (.int .i64 ((i : Nat) : Int)), (.int .u8 (((UInt8.ofNat (48 + d)).toNat : Nat) : Int)), (.bool false), (.bool false), (.string (dstr ds)), (.int .i64 ((i : Nat) : Int)), (.int .u8 (((UInt8.ofNat (48 + d)).toNat : Nat) : Int)), (.bool false), (.bool false)]) :=
  seg_reach hmix_ok (hk := hk0) (draw := dr0) (sc := [(6, .op (.rwB true)), (9, .op (.sidx (UInt8.ofNat (48 + d)))), (0, .op (.rwB false)), (3, .op (.sidx (UInt8.ofNat (48 + d)))), (0, .op (.rwB false)), (7, .op (.rwI (((i + 1) : Nat) : Int))), (3, .stay)]) (fr1 := rdg_h_f ds (i + 1) ([(J jc 0), (J jc 1), (J jc 2), (J jc 3), (J jc 4)]) [(J j 0), (J j 1), (J j 2), (J j 3), (J j 4), (.int .i64 ((i : Nat) : Int)), (.string (dstr ds)), (.int .i64 (((dstr ds).size : Nat) : Int)), (.bool true), (.int .i64 ((i : Nat) : Int)), (.int .i64 (((i + 1) : Nat) : Int)), (.string (dstr ds)), (.int .i64 ((i : Nat) : Int)), (.int .u8 (((UInt8.ofNat (48 + d)).toNat : Nat) : Int)), (.bool false), (.bool false), (.string (dstr ds)), (.int .i64 ((i : Nat) : Int)), (.int .u8 (((UInt8.ofNat (48 + d)).toNat : Nat) : Int)), (.bool false), (.bool false)]) (cs1 := []) (next := 5) (l := rdg_h_o ds (i + 1) ([(J jc 0), (J jc 1), (J jc 2), (J jc 3), (J jc 4)])) (p := (decide (((i : Nat) : Int) < (((dstr ds).size : Nat) : Int)) = true) ∧ ((0 ≤ ((i : Nat) : Int) ∧ (dstr ds)[Int.toNat ((i : Nat) : Int)]? = some (UInt8.ofNat (48 + d))) ∧ ((decide ((((UInt8.ofNat (48 + d)).toNat : Nat) : Int) < (48 : Int)) = false) ∧ ((0 ≤ ((i : Nat) : Int) ∧ (dstr ds)[Int.toNat ((i : Nat) : Int)]? = some (UInt8.ofNat (48 + d))) ∧ ((decide ((((UInt8.ofNat (48 + d)).toNat : Nat) : Int) > (57 : Int)) = false) ∧ ((IntKind.wrap .i64 (((i : Nat) : Int) + (1 : Int)) = (((i + 1) : Nat) : Int)) ∧ True)))))) hk0_ok dr0_ok (by kernel_rfl) ⟨(by simp only [decide_eq_true_eq, decide_eq_false_iff_not, beq_iff_eq, beq_eq_false_iff_ne, bne_iff_ne, bne_eq_false_iff_eq, ne_eq, gt_iff_lt, ge_iff_le] <;> omega), ⟨by omega, hx⟩, (byte_ge hd), ⟨by omega, hx⟩, (byte_le hd), (by rw [wrap_i64 (by omega) (by omega)] <;> omega), trivial⟩
theorem rdg_o (ds : List Nat) (i : Nat) (j jc : List Value) (hi : (dstr ds).size ≤ i)  (hr : Gets Tryz.prog 5 ⟨Frame.enter Tryz.prog 143 #[(.string (dstr ds))] .normal, [], mkH 5 []⟩ (rdg_h ds i jc j)) : CSp Tryz.prog 5 143 #[(.string (dstr ds))] (mkH 5 []) (.bool true) (mkH 5 []) :=
  seg_fin hmix_ok (hk := hk0) (draw := dr0) (sc := [(6, .op (.rwB false)), (8, .stay)]) (next := 5) (l := []) (p := (decide (((i : Nat) : Int) < (((dstr ds).size : Nat) : Int)) = false) ∧ True) hk0_ok dr0_ok (by kernel_rfl) ⟨(by simp only [decide_eq_true_eq, decide_eq_false_iff_not, beq_iff_eq, beq_eq_false_iff_ne, bne_iff_ne, bne_eq_false_iff_eq, ne_eq, gt_iff_lt, ge_iff_le] <;> omega), trivial⟩ hr

theorem rdg_loop {ds : List Nat} (hd : Dig ds) (hm : ds.length < 1099511627776) : ∀ (k i : Nat) (j jc : List Value), k = ds.length - i → i ≤ ds.length → Gets Tryz.prog 5 ⟨Frame.enter Tryz.prog 143 #[(.string (dstr ds))] .normal, [], mkH 5 []⟩ (rdg_h ds i jc j) → CSp Tryz.prog 5 143 #[(.string (dstr ds))] (mkH 5 []) (.bool true) (mkH 5 []) := by
  intro k
  induction k with
  | zero =>
    intro i j jc hk hi hr
    exact rdg_o ds i j jc (by rw [dstr_size]; omega) hr
  | succ k ih =>
    intro i j jc hk hi hr
    exact ih (i + 1) _ _ (by omega) (by omega) (hr.trans (rdg_r ds i _ j jc (hd.get i) (by rw [dstr_size]; omega) (by rw [dstr_size]; exact hm) (dstr_get (by omega))))
theorem rdg_c1 (n0 : Nat) (ds : List Nat) (hG : 5 ≤ n0) (hd : Dig ds) (h0 : 0 < ds.length) (hm : ds.length < 1099511627776) (hh : 1 < ds.length → ds.getD 0 0 ≠ 0) : FSp Tryz.prog 5 143 #[.string (dstr ds)] n0 [] (.bool true) [] [] := by
  by_cases h1 : 1 < ds.length
  · exact fsp_flat [] [] [] [] [] n0 (rdg_loop hd hm _ 0 _ _ rfl (Nat.zero_le _) (rdg_in2 ds (by rw [dstr_size]; exact h0) (by rw [dstr_size]; exact h1) _ (hd.get 0) (hh h1) (dstr_get h0))) rfl rfl rfl (by simp) (by simp) hG rfl rfl rfl (by simp) (by simp) rfl rfl rfl
  · exact fsp_flat [] [] [] [] [] n0 (rdg_loop hd hm _ 0 _ _ rfl (Nat.zero_le _) (rdg_in1 ds (by rw [dstr_size]; exact h0) (by rw [dstr_size]; exact h1))) rfl rfl rfl (by simp) (by simp) hG rfl rfl rfl (by simp) (by simp) rfl rfl rfl

theorem fo_p (ds : List Nat) (hd : Dig ds) (h0 : 0 < ds.length) (hm : ds.length < 1099511627776) (hh : 1 < ds.length → ds.getD 0 0 ≠ 0)  (hr : Gets Tryz.prog 5 ⟨Frame.enter Tryz.prog 104 #[(.string (dstr ds))] .normal, [], mkH 5 []⟩ ⟨Frame.enter Tryz.prog 104 #[(.string (dstr ds))] .normal, [], mkH 5 []⟩) : CSp Tryz.prog 5 104 #[(.string (dstr ds))] (mkH 5 []) (.bool true) (mkH 5 []) :=
  seg_fin hmix_ok (hk := hk0) (draw := dr0) (sc := [(7, .call [] (.string (dstr ds)) [] []), (0, .call [] (.bool true) [] []), (2, .op (.rwB true)), (4, .stay)]) (next := 5) (l := []) (p := (FSp Tryz.prog 5 43 #[(.string (dstr ds))] 5 [] (.string (dstr ds)) [] []) ∧ ((FSp Tryz.prog 5 143 #[(.string (dstr ds))] 5 [] (.bool true) [] []) ∧ (((!((dstr ds).toList == (bts [45,48]).toList)) = true) ∧ True))) hk0_ok dr0_ok (by kernel_rfl) ⟨(ab_pc 5 ds (by omega) hd h0), (rdg_c1 5 ds (by omega) hd h0 hm hh), (dstr_ne_m0 hd h0), trivial⟩ hr

theorem fo_pc (n0 : Nat) (ds : List Nat) (hG : 5 ≤ n0) (hd : Dig ds) (h0 : 0 < ds.length) (hm : ds.length < 1099511627776) (hh : 1 < ds.length → ds.getD 0 0 ≠ 0) : FSp Tryz.prog 5 104 #[(.string (dstr ds))] n0 [] (.bool true) [] [] :=
  fsp_flat [] [] [] [] [] n0 (fo_p ds hd h0 hm hh (Gets.refl _)) rfl rfl rfl (by simp) (by simp) hG rfl rfl rfl (by simp) (by simp) rfl rfl rfl

theorem fo_m (ds : List Nat) (hd : Dig ds) (h0 : 0 < ds.length) (hm : ds.length < 1099511627776) (hh : 1 < ds.length → ds.getD 0 0 ≠ 0) (h1 : ds.getD 0 0 ≠ 0)  (hr : Gets Tryz.prog 5 ⟨Frame.enter Tryz.prog 104 #[(.string (mstr ds))] .normal, [], mkH 5 []⟩ ⟨Frame.enter Tryz.prog 104 #[(.string (mstr ds))] .normal, [], mkH 5 []⟩) : CSp Tryz.prog 5 104 #[(.string (mstr ds))] (mkH 5 []) (.bool true) (mkH 5 []) :=
  seg_fin hmix_ok (hk := hk0) (draw := dr0) (sc := [(7, .call [] (.string (dstr ds)) [] []), (0, .call [] (.bool true) [] []), (2, .op (.rwB true)), (4, .stay)]) (next := 5) (l := []) (p := (FSp Tryz.prog 5 43 #[(.string (mstr ds))] 5 [] (.string (dstr ds)) [] []) ∧ ((FSp Tryz.prog 5 143 #[(.string (dstr ds))] 5 [] (.bool true) [] []) ∧ (((!((mstr ds).toList == (bts [45,48]).toList)) = true) ∧ True))) hk0_ok dr0_ok (by kernel_rfl) ⟨(ab_mc 5 ds (by omega)), (rdg_c1 5 ds (by omega) hd h0 hm hh), (mstr_ne_m0 hd h0 h1), trivial⟩ hr

theorem fo_mc (n0 : Nat) (ds : List Nat) (hG : 5 ≤ n0) (hd : Dig ds) (h0 : 0 < ds.length) (hm : ds.length < 1099511627776) (hh : 1 < ds.length → ds.getD 0 0 ≠ 0) (h1 : ds.getD 0 0 ≠ 0) : FSp Tryz.prog 5 104 #[(.string (mstr ds))] n0 [] (.bool true) [] [] :=
  fsp_flat [] [] [] [] [] n0 (fo_m ds hd h0 hm hh h1 (Gets.refl _)) rfl rfl rfl (by simp) (by simp) hG rfl rfl rfl (by simp) (by simp) rfl rfl rfl

noncomputable def tip_h_f (ds : List Nat) (l i : Nat) (j : List Value) : Frame := ⟨52, List.toArray [(.string (dstr ds)), undef, (.int .i64 (.ofNat 0)), (.bool false), (.string (dstr ds)), (.int .i64 ((l : Nat) : Int)), (.int .i64 ((i : Nat) : Int)), (.string (dstr ds)), (.string (dstr ds)), (.string (dstr ds)), (.bool true), (.bool false), (.bool false), (.string (dstr ds)), (J j 0), (.bool false), (.bool false), (J j 1), (J j 2), (J j 3), (J j 4), (J j 5), (J j 6), (J j 7), (J j 8), (J j 9), (J j 10), (J j 11), (J j 12), (J j 13), (J j 14), undef, undef, undef, undef, undef], [.code (cd Tryz.f52 [1, 1, 1, 1, 0, 1, 0, 0]), .inLoop (cd Tryz.f52 [1, 1, 1, 1, 0, 1, 0, 0]), .inBlock 0, .code (cd Tryz.f52 [1, 1, 1, 1, 1])], [], .run, .normal, none⟩
noncomputable def tip_h_o (ds : List Nat) (l i : Nat) : List (Nat × AObj) := []
noncomputable def tip_h (ds : List Nat) (l i : Nat) (j : List Value) : AS := ⟨tip_h_f ds l i j, [], mkH 5 (tip_h_o ds l i)⟩
theorem tip_in (ds : List Nat) (hd : Dig ds) (h0 : 0 < ds.length) (hm : ds.length ≤ 15) (hh : 1 < ds.length → ds.getD 0 0 ≠ 0) (hs : (dstr ds).size = ds.length)  : Gets Tryz.prog 5 ⟨Frame.enter Tryz.prog 52 #[(.string (dstr ds))] .normal, [], mkH 5 []⟩ (tip_h ds 0 0 [(.int .i64 (((dstr ds).size : Nat) : Int)), undef, undef, undef, undef, undef, undef, undef, undef, undef, undef, undef, undef, undef, undef]) :=
  seg_reach hmix_ok (hk := hk0) (draw := dr0) (sc := [(8, .call [] (.string (dstr ds)) [] []), (6, .call [] (.bool true) [] []), (4, .op (.rwB false)), (15, .stay)]) (fr1 := tip_h_f ds 0 0 [(.int .i64 (((dstr ds).size : Nat) : Int)), undef, undef, undef, undef, undef, undef, undef, undef, undef, undef, undef, undef, undef, undef]) (cs1 := []) (next := 5) (l := tip_h_o ds 0 0) (p := (FSp Tryz.prog 5 43 #[(.string (dstr ds))] 5 [] (.string (dstr ds)) [] []) ∧ ((FSp Tryz.prog 5 104 #[(.string (dstr ds))] 5 [] (.bool true) [] []) ∧ ((decide ((((dstr ds).size : Nat) : Int) > (15 : Int)) = false) ∧ True))) hk0_ok dr0_ok (by kernel_rfl) ⟨(ab_pc 5 ds (by omega) hd h0), (fo_pc 5 ds (by omega) hd h0 (by omega) hh), (by simp only [decide_eq_true_eq, decide_eq_false_iff_not, beq_iff_eq, beq_eq_false_iff_ne, bne_iff_ne, bne_eq_false_iff_eq, ne_eq, gt_iff_lt, ge_iff_le] <;> omega), trivial⟩
theorem tip_r (ds : List Nat) (l i d : Nat) (j : List Value) (hd : d < 10) (hl : l < 100000000000000) (hi : i < (dstr ds).size) (hm : (dstr ds).size < 1099511627776) (hx : (dstr ds)[i]? = some (UInt8.ofNat (48 + d)))  : Gets Tryz.prog 5 (tip_h ds l i j) (tip_h ds ((10 * l) + d) (i + 1) [(J j 0), (.int .i64 ((i : Nat) : Int)), (.string (dstr ds)), (.int .i64 (((dstr ds).size : Nat) : Int)), (.bool true), (.int .i64 ((i : Nat) : Int)), (.int .i64 (((i + 1) : Nat) : Int)), (.int .i64 ((l : Nat) : Int)), (.int .i64 (((10 * l) : Nat) : Int)), (.string (dstr ds)), (.int .i64 ((i : Nat) : Int)), (.int .u8 (((UInt8.ofNat (48 + d)).toNat : Nat) : Int)), (.int .u8 ((d : Nat) : Int)), (.int .i64 ((d : Nat) : Int)), (.int .i64 ((((10 * l) + d) : Nat) : Int))]) :=
  seg_reach hmix_ok (hk := hk0) (draw := dr0) (sc := [(6, .op (.rwB true)), (7, .op (.rwI (((10 * l) : Nat) : Int))), (2, .op (.sidx (UInt8.ofNat (48 + d)))), (0, .op (.rwI ((d : Nat) : Int))), (0, .op (.rwI ((d : Nat) : Int))), (0, .op (.rwI ((((10 * l) + d) : Nat) : Int))), (5, .op (.rwI (((i + 1) : Nat) : Int))), (3, .stay)]) (fr1 := tip_h_f ds ((10 * l) + d) (i + 1) [(J j 0), (.int .i64 ((i : Nat) : Int)), (.string (dstr ds)), (.int .i64 (((dstr ds).size : Nat) : Int)), (.bool true), (.int .i64 ((i : Nat) : Int)), (.int .i64 (((i + 1) : Nat) : Int)), (.int .i64 ((l : Nat) : Int)), (.int .i64 (((10 * l) : Nat) : Int)), (.string (dstr ds)), (.int .i64 ((i : Nat) : Int)), (.int .u8 (((UInt8.ofNat (48 + d)).toNat : Nat) : Int)), (.int .u8 ((d : Nat) : Int)), (.int .i64 ((d : Nat) : Int)), (.int .i64 ((((10 * l) + d) : Nat) : Int))]) (cs1 := []) (next := 5) (l := tip_h_o ds ((10 * l) + d) (i + 1)) (p := (decide (((i : Nat) : Int) < (((dstr ds).size : Nat) : Int)) = true) ∧ ((IntKind.wrap .i64 ((10 : Int) * ((l : Nat) : Int)) = (((10 * l) : Nat) : Int)) ∧ ((0 ≤ ((i : Nat) : Int) ∧ (dstr ds)[Int.toNat ((i : Nat) : Int)]? = some (UInt8.ofNat (48 + d))) ∧ ((IntKind.wrap .u8 ((((UInt8.ofNat (48 + d)).toNat : Nat) : Int) - (48 : Int)) = ((d : Nat) : Int)) ∧ ((IntKind.wrap .i64 ((d : Nat) : Int) = ((d : Nat) : Int)) ∧ ((IntKind.wrap .i64 ((((10 * l) : Nat) : Int) + ((d : Nat) : Int)) = ((((10 * l) + d) : Nat) : Int)) ∧ ((IntKind.wrap .i64 (((i : Nat) : Int) + (1 : Int)) = (((i + 1) : Nat) : Int)) ∧ True))))))) hk0_ok dr0_ok (by kernel_rfl) ⟨(by simp only [decide_eq_true_eq, decide_eq_false_iff_not, beq_iff_eq, beq_eq_false_iff_ne, bne_iff_ne, bne_eq_false_iff_eq, ne_eq, gt_iff_lt, ge_iff_le] <;> omega), (by rw [wrap_i64 (by omega) (by omega)] <;> omega), ⟨by omega, hx⟩, (byte_sub hd), (by rw [wrap_i64 (by omega) (by omega)] <;> omega), (by rw [wrap_i64 (by omega) (by omega)] <;> omega), (by rw [wrap_i64 (by omega) (by omega)] <;> omega), trivial⟩
theorem tip_o (ds : List Nat) (l i : Nat) (j : List Value) (hd : Dig ds) (h0 : 0 < ds.length) (hl : l < 1000000000000000) (hi : (dstr ds).size ≤ i)  (hr : Gets Tryz.prog 5 ⟨Frame.enter Tryz.prog 52 #[(.string (dstr ds))] .normal, [], mkH 5 []⟩ (tip_h ds l i j)) : CSp Tryz.prog 5 52 #[(.string (dstr ds))] (mkH 5 []) (.tuple #[(.int .i64 ((l : Nat) : Int)),(.bool true)]) (mkH 5 []) :=
  seg_fin hmix_ok (hk := hk0) (draw := dr0) (sc := [(6, .op (.rwB false)), (7, .call [] (.bool false) [] []), (10, .stay)]) (next := 5) (l := []) (p := (decide (((i : Nat) : Int) < (((dstr ds).size : Nat) : Int)) = false) ∧ ((FSp Tryz.prog 5 44 #[(.string (dstr ds))] 5 [] (.bool false) [] []) ∧ True)) hk0_ok dr0_ok (by kernel_rfl) ⟨(by simp only [decide_eq_true_eq, decide_eq_false_iff_not, beq_iff_eq, beq_eq_false_iff_ne, bne_iff_ne, bne_eq_false_iff_eq, ne_eq, gt_iff_lt, ge_iff_le] <;> omega), (ne_pc 5 ds (by omega) hd h0), trivial⟩ hr

theorem tip_loop {ds : List Nat} (hd : Dig ds) (h0 : 0 < ds.length) (hL : ds.length ≤ 15) : ∀ (k i : Nat) (j : List Value), k = ds.length - i → i ≤ ds.length → Gets Tryz.prog 5 ⟨Frame.enter Tryz.prog 52 #[(.string (dstr ds))] .normal, [], mkH 5 []⟩ (tip_h ds (dval (ds.take i)) i j) → CSp Tryz.prog 5 52 #[(.string (dstr ds))] (mkH 5 []) (.tuple #[.int .i64 (((dval ds : Nat) : Int)), .bool true]) (mkH 5 []) := by
  intro k
  induction k with
  | zero =>
    intro i j hk hi hr
    have hlt : dval ds < 1000000000000000 := by
      have h2 := dval_lt _ hd
      have h3 : 10 ^ ds.length ≤ 10 ^ 15 := Nat.pow_le_pow_right (by decide) hL
      have h4 : (10 : Nat) ^ 15 = 1000000000000000 := by decide
      omega
    rw [List.take_of_length_le (by omega)] at hr
    exact tip_o ds (dval ds) i j hd h0 hlt (by rw [dstr_size]; omega) hr
  | succ k ih =>
    intro i j hk hi hr
    have hlt : dval (ds.take i) < 100000000000000 := by
      have h2 := dval_lt _ (hd.take i)
      have h3 : 10 ^ (ds.take i).length ≤ 10 ^ 14 := Nat.pow_le_pow_right (by decide) (by rw [List.length_take]; omega)
      have h4 : (10 : Nat) ^ 14 = 100000000000000 := by decide
      omega
    have r := tip_r ds _ i (ds.getD i 0) j (hd.get i) hlt (by rw [dstr_size]; omega) (by rw [dstr_size]; omega) (dstr_get (by omega))
    rw [show 10 * dval (ds.take i) + ds.getD i 0 = dval (ds.take (i + 1)) by rw [dval_take_succ (by omega), Nat.mul_comm]] at r
    exact ih (i + 1) _ (by omega) (by omega) (hr.trans r)
theorem tip_c (n0 : Nat) (ds : List Nat) (hG : 5 ≤ n0) (hd : Dig ds) (h0 : 0 < ds.length) (hm : ds.length ≤ 15) (hh : 1 < ds.length → ds.getD 0 0 ≠ 0) : FSp Tryz.prog 5 52 #[(.string (dstr ds))] n0 [] (.tuple #[.int .i64 (((dval ds : Nat) : Int)), .bool true]) [] [] :=
  fsp_flat [] [] [] [] [] n0 (tip_loop hd h0 hm _ 0 _ rfl (Nat.zero_le _) (tip_in ds hd h0 hm hh (dstr_size ds))) rfl rfl rfl (by simp) (by simp) hG rfl rfl rfl (by simp) (by simp) rfl rfl rfl

noncomputable def tim_h_f (ds : List Nat) (l i : Nat) (j : List Value) : Frame := ⟨52, List.toArray [(.string (mstr ds)), undef, (.int .i64 (.ofNat 0)), (.bool false), (.string (dstr ds)), (.int .i64 ((l : Nat) : Int)), (.int .i64 ((i : Nat) : Int)), (.string (mstr ds)), (.string (dstr ds)), (.string (mstr ds)), (.bool true), (.bool false), (.bool false), (.string (dstr ds)), (J j 0), (.bool false), (.bool false), (J j 1), (J j 2), (J j 3), (J j 4), (J j 5), (J j 6), (J j 7), (J j 8), (J j 9), (J j 10), (J j 11), (J j 12), (J j 13), (J j 14), undef, undef, undef, undef, undef], [.code (cd Tryz.f52 [1, 1, 1, 1, 0, 1, 0, 0]), .inLoop (cd Tryz.f52 [1, 1, 1, 1, 0, 1, 0, 0]), .inBlock 0, .code (cd Tryz.f52 [1, 1, 1, 1, 1])], [], .run, .normal, none⟩
noncomputable def tim_h_o (ds : List Nat) (l i : Nat) : List (Nat × AObj) := []
noncomputable def tim_h (ds : List Nat) (l i : Nat) (j : List Value) : AS := ⟨tim_h_f ds l i j, [], mkH 5 (tim_h_o ds l i)⟩
theorem tim_in (ds : List Nat) (hd : Dig ds) (h0 : 0 < ds.length) (hm : ds.length ≤ 15) (hh : 1 < ds.length → ds.getD 0 0 ≠ 0) (h1 : ds.getD 0 0 ≠ 0) (hs : (dstr ds).size = ds.length)  : Gets Tryz.prog 5 ⟨Frame.enter Tryz.prog 52 #[(.string (mstr ds))] .normal, [], mkH 5 []⟩ (tim_h ds 0 0 [(.int .i64 (((dstr ds).size : Nat) : Int)), undef, undef, undef, undef, undef, undef, undef, undef, undef, undef, undef, undef, undef, undef]) :=
  seg_reach hmix_ok (hk := hk0) (draw := dr0) (sc := [(8, .call [] (.string (dstr ds)) [] []), (6, .call [] (.bool true) [] []), (4, .op (.rwB false)), (15, .stay)]) (fr1 := tim_h_f ds 0 0 [(.int .i64 (((dstr ds).size : Nat) : Int)), undef, undef, undef, undef, undef, undef, undef, undef, undef, undef, undef, undef, undef, undef]) (cs1 := []) (next := 5) (l := tim_h_o ds 0 0) (p := (FSp Tryz.prog 5 43 #[(.string (mstr ds))] 5 [] (.string (dstr ds)) [] []) ∧ ((FSp Tryz.prog 5 104 #[(.string (mstr ds))] 5 [] (.bool true) [] []) ∧ ((decide ((((dstr ds).size : Nat) : Int) > (15 : Int)) = false) ∧ True))) hk0_ok dr0_ok (by kernel_rfl) ⟨(ab_mc 5 ds (by omega)), (fo_mc 5 ds (by omega) hd h0 (by omega) hh h1), (by simp only [decide_eq_true_eq, decide_eq_false_iff_not, beq_iff_eq, beq_eq_false_iff_ne, bne_iff_ne, bne_eq_false_iff_eq, ne_eq, gt_iff_lt, ge_iff_le] <;> omega), trivial⟩
theorem tim_r (ds : List Nat) (l i d : Nat) (j : List Value) (hd : d < 10) (hl : l < 100000000000000) (hi : i < (dstr ds).size) (hm : (dstr ds).size < 1099511627776) (hx : (dstr ds)[i]? = some (UInt8.ofNat (48 + d)))  : Gets Tryz.prog 5 (tim_h ds l i j) (tim_h ds ((10 * l) + d) (i + 1) [(J j 0), (.int .i64 ((i : Nat) : Int)), (.string (dstr ds)), (.int .i64 (((dstr ds).size : Nat) : Int)), (.bool true), (.int .i64 ((i : Nat) : Int)), (.int .i64 (((i + 1) : Nat) : Int)), (.int .i64 ((l : Nat) : Int)), (.int .i64 (((10 * l) : Nat) : Int)), (.string (dstr ds)), (.int .i64 ((i : Nat) : Int)), (.int .u8 (((UInt8.ofNat (48 + d)).toNat : Nat) : Int)), (.int .u8 ((d : Nat) : Int)), (.int .i64 ((d : Nat) : Int)), (.int .i64 ((((10 * l) + d) : Nat) : Int))]) :=
  seg_reach hmix_ok (hk := hk0) (draw := dr0) (sc := [(6, .op (.rwB true)), (7, .op (.rwI (((10 * l) : Nat) : Int))), (2, .op (.sidx (UInt8.ofNat (48 + d)))), (0, .op (.rwI ((d : Nat) : Int))), (0, .op (.rwI ((d : Nat) : Int))), (0, .op (.rwI ((((10 * l) + d) : Nat) : Int))), (5, .op (.rwI (((i + 1) : Nat) : Int))), (3, .stay)]) (fr1 := tim_h_f ds ((10 * l) + d) (i + 1) [(J j 0), (.int .i64 ((i : Nat) : Int)), (.string (dstr ds)), (.int .i64 (((dstr ds).size : Nat) : Int)), (.bool true), (.int .i64 ((i : Nat) : Int)), (.int .i64 (((i + 1) : Nat) : Int)), (.int .i64 ((l : Nat) : Int)), (.int .i64 (((10 * l) : Nat) : Int)), (.string (dstr ds)), (.int .i64 ((i : Nat) : Int)), (.int .u8 (((UInt8.ofNat (48 + d)).toNat : Nat) : Int)), (.int .u8 ((d : Nat) : Int)), (.int .i64 ((d : Nat) : Int)), (.int .i64 ((((10 * l) + d) : Nat) : Int))]) (cs1 := []) (next := 5) (l := tim_h_o ds ((10 * l) + d) (i + 1)) (p := (decide (((i : Nat) : Int) < (((dstr ds).size : Nat) : Int)) = true) ∧ ((IntKind.wrap .i64 ((10 : Int) * ((l : Nat) : Int)) = (((10 * l) : Nat) : Int)) ∧ ((0 ≤ ((i : Nat) : Int) ∧ (dstr ds)[Int.toNat ((i : Nat) : Int)]? = some (UInt8.ofNat (48 + d))) ∧ ((IntKind.wrap .u8 ((((UInt8.ofNat (48 + d)).toNat : Nat) : Int) - (48 : Int)) = ((d : Nat) : Int)) ∧ ((IntKind.wrap .i64 ((d : Nat) : Int) = ((d : Nat) : Int)) ∧ ((IntKind.wrap .i64 ((((10 * l) : Nat) : Int) + ((d : Nat) : Int)) = ((((10 * l) + d) : Nat) : Int)) ∧ ((IntKind.wrap .i64 (((i : Nat) : Int) + (1 : Int)) = (((i + 1) : Nat) : Int)) ∧ True))))))) hk0_ok dr0_ok (by kernel_rfl) ⟨(by simp only [decide_eq_true_eq, decide_eq_false_iff_not, beq_iff_eq, beq_eq_false_iff_ne, bne_iff_ne, bne_eq_false_iff_eq, ne_eq, gt_iff_lt, ge_iff_le] <;> omega), (by rw [wrap_i64 (by omega) (by omega)] <;> omega), ⟨by omega, hx⟩, (byte_sub hd), (by rw [wrap_i64 (by omega) (by omega)] <;> omega), (by rw [wrap_i64 (by omega) (by omega)] <;> omega), (by rw [wrap_i64 (by omega) (by omega)] <;> omega), trivial⟩
theorem tim_o (ds : List Nat) (l i : Nat) (j : List Value) (hd : Dig ds) (h0 : 0 < ds.length) (hl : l < 1000000000000000) (hi : (dstr ds).size ≤ i)  (hr : Gets Tryz.prog 5 ⟨Frame.enter Tryz.prog 52 #[(.string (mstr ds))] .normal, [], mkH 5 []⟩ (tim_h ds l i j)) : CSp Tryz.prog 5 52 #[(.string (mstr ds))] (mkH 5 []) (.tuple #[(.int .i64 (-((l : Nat) : Int))),(.bool true)]) (mkH 5 []) :=
  seg_fin hmix_ok (hk := hk0) (draw := dr0) (sc := [(6, .op (.rwB false)), (7, .call [] (.bool true) [] []), (4, .op (.rwI (-((l : Nat) : Int)))), (9, .stay)]) (next := 5) (l := []) (p := (decide (((i : Nat) : Int) < (((dstr ds).size : Nat) : Int)) = false) ∧ ((FSp Tryz.prog 5 44 #[(.string (mstr ds))] 5 [] (.bool true) [] []) ∧ ((IntKind.wrap .i64 ((0 : Int) - ((l : Nat) : Int)) = (-((l : Nat) : Int))) ∧ True))) hk0_ok dr0_ok (by kernel_rfl) ⟨(by simp only [decide_eq_true_eq, decide_eq_false_iff_not, beq_iff_eq, beq_eq_false_iff_ne, bne_iff_ne, bne_eq_false_iff_eq, ne_eq, gt_iff_lt, ge_iff_le] <;> omega), (ne_mc 5 ds (by omega)), (by rw [wrap_i64 (by omega) (by omega)] <;> omega), trivial⟩ hr

theorem tim_loop {ds : List Nat} (hd : Dig ds) (h0 : 0 < ds.length) (hL : ds.length ≤ 15) : ∀ (k i : Nat) (j : List Value), k = ds.length - i → i ≤ ds.length → Gets Tryz.prog 5 ⟨Frame.enter Tryz.prog 52 #[(.string (mstr ds))] .normal, [], mkH 5 []⟩ (tim_h ds (dval (ds.take i)) i j) → CSp Tryz.prog 5 52 #[(.string (mstr ds))] (mkH 5 []) (.tuple #[.int .i64 (-((dval ds : Nat) : Int)), .bool true]) (mkH 5 []) := by
  intro k
  induction k with
  | zero =>
    intro i j hk hi hr
    have hlt : dval ds < 1000000000000000 := by
      have h2 := dval_lt _ hd
      have h3 : 10 ^ ds.length ≤ 10 ^ 15 := Nat.pow_le_pow_right (by decide) hL
      have h4 : (10 : Nat) ^ 15 = 1000000000000000 := by decide
      omega
    rw [List.take_of_length_le (by omega)] at hr
    exact tim_o ds (dval ds) i j hd h0 hlt (by rw [dstr_size]; omega) hr
  | succ k ih =>
    intro i j hk hi hr
    have hlt : dval (ds.take i) < 100000000000000 := by
      have h2 := dval_lt _ (hd.take i)
      have h3 : 10 ^ (ds.take i).length ≤ 10 ^ 14 := Nat.pow_le_pow_right (by decide) (by rw [List.length_take]; omega)
      have h4 : (10 : Nat) ^ 14 = 100000000000000 := by decide
      omega
    have r := tim_r ds _ i (ds.getD i 0) j (hd.get i) hlt (by rw [dstr_size]; omega) (by rw [dstr_size]; omega) (dstr_get (by omega))
    rw [show 10 * dval (ds.take i) + ds.getD i 0 = dval (ds.take (i + 1)) by rw [dval_take_succ (by omega), Nat.mul_comm]] at r
    exact ih (i + 1) _ (by omega) (by omega) (hr.trans r)
theorem tim_c (n0 : Nat) (ds : List Nat) (hG : 5 ≤ n0) (hd : Dig ds) (h0 : 0 < ds.length) (hm : ds.length ≤ 15) (hh : 1 < ds.length → ds.getD 0 0 ≠ 0) (h1 : ds.getD 0 0 ≠ 0) : FSp Tryz.prog 5 52 #[(.string (mstr ds))] n0 [] (.tuple #[.int .i64 (-((dval ds : Nat) : Int)), .bool true]) [] [] :=
  fsp_flat [] [] [] [] [] n0 (tim_loop hd h0 hm _ 0 _ rfl (Nat.zero_le _) (tim_in ds hd h0 hm hh h1 (dstr_size ds))) rfl rfl rfl (by simp) (by simp) hG rfl rfl rfl (by simp) (by simp) rfl rfl rfl


theorem ti_i (z : Int) (n0 : Nat) (hG : 5 ≤ n0) (hz : (digs z.natAbs).length ≤ 15) : FSp Tryz.prog 5 52 #[.string (istr z)] n0 [] (.tuple #[.int .i64 z, .bool true]) [] [] := by
  rcases int_cases z with ⟨m, rfl, hm⟩ | ⟨m, h0, rfl, hm⟩
  · rw [istr_nn]
    rw [hm] at hz
    have h := tip_c n0 (digs m) hG (digs_dig m) (digs_len_pos m) hz (fun h => digs_head m (by
      rcases Nat.eq_zero_or_pos m with q | q
      · rw [q, digs_zero] at h; exact absurd h (by decide)
      · exact q))
    rw [digs_val] at h
    exact h
  · rw [istr_neg h0]
    rw [hm] at hz
    have h := tim_c n0 (digs m) hG (digs_dig m) (digs_len_pos m) hz (fun _ => digs_head m h0) (digs_head m h0)
    rw [digs_val] at h
    exact h

end Go.Proofs.YtpbbfgpnoinkjaaGreatDoor
