import Derived.Test.YtpbbfgpnoinkjaaGreatDoorWf
import Derived.Test.YtpbbfgpnoinkjaaGreatDoorK
set_option linter.unusedVariables false
set_option linter.unusedSimpArgs false
set_option maxRecDepth 100000
set_option linter.unusedVariables false
set_option linter.unusedSimpArgs false
namespace Go.Proofs.YtpbbfgpnoinkjaaGreatDoor
open Go Go.AE Seg
noncomputable def smp_h_f (ds : List Nat) (l p : Nat) (j : List Value) : Frame := ⟨109, List.toArray [(.string (dstr ds)), undef, (.int .i64 (.ofNat 0)), (.bool false), (.string (dstr ds)), (.int .i64 ((l : Nat) : Int)), undef, (J j 0), (J j 1), (J j 2), (J j 3), (.bool false), (J j 4), (J j 5), (pt 5), (J j 6), (J j 7), (J j 8), (J j 9), (J j 10), (J j 11), (J j 12), (J j 13), (J j 14), undef, undef, undef, undef, undef], [.code (cd Tryz.f109 [1, 1, 1, 0, 1, 0, 0]), .inLoop (cd Tryz.f109 [1, 1, 1, 0, 1, 0, 0]), .inBlock 0, .code (cd Tryz.f109 [1, 1, 1, 1])], [], .run, .normal, none⟩
noncomputable def smp_h_o (ds : List Nat) (l p : Nat) : List (Nat × AObj) := [(5, (.iter (dstr ds) p))]
noncomputable def smp_h (ds : List Nat) (l p : Nat) (j : List Value) : AS := ⟨smp_h_f ds l p j, [], mkH 6 (smp_h_o ds l p)⟩
theorem smp_in (ds : List Nat) (hd : Dig ds) (h0 : 0 < ds.length)  : Gets Tryz.prog 5 ⟨Frame.enter Tryz.prog 109 #[(.string (dstr ds))] .normal, [], mkH 5 []⟩ (smp_h ds 0 0 [undef, (.tuple #[(.bool false),(.string (dstr ds))]), (.string (dstr ds)), (.tuple #[(.bool false),(.string (dstr ds))]), (.string (dstr ds)), (.string (dstr ds)), undef, undef, undef, undef, undef, undef, undef, undef, undef]) :=
  seg_reach hmix_ok (hk := hk0) (draw := dr0) (sc := [(7, .call [] (.tuple #[(.bool false),(.string (dstr ds))]) [] []), (18, .stay)]) (fr1 := smp_h_f ds 0 0 [undef, (.tuple #[(.bool false),(.string (dstr ds))]), (.string (dstr ds)), (.tuple #[(.bool false),(.string (dstr ds))]), (.string (dstr ds)), (.string (dstr ds)), undef, undef, undef, undef, undef, undef, undef, undef, undef]) (cs1 := []) (next := 6) (l := smp_h_o ds 0 0) (p := (FSp Tryz.prog 5 128 #[(.string (dstr ds))] 5 [] (.tuple #[(.bool false),(.string (dstr ds))]) [] []) ∧ True) hk0_ok dr0_ok (by kernel_rfl) ⟨(so_pc 5 ds (by omega) hd h0), trivial⟩
theorem smp_r (ds : List Nat) (l p q : Nat) (j : List Value) (hq : q < 10) (hl : l < 100000000000000000) (hp : p < (dstr ds).size) (he : Utf8.decode (dstr ds) p = (48 + q, 1))  : Gets Tryz.prog 5 (smp_h ds l p j) (smp_h ds ((l * 10) + q) (p + 1) [(.int .i32 (((48 + q) : Nat) : Int)), (J j 1), (J j 2), (J j 3), (J j 4), (J j 5), (.tuple #[(.bool true),(.int .i64 ((p : Nat) : Int)),(.int .i32 (((48 + q) : Nat) : Int))]), (.bool true), (.int .i32 (((48 + q) : Nat) : Int)), (.int .i64 ((l : Nat) : Int)), (.int .i64 (((l * 10) : Nat) : Int)), (.int .i32 (((48 + q) : Nat) : Int)), (.int .i32 ((q : Nat) : Int)), (.int .i64 ((q : Nat) : Int)), (.int .i64 ((((l * 10) + q) : Nat) : Int))]) :=
  seg_reach hmix_ok (hk := hk0) (draw := dr0) (sc := [(2, .op (.nxtC (48 + q) 1 (p + 1))), (13, .op (.rwI (((l * 10) : Nat) : Int))), (1, .op (.rwI ((q : Nat) : Int))), (0, .op (.rwI ((q : Nat) : Int))), (0, .op (.rwI ((((l * 10) + q) : Nat) : Int))), (4, .stay)]) (fr1 := smp_h_f ds ((l * 10) + q) (p + 1) [(.int .i32 (((48 + q) : Nat) : Int)), (J j 1), (J j 2), (J j 3), (J j 4), (J j 5), (.tuple #[(.bool true),(.int .i64 ((p : Nat) : Int)),(.int .i32 (((48 + q) : Nat) : Int))]), (.bool true), (.int .i32 (((48 + q) : Nat) : Int)), (.int .i64 ((l : Nat) : Int)), (.int .i64 (((l * 10) : Nat) : Int)), (.int .i32 (((48 + q) : Nat) : Int)), (.int .i32 ((q : Nat) : Int)), (.int .i64 ((q : Nat) : Int)), (.int .i64 ((((l * 10) + q) : Nat) : Int))]) (cs1 := []) (next := 6) (l := smp_h_o ds ((l * 10) + q) (p + 1)) (p := (p < (dstr ds).size ∧ Utf8.decode (dstr ds) p = ((48 + q), 1) ∧ p + 1 = (p + 1)) ∧ ((IntKind.wrap .i64 (((l : Nat) : Int) * (10 : Int)) = (((l * 10) : Nat) : Int)) ∧ ((IntKind.wrap .i32 ((((48 + q) : Nat) : Int) - (48 : Int)) = ((q : Nat) : Int)) ∧ ((IntKind.wrap .i64 ((q : Nat) : Int) = ((q : Nat) : Int)) ∧ ((IntKind.wrap .i64 ((((l * 10) : Nat) : Int) + ((q : Nat) : Int)) = ((((l * 10) + q) : Nat) : Int)) ∧ True))))) hk0_ok dr0_ok (by kernel_rfl) ⟨⟨hp, he, rfl⟩, (by rw [wrap_i64 (by omega) (by omega)] <;> omega), (by rw [wrap_i32 (by omega) (by omega)] <;> omega), (by rw [wrap_i64 (by omega) (by omega)] <;> omega), (by rw [wrap_i64 (by omega) (by omega)] <;> omega), trivial⟩
theorem smp_o (ds : List Nat) (l p : Nat) (j : List Value) (hl : l < 1000000000000000000) (hp : (dstr ds).size ≤ p)  (hr : Gets Tryz.prog 5 ⟨Frame.enter Tryz.prog 109 #[(.string (dstr ds))] .normal, [], mkH 5 []⟩ (smp_h ds l p j)) : CSp Tryz.prog 5 109 #[(.string (dstr ds))] (mkH 5 []) (.int .i64 ((l : Nat) : Int)) (mkH 6 []) :=
  seg_fin hmix_ok (hk := hk0) (draw := dr0) (sc := [(2, .op (.nxtE)), (30, .stay)]) (next := 6) (l := []) (p := (¬ p < (dstr ds).size) ∧ True) hk0_ok dr0_ok (by kernel_rfl) ⟨(by omega), trivial⟩ hr

theorem smp_loop {ds : List Nat} (hd : Dig ds) (hL : ds.length ≤ 18) : ∀ (k p : Nat) (j : List Value), k = ds.length - p → p ≤ ds.length →
    Gets Tryz.prog 5 ⟨Frame.enter Tryz.prog 109 #[(.string (dstr ds))] .normal, [], mkH 5 []⟩ (smp_h ds (dval (ds.take p)) p j) → CSp Tryz.prog 5 109 #[(.string (dstr ds))] (mkH 5 []) (.int .i64 ((dval ds : Nat) : Int)) (mkH 6 []) := by
  intro k
  induction k with
  | zero =>
    intro p j hk hp hr
    have hlt : dval ds < 1000000000000000000 := by
      have h2 := dval_lt _ hd
      have h3 : 10 ^ ds.length ≤ 10 ^ 18 := Nat.pow_le_pow_right (by decide) hL
      have h4 : (10 : Nat) ^ 18 = 1000000000000000000 := by decide
      omega
    rw [List.take_of_length_le (by omega)] at hr
    exact smp_o ds (dval ds) p j hlt (by rw [dstr_size]; omega) hr
  | succ k ih =>
    intro p j hk hp hr
    have hlt : dval (ds.take p) < 100000000000000000 := by
      have h2 := dval_lt _ (hd.take p)
      have h3 : 10 ^ (ds.take p).length ≤ 10 ^ 17 := Nat.pow_le_pow_right (by decide) (by rw [List.length_take]; omega)
      have h4 : (10 : Nat) ^ 17 = 100000000000000000 := by decide
      omega
    have r := smp_r ds _ p (ds.getD p 0) j (hd.get p) hlt (by rw [dstr_size]; omega) (decode_dstr hd (by omega))
    rw [← dval_take_succ (by omega)] at r
    exact ih (p + 1) _ (by omega) (by omega) (hr.trans r)
theorem smpc (n0 : Nat) (ds : List Nat) (hG : 5 ≤ n0) (hd : Dig ds) (h0 : 0 < ds.length) (hL : ds.length ≤ 18) : FSp Tryz.prog 5 109 #[(.string (dstr ds))] n0 [] (.int .i64 ((dval ds : Nat) : Int)) [] [] :=
  fsp_flat [] [] [] [] [] n0 (smp_loop hd hL _ _ _ rfl (Nat.zero_le _) (smp_in ds hd h0)) rfl rfl rfl (by simp) (by simp) hG rfl rfl rfl (by simp) (by simp) rfl rfl rfl

noncomputable def smm_h_f (ds : List Nat) (l p : Nat) (j : List Value) : Frame := ⟨109, List.toArray [(.string (mstr ds)), undef, (.int .i64 (.ofNat 0)), (.bool true), (.string (dstr ds)), (.int .i64 ((l : Nat) : Int)), undef, (J j 0), (J j 1), (J j 2), (J j 3), (.bool true), (J j 4), (J j 5), (pt 5), (J j 6), (J j 7), (J j 8), (J j 9), (J j 10), (J j 11), (J j 12), (J j 13), (J j 14), undef, undef, undef, undef, undef], [.code (cd Tryz.f109 [1, 1, 1, 0, 1, 0, 0]), .inLoop (cd Tryz.f109 [1, 1, 1, 0, 1, 0, 0]), .inBlock 0, .code (cd Tryz.f109 [1, 1, 1, 1])], [], .run, .normal, none⟩
noncomputable def smm_h_o (ds : List Nat) (l p : Nat) : List (Nat × AObj) := [(5, (.iter (dstr ds) p))]
noncomputable def smm_h (ds : List Nat) (l p : Nat) (j : List Value) : AS := ⟨smm_h_f ds l p j, [], mkH 6 (smm_h_o ds l p)⟩
theorem smm_in (ds : List Nat) (hd : Dig ds) (h0 : 0 < ds.length)  : Gets Tryz.prog 5 ⟨Frame.enter Tryz.prog 109 #[(.string (mstr ds))] .normal, [], mkH 5 []⟩ (smm_h ds 0 0 [undef, (.tuple #[(.bool true),(.string (dstr ds))]), (.string (mstr ds)), (.tuple #[(.bool true),(.string (dstr ds))]), (.string (dstr ds)), (.string (dstr ds)), undef, undef, undef, undef, undef, undef, undef, undef, undef]) :=
  seg_reach hmix_ok (hk := hk0) (draw := dr0) (sc := [(7, .call [] (.tuple #[(.bool true),(.string (dstr ds))]) [] []), (18, .stay)]) (fr1 := smm_h_f ds 0 0 [undef, (.tuple #[(.bool true),(.string (dstr ds))]), (.string (mstr ds)), (.tuple #[(.bool true),(.string (dstr ds))]), (.string (dstr ds)), (.string (dstr ds)), undef, undef, undef, undef, undef, undef, undef, undef, undef]) (cs1 := []) (next := 6) (l := smm_h_o ds 0 0) (p := (FSp Tryz.prog 5 128 #[(.string (mstr ds))] 5 [] (.tuple #[(.bool true),(.string (dstr ds))]) [] []) ∧ True) hk0_ok dr0_ok (by kernel_rfl) ⟨(so_mc 5 ds (by omega)), trivial⟩
theorem smm_r (ds : List Nat) (l p q : Nat) (j : List Value) (hq : q < 10) (hl : l < 100000000000000000) (hp : p < (dstr ds).size) (he : Utf8.decode (dstr ds) p = (48 + q, 1))  : Gets Tryz.prog 5 (smm_h ds l p j) (smm_h ds ((l * 10) + q) (p + 1) [(.int .i32 (((48 + q) : Nat) : Int)), (J j 1), (J j 2), (J j 3), (J j 4), (J j 5), (.tuple #[(.bool true),(.int .i64 ((p : Nat) : Int)),(.int .i32 (((48 + q) : Nat) : Int))]), (.bool true), (.int .i32 (((48 + q) : Nat) : Int)), (.int .i64 ((l : Nat) : Int)), (.int .i64 (((l * 10) : Nat) : Int)), (.int .i32 (((48 + q) : Nat) : Int)), (.int .i32 ((q : Nat) : Int)), (.int .i64 ((q : Nat) : Int)), (.int .i64 ((((l * 10) + q) : Nat) : Int))]) :=
  seg_reach hmix_ok (hk := hk0) (draw := dr0) (sc := [(2, .op (.nxtC (48 + q) 1 (p + 1))), (13, .op (.rwI (((l * 10) : Nat) : Int))), (1, .op (.rwI ((q : Nat) : Int))), (0, .op (.rwI ((q : Nat) : Int))), (0, .op (.rwI ((((l * 10) + q) : Nat) : Int))), (4, .stay)]) (fr1 := smm_h_f ds ((l * 10) + q) (p + 1) [(.int .i32 (((48 + q) : Nat) : Int)), (J j 1), (J j 2), (J j 3), (J j 4), (J j 5), (.tuple #[(.bool true),(.int .i64 ((p : Nat) : Int)),(.int .i32 (((48 + q) : Nat) : Int))]), (.bool true), (.int .i32 (((48 + q) : Nat) : Int)), (.int .i64 ((l : Nat) : Int)), (.int .i64 (((l * 10) : Nat) : Int)), (.int .i32 (((48 + q) : Nat) : Int)), (.int .i32 ((q : Nat) : Int)), (.int .i64 ((q : Nat) : Int)), (.int .i64 ((((l * 10) + q) : Nat) : Int))]) (cs1 := []) (next := 6) (l := smm_h_o ds ((l * 10) + q) (p + 1)) (p := (p < (dstr ds).size ∧ Utf8.decode (dstr ds) p = ((48 + q), 1) ∧ p + 1 = (p + 1)) ∧ ((IntKind.wrap .i64 (((l : Nat) : Int) * (10 : Int)) = (((l * 10) : Nat) : Int)) ∧ ((IntKind.wrap .i32 ((((48 + q) : Nat) : Int) - (48 : Int)) = ((q : Nat) : Int)) ∧ ((IntKind.wrap .i64 ((q : Nat) : Int) = ((q : Nat) : Int)) ∧ ((IntKind.wrap .i64 ((((l * 10) : Nat) : Int) + ((q : Nat) : Int)) = ((((l * 10) + q) : Nat) : Int)) ∧ True))))) hk0_ok dr0_ok (by kernel_rfl) ⟨⟨hp, he, rfl⟩, (by rw [wrap_i64 (by omega) (by omega)] <;> omega), (by rw [wrap_i32 (by omega) (by omega)] <;> omega), (by rw [wrap_i64 (by omega) (by omega)] <;> omega), (by rw [wrap_i64 (by omega) (by omega)] <;> omega), trivial⟩
theorem smm_o (ds : List Nat) (l p : Nat) (j : List Value) (hl : l < 1000000000000000000) (hp : (dstr ds).size ≤ p)  (hr : Gets Tryz.prog 5 ⟨Frame.enter Tryz.prog 109 #[(.string (mstr ds))] .normal, [], mkH 5 []⟩ (smm_h ds l p j)) : CSp Tryz.prog 5 109 #[(.string (mstr ds))] (mkH 5 []) (.int .i64 (-((l : Nat) : Int))) (mkH 6 []) :=
  seg_fin hmix_ok (hk := hk0) (draw := dr0) (sc := [(2, .op (.nxtE)), (26, .op (.rwI (-((l : Nat) : Int)))), (3, .stay)]) (next := 6) (l := []) (p := (¬ p < (dstr ds).size) ∧ ((IntKind.wrap .i64 ((0 : Int) - ((l : Nat) : Int)) = (-((l : Nat) : Int))) ∧ True)) hk0_ok dr0_ok (by kernel_rfl) ⟨(by omega), (by rw [wrap_i64 (by omega) (by omega)] <;> omega), trivial⟩ hr

theorem smm_loop {ds : List Nat} (hd : Dig ds) (hL : ds.length ≤ 18) : ∀ (k p : Nat) (j : List Value), k = ds.length - p → p ≤ ds.length →
    Gets Tryz.prog 5 ⟨Frame.enter Tryz.prog 109 #[(.string (mstr ds))] .normal, [], mkH 5 []⟩ (smm_h ds (dval (ds.take p)) p j) → CSp Tryz.prog 5 109 #[(.string (mstr ds))] (mkH 5 []) (.int .i64 (-((dval ds : Nat) : Int))) (mkH 6 []) := by
  intro k
  induction k with
  | zero =>
    intro p j hk hp hr
    have hlt : dval ds < 1000000000000000000 := by
      have h2 := dval_lt _ hd
      have h3 : 10 ^ ds.length ≤ 10 ^ 18 := Nat.pow_le_pow_right (by decide) hL
      have h4 : (10 : Nat) ^ 18 = 1000000000000000000 := by decide
      omega
    rw [List.take_of_length_le (by omega)] at hr
    exact smm_o ds (dval ds) p j hlt (by rw [dstr_size]; omega) hr
  | succ k ih =>
    intro p j hk hp hr
    have hlt : dval (ds.take p) < 100000000000000000 := by
      have h2 := dval_lt _ (hd.take p)
      have h3 : 10 ^ (ds.take p).length ≤ 10 ^ 17 := Nat.pow_le_pow_right (by decide) (by rw [List.length_take]; omega)
      have h4 : (10 : Nat) ^ 17 = 100000000000000000 := by decide
      omega
    have r := smm_r ds _ p (ds.getD p 0) j (hd.get p) hlt (by rw [dstr_size]; omega) (decode_dstr hd (by omega))
    rw [← dval_take_succ (by omega)] at r
    exact ih (p + 1) _ (by omega) (by omega) (hr.trans r)
theorem smmc (n0 : Nat) (ds : List Nat) (hG : 5 ≤ n0) (hd : Dig ds) (h0 : 0 < ds.length) (hL : ds.length ≤ 18) : FSp Tryz.prog 5 109 #[(.string (mstr ds))] n0 [] (.int .i64 (-((dval ds : Nat) : Int))) [] [] :=
  fsp_flat [] [] [] [] [] n0 (smm_loop hd hL _ _ _ rfl (Nat.zero_le _) (smm_in ds hd h0)) rfl rfl rfl (by simp) (by simp) hG rfl rfl rfl (by simp) (by simp) rfl rfl rfl

end Go.Proofs.YtpbbfgpnoinkjaaGreatDoor
set_option maxRecDepth 100000
set_option linter.unusedVariables false
set_option linter.unusedSimpArgs false
namespace Go.Proofs.YtpbbfgpnoinkjaaGreatDoor
open Go Go.AE Seg
theorem sg_f (xs : List Nat) (n c : Nat)  (hr : Gets Tryz.prog 5 ⟨Frame.enter Tryz.prog 117 #[(.bool false),(sl 5 n c)] .normal, [], mkH 6 [(5, (cU xs))]⟩ ⟨Frame.enter Tryz.prog 117 #[(.bool false),(sl 5 n c)] .normal, [], mkH 6 [(5, (cU xs))]⟩) : CSp Tryz.prog 5 117 #[(.bool false),(sl 5 n c)] (mkH 6 [(5, (cU xs))]) (.agg #[(.bool false),(sl 5 n c)]) (mkH 7 [(5, (cU xs))]) :=
  seg_fin hmix_ok (hk := hk0) (draw := dr0) (sc := [(17, .stay)]) (next := 7) (l := [(5, (cU xs))]) (p := True) hk0_ok dr0_ok (by kernel_rfl) trivial hr

theorem sg_fc (n0 b : Nat) (xs : List Nat) (n c : Nat) (hb : 5 ≤ b ∧ b < n0) :
    FSp Tryz.prog 5 117 #[.bool false, sl b n c] n0 [(b, cU xs)] (.agg #[.bool false, sl b n c]) [(b, some (cU xs))] [] :=
  fsp_flat [b] [cU xs] [cU xs] [] [] n0 (sg_f xs n c (Gets.refl _)) rfl rfl rfl (by simp) (by simp; omega) (by omega) (by simp [flat, ns_closed]) (by simp [flat, ns_closed]) rfl (by simp) (by simp) rfl rfl rfl

theorem sg_t (xs : List Nat) (n c : Nat) (ht : 0 < n)  (hr : Gets Tryz.prog 5 ⟨Frame.enter Tryz.prog 117 #[(.bool true),(sl 5 n c)] .normal, [], mkH 6 [(5, (cU xs))]⟩ ⟨Frame.enter Tryz.prog 117 #[(.bool true),(sl 5 n c)] .normal, [], mkH 6 [(5, (cU xs))]⟩) : CSp Tryz.prog 5 117 #[(.bool true),(sl 5 n c)] (mkH 6 [(5, (cU xs))]) (.agg #[(.bool true),(sl 5 n c)]) (mkH 7 [(5, (cU xs))]) :=
  seg_fin hmix_ok (hk := hk0) (draw := dr0) (sc := [(10, .op (.rwB true)), (6, .stay)]) (next := 7) (l := [(5, (cU xs))]) (p := (decide (((n : Nat) : Int) > (0 : Int)) = true) ∧ True) hk0_ok dr0_ok (by kernel_rfl) ⟨(by simp only [decide_eq_true_eq, decide_eq_false_iff_not, beq_iff_eq, beq_eq_false_iff_ne, bne_iff_ne, bne_eq_false_iff_eq, ne_eq, gt_iff_lt, ge_iff_le] <;> omega), trivial⟩ hr

theorem sg_tc (n0 b : Nat) (xs : List Nat) (n c : Nat) (hb : 5 ≤ b ∧ b < n0) (ht : 0 < n) :
    FSp Tryz.prog 5 117 #[.bool true, sl b n c] n0 [(b, cU xs)] (.agg #[.bool true, sl b n c]) [(b, some (cU xs))] [] :=
  fsp_flat [b] [cU xs] [cU xs] [] [] n0 (sg_t xs n c ht (Gets.refl _)) rfl rfl rfl (by simp) (by simp; omega) (by omega) (by simp [flat, ns_closed]) (by simp [flat, ns_closed]) rfl (by simp) (by simp) rfl rfl rfl

theorem sg_z (xs : List Nat) (n c : Nat) (ht : n = 0)  (hr : Gets Tryz.prog 5 ⟨Frame.enter Tryz.prog 117 #[(.bool true),(sl 5 n c)] .normal, [], mkH 6 [(5, (cU xs))]⟩ ⟨Frame.enter Tryz.prog 117 #[(.bool true),(sl 5 n c)] .normal, [], mkH 6 [(5, (cU xs))]⟩) : CSp Tryz.prog 5 117 #[(.bool true),(sl 5 n c)] (mkH 6 [(5, (cU xs))]) (.agg #[(.bool false),(sl 5 n c)]) (mkH 7 [(5, (cU xs))]) :=
  seg_fin hmix_ok (hk := hk0) (draw := dr0) (sc := [(10, .op (.rwB false)), (6, .stay)]) (next := 7) (l := [(5, (cU xs))]) (p := (decide (((n : Nat) : Int) > (0 : Int)) = false) ∧ True) hk0_ok dr0_ok (by kernel_rfl) ⟨(by simp only [decide_eq_true_eq, decide_eq_false_iff_not, beq_iff_eq, beq_eq_false_iff_ne, bne_iff_ne, bne_eq_false_iff_eq, ne_eq, gt_iff_lt, ge_iff_le] <;> omega), trivial⟩ hr

theorem sg_zc (n0 b : Nat) (xs : List Nat) (n c : Nat) (hb : 5 ≤ b ∧ b < n0) (ht : n = 0) :
    FSp Tryz.prog 5 117 #[.bool true, sl b n c] n0 [(b, cU xs)] (.agg #[.bool false, sl b n c]) [(b, some (cU xs))] [] :=
  fsp_flat [b] [cU xs] [cU xs] [] [] n0 (sg_z xs n c ht (Gets.refl _)) rfl rfl rfl (by simp) (by simp; omega) (by omega) (by simp [flat, ns_closed]) (by simp [flat, ns_closed]) rfl (by simp) (by simp) rfl rfl rfl

theorem op_t   (hr : Gets Tryz.prog 5 ⟨Frame.enter Tryz.prog 188 #[(.bool false)] .normal, [], mkH 5 []⟩ ⟨Frame.enter Tryz.prog 188 #[(.bool false)] .normal, [], mkH 5 []⟩) : CSp Tryz.prog 5 188 #[(.bool false)] (mkH 5 []) (.bool true) (mkH 5 []) :=
  seg_fin hmix_ok (hk := hk0) (draw := dr0) (sc := [(11, .stay)]) (next := 5) (l := []) (p := True) hk0_ok dr0_ok (by kernel_rfl) trivial hr

theorem op_tc (n0 : Nat) (hG : 5 ≤ n0) : FSp Tryz.prog 5 188 #[(.bool false)] n0 [] (.bool true) [] [] :=
  fsp_flat [] [] [] [] [] n0 (op_t (Gets.refl _)) rfl rfl rfl (by simp) (by simp) hG rfl rfl rfl (by simp) (by simp) rfl rfl rfl

theorem op_f   (hr : Gets Tryz.prog 5 ⟨Frame.enter Tryz.prog 188 #[(.bool true)] .normal, [], mkH 5 []⟩ ⟨Frame.enter Tryz.prog 188 #[(.bool true)] .normal, [], mkH 5 []⟩) : CSp Tryz.prog 5 188 #[(.bool true)] (mkH 5 []) (.bool false) (mkH 5 []) :=
  seg_fin hmix_ok (hk := hk0) (draw := dr0) (sc := [(11, .stay)]) (next := 5) (l := []) (p := True) hk0_ok dr0_ok (by kernel_rfl) trivial hr

theorem op_fc (n0 : Nat) (hG : 5 ≤ n0) : FSp Tryz.prog 5 188 #[(.bool true)] n0 [] (.bool false) [] [] :=
  fsp_flat [] [] [] [] [] n0 (op_f (Gets.refl _)) rfl rfl rfl (by simp) (by simp) hG rfl rfl rfl (by simp) (by simp) rfl rfl rfl

theorem wi_ff   (hr : Gets Tryz.prog 5 ⟨Frame.enter Tryz.prog 118 #[(.bool false),(.bool false)] .normal, [], mkH 5 []⟩ ⟨Frame.enter Tryz.prog 118 #[(.bool false),(.bool false)] .normal, [], mkH 5 []⟩) : CSp Tryz.prog 5 118 #[(.bool false),(.bool false)] (mkH 5 []) (.bool false) (mkH 5 []) :=
  seg_fin hmix_ok (hk := hk0) (draw := dr0) (sc := [(12, .stay)]) (next := 5) (l := []) (p := True) hk0_ok dr0_ok (by kernel_rfl) trivial hr

theorem wi_ffc (n0 : Nat) (hG : 5 ≤ n0) : FSp Tryz.prog 5 118 #[(.bool false),(.bool false)] n0 [] (.bool false) [] [] :=
  fsp_flat [] [] [] [] [] n0 (wi_ff (Gets.refl _)) rfl rfl rfl (by simp) (by simp) hG rfl rfl rfl (by simp) (by simp) rfl rfl rfl

theorem wi_ft   (hr : Gets Tryz.prog 5 ⟨Frame.enter Tryz.prog 118 #[(.bool false),(.bool true)] .normal, [], mkH 5 []⟩ ⟨Frame.enter Tryz.prog 118 #[(.bool false),(.bool true)] .normal, [], mkH 5 []⟩) : CSp Tryz.prog 5 118 #[(.bool false),(.bool true)] (mkH 5 []) (.bool true) (mkH 5 []) :=
  seg_fin hmix_ok (hk := hk0) (draw := dr0) (sc := [(12, .stay)]) (next := 5) (l := []) (p := True) hk0_ok dr0_ok (by kernel_rfl) trivial hr

theorem wi_ftc (n0 : Nat) (hG : 5 ≤ n0) : FSp Tryz.prog 5 118 #[(.bool false),(.bool true)] n0 [] (.bool true) [] [] :=
  fsp_flat [] [] [] [] [] n0 (wi_ft (Gets.refl _)) rfl rfl rfl (by simp) (by simp) hG rfl rfl rfl (by simp) (by simp) rfl rfl rfl

theorem wi_tf   (hr : Gets Tryz.prog 5 ⟨Frame.enter Tryz.prog 118 #[(.bool true),(.bool false)] .normal, [], mkH 5 []⟩ ⟨Frame.enter Tryz.prog 118 #[(.bool true),(.bool false)] .normal, [], mkH 5 []⟩) : CSp Tryz.prog 5 118 #[(.bool true),(.bool false)] (mkH 5 []) (.bool true) (mkH 5 []) :=
  seg_fin hmix_ok (hk := hk0) (draw := dr0) (sc := [(12, .stay)]) (next := 5) (l := []) (p := True) hk0_ok dr0_ok (by kernel_rfl) trivial hr

theorem wi_tfc (n0 : Nat) (hG : 5 ≤ n0) : FSp Tryz.prog 5 118 #[(.bool true),(.bool false)] n0 [] (.bool true) [] [] :=
  fsp_flat [] [] [] [] [] n0 (wi_tf (Gets.refl _)) rfl rfl rfl (by simp) (by simp) hG rfl rfl rfl (by simp) (by simp) rfl rfl rfl

theorem wi_tt   (hr : Gets Tryz.prog 5 ⟨Frame.enter Tryz.prog 118 #[(.bool true),(.bool true)] .normal, [], mkH 5 []⟩ ⟨Frame.enter Tryz.prog 118 #[(.bool true),(.bool true)] .normal, [], mkH 5 []⟩) : CSp Tryz.prog 5 118 #[(.bool true),(.bool true)] (mkH 5 []) (.bool false) (mkH 5 []) :=
  seg_fin hmix_ok (hk := hk0) (draw := dr0) (sc := [(12, .stay)]) (next := 5) (l := []) (p := True) hk0_ok dr0_ok (by kernel_rfl) trivial hr

theorem wi_ttc (n0 : Nat) (hG : 5 ≤ n0) : FSp Tryz.prog 5 118 #[(.bool true),(.bool true)] n0 [] (.bool false) [] [] :=
  fsp_flat [] [] [] [] [] n0 (wi_tt (Gets.refl _)) rfl rfl rfl (by simp) (by simp) hG rfl rfl rfl (by simp) (by simp) rfl rfl rfl

theorem ng_t (xs : List Nat) (n c : Nat)  (hr : Gets Tryz.prog 5 ⟨Frame.enter Tryz.prog 150 #[(.agg #[(.bool true),(sl 5 n c)])] .normal, [], mkH 6 [(5, (cU xs))]⟩ ⟨Frame.enter Tryz.prog 150 #[(.agg #[(.bool true),(sl 5 n c)])] .normal, [], mkH 6 [(5, (cU xs))]⟩) : CSp Tryz.prog 5 150 #[(.agg #[(.bool true),(sl 5 n c)])] (mkH 6 [(5, (cU xs))]) (.agg #[(.bool false),(sl 5 n c)]) (mkH 8 [(5, (cU xs))]) :=
  seg_fin hmix_ok (hk := hk0) (draw := dr0) (sc := [(6, .drwM [] [⟨2, [], (.bool false), [], []⟩, ⟨5, [5], (.agg #[(.bool false),(sl 5 n c)]), [(5,some (cU xs))], []⟩]), (1, .stay)]) (next := 8) (l := [(5, (cU xs))]) (p := (True ∧ (True ∧ (True ∧ (True ∧ ((FSp Tryz.prog 5 188 #[(.bool true)] 8 [] (.bool false) [] []) ∧ ((FSp Tryz.prog 5 117 #[(.bool false),(sl 5 n c)] 8 [(5,(cU xs))] (.agg #[(.bool false),(sl 5 n c)]) [(5,some (cU xs))] []) ∧ (True ∧ (True)))))))) ∧ True) hk0_ok dr0_ok (by kernel_rfl) ⟨⟨trivial, trivial, trivial, trivial, (op_fc 8 (by omega)), (sg_fc 8 5 xs n c (by omega)), trivial, trivial⟩, trivial⟩ hr

theorem ng_tc (n0 b : Nat) (xs : List Nat) (n c : Nat) (hb : 5 ≤ b ∧ b < n0) :
    FSp Tryz.prog 5 150 #[.agg #[.bool true, sl b n c]] n0 [(b, cU xs)] (.agg #[.bool false, sl b n c]) [(b, some (cU xs))] [] :=
  fsp_flat [b] [cU xs] [cU xs] [] [] n0 (ng_t xs n c (Gets.refl _)) rfl rfl rfl (by simp) (by simp; omega) (by omega) (by simp [flat, ns_closed]) (by simp [flat, ns_closed]) rfl (by simp) (by simp) rfl rfl rfl

theorem ng_f (xs : List Nat) (n c : Nat) (ht : 0 < n)  (hr : Gets Tryz.prog 5 ⟨Frame.enter Tryz.prog 150 #[(.agg #[(.bool false),(sl 5 n c)])] .normal, [], mkH 6 [(5, (cU xs))]⟩ ⟨Frame.enter Tryz.prog 150 #[(.agg #[(.bool false),(sl 5 n c)])] .normal, [], mkH 6 [(5, (cU xs))]⟩) : CSp Tryz.prog 5 150 #[(.agg #[(.bool false),(sl 5 n c)])] (mkH 6 [(5, (cU xs))]) (.agg #[(.bool true),(sl 5 n c)]) (mkH 8 [(5, (cU xs))]) :=
  seg_fin hmix_ok (hk := hk0) (draw := dr0) (sc := [(6, .drwM [] [⟨2, [], (.bool true), [], []⟩, ⟨5, [5], (.agg #[(.bool true),(sl 5 n c)]), [(5,some (cU xs))], []⟩]), (1, .stay)]) (next := 8) (l := [(5, (cU xs))]) (p := (True ∧ (True ∧ (True ∧ (True ∧ ((FSp Tryz.prog 5 188 #[(.bool false)] 8 [] (.bool true) [] []) ∧ ((FSp Tryz.prog 5 117 #[(.bool true),(sl 5 n c)] 8 [(5,(cU xs))] (.agg #[(.bool true),(sl 5 n c)]) [(5,some (cU xs))] []) ∧ (True ∧ (True)))))))) ∧ True) hk0_ok dr0_ok (by kernel_rfl) ⟨⟨trivial, trivial, trivial, trivial, (op_tc 8 (by omega)), (sg_tc 8 5 xs n c (by omega) ht), trivial, trivial⟩, trivial⟩ hr

theorem ng_fc (n0 b : Nat) (xs : List Nat) (n c : Nat) (hb : 5 ≤ b ∧ b < n0) (ht : 0 < n) :
    FSp Tryz.prog 5 150 #[.agg #[.bool false, sl b n c]] n0 [(b, cU xs)] (.agg #[.bool true, sl b n c]) [(b, some (cU xs))] [] :=
  fsp_flat [b] [cU xs] [cU xs] [] [] n0 (ng_f xs n c ht (Gets.refl _)) rfl rfl rfl (by simp) (by simp; omega) (by omega) (by simp [flat, ns_closed]) (by simp [flat, ns_closed]) rfl (by simp) (by simp) rfl rfl rfl

theorem ng_z (xs : List Nat) (n c : Nat) (ht : n = 0)  (hr : Gets Tryz.prog 5 ⟨Frame.enter Tryz.prog 150 #[(.agg #[(.bool false),(sl 5 n c)])] .normal, [], mkH 6 [(5, (cU xs))]⟩ ⟨Frame.enter Tryz.prog 150 #[(.agg #[(.bool false),(sl 5 n c)])] .normal, [], mkH 6 [(5, (cU xs))]⟩) : CSp Tryz.prog 5 150 #[(.agg #[(.bool false),(sl 5 n c)])] (mkH 6 [(5, (cU xs))]) (.agg #[(.bool false),(sl 5 n c)]) (mkH 8 [(5, (cU xs))]) :=
  seg_fin hmix_ok (hk := hk0) (draw := dr0) (sc := [(6, .drwM [] [⟨2, [], (.bool true), [], []⟩, ⟨5, [5], (.agg #[(.bool false),(sl 5 n c)]), [(5,some (cU xs))], []⟩]), (1, .stay)]) (next := 8) (l := [(5, (cU xs))]) (p := (True ∧ (True ∧ (True ∧ (True ∧ ((FSp Tryz.prog 5 188 #[(.bool false)] 8 [] (.bool true) [] []) ∧ ((FSp Tryz.prog 5 117 #[(.bool true),(sl 5 n c)] 8 [(5,(cU xs))] (.agg #[(.bool false),(sl 5 n c)]) [(5,some (cU xs))] []) ∧ (True ∧ (True)))))))) ∧ True) hk0_ok dr0_ok (by kernel_rfl) ⟨⟨trivial, trivial, trivial, trivial, (op_tc 8 (by omega)), (sg_zc 8 5 xs n c (by omega) ht), trivial, trivial⟩, trivial⟩ hr

theorem ng_zc (n0 b : Nat) (xs : List Nat) (n c : Nat) (hb : 5 ≤ b ∧ b < n0) (ht : n = 0) :
    FSp Tryz.prog 5 150 #[.agg #[.bool false, sl b n c]] n0 [(b, cU xs)] (.agg #[.bool false, sl b n c]) [(b, some (cU xs))] [] :=
  fsp_flat [b] [cU xs] [cU xs] [] [] n0 (ng_z xs n c ht (Gets.refl _)) rfl rfl rfl (by simp) (by simp; omega) (by omega) (by simp [flat, ns_closed]) (by simp [flat, ns_closed]) rfl (by simp) (by simp) rfl rfl rfl

end Go.Proofs.YtpbbfgpnoinkjaaGreatDoor
