import Derived.Test.YtpbbfgpnoinkjaaGreatDoorK
set_option linter.unusedVariables false
set_option linter.unusedSimpArgs false
set_option maxRecDepth 100000
set_option linter.unusedVariables false
set_option linter.unusedSimpArgs false
namespace Go.Proofs.YtpbbfgpnoinkjaaGreatDoor
open Go Go.AE Seg
theorem sg_f (xs : List Nat) (n c : Nat)  (hr : Gets Tryz.prog 5 ⟨Frame.enter Tryz.prog 117 #[(.bool false),(sl 5 n c)] .normal, [], mkH 6 [(5, (cU xs))]⟩ ⟨Frame.enter Tryz.prog 117 #[(.bool false),(sl 5 n c)] .normal, [], mkH 6 [(5, (cU xs))]⟩) : CSp Tryz.prog 5 117 #[(.bool false),(sl 5 n c)] (mkH 6 [(5, (cU xs))]) (.agg #[(.bool false),(sl 5 n c)]) (mkH 7 [(5, (cU xs))]) :=
  seg_fin hmix_ok (hk := hk0) (draw := dr0) (sc := [(17, .stay)]) (next := 7) (l := [(5, (cU xs))]) (p := True) hk0_ok dr0_ok (by kernel_rfl) trivial hr

theorem sg_fc (n0 b : Nat) (xs : List Nat) (n c : Nat) (hb : 5 ≤ b ∧ b < n0) :
    FSp Tryz.prog 5 117 #[.bool false, sl b n c] n0 [(b, cU xs)] (.agg #[.bool false, sl b n c]) [(b, some (cU xs))] [] :=
  fsp_flat [b] [cU xs] [cU xs] [] [] n0 (sg_f xs n c (Gets.refl _)) rfl rfl rfl (by simp) (by simp; omega) (by omega) (by simp [flat, ns_closed]) (by simp [flat, ns_closed]) rfl (by simp) (by simp) rfl rfl rfl

theorem sg_t (xs : List Nat) (n c : Nat) (ht : 0 < n)  (hr : Gets Tryz.prog 5 ⟨Frame.enter Tryz.prog 117 #[(.bool true),(sl 5 n c)] .normal, [], mkH 6 [(5, (cU xs))]⟩ ⟨Frame.enter Tryz.prog 117 #[(.bool true),(sl 5 n c)] .normal, [], mkH 6 [(5, (cU xs))]⟩) : CSp Tryz.prog 5 117 #[(.bool true),(sl 5 n c)] (mkH 6 [(5, (cU xs))]) (.agg #[(.bool true),(sl 5 n c)]) (mkH 7 [(5, (cU xs))]) :=
  seg_fin hmix_ok (hk := hk0) (draw := dr0) (sc := [(10, .op (.rwB true)), (6, .stay)]) (next := 7) (l := [(5, (cU xs))]) (p := (decide (((n : Nat) : Int) > (0 : Int)) = true) ∧ True) hk0_ok dr0_ok (by kernel_rfl) ⟨(by simp only [decide_eq_true_eq, decide_eq_false_iff_not, beq_iff_eq, beq_eq_false_iff_ne, bne_iff_ne, bne_eq_false_iff_eq, ne_eq, gt_iff_lt, ge_iff_le] <;> omega), trivial⟩ hr

theorem sg_tc (n0 b : Nat) (xs : List Nat) (n c : Nat) (hb : 5 ≤ b ∧ b < n0) (ht : 0 < n) :
    FSp Tryz.prog 5 117 #[.bool true, sl b n c] n0 [(b, cU xs)] (.agg #[.bool true, sl b n c]) [(b, some (cU xs))] [] :=
  fsp_flat [b] [cU xs] [cU xs] [] [] n0 (sg_t xs n c ht (Gets.refl _)) rfl rfl rfl (by simp) (by simp; omega) (by omega) (by simp [flat, ns_closed]) (by simp [flat, ns_closed]) rfl (by simp) (by simp) rfl rfl rfl

theorem sg_z (xs : List Nat) (n c : Nat) (ht : n = 0)  (hr : Gets Tryz.prog 5 ⟨Frame.enter Tryz.prog 117 #[(.bool true),(sl 5 n c)] .normal, [], mkH 6 [(5, (cU xs))]⟩ ⟨Frame.enter Tryz.prog 117 #[(.bool true),(sl 5 n c)] .normal, [], mkH 6 [(5, (cU xs))]⟩) : CSp Tryz.prog 5 117 #[(.bool true),(sl 5 n c)] (mkH 6 [(5, (cU xs))]) (.agg #[(.bool false),(sl 5 n c)]) (mkH 7 [(5, (cU xs))]) :=
  seg_fin hmix_ok (hk := hk0) (draw := dr0) (sc := [(10, .op (.rwB false)), (6, .stay)]) (next := 7) (l := [(5, (cU xs))]) (p := (decide (((n : Nat) : Int) > (0 : Int)) = false) ∧ True) hk0_ok dr0_ok (by kernel_rfl) ⟨(by simp only [decide_eq_true_eq, decide_eq_false_iff_not, beq_iff_eq, beq_eq_false_iff_ne, bne_iff_ne, bne_eq_false_iff_eq, ne_eq, gt_iff_lt, ge_iff_le] <;> omega), trivial⟩ hr

theorem sg_zc (n0 b : Nat) (xs : List Nat) (n c : Nat) (hb : 5 ≤ b ∧ b < n0) (ht : n = 0) :
    FSp Tryz.prog 5 117 #[.bool true, sl b n c] n0 [(b, cU xs)] (.agg #[.bool false, sl b n c]) [(b, some (cU xs))] [] :=
  fsp_flat [b] [cU xs] [cU xs] [] [] n0 (sg_z xs n c ht (Gets.refl _)) rfl rfl rfl (by simp) (by simp; omega) (by omega) (by simp [flat, ns_closed]) (by simp [flat, ns_closed]) rfl (by simp) (by simp) rfl rfl rfl

theorem op_t   (hr : Gets Tryz.prog 5 ⟨Frame.enter Tryz.prog 188 #[(.bool false)] .normal, [], mkH 5 []⟩ ⟨Frame.enter Tryz.prog 188 #[(.bool false)] .normal, [], mkH 5 []⟩) : CSp Tryz.prog 5 188 #[(.bool false)] (mkH 5 []) (.bool true) (mkH 5 []) :=
  seg_fin hmix_ok (hk := hk0) (draw := dr0) (sc := [(11, .stay)]) (next := 5) (l := []) (p := True) hk0_ok dr0_ok (by kernel_rfl) trivial hr

theorem op_tc (n0 : Nat) (hG : 5 ≤ n0) : FSp Tryz.prog 5 188 #[(.bool false)] n0 [] (.bool true) [] [] :=
  fsp_flat [] [] [] [] [] n0 (op_t (Gets.refl _)) rfl rfl rfl (by simp) (by simp) hG rfl rfl rfl (by simp) (by simp) rfl rfl rfl

theorem op_f   (hr : Gets Tryz.prog 5 ⟨Frame.enter Tryz.prog 188 #[(.bool true)] .normal, [], mkH 5 []⟩ ⟨Frame.enter Tryz.prog 188 #[(.bool true)] .normal, [], mkH 5 []⟩) : CSp Tryz.prog 5 188 #[(.bool true)] (mkH 5 []) (.bool false) (mkH 5 []) :=
  seg_fin hmix_ok (hk := hk0) (draw := dr0) (sc := [(11, .stay)]) (next := 5) (l := []) (p := True) hk0_ok dr0_ok (by kernel_rfl) trivial hr

theorem op_fc (n0 : Nat) (hG : 5 ≤ n0) : FSp Tryz.prog 5 188 #[(.bool true)] n0 [] (.bool false) [] [] :=
  fsp_flat [] [] [] [] [] n0 (op_f (Gets.refl _)) rfl rfl rfl (by simp) (by simp) hG rfl rfl rfl (by simp) (by simp) rfl rfl rfl

theorem wi_ff   (hr : Gets Tryz.prog 5 ⟨Frame.enter Tryz.prog 118 #[(.bool false),(.bool false)] .normal, [], mkH 5 []⟩ ⟨Frame.enter Tryz.prog 118 #[(.bool false),(.bool false)] .normal, [], mkH 5 []⟩) : CSp Tryz.prog 5 118 #[(.bool false),(.bool false)] (mkH 5 []) (.bool false) (mkH 5 []) :=
  seg_fin hmix_ok (hk := hk0) (draw := dr0) (sc := [(12, .stay)]) (next := 5) (l := []) (p := True) hk0_ok dr0_ok (by kernel_rfl) trivial hr

theorem wi_ffc (n0 : Nat) (hG : 5 ≤ n0) : FSp Tryz.prog 5 118 #[(.bool false),(.bool false)] n0 [] (.bool false) [] [] :=
  fsp_flat [] [] [] [] [] n0 (wi_ff (Gets.refl _)) rfl rfl rfl (by simp) (by simp) hG rfl rfl rfl (by simp) (by simp) rfl rfl rfl

theorem wi_ft   (hr : Gets Tryz.prog 5 ⟨Frame.enter Tryz.prog 118 #[(.bool false),(.bool true)] .normal, [], mkH 5 []⟩ ⟨Frame.enter Tryz.prog 118 #[(.bool false),(.bool true)] .normal, [], mkH 5 []⟩) : CSp Tryz.prog 5 118 #[(.bool false),(.bool true)] (mkH 5 []) (.bool true) (mkH 5 []) :=
  seg_fin hmix_ok (hk := hk0) (draw := dr0) (sc := [(12, .stay)]) (next := 5) (l := []) (p := True) hk0_ok dr0_ok (by kernel_rfl) trivial hr

theorem wi_ftc (n0 : Nat) (hG : 5 ≤ n0) : FSp Tryz.prog 5 118 #[(.bool false),(.bool true)] n0 [] (.bool true) [] [] :=
  fsp_flat [] [] [] [] [] n0 (wi_ft (Gets.refl _)) rfl rfl rfl (by simp) (by simp) hG rfl rfl rfl (by simp) (by simp) rfl rfl rfl

theorem wi_tf   (hr : Gets Tryz.prog 5 ⟨Frame.enter Tryz.prog 118 #[(.bool true),(.bool false)] .normal, [], mkH 5 []⟩ ⟨Frame.enter Tryz.prog 118 #[(.bool true),(.bool false)] .normal, [], mkH 5 []⟩) : CSp Tryz.prog 5 118 #[(.bool true),(.bool false)] (mkH 5 []) (.bool true) (mkH 5 []) :=
  seg_fin hmix_ok (hk := hk0) (draw := dr0) (sc := [(12, .stay)]) (next := 5) (l := []) (p := True) hk0_ok dr0_ok (by kernel_rfl) trivial hr

theorem wi_tfc (n0 : Nat) (hG : 5 ≤ n0) : FSp Tryz.prog 5 118 #[(.bool true),(.bool false)] n0 [] (.bool true) [] [] :=
  fsp_flat [] [] [] [] [] n0 (wi_tf (Gets.refl _)) rfl rfl rfl (by simp) (by simp) hG rfl rfl rfl (by simp) (by simp) rfl rfl rfl

theorem wi_tt   (hr : Gets Tryz.prog 5 ⟨Frame.enter Tryz.prog 118 #[(.bool true),(.bool true)] .normal, [], mkH 5 []⟩ ⟨Frame.enter Tryz.prog 118 #[(.bool true),(.bool true)] .normal, [], mkH 5 []⟩) : CSp Tryz.prog 5 118 #[(.bool true),(.bool true)] (mkH 5 []) (.bool false) (mkH 5 []) :=
  seg_fin hmix_ok (hk := hk0) (draw := dr0) (sc := [(12, .stay)]) (next := 5) (l := []) (p := True) hk0_ok dr0_ok (by kernel_rfl) trivial hr

theorem wi_ttc (n0 : Nat) (hG : 5 ≤ n0) : FSp Tryz.prog 5 118 #[(.bool true),(.bool true)] n0 [] (.bool false) [] [] :=
  fsp_flat [] [] [] [] [] n0 (wi_tt (Gets.refl _)) rfl rfl rfl (by simp) (by simp) hG rfl rfl rfl (by simp) (by simp) rfl rfl rfl

theorem ng_t (xs : List Nat) (n c : Nat)  (hr : Gets Tryz.prog 5 ⟨Frame.enter Tryz.prog 150 #[(.agg #[(.bool true),(sl 5 n c)])] .normal, [], mkH 6 [(5, (cU xs))]⟩ ⟨Frame.enter Tryz.prog 150 #[(.agg #[(.bool true),(sl 5 n c)])] .normal, [], mkH 6 [(5, (cU xs))]⟩) : CSp Tryz.prog 5 150 #[(.agg #[(.bool true),(sl 5 n c)])] (mkH 6 [(5, (cU xs))]) (.agg #[(.bool false),(sl 5 n c)]) (mkH 8 [(5, (cU xs))]) :=
  seg_fin hmix_ok (hk := hk0) (draw := dr0) (sc := [(6, .drwM [] [⟨2, [], (.bool false), [], []⟩, ⟨5, [5], (.agg #[(.bool false),(sl 5 n c)]), [(5,some (cU xs))], []⟩]), (1, .stay)]) (next := 8) (l := [(5, (cU xs))]) (p := (True ∧ (True ∧ (True ∧ (True ∧ ((FSp Tryz.prog 5 188 #[(.bool true)] 8 [] (.bool false) [] []) ∧ ((FSp Tryz.prog 5 117 #[(.bool false),(sl 5 n c)] 8 [(5,(cU xs))] (.agg #[(.bool false),(sl 5 n c)]) [(5,some (cU xs))] []) ∧ (True ∧ (True)))))))) ∧ True) hk0_ok dr0_ok (by kernel_rfl) ⟨⟨trivial, trivial, trivial, trivial, (op_fc 8 (by omega)), (sg_fc 8 5 xs n c (by omega)), trivial, trivial⟩, trivial⟩ hr

theorem ng_tc (n0 b : Nat) (xs : List Nat) (n c : Nat) (hb : 5 ≤ b ∧ b < n0) :
    FSp Tryz.prog 5 150 #[.agg #[.bool true, sl b n c]] n0 [(b, cU xs)] (.agg #[.bool false, sl b n c]) [(b, some (cU xs))] [] :=
  fsp_flat [b] [cU xs] [cU xs] [] [] n0 (ng_t xs n c (Gets.refl _)) rfl rfl rfl (by simp) (by simp; omega) (by omega) (by simp [flat, ns_closed]) (by simp [flat, ns_closed]) rfl (by simp) (by simp) rfl rfl rfl

theorem ng_f (xs : List Nat) (n c : Nat) (ht : 0 < n)  (hr : Gets Tryz.prog 5 ⟨Frame.enter Tryz.prog 150 #[(.agg #[(.bool false),(sl 5 n c)])] .normal, [], mkH 6 [(5, (cU xs))]⟩ ⟨Frame.enter Tryz.prog 150 #[(.agg #[(.bool false),(sl 5 n c)])] .normal, [], mkH 6 [(5, (cU xs))]⟩) : CSp Tryz.prog 5 150 #[(.agg #[(.bool false),(sl 5 n c)])] (mkH 6 [(5, (cU xs))]) (.agg #[(.bool true),(sl 5 n c)]) (mkH 8 [(5, (cU xs))]) :=
  seg_fin hmix_ok (hk := hk0) (draw := dr0) (sc := [(6, .drwM [] [⟨2, [], (.bool true), [], []⟩, ⟨5, [5], (.agg #[(.bool true),(sl 5 n c)]), [(5,some (cU xs))], []⟩]), (1, .stay)]) (next := 8) (l := [(5, (cU xs))]) (p := (True ∧ (True ∧ (True ∧ (True ∧ ((FSp Tryz.prog 5 188 #[(.bool false)] 8 [] (.bool true) [] []) ∧ ((FSp Tryz.prog 5 117 #[(.bool true),(sl 5 n c)] 8 [(5,(cU xs))] (.agg #[(.bool true),(sl 5 n c)]) [(5,some (cU xs))] []) ∧ (True ∧ (True)))))))) ∧ True) hk0_ok dr0_ok (by kernel_rfl) ⟨⟨trivial, trivial, trivial, trivial, (op_tc 8 (by omega)), (sg_tc 8 5 xs n c (by omega) ht), trivial, trivial⟩, trivial⟩ hr

theorem ng_fc (n0 b : Nat) (xs : List Nat) (n c : Nat) (hb : 5 ≤ b ∧ b < n0) (ht : 0 < n) :
    FSp Tryz.prog 5 150 #[.agg #[.bool false, sl b n c]] n0 [(b, cU xs)] (.agg #[.bool true, sl b n c]) [(b, some (cU xs))] [] :=
  fsp_flat [b] [cU xs] [cU xs] [] [] n0 (ng_f xs n c ht (Gets.refl _)) rfl rfl rfl (by simp) (by simp; omega) (by omega) (by simp [flat, ns_closed]) (by simp [flat, ns_closed]) rfl (by simp) (by simp) rfl rfl rfl

theorem ng_z (xs : List Nat) (n c : Nat) (ht : n = 0)  (hr : Gets Tryz.prog 5 ⟨Frame.enter Tryz.prog 150 #[(.agg #[(.bool false),(sl 5 n c)])] .normal, [], mkH 6 [(5, (cU xs))]⟩ ⟨Frame.enter Tryz.prog 150 #[(.agg #[(.bool false),(sl 5 n c)])] .normal, [], mkH 6 [(5, (cU xs))]⟩) : CSp Tryz.prog 5 150 #[(.agg #[(.bool false),(sl 5 n c)])] (mkH 6 [(5, (cU xs))]) (.agg #[(.bool false),(sl 5 n c)]) (mkH 8 [(5, (cU xs))]) :=
  seg_fin hmix_ok (hk := hk0) (draw := dr0) (sc := [(6, .drwM [] [⟨2, [], (.bool true), [], []⟩, ⟨5, [5], (.agg #[(.bool false),(sl 5 n c)]), [(5,some (cU xs))], []⟩]), (1, .stay)]) (next := 8) (l := [(5, (cU xs))]) (p := (True ∧ (True ∧ (True ∧ (True ∧ ((FSp Tryz.prog 5 188 #[(.bool false)] 8 [] (.bool true) [] []) ∧ ((FSp Tryz.prog 5 117 #[(.bool true),(sl 5 n c)] 8 [(5,(cU xs))] (.agg #[(.bool false),(sl 5 n c)]) [(5,some (cU xs))] []) ∧ (True ∧ (True)))))))) ∧ True) hk0_ok dr0_ok (by kernel_rfl) ⟨⟨trivial, trivial, trivial, trivial, (op_tc 8 (by omega)), (sg_zc 8 5 xs n c (by omega) ht), trivial, trivial⟩, trivial⟩ hr

theorem ng_zc (n0 b : Nat) (xs : List Nat) (n c : Nat) (hb : 5 ≤ b ∧ b < n0) (ht : n = 0) :
    FSp Tryz.prog 5 150 #[.agg #[.bool false, sl b n c]] n0 [(b, cU xs)] (.agg #[.bool false, sl b n c]) [(b, some (cU xs))] [] :=
  fsp_flat [b] [cU xs] [cU xs] [] [] n0 (ng_z xs n c ht (Gets.refl _)) rfl rfl rfl (by simp) (by simp; omega) (by omega) (by simp [flat, ns_closed]) (by simp [flat, ns_closed]) rfl (by simp) (by simp) rfl rfl rfl

end Go.Proofs.YtpbbfgpnoinkjaaGreatDoor
set_option maxRecDepth 100000
set_option linter.unusedVariables false
set_option linter.unusedSimpArgs false
namespace Go.Proofs.YtpbbfgpnoinkjaaGreatDoor
open Go Go.AE Seg
noncomputable def gain_h_f (xs ys : List Nat) (n c k e : Nat) (q i : Nat) (j : List Value) : Frame := ⟨189, List.toArray [(sl 5 n c), (sl 6 k e), undef, undef, (.int .u32 ((q : Nat) : Int)), (.int .i64 ((i : Nat) : Int)), (J j 0), (J j 1), (J j 2), (J j 3), (J j 4), (J j 5), (J j 6), (J j 7), (J j 8), (J j 9), (J j 10), (J j 11), (J j 12), (J j 13), (J j 14), (J j 15), (J j 16), (J j 17), (J j 18), (J j 19), (J j 20), (J j 21), (J j 22), (J j 23), (J j 24), (J j 25), (J j 26), (J j 27), (J j 28), (J j 29), (J j 30), (J j 31), (J j 32), (J j 33)], [.code (cd Tryz.f189 [1, 1, 0, 0]), .inLoop (cd Tryz.f189 [1, 1, 0, 0]), .inBlock 0], [], .run, .normal, none⟩
noncomputable def gain_h_o (xs ys : List Nat) (n c k e : Nat) (q i : Nat) : List (Nat × AObj) := [(5, (cU xs)), (6, (cU ys))]
noncomputable def gain_h (xs ys : List Nat) (n c k e : Nat) (q i : Nat) (j : List Value) : AS := ⟨gain_h_f xs ys n c k e q i j, [], mkH 7 (gain_h_o xs ys n c k e q i)⟩
theorem gain_in (xs ys : List Nat) (n c k e : Nat)  : Gets Tryz.prog 5 ⟨Frame.enter Tryz.prog 189 #[(sl 5 n c),(sl 6 k e)] .normal, [], mkH 7 [(5, (cU xs)), (6, (cU ys))]⟩ (gain_h xs ys n c k e 0 0 [undef, undef, undef, undef, undef, undef, undef, undef, undef, undef, undef, undef, undef, undef, undef, undef, undef, undef, undef, undef, undef, undef, undef, undef, undef, undef, undef, undef, undef, undef, undef, undef, undef, undef]) :=
  seg_reach hmix_ok (hk := hk0) (draw := dr0) (sc := [(10, .stay)]) (fr1 := gain_h_f xs ys n c k e 0 0 [undef, undef, undef, undef, undef, undef, undef, undef, undef, undef, undef, undef, undef, undef, undef, undef, undef, undef, undef, undef, undef, undef, undef, undef, undef, undef, undef, undef, undef, undef, undef, undef, undef, undef]) (cs1 := []) (next := 7) (l := gain_h_o xs ys n c k e 0 0) (p := True) hk0_ok dr0_ok (by kernel_rfl) trivial
theorem gain_r1 (xs ys : List Nat) (n c k e q i a b : Nat) (j : List Value) (hi : i < k) (hn : i < n) (hc : n ≤ xs.length) (hm : n < 9223372036854775807) (hkm : k < 9223372036854775807) (hb : b < 1000000000) (ha : a < 1000000000) (hq : q ≤ 1) (hx : (ns .u32 xs)[i]? = some (.int .u32 (a : Nat))) (hy : (ns .u32 ys)[i]? = some (.int .u32 (b : Nat)))  : Gets Tryz.prog 5 (gain_h xs ys n c k e q i j) (gain_h (xs.set i (((a + q) + b) % 1000000000)) ys n c k e (((a + q) + b) / 1000000000) (i + 1) [(.int .u32 ((((a + q) + b) : Nat) : Int)), (.int .i64 ((i : Nat) : Int)), (sl 6 k e), (.int .i64 ((k : Nat) : Int)), (.bool true), (.bool true), undef, undef, (.bool true), (.int .i64 ((i : Nat) : Int)), (.int .i64 (((i + 1) : Nat) : Int)), (sl 5 n c), (.int .i64 ((i : Nat) : Int)), (.pointer (some ⟨5,i,none⟩)), (.int .u32 ((a : Nat) : Int)), (.int .u32 ((q : Nat) : Int)), (.int .u32 (((a + q) : Nat) : Int)), (.int .i64 ((i : Nat) : Int)), (sl 6 k e), (.int .i64 ((k : Nat) : Int)), (.bool true), (.int .u32 (((a + q) : Nat) : Int)), (sl 6 k e), (.int .i64 ((i : Nat) : Int)), (.pointer (some ⟨6,i,none⟩)), (.int .u32 ((b : Nat) : Int)), (.int .u32 ((((a + q) + b) : Nat) : Int)), (.int .u32 ((((a + q) + b) : Nat) : Int)), (.int .u32 (((((a + q) + b) / 1000000000) : Nat) : Int)), (sl 5 n c), (.int .i64 ((i : Nat) : Int)), (.int .u32 ((((a + q) + b) : Nat) : Int)), (.int .u32 (((((a + q) + b) % 1000000000) : Nat) : Int)), (.pointer (some ⟨5,i,none⟩))]) :=
  seg_reach hmix_ok (hk := hk0) (draw := dr0) (sc := [(6, .op (.rwB true)), (13, .op (.idx i)), (0, .op (.ld (.int .u32 ((a : Nat) : Int)))), (1, .op (.rwI (((a + q) : Nat) : Int))), (8, .op (.rwB true)), (6, .op (.idx i)), (0, .op (.ld (.int .u32 ((b : Nat) : Int)))), (0, .op (.rwI ((((a + q) + b) : Nat) : Int))), (5, .op (.rwI (((((a + q) + b) / 1000000000) : Nat) : Int))), (6, .op (.rwI (((((a + q) + b) % 1000000000) : Nat) : Int))), (0, .op (.idx i)), (0, .op (.st (ns .u32 (xs.set i (((a + q) + b) % 1000000000))))), (4, .op (.rwI (((i + 1) : Nat) : Int))), (3, .stay)]) (fr1 := gain_h_f (xs.set i (((a + q) + b) % 1000000000)) ys n c k e (((a + q) + b) / 1000000000) (i + 1) [(.int .u32 ((((a + q) + b) : Nat) : Int)), (.int .i64 ((i : Nat) : Int)), (sl 6 k e), (.int .i64 ((k : Nat) : Int)), (.bool true), (.bool true), undef, undef, (.bool true), (.int .i64 ((i : Nat) : Int)), (.int .i64 (((i + 1) : Nat) : Int)), (sl 5 n c), (.int .i64 ((i : Nat) : Int)), (.pointer (some ⟨5,i,none⟩)), (.int .u32 ((a : Nat) : Int)), (.int .u32 ((q : Nat) : Int)), (.int .u32 (((a + q) : Nat) : Int)), (.int .i64 ((i : Nat) : Int)), (sl 6 k e), (.int .i64 ((k : Nat) : Int)), (.bool true), (.int .u32 (((a + q) : Nat) : Int)), (sl 6 k e), (.int .i64 ((i : Nat) : Int)), (.pointer (some ⟨6,i,none⟩)), (.int .u32 ((b : Nat) : Int)), (.int .u32 ((((a + q) + b) : Nat) : Int)), (.int .u32 ((((a + q) + b) : Nat) : Int)), (.int .u32 (((((a + q) + b) / 1000000000) : Nat) : Int)), (sl 5 n c), (.int .i64 ((i : Nat) : Int)), (.int .u32 ((((a + q) + b) : Nat) : Int)), (.int .u32 (((((a + q) + b) % 1000000000) : Nat) : Int)), (.pointer (some ⟨5,i,none⟩))]) (cs1 := []) (next := 7) (l := gain_h_o (xs.set i (((a + q) + b) % 1000000000)) ys n c k e (((a + q) + b) / 1000000000) (i + 1)) (p := (decide (((i : Nat) : Int) < ((k : Nat) : Int)) = true) ∧ ((0 ≤ ((i : Nat) : Int) ∧ ((i : Nat) : Int) < ((n : Nat) : Int) ∧ 0 + Int.toNat ((i : Nat) : Int) * 1 = i) ∧ ((((ns .u32 xs) : List Value)[i]? = some (.int .u32 ((a : Nat) : Int))) ∧ ((IntKind.wrap .u32 (((a : Nat) : Int) + ((q : Nat) : Int)) = (((a + q) : Nat) : Int)) ∧ ((decide (((i : Nat) : Int) < ((k : Nat) : Int)) = true) ∧ ((0 ≤ ((i : Nat) : Int) ∧ ((i : Nat) : Int) < ((k : Nat) : Int) ∧ 0 + Int.toNat ((i : Nat) : Int) * 1 = i) ∧ ((((ns .u32 ys) : List Value)[i]? = some (.int .u32 ((b : Nat) : Int))) ∧ ((IntKind.wrap .u32 ((((a + q) : Nat) : Int) + ((b : Nat) : Int)) = ((((a + q) + b) : Nat) : Int)) ∧ ((IntKind.wrap .u32 (Int.tdiv ((((a + q) + b) : Nat) : Int) (1000000000 : Int)) = (((((a + q) + b) / 1000000000) : Nat) : Int)) ∧ (((Int.tmod ((((a + q) + b) : Nat) : Int) (1000000000 : Int)) = (((((a + q) + b) % 1000000000) : Nat) : Int)) ∧ ((0 ≤ ((i : Nat) : Int) ∧ ((i : Nat) : Int) < ((n : Nat) : Int) ∧ 0 + Int.toNat ((i : Nat) : Int) * 1 = i) ∧ ((i + 1 ≤ (ns .u32 xs).length ∧ lspl (ns .u32 xs) i [(.int .u32 (((((a + q) + b) % 1000000000) : Nat) : Int))] = (ns .u32 (xs.set i (((a + q) + b) % 1000000000)))) ∧ ((IntKind.wrap .i64 (((i : Nat) : Int) + (1 : Int)) = (((i + 1) : Nat) : Int)) ∧ True))))))))))))) hk0_ok dr0_ok (by kernel_rfl) ⟨(by simp only [decide_eq_true_eq, decide_eq_false_iff_not, beq_iff_eq, beq_eq_false_iff_ne, bne_iff_ne, bne_eq_false_iff_eq, ne_eq, gt_iff_lt, ge_iff_le] <;> omega), (by omega), hx, (by rw [wrap_u32 (by omega) (by omega)] <;> omega), (by simp only [decide_eq_true_eq, decide_eq_false_iff_not, beq_iff_eq, beq_eq_false_iff_ne, bne_iff_ne, bne_eq_false_iff_eq, ne_eq, gt_iff_lt, ge_iff_le] <;> omega), (by omega), hy, (by rw [wrap_u32 (by omega) (by omega)] <;> omega), (by rw [Int.tdiv_eq_ediv_of_nonneg (by omega), wrap_u32 (by omega) (by omega)] <;> omega), (by rw [Int.tmod_eq_emod_of_nonneg (by omega)] <;> omega), (by omega), (ns_set (by omega)), (by rw [wrap_i64 (by omega) (by omega)] <;> omega), trivial⟩
theorem gain_r2 (xs ys : List Nat) (n c k e q i a : Nat) (j : List Value) (hi : k ≤ i) (hn : i < n) (hc : n ≤ xs.length) (hm : n < 9223372036854775807) (hq : q = 1) (ha : a < 1000000000) (hx : (ns .u32 xs)[i]? = some (.int .u32 (a : Nat)))  : Gets Tryz.prog 5 (gain_h xs ys n c k e q i j) (gain_h (xs.set i ((a + q) % 1000000000)) ys n c k e ((a + q) / 1000000000) (i + 1) [(.int .u32 (((a + q) : Nat) : Int)), (.int .i64 ((i : Nat) : Int)), (sl 6 k e), (.int .i64 ((k : Nat) : Int)), (.bool false), (.bool false), (.int .u32 ((q : Nat) : Int)), (.bool true), (.bool true), (.int .i64 ((i : Nat) : Int)), (.int .i64 (((i + 1) : Nat) : Int)), (sl 5 n c), (.int .i64 ((i : Nat) : Int)), (.pointer (some ⟨5,i,none⟩)), (.int .u32 ((a : Nat) : Int)), (.int .u32 ((q : Nat) : Int)), (.int .u32 (((a + q) : Nat) : Int)), (.int .i64 ((i : Nat) : Int)), (sl 6 k e), (.int .i64 ((k : Nat) : Int)), (.bool false), (J j 21), (J j 22), (J j 23), (J j 24), (J j 25), (J j 26), (.int .u32 (((a + q) : Nat) : Int)), (.int .u32 ((((a + q) / 1000000000) : Nat) : Int)), (sl 5 n c), (.int .i64 ((i : Nat) : Int)), (.int .u32 (((a + q) : Nat) : Int)), (.int .u32 ((((a + q) % 1000000000) : Nat) : Int)), (.pointer (some ⟨5,i,none⟩))]) :=
  seg_reach hmix_ok (hk := hk0) (draw := dr0) (sc := [(6, .op (.rwB false)), (2, .op (.rwB true)), (10, .op (.idx i)), (0, .op (.ld (.int .u32 ((a : Nat) : Int)))), (1, .op (.rwI (((a + q) : Nat) : Int))), (8, .op (.rwB false)), (6, .op (.rwI ((((a + q) / 1000000000) : Nat) : Int))), (6, .op (.rwI ((((a + q) % 1000000000) : Nat) : Int))), (0, .op (.idx i)), (0, .op (.st (ns .u32 (xs.set i ((a + q) % 1000000000))))), (4, .op (.rwI (((i + 1) : Nat) : Int))), (3, .stay)]) (fr1 := gain_h_f (xs.set i ((a + q) % 1000000000)) ys n c k e ((a + q) / 1000000000) (i + 1) [(.int .u32 (((a + q) : Nat) : Int)), (.int .i64 ((i : Nat) : Int)), (sl 6 k e), (.int .i64 ((k : Nat) : Int)), (.bool false), (.bool false), (.int .u32 ((q : Nat) : Int)), (.bool true), (.bool true), (.int .i64 ((i : Nat) : Int)), (.int .i64 (((i + 1) : Nat) : Int)), (sl 5 n c), (.int .i64 ((i : Nat) : Int)), (.pointer (some ⟨5,i,none⟩)), (.int .u32 ((a : Nat) : Int)), (.int .u32 ((q : Nat) : Int)), (.int .u32 (((a + q) : Nat) : Int)), (.int .i64 ((i : Nat) : Int)), (sl 6 k e), (.int .i64 ((k : Nat) : Int)), (.bool false), (J j 21), (J j 22), (J j 23), (J j 24), (J j 25), (J j 26), (.int .u32 (((a + q) : Nat) : Int)), (.int .u32 ((((a + q) / 1000000000) : Nat) : Int)), (sl 5 n c), (.int .i64 ((i : Nat) : Int)), (.int .u32 (((a + q) : Nat) : Int)), (.int .u32 ((((a + q) % 1000000000) : Nat) : Int)), (.pointer (some ⟨5,i,none⟩))]) (cs1 := []) (next := 7) (l := gain_h_o (xs.set i ((a + q) % 1000000000)) ys n c k e ((a + q) / 1000000000) (i + 1)) (p := (decide (((i : Nat) : Int) < ((k : Nat) : Int)) = false) ∧ ((decide (((q : Nat) : Int) > (0 : Int)) = true) ∧ ((0 ≤ ((i : Nat) : Int) ∧ ((i : Nat) : Int) < ((n : Nat) : Int) ∧ 0 + Int.toNat ((i : Nat) : Int) * 1 = i) ∧ ((((ns .u32 xs) : List Value)[i]? = some (.int .u32 ((a : Nat) : Int))) ∧ ((IntKind.wrap .u32 (((a : Nat) : Int) + ((q : Nat) : Int)) = (((a + q) : Nat) : Int)) ∧ ((decide (((i : Nat) : Int) < ((k : Nat) : Int)) = false) ∧ ((IntKind.wrap .u32 (Int.tdiv (((a + q) : Nat) : Int) (1000000000 : Int)) = ((((a + q) / 1000000000) : Nat) : Int)) ∧ (((Int.tmod (((a + q) : Nat) : Int) (1000000000 : Int)) = ((((a + q) % 1000000000) : Nat) : Int)) ∧ ((0 ≤ ((i : Nat) : Int) ∧ ((i : Nat) : Int) < ((n : Nat) : Int) ∧ 0 + Int.toNat ((i : Nat) : Int) * 1 = i) ∧ ((i + 1 ≤ (ns .u32 xs).length ∧ lspl (ns .u32 xs) i [(.int .u32 ((((a + q) % 1000000000) : Nat) : Int))] = (ns .u32 (xs.set i ((a + q) % 1000000000)))) ∧ ((IntKind.wrap .i64 (((i : Nat) : Int) + (1 : Int)) = (((i + 1) : Nat) : Int)) ∧ True))))))))))) hk0_ok dr0_ok (by kernel_rfl) ⟨(by simp only [decide_eq_true_eq, decide_eq_false_iff_not, beq_iff_eq, beq_eq_false_iff_ne, bne_iff_ne, bne_eq_false_iff_eq, ne_eq, gt_iff_lt, ge_iff_le] <;> omega), (by simp only [decide_eq_true_eq, decide_eq_false_iff_not, beq_iff_eq, beq_eq_false_iff_ne, bne_iff_ne, bne_eq_false_iff_eq, ne_eq, gt_iff_lt, ge_iff_le] <;> omega), (by omega), hx, (by rw [wrap_u32 (by omega) (by omega)] <;> omega), (by simp only [decide_eq_true_eq, decide_eq_false_iff_not, beq_iff_eq, beq_eq_false_iff_ne, bne_iff_ne, bne_eq_false_iff_eq, ne_eq, gt_iff_lt, ge_iff_le] <;> omega), (by rw [Int.tdiv_eq_ediv_of_nonneg (by omega), wrap_u32 (by omega) (by omega)] <;> omega), (by rw [Int.tmod_eq_emod_of_nonneg (by omega)] <;> omega), (by omega), (ns_set (by omega)), (by rw [wrap_i64 (by omega) (by omega)] <;> omega), trivial⟩
theorem gain_out (xs0 xs ys : List Nat) (n c k e q i : Nat) (j : List Value) (hi : k ≤ i) (hq : q = 0)  (hr : Gets Tryz.prog 5 ⟨Frame.enter Tryz.prog 189 #[(sl 5 n c),(sl 6 k e)] .normal, [], mkH 7 [(5, (cU xs0)), (6, (cU ys))]⟩ (gain_h xs ys n c k e q i j)) : CSp Tryz.prog 5 189 #[(sl 5 n c),(sl 6 k e)] (mkH 7 [(5, (cU xs0)), (6, (cU ys))]) undef (mkH 7 [(5, (cU xs)), (6, (cU ys))]) :=
  seg_fin hmix_ok (hk := hk0) (draw := dr0) (sc := [(6, .op (.rwB false)), (2, .op (.rwB false)), (5, .stay)]) (next := 7) (l := [(5, (cU xs)), (6, (cU ys))]) (p := (decide (((i : Nat) : Int) < ((k : Nat) : Int)) = false) ∧ ((decide (((q : Nat) : Int) > (0 : Int)) = false) ∧ True)) hk0_ok dr0_ok (by kernel_rfl) ⟨(by simp only [decide_eq_true_eq, decide_eq_false_iff_not, beq_iff_eq, beq_eq_false_iff_ne, bne_iff_ne, bne_eq_false_iff_eq, ne_eq, gt_iff_lt, ge_iff_le] <;> omega), (by simp only [decide_eq_true_eq, decide_eq_false_iff_not, beq_iff_eq, beq_eq_false_iff_ne, bne_iff_ne, bne_eq_false_iff_eq, ne_eq, gt_iff_lt, ge_iff_le] <;> omega), trivial⟩ hr

theorem gain_loop {s0 : AS} {ys : List Nat} {n k e T : Nat} (hly : Lim ys) (hk : k ≤ ys.length) (hkn : k ≤ n) (hn : n < 9223372036854775807) (hT : T < 1000000000 ^ n) :
    ∀ (m : Nat) (xs : List Nat) (q i : Nat) (j : List Value), m = n - i → xs.length = n → Lim xs → i ≤ n → q ≤ 1 → val xs + q * 1000000000 ^ i + 1000000000 ^ i * val ((ys.take k).drop i) = T →
      Gets Tryz.prog 5 s0 (gain_h xs ys n n k e q i j) → ∃ zs i' j', k ≤ i' ∧ zs.length = n ∧ Lim zs ∧ val zs = T ∧ Gets Tryz.prog 5 s0 (gain_h zs ys n n k e 0 i' j') := by
  intro m
  induction m with
  | zero =>
    intro xs q i j hm hx hl hi hq hv hr
    have hin : i = n := by omega
    subst hin
    have hq0 : q = 0 := by
      rcases Nat.eq_zero_or_pos q with h | h
      · exact h
      · have := Nat.mul_le_mul_right (1000000000 ^ i) h
        omega
    subst hq0
    refine ⟨xs, i, j, hkn, hx, hl, ?_, hr⟩
    rw [List.drop_eq_nil_of_le (by rw [List.length_take]; omega)] at hv
    exact nil_end hv
  | succ m ih =>
    intro xs q i j hm hx hl hi hq hv hr
    have hP : 1000000000 ^ (i + 1) = 1000000000 ^ i * 1000000000 := Nat.pow_succ ..
    by_cases hik : i < k
    · have ha := hl.get i
      have hb := hly.get i
      have r := gain_r1 xs ys n n k e q i (xs.getD i 0) (ys.getD i 0) j hik (by omega) (by omega) hn (by omega) hb ha hq (ns_get (by omega)) (ns_get (by omega))
      refine ih _ _ _ _ (by omega) (by simpa using hx) (hl.set (Nat.mod_lt _ (by decide))) (by omega) (by omega) ?_ (hr.trans r)
      have h1 := val_set xs i ((xs.getD i 0 + q + ys.getD i 0) % 1000000000) (by omega)
      have h2 : val ((ys.take k).drop i) = ys.getD i 0 + 1000000000 * val ((ys.take k).drop (i + 1)) := by
        rw [val_drop (by rw [List.length_take]; omega), getD_take hik]
      rw [h2] at hv
      rw [hP]
      exact carry_step h1 hv
    · by_cases hq1 : q = 1
      · subst hq1
        have hin : i < n := by
          rcases Nat.lt_or_ge i n with h | h
          · exact h
          · have := pow_le h
            omega
        have ha := hl.get i
        have r := gain_r2 xs ys n n k e 1 i (xs.getD i 0) j (by omega) hin (by omega) hn rfl ha (ns_get (by omega))
        refine ih _ _ _ _ (by omega) (by simpa using hx) (hl.set (Nat.mod_lt _ (by decide))) (by omega) (by omega) ?_ (hr.trans r)
        have h1 := val_set xs i ((xs.getD i 0 + 1) % 1000000000) (by omega)
        rw [List.drop_eq_nil_of_le (by rw [List.length_take]; omega)] at hv ⊢
        rw [hP]
        exact nil_add (carry_step0 h1 (nil_one hv))
      · have hq0 : q = 0 := by omega
        subst hq0
        refine ⟨xs, i, j, by omega, hx, hl, ?_, hr⟩
        rw [List.drop_eq_nil_of_le (by rw [List.length_take]; omega)] at hv
        exact nil_end hv

/-- gain adds y to x, which has room for the sum. -/
theorem gain_c (n0 bx byy : Nat) (xs ys : List Nat) (k e : Nat) (hb : 5 ≤ bx ∧ bx < n0 ∧ 5 ≤ byy ∧ byy < n0 ∧ bx ≠ byy) (hlx : Lim xs) (hly : Lim ys) (hk : k ≤ ys.length) (hkn : k ≤ xs.length) (hn : xs.length < 9223372036854775807)
    (hT : val xs + val (ys.take k) < 1000000000 ^ xs.length) :
    ∃ zs, zs.length = xs.length ∧ Lim zs ∧ val zs = val xs + val (ys.take k) ∧
      FSp Tryz.prog 5 189 #[sl bx xs.length xs.length, sl byy k e] n0 [(bx, cU xs), (byy, cU ys)] undef
        [(bx, some (cU zs)), (byy, some (cU ys))] [] := by
  have r := gain_in xs ys xs.length xs.length k e
  obtain ⟨zs, i', j', h1, h2, h3, h4, h5⟩ := gain_loop (T := val xs + val (ys.take k)) hly hk hkn hn hT _ xs 0 0 _ rfl rfl hlx (by omega) (by omega) (by simp) r
  have S := gain_out xs zs ys xs.length xs.length k e 0 i' j' h1 rfl h5
  refine ⟨zs, h2, h3, h4, fsp_flat [bx, byy] [cU xs, cU ys] [cU zs, cU ys] [] [] n0 S rfl rfl rfl ?_ ?_ (by omega) ?_ ?_ rfl (by simp) (by simp) rfl rfl rfl⟩
  · simp [hb.2.2.2.2]
  · simp; omega
  · simp [flat, ns_closed]
  · simp [flat, ns_closed]

end Go.Proofs.YtpbbfgpnoinkjaaGreatDoor
