import Derived.Test.YtpbbfgpnoinkjaaGreatDoorToInt
import Derived.Test.YtpbbfgpnoinkjaaGreatDoorLF
import Derived.Test.YtpbbfgpnoinkjaaGreatDoorWf
set_option linter.unusedVariables false
set_option linter.unusedSimpArgs false
set_option maxRecDepth 100000
set_option linter.unusedVariables false
set_option linter.unusedSimpArgs false
namespace Go.Proofs.YtpbbfgpnoinkjaaGreatDoor
open Go Go.AE Seg
noncomputable def le_h_f (s p q : Nat) (j : List Value) : Frame := ⟨170, List.toArray [(.int .i64 ((q : Nat) : Int)), (.func (.func 171) #[] #[(pt 5)]), undef, undef, (.int .i64 (.ofNat 0)), (J j 0), (J j 1), (J j 2), (J j 3), (J j 4), (J j 5), undef], [.code (cd Tryz.f170 [1, 0, 0, 0]), .inLoop (cd Tryz.f170 [1, 0, 0, 0]), .inBlock 0, .code (cd Tryz.f170 [1, 1])], [], .run, .normal, none⟩
noncomputable def le_h_o (s p q : Nat) : List (Nat × AObj) := [(5, (.cells [(.int .i64 ((s : Nat) : Int))] 70 none false))]
noncomputable def le_h (s p q : Nat) (j : List Value) : AS := ⟨le_h_f s p q j, [], mkH 6 (le_h_o s p q)⟩
theorem le_in (s p : Nat)  : Gets Tryz.prog 5 ⟨Frame.enter Tryz.prog 170 #[(.int .i64 ((p : Nat) : Int)),(.func (.func 171) #[] #[(pt 5)])] .normal, [], mkH 6 [(5, (.cells [(.int .i64 ((s : Nat) : Int))] 70 none false))]⟩ (le_h s p p [undef, undef, undef, undef, undef, undef]) :=
  seg_reach hmix_ok (hk := hk0) (draw := dr0) (sc := [(7, .stay)]) (fr1 := le_h_f s p p [undef, undef, undef, undef, undef, undef]) (cs1 := []) (next := 6) (l := le_h_o s p p) (p := True) hk0_ok dr0_ok (by kernel_rfl) trivial
theorem le_r (s p q : Nat) (j : List Value) (hq : 0 < q) (hq2 : q < 1048576) (hs : s < 1099511627776) (hm : s % q ≠ 0) (hd : q * q ≤ s)  : Gets Tryz.prog 5 (le_h s p q j) (le_h s p (q + 1) [(.func (.func 171) #[] #[(pt 5)]), (.int .i64 ((q : Nat) : Int)), (.bool false), (.bool true), (.int .i64 ((q : Nat) : Int)), (.int .i64 (((q + 1) : Nat) : Int))]) :=
  seg_reach hmix_ok (hk := hk0) (draw := dr0) (sc := [(14, .op (.div (((s % q) : Nat) : Int))), (0, .op (.rwB false)), (3, .op (.rwI (((q * q) : Nat) : Int))), (1, .op (.rwB false)), (12, .op (.rwI (((q + 1) : Nat) : Int))), (4, .stay)]) (fr1 := le_h_f s p (q + 1) [(.func (.func 171) #[] #[(pt 5)]), (.int .i64 ((q : Nat) : Int)), (.bool false), (.bool true), (.int .i64 ((q : Nat) : Int)), (.int .i64 (((q + 1) : Nat) : Int))]) (cs1 := []) (next := 6) (l := le_h_o s p (q + 1)) (p := (((q : Nat) : Int) ≠ 0 ∧ (Int.tmod ((s : Nat) : Int) ((q : Nat) : Int)) = (((s % q) : Nat) : Int)) ∧ ((((((s % q) : Nat) : Int) == (0 : Int)) = false) ∧ ((IntKind.wrap .i64 (((q : Nat) : Int) * ((q : Nat) : Int)) = (((q * q) : Nat) : Int)) ∧ ((decide ((((q * q) : Nat) : Int) > ((s : Nat) : Int)) = false) ∧ ((IntKind.wrap .i64 (((q : Nat) : Int) + (1 : Int)) = (((q + 1) : Nat) : Int)) ∧ True))))) hk0_ok dr0_ok (by kernel_rfl) ⟨⟨by omega, tmod_nat s q⟩, (mod_nz hm), (mul_wrap hq2), (not_gt hd), (by rw [wrap_i64 (by omega) (by omega)] <;> omega), trivial⟩
theorem le_a (s p q : Nat) (j : List Value) (hq : 0 < q) (hq2 : q < 1048576) (hs : s < 1099511627776) (hm : s % q = 0)  (hr : Gets Tryz.prog 5 ⟨Frame.enter Tryz.prog 170 #[(.int .i64 ((p : Nat) : Int)),(.func (.func 171) #[] #[(pt 5)])] .normal, [], mkH 6 [(5, (.cells [(.int .i64 ((s : Nat) : Int))] 70 none false))]⟩ (le_h s p q j)) : CSp Tryz.prog 5 170 #[(.int .i64 ((p : Nat) : Int)),(.func (.func 171) #[] #[(pt 5)])] (mkH 6 [(5, (.cells [(.int .i64 ((s : Nat) : Int))] 70 none false))]) (.int .i64 ((q : Nat) : Int)) (mkH 6 [(5, (.cells [(.int .i64 ((s : Nat) : Int))] 70 none false))]) :=
  seg_fin hmix_ok (hk := hk0) (draw := dr0) (sc := [(14, .op (.div (((s % q) : Nat) : Int))), (0, .op (.rwB true)), (21, .stay)]) (next := 6) (l := [(5, (.cells [(.int .i64 ((s : Nat) : Int))] 70 none false))]) (p := (((q : Nat) : Int) ≠ 0 ∧ (Int.tmod ((s : Nat) : Int) ((q : Nat) : Int)) = (((s % q) : Nat) : Int)) ∧ ((((((s % q) : Nat) : Int) == (0 : Int)) = true) ∧ True)) hk0_ok dr0_ok (by kernel_rfl) ⟨⟨by omega, tmod_nat s q⟩, (mod_z hm), trivial⟩ hr
theorem le_b (s p q : Nat) (j : List Value) (hq : 0 < q) (hq2 : q < 1048576) (hs : s < 1099511627776) (hm : s % q ≠ 0) (hd : s < q * q)  (hr : Gets Tryz.prog 5 ⟨Frame.enter Tryz.prog 170 #[(.int .i64 ((p : Nat) : Int)),(.func (.func 171) #[] #[(pt 5)])] .normal, [], mkH 6 [(5, (.cells [(.int .i64 ((s : Nat) : Int))] 70 none false))]⟩ (le_h s p q j)) : CSp Tryz.prog 5 170 #[(.int .i64 ((p : Nat) : Int)),(.func (.func 171) #[] #[(pt 5)])] (mkH 6 [(5, (.cells [(.int .i64 ((s : Nat) : Int))] 70 none false))]) (.int .i64 ((q : Nat) : Int)) (mkH 6 [(5, (.cells [(.int .i64 ((s : Nat) : Int))] 70 none false))]) :=
  seg_fin hmix_ok (hk := hk0) (draw := dr0) (sc := [(14, .op (.div (((s % q) : Nat) : Int))), (0, .op (.rwB false)), (3, .op (.rwI (((q * q) : Nat) : Int))), (1, .op (.rwB true)), (15, .stay)]) (next := 6) (l := [(5, (.cells [(.int .i64 ((s : Nat) : Int))] 70 none false))]) (p := (((q : Nat) : Int) ≠ 0 ∧ (Int.tmod ((s : Nat) : Int) ((q : Nat) : Int)) = (((s % q) : Nat) : Int)) ∧ ((((((s % q) : Nat) : Int) == (0 : Int)) = false) ∧ ((IntKind.wrap .i64 (((q : Nat) : Int) * ((q : Nat) : Int)) = (((q * q) : Nat) : Int)) ∧ ((decide ((((q * q) : Nat) : Int) > ((s : Nat) : Int)) = true) ∧ True)))) hk0_ok dr0_ok (by kernel_rfl) ⟨⟨by omega, tmod_nat s q⟩, (mod_nz hm), (mul_wrap hq2), (is_gt hd), trivial⟩ hr

theorem le_loop {s p : Nat} (hs : s < 1048575) : ∀ (k q : Nat) (j : List Value), k = s + 1 - q → 0 < q → q ≤ s + 1 → p ≤ q → (∀ d, p ≤ d → d < q → s % d ≠ 0 ∧ d * d ≤ s) → Gets Tryz.prog 5 ⟨Frame.enter Tryz.prog 170 #[(.int .i64 ((p : Nat) : Int)),(.func (.func 171) #[] #[(pt 5)])] .normal, [], mkH 6 [(5, (.cells [(.int .i64 ((s : Nat) : Int))] 70 none false))]⟩ (le_h s p q j) →
    ∃ q', p ≤ q' ∧ q' ≤ s + 1 ∧ (s % q' = 0 ∨ s < q' * q') ∧ (∀ d, p ≤ d → d < q' → s % d ≠ 0) ∧ CSp Tryz.prog 5 170 #[(.int .i64 ((p : Nat) : Int)),(.func (.func 171) #[] #[(pt 5)])] (mkH 6 [(5, (.cells [(.int .i64 ((s : Nat) : Int))] 70 none false))]) (.int .i64 ((q' : Nat) : Int)) (mkH 6 [(5, (.cells [(.int .i64 ((s : Nat) : Int))] 70 none false))]) := by
  intro k
  induction k with
  | zero =>
    intro q j hk h0 hq hp hall hr
    have hq1 : q = s + 1 := by omega
    have hd : s < q * q := by
      have : q * 1 ≤ q * q := Nat.mul_le_mul_left q h0
      omega
    by_cases hm : s % q = 0
    · exact ⟨q, hp, hq, .inl hm, fun d h1 h2 => (hall d h1 h2).1, le_a s p q j h0 (by omega) (by omega) hm hr⟩
    · exact ⟨q, hp, hq, .inr hd, fun d h1 h2 => (hall d h1 h2).1, le_b s p q j h0 (by omega) (by omega) hm hd hr⟩
  | succ k ih =>
    intro q j hk h0 hq hp hall hr
    by_cases hm : s % q = 0
    · exact ⟨q, hp, hq, .inl hm, fun d h1 h2 => (hall d h1 h2).1, le_a s p q j h0 (by omega) (by omega) hm hr⟩
    · by_cases hd : q * q ≤ s
      · refine ih (q + 1) _ (by omega) (by omega) (by omega) (by omega) (fun d h1 h2 => ?_) (hr.trans (le_r s p q j h0 (by omega) (by omega) hm hd))
        rcases (by omega : d < q ∨ d = q) with h | rfl
        · exact hall d h1 h
        · exact ⟨hm, hd⟩
      · exact ⟨q, hp, hq, .inr (by omega), fun d h1 h2 => (hall d h1 h2).1, le_b s p q j h0 (by omega) (by omega) hm (by omega) hr⟩
/-- least returns the first divisor from p on, or the first number that is greater than the root. -/
theorem le_c (n0 b s p : Nat) (hb : 5 ≤ b ∧ b < n0) (hs : s < 1048575) (hp : 0 < p) (hps : p ≤ s + 1) :
    ∃ q, p ≤ q ∧ q ≤ s + 1 ∧ (s % q = 0 ∨ s < q * q) ∧ (∀ d, p ≤ d → d < q → s % d ≠ 0) ∧
      FSp Tryz.prog 5 170 #[.int .i64 ((p : Nat) : Int), (.func (.func 171) #[] #[pt b])] n0 [(b, (.cells [.int .i64 ((s : Nat) : Int)] 70 none false))] (.int .i64 ((q : Nat) : Int)) [(b, some (.cells [.int .i64 ((s : Nat) : Int)] 70 none false))] [] := by
  obtain ⟨q, h1, h2, h3, h4, S⟩ := le_loop (by omega) _ p _ rfl hp hps (Nat.le_refl _) (fun d h1 h2 => by omega) (le_in s p)
  exact ⟨q, h1, h2, h3, h4, fsp_flat [b] [(.cells [.int .i64 ((s : Nat) : Int)] 70 none false)] [(.cells [.int .i64 ((s : Nat) : Int)] 70 none false)] [] [] n0 S rfl rfl rfl (by simp) (by simp; omega) (by omega) rfl rfl rfl (by simp) (by simp) rfl rfl rfl⟩

end Go.Proofs.YtpbbfgpnoinkjaaGreatDoor
set_option maxRecDepth 100000
set_option linter.unusedVariables false
set_option linter.unusedSimpArgs false
namespace Go.Proofs.YtpbbfgpnoinkjaaGreatDoor
open Go Go.AE Seg
noncomputable def smp_h_f (ds : List Nat) (l p : Nat) (j : List Value) : Frame := ⟨109, List.toArray [(.string (dstr ds)), undef, (.int .i64 (.ofNat 0)), (.bool false), (.string (dstr ds)), (.int .i64 ((l : Nat) : Int)), undef, (J j 0), (J j 1), (J j 2), (J j 3), (.bool false), (J j 4), (J j 5), (pt 5), (J j 6), (J j 7), (J j 8), (J j 9), (J j 10), (J j 11), (J j 12), (J j 13), (J j 14), undef, undef, undef, undef, undef], [.code (cd Tryz.f109 [1, 1, 1, 0, 1, 0, 0]), .inLoop (cd Tryz.f109 [1, 1, 1, 0, 1, 0, 0]), .inBlock 0, .code (cd Tryz.f109 [1, 1, 1, 1])], [], .run, .normal, none⟩
noncomputable def smp_h_o (ds : List Nat) (l p : Nat) : List (Nat × AObj) := [(5, (.iter (dstr ds) p))]
noncomputable def smp_h (ds : List Nat) (l p : Nat) (j : List Value) : AS := ⟨smp_h_f ds l p j, [], mkH 6 (smp_h_o ds l p)⟩
theorem smp_in (ds : List Nat) (hd : Dig ds) (h0 : 0 < ds.length)  : Gets Tryz.prog 5 ⟨Frame.enter Tryz.prog 109 #[(.string (dstr ds))] .normal, [], mkH 5 []⟩ (smp_h ds 0 0 [undef, (.tuple #[(.bool false),(.string (dstr ds))]), (.string (dstr ds)), (.tuple #[(.bool false),(.string (dstr ds))]), (.string (dstr ds)), (.string (dstr ds)), undef, undef, undef, undef, undef, undef, undef, undef, undef]) :=
  seg_reach hmix_ok (hk := hk0) (draw := dr0) (sc := [(7, .call [] (.tuple #[(.bool false),(.string (dstr ds))]) [] []), (18, .stay)]) (fr1 := smp_h_f ds 0 0 [undef, (.tuple #[(.bool false),(.string (dstr ds))]), (.string (dstr ds)), (.tuple #[(.bool false),(.string (dstr ds))]), (.string (dstr ds)), (.string (dstr ds)), undef, undef, undef, undef, undef, undef, undef, undef, undef]) (cs1 := []) (next := 6) (l := smp_h_o ds 0 0) (p := (FSp Tryz.prog 5 128 #[(.string (dstr ds))] 5 [] (.tuple #[(.bool false),(.string (dstr ds))]) [] []) ∧ True) hk0_ok dr0_ok (by kernel_rfl) ⟨(so_pc 5 ds (by omega) hd h0), trivial⟩
theorem smp_r (ds : List Nat) (l p q : Nat) (j : List Value) (hq : q < 10) (hl : l < 100000000000000000) (hp : p < (dstr ds).size) (he : Utf8.decode (dstr ds) p = (48 + q, 1))  : Gets Tryz.prog 5 (smp_h ds l p j) (smp_h ds ((l * 10) + q) (p + 1) [(.int .i32 (((48 + q) : Nat) : Int)), (J j 1), (J j 2), (J j 3), (J j 4), (J j 5), (.tuple #[(.bool true),(.int .i64 ((p : Nat) : Int)),(.int .i32 (((48 + q) : Nat) : Int))]), (.bool true), (.int .i32 (((48 + q) : Nat) : Int)), (.int .i64 ((l : Nat) : Int)), (.int .i64 (((l * 10) : Nat) : Int)), (.int .i32 (((48 + q) : Nat) : Int)), (.int .i32 ((q : Nat) : Int)), (.int .i64 ((q : Nat) : Int)), (.int .i64 ((((l * 10) + q) : Nat) : Int))]) :=
  seg_reach hmix_ok (hk := hk0) (draw := dr0) (sc := [(2, .op (.nxtC (48 + q) 1 (p + 1))), (13, .op (.rwI (((l * 10) : Nat) : Int))), (1, .op (.rwI ((q : Nat) : Int))), (0, .op (.rwI ((q : Nat) : Int))), (0, .op (.rwI ((((l * 10) + q) : Nat) : Int))), (4, .stay)]) (fr1 := smp_h_f ds ((l * 10) + q) (p + 1) [(.int .i32 (((48 + q) : Nat) : Int)), (J j 1), (J j 2), (J j 3), (J j 4), (J j 5), (.tuple #[(.bool true),(.int .i64 ((p : Nat) : Int)),(.int .i32 (((48 + q) : Nat) : Int))]), (.bool true), (.int .i32 (((48 + q) : Nat) : Int)), (.int .i64 ((l : Nat) : Int)), (.int .i64 (((l * 10) : Nat) : Int)), (.int .i32 (((48 + q) : Nat) : Int)), (.int .i32 ((q : Nat) : Int)), (.int .i64 ((q : Nat) : Int)), (.int .i64 ((((l * 10) + q) : Nat) : Int))]) (cs1 := []) (next := 6) (l := smp_h_o ds ((l * 10) + q) (p + 1)) (p := (p < (dstr ds).size ∧ Utf8.decode (dstr ds) p = ((48 + q), 1) ∧ p + 1 = (p + 1)) ∧ ((IntKind.wrap .i64 (((l : Nat) : Int) * (10 : Int)) = (((l * 10) : Nat) : Int)) ∧ ((IntKind.wrap .i32 ((((48 + q) : Nat) : Int) - (48 : Int)) = ((q : Nat) : Int)) ∧ ((IntKind.wrap .i64 ((q : Nat) : Int) = ((q : Nat) : Int)) ∧ ((IntKind.wrap .i64 ((((l * 10) : Nat) : Int) + ((q : Nat) : Int)) = ((((l * 10) + q) : Nat) : Int)) ∧ True))))) hk0_ok dr0_ok (by kernel_rfl) ⟨⟨hp, he, rfl⟩, (by rw [wrap_i64 (by omega) (by omega)] <;> omega), (by rw [wrap_i32 (by omega) (by omega)] <;> omega), (by rw [wrap_i64 (by omega) (by omega)] <;> omega), (by rw [wrap_i64 (by omega) (by omega)] <;> omega), trivial⟩
theorem smp_o (ds : List Nat) (l p : Nat) (j : List Value) (hl : l < 1000000000000000000) (hp : (dstr ds).size ≤ p)  (hr : Gets Tryz.prog 5 ⟨Frame.enter Tryz.prog 109 #[(.string (dstr ds))] .normal, [], mkH 5 []⟩ (smp_h ds l p j)) : CSp Tryz.prog 5 109 #[(.string (dstr ds))] (mkH 5 []) (.int .i64 ((l : Nat) : Int)) (mkH 6 []) :=
  seg_fin hmix_ok (hk := hk0) (draw := dr0) (sc := [(2, .op (.nxtE)), (30, .stay)]) (next := 6) (l := []) (p := (¬ p < (dstr ds).size) ∧ True) hk0_ok dr0_ok (by kernel_rfl) ⟨(by omega), trivial⟩ hr

theorem smp_loop {ds : List Nat} (hd : Dig ds) (hL : ds.length ≤ 18) : ∀ (k p : Nat) (j : List Value), k = ds.length - p → p ≤ ds.length →
    Gets Tryz.prog 5 ⟨Frame.enter Tryz.prog 109 #[(.string (dstr ds))] .normal, [], mkH 5 []⟩ (smp_h ds (dval (ds.take p)) p j) → CSp Tryz.prog 5 109 #[(.string (dstr ds))] (mkH 5 []) (.int .i64 ((dval ds : Nat) : Int)) (mkH 6 []) := by
  intro k
  induction k with
  | zero =>
    intro p j hk hp hr
    have hlt : dval ds < 1000000000000000000 := by
      have h2 := dval_lt _ hd
      have h3 : 10 ^ ds.length ≤ 10 ^ 18 := Nat.pow_le_pow_right (by decide) hL
      have h4 : (10 : Nat) ^ 18 = 1000000000000000000 := by decide
      omega
    rw [List.take_of_length_le (by omega)] at hr
    exact smp_o ds (dval ds) p j hlt (by rw [dstr_size]; omega) hr
  | succ k ih =>
    intro p j hk hp hr
    have hlt : dval (ds.take p) < 100000000000000000 := by
      have h2 := dval_lt _ (hd.take p)
      have h3 : 10 ^ (ds.take p).length ≤ 10 ^ 17 := Nat.pow_le_pow_right (by decide) (by rw [List.length_take]; omega)
      have h4 : (10 : Nat) ^ 17 = 100000000000000000 := by decide
      omega
    have r := smp_r ds _ p (ds.getD p 0) j (hd.get p) hlt (by rw [dstr_size]; omega) (decode_dstr hd (by omega))
    rw [← dval_take_succ (by omega)] at r
    exact ih (p + 1) _ (by omega) (by omega) (hr.trans r)
theorem smpc (n0 : Nat) (ds : List Nat) (hG : 5 ≤ n0) (hd : Dig ds) (h0 : 0 < ds.length) (hL : ds.length ≤ 18) : FSp Tryz.prog 5 109 #[(.string (dstr ds))] n0 [] (.int .i64 ((dval ds : Nat) : Int)) [] [] :=
  fsp_flat [] [] [] [] [] n0 (smp_loop hd hL _ _ _ rfl (Nat.zero_le _) (smp_in ds hd h0)) rfl rfl rfl (by simp) (by simp) hG rfl rfl rfl (by simp) (by simp) rfl rfl rfl

noncomputable def smm_h_f (ds : List Nat) (l p : Nat) (j : List Value) : Frame := ⟨109, List.toArray [(.string (mstr ds)), undef, (.int .i64 (.ofNat 0)), (.bool true), (.string (dstr ds)), (.int .i64 ((l : Nat) : Int)), undef, (J j 0), (J j 1), (J j 2), (J j 3), (.bool true), (J j 4), (J j 5), (pt 5), (J j 6), (J j 7), (J j 8), (J j 9), (J j 10), (J j 11), (J j 12), (J j 13), (J j 14), undef, undef, undef, undef, undef], [.code (cd Tryz.f109 [1, 1, 1, 0, 1, 0, 0]), .inLoop (cd Tryz.f109 [1, 1, 1, 0, 1, 0, 0]), .inBlock 0, .code (cd Tryz.f109 [1, 1, 1, 1])], [], .run, .normal, none⟩
noncomputable def smm_h_o (ds : List Nat) (l p : Nat) : List (Nat × AObj) := [(5, (.iter (dstr ds) p))]
noncomputable def smm_h (ds : List Nat) (l p : Nat) (j : List Value) : AS := ⟨smm_h_f ds l p j, [], mkH 6 (smm_h_o ds l p)⟩
theorem smm_in (ds : List Nat) (hd : Dig ds) (h0 : 0 < ds.length)  : Gets Tryz.prog 5 ⟨Frame.enter Tryz.prog 109 #[(.string (mstr ds))] .normal, [], mkH 5 []⟩ (smm_h ds 0 0 [undef, (.tuple #[(.bool true),(.string (dstr ds))]), (.string (mstr ds)), (.tuple #[(.bool true),(.string (dstr ds))]), (.string (dstr ds)), (.string (dstr ds)), undef, undef, undef, undef, undef, undef, undef, undef, undef]) :=
  seg_reach hmix_ok (hk := hk0) (draw := dr0) (sc := [(7, .call [] (.tuple #[(.bool true),(.string (dstr ds))]) [] []), (18, .stay)]) (fr1 := smm_h_f ds 0 0 [undef, (.tuple #[(.bool true),(.string (dstr ds))]), (.string (mstr ds)), (.tuple #[(.bool true),(.string (dstr ds))]), (.string (dstr ds)), (.string (dstr ds)), undef, undef, undef, undef, undef, undef, undef, undef, undef]) (cs1 := []) (next := 6) (l := smm_h_o ds 0 0) (p := (FSp Tryz.prog 5 128 #[(.string (mstr ds))] 5 [] (.tuple #[(.bool true),(.string (dstr ds))]) [] []) ∧ True) hk0_ok dr0_ok (by kernel_rfl) ⟨(so_mc 5 ds (by omega)), trivial⟩
theorem smm_r (ds : List Nat) (l p q : Nat) (j : List Value) (hq : q < 10) (hl : l < 100000000000000000) (hp : p < (dstr ds).size) (he : Utf8.decode (dstr ds) p = (48 + q, 1))  : Gets Tryz.prog 5 (smm_h ds l p j) (smm_h ds ((l * 10) + q) (p + 1) [(.int .i32 (((48 + q) : Nat) : Int)), (J j 1), (J j 2), (J j 3), (J j 4), (J j 5), (.tuple #[(.bool true),(.int .i64 ((p : Nat) : Int)),(.int .i32 (((48 + q) : Nat) : Int))]), (.bool true), (.int .i32 (((48 + q) : Nat) : Int)), (.int .i64 ((l : Nat) : Int)), (.int .i64 (((l * 10) : Nat) : Int)), (.int .i32 (((48 + q) : Nat) : Int)), (.int .i32 ((q : Nat) : Int)), (.int .i64 ((q : Nat) : Int)), (.int .i64 ((((l * 10) + q) : Nat) : Int))]) :=
  seg_reach hmix_ok (hk := hk0) (draw := dr0) (sc := [(2, .op (.nxtC (48 + q) 1 (p + 1))), (13, .op (.rwI (((l * 10) : Nat) : Int))), (1, .op (.rwI ((q : Nat) : Int))), (0, .op (.rwI ((q : Nat) : Int))), (0, .op (.rwI ((((l * 10) + q) : Nat) : Int))), (4, .stay)]) (fr1 := smm_h_f ds ((l * 10) + q) (p + 1) [(.int .i32 (((48 + q) : Nat) : Int)), (J j 1), (J j 2), (J j 3), (J j 4), (J j 5), (.tuple #[(.bool true),(.int .i64 ((p : Nat) : Int)),(.int .i32 (((48 + q) : Nat) : Int))]), (.bool true), (.int .i32 (((48 + q) : Nat) : Int)), (.int .i64 ((l : Nat) : Int)), (.int .i64 (((l * 10) : Nat) : Int)), (.int .i32 (((48 + q) : Nat) : Int)), (.int .i32 ((q : Nat) : Int)), (.int .i64 ((q : Nat) : Int)), (.int .i64 ((((l * 10) + q) : Nat) : Int))]) (cs1 := []) (next := 6) (l := smm_h_o ds ((l * 10) + q) (p + 1)) (p := (p < (dstr ds).size ∧ Utf8.decode (dstr ds) p = ((48 + q), 1) ∧ p + 1 = (p + 1)) ∧ ((IntKind.wrap .i64 (((l : Nat) : Int) * (10 : Int)) = (((l * 10) : Nat) : Int)) ∧ ((IntKind.wrap .i32 ((((48 + q) : Nat) : Int) - (48 : Int)) = ((q : Nat) : Int)) ∧ ((IntKind.wrap .i64 ((q : Nat) : Int) = ((q : Nat) : Int)) ∧ ((IntKind.wrap .i64 ((((l * 10) : Nat) : Int) + ((q : Nat) : Int)) = ((((l * 10) + q) : Nat) : Int)) ∧ True))))) hk0_ok dr0_ok (by kernel_rfl) ⟨⟨hp, he, rfl⟩, (by rw [wrap_i64 (by omega) (by omega)] <;> omega), (by rw [wrap_i32 (by omega) (by omega)] <;> omega), (by rw [wrap_i64 (by omega) (by omega)] <;> omega), (by rw [wrap_i64 (by omega) (by omega)] <;> omega), trivial⟩
theorem smm_o (ds : List Nat) (l p : Nat) (j : List Value) (hl : l < 1000000000000000000) (hp : (dstr ds).size ≤ p)  (hr : Gets Tryz.prog 5 ⟨Frame.enter Tryz.prog 109 #[(.string (mstr ds))] .normal, [], mkH 5 []⟩ (smm_h ds l p j)) : CSp Tryz.prog 5 109 #[(.string (mstr ds))] (mkH 5 []) (.int .i64 (-((l : Nat) : Int))) (mkH 6 []) :=
  seg_fin hmix_ok (hk := hk0) (draw := dr0) (sc := [(2, .op (.nxtE)), (26, .op (.rwI (-((l : Nat) : Int)))), (3, .stay)]) (next := 6) (l := []) (p := (¬ p < (dstr ds).size) ∧ ((IntKind.wrap .i64 ((0 : Int) - ((l : Nat) : Int)) = (-((l : Nat) : Int))) ∧ True)) hk0_ok dr0_ok (by kernel_rfl) ⟨(by omega), (by rw [wrap_i64 (by omega) (by omega)] <;> omega), trivial⟩ hr

theorem smm_loop {ds : List Nat} (hd : Dig ds) (hL : ds.length ≤ 18) : ∀ (k p : Nat) (j : List Value), k = ds.length - p → p ≤ ds.length →
    Gets Tryz.prog 5 ⟨Frame.enter Tryz.prog 109 #[(.string (mstr ds))] .normal, [], mkH 5 []⟩ (smm_h ds (dval (ds.take p)) p j) → CSp Tryz.prog 5 109 #[(.string (mstr ds))] (mkH 5 []) (.int .i64 (-((dval ds : Nat) : Int))) (mkH 6 []) := by
  intro k
  induction k with
  | zero =>
    intro p j hk hp hr
    have hlt : dval ds < 1000000000000000000 := by
      have h2 := dval_lt _ hd
      have h3 : 10 ^ ds.length ≤ 10 ^ 18 := Nat.pow_le_pow_right (by decide) hL
      have h4 : (10 : Nat) ^ 18 = 1000000000000000000 := by decide
      omega
    rw [List.take_of_length_le (by omega)] at hr
    exact smm_o ds (dval ds) p j hlt (by rw [dstr_size]; omega) hr
  | succ k ih =>
    intro p j hk hp hr
    have hlt : dval (ds.take p) < 100000000000000000 := by
      have h2 := dval_lt _ (hd.take p)
      have h3 : 10 ^ (ds.take p).length ≤ 10 ^ 17 := Nat.pow_le_pow_right (by decide) (by rw [List.length_take]; omega)
      have h4 : (10 : Nat) ^ 17 = 100000000000000000 := by decide
      omega
    have r := smm_r ds _ p (ds.getD p 0) j (hd.get p) hlt (by rw [dstr_size]; omega) (decode_dstr hd (by omega))
    rw [← dval_take_succ (by omega)] at r
    exact ih (p + 1) _ (by omega) (by omega) (hr.trans r)
theorem smmc (n0 : Nat) (ds : List Nat) (hG : 5 ≤ n0) (hd : Dig ds) (h0 : 0 < ds.length) (hL : ds.length ≤ 18) : FSp Tryz.prog 5 109 #[(.string (mstr ds))] n0 [] (.int .i64 (-((dval ds : Nat) : Int))) [] [] :=
  fsp_flat [] [] [] [] [] n0 (smm_loop hd hL _ _ _ rfl (Nat.zero_le _) (smm_in ds hd h0)) rfl rfl rfl (by simp) (by simp) hG rfl rfl rfl (by simp) (by simp) rfl rfl rfl

end Go.Proofs.YtpbbfgpnoinkjaaGreatDoor
