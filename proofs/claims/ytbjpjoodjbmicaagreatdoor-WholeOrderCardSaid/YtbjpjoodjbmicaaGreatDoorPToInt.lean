import Derived.Test.YtbjpjoodjbmicaaGreatDoorPCnt
import Derived.Test.YtbjpjoodjbmicaaGreatDoorPWf
import Derived.Test.YtbjpjoodjbmicaaGreatDoorLF
set_option linter.unusedVariables false
set_option linter.unusedSimpArgs false
set_option maxRecDepth 100000
namespace Go.Proofs.YtbjpjoodjbmicaaGreatDoor
open Go Go.AE Seg
noncomputable section
abbrev z_cb0_0 (d : Nat) : Value := nB ((UInt8.ofNat (48 + d)).toNat)
abbrev z_cb0_1 (ds : List Nat) : List Value := [bF, (.string (dstr ds)), (nI ((dstr ds).size)), (.string (dstr ds)), (nI ((dstr ds).size)), undef, undef, undef, undef, undef, undef, undef, undef, undef, undef, undef, undef, undef, undef, undef, undef]
abbrev z_cb0_2 (ds : List Nat) : List Value := [bF, (.string (dstr ds)), (nI ((dstr ds).size)), (.string (dstr ds)), (nI ((dstr ds).size)), uu, uu, uu, uu, uu, uu, uu, uu, uu, uu, uu, uu, uu, uu, uu, uu]
abbrev z_cb0_3 (ds : List Nat) : AS := ⟨Frame.enter Tryz.prog 143 #[(.string (dstr ds))] .normal, [], mkH 5 []⟩
end
theorem mstr_get0 (ds : List Nat) : (mstr ds)[0]? = some (UInt8.ofNat 45) := by
  have h : 0 < (mstr ds).size := by rw [mstr_len]; omega
  rw [getElem?_pos (mstr ds) 0 h]
  rfl
theorem byte_no45 {d : Nat} (h : d < 10) : ((((UInt8.ofNat (48 + d)).toNat : Nat) : Int) == (45 : Int)) = false := by
  rw [byte_nat h, beq_eq_false_iff_ne]; omega
theorem byte_45 : ((((UInt8.ofNat 45).toNat : Nat) : Int) == (45 : Int)) = true := by decide
theorem byte_ge {d : Nat} (h : d < 10) : decide ((((UInt8.ofNat (48 + d)).toNat : Nat) : Int) < (48 : Int)) = false := by
  rw [byte_nat h, decide_eq_false_iff_not]; omega
theorem byte_le {d : Nat} (h : d < 10) : decide ((((UInt8.ofNat (48 + d)).toNat : Nat) : Int) > (57 : Int)) = false := by
  rw [byte_nat h, decide_eq_false_iff_not]; omega
theorem byte_sub {d : Nat} (h : d < 10) : IntKind.wrap .u8 ((((UInt8.ofNat (48 + d)).toNat : Nat) : Int) - (48 : Int)) = ((d : Nat) : Int) := by
  rw [byte_nat h]
  simp [IntKind.wrap, IntKind.signed, IntKind.bits]
  omega
theorem at_ne {a b : List UInt8} (i : Nat) (h : a[i]? ≠ b[i]?) : (!(a == b)) = true := by
  rw [Bool.not_eq_true', beq_eq_false_iff_ne]
  intro q
  exact h (by rw [q])
theorem byte_inj {d k : Nat} (h : d < 10) (hk : k < 256) (hne : 48 + d ≠ k) : UInt8.ofNat (48 + d) ≠ UInt8.ofNat k := by
  intro q
  have := congrArg UInt8.toNat q
  rw [byte_nat h, UInt8.toNat_ofNat'] at this
  omega
theorem dstr_ne_m0 {ds : List Nat} (hd : Dig ds) (h0 : 0 < ds.length) : (!((dstr ds).toList == (Seg.bts [45, 48]).toList)) = true := by
  rw [ByteArray.toList_eq, ByteArray.toList_eq]
  cases ds with
  | nil => simp at h0
  | cons d ds =>
    refine at_ne 0 fun q => ?_
    have q : some (UInt8.ofNat (48 + d)) = some (UInt8.ofNat 45) := q
    injection q with q
    exact byte_inj (hd d (List.mem_cons_self ..)) (by decide) (by omega) q
theorem mstr_ne_m0 {ds : List Nat} (hd : Dig ds) (h0 : 0 < ds.length) (h1 : ds.getD 0 0 ≠ 0) : (!((mstr ds).toList == (Seg.bts [45, 48]).toList)) = true := by
  rw [ByteArray.toList_eq, ByteArray.toList_eq]
  cases ds with
  | nil => simp at h0
  | cons d ds =>
    have h1' : d ≠ 0 := h1
    refine at_ne 1 fun q => ?_
    have q : some (UInt8.ofNat (48 + d)) = some (UInt8.ofNat 48) := q
    injection q with q
    exact byte_inj (hd d (List.mem_cons_self ..)) (by decide) (by omega) q
theorem ne_p (ds : List Nat) (d : Nat) (hd : d < 10) (h0 : 0 < (dstr ds).size) (hx : (dstr ds)[0]? = some (UInt8.ofNat (48 + d)))  : CT 44 #[(.string (dstr ds))] (mkH 5 []) bF (mkH 5 []) :=
  sF (sc := [(8, .op (.rwB true)), (2, .op (.sidx (UInt8.ofNat (48 + d)))), (0, .op (.rwB false)), (4, .stay)]) (next := 5) (l := []) (p := (decide ((((dstr ds).size : Nat) : Int) > (0 : Int)) = true) ∧ (0 ≤ (0 : Int) ∧ (dstr ds)[Int.toNat (0 : Int)]? = some (UInt8.ofNat (48 + d))) ∧ (((((UInt8.ofNat (48 + d)).toNat : Nat) : Int) == (45 : Int)) = false) ∧ True) (by kernel_rfl) ⟨(dT (by omega)), ⟨by omega, hx⟩, (byte_no45 hd), tt⟩ (Gets.refl _)
theorem ne_pc (n0 : Nat) (ds : List Nat) (hG : 5 ≤ n0) (hd : Dig ds) (h0 : 0 < ds.length) : FT 44 #[.string (dstr ds)] n0 [] bF [] [] :=
  fsp_flat [] [] [] [] [] n0 (ne_p ds _ (hd.get 0) (by rw [dstr_size]; exact h0) (dstr_get h0)) rfl rfl rfl (by simp) (by simp) hG rfl rfl rfl (by simp) (by simp) rfl rfl rfl
theorem ne_m (ds : List Nat) (h0 : 0 < (mstr ds).size)  : CT 44 #[(.string (mstr ds))] (mkH 5 []) bT (mkH 5 []) :=
  sF (sc := [(8, .op (.rwB true)), (2, .op (.sidx (UInt8.ofNat 45))), (0, .op (.rwB true)), (4, .stay)]) (next := 5) (l := []) (p := (decide ((((mstr ds).size : Nat) : Int) > (0 : Int)) = true) ∧ (0 ≤ (0 : Int) ∧ (mstr ds)[Int.toNat (0 : Int)]? = some (UInt8.ofNat 45)) ∧ (((((UInt8.ofNat 45).toNat : Nat) : Int) == (45 : Int)) = true) ∧ True) (by kernel_rfl) ⟨(dT (by omega)), ⟨by omega, mstr_get0 ds⟩, byte_45, tt⟩ (Gets.refl _)
theorem ne_mc (n0 : Nat) (ds : List Nat) (hG : 5 ≤ n0) : FT 44 #[.string (mstr ds)] n0 [] bT [] [] :=
  fsp_flat [] [] [] [] [] n0 (ne_m ds (by rw [mstr_len]; omega)) rfl rfl rfl (by simp) (by simp) hG rfl rfl rfl (by simp) (by simp) rfl rfl rfl
theorem ab_p (ds : List Nat) (hd : Dig ds) (h0 : 0 < ds.length)  : CT 43 #[(.string (dstr ds))] (mkH 5 []) (.string (dstr ds)) (mkH 5 []) :=
  sF (sc := [(8, .call [] bF [] []), (9, .stay)]) (next := 5) (l := []) (p := (FT 44 #[(.string (dstr ds))] 5 [] bF [] []) ∧ True) (by kernel_rfl) ⟨(ne_pc 5 ds (by omega) hd h0), tt⟩ (Gets.refl _)
theorem ab_m (ds : List Nat) (hs : (mstr ds).size = ds.length + 1)  : CT 43 #[(.string (mstr ds))] (mkH 5 []) (.string (dstr ds)) (mkH 5 []) :=
  sF (sc := [(8, .call [] bT [] []), (5, .op (.sslc (dstr ds))), (3, .stay)]) (next := 5) (l := []) (p := (FT 44 #[(.string (mstr ds))] 5 [] bT [] []) ∧ (0 ≤ (1 : Int) ∧ (1 : Int) ≤ (((mstr ds).size : Nat) : Int) ∧ (((mstr ds).size : Nat) : Int) ≤ (((mstr ds).size : Nat) : Int) ∧ (mstr ds).extract (Int.toNat (1 : Int)) (Int.toNat (((mstr ds).size : Nat) : Int)) = (dstr ds)) ∧ True) (by kernel_rfl) ⟨(ne_mc 5 ds (by omega)), ⟨by omega, by omega, by omega, mstr_rest ds _ hs⟩, tt⟩ (Gets.refl _)
theorem ab_pc (n0 : Nat) (ds : List Nat) (hG : 5 ≤ n0) (hd : Dig ds) (h0 : 0 < ds.length) : FT 43 #[.string (dstr ds)] n0 [] (.string (dstr ds)) [] [] :=
  fsp_flat [] [] [] [] [] n0 (ab_p ds hd h0) rfl rfl rfl (by simp) (by simp) hG rfl rfl rfl (by simp) (by simp) rfl rfl rfl
theorem ab_mc (n0 : Nat) (ds : List Nat) (hG : 5 ≤ n0) : FT 43 #[.string (mstr ds)] n0 [] (.string (dstr ds)) [] [] :=
  fsp_flat [] [] [] [] [] n0 (ab_m ds (mstr_len ds)) rfl rfl rfl (by simp) (by simp) hG rfl rfl rfl (by simp) (by simp) rfl rfl rfl
noncomputable def rdg_h_f (ds : List Nat) (i : Nat) (jc : List Value) (j : List Value) : Frame := ⟨143, List.toArray [(.string (dstr ds)), uu, (J j 0), (nI i), (J j 1), (J j 2), bF, bF, (J j 3), (J j 4), (J jc 0), (J jc 1), (J jc 2), (J jc 3), (J jc 4), bF, bF, (J j 5), (J j 6), (J j 7), (J j 8), (J j 9), (J j 10), (J j 11), (J j 12), (J j 13), (J j 14), (J j 15), (J j 16), (J j 17), (J j 18), (J j 19), (J j 20)], [.code (cd Tryz.f143 [1, 1, 0, 1, 0, 0]), .inLoop (cd Tryz.f143 [1, 1, 0, 1, 0, 0]), .inBlock 0, .code (cd Tryz.f143 [1, 1, 1])], [], .run, .normal, none⟩
noncomputable def rdg_h_o (ds : List Nat) (i : Nat) (jc : List Value) : List (Nat × AObj) := []
noncomputable def rdg_h (ds : List Nat) (i : Nat) (jc : List Value) (j : List Value) : AS := ⟨rdg_h_f ds i jc j, [], mkH 5 (rdg_h_o ds i jc)⟩
theorem rdg_in1 (ds : List Nat) (h0 : 0 < (dstr ds).size) (h1 : ¬ (dstr ds).size > 1)  : GT (z_cb0_3 ds) (rdg_h ds 0 ([bF, bF, undef, undef, undef]) (z_cb0_1 ds)) :=
  sR (sc := [(9, .op (.rwB false)), (3, .op (.rwB false)), (16, .stay)]) (fr1 := rdg_h_f ds 0 ([bF, bF, uu, uu, uu]) (z_cb0_2 ds)) (next := 5) (l := rdg_h_o ds 0 ([bF, bF, uu, uu, uu])) (p := (((((dstr ds).size : Nat) : Int) == (0 : Int)) = false) ∧ (decide ((((dstr ds).size : Nat) : Int) > (1 : Int)) = false) ∧ True) (by kernel_rfl) ⟨(eF (by omega)), (dF (by omega)), tt⟩
theorem rdg_in2 (ds : List Nat) (h0 : 0 < (dstr ds).size) (h1 : (dstr ds).size > 1) (d : Nat) (hd0 : d < 10) (hd1 : d ≠ 0) (hx : (dstr ds)[0]? = some (UInt8.ofNat (48 + d)))  : GT (z_cb0_3 ds) (rdg_h ds 0 ([bT, bT, (.string (dstr ds)), (z_cb0_0 d), bF]) (z_cb0_1 ds)) :=
  sR (sc := [(9, .op (.rwB false)), (3, .op (.rwB true)), (2, .op (.sidx (UInt8.ofNat (48 + d)))), (0, .op (.rwB false)), (12, .stay)]) (fr1 := rdg_h_f ds 0 ([bT, bT, (.string (dstr ds)), (z_cb0_0 d), bF]) (z_cb0_2 ds)) (next := 5) (l := rdg_h_o ds 0 ([bT, bT, (.string (dstr ds)), (z_cb0_0 d), bF])) (p := (((((dstr ds).size : Nat) : Int) == (0 : Int)) = false) ∧ (decide ((((dstr ds).size : Nat) : Int) > (1 : Int)) = true) ∧ (0 ≤ (0 : Int) ∧ (dstr ds)[Int.toNat (0 : Int)]? = some (UInt8.ofNat (48 + d))) ∧ (((((UInt8.ofNat (48 + d)).toNat : Nat) : Int) == (48 : Int)) = false) ∧ True) (by kernel_rfl) ⟨(eF (by omega)), (dT (by omega)), ⟨by omega, hx⟩, (byte_ne hd0 hd1), tt⟩
theorem rdg_r (ds : List Nat) (i d : Nat) (j jc : List Value) (hd : d < 10) (hi : i < (dstr ds).size) (hm : (dstr ds).size < 1099511627776) (hx : (dstr ds)[i]? = some (UInt8.ofNat (48 + d)))  : GT (rdg_h ds i jc j) (rdg_h ds (i + 1) ([(J jc 0), (J jc 1), (J jc 2), (J jc 3), (J jc 4)]) [(J j 0), (J j 1), (J j 2), (J j 3), (J j 4), (nI i), (.string (dstr ds)), (nI ((dstr ds).size)), bT, (nI i), (nI (i + 1)), (.string (dstr ds)), (nI i), (z_cb0_0 d), bF, bF, (.string (dstr ds)), (nI i), (z_cb0_0 d), bF, bF]) :=
  sR (sc := [(6, .op (.rwB true)), (9, .op (.sidx (UInt8.ofNat (48 + d)))), (0, .op (.rwB false)), (3, .op (.sidx (UInt8.ofNat (48 + d)))), (0, .op (.rwB false)), (7, .op (.rwI (((i + 1) : Nat) : Int))), (3, .stay)]) (fr1 := rdg_h_f ds (i + 1) ([(J jc 0), (J jc 1), (J jc 2), (J jc 3), (J jc 4)]) [(J j 0), (J j 1), (J j 2), (J j 3), (J j 4), (nI i), (.string (dstr ds)), (nI ((dstr ds).size)), bT, (nI i), (nI (i + 1)), (.string (dstr ds)), (nI i), (z_cb0_0 d), bF, bF, (.string (dstr ds)), (nI i), (z_cb0_0 d), bF, bF]) (next := 5) (l := rdg_h_o ds (i + 1) ([(J jc 0), (J jc 1), (J jc 2), (J jc 3), (J jc 4)])) (p := (decide ((i : Int) < (((dstr ds).size : Nat) : Int)) = true) ∧ (0 ≤ (i : Int) ∧ (dstr ds)[Int.toNat (i : Int)]? = some (UInt8.ofNat (48 + d))) ∧ (decide ((((UInt8.ofNat (48 + d)).toNat : Nat) : Int) < (48 : Int)) = false) ∧ (0 ≤ (i : Int) ∧ (dstr ds)[Int.toNat (i : Int)]? = some (UInt8.ofNat (48 + d))) ∧ (decide ((((UInt8.ofNat (48 + d)).toNat : Nat) : Int) > (57 : Int)) = false) ∧ (IntKind.wrap .i64 ((i : Int) + (1 : Int)) = (((i + 1) : Nat) : Int)) ∧ True) (by kernel_rfl) ⟨(dT (by omega)), ⟨by omega, hx⟩, (byte_ge hd), ⟨by omega, hx⟩, (byte_le hd), (wI64 (by omega)), tt⟩
theorem rdg_o (ds : List Nat) (i : Nat) (j jc : List Value) (hi : (dstr ds).size ≤ i)  (hr : GT (z_cb0_3 ds) (rdg_h ds i jc j)) : CT 143 #[(.string (dstr ds))] (mkH 5 []) bT (mkH 5 []) :=
  sF (sc := [(6, .op (.rwB false)), (8, .stay)]) (next := 5) (l := []) (p := (decide ((i : Int) < (((dstr ds).size : Nat) : Int)) = false) ∧ True) (by kernel_rfl) ⟨(dF (by omega)), tt⟩ hr
theorem rdg_loop {ds : List Nat} (hd : Dig ds) (hm : ds.length < 1099511627776) : ∀ (k i : Nat) (j jc : List Value), k = ds.length - i → i ≤ ds.length → GT ⟨Frame.enter Tryz.prog 143 #[(.string (dstr ds))] .normal, [], mkH 5 []⟩ (rdg_h ds i jc j) → CT 143 #[(.string (dstr ds))] (mkH 5 []) bT (mkH 5 []) := by
  intro k
  induction k with
  | zero =>
    intro i j jc hk hi hr
    exact rdg_o ds i j jc (by rw [dstr_size]; omega) hr
  | succ k ih =>
    intro i j jc hk hi hr
    exact ih (i + 1) _ _ (by omega) (by omega) (hr.trans (rdg_r ds i _ j jc (hd.get i) (by rw [dstr_size]; omega) (by rw [dstr_size]; exact hm) (dstr_get (by omega))))
theorem rdg_c1 (n0 : Nat) (ds : List Nat) (hG : 5 ≤ n0) (hd : Dig ds) (h0 : 0 < ds.length) (hm : ds.length < 1099511627776) (hh : 1 < ds.length → ds.getD 0 0 ≠ 0) : FT 143 #[.string (dstr ds)] n0 [] bT [] [] := by
  by_cases h1 : 1 < ds.length
  · exact fsp_flat [] [] [] [] [] n0 (rdg_loop hd hm _ 0 _ _ rfl (Nat.zero_le _) (rdg_in2 ds (by rw [dstr_size]; exact h0) (by rw [dstr_size]; exact h1) _ (hd.get 0) (hh h1) (dstr_get h0))) rfl rfl rfl (by simp) (by simp) hG rfl rfl rfl (by simp) (by simp) rfl rfl rfl
  · exact fsp_flat [] [] [] [] [] n0 (rdg_loop hd hm _ 0 _ _ rfl (Nat.zero_le _) (rdg_in1 ds (by rw [dstr_size]; exact h0) (by rw [dstr_size]; exact h1))) rfl rfl rfl (by simp) (by simp) hG rfl rfl rfl (by simp) (by simp) rfl rfl rfl
theorem fo_p (ds : List Nat) (hd : Dig ds) (h0 : 0 < ds.length) (hm : ds.length < 1099511627776) (hh : 1 < ds.length → ds.getD 0 0 ≠ 0)  : CT 104 #[(.string (dstr ds))] (mkH 5 []) bT (mkH 5 []) :=
  sF (sc := [(7, .call [] (.string (dstr ds)) [] []), (0, .call [] bT [] []), (2, .op (.rwB true)), (4, .stay)]) (next := 5) (l := []) (p := (FT 43 #[(.string (dstr ds))] 5 [] (.string (dstr ds)) [] []) ∧ (FT 143 #[(.string (dstr ds))] 5 [] bT [] []) ∧ ((!((dstr ds).toList == (bts [45,48]).toList)) = true) ∧ True) (by kernel_rfl) ⟨(ab_pc 5 ds (by omega) hd h0), (rdg_c1 5 ds (by omega) hd h0 hm hh), (dstr_ne_m0 hd h0), tt⟩ (Gets.refl _)
theorem fo_pc (n0 : Nat) (ds : List Nat) (hG : 5 ≤ n0) (hd : Dig ds) (h0 : 0 < ds.length) (hm : ds.length < 1099511627776) (hh : 1 < ds.length → ds.getD 0 0 ≠ 0) : FT 104 #[(.string (dstr ds))] n0 [] bT [] [] :=
  fsp_flat [] [] [] [] [] n0 (fo_p ds hd h0 hm hh) rfl rfl rfl (by simp) (by simp) hG rfl rfl rfl (by simp) (by simp) rfl rfl rfl
theorem fo_m (ds : List Nat) (hd : Dig ds) (h0 : 0 < ds.length) (hm : ds.length < 1099511627776) (hh : 1 < ds.length → ds.getD 0 0 ≠ 0) (h1 : ds.getD 0 0 ≠ 0)  : CT 104 #[(.string (mstr ds))] (mkH 5 []) bT (mkH 5 []) :=
  sF (sc := [(7, .call [] (.string (dstr ds)) [] []), (0, .call [] bT [] []), (2, .op (.rwB true)), (4, .stay)]) (next := 5) (l := []) (p := (FT 43 #[(.string (mstr ds))] 5 [] (.string (dstr ds)) [] []) ∧ (FT 143 #[(.string (dstr ds))] 5 [] bT [] []) ∧ ((!((mstr ds).toList == (bts [45,48]).toList)) = true) ∧ True) (by kernel_rfl) ⟨(ab_mc 5 ds (by omega)), (rdg_c1 5 ds (by omega) hd h0 hm hh), (mstr_ne_m0 hd h0 h1), tt⟩ (Gets.refl _)
theorem fo_mc (n0 : Nat) (ds : List Nat) (hG : 5 ≤ n0) (hd : Dig ds) (h0 : 0 < ds.length) (hm : ds.length < 1099511627776) (hh : 1 < ds.length → ds.getD 0 0 ≠ 0) (h1 : ds.getD 0 0 ≠ 0) : FT 104 #[(.string (mstr ds))] n0 [] bT [] [] :=
  fsp_flat [] [] [] [] [] n0 (fo_m ds hd h0 hm hh h1) rfl rfl rfl (by simp) (by simp) hG rfl rfl rfl (by simp) (by simp) rfl rfl rfl
noncomputable def tip_h_f (ds : List Nat) (l i : Nat) (j : List Value) : Frame := ⟨52, List.toArray [(.string (dstr ds)), uu, (lI 0), bF, (.string (dstr ds)), (nI l), (nI i), (.string (dstr ds)), (.string (dstr ds)), (.string (dstr ds)), bT, bF, bF, (.string (dstr ds)), (J j 0), bF, bF, (J j 1), (J j 2), (J j 3), (J j 4), (J j 5), (J j 6), (J j 7), (J j 8), (J j 9), (J j 10), (J j 11), (J j 12), (J j 13), (J j 14), uu, uu, uu, uu, uu], [.code (cd Tryz.f52 [1, 1, 1, 1, 0, 1, 0, 0]), .inLoop (cd Tryz.f52 [1, 1, 1, 1, 0, 1, 0, 0]), .inBlock 0, .code (cd Tryz.f52 [1, 1, 1, 1, 1])], [], .run, .normal, none⟩
noncomputable def tip_h_o (ds : List Nat) (l i : Nat) : List (Nat × AObj) := []
noncomputable def tip_h (ds : List Nat) (l i : Nat) (j : List Value) : AS := ⟨tip_h_f ds l i j, [], mkH 5 (tip_h_o ds l i)⟩
theorem tip_in (ds : List Nat) (hd : Dig ds) (h0 : 0 < ds.length) (hm : ds.length ≤ 15) (hh : 1 < ds.length → ds.getD 0 0 ≠ 0) (hs : (dstr ds).size = ds.length)  : GT ⟨Frame.enter Tryz.prog 52 #[(.string (dstr ds))] .normal, [], mkH 5 []⟩ (tip_h ds 0 0 [(nI ((dstr ds).size)), undef, undef, undef, undef, undef, undef, undef, undef, undef, undef, undef, undef, undef, undef]) :=
  sR (sc := [(8, .call [] (.string (dstr ds)) [] []), (6, .call [] bT [] []), (4, .op (.rwB false)), (15, .stay)]) (fr1 := tip_h_f ds 0 0 [(nI ((dstr ds).size)), uu, uu, uu, uu, uu, uu, uu, uu, uu, uu, uu, uu, uu, uu]) (next := 5) (l := tip_h_o ds 0 0) (p := (FT 43 #[(.string (dstr ds))] 5 [] (.string (dstr ds)) [] []) ∧ (FT 104 #[(.string (dstr ds))] 5 [] bT [] []) ∧ (decide ((((dstr ds).size : Nat) : Int) > (15 : Int)) = false) ∧ True) (by kernel_rfl) ⟨(ab_pc 5 ds (by omega) hd h0), (fo_pc 5 ds (by omega) hd h0 (by omega) hh), (dF (by omega)), tt⟩
theorem tip_r (ds : List Nat) (l i d : Nat) (j : List Value) (hd : d < 10) (hl : l < 100000000000000) (hi : i < (dstr ds).size) (hm : (dstr ds).size < 1099511627776) (hx : (dstr ds)[i]? = some (UInt8.ofNat (48 + d)))  : GT (tip_h ds l i j) (tip_h ds ((10 * l) + d) (i + 1) [(J j 0), (nI i), (.string (dstr ds)), (nI ((dstr ds).size)), bT, (nI i), (nI (i + 1)), (nI l), (nI (10 * l)), (.string (dstr ds)), (nI i), (z_cb0_0 d), (nB d), (nI d), (nI ((10 * l) + d))]) :=
  sR (sc := [(6, .op (.rwB true)), (7, .op (.rwI (((10 * l) : Nat) : Int))), (2, .op (.sidx (UInt8.ofNat (48 + d)))), (0, .op (.rwI (d : Int))), (0, .op (.rwI (d : Int))), (0, .op (.rwI ((((10 * l) + d) : Nat) : Int))), (5, .op (.rwI (((i + 1) : Nat) : Int))), (3, .stay)]) (fr1 := tip_h_f ds ((10 * l) + d) (i + 1) [(J j 0), (nI i), (.string (dstr ds)), (nI ((dstr ds).size)), bT, (nI i), (nI (i + 1)), (nI l), (nI (10 * l)), (.string (dstr ds)), (nI i), (z_cb0_0 d), (nB d), (nI d), (nI ((10 * l) + d))]) (next := 5) (l := tip_h_o ds ((10 * l) + d) (i + 1)) (p := (decide ((i : Int) < (((dstr ds).size : Nat) : Int)) = true) ∧ (IntKind.wrap .i64 ((10 : Int) * (l : Int)) = (((10 * l) : Nat) : Int)) ∧ (0 ≤ (i : Int) ∧ (dstr ds)[Int.toNat (i : Int)]? = some (UInt8.ofNat (48 + d))) ∧ (IntKind.wrap .u8 ((((UInt8.ofNat (48 + d)).toNat : Nat) : Int) - (48 : Int)) = (d : Int)) ∧ (IntKind.wrap .i64 (d : Int) = (d : Int)) ∧ (IntKind.wrap .i64 ((((10 * l) : Nat) : Int) + (d : Int)) = ((((10 * l) + d) : Nat) : Int)) ∧ (IntKind.wrap .i64 ((i : Int) + (1 : Int)) = (((i + 1) : Nat) : Int)) ∧ True) (by kernel_rfl) ⟨(dT (by omega)), (wI64 (by omega)), ⟨by omega, hx⟩, (byte_sub hd), (wI64 (by omega)), (wI64 (by omega)), (wI64 (by omega)), tt⟩
theorem tip_o (ds : List Nat) (l i : Nat) (j : List Value) (hd : Dig ds) (h0 : 0 < ds.length) (hl : l < 1000000000000000) (hi : (dstr ds).size ≤ i)  (hr : GT ⟨Frame.enter Tryz.prog 52 #[(.string (dstr ds))] .normal, [], mkH 5 []⟩ (tip_h ds l i j)) : CT 52 #[(.string (dstr ds))] (mkH 5 []) (.tuple #[(nI l),bT]) (mkH 5 []) :=
  sF (sc := [(6, .op (.rwB false)), (7, .call [] bF [] []), (10, .stay)]) (next := 5) (l := []) (p := (decide ((i : Int) < (((dstr ds).size : Nat) : Int)) = false) ∧ (FT 44 #[(.string (dstr ds))] 5 [] bF [] []) ∧ True) (by kernel_rfl) ⟨(dF (by omega)), (ne_pc 5 ds (by omega) hd h0), tt⟩ hr
theorem tip_loop {ds : List Nat} (hd : Dig ds) (h0 : 0 < ds.length) (hL : ds.length ≤ 15) : ∀ (k i : Nat) (j : List Value), k = ds.length - i → i ≤ ds.length → GT ⟨Frame.enter Tryz.prog 52 #[(.string (dstr ds))] .normal, [], mkH 5 []⟩ (tip_h ds (dval (ds.take i)) i j) → CT 52 #[(.string (dstr ds))] (mkH 5 []) (.tuple #[.int .i64 (((dval ds : Nat) : Int)), .bool true]) (mkH 5 []) := by
  intro k
  induction k with
  | zero =>
    intro i j hk hi hr
    have hlt : dval ds < 1000000000000000 := by
      have h2 := dval_lt _ hd
      have h3 : 10 ^ ds.length ≤ 10 ^ 15 := Nat.pow_le_pow_right (by decide) hL
      have h4 : (10 : Nat) ^ 15 = 1000000000000000 := by decide
      omega
    rw [List.take_of_length_le (by omega)] at hr
    exact tip_o ds (dval ds) i j hd h0 hlt (by rw [dstr_size]; omega) hr
  | succ k ih =>
    intro i j hk hi hr
    have hlt : dval (ds.take i) < 100000000000000 := by
      have h2 := dval_lt _ (hd.take i)
      have h3 : 10 ^ (ds.take i).length ≤ 10 ^ 14 := Nat.pow_le_pow_right (by decide) (by rw [List.length_take]; omega)
      have h4 : (10 : Nat) ^ 14 = 100000000000000 := by decide
      omega
    have r := tip_r ds _ i (ds.getD i 0) j (hd.get i) hlt (by rw [dstr_size]; omega) (by rw [dstr_size]; omega) (dstr_get (by omega))
    rw [show 10 * dval (ds.take i) + ds.getD i 0 = dval (ds.take (i + 1)) by rw [dval_take_succ (by omega), Nat.mul_comm]] at r
    exact ih (i + 1) _ (by omega) (by omega) (hr.trans r)
theorem tip_c (n0 : Nat) (ds : List Nat) (hG : 5 ≤ n0) (hd : Dig ds) (h0 : 0 < ds.length) (hm : ds.length ≤ 15) (hh : 1 < ds.length → ds.getD 0 0 ≠ 0) : FT 52 #[(.string (dstr ds))] n0 [] (.tuple #[.int .i64 (((dval ds : Nat) : Int)), .bool true]) [] [] :=
  fsp_flat [] [] [] [] [] n0 (tip_loop hd h0 hm _ 0 _ rfl (Nat.zero_le _) (tip_in ds hd h0 hm hh (dstr_size ds))) rfl rfl rfl (by simp) (by simp) hG rfl rfl rfl (by simp) (by simp) rfl rfl rfl
noncomputable def tim_h_f (ds : List Nat) (l i : Nat) (j : List Value) : Frame := ⟨52, List.toArray [(.string (mstr ds)), uu, (lI 0), bF, (.string (dstr ds)), (nI l), (nI i), (.string (mstr ds)), (.string (dstr ds)), (.string (mstr ds)), bT, bF, bF, (.string (dstr ds)), (J j 0), bF, bF, (J j 1), (J j 2), (J j 3), (J j 4), (J j 5), (J j 6), (J j 7), (J j 8), (J j 9), (J j 10), (J j 11), (J j 12), (J j 13), (J j 14), uu, uu, uu, uu, uu], [.code (cd Tryz.f52 [1, 1, 1, 1, 0, 1, 0, 0]), .inLoop (cd Tryz.f52 [1, 1, 1, 1, 0, 1, 0, 0]), .inBlock 0, .code (cd Tryz.f52 [1, 1, 1, 1, 1])], [], .run, .normal, none⟩
noncomputable def tim_h_o (ds : List Nat) (l i : Nat) : List (Nat × AObj) := []
noncomputable def tim_h (ds : List Nat) (l i : Nat) (j : List Value) : AS := ⟨tim_h_f ds l i j, [], mkH 5 (tim_h_o ds l i)⟩
theorem tim_in (ds : List Nat) (hd : Dig ds) (h0 : 0 < ds.length) (hm : ds.length ≤ 15) (hh : 1 < ds.length → ds.getD 0 0 ≠ 0) (h1 : ds.getD 0 0 ≠ 0) (hs : (dstr ds).size = ds.length)  : GT ⟨Frame.enter Tryz.prog 52 #[(.string (mstr ds))] .normal, [], mkH 5 []⟩ (tim_h ds 0 0 [(nI ((dstr ds).size)), undef, undef, undef, undef, undef, undef, undef, undef, undef, undef, undef, undef, undef, undef]) :=
  sR (sc := [(8, .call [] (.string (dstr ds)) [] []), (6, .call [] bT [] []), (4, .op (.rwB false)), (15, .stay)]) (fr1 := tim_h_f ds 0 0 [(nI ((dstr ds).size)), uu, uu, uu, uu, uu, uu, uu, uu, uu, uu, uu, uu, uu, uu]) (next := 5) (l := tim_h_o ds 0 0) (p := (FT 43 #[(.string (mstr ds))] 5 [] (.string (dstr ds)) [] []) ∧ (FT 104 #[(.string (mstr ds))] 5 [] bT [] []) ∧ (decide ((((dstr ds).size : Nat) : Int) > (15 : Int)) = false) ∧ True) (by kernel_rfl) ⟨(ab_mc 5 ds (by omega)), (fo_mc 5 ds (by omega) hd h0 (by omega) hh h1), (dF (by omega)), tt⟩
theorem tim_r (ds : List Nat) (l i d : Nat) (j : List Value) (hd : d < 10) (hl : l < 100000000000000) (hi : i < (dstr ds).size) (hm : (dstr ds).size < 1099511627776) (hx : (dstr ds)[i]? = some (UInt8.ofNat (48 + d)))  : GT (tim_h ds l i j) (tim_h ds ((10 * l) + d) (i + 1) [(J j 0), (nI i), (.string (dstr ds)), (nI ((dstr ds).size)), bT, (nI i), (nI (i + 1)), (nI l), (nI (10 * l)), (.string (dstr ds)), (nI i), (z_cb0_0 d), (nB d), (nI d), (nI ((10 * l) + d))]) :=
  sR (sc := [(6, .op (.rwB true)), (7, .op (.rwI (((10 * l) : Nat) : Int))), (2, .op (.sidx (UInt8.ofNat (48 + d)))), (0, .op (.rwI (d : Int))), (0, .op (.rwI (d : Int))), (0, .op (.rwI ((((10 * l) + d) : Nat) : Int))), (5, .op (.rwI (((i + 1) : Nat) : Int))), (3, .stay)]) (fr1 := tim_h_f ds ((10 * l) + d) (i + 1) [(J j 0), (nI i), (.string (dstr ds)), (nI ((dstr ds).size)), bT, (nI i), (nI (i + 1)), (nI l), (nI (10 * l)), (.string (dstr ds)), (nI i), (z_cb0_0 d), (nB d), (nI d), (nI ((10 * l) + d))]) (next := 5) (l := tim_h_o ds ((10 * l) + d) (i + 1)) (p := (decide ((i : Int) < (((dstr ds).size : Nat) : Int)) = true) ∧ (IntKind.wrap .i64 ((10 : Int) * (l : Int)) = (((10 * l) : Nat) : Int)) ∧ (0 ≤ (i : Int) ∧ (dstr ds)[Int.toNat (i : Int)]? = some (UInt8.ofNat (48 + d))) ∧ (IntKind.wrap .u8 ((((UInt8.ofNat (48 + d)).toNat : Nat) : Int) - (48 : Int)) = (d : Int)) ∧ (IntKind.wrap .i64 (d : Int) = (d : Int)) ∧ (IntKind.wrap .i64 ((((10 * l) : Nat) : Int) + (d : Int)) = ((((10 * l) + d) : Nat) : Int)) ∧ (IntKind.wrap .i64 ((i : Int) + (1 : Int)) = (((i + 1) : Nat) : Int)) ∧ True) (by kernel_rfl) ⟨(dT (by omega)), (wI64 (by omega)), ⟨by omega, hx⟩, (byte_sub hd), (wI64 (by omega)), (wI64 (by omega)), (wI64 (by omega)), tt⟩
theorem tim_o (ds : List Nat) (l i : Nat) (j : List Value) (hd : Dig ds) (h0 : 0 < ds.length) (hl : l < 1000000000000000) (hi : (dstr ds).size ≤ i)  (hr : GT ⟨Frame.enter Tryz.prog 52 #[(.string (mstr ds))] .normal, [], mkH 5 []⟩ (tim_h ds l i j)) : CT 52 #[(.string (mstr ds))] (mkH 5 []) (.tuple #[(.int .i64 (-(l : Int))),bT]) (mkH 5 []) :=
  sF (sc := [(6, .op (.rwB false)), (7, .call [] bT [] []), (4, .op (.rwI (-(l : Int)))), (9, .stay)]) (next := 5) (l := []) (p := (decide ((i : Int) < (((dstr ds).size : Nat) : Int)) = false) ∧ (FT 44 #[(.string (mstr ds))] 5 [] bT [] []) ∧ (IntKind.wrap .i64 ((0 : Int) - (l : Int)) = (-(l : Int))) ∧ True) (by kernel_rfl) ⟨(dF (by omega)), (ne_mc 5 ds (by omega)), (wI64 (by omega)), tt⟩ hr
theorem tim_loop {ds : List Nat} (hd : Dig ds) (h0 : 0 < ds.length) (hL : ds.length ≤ 15) : ∀ (k i : Nat) (j : List Value), k = ds.length - i → i ≤ ds.length → GT ⟨Frame.enter Tryz.prog 52 #[(.string (mstr ds))] .normal, [], mkH 5 []⟩ (tim_h ds (dval (ds.take i)) i j) → CT 52 #[(.string (mstr ds))] (mkH 5 []) (.tuple #[.int .i64 (-((dval ds : Nat) : Int)), .bool true]) (mkH 5 []) := by
  intro k
  induction k with
  | zero =>
    intro i j hk hi hr
    have hlt : dval ds < 1000000000000000 := by
      have h2 := dval_lt _ hd
      have h3 : 10 ^ ds.length ≤ 10 ^ 15 := Nat.pow_le_pow_right (by decide) hL
      have h4 : (10 : Nat) ^ 15 = 1000000000000000 := by decide
      omega
    rw [List.take_of_length_le (by omega)] at hr
    exact tim_o ds (dval ds) i j hd h0 hlt (by rw [dstr_size]; omega) hr
  | succ k ih =>
    intro i j hk hi hr
    have hlt : dval (ds.take i) < 100000000000000 := by
      have h2 := dval_lt _ (hd.take i)
      have h3 : 10 ^ (ds.take i).length ≤ 10 ^ 14 := Nat.pow_le_pow_right (by decide) (by rw [List.length_take]; omega)
      have h4 : (10 : Nat) ^ 14 = 100000000000000 := by decide
      omega
    have r := tim_r ds _ i (ds.getD i 0) j (hd.get i) hlt (by rw [dstr_size]; omega) (by rw [dstr_size]; omega) (dstr_get (by omega))
    rw [show 10 * dval (ds.take i) + ds.getD i 0 = dval (ds.take (i + 1)) by rw [dval_take_succ (by omega), Nat.mul_comm]] at r
    exact ih (i + 1) _ (by omega) (by omega) (hr.trans r)
theorem tim_c (n0 : Nat) (ds : List Nat) (hG : 5 ≤ n0) (hd : Dig ds) (h0 : 0 < ds.length) (hm : ds.length ≤ 15) (hh : 1 < ds.length → ds.getD 0 0 ≠ 0) (h1 : ds.getD 0 0 ≠ 0) : FT 52 #[(.string (mstr ds))] n0 [] (.tuple #[.int .i64 (-((dval ds : Nat) : Int)), .bool true]) [] [] :=
  fsp_flat [] [] [] [] [] n0 (tim_loop hd h0 hm _ 0 _ rfl (Nat.zero_le _) (tim_in ds hd h0 hm hh h1 (dstr_size ds))) rfl rfl rfl (by simp) (by simp) hG rfl rfl rfl (by simp) (by simp) rfl rfl rfl
theorem ti_i (z : Int) (n0 : Nat) (hG : 5 ≤ n0) (hz : (digs z.natAbs).length ≤ 15) : FT 52 #[.string (istr z)] n0 [] (.tuple #[.int .i64 z, .bool true]) [] [] := by
  rcases int_cases z with ⟨m, rfl, hm⟩ | ⟨m, h0, rfl, hm⟩
  · rw [istr_nn]
    rw [hm] at hz
    have h := tip_c n0 (digs m) hG (digs_dig m) (digs_len_pos m) hz (fun h => digs_head m (by
      rcases Nat.eq_zero_or_pos m with q | q
      · rw [q, digs_zero] at h; exact absurd h (by decide)
      · exact q))
    rw [digs_val] at h
    exact h
  · rw [istr_neg h0]
    rw [hm] at hz
    have h := tim_c n0 (digs m) hG (digs_dig m) (digs_len_pos m) hz (fun _ => digs_head m h0) (digs_head m h0)
    rw [digs_val] at h
    exact h
noncomputable section
abbrev z_450_0 (xs : List Nat) : List (Nat × AObj) := [(5, (.cells (ns .i64 xs) 3 (some 1) false))]
abbrev z_450_2 (i a : Nat) : List Value := [(sl 5 i 0), (nI i), bT, bT, (sl 5 i 0), (sl 5 i 0), (nI i), (nI (i - 1)), (.pointer (some ⟨5,(i - 1),none⟩)), (nI a), bT, bT, (sl 5 i 0), (sl 5 i 0), (nI i), (nI (i - 1)), (sl 5 (i - 1) 0)]
abbrev z_450_4 : List Value := [undef, undef, undef, undef, undef, undef, undef, undef, undef, undef, undef, undef, undef, undef, undef, undef, undef]
end
theorem ns_snoc (k : IntKind) (xs : List Nat) (v : Nat) : ns k xs ++ [.int k ((v : Nat) : Int)] = ns k (xs ++ [v]) := by simp [ns]
theorem pred_wrap {i : Nat} (h : 0 < i) (hm : i < 1099511627776) : IntKind.wrap .i64 (((i : Nat) : Int) - (1 : Int)) = (((i - 1) : Nat) : Int) := by
  rw [wrap_i64 (by omega) (by omega)]; omega
noncomputable def rt_h_f (xs : List Nat) (n : Nat) (i : Nat) (j : List Value) : Frame := ⟨133, List.toArray [(sl 5 i 0), uu, (.slice none 0 0), (J j 0), (J j 1), (J j 2), (J j 3), (J j 4), (J j 5), (J j 6), (J j 7), (J j 8), (J j 9), (J j 10), (J j 11), (J j 12), (J j 13), (J j 14), (J j 15), (J j 16), uu], [.code (cd Tryz.f133 [1, 0, 0, 0]), .inLoop (cd Tryz.f133 [1, 0, 0, 0]), .inBlock 0, .code (cd Tryz.f133 [1, 1])], [], .run, .normal, none⟩
noncomputable def rt_h_o (xs : List Nat) (n : Nat) (i : Nat) : List (Nat × AObj) := (z_450_0 xs)
noncomputable def rt_h (xs : List Nat) (n : Nat) (i : Nat) (j : List Value) : AS := ⟨rt_h_f xs n i j, [], mkH 6 (rt_h_o xs n i)⟩
theorem rt_in (xs : List Nat) (n : Nat)  : GT ⟨Frame.enter Tryz.prog 133 #[(sl 5 n 0)] .normal, [], mkH 6 (z_450_0 xs)⟩ (rt_h xs n n z_450_4) :=
  sR (sc := [(7, .stay)]) (fr1 := rt_h_f xs n n [uu, uu, uu, uu, uu, uu, uu, uu, uu, uu, uu, uu, uu, uu, uu, uu, uu]) (next := 6) (l := rt_h_o xs n n) (p := True) (by kernel_rfl) tt
theorem rt_r (xs : List Nat) (n : Nat) (i a : Nat) (j : List Value) (h0 : 0 < i) (hi : i ≤ n) (hc : n ≤ xs.length) (hm : n < 1099511627776) (hx : (ns .i64 xs)[i - 1]? = some (nI a)) (ha : a = 0)  : GT (rt_h xs n i j) (rt_h xs n (i - 1) (z_450_2 i a)) :=
  sR (sc := [(5, .op (.rwB true)), (4, .op (.rwI (((i - 1) : Nat) : Int))), (0, .op (.idx (i - 1))), (0, .op (.ld (nI a))), (0, .op (.rwB true)), (9, .op (.rwI (((i - 1) : Nat) : Int))), (0, .op (.slo (i - 1))), (4, .stay)]) (fr1 := rt_h_f xs n (i - 1) (z_450_2 i a)) (next := 6) (l := rt_h_o xs n (i - 1)) (p := (decide ((i : Int) > (0 : Int)) = true) ∧ (IntKind.wrap .i64 ((i : Int) - (1 : Int)) = (((i - 1) : Nat) : Int)) ∧ (0 ≤ (((i - 1) : Nat) : Int) ∧ (((i - 1) : Nat) : Int) < (i : Int) ∧ 0 + Int.toNat (((i - 1) : Nat) : Int) * 1 = (i - 1)) ∧ (((ns .i64 xs) : List Value)[(i - 1)]? = some (nI a)) ∧ (((a : Int) == (0 : Int)) = true) ∧ (IntKind.wrap .i64 ((i : Int) - (1 : Int)) = (((i - 1) : Nat) : Int)) ∧ (0 ≤ (((i - 1) : Nat) : Int) ∧ Int.toNat (((i - 1) : Nat) : Int) * 1 ≤ ((ns .i64 xs) : List Value).length ∧ Int.toNat (((i - 1) : Nat) : Int) = (i - 1)) ∧ True) (by kernel_rfl) ⟨(dT (by omega)), (pred_wrap h0 (by omega)), (by omega), hx, (by rw [beq_iff_eq]; omega), (pred_wrap h0 (by omega)), ⟨by omega, by rw [ns_length]; omega, by omega⟩, tt⟩
theorem rt_o1 (xs : List Nat) (n : Nat) (i a : Nat) (j : List Value) (h0 : 0 < i) (hi : i ≤ n) (hc : n ≤ xs.length) (hm : n < 1099511627776) (hx : (ns .i64 xs)[i - 1]? = some (nI a)) (ha : a ≠ 0)  (hr : GT ⟨Frame.enter Tryz.prog 133 #[(sl 5 n 0)] .normal, [], mkH 6 (z_450_0 xs)⟩ (rt_h xs n i j)) : CT 133 #[(sl 5 n 0)] (mkH 6 (z_450_0 xs)) (sl 5 i 0) (mkH 6 (z_450_0 xs)) :=
  sF (sc := [(5, .op (.rwB true)), (4, .op (.rwI (((i - 1) : Nat) : Int))), (0, .op (.idx (i - 1))), (0, .op (.ld (nI a))), (0, .op (.rwB false)), (10, .stay)]) (next := 6) (l := (z_450_0 xs)) (p := (decide ((i : Int) > (0 : Int)) = true) ∧ (IntKind.wrap .i64 ((i : Int) - (1 : Int)) = (((i - 1) : Nat) : Int)) ∧ (0 ≤ (((i - 1) : Nat) : Int) ∧ (((i - 1) : Nat) : Int) < (i : Int) ∧ 0 + Int.toNat (((i - 1) : Nat) : Int) * 1 = (i - 1)) ∧ (((ns .i64 xs) : List Value)[(i - 1)]? = some (nI a)) ∧ (((a : Int) == (0 : Int)) = false) ∧ True) (by kernel_rfl) ⟨(dT (by omega)), (pred_wrap h0 (by omega)), (by omega), hx, (by rw [beq_eq_false_iff_ne]; omega), tt⟩ hr
theorem rt_o2 (xs : List Nat) (n : Nat) (i : Nat) (j : List Value) (h0 : i = 0)  (hr : GT ⟨Frame.enter Tryz.prog 133 #[(sl 5 n 0)] .normal, [], mkH 6 (z_450_0 xs)⟩ (rt_h xs n i j)) : CT 133 #[(sl 5 n 0)] (mkH 6 (z_450_0 xs)) (sl 5 i 0) (mkH 6 (z_450_0 xs)) :=
  sF (sc := [(5, .op (.rwB false)), (18, .stay)]) (next := 6) (l := (z_450_0 xs)) (p := (decide ((i : Int) > (0 : Int)) = false) ∧ True) (by kernel_rfl) ⟨(dF (by omega)), tt⟩ hr
theorem rt_loop {n : Nat} {xs : List Nat} (hc : n ≤ xs.length) (hm : n < 1099511627776) : ∀ (i : Nat) (j : List Value), i ≤ n → F.top xs i = F.top xs n →
    GT ⟨Frame.enter Tryz.prog 133 #[(sl 5 n 0)] .normal, [], mkH 6 [(5, (.cells (ns .i64 xs) 3 (some 1) false))]⟩ (rt_h xs n i j) → CT 133 #[(sl 5 n 0)] (mkH 6 [(5, (.cells (ns .i64 xs) 3 (some 1) false))]) (sl 5 (F.top xs n) 0) (mkH 6 [(5, (.cells (ns .i64 xs) 3 (some 1) false))]) := by
  intro i
  induction i with
  | zero =>
    intro j _ ht hr
    have := rt_o2 xs n 0 j rfl hr
    rw [← ht]
    exact this
  | succ i ih =>
    intro j hi ht hr
    by_cases ha : xs.getD i 0 = 0
    · have r := rt_r xs n (i + 1) (xs.getD i 0) j (by omega) hi hc hm (ns_get (by omega)) ha
      exact ih _ (by omega) (by rw [← ht, F.top_zero ha]) (hr.trans r)
    · have := rt_o1 xs n (i + 1) (xs.getD i 0) j (by omega) hi hc hm (ns_get (by omega)) ha hr
      rw [← ht, F.top_some ha]
      exact this
theorem rt_c (n0 b : Nat) (xs : List Nat) (n : Nat) (hb : 5 ≤ b ∧ b < n0) (hc : n ≤ xs.length) (hm : n < 1099511627776) :
    FT 133 #[sl b n 0] n0 [(b, .cells (ns .i64 xs) 3 (some 1) false)] (sl b (F.top xs n) 0) [(b, some (.cells (ns .i64 xs) 3 (some 1) false))] [] :=
  fsp_flat [b] [.cells (ns .i64 xs) 3 (some 1) false] [.cells (ns .i64 xs) 3 (some 1) false] [] [] n0 (rt_loop hc hm n _ (Nat.le_refl _) rfl (rt_in xs n)) rfl rfl rfl (by simp) (by simp; omega) (by omega) (by simp [flat, ns_closed]) (by simp [flat, ns_closed]) rfl (by simp) (by simp) rfl rfl rfl
end Go.Proofs.YtbjpjoodjbmicaaGreatDoor
