import Derived.Test.YtjbflfbhfnkmlaaGreatDoorPTurn
import Derived.Test.YtjbflfbhfnkmlaaGreatDoorLF
set_option linter.unusedVariables false
set_option linter.unusedSimpArgs false
set_option maxRecDepth 100000
namespace Go.Proofs.YtjbflfbhfnkmlaaGreatDoor
open Go Go.AE Seg
noncomputable section
abbrev z_cb0_0 (d : Nat) : Value := nB ((UInt8.ofNat (48 + d)).toNat)
abbrev z_cb0_1 (ds : List Nat) : List Value := [bF, (.string (dstr ds)), (nI ((dstr ds).size)), (.string (dstr ds)), (nI ((dstr ds).size)), undef, undef, undef, undef, undef, undef, undef, undef, undef, undef, undef, undef, undef, undef, undef, undef]
abbrev z_cb0_3 (ds : List Nat) : AS := ⟨Frame.enter Tryz.prog 143 #[(.string (dstr ds))] .normal, [], mkH 5 []⟩
end
theorem mstr_get0 (ds : List Nat) : (mstr ds)[0]? = some (UInt8.ofNat 45) := by
  have h : 0 < (mstr ds).size := by rw [mstr_len]; omega
  rw [getElem?_pos (mstr ds) 0 h]
  rfl
theorem byte_no45 {d : Nat} (h : d < 10) : ((((UInt8.ofNat (48 + d)).toNat : Nat) : Int) == (45 : Int)) = false := by
  rw [byte_nat h, beq_eq_false_iff_ne]; omega
theorem byte_45 : ((((UInt8.ofNat 45).toNat : Nat) : Int) == (45 : Int)) = true := by decide
theorem byte_ge {d : Nat} (h : d < 10) : decide ((((UInt8.ofNat (48 + d)).toNat : Nat) : Int) < (48 : Int)) = false := by
  rw [byte_nat h, decide_eq_false_iff_not]; omega
theorem byte_le {d : Nat} (h : d < 10) : decide ((((UInt8.ofNat (48 + d)).toNat : Nat) : Int) > (57 : Int)) = false := by
  rw [byte_nat h, decide_eq_false_iff_not]; omega
theorem byte_sub {d : Nat} (h : d < 10) : IntKind.wrap .u8 ((((UInt8.ofNat (48 + d)).toNat : Nat) : Int) - (48 : Int)) = ((d : Nat) : Int) := by
  rw [byte_nat h]
  simp [IntKind.wrap, IntKind.signed, IntKind.bits]
  omega
theorem at_ne {a b : List UInt8} (i : Nat) (h : a[i]? ≠ b[i]?) : (!(a == b)) = true := by
  rw [Bool.not_eq_true', beq_eq_false_iff_ne]
  intro q
  exact h (by rw [q])
theorem byte_inj {d k : Nat} (h : d < 10) (hk : k < 256) (hne : 48 + d ≠ k) : UInt8.ofNat (48 + d) ≠ UInt8.ofNat k := by
  intro q
  have := congrArg UInt8.toNat q
  rw [byte_nat h, UInt8.toNat_ofNat'] at this
  omega
theorem dstr_ne_m0 {ds : List Nat} (hd : Dig ds) (h0 : 0 < ds.length) : (!((dstr ds).toList == (Seg.bts [45, 48]).toList)) = true := by
  rw [ByteArray.toList_eq, ByteArray.toList_eq]
  cases ds with
  | nil => simp at h0
  | cons d ds =>
    refine at_ne 0 fun q => ?_
    have q : some (UInt8.ofNat (48 + d)) = some (UInt8.ofNat 45) := q
    injection q with q
    exact byte_inj (hd d (List.mem_cons_self ..)) (by decide) (by omega) q
theorem mstr_ne_m0 {ds : List Nat} (hd : Dig ds) (h0 : 0 < ds.length) (h1 : ds.getD 0 0 ≠ 0) : (!((mstr ds).toList == (Seg.bts [45, 48]).toList)) = true := by
  rw [ByteArray.toList_eq, ByteArray.toList_eq]
  cases ds with
  | nil => simp at h0
  | cons d ds =>
    have h1' : d ≠ 0 := h1
    refine at_ne 1 fun q => ?_
    have q : some (UInt8.ofNat (48 + d)) = some (UInt8.ofNat 48) := q
    injection q with q
    exact byte_inj (hd d (List.mem_cons_self ..)) (by decide) (by omega) q
theorem ne_p (ds : List Nat) (d : Nat) (hd : d < 10) (h0 : 0 < (dstr ds).size) (hx : (dstr ds)[0]? = some (UInt8.ofNat (48 + d)))  : CT 44 #[(.string (dstr ds))] (mkH 5 []) bF (mkH 5 []) :=
  sF (sc := [(8, .op (.rwB true)), (2, .op (.sidx (UInt8.ofNat (48 + d)))), (0, .op (.rwB false)), (4, .stay)]) (by kernel_rfl) (aI (dT (p := (((dstr ds).size : Nat) : Int) > (0 : Int)) (by omega)) (aI (show 0 ≤ (0 : Int) ∧ (dstr ds)[Int.toNat (0 : Int)]? = some (UInt8.ofNat (48 + d)) from ⟨by omega, hx⟩) (aI (show ((((UInt8.ofNat (48 + d)).toNat : Nat) : Int) == (45 : Int)) = false from (byte_no45 hd)) tt))) (Gets.refl _)
theorem ne_pc (n0 : Nat) (ds : List Nat) (hG : 5 ≤ n0) (hd : Dig ds) (h0 : 0 < ds.length) : FT 44 #[.string (dstr ds)] n0 [] bF [] [] :=
  fsp_flat [] [] [] [] [] n0 (ne_p ds _ (hd.get 0) (by rw [dstr_size]; exact h0) (dstr_get h0)) rfl rfl rfl (by simp) (by simp) hG rfl rfl rfl (by simp) (by simp) rfl rfl rfl
theorem ne_m (ds : List Nat) (h0 : 0 < (mstr ds).size)  : CT 44 #[(.string (mstr ds))] (mkH 5 []) bT (mkH 5 []) :=
  sF (sc := [(8, .op (.rwB true)), (2, .op (.sidx (UInt8.ofNat 45))), (0, .op (.rwB true)), (4, .stay)]) (by kernel_rfl) (aI (dT (p := (((mstr ds).size : Nat) : Int) > (0 : Int)) (by omega)) (aI (show 0 ≤ (0 : Int) ∧ (mstr ds)[Int.toNat (0 : Int)]? = some (UInt8.ofNat 45) from ⟨by omega, mstr_get0 ds⟩) (aI byte_45 tt))) (Gets.refl _)
theorem ne_mc (n0 : Nat) (ds : List Nat) (hG : 5 ≤ n0) : FT 44 #[.string (mstr ds)] n0 [] bT [] [] :=
  fsp_flat [] [] [] [] [] n0 (ne_m ds (by rw [mstr_len]; omega)) rfl rfl rfl (by simp) (by simp) hG rfl rfl rfl (by simp) (by simp) rfl rfl rfl
theorem ab_p (ds : List Nat) (hd : Dig ds) (h0 : 0 < ds.length)  : CT 43 #[(.string (dstr ds))] (mkH 5 []) (.string (dstr ds)) (mkH 5 []) :=
  sF (sc := [(8, .call [] bF [] []), (9, .stay)]) (by kernel_rfl) (aI (ne_pc 5 ds (by omega) hd h0) tt) (Gets.refl _)
theorem ab_m (ds : List Nat) (hs : (mstr ds).size = ds.length + 1)  : CT 43 #[(.string (mstr ds))] (mkH 5 []) (.string (dstr ds)) (mkH 5 []) :=
  sF (sc := [(8, .call [] bT [] []), (5, .op (.sslc (dstr ds))), (3, .stay)]) (by kernel_rfl) (aI (ne_mc 5 ds (by omega)) (aI (show 0 ≤ (1 : Int) ∧ (1 : Int) ≤ (((mstr ds).size : Nat) : Int) ∧ (((mstr ds).size : Nat) : Int) ≤ (((mstr ds).size : Nat) : Int) ∧ (mstr ds).extract (Int.toNat (1 : Int)) (Int.toNat (((mstr ds).size : Nat) : Int)) = (dstr ds) from ⟨by omega, by omega, by omega, mstr_rest ds _ hs⟩) tt)) (Gets.refl _)
theorem ab_pc (n0 : Nat) (ds : List Nat) (hG : 5 ≤ n0) (hd : Dig ds) (h0 : 0 < ds.length) : FT 43 #[.string (dstr ds)] n0 [] (.string (dstr ds)) [] [] :=
  fsp_flat [] [] [] [] [] n0 (ab_p ds hd h0) rfl rfl rfl (by simp) (by simp) hG rfl rfl rfl (by simp) (by simp) rfl rfl rfl
theorem ab_mc (n0 : Nat) (ds : List Nat) (hG : 5 ≤ n0) : FT 43 #[.string (mstr ds)] n0 [] (.string (dstr ds)) [] [] :=
  fsp_flat [] [] [] [] [] n0 (ab_m ds (mstr_len ds)) rfl rfl rfl (by simp) (by simp) hG rfl rfl rfl (by simp) (by simp) rfl rfl rfl
noncomputable def rdg_h_f (ds : List Nat) (i : Nat) (jc : List Value) (j : List Value) : Frame := ⟨143, List.toArray [(.string (dstr ds)), uu, (J j 0), (nI i), (J j 1), (J j 2), bF, bF, (J j 3), (J j 4), (J jc 0), (J jc 1), (J jc 2), (J jc 3), (J jc 4), bF, bF, (J j 5), (J j 6), (J j 7), (J j 8), (J j 9), (J j 10), (J j 11), (J j 12), (J j 13), (J j 14), (J j 15), (J j 16), (J j 17), (J j 18), (J j 19), (J j 20)], [.code (cd Tryz.f143 [1, 1, 0, 1, 0, 0]), .inLoop (cd Tryz.f143 [1, 1, 0, 1, 0, 0]), .inBlock 0, .code (cd Tryz.f143 [1, 1, 1])], [], .run, .normal, none⟩
noncomputable def rdg_h_o (ds : List Nat) (i : Nat) (jc : List Value) : List (Nat × AObj) := []
noncomputable def rdg_h (ds : List Nat) (i : Nat) (jc : List Value) (j : List Value) : AS := ⟨rdg_h_f ds i jc j, [], mkH 5 (rdg_h_o ds i jc)⟩
theorem rdg_in1 (ds : List Nat) (h0 : 0 < (dstr ds).size) (h1 : ¬ (dstr ds).size > 1)  : GT (z_cb0_3 ds) (rdg_h ds 0 ([bF, bF, undef, undef, undef]) (z_cb0_1 ds)) :=
  sR (sc := [(9, .op (.rwB false)), (3, .op (.rwB false)), (16, .stay)]) (by kernel_rfl) (aI (eF (a := (((dstr ds).size : Nat) : Int)) (b := (0 : Int)) (by omega)) (aI (dF (p := (((dstr ds).size : Nat) : Int) > (1 : Int)) (by omega)) tt))
theorem rdg_in2 (ds : List Nat) (h0 : 0 < (dstr ds).size) (h1 : (dstr ds).size > 1) (d : Nat) (hd0 : d < 10) (hd1 : d ≠ 0) (hx : (dstr ds)[0]? = some (UInt8.ofNat (48 + d)))  : GT (z_cb0_3 ds) (rdg_h ds 0 ([bT, bT, (.string (dstr ds)), (z_cb0_0 d), bF]) (z_cb0_1 ds)) :=
  sR (sc := [(9, .op (.rwB false)), (3, .op (.rwB true)), (2, .op (.sidx (UInt8.ofNat (48 + d)))), (0, .op (.rwB false)), (12, .stay)]) (by kernel_rfl) (aI (eF (a := (((dstr ds).size : Nat) : Int)) (b := (0 : Int)) (by omega)) (aI (dT (p := (((dstr ds).size : Nat) : Int) > (1 : Int)) (by omega)) (aI (show 0 ≤ (0 : Int) ∧ (dstr ds)[Int.toNat (0 : Int)]? = some (UInt8.ofNat (48 + d)) from ⟨by omega, hx⟩) (aI (show ((((UInt8.ofNat (48 + d)).toNat : Nat) : Int) == (48 : Int)) = false from (byte_ne hd0 hd1)) tt))))
theorem rdg_r (ds : List Nat) (i d : Nat) (j jc : List Value) (hd : d < 10) (hi : i < (dstr ds).size) (hm : (dstr ds).size < 1099511627776) (hx : (dstr ds)[i]? = some (UInt8.ofNat (48 + d)))  : GT (rdg_h ds i jc j) (rdg_h ds (i + 1) ([(J jc 0), (J jc 1), (J jc 2), (J jc 3), (J jc 4)]) [(J j 0), (J j 1), (J j 2), (J j 3), (J j 4), (nI i), (.string (dstr ds)), (nI ((dstr ds).size)), bT, (nI i), (nI (i + 1)), (.string (dstr ds)), (nI i), (z_cb0_0 d), bF, bF, (.string (dstr ds)), (nI i), (z_cb0_0 d), bF, bF]) :=
  sR (sc := [(6, .op (.rwB true)), (9, .op (.sidx (UInt8.ofNat (48 + d)))), (0, .op (.rwB false)), (3, .op (.sidx (UInt8.ofNat (48 + d)))), (0, .op (.rwB false)), (7, .op (.rwI (((i + 1) : Nat) : Int))), (3, .stay)]) (by kernel_rfl) (aI (dT (p := (i : Int) < (((dstr ds).size : Nat) : Int)) (by omega)) (aI (show 0 ≤ (i : Int) ∧ (dstr ds)[Int.toNat (i : Int)]? = some (UInt8.ofNat (48 + d)) from ⟨by omega, hx⟩) (aI (show decide ((((UInt8.ofNat (48 + d)).toNat : Nat) : Int) < (48 : Int)) = false from (byte_ge hd)) (aI (show 0 ≤ (i : Int) ∧ (dstr ds)[Int.toNat (i : Int)]? = some (UInt8.ofNat (48 + d)) from ⟨by omega, hx⟩) (aI (show decide ((((UInt8.ofNat (48 + d)).toNat : Nat) : Int) > (57 : Int)) = false from (byte_le hd)) (aI (wI64 (a := ((i : Int) + (1 : Int))) (r := (((i + 1) : Nat) : Int)) (by omega)) tt))))))
theorem rdg_o (ds : List Nat) (i : Nat) (j jc : List Value) (hi : (dstr ds).size ≤ i)  (hr : GT (z_cb0_3 ds) (rdg_h ds i jc j)) : CT 143 #[(.string (dstr ds))] (mkH 5 []) bT (mkH 5 []) :=
  sF (sc := [(6, .op (.rwB false)), (8, .stay)]) (by kernel_rfl) (aI (dF (p := (i : Int) < (((dstr ds).size : Nat) : Int)) (by omega)) tt) hr
theorem rdg_loop {ds : List Nat} (hd : Dig ds) (hm : ds.length < 1099511627776) : ∀ (k i : Nat) (j jc : List Value), k = ds.length - i → i ≤ ds.length → GT ⟨Frame.enter Tryz.prog 143 #[(.string (dstr ds))] .normal, [], mkH 5 []⟩ (rdg_h ds i jc j) → CT 143 #[(.string (dstr ds))] (mkH 5 []) bT (mkH 5 []) := by
  intro k
  induction k with
  | zero =>
    intro i j jc hk hi hr
    exact rdg_o ds i j jc (by rw [dstr_size]; omega) hr
  | succ k ih =>
    intro i j jc hk hi hr
    exact ih (i + 1) _ _ (by omega) (by omega) (hr.trans (rdg_r ds i _ j jc (hd.get i) (by rw [dstr_size]; omega) (by rw [dstr_size]; exact hm) (dstr_get (by omega))))
theorem rdg_c1 (n0 : Nat) (ds : List Nat) (hG : 5 ≤ n0) (hd : Dig ds) (h0 : 0 < ds.length) (hm : ds.length < 1099511627776) (hh : 1 < ds.length → ds.getD 0 0 ≠ 0) : FT 143 #[.string (dstr ds)] n0 [] bT [] [] := by
  by_cases h1 : 1 < ds.length
  · exact fsp_flat [] [] [] [] [] n0 (rdg_loop hd hm _ 0 _ _ rfl (Nat.zero_le _) (rdg_in2 ds (by rw [dstr_size]; exact h0) (by rw [dstr_size]; exact h1) _ (hd.get 0) (hh h1) (dstr_get h0))) rfl rfl rfl (by simp) (by simp) hG rfl rfl rfl (by simp) (by simp) rfl rfl rfl
  · exact fsp_flat [] [] [] [] [] n0 (rdg_loop hd hm _ 0 _ _ rfl (Nat.zero_le _) (rdg_in1 ds (by rw [dstr_size]; exact h0) (by rw [dstr_size]; exact h1))) rfl rfl rfl (by simp) (by simp) hG rfl rfl rfl (by simp) (by simp) rfl rfl rfl
theorem fo_p (ds : List Nat) (hd : Dig ds) (h0 : 0 < ds.length) (hm : ds.length < 1099511627776) (hh : 1 < ds.length → ds.getD 0 0 ≠ 0)  : CT 104 #[(.string (dstr ds))] (mkH 5 []) bT (mkH 5 []) :=
  sF (sc := [(7, .call [] (.string (dstr ds)) [] []), (0, .call [] bT [] []), (2, .op (.rwB true)), (4, .stay)]) (by kernel_rfl) (aI (ab_pc 5 ds (by omega) hd h0) (aI (rdg_c1 5 ds (by omega) hd h0 hm hh) (aI (show (!((dstr ds).toList == (bts [45,48]).toList)) = true from (dstr_ne_m0 hd h0)) tt))) (Gets.refl _)
theorem fo_pc (n0 : Nat) (ds : List Nat) (hG : 5 ≤ n0) (hd : Dig ds) (h0 : 0 < ds.length) (hm : ds.length < 1099511627776) (hh : 1 < ds.length → ds.getD 0 0 ≠ 0) : FT 104 #[(.string (dstr ds))] n0 [] bT [] [] :=
  fsp_flat [] [] [] [] [] n0 (fo_p ds hd h0 hm hh) rfl rfl rfl (by simp) (by simp) hG rfl rfl rfl (by simp) (by simp) rfl rfl rfl
theorem fo_m (ds : List Nat) (hd : Dig ds) (h0 : 0 < ds.length) (hm : ds.length < 1099511627776) (hh : 1 < ds.length → ds.getD 0 0 ≠ 0) (h1 : ds.getD 0 0 ≠ 0)  : CT 104 #[(.string (mstr ds))] (mkH 5 []) bT (mkH 5 []) :=
  sF (sc := [(7, .call [] (.string (dstr ds)) [] []), (0, .call [] bT [] []), (2, .op (.rwB true)), (4, .stay)]) (by kernel_rfl) (aI (ab_mc 5 ds (by omega)) (aI (rdg_c1 5 ds (by omega) hd h0 hm hh) (aI (show (!((mstr ds).toList == (bts [45,48]).toList)) = true from (mstr_ne_m0 hd h0 h1)) tt))) (Gets.refl _)
theorem fo_mc (n0 : Nat) (ds : List Nat) (hG : 5 ≤ n0) (hd : Dig ds) (h0 : 0 < ds.length) (hm : ds.length < 1099511627776) (hh : 1 < ds.length → ds.getD 0 0 ≠ 0) (h1 : ds.getD 0 0 ≠ 0) : FT 104 #[(.string (mstr ds))] n0 [] bT [] [] :=
  fsp_flat [] [] [] [] [] n0 (fo_m ds hd h0 hm hh h1) rfl rfl rfl (by simp) (by simp) hG rfl rfl rfl (by simp) (by simp) rfl rfl rfl
noncomputable def tip_h_f (ds : List Nat) (l i : Nat) (j : List Value) : Frame := ⟨52, List.toArray [(.string (dstr ds)), uu, (lI 0), bF, (.string (dstr ds)), (nI l), (nI i), (.string (dstr ds)), (.string (dstr ds)), (.string (dstr ds)), bT, bF, bF, (.string (dstr ds)), (J j 0), bF, bF, (J j 1), (J j 2), (J j 3), (J j 4), (J j 5), (J j 6), (J j 7), (J j 8), (J j 9), (J j 10), (J j 11), (J j 12), (J j 13), (J j 14), uu, uu, uu, uu, uu], [.code (cd Tryz.f52 [1, 1, 1, 1, 0, 1, 0, 0]), .inLoop (cd Tryz.f52 [1, 1, 1, 1, 0, 1, 0, 0]), .inBlock 0, .code (cd Tryz.f52 [1, 1, 1, 1, 1])], [], .run, .normal, none⟩
noncomputable def tip_h_o (ds : List Nat) (l i : Nat) : List (Nat × AObj) := []
noncomputable def tip_h (ds : List Nat) (l i : Nat) (j : List Value) : AS := ⟨tip_h_f ds l i j, [], mkH 5 (tip_h_o ds l i)⟩
theorem tip_in (ds : List Nat) (hd : Dig ds) (h0 : 0 < ds.length) (hm : ds.length ≤ 15) (hh : 1 < ds.length → ds.getD 0 0 ≠ 0) (hs : (dstr ds).size = ds.length)  : GT ⟨Frame.enter Tryz.prog 52 #[(.string (dstr ds))] .normal, [], mkH 5 []⟩ (tip_h ds 0 0 [(nI ((dstr ds).size)), undef, undef, undef, undef, undef, undef, undef, undef, undef, undef, undef, undef, undef, undef]) :=
  sR (sc := [(8, .call [] (.string (dstr ds)) [] []), (6, .call [] bT [] []), (4, .op (.rwB false)), (15, .stay)]) (by kernel_rfl) (aI (ab_pc 5 ds (by omega) hd h0) (aI (fo_pc 5 ds (by omega) hd h0 (by omega) hh) (aI (dF (p := (((dstr ds).size : Nat) : Int) > (15 : Int)) (by omega)) tt)))
theorem tip_r (ds : List Nat) (l i d : Nat) (j : List Value) (hd : d < 10) (hl : l < 100000000000000) (hi : i < (dstr ds).size) (hm : (dstr ds).size < 1099511627776) (hx : (dstr ds)[i]? = some (UInt8.ofNat (48 + d)))  : GT (tip_h ds l i j) (tip_h ds ((10 * l) + d) (i + 1) [(J j 0), (nI i), (.string (dstr ds)), (nI ((dstr ds).size)), bT, (nI i), (nI (i + 1)), (nI l), (nI (10 * l)), (.string (dstr ds)), (nI i), (z_cb0_0 d), (nB d), (nI d), (nI ((10 * l) + d))]) :=
  sR (sc := [(6, .op (.rwB true)), (7, .op (.rwI (((10 * l) : Nat) : Int))), (2, .op (.sidx (UInt8.ofNat (48 + d)))), (0, .op (.rwI (d : Int))), (0, .op (.rwI (d : Int))), (0, .op (.rwI ((((10 * l) + d) : Nat) : Int))), (5, .op (.rwI (((i + 1) : Nat) : Int))), (3, .stay)]) (by kernel_rfl) (aI (dT (p := (i : Int) < (((dstr ds).size : Nat) : Int)) (by omega)) (aI (wI64 (a := ((10 : Int) * (l : Int))) (r := (((10 * l) : Nat) : Int)) (by omega)) (aI (show 0 ≤ (i : Int) ∧ (dstr ds)[Int.toNat (i : Int)]? = some (UInt8.ofNat (48 + d)) from ⟨by omega, hx⟩) (aI (show IntKind.wrap .u8 ((((UInt8.ofNat (48 + d)).toNat : Nat) : Int) - (48 : Int)) = (d : Int) from (byte_sub hd)) (aI (wI64 (a := (d : Int)) (r := (d : Int)) (by omega)) (aI (wI64 (a := ((((10 * l) : Nat) : Int) + (d : Int))) (r := ((((10 * l) + d) : Nat) : Int)) (by omega)) (aI (wI64 (a := ((i : Int) + (1 : Int))) (r := (((i + 1) : Nat) : Int)) (by omega)) tt)))))))
theorem tip_o (ds : List Nat) (l i : Nat) (j : List Value) (hd : Dig ds) (h0 : 0 < ds.length) (hl : l < 1000000000000000) (hi : (dstr ds).size ≤ i)  (hr : GT ⟨Frame.enter Tryz.prog 52 #[(.string (dstr ds))] .normal, [], mkH 5 []⟩ (tip_h ds l i j)) : CT 52 #[(.string (dstr ds))] (mkH 5 []) (.tuple #[(nI l),bT]) (mkH 5 []) :=
  sF (sc := [(6, .op (.rwB false)), (7, .call [] bF [] []), (10, .stay)]) (by kernel_rfl) (aI (dF (p := (i : Int) < (((dstr ds).size : Nat) : Int)) (by omega)) (aI (ne_pc 5 ds (by omega) hd h0) tt)) hr
theorem tip_loop {ds : List Nat} (hd : Dig ds) (h0 : 0 < ds.length) (hL : ds.length ≤ 15) : ∀ (k i : Nat) (j : List Value), k = ds.length - i → i ≤ ds.length → GT ⟨Frame.enter Tryz.prog 52 #[(.string (dstr ds))] .normal, [], mkH 5 []⟩ (tip_h ds (dval (ds.take i)) i j) → CT 52 #[(.string (dstr ds))] (mkH 5 []) (.tuple #[.int .i64 (((dval ds : Nat) : Int)), .bool true]) (mkH 5 []) := by
  intro k
  induction k with
  | zero =>
    intro i j hk hi hr
    have hlt : dval ds < 1000000000000000 := by
      have h2 := dval_lt _ hd
      have h3 : 10 ^ ds.length ≤ 10 ^ 15 := Nat.pow_le_pow_right (by decide) hL
      have h4 : (10 : Nat) ^ 15 = 1000000000000000 := by decide
      omega
    rw [List.take_of_length_le (by omega)] at hr
    exact tip_o ds (dval ds) i j hd h0 hlt (by rw [dstr_size]; omega) hr
  | succ k ih =>
    intro i j hk hi hr
    have hlt : dval (ds.take i) < 100000000000000 := by
      have h2 := dval_lt _ (hd.take i)
      have h3 : 10 ^ (ds.take i).length ≤ 10 ^ 14 := Nat.pow_le_pow_right (by decide) (by rw [List.length_take]; omega)
      have h4 : (10 : Nat) ^ 14 = 100000000000000 := by decide
      omega
    have r := tip_r ds _ i (ds.getD i 0) j (hd.get i) hlt (by rw [dstr_size]; omega) (by rw [dstr_size]; omega) (dstr_get (by omega))
    rw [show 10 * dval (ds.take i) + ds.getD i 0 = dval (ds.take (i + 1)) by rw [dval_take_succ (by omega), Nat.mul_comm]] at r
    exact ih (i + 1) _ (by omega) (by omega) (hr.trans r)
theorem tip_c (n0 : Nat) (ds : List Nat) (hG : 5 ≤ n0) (hd : Dig ds) (h0 : 0 < ds.length) (hm : ds.length ≤ 15) (hh : 1 < ds.length → ds.getD 0 0 ≠ 0) : FT 52 #[(.string (dstr ds))] n0 [] (.tuple #[.int .i64 (((dval ds : Nat) : Int)), .bool true]) [] [] :=
  fsp_flat [] [] [] [] [] n0 (tip_loop hd h0 hm _ 0 _ rfl (Nat.zero_le _) (tip_in ds hd h0 hm hh (dstr_size ds))) rfl rfl rfl (by simp) (by simp) hG rfl rfl rfl (by simp) (by simp) rfl rfl rfl
noncomputable def tim_h_f (ds : List Nat) (l i : Nat) (j : List Value) : Frame := ⟨52, List.toArray [(.string (mstr ds)), uu, (lI 0), bF, (.string (dstr ds)), (nI l), (nI i), (.string (mstr ds)), (.string (dstr ds)), (.string (mstr ds)), bT, bF, bF, (.string (dstr ds)), (J j 0), bF, bF, (J j 1), (J j 2), (J j 3), (J j 4), (J j 5), (J j 6), (J j 7), (J j 8), (J j 9), (J j 10), (J j 11), (J j 12), (J j 13), (J j 14), uu, uu, uu, uu, uu], [.code (cd Tryz.f52 [1, 1, 1, 1, 0, 1, 0, 0]), .inLoop (cd Tryz.f52 [1, 1, 1, 1, 0, 1, 0, 0]), .inBlock 0, .code (cd Tryz.f52 [1, 1, 1, 1, 1])], [], .run, .normal, none⟩
noncomputable def tim_h_o (ds : List Nat) (l i : Nat) : List (Nat × AObj) := []
noncomputable def tim_h (ds : List Nat) (l i : Nat) (j : List Value) : AS := ⟨tim_h_f ds l i j, [], mkH 5 (tim_h_o ds l i)⟩
theorem tim_in (ds : List Nat) (hd : Dig ds) (h0 : 0 < ds.length) (hm : ds.length ≤ 15) (hh : 1 < ds.length → ds.getD 0 0 ≠ 0) (h1 : ds.getD 0 0 ≠ 0) (hs : (dstr ds).size = ds.length)  : GT ⟨Frame.enter Tryz.prog 52 #[(.string (mstr ds))] .normal, [], mkH 5 []⟩ (tim_h ds 0 0 [(nI ((dstr ds).size)), undef, undef, undef, undef, undef, undef, undef, undef, undef, undef, undef, undef, undef, undef]) :=
  sR (sc := [(8, .call [] (.string (dstr ds)) [] []), (6, .call [] bT [] []), (4, .op (.rwB false)), (15, .stay)]) (by kernel_rfl) (aI (ab_mc 5 ds (by omega)) (aI (fo_mc 5 ds (by omega) hd h0 (by omega) hh h1) (aI (dF (p := (((dstr ds).size : Nat) : Int) > (15 : Int)) (by omega)) tt)))
theorem tim_r (ds : List Nat) (l i d : Nat) (j : List Value) (hd : d < 10) (hl : l < 100000000000000) (hi : i < (dstr ds).size) (hm : (dstr ds).size < 1099511627776) (hx : (dstr ds)[i]? = some (UInt8.ofNat (48 + d)))  : GT (tim_h ds l i j) (tim_h ds ((10 * l) + d) (i + 1) [(J j 0), (nI i), (.string (dstr ds)), (nI ((dstr ds).size)), bT, (nI i), (nI (i + 1)), (nI l), (nI (10 * l)), (.string (dstr ds)), (nI i), (z_cb0_0 d), (nB d), (nI d), (nI ((10 * l) + d))]) :=
  sR (sc := [(6, .op (.rwB true)), (7, .op (.rwI (((10 * l) : Nat) : Int))), (2, .op (.sidx (UInt8.ofNat (48 + d)))), (0, .op (.rwI (d : Int))), (0, .op (.rwI (d : Int))), (0, .op (.rwI ((((10 * l) + d) : Nat) : Int))), (5, .op (.rwI (((i + 1) : Nat) : Int))), (3, .stay)]) (by kernel_rfl) (aI (dT (p := (i : Int) < (((dstr ds).size : Nat) : Int)) (by omega)) (aI (wI64 (a := ((10 : Int) * (l : Int))) (r := (((10 * l) : Nat) : Int)) (by omega)) (aI (show 0 ≤ (i : Int) ∧ (dstr ds)[Int.toNat (i : Int)]? = some (UInt8.ofNat (48 + d)) from ⟨by omega, hx⟩) (aI (show IntKind.wrap .u8 ((((UInt8.ofNat (48 + d)).toNat : Nat) : Int) - (48 : Int)) = (d : Int) from (byte_sub hd)) (aI (wI64 (a := (d : Int)) (r := (d : Int)) (by omega)) (aI (wI64 (a := ((((10 * l) : Nat) : Int) + (d : Int))) (r := ((((10 * l) + d) : Nat) : Int)) (by omega)) (aI (wI64 (a := ((i : Int) + (1 : Int))) (r := (((i + 1) : Nat) : Int)) (by omega)) tt)))))))
theorem tim_o (ds : List Nat) (l i : Nat) (j : List Value) (hd : Dig ds) (h0 : 0 < ds.length) (hl : l < 1000000000000000) (hi : (dstr ds).size ≤ i)  (hr : GT ⟨Frame.enter Tryz.prog 52 #[(.string (mstr ds))] .normal, [], mkH 5 []⟩ (tim_h ds l i j)) : CT 52 #[(.string (mstr ds))] (mkH 5 []) (.tuple #[(.int .i64 (-(l : Int))),bT]) (mkH 5 []) :=
  sF (sc := [(6, .op (.rwB false)), (7, .call [] bT [] []), (4, .op (.rwI (-(l : Int)))), (9, .stay)]) (by kernel_rfl) (aI (dF (p := (i : Int) < (((dstr ds).size : Nat) : Int)) (by omega)) (aI (ne_mc 5 ds (by omega)) (aI (wI64 (a := ((0 : Int) - (l : Int))) (r := (-(l : Int))) (by omega)) tt))) hr
theorem tim_loop {ds : List Nat} (hd : Dig ds) (h0 : 0 < ds.length) (hL : ds.length ≤ 15) : ∀ (k i : Nat) (j : List Value), k = ds.length - i → i ≤ ds.length → GT ⟨Frame.enter Tryz.prog 52 #[(.string (mstr ds))] .normal, [], mkH 5 []⟩ (tim_h ds (dval (ds.take i)) i j) → CT 52 #[(.string (mstr ds))] (mkH 5 []) (.tuple #[.int .i64 (-((dval ds : Nat) : Int)), .bool true]) (mkH 5 []) := by
  intro k
  induction k with
  | zero =>
    intro i j hk hi hr
    have hlt : dval ds < 1000000000000000 := by
      have h2 := dval_lt _ hd
      have h3 : 10 ^ ds.length ≤ 10 ^ 15 := Nat.pow_le_pow_right (by decide) hL
      have h4 : (10 : Nat) ^ 15 = 1000000000000000 := by decide
      omega
    rw [List.take_of_length_le (by omega)] at hr
    exact tim_o ds (dval ds) i j hd h0 hlt (by rw [dstr_size]; omega) hr
  | succ k ih =>
    intro i j hk hi hr
    have hlt : dval (ds.take i) < 100000000000000 := by
      have h2 := dval_lt _ (hd.take i)
      have h3 : 10 ^ (ds.take i).length ≤ 10 ^ 14 := Nat.pow_le_pow_right (by decide) (by rw [List.length_take]; omega)
      have h4 : (10 : Nat) ^ 14 = 100000000000000 := by decide
      omega
    have r := tim_r ds _ i (ds.getD i 0) j (hd.get i) hlt (by rw [dstr_size]; omega) (by rw [dstr_size]; omega) (dstr_get (by omega))
    rw [show 10 * dval (ds.take i) + ds.getD i 0 = dval (ds.take (i + 1)) by rw [dval_take_succ (by omega), Nat.mul_comm]] at r
    exact ih (i + 1) _ (by omega) (by omega) (hr.trans r)
theorem tim_c (n0 : Nat) (ds : List Nat) (hG : 5 ≤ n0) (hd : Dig ds) (h0 : 0 < ds.length) (hm : ds.length ≤ 15) (hh : 1 < ds.length → ds.getD 0 0 ≠ 0) (h1 : ds.getD 0 0 ≠ 0) : FT 52 #[(.string (mstr ds))] n0 [] (.tuple #[.int .i64 (-((dval ds : Nat) : Int)), .bool true]) [] [] :=
  fsp_flat [] [] [] [] [] n0 (tim_loop hd h0 hm _ 0 _ rfl (Nat.zero_le _) (tim_in ds hd h0 hm hh h1 (dstr_size ds))) rfl rfl rfl (by simp) (by simp) hG rfl rfl rfl (by simp) (by simp) rfl rfl rfl
theorem ti_i (z : Int) (n0 : Nat) (hG : 5 ≤ n0) (hz : (digs z.natAbs).length ≤ 15) : FT 52 #[.string (istr z)] n0 [] (.tuple #[.int .i64 z, .bool true]) [] [] := by
  rcases int_cases z with ⟨m, rfl, hm⟩ | ⟨m, h0, rfl, hm⟩
  · rw [istr_nn]
    rw [hm] at hz
    have h := tip_c n0 (digs m) hG (digs_dig m) (digs_len_pos m) hz (fun h => digs_head m (by
      rcases Nat.eq_zero_or_pos m with q | q
      · rw [q, digs_zero] at h; exact absurd h (by decide)
      · exact q))
    rw [digs_val] at h
    exact h
  · rw [istr_neg h0]
    rw [hm] at hz
    have h := tim_c n0 (digs m) hG (digs_dig m) (digs_len_pos m) hz (fun _ => digs_head m h0) (digs_head m h0)
    rw [digs_val] at h
    exact h
noncomputable section
abbrev z_e86_0 (n : Nat) : Value := .string (istr (n : Int))
abbrev z_e86_1 (s p : Nat) (jc : List Value) : List Value := [(nI s), bT, (nI p), (nI (p + 1)), (J jc 4), (J jc 5), (J jc 6), (J jc 7), (J jc 8), (J jc 9), (J jc 10), (J jc 11)]
end
noncomputable def fn_h_f (n p : Nat) (jc : List Value) (j : List Value) : Frame := ⟨33, List.toArray [(z_e86_0 n), uu, (.slice none 0 0), (lI 0), (lI 0), (nI n), bT, (.slice none 0 0), (nI p), (J jc 0), (lI 0), (lI 0), bF, uu, (J jc 1), bF, bF, (J jc 2), bF, bF, (J jc 3), (J jc 4), (J jc 5), (J jc 6), bT, bT, bF, bF, (J jc 7), bF, bF, (J jc 8), (J jc 9), (J jc 10), (J jc 11), (J j 0), (J j 1), (J j 2), (J j 3), (J j 4), (J j 5), (J j 6), (J j 7), (J j 8), (J j 9), (J j 10), (J j 11), uu], [.code (cd Tryz.f33 [1, 1, 1, 1, 1, 1, 0, 1, 0, 0, 1, 0, 0, 0, 0]), .inLoop (cd Tryz.f33 [1, 1, 1, 1, 1, 1, 0, 1, 0, 0, 1, 0, 0, 0, 0]), .inBlock 2, .inBlock 1, .code (cd Tryz.f33 [1, 1, 1, 1, 1, 1, 0, 1, 0, 0, 1, 1]), .inLoop (cd Tryz.f33 [1, 1, 1, 1, 1, 1, 0, 1, 0, 0]), .inBlock 0, .code (cd Tryz.f33 [1, 1, 1, 1, 1, 1, 1])], [], .run, .normal, none⟩
noncomputable def fn_h_o (n p : Nat) (jc : List Value) : List (Nat × AObj) := []
noncomputable def fn_h (n p : Nat) (jc : List Value) (j : List Value) : AS := ⟨fn_h_f n p jc j, [], mkH 5 (fn_h_o n p jc)⟩
theorem fn_in (n : Nat) (hn : n ≤ 1000000) (hn1 : 1 < n) (hchk : (∀ n0, 5 ≤ n0 → FT 74 #[.string (istr (n : Int))] n0 [] (lI 0) [] [])) (hneg : (∀ n0, 5 ≤ n0 → FT 44 #[.string (istr (n : Int))] n0 [] bF [] [])) (htoi : (∀ n0, 5 ≤ n0 → FT 52 #[.string (istr (n : Int))] n0 [] (.tuple #[.int .i64 (n : Int), .bool true]) [] [])) (hz : ((istr (n : Int)).toList == (bts [48]).toList) = false)  : GT ⟨Frame.enter Tryz.prog 33 #[(z_e86_0 n)] .normal, [], mkH 5 []⟩ (fn_h n 2 ([(z_e86_0 n), (z_e86_0 n), (z_e86_0 n), (.tuple #[(nI n),bT]), (z_e86_0 n), (.tuple #[(nI n),bT]), (nI n), (nI n), (nI n), bT, undef, undef]) [undef, undef, undef, undef, undef, undef, undef, undef, undef, undef, undef, undef]) :=
  sR (sc := [(9, .call [] (lI 0) [] []), (13, .call [] bF [] []), (2, .op (.rwB false)), (7, .call [] (.tuple #[(nI n),bT]) [] []), (13, .op (.rwB false)), (19, .op (.rwB true)), (7, .stay)]) (by kernel_rfl) (aI (hchk 5 (by omega)) (aI (hneg 5 (by omega)) (aI hz (aI (htoi 5 (by omega)) (aI (dF (p := (n : Int) > (1000000 : Int)) (by omega)) (aI (dT (p := (n : Int) > (1 : Int)) (by omega)) tt))))))
theorem fn_n (n : Nat) (hn : n ≤ 1000000) (hn1 : 1 < n) (p : Nat) (jc j : List Value) (hp : 2 ≤ p) (hp2 : p ≤ 1000000) (hm : n % p ≠ 0)  : GT (fn_h n p jc j) (fn_h n (p + 1) ([(J jc 0), (J jc 1), (J jc 2), (J jc 3), (J jc 4), (J jc 5), (J jc 6), (J jc 7), (nI n), bT, (nI p), (nI (p + 1))]) [(nI n), (nI p), (nI (n % p)), bF, (J j 4), (J j 5), (J j 6), (J j 7), (J j 8), (J j 9), (J j 10), (J j 11)]) :=
  sR (sc := [(5, .op (.div (((n % p) : Nat) : Int))), (0, .op (.rwB false)), (6, .op (.rwI (((p + 1) : Nat) : Int))), (7, .op (.rwB true)), (7, .stay)]) (by kernel_rfl) (aI (show (p : Int) ≠ 0 ∧ (Int.tmod (n : Int) (p : Int)) = (((n % p) : Nat) : Int) from ⟨by omega, tmod_nat n p⟩) (aI (show ((((n % p) : Nat) : Int) == (0 : Int)) = false from (mod_nz hm)) (aI (wI64 (a := ((p : Int) + (1 : Int))) (r := (((p + 1) : Nat) : Int)) (by omega)) (aI (dT (p := (n : Int) > (1 : Int)) (by omega)) tt))))
noncomputable def fl_h_f (n s p k : Nat) (ps : List Nat) (jc : List Value) (j : List Value) : Frame := ⟨33, List.toArray [(z_e86_0 n), uu, (.slice none 0 0), (lI 0), (lI 0), (nI s), bT, (sl 6 k 0), (nI p), (J jc 4), (lI 0), (lI 0), bF, uu, (J jc 5), bF, bF, (J jc 6), bF, bF, (J jc 7), (J jc 8), (J jc 9), (J jc 10), bT, bT, bF, bF, (J jc 11), bF, bF, (J jc 0), (J jc 1), (J jc 2), (J jc 3), (J j 0), (J j 1), (J j 2), (J j 3), (J j 4), (J j 5), (J j 6), (J j 7), (J j 8), (J j 9), (J j 10), (J j 11), uu], [.code (cd Tryz.f33 [1, 1, 1, 1, 1, 1, 0, 1, 0, 0, 1, 0, 0, 0, 0]), .inLoop (cd Tryz.f33 [1, 1, 1, 1, 1, 1, 0, 1, 0, 0, 1, 0, 0, 0, 0]), .inBlock 2, .inBlock 1, .code (cd Tryz.f33 [1, 1, 1, 1, 1, 1, 0, 1, 0, 0, 1, 1]), .inLoop (cd Tryz.f33 [1, 1, 1, 1, 1, 1, 0, 1, 0, 0]), .inBlock 0, .code (cd Tryz.f33 [1, 1, 1, 1, 1, 1, 1])], [], .run, .normal, none⟩
noncomputable def fl_h_o (n s p k : Nat) (ps : List Nat) (jc : List Value) : List (Nat × AObj) := [(6, (.cells (fs ps) 9 (some 1) false))]
noncomputable def fl_h (n s p k : Nat) (ps : List Nat) (jc : List Value) (j : List Value) : AS := ⟨fl_h_f n s p k ps jc j, [], mkH 9 (fl_h_o n s p k ps jc)⟩
theorem fl_in {s0 : AS} (hs0 : s0.h.next = 5) (n : Nat) (hn : n ≤ 1000000) (hn1 : 1 < n) (p : Nat) (jc j : List Value) (hp : 2 ≤ p) (hp2 : p ≤ 1000000) (hjc : FixJ (turnT 5 0) jc) (hm : n % p = 0)  (hr : GT s0 (fn_h n p jc j)) : GT s0 (fl_h n (n / p) p 1 ([p]) ([(J jc 8), (J jc 9), (J jc 10), (J jc 11), (J jc 0), (J jc 1), (J jc 2), (J jc 3), (J jc 4), (J jc 5), (J jc 6), (J jc 7)]) [(nI n), (nI p), (nI (n % p)), bT, (.slice none 0 0), (nI p), (.string (istr (p : Int))), (sl 5 1 1), (sl 6 1 0), (nI n), (nI p), (nI (n / p))]) := by
  have h1 := hr.trans (sR (sc := [(5, .op (.div (((n % p) : Nat) : Int))), (0, .op (.rwB true)), (4, .drwM [(7, .div (((n / p) : Nat) : Int))] [⟨2, [], (.string (istr (p : Int))), [], []⟩]), (2, .stay)]) (fr1 := ⟨33, List.toArray [(z_e86_0 n), uu, (.slice none 0 0), (lI 0), (lI 0), (nI (n / p)), bT, (sl 6 1 0), (nI p), (J jc 0), (lI 0), (lI 0), bF, uu, (J jc 1), bF, bF, (J jc 2), bF, bF, (J jc 3), (J jc 4), (J jc 5), (J jc 6), bT, bT, bF, bF, (J jc 7), bF, bF, (J jc 8), (J jc 9), (J jc 10), (J jc 11), (nI n), (nI p), (nI (n % p)), bT, (.slice none 0 0), (nI p), (.string (istr (p : Int))), (sl 5 1 1), (sl 6 1 0), (nI n), (nI p), (nI (n / p)), uu], [.code (cd Tryz.f33 [1, 1, 1, 1, 1, 1, 0, 1, 0, 0, 1, 0, 0, 0, 0]), .inLoop (cd Tryz.f33 [1, 1, 1, 1, 1, 1, 0, 1, 0, 0, 1, 0, 0, 0, 0]), .inBlock 2, .inBlock 1, .code (cd Tryz.f33 [1, 1, 1, 1, 1, 1, 0, 1, 0, 0, 1, 1]), .inLoop (cd Tryz.f33 [1, 1, 1, 1, 1, 1, 0, 1, 0, 0]), .inBlock 0, .code (cd Tryz.f33 [1, 1, 1, 1, 1, 1, 1])], [], .run, .normal, none⟩) (next := 7) (l := [(6, (.cells [(.string (istr (p : Int)))] 9 (some 1) false))]) (by kernel_rfl) (aI (show (p : Int) ≠ 0 ∧ (Int.tmod (n : Int) (p : Int)) = (((n % p) : Nat) : Int) from ⟨by omega, tmod_nat n p⟩) (aI (show ((((n % p) : Nat) : Int) == (0 : Int)) = true from (mod_z hm)) (aI (aI tt (aI tt (aI tt (aI tt (aI (show (p : Int) ≠ 0 ∧ IntKind.wrap .i64 (Int.tdiv (n : Int) (p : Int)) = (((n / p) : Nat) : Int) from ⟨by omega, quo_wrap (by omega)⟩) (aI (oi_i (p : Int) 5 (by omega) (by omega)) (aI tt (aI tt (aI tt (aI tt tt)))))))))) tt))))
  rw [← J_mv (turnT 5 0) hjc 0] at h1
  rw [← J_mv (turnT 5 0) hjc 1] at h1
  rw [← J_mv (turnT 5 0) hjc 10] at h1
  rw [← J_mv (turnT 5 0) hjc 11] at h1
  rw [← J_mv (turnT 5 0) hjc 2] at h1
  rw [← J_mv (turnT 5 0) hjc 3] at h1
  rw [← J_mv (turnT 5 0) hjc 4] at h1
  rw [← J_mv (turnT 5 0) hjc 5] at h1
  rw [← J_mv (turnT 5 0) hjc 6] at h1
  rw [← J_mv (turnT 5 0) hjc 7] at h1
  rw [← J_mv (turnT 5 0) hjc 8] at h1
  rw [← J_mv (turnT 5 0) hjc 9] at h1
  exact gets_turn (fr := fl_h_f n (n / p) p 1 ([p]) ([(J jc 8), (J jc 9), (J jc 10), (J jc 11), (J jc 0), (J jc 1), (J jc 2), (J jc 3), (J jc 4), (J jc 5), (J jc 6), (J jc 7)]) [(nI n), (nI p), (nI (n % p)), bT, (.slice none 0 0), (nI p), (.string (istr ((p : Nat) : Int))), (sl 5 1 1), (sl 6 1 0), (nI n), (nI p), (nI (n / p))]) (fr1 := ⟨33, List.toArray [(z_e86_0 n), undef, (.slice none 0 0), (lI 0), (lI 0), (nI (n / p)), bT, (sl 6 1 0), (nI p), (mv (turnT 5 0) (J jc 0)), (lI 0), (lI 0), bF, undef, (mv (turnT 5 0) (J jc 1)), bF, bF, (mv (turnT 5 0) (J jc 2)), bF, bF, (mv (turnT 5 0) (J jc 3)), (mv (turnT 5 0) (J jc 4)), (mv (turnT 5 0) (J jc 5)), (mv (turnT 5 0) (J jc 6)), bT, bT, bF, bF, (mv (turnT 5 0) (J jc 7)), bF, bF, (mv (turnT 5 0) (J jc 8)), (mv (turnT 5 0) (J jc 9)), (mv (turnT 5 0) (J jc 10)), (mv (turnT 5 0) (J jc 11)), (nI n), (nI p), (nI (n % p)), bT, (.slice none 0 0), (nI p), (.string (istr ((p : Nat) : Int))), (sl 5 1 1), (sl 6 1 0), (nI n), (nI p), (nI (n / p)), undef], [.code (cd Tryz.f33 [1, 1, 1, 1, 1, 1, 0, 1, 0, 0, 1, 0, 0, 0, 0]), .inLoop (cd Tryz.f33 [1, 1, 1, 1, 1, 1, 0, 1, 0, 0, 1, 0, 0, 0, 0]), .inBlock 2, .inBlock 1, .code (cd Tryz.f33 [1, 1, 1, 1, 1, 1, 0, 1, 0, 0, 1, 1]), .inLoop (cd Tryz.f33 [1, 1, 1, 1, 1, 1, 0, 1, 0, 0]), .inBlock 0, .code (cd Tryz.f33 [1, 1, 1, 1, 1, 1, 1])], [], .run, .normal, none⟩) (nx1 := 7) (b := 5) (k := 0) (l1 := [(6, (.cells [(.string (istr ((p : Nat) : Int)))] 9 (some 1) false))]) (l2 := fl_h_o n (n / p) p 1 ([p]) ([(J jc 8), (J jc 9), (J jc 10), (J jc 11), (J jc 0), (J jc 1), (J jc 2), (J jc 3), (J jc 4), (J jc 5), (J jc 6), (J jc 7)])) h1 (by kernel_rfl) rfl rfl rfl (by kernel_rfl) (by rw [hs0]; decide) (by rw [hs0]; decide) (by decide) (by decide) (by rfl) (by simp only [fl_h_o, List.map_cons, List.map_nil]; simp only [mvO, closedL_mv _ _ (fs_closed _)]; try rfl) (by kernel_rfl)
theorem fl_a {s0 : AS} (hs0 : s0.h.next = 5) (n s p k : Nat) (ps : List Nat) (j jc : List Value) (hjc : FixJ (turnT 5 2) jc) (hs : s ≤ 1000000) (hp : 2 ≤ p) (hp2 : p ≤ 1000000) (hk : ps.length = k) (hk2 : k < 1048576) (hm : s % p = 0)  (hr : GT s0 (fl_h n s p k ps jc j)) : GT s0 (fl_h n (s / p) p (k + 1) (ps ++ [p]) ([(J jc 0), (J jc 1), (J jc 2), (J jc 3), (J jc 4), (J jc 5), (J jc 6), (J jc 7), (J jc 8), (J jc 9), (J jc 10), (J jc 11)]) [(nI s), (nI p), (nI (s % p)), bT, (sl 8 k 0), (nI p), (.string (istr (p : Int))), (sl 5 1 1), (sl 6 (k + 1) 0), (nI s), (nI p), (nI (s / p))]) := by
  have h1 := hr.trans (sR (sc := [(5, .op (.div (((s % p) : Nat) : Int))), (0, .op (.rwB true)), (4, .drwM [(7, .div (((s / p) : Nat) : Int)), (4, .appG (k + 1) (fs (ps ++ [p])))] [⟨2, [], (.string (istr (p : Int))), [], []⟩]), (2, .stay)]) (fr1 := ⟨33, List.toArray [(z_e86_0 n), uu, (.slice none 0 0), (lI 0), (lI 0), (nI (s / p)), bT, (sl 10 (k + 1) 0), (nI p), (J jc 4), (lI 0), (lI 0), bF, uu, (J jc 5), bF, bF, (J jc 6), bF, bF, (J jc 7), (J jc 8), (J jc 9), (J jc 10), bT, bT, bF, bF, (J jc 11), bF, bF, (J jc 0), (J jc 1), (J jc 2), (J jc 3), (nI s), (nI p), (nI (s % p)), bT, (sl 6 k 0), (nI p), (.string (istr (p : Int))), (sl 9 1 1), (sl 10 (k + 1) 0), (nI s), (nI p), (nI (s / p)), uu], [.code (cd Tryz.f33 [1, 1, 1, 1, 1, 1, 0, 1, 0, 0, 1, 0, 0, 0, 0]), .inLoop (cd Tryz.f33 [1, 1, 1, 1, 1, 1, 0, 1, 0, 0, 1, 0, 0, 0, 0]), .inBlock 2, .inBlock 1, .code (cd Tryz.f33 [1, 1, 1, 1, 1, 1, 0, 1, 0, 0, 1, 1]), .inLoop (cd Tryz.f33 [1, 1, 1, 1, 1, 1, 0, 1, 0, 0]), .inBlock 0, .code (cd Tryz.f33 [1, 1, 1, 1, 1, 1, 1])], [], .run, .normal, none⟩) (next := 11) (l := [(10, (.cells (fs (ps ++ [p])) 9 (some 1) false))]) (by kernel_rfl) (aI (show (p : Int) ≠ 0 ∧ (Int.tmod (s : Int) (p : Int)) = (((s % p) : Nat) : Int) from ⟨by omega, tmod_nat s p⟩) (aI (show ((((s % p) : Nat) : Int) == (0 : Int)) = true from (mod_z hm)) (aI (aI tt (aI tt (aI tt (aI tt (aI (show (p : Int) ≠ 0 ∧ IntKind.wrap .i64 (Int.tdiv (s : Int) (p : Int)) = (((s / p) : Nat) : Int) from ⟨by omega, quo_wrap (by omega)⟩) (aI (oi_i (p : Int) 9 (by omega) (by omega)) (aI tt (aI (show k + 1 = (k + 1) ∧ (k + 1) * 16 ≤ 140737488355328 ∧ (k + 1) ≤ 9223372036854775807 ∧ ((fs ps) : List Value).length = k * 1 ∧ ((fs ps) : List Value) ++ [(.string (istr (p : Int)))] = (fs (ps ++ [p])) from ⟨by omega, by omega, by omega, by rw [fs_length]; omega, fs_snoc _ _⟩) (aI tt (aI tt tt)))))))))) tt))))
  rw [← J_mv (turnT 5 2) hjc 0] at h1
  rw [← J_mv (turnT 5 2) hjc 1] at h1
  rw [← J_mv (turnT 5 2) hjc 10] at h1
  rw [← J_mv (turnT 5 2) hjc 11] at h1
  rw [← J_mv (turnT 5 2) hjc 2] at h1
  rw [← J_mv (turnT 5 2) hjc 3] at h1
  rw [← J_mv (turnT 5 2) hjc 4] at h1
  rw [← J_mv (turnT 5 2) hjc 5] at h1
  rw [← J_mv (turnT 5 2) hjc 6] at h1
  rw [← J_mv (turnT 5 2) hjc 7] at h1
  rw [← J_mv (turnT 5 2) hjc 8] at h1
  rw [← J_mv (turnT 5 2) hjc 9] at h1
  exact gets_turn (fr := fl_h_f n (s / p) p (k + 1) (ps ++ [p]) ([(J jc 0), (J jc 1), (J jc 2), (J jc 3), (J jc 4), (J jc 5), (J jc 6), (J jc 7), (J jc 8), (J jc 9), (J jc 10), (J jc 11)]) [(nI s), (nI p), (nI (s % p)), bT, (sl 8 k 0), (nI p), (.string (istr ((p : Nat) : Int))), (sl 5 1 1), (sl 6 (k + 1) 0), (nI s), (nI p), (nI (s / p))]) (fr1 := ⟨33, List.toArray [(z_e86_0 n), undef, (.slice none 0 0), (lI 0), (lI 0), (nI (s / p)), bT, (sl 10 (k + 1) 0), (nI p), (mv (turnT 5 2) (J jc 4)), (lI 0), (lI 0), bF, undef, (mv (turnT 5 2) (J jc 5)), bF, bF, (mv (turnT 5 2) (J jc 6)), bF, bF, (mv (turnT 5 2) (J jc 7)), (mv (turnT 5 2) (J jc 8)), (mv (turnT 5 2) (J jc 9)), (mv (turnT 5 2) (J jc 10)), bT, bT, bF, bF, (mv (turnT 5 2) (J jc 11)), bF, bF, (mv (turnT 5 2) (J jc 0)), (mv (turnT 5 2) (J jc 1)), (mv (turnT 5 2) (J jc 2)), (mv (turnT 5 2) (J jc 3)), (nI s), (nI p), (nI (s % p)), bT, (sl 6 k 0), (nI p), (.string (istr ((p : Nat) : Int))), (sl 9 1 1), (sl 10 (k + 1) 0), (nI s), (nI p), (nI (s / p)), undef], [.code (cd Tryz.f33 [1, 1, 1, 1, 1, 1, 0, 1, 0, 0, 1, 0, 0, 0, 0]), .inLoop (cd Tryz.f33 [1, 1, 1, 1, 1, 1, 0, 1, 0, 0, 1, 0, 0, 0, 0]), .inBlock 2, .inBlock 1, .code (cd Tryz.f33 [1, 1, 1, 1, 1, 1, 0, 1, 0, 0, 1, 1]), .inLoop (cd Tryz.f33 [1, 1, 1, 1, 1, 1, 0, 1, 0, 0]), .inBlock 0, .code (cd Tryz.f33 [1, 1, 1, 1, 1, 1, 1])], [], .run, .normal, none⟩) (nx1 := 11) (b := 5) (k := 2) (l1 := [(10, (.cells (fs (ps ++ [p])) 9 (some 1) false))]) (l2 := fl_h_o n (s / p) p (k + 1) (ps ++ [p]) ([(J jc 0), (J jc 1), (J jc 2), (J jc 3), (J jc 4), (J jc 5), (J jc 6), (J jc 7), (J jc 8), (J jc 9), (J jc 10), (J jc 11)])) h1 (by kernel_rfl) rfl rfl rfl (by kernel_rfl) (by rw [hs0]; decide) (by rw [hs0]; decide) (by decide) (by decide) (by rfl) (by simp only [fl_h_o, List.map_cons, List.map_nil]; simp only [mvO, closedL_mv _ _ (fs_closed _)]; try rfl) (by kernel_rfl)
theorem fl_n (n s p k : Nat) (ps : List Nat) (j jc : List Value) (hjc : FixJ (turnT 5 2) jc) (hs : s ≤ 1000000) (hp : 2 ≤ p) (hp2 : p ≤ 1000000) (hk : ps.length = k) (hk2 : k < 1048576) (hs1 : 1 < s) (hm : s % p ≠ 0)  : GT (fl_h n s p k ps jc j) (fl_h n s (p + 1) k ps ((z_e86_1 s p jc)) [(nI s), (nI p), (nI (s % p)), bF, (J j 4), (J j 5), (J j 6), (J j 7), (J j 8), (J j 9), (J j 10), (J j 11)]) :=
  sR (sc := [(5, .op (.div (((s % p) : Nat) : Int))), (0, .op (.rwB false)), (6, .op (.rwI (((p + 1) : Nat) : Int))), (7, .op (.rwB true)), (7, .stay)]) (by kernel_rfl) (aI (show (p : Int) ≠ 0 ∧ (Int.tmod (s : Int) (p : Int)) = (((s % p) : Nat) : Int) from ⟨by omega, tmod_nat s p⟩) (aI (show ((((s % p) : Nat) : Int) == (0 : Int)) = false from (mod_nz hm)) (aI (wI64 (a := ((p : Int) + (1 : Int))) (r := (((p + 1) : Nat) : Int)) (by omega)) (aI (dT (p := (s : Int) > (1 : Int)) (by omega)) tt))))
theorem fl_o (n s p k : Nat) (ps : List Nat) (j jc : List Value) (hjc : FixJ (turnT 5 2) jc) (hs : s ≤ 1000000) (hp : 2 ≤ p) (hp2 : p ≤ 1000000) (hk : ps.length = k) (hk2 : k < 1048576) (hs1 : ¬ 1 < s) (hm : s % p ≠ 0) (hr : GT ⟨Frame.enter Tryz.prog 33 #[(z_e86_0 n)] .normal, [], mkH 5 []⟩ (fl_h n s p k ps jc j)) : CT 33 #[(z_e86_0 n)] (mkH 5 []) (.tuple #[(sl 6 k 0),(lI 0)]) (mkH 9 [(6, (.cells (fs ps) 9 (some 1) false))]) :=
  sF (sc := [(5, .op (.div (((s % p) : Nat) : Int))), (0, .op (.rwB false)), (6, .op (.rwI (((p + 1) : Nat) : Int))), (7, .op (.rwB false)), (10, .stay)]) (by kernel_rfl) (aI (show (p : Int) ≠ 0 ∧ (Int.tmod (s : Int) (p : Int)) = (((s % p) : Nat) : Int) from ⟨by omega, tmod_nat s p⟩) (aI (show ((((s % p) : Nat) : Int) == (0 : Int)) = false from (mod_nz hm)) (aI (wI64 (a := ((p : Int) + (1 : Int))) (r := (((p + 1) : Nat) : Int)) (by omega)) (aI (dF (p := (s : Int) > (1 : Int)) (by omega)) tt)))) hr
theorem J_cl {jc : List Value} (h : closedL jc = true) (i : Nat) : closed (J jc i) = true := by
  unfold J
  induction jc generalizing i with
  | nil => rfl
  | cons v l ih =>
    simp only [closedL, Bool.and_eq_true] at h
    cases i with
    | zero => exact h.1
    | succ i => exact ih h.2 i
theorem rf_nil {n : Nat} (hn : n ≤ 1000000) (hn1 : 1 < n) : ∀ (k p : Nat) (jc j : List Value), k = n + 1 - p → PInv n [] p n → closedL jc = true → GT ⟨Frame.enter Tryz.prog 33 #[(.string (istr (n : Int)))] .normal, [], mkH 5 []⟩ (fn_h n p jc j) →
    ∃ (q : Nat) (jc' j' : List Value), PInv n [q] q (n / q) ∧ q ≤ n ∧ FixJ (turnT 5 2) jc' ∧ GT ⟨Frame.enter Tryz.prog 33 #[(.string (istr (n : Int)))] .normal, [], mkH 5 []⟩ (fl_h n (n / q) q 1 [q] jc' j') := by
  intro k
  induction k with
  | zero =>
    intro p jc j hk H _ _
    have := pinv_le H hn1
    omega
  | succ k ih =>
    intro p jc j hk H hj hr
    have hp := pinv_le H hn1
    have h2 := H.two
    by_cases hm : n % p = 0
    · have T := pinv_take H hm
      refine ⟨p, _, _, T.1, T.2, ?_, fl_in (s0 := ⟨Frame.enter Tryz.prog 33 #[(.string (istr (n : Int)))] .normal, [], mkH 5 []⟩) rfl n hn hn1 p jc j h2 (by omega) (closedL_mv _ _ hj) hm hr⟩
      unfold FixJ
      simp [mvL, mv, closed_mv _ _ (J_cl hj _)]
    · exact ih (p + 1) _ _ (by omega) (pinv_next H hm) (by simp [closedL, closed, J_cl hj]) (hr.trans (fn_n n hn hn1 p jc j h2 (by omega) hm))
theorem rf_loop {n : Nat} (hn : n ≤ 1000000) : ∀ (fuel s p : Nat) (ps : List Nat) (jc j : List Value), s + (n + 1 - p) ≤ fuel → PInv n ps p s → p ≤ n → FixJ (turnT 5 2) jc → GT ⟨Frame.enter Tryz.prog 33 #[(.string (istr (n : Int)))] .normal, [], mkH 5 []⟩ (fl_h n s p ps.length ps jc j) →
    ∃ ps', lprod ps' = n ∧ (∀ x ∈ ps', Pr x) ∧ ps'.Pairwise (· ≤ ·) ∧ ∃ nx, CT 33 #[(.string (istr (n : Int)))] (mkH 5 []) (.tuple #[sl 6 ps'.length 0, .int .i64 (.ofNat 0)]) (mkH nx [(6, .cells (fs ps') 9 (some 1) false)]) := by
  intro fuel
  induction fuel with
  | zero =>
    intro s p ps jc j hf H hpn _ _
    have := H.one
    omega
  | succ fuel ih =>
    intro s p ps jc j hf H hpn hj hr
    have hlen := (lprod_len (ps := ps) fun x hx => (H.pr x hx).1)
    have h1 := H.one
    have h2 := H.two
    have hle : lprod ps ≤ n := by
      have := Nat.mul_le_mul_left (lprod ps) h1
      rw [H.prod] at this
      omega
    have hsn : s ≤ n := by
      have := Nat.mul_le_mul_right s hlen.2
      rw [H.prod] at this
      omega
    by_cases hm : s % p = 0
    · have T := pinv_take H hm
      have r := fl_a (s0 := ⟨Frame.enter Tryz.prog 33 #[(.string (istr (n : Int)))] .normal, [], mkH 5 []⟩) rfl n s p ps.length ps j jc hj (by omega) h2 (by omega) rfl (by omega) hm hr
      rw [show ps.length + 1 = (ps ++ [p]).length by rw [List.length_append]; rfl] at r
      have hlt : s / p < s := Nat.div_lt_self (by omega) (by omega)
      exact ih _ _ _ _ _ (by omega) T.1 hpn (by first | exact hj | rfl | (unfold FixJ; simp [mvL, J_mv _ hj, mv])) r
    · by_cases hs1 : 1 < s
      · have hps := pinv_le H hs1
        have hne : p ≠ s := fun e => hm (by rw [e]; exact Nat.mod_self s)
        exact ih s (p + 1) ps _ _ (by omega) (pinv_next H hm) (by omega) (by first | exact hj | rfl | (unfold FixJ; simp [mvL, J_mv _ hj, mv])) (hr.trans (fl_n n s p ps.length ps j jc hj (by omega) h2 (by omega) rfl (by omega) hs1 hm))
      · have e : s = 1 := by omega
        refine ⟨ps, ?_, H.pr, H.asc, _, fl_o n s p ps.length ps j jc hj (by omega) h2 (by omega) rfl (by omega) hs1 hm hr⟩
        have := H.prod
        rw [e, Nat.mul_one] at this
        exact this
theorem rf_c (n : Nat) (hn : n ≤ 1000000) (hn1 : 1 < n) (hchk : (∀ n0, 5 ≤ n0 → FT 74 #[.string (istr (n : Int))] n0 [] (lI 0) [] [])) (hneg : (∀ n0, 5 ≤ n0 → FT 44 #[.string (istr (n : Int))] n0 [] bF [] [])) (htoi : (∀ n0, 5 ≤ n0 → FT 52 #[.string (istr (n : Int))] n0 [] (.tuple #[.int .i64 ((n : Nat) : Int), .bool true]) [] [])) (hz : ((istr (n : Int)).toList == (bts [48]).toList) = false) :
    ∃ ps, lprod ps = n ∧ (∀ x ∈ ps, Pr x) ∧ ps.Pairwise (· ≤ ·) ∧ ∀ n0, 5 ≤ n0 →
      FT 33 #[(.string (istr (n : Int)))] n0 [] (.tuple #[sl n0 ps.length 0, .int .i64 (.ofNat 0)]) [] [.cells (fs ps) 9 (some 1) false] := by
  obtain ⟨q, jc, j, H, hq, hj, r⟩ := rf_nil hn hn1 _ 2 _ _ rfl (pinv_start (by omega)) (by first | rfl | kernel_rfl | (simp [closedL, closed, closedArr]; rfl)) (fn_in n hn hn1 hchk hneg htoi hz)
  obtain ⟨ps, e1, e2, e3, nx, S⟩ := rf_loop hn _ _ _ [q] _ _ (Nat.le_refl _) H hq hj r
  exact ⟨ps, e1, e2, e3, fun n0 hG => fsp_flat [] [] [] [6] [.cells (fs ps) 9 (some 1) false] n0 S rfl rfl (by kernel_rfl) (by simp) (by simp) hG rfl rfl (by simp [flat, fs_closed, AObj.ro]) (by simp) (by simp) rfl rfl rfl⟩
theorem so_e  : CT 128 #[(.string (bts []))] (mkH 5 []) (.tuple #[bF,(.string (bts []))]) (mkH 5 []) :=
  sF (sc := [(40, .op (.rwB false)), (44, .stay)]) (by kernel_rfl) (aI (show decide ((((bts []).size : Nat) : Int) ≥ (1 : Int)) = false from (by decide +kernel)) tt) (Gets.refl _)
theorem so_ec (n0 : Nat)  (hG : 5 ≤ n0) : FT 128 #[(.string (bts []))] n0 [] (.tuple #[bF,(.string (bts []))]) [] [] :=
  fsp_flat [] [] [] [] [] n0 (so_e) rfl rfl rfl (by simp) (by simp) hG rfl rfl rfl (by simp) (by simp) rfl rfl rfl
theorem so_n  (t c : ByteArray) (h0 : 0 < t.size) (hx : t.extract 0 1 = c) (hc : (c.toList == (Seg.bts [45]).toList) = false)  : CT 128 #[(.string t)] (mkH 5 []) (.tuple #[bF,(.string t)]) (mkH 5 []) :=
  sF (sc := [(40, .op (.rwB true)), (4, .op (.sslc c)), (1, .op (.rwB false)), (37, .stay)]) (by kernel_rfl) (aI (show decide (((t.size : Nat) : Int) ≥ (1 : Int)) = true from (by rw [decide_eq_true_eq]; omega)) (aI (show 0 ≤ (0 : Int) ∧ (0 : Int) ≤ (1 : Int) ∧ (1 : Int) ≤ ((t.size : Nat) : Int) ∧ t.extract (Int.toNat (0 : Int)) (Int.toNat (1 : Int)) = c from ⟨by omega, by omega, by omega, hx⟩) (aI hc tt))) (Gets.refl _)
theorem so_nc (n0 : Nat)  (t c : ByteArray) (hG : 5 ≤ n0) (h0 : 0 < t.size) (hx : t.extract 0 1 = c) (hc : (c.toList == (Seg.bts [45]).toList) = false) : FT 128 #[(.string t)] n0 [] (.tuple #[bF,(.string t)]) [] [] :=
  fsp_flat [] [] [] [] [] n0 (so_n t c h0 hx hc) rfl rfl rfl (by simp) (by simp) hG rfl rfl rfl (by simp) (by simp) rfl rfl rfl
theorem so_t  (s t : ByteArray) (h0 : 0 < s.size) (hx : s.extract 0 1 = Seg.bts [45]) (hu : s.extract 1 s.size = t)  : CT 128 #[(.string s)] (mkH 5 []) (.tuple #[bT,(.string t)]) (mkH 5 []) :=
  sF (sc := [(40, .op (.rwB true)), (4, .op (.sslc (bts [45]))), (1, .op (.rwB true)), (14, .op (.sslc t)), (26, .stay)]) (by kernel_rfl) (aI (show decide (((s.size : Nat) : Int) ≥ (1 : Int)) = true from (by rw [decide_eq_true_eq]; omega)) (aI (show 0 ≤ (0 : Int) ∧ (0 : Int) ≤ (1 : Int) ∧ (1 : Int) ≤ ((s.size : Nat) : Int) ∧ s.extract (Int.toNat (0 : Int)) (Int.toNat (1 : Int)) = (bts [45]) from ⟨by omega, by omega, by omega, hx⟩) (aI (show ((bts [45]).toList == (bts [45]).toList) = true from (by decide +kernel)) (aI (show 0 ≤ (1 : Int) ∧ (1 : Int) ≤ ((s.size : Nat) : Int) ∧ ((s.size : Nat) : Int) ≤ ((s.size : Nat) : Int) ∧ s.extract (Int.toNat (1 : Int)) (Int.toNat ((s.size : Nat) : Int)) = t from ⟨by omega, by omega, by omega, hu⟩) tt)))) (Gets.refl _)
theorem so_tc (n0 : Nat)  (s t : ByteArray) (hG : 5 ≤ n0) (h0 : 0 < s.size) (hx : s.extract 0 1 = Seg.bts [45]) (hu : s.extract 1 s.size = t) : FT 128 #[(.string s)] n0 [] (.tuple #[bT,(.string t)]) [] [] :=
  fsp_flat [] [] [] [] [] n0 (so_t s t h0 hx hu) rfl rfl rfl (by simp) (by simp) hG rfl rfl rfl (by simp) (by simp) rfl rfl rfl
theorem dA (q : Nat) (hq : q < 48)  : CT 167 #[(nR q)] (mkH 5 []) (lI 99) (mkH 5 []) :=
  sF (sc := [(15, .op (.rwB false)), (11, .op (.rwB false)), (14, .stay)]) (by kernel_rfl) (aI (dF (p := (97 : Int) ≤ (q : Int)) (by omega)) (aI (dF (p := (48 : Int) ≤ (q : Int)) (by omega)) tt)) (Gets.refl _)
theorem dAc (n0 : Nat) (q : Nat) (hG : 5 ≤ n0) (hq : q < 48) : FT 167 #[(nR q)] n0 [] (lI 99) [] [] :=
  fsp_flat [] [] [] [] [] n0 (dA q hq) rfl rfl rfl (by simp) (by simp) hG rfl rfl rfl (by simp) (by simp) rfl rfl rfl
theorem dB (q : Nat) (hq : 57 < q) (hq2 : q < 97)  : CT 167 #[(nR q)] (mkH 5 []) (lI 99) (mkH 5 []) :=
  sF (sc := [(15, .op (.rwB false)), (11, .op (.rwB true)), (2, .op (.rwB false)), (11, .stay)]) (by kernel_rfl) (aI (dF (p := (97 : Int) ≤ (q : Int)) (by omega)) (aI (dT (p := (48 : Int) ≤ (q : Int)) (by omega)) (aI (dF (p := (q : Int) ≤ (57 : Int)) (by omega)) tt))) (Gets.refl _)
theorem dBc (n0 : Nat) (q : Nat) (hG : 5 ≤ n0) (hq : 57 < q) (hq2 : q < 97) : FT 167 #[(nR q)] n0 [] (lI 99) [] [] :=
  fsp_flat [] [] [] [] [] n0 (dB q hq hq2) rfl rfl rfl (by simp) (by simp) hG rfl rfl rfl (by simp) (by simp) rfl rfl rfl
theorem dD (q : Nat) (hq : 122 < q) (hq2 : q ≤ 1114111)  : CT 167 #[(nR q)] (mkH 5 []) (lI 99) (mkH 5 []) :=
  sF (sc := [(15, .op (.rwB true)), (2, .op (.rwB false)), (8, .op (.rwB true)), (2, .op (.rwB false)), (11, .stay)]) (by kernel_rfl) (aI (dT (p := (97 : Int) ≤ (q : Int)) (by omega)) (aI (dF (p := (q : Int) ≤ (122 : Int)) (by omega)) (aI (dT (p := (48 : Int) ≤ (q : Int)) (by omega)) (aI (dF (p := (q : Int) ≤ (57 : Int)) (by omega)) tt)))) (Gets.refl _)
theorem dDc (n0 : Nat) (q : Nat) (hG : 5 ≤ n0) (hq : 122 < q) (hq2 : q ≤ 1114111) : FT 167 #[(nR q)] n0 [] (lI 99) [] [] :=
  fsp_flat [] [] [] [] [] n0 (dD q hq hq2) rfl rfl rfl (by simp) (by simp) hG rfl rfl rfl (by simp) (by simp) rfl rfl rfl
theorem dC (q : Nat) (hq : q < 26)  : CT 167 #[(nR (97 + q))] (mkH 5 []) (nI (10 + q)) (mkH 5 []) :=
  sF (sc := [(15, .op (.rwB true)), (2, .op (.rwB true)), (7, .op (.rwI ((((97 + q) : Nat) : Int) - (39 : Int)))), (7, .op (.rwI (((10 + q) : Nat) : Int))), (0, .op (.rwI (((10 + q) : Nat) : Int))), (3, .stay)]) (by kernel_rfl) (aI (dT (p := (97 : Int) ≤ (((97 + q) : Nat) : Int)) (by omega)) (aI (dT (p := (((97 + q) : Nat) : Int) ≤ (122 : Int)) (by omega)) (aI (wI32 (a := ((((97 + q) : Nat) : Int) - (39 : Int))) (r := ((((97 + q) : Nat) : Int) - (39 : Int))) (by omega)) (aI (wI32 (a := (((((97 + q) : Nat) : Int) - (39 : Int)) - (48 : Int))) (r := (((10 + q) : Nat) : Int)) (by omega)) (aI (wI64 (a := (((10 + q) : Nat) : Int)) (r := (((10 + q) : Nat) : Int)) (by omega)) tt))))) (Gets.refl _)
theorem dCc (n0 : Nat) (q : Nat) (hG : 5 ≤ n0) (hq : q < 26) : FT 167 #[(nR (97 + q))] n0 [] (nI (10 + q)) [] [] :=
  fsp_flat [] [] [] [] [] n0 (dC q hq) rfl rfl rfl (by simp) (by simp) hG rfl rfl rfl (by simp) (by simp) rfl rfl rfl
end Go.Proofs.YtjbflfbhfnkmlaaGreatDoor
