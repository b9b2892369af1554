import Derived.Test.YtbjpjoodjbmicaaGreatDoorPText
import Derived.Test.YtbjpjoodjbmicaaGreatDoorK
import Derived.Test.YtbjpjoodjbmicaaGreatDoorPTrim
set_option linter.unusedVariables false
set_option linter.unusedSimpArgs false
set_option maxRecDepth 100000
namespace Go.Proofs.YtbjpjoodjbmicaaGreatDoor
open Go Go.AE Seg
noncomputable section
abbrev z_756_0 (ds : List Nat) : Value := .tuple #[bF,(.string (dstr ds))]
abbrev z_756_1 (ds : List Nat) : AS := ⟨Frame.enter Tryz.prog 127 #[(.string (dstr ds)),(lI 10)] .normal, [], mkH 5 []⟩
abbrev z_756_2 (ds : List Nat) : Value := .tuple #[bT,(.string (dstr ds))]
abbrev z_756_3 (d : Nat) : Value := nB ((UInt8.ofNat (48 + d)).toNat)
end
theorem do_ (q : Nat) (hq : q < 10)  : CT 167 #[(nR (48 + q))] (mkH 5 []) (nI q) (mkH 5 []) :=
  sF (sc := [(15, .op (.rwB false)), (11, .op (.rwB true)), (2, .op (.rwB true)), (9, .op (.rwI (q : Int))), (0, .op (.rwI (q : Int))), (3, .stay)]) (next := 5) (l := []) (p := (decide ((97 : Int) ≤ (((48 + q) : Nat) : Int)) = false) ∧ (decide ((48 : Int) ≤ (((48 + q) : Nat) : Int)) = true) ∧ (decide ((((48 + q) : Nat) : Int) ≤ (57 : Int)) = true) ∧ (IntKind.wrap .i32 ((((48 + q) : Nat) : Int) - (48 : Int)) = (q : Int)) ∧ (IntKind.wrap .i64 (q : Int) = (q : Int)) ∧ True) (by kernel_rfl) ⟨(dF (by omega)), (dT (by omega)), (dT (by omega)), (wI32 (by omega)), (wI64 (by omega)), tt⟩ (Gets.refl _)
theorem do_c (n0 : Nat) (q : Nat) (hG : 5 ≤ n0) (hq : q < 10) : FT 167 #[(nR (48 + q))] n0 [] (nI q) [] [] :=
  fsp_flat [] [] [] [] [] n0 (do_ q hq) rfl rfl rfl (by simp) (by simp) hG rfl rfl rfl (by simp) (by simp) rfl rfl rfl
theorem ne_empty {ds : List Nat} (h : 0 < ds.length) : ((dstr ds).toList == (Seg.bts []).toList) = false := by
  rw [ByteArray.toList_eq, ByteArray.toList_eq]
  cases ds with
  | nil => simp at h
  | cons d ds => rfl
theorem byte_zero {d : Nat} (h0 : d = 0) : ((((UInt8.ofNat (48 + d)).toNat : Nat) : Int) == (48 : Int)) = true := by subst h0; rfl
theorem byte_ne {d : Nat} (h : d < 10) (h0 : d ≠ 0) : ((((UInt8.ofNat (48 + d)).toNat : Nat) : Int) == (48 : Int)) = false := by
  rw [byte_nat h, beq_eq_false_iff_ne]; omega
noncomputable def wfp_h_f (ds : List Nat) (d p : Nat) (j : List Value) : Frame := ⟨127, List.toArray [(.string (dstr ds)), (lI 10), uu, uu, (J j 0), bF, (.string (dstr ds)), uu, (J j 1), (J j 2), (J j 3), (J j 4), bF, (J j 5), (J j 6), bF, bF, (J j 7), (J j 8), bF, bF, uu, uu, uu, uu, uu, uu, bF, bF, (J j 9), (pt 5), (J j 10), (J j 11), (J j 12), (J j 13), (J j 14), (J j 15), (J j 16)], [.code (cd Tryz.f127 [1, 1, 1, 0, 1, 0, 0]), .inLoop (cd Tryz.f127 [1, 1, 1, 0, 1, 0, 0]), .inBlock 0, .code (cd Tryz.f127 [1, 1, 1, 1])], [], .run, .normal, none⟩
noncomputable def wfp_h_o (ds : List Nat) (d p : Nat) : List (Nat × AObj) := [(5, (.iter (dstr ds) p))]
noncomputable def wfp_h (ds : List Nat) (d p : Nat) (j : List Value) : AS := ⟨wfp_h_f ds d p j, [], mkH 6 (wfp_h_o ds d p)⟩
theorem wfp_in (ds : List Nat) (d : Nat) (hd : Dig ds) (h0 : 0 < ds.length) (h1 : d < 10) (h2 : d ≠ 0) (hx : (dstr ds)[0]? = some (UInt8.ofNat (48 + d)))  : GT (z_756_1 ds) (wfp_h ds d 0 [bF, undef, (z_756_0 ds), (.string (dstr ds)), (z_756_0 ds), (.string (dstr ds)), (.string (dstr ds)), (.string (dstr ds)), (z_756_3 d), (.string (dstr ds)), undef, undef, undef, undef, undef, undef, undef]) :=
  sR (sc := [(7, .call [] (z_756_0 ds) [] []), (10, .op (.rwB false)), (2, .op (.sidx (UInt8.ofNat (48 + d)))), (0, .op (.rwB false)), (20, .stay)]) (fr1 := wfp_h_f ds d 0 [bF, uu, (z_756_0 ds), (.string (dstr ds)), (z_756_0 ds), (.string (dstr ds)), (.string (dstr ds)), (.string (dstr ds)), (z_756_3 d), (.string (dstr ds)), uu, uu, uu, uu, uu, uu, uu]) (next := 6) (l := wfp_h_o ds d 0) (p := (FT 128 #[(.string (dstr ds))] 5 [] (z_756_0 ds) [] []) ∧ (((dstr ds).toList == (bts []).toList) = false) ∧ (0 ≤ (0 : Int) ∧ (dstr ds)[Int.toNat (0 : Int)]? = some (UInt8.ofNat (48 + d))) ∧ (((((UInt8.ofNat (48 + d)).toNat : Nat) : Int) == (48 : Int)) = false) ∧ True) (by kernel_rfl) ⟨(so_pc 5 ds (by omega) hd h0), (ne_empty h0), ⟨by omega, hx⟩, (byte_ne h1 h2), tt⟩
theorem wfp_r (ds : List Nat) (d p q : Nat) (j : List Value) (hq : q < 10) (hp : p < (dstr ds).size) (he : Utf8.decode (dstr ds) p = (48 + q, 1))  : GT (wfp_h ds d p j) (wfp_h ds d (p + 1) [(J j 0), (nR (48 + q)), (J j 2), (J j 3), (J j 4), (J j 5), (J j 6), (J j 7), (J j 8), (J j 9), (.tuple #[bT,(nI p),(nR (48 + q))]), bT, (nR (48 + q)), (nR (48 + q)), (nI q), (lI 10), bF]) :=
  sR (sc := [(2, .op (.nxtC (48 + q) 1 (p + 1))), (14, .call [] (nI q) [] []), (1, .op (.rwB false)), (5, .stay)]) (fr1 := wfp_h_f ds d (p + 1) [(J j 0), (nR (48 + q)), (J j 2), (J j 3), (J j 4), (J j 5), (J j 6), (J j 7), (J j 8), (J j 9), (.tuple #[bT,(nI p),(nR (48 + q))]), bT, (nR (48 + q)), (nR (48 + q)), (nI q), (lI 10), bF]) (next := 6) (l := wfp_h_o ds d (p + 1)) (p := (p < (dstr ds).size ∧ Utf8.decode (dstr ds) p = ((48 + q), 1) ∧ p + 1 = (p + 1)) ∧ (FT 167 #[(nR (48 + q))] 6 [] (nI q) [] []) ∧ (decide ((q : Int) ≥ (10 : Int)) = false) ∧ True) (by kernel_rfl) ⟨⟨hp, he, rfl⟩, (do_c 6 q (by omega) hq), (dF (by omega)), tt⟩
theorem wfp_o (ds : List Nat) (d p : Nat) (j : List Value) (hp : (dstr ds).size ≤ p)  (hr : GT (z_756_1 ds) (wfp_h ds d p j)) : CT 127 #[(.string (dstr ds)),(lI 10)] (mkH 5 []) bT (mkH 6 []) :=
  sF (sc := [(2, .op (.nxtE)), (10, .stay)]) (next := 6) (l := []) (p := (¬ p < (dstr ds).size) ∧ True) (by kernel_rfl) ⟨(by omega), tt⟩ hr
theorem wfp_loop {ds : List Nat} {d : Nat} (hd : Dig ds) : ∀ (k p : Nat) (j : List Value), k = ds.length - p → p ≤ ds.length →
    GT ⟨Frame.enter Tryz.prog 127 #[(.string (dstr ds)),(lI 10)] .normal, [], mkH 5 []⟩ (wfp_h ds d p j) → CT 127 #[(.string (dstr ds)),(lI 10)] (mkH 5 []) bT (mkH 6 []) := by
  intro k
  induction k with
  | zero =>
    intro p j hk hp hr
    exact wfp_o ds d p j (by rw [dstr_size]; omega) hr
  | succ k ih =>
    intro p j hk hp hr
    have r := wfp_r ds d p (ds.getD p 0) j (hd.get p) (by rw [dstr_size]; omega) (decode_dstr hd (by omega))
    exact ih (p + 1) _ (by omega) (by omega) (hr.trans r)
theorem wfpc (n0 : Nat) (ds : List Nat) (hG : 5 ≤ n0) (hd : Dig ds) (h0 : 0 < ds.length) (h1 : ds.getD 0 0 ≠ 0) : FT 127 #[(.string (dstr ds)),(lI 10)] n0 [] bT [] [] :=
  fsp_flat [] [] [] [] [] n0 (wfp_loop hd _ _ _ rfl (Nat.zero_le _) (wfp_in ds _ hd h0 (hd.get 0) h1 (dstr_get h0))) rfl rfl rfl (by simp) (by simp) hG rfl rfl rfl (by simp) (by simp) rfl rfl rfl
noncomputable def wfm_h_f (ds : List Nat) (d p : Nat) (j : List Value) : Frame := ⟨127, List.toArray [(.string (mstr ds)), (lI 10), uu, uu, (J j 0), bT, (.string (dstr ds)), uu, (J j 1), (J j 2), (J j 3), (J j 4), bT, (J j 5), (J j 6), bF, bF, (J j 7), (J j 8), bF, bF, uu, uu, uu, uu, uu, uu, bF, bF, (J j 9), (pt 5), (J j 10), (J j 11), (J j 12), (J j 13), (J j 14), (J j 15), (J j 16)], [.code (cd Tryz.f127 [1, 1, 1, 0, 1, 0, 0]), .inLoop (cd Tryz.f127 [1, 1, 1, 0, 1, 0, 0]), .inBlock 0, .code (cd Tryz.f127 [1, 1, 1, 1])], [], .run, .normal, none⟩
noncomputable def wfm_h_o (ds : List Nat) (d p : Nat) : List (Nat × AObj) := [(5, (.iter (dstr ds) p))]
noncomputable def wfm_h (ds : List Nat) (d p : Nat) (j : List Value) : AS := ⟨wfm_h_f ds d p j, [], mkH 6 (wfm_h_o ds d p)⟩
theorem wfm_in (ds : List Nat) (d : Nat) (hd : Dig ds) (h0 : 0 < ds.length) (h1 : d < 10) (h2 : d ≠ 0) (hx : (dstr ds)[0]? = some (UInt8.ofNat (48 + d)))  : GT ⟨Frame.enter Tryz.prog 127 #[(.string (mstr ds)),(lI 10)] .normal, [], mkH 5 []⟩ (wfm_h ds d 0 [bF, undef, (z_756_2 ds), (.string (mstr ds)), (z_756_2 ds), (.string (dstr ds)), (.string (dstr ds)), (.string (dstr ds)), (z_756_3 d), (.string (dstr ds)), undef, undef, undef, undef, undef, undef, undef]) :=
  sR (sc := [(7, .call [] (z_756_2 ds) [] []), (10, .op (.rwB false)), (2, .op (.sidx (UInt8.ofNat (48 + d)))), (0, .op (.rwB false)), (20, .stay)]) (fr1 := wfm_h_f ds d 0 [bF, uu, (z_756_2 ds), (.string (mstr ds)), (z_756_2 ds), (.string (dstr ds)), (.string (dstr ds)), (.string (dstr ds)), (z_756_3 d), (.string (dstr ds)), uu, uu, uu, uu, uu, uu, uu]) (next := 6) (l := wfm_h_o ds d 0) (p := (FT 128 #[(.string (mstr ds))] 5 [] (z_756_2 ds) [] []) ∧ (((dstr ds).toList == (bts []).toList) = false) ∧ (0 ≤ (0 : Int) ∧ (dstr ds)[Int.toNat (0 : Int)]? = some (UInt8.ofNat (48 + d))) ∧ (((((UInt8.ofNat (48 + d)).toNat : Nat) : Int) == (48 : Int)) = false) ∧ True) (by kernel_rfl) ⟨(so_mc 5 ds (by omega)), (ne_empty h0), ⟨by omega, hx⟩, (byte_ne h1 h2), tt⟩
theorem wfm_r (ds : List Nat) (d p q : Nat) (j : List Value) (hq : q < 10) (hp : p < (dstr ds).size) (he : Utf8.decode (dstr ds) p = (48 + q, 1))  : GT (wfm_h ds d p j) (wfm_h ds d (p + 1) [(J j 0), (nR (48 + q)), (J j 2), (J j 3), (J j 4), (J j 5), (J j 6), (J j 7), (J j 8), (J j 9), (.tuple #[bT,(nI p),(nR (48 + q))]), bT, (nR (48 + q)), (nR (48 + q)), (nI q), (lI 10), bF]) :=
  sR (sc := [(2, .op (.nxtC (48 + q) 1 (p + 1))), (14, .call [] (nI q) [] []), (1, .op (.rwB false)), (5, .stay)]) (fr1 := wfm_h_f ds d (p + 1) [(J j 0), (nR (48 + q)), (J j 2), (J j 3), (J j 4), (J j 5), (J j 6), (J j 7), (J j 8), (J j 9), (.tuple #[bT,(nI p),(nR (48 + q))]), bT, (nR (48 + q)), (nR (48 + q)), (nI q), (lI 10), bF]) (next := 6) (l := wfm_h_o ds d (p + 1)) (p := (p < (dstr ds).size ∧ Utf8.decode (dstr ds) p = ((48 + q), 1) ∧ p + 1 = (p + 1)) ∧ (FT 167 #[(nR (48 + q))] 6 [] (nI q) [] []) ∧ (decide ((q : Int) ≥ (10 : Int)) = false) ∧ True) (by kernel_rfl) ⟨⟨hp, he, rfl⟩, (do_c 6 q (by omega) hq), (dF (by omega)), tt⟩
theorem wfm_o (ds : List Nat) (d p : Nat) (j : List Value) (hp : (dstr ds).size ≤ p)  (hr : GT ⟨Frame.enter Tryz.prog 127 #[(.string (mstr ds)),(lI 10)] .normal, [], mkH 5 []⟩ (wfm_h ds d p j)) : CT 127 #[(.string (mstr ds)),(lI 10)] (mkH 5 []) bT (mkH 6 []) :=
  sF (sc := [(2, .op (.nxtE)), (10, .stay)]) (next := 6) (l := []) (p := (¬ p < (dstr ds).size) ∧ True) (by kernel_rfl) ⟨(by omega), tt⟩ hr
theorem wfm_loop {ds : List Nat} {d : Nat} (hd : Dig ds) : ∀ (k p : Nat) (j : List Value), k = ds.length - p → p ≤ ds.length →
    GT ⟨Frame.enter Tryz.prog 127 #[(.string (mstr ds)),(lI 10)] .normal, [], mkH 5 []⟩ (wfm_h ds d p j) → CT 127 #[(.string (mstr ds)),(lI 10)] (mkH 5 []) bT (mkH 6 []) := by
  intro k
  induction k with
  | zero =>
    intro p j hk hp hr
    exact wfm_o ds d p j (by rw [dstr_size]; omega) hr
  | succ k ih =>
    intro p j hk hp hr
    have r := wfm_r ds d p (ds.getD p 0) j (hd.get p) (by rw [dstr_size]; omega) (decode_dstr hd (by omega))
    exact ih (p + 1) _ (by omega) (by omega) (hr.trans r)
theorem wfmc (n0 : Nat) (ds : List Nat) (hG : 5 ≤ n0) (hd : Dig ds) (h0 : 0 < ds.length) (h1 : ds.getD 0 0 ≠ 0) : FT 127 #[(.string (mstr ds)),(lI 10)] n0 [] bT [] [] :=
  fsp_flat [] [] [] [] [] n0 (wfm_loop hd _ _ _ rfl (Nat.zero_le _) (wfm_in ds _ hd h0 (hd.get 0) h1 (dstr_get h0))) rfl rfl rfl (by simp) (by simp) hG rfl rfl rfl (by simp) (by simp) rfl rfl rfl
noncomputable def wfz_h_f (ds : List Nat) (d p : Nat) (j : List Value) : Frame := ⟨127, List.toArray [(.string (dstr ds)), (lI 10), uu, uu, (J j 0), bF, (.string (dstr ds)), uu, (J j 1), (J j 2), (J j 3), (J j 4), bF, (J j 5), (J j 6), bF, bF, (J j 7), (J j 8), bT, bT, bF, bF, bF, (J j 9), bF, bF, bF, bF, (J j 10), (pt 5), (J j 11), (J j 12), (J j 13), (J j 14), (J j 15), (J j 16), (J j 17)], [.code (cd Tryz.f127 [1, 1, 1, 0, 1, 0, 0]), .inLoop (cd Tryz.f127 [1, 1, 1, 0, 1, 0, 0]), .inBlock 0, .code (cd Tryz.f127 [1, 1, 1, 1])], [], .run, .normal, none⟩
noncomputable def wfz_h_o (ds : List Nat) (d p : Nat) : List (Nat × AObj) := [(5, (.iter (dstr ds) p))]
noncomputable def wfz_h (ds : List Nat) (d p : Nat) (j : List Value) : AS := ⟨wfz_h_f ds d p j, [], mkH 6 (wfz_h_o ds d p)⟩
theorem wfz_in (ds : List Nat) (d : Nat) (hd : Dig ds) (h0 : 0 < ds.length) (h1 : d < 10) (h2 : d = 0) (hz : (!((dstr ds).toList == (Seg.bts [48]).toList)) = false) (hx : (dstr ds)[0]? = some (UInt8.ofNat (48 + d)))  : GT (z_756_1 ds) (wfz_h ds d 0 [bF, undef, (z_756_0 ds), (.string (dstr ds)), (z_756_0 ds), (.string (dstr ds)), (.string (dstr ds)), (.string (dstr ds)), (z_756_3 d), (.string (dstr ds)), (.string (dstr ds)), undef, undef, undef, undef, undef, undef, undef]) :=
  sR (sc := [(7, .call [] (z_756_0 ds) [] []), (10, .op (.rwB false)), (2, .op (.sidx (UInt8.ofNat (48 + d)))), (0, .op (.rwB true)), (16, .op (.rwB false)), (14, .stay)]) (fr1 := wfz_h_f ds d 0 [bF, uu, (z_756_0 ds), (.string (dstr ds)), (z_756_0 ds), (.string (dstr ds)), (.string (dstr ds)), (.string (dstr ds)), (z_756_3 d), (.string (dstr ds)), (.string (dstr ds)), uu, uu, uu, uu, uu, uu, uu]) (next := 6) (l := wfz_h_o ds d 0) (p := (FT 128 #[(.string (dstr ds))] 5 [] (z_756_0 ds) [] []) ∧ (((dstr ds).toList == (bts []).toList) = false) ∧ (0 ≤ (0 : Int) ∧ (dstr ds)[Int.toNat (0 : Int)]? = some (UInt8.ofNat (48 + d))) ∧ (((((UInt8.ofNat (48 + d)).toNat : Nat) : Int) == (48 : Int)) = true) ∧ ((!((dstr ds).toList == (bts [48]).toList)) = false) ∧ True) (by kernel_rfl) ⟨(so_pc 5 ds (by omega) hd h0), (ne_empty h0), ⟨by omega, hx⟩, (byte_zero h2), hz, tt⟩
theorem wfz_r (ds : List Nat) (d p q : Nat) (j : List Value) (hq : q < 10) (hp : p < (dstr ds).size) (he : Utf8.decode (dstr ds) p = (48 + q, 1))  : GT (wfz_h ds d p j) (wfz_h ds d (p + 1) [(J j 0), (nR (48 + q)), (J j 2), (J j 3), (J j 4), (J j 5), (J j 6), (J j 7), (J j 8), (J j 9), (J j 10), (.tuple #[bT,(nI p),(nR (48 + q))]), bT, (nR (48 + q)), (nR (48 + q)), (nI q), (lI 10), bF]) :=
  sR (sc := [(2, .op (.nxtC (48 + q) 1 (p + 1))), (14, .call [] (nI q) [] []), (1, .op (.rwB false)), (5, .stay)]) (fr1 := wfz_h_f ds d (p + 1) [(J j 0), (nR (48 + q)), (J j 2), (J j 3), (J j 4), (J j 5), (J j 6), (J j 7), (J j 8), (J j 9), (J j 10), (.tuple #[bT,(nI p),(nR (48 + q))]), bT, (nR (48 + q)), (nR (48 + q)), (nI q), (lI 10), bF]) (next := 6) (l := wfz_h_o ds d (p + 1)) (p := (p < (dstr ds).size ∧ Utf8.decode (dstr ds) p = ((48 + q), 1) ∧ p + 1 = (p + 1)) ∧ (FT 167 #[(nR (48 + q))] 6 [] (nI q) [] []) ∧ (decide ((q : Int) ≥ (10 : Int)) = false) ∧ True) (by kernel_rfl) ⟨⟨hp, he, rfl⟩, (do_c 6 q (by omega) hq), (dF (by omega)), tt⟩
theorem wfz_o (ds : List Nat) (d p : Nat) (j : List Value) (hp : (dstr ds).size ≤ p)  (hr : GT (z_756_1 ds) (wfz_h ds d p j)) : CT 127 #[(.string (dstr ds)),(lI 10)] (mkH 5 []) bT (mkH 6 []) :=
  sF (sc := [(2, .op (.nxtE)), (10, .stay)]) (next := 6) (l := []) (p := (¬ p < (dstr ds).size) ∧ True) (by kernel_rfl) ⟨(by omega), tt⟩ hr
theorem wfz_loop {ds : List Nat} {d : Nat} (hd : Dig ds) : ∀ (k p : Nat) (j : List Value), k = ds.length - p → p ≤ ds.length →
    GT ⟨Frame.enter Tryz.prog 127 #[(.string (dstr ds)),(lI 10)] .normal, [], mkH 5 []⟩ (wfz_h ds d p j) → CT 127 #[(.string (dstr ds)),(lI 10)] (mkH 5 []) bT (mkH 6 []) := by
  intro k
  induction k with
  | zero =>
    intro p j hk hp hr
    exact wfz_o ds d p j (by rw [dstr_size]; omega) hr
  | succ k ih =>
    intro p j hk hp hr
    have r := wfz_r ds d p (ds.getD p 0) j (hd.get p) (by rw [dstr_size]; omega) (decode_dstr hd (by omega))
    exact ih (p + 1) _ (by omega) (by omega) (hr.trans r)
theorem wfzc (n0 : Nat) (ds : List Nat) (hG : 5 ≤ n0) (hd : Dig ds) (h0 : 0 < ds.length) (h1 : ds = [0]) : FT 127 #[(.string (dstr ds)),(lI 10)] n0 [] bT [] [] :=
  fsp_flat [] [] [] [] [] n0 (wfz_loop hd _ _ _ rfl (Nat.zero_le _) (wfz_in ds _ hd h0 (hd.get 0) (by rw [h1]; rfl) (by rw [h1]; decide +kernel) (dstr_get h0))) rfl rfl rfl (by simp) (by simp) hG rfl rfl rfl (by simp) (by simp) rfl rfl rfl
theorem kips (ds : List Nat) (hd : Dig ds) (h0 : 0 < ds.length) (h1 : ds.getD 0 0 ≠ 0) (hs : (dstr ds).size ≤ 18)  : CT 145 #[(.string (dstr ds))] (mkH 5 []) (lI 2) (mkH 5 []) :=
  sF (sc := [(8, .call [] bT [] []), (7, .call [] (z_756_0 ds) [] []), (12, .op (.rwB false)), (7, .op (.rwB false)), (10, .stay)]) (next := 5) (l := []) (p := (FT 127 #[(.string (dstr ds)),(lI 10)] 5 [] bT [] []) ∧ (FT 128 #[(.string (dstr ds))] 5 [] (z_756_0 ds) [] []) ∧ (decide ((((dstr ds).size : Nat) : Int) > (400 : Int)) = false) ∧ (decide ((((dstr ds).size : Nat) : Int) > (18 : Int)) = false) ∧ True) (by kernel_rfl) ⟨(wfpc 5 ds (by omega) hd h0 h1), (so_pc 5 ds (by omega) hd h0), (dF (by omega)), (dF (by omega)), tt⟩ (Gets.refl _)
theorem kipsc (n0 : Nat) (ds : List Nat) (hG : 5 ≤ n0) (hd : Dig ds) (h0 : 0 < ds.length) (h1 : ds.getD 0 0 ≠ 0) (hs : (dstr ds).size ≤ 18) : FT 145 #[(.string (dstr ds))] n0 [] (lI 2) [] [] :=
  fsp_flat [] [] [] [] [] n0 (kips ds hd h0 h1 hs) rfl rfl rfl (by simp) (by simp) hG rfl rfl rfl (by simp) (by simp) rfl rfl rfl
theorem kipl (ds : List Nat) (hd : Dig ds) (h0 : 0 < ds.length) (h1 : ds.getD 0 0 ≠ 0) (hs : 18 < (dstr ds).size) (hs2 : (dstr ds).size ≤ 400)  : CT 145 #[(.string (dstr ds))] (mkH 5 []) (lI 3) (mkH 5 []) :=
  sF (sc := [(8, .call [] bT [] []), (7, .call [] (z_756_0 ds) [] []), (12, .op (.rwB false)), (7, .op (.rwB true)), (8, .stay)]) (next := 5) (l := []) (p := (FT 127 #[(.string (dstr ds)),(lI 10)] 5 [] bT [] []) ∧ (FT 128 #[(.string (dstr ds))] 5 [] (z_756_0 ds) [] []) ∧ (decide ((((dstr ds).size : Nat) : Int) > (400 : Int)) = false) ∧ (decide ((((dstr ds).size : Nat) : Int) > (18 : Int)) = true) ∧ True) (by kernel_rfl) ⟨(wfpc 5 ds (by omega) hd h0 h1), (so_pc 5 ds (by omega) hd h0), (dF (by omega)), (dT (by omega)), tt⟩ (Gets.refl _)
theorem kiplc (n0 : Nat) (ds : List Nat) (hG : 5 ≤ n0) (hd : Dig ds) (h0 : 0 < ds.length) (h1 : ds.getD 0 0 ≠ 0) (hs : 18 < (dstr ds).size) (hs2 : (dstr ds).size ≤ 400) : FT 145 #[(.string (dstr ds))] n0 [] (lI 3) [] [] :=
  fsp_flat [] [] [] [] [] n0 (kipl ds hd h0 h1 hs hs2) rfl rfl rfl (by simp) (by simp) hG rfl rfl rfl (by simp) (by simp) rfl rfl rfl
theorem kims (ds : List Nat) (hd : Dig ds) (h0 : 0 < ds.length) (h1 : ds.getD 0 0 ≠ 0) (hs : (dstr ds).size ≤ 18)  : CT 145 #[(.string (mstr ds))] (mkH 5 []) (lI 2) (mkH 5 []) :=
  sF (sc := [(8, .call [] bT [] []), (7, .call [] (z_756_2 ds) [] []), (12, .op (.rwB false)), (7, .op (.rwB false)), (10, .stay)]) (next := 5) (l := []) (p := (FT 127 #[(.string (mstr ds)),(lI 10)] 5 [] bT [] []) ∧ (FT 128 #[(.string (mstr ds))] 5 [] (z_756_2 ds) [] []) ∧ (decide ((((dstr ds).size : Nat) : Int) > (400 : Int)) = false) ∧ (decide ((((dstr ds).size : Nat) : Int) > (18 : Int)) = false) ∧ True) (by kernel_rfl) ⟨(wfmc 5 ds (by omega) hd h0 h1), (so_mc 5 ds (by omega)), (dF (by omega)), (dF (by omega)), tt⟩ (Gets.refl _)
theorem kimsc (n0 : Nat) (ds : List Nat) (hG : 5 ≤ n0) (hd : Dig ds) (h0 : 0 < ds.length) (h1 : ds.getD 0 0 ≠ 0) (hs : (dstr ds).size ≤ 18) : FT 145 #[(.string (mstr ds))] n0 [] (lI 2) [] [] :=
  fsp_flat [] [] [] [] [] n0 (kims ds hd h0 h1 hs) rfl rfl rfl (by simp) (by simp) hG rfl rfl rfl (by simp) (by simp) rfl rfl rfl
theorem kiml (ds : List Nat) (hd : Dig ds) (h0 : 0 < ds.length) (h1 : ds.getD 0 0 ≠ 0) (hs : 18 < (dstr ds).size) (hs2 : (dstr ds).size ≤ 400)  : CT 145 #[(.string (mstr ds))] (mkH 5 []) (lI 3) (mkH 5 []) :=
  sF (sc := [(8, .call [] bT [] []), (7, .call [] (z_756_2 ds) [] []), (12, .op (.rwB false)), (7, .op (.rwB true)), (8, .stay)]) (next := 5) (l := []) (p := (FT 127 #[(.string (mstr ds)),(lI 10)] 5 [] bT [] []) ∧ (FT 128 #[(.string (mstr ds))] 5 [] (z_756_2 ds) [] []) ∧ (decide ((((dstr ds).size : Nat) : Int) > (400 : Int)) = false) ∧ (decide ((((dstr ds).size : Nat) : Int) > (18 : Int)) = true) ∧ True) (by kernel_rfl) ⟨(wfmc 5 ds (by omega) hd h0 h1), (so_mc 5 ds (by omega)), (dF (by omega)), (dT (by omega)), tt⟩ (Gets.refl _)
theorem kimlc (n0 : Nat) (ds : List Nat) (hG : 5 ≤ n0) (hd : Dig ds) (h0 : 0 < ds.length) (h1 : ds.getD 0 0 ≠ 0) (hs : 18 < (dstr ds).size) (hs2 : (dstr ds).size ≤ 400) : FT 145 #[(.string (mstr ds))] n0 [] (lI 3) [] [] :=
  fsp_flat [] [] [] [] [] n0 (kiml ds hd h0 h1 hs hs2) rfl rfl rfl (by simp) (by simp) hG rfl rfl rfl (by simp) (by simp) rfl rfl rfl
theorem kizs (ds : List Nat) (hd : Dig ds) (h0 : 0 < ds.length) (h1 : ds = [0]) (hs : (dstr ds).size ≤ 18)  : CT 145 #[(.string (dstr ds))] (mkH 5 []) (lI 2) (mkH 5 []) :=
  sF (sc := [(8, .call [] bT [] []), (7, .call [] (z_756_0 ds) [] []), (12, .op (.rwB false)), (7, .op (.rwB false)), (10, .stay)]) (next := 5) (l := []) (p := (FT 127 #[(.string (dstr ds)),(lI 10)] 5 [] bT [] []) ∧ (FT 128 #[(.string (dstr ds))] 5 [] (z_756_0 ds) [] []) ∧ (decide ((((dstr ds).size : Nat) : Int) > (400 : Int)) = false) ∧ (decide ((((dstr ds).size : Nat) : Int) > (18 : Int)) = false) ∧ True) (by kernel_rfl) ⟨(wfzc 5 ds (by omega) hd h0 h1), (so_pc 5 ds (by omega) hd h0), (dF (by omega)), (dF (by omega)), tt⟩ (Gets.refl _)
theorem kizsc (n0 : Nat) (ds : List Nat) (hG : 5 ≤ n0) (hd : Dig ds) (h0 : 0 < ds.length) (h1 : ds = [0]) (hs : (dstr ds).size ≤ 18) : FT 145 #[(.string (dstr ds))] n0 [] (lI 2) [] [] :=
  fsp_flat [] [] [] [] [] n0 (kizs ds hd h0 h1 hs) rfl rfl rfl (by simp) (by simp) hG rfl rfl rfl (by simp) (by simp) rfl rfl rfl
noncomputable def smp_h_f (ds : List Nat) (l p : Nat) (j : List Value) : Frame := ⟨109, List.toArray [(.string (dstr ds)), uu, (lI 0), bF, (.string (dstr ds)), (nI l), uu, (J j 0), (J j 1), (J j 2), (J j 3), bF, (J j 4), (J j 5), (pt 5), (J j 6), (J j 7), (J j 8), (J j 9), (J j 10), (J j 11), (J j 12), (J j 13), (J j 14), uu, uu, uu, uu, uu], [.code (cd Tryz.f109 [1, 1, 1, 0, 1, 0, 0]), .inLoop (cd Tryz.f109 [1, 1, 1, 0, 1, 0, 0]), .inBlock 0, .code (cd Tryz.f109 [1, 1, 1, 1])], [], .run, .normal, none⟩
noncomputable def smp_h_o (ds : List Nat) (l p : Nat) : List (Nat × AObj) := [(5, (.iter (dstr ds) p))]
noncomputable def smp_h (ds : List Nat) (l p : Nat) (j : List Value) : AS := ⟨smp_h_f ds l p j, [], mkH 6 (smp_h_o ds l p)⟩
theorem smp_in (ds : List Nat) (hd : Dig ds) (h0 : 0 < ds.length)  : GT ⟨Frame.enter Tryz.prog 109 #[(.string (dstr ds))] .normal, [], mkH 5 []⟩ (smp_h ds 0 0 [undef, (.tuple #[bF,(.string (dstr ds))]), (.string (dstr ds)), (.tuple #[bF,(.string (dstr ds))]), (.string (dstr ds)), (.string (dstr ds)), undef, undef, undef, undef, undef, undef, undef, undef, undef]) :=
  sR (sc := [(7, .call [] (.tuple #[bF,(.string (dstr ds))]) [] []), (18, .stay)]) (fr1 := smp_h_f ds 0 0 [uu, (.tuple #[bF,(.string (dstr ds))]), (.string (dstr ds)), (.tuple #[bF,(.string (dstr ds))]), (.string (dstr ds)), (.string (dstr ds)), uu, uu, uu, uu, uu, uu, uu, uu, uu]) (next := 6) (l := smp_h_o ds 0 0) (p := (FT 128 #[(.string (dstr ds))] 5 [] (.tuple #[bF,(.string (dstr ds))]) [] []) ∧ True) (by kernel_rfl) ⟨(so_pc 5 ds (by omega) hd h0), tt⟩
theorem smp_r (ds : List Nat) (l p q : Nat) (j : List Value) (hq : q < 10) (hl : l < 100000000000000000) (hp : p < (dstr ds).size) (he : Utf8.decode (dstr ds) p = (48 + q, 1))  : GT (smp_h ds l p j) (smp_h ds ((l * 10) + q) (p + 1) [(nR (48 + q)), (J j 1), (J j 2), (J j 3), (J j 4), (J j 5), (.tuple #[bT,(nI p),(nR (48 + q))]), bT, (nR (48 + q)), (nI l), (nI (l * 10)), (nR (48 + q)), (nR q), (nI q), (nI ((l * 10) + q))]) :=
  sR (sc := [(2, .op (.nxtC (48 + q) 1 (p + 1))), (13, .op (.rwI (((l * 10) : Nat) : Int))), (1, .op (.rwI (q : Int))), (0, .op (.rwI (q : Int))), (0, .op (.rwI ((((l * 10) + q) : Nat) : Int))), (4, .stay)]) (fr1 := smp_h_f ds ((l * 10) + q) (p + 1) [(nR (48 + q)), (J j 1), (J j 2), (J j 3), (J j 4), (J j 5), (.tuple #[bT,(nI p),(nR (48 + q))]), bT, (nR (48 + q)), (nI l), (nI (l * 10)), (nR (48 + q)), (nR q), (nI q), (nI ((l * 10) + q))]) (next := 6) (l := smp_h_o ds ((l * 10) + q) (p + 1)) (p := (p < (dstr ds).size ∧ Utf8.decode (dstr ds) p = ((48 + q), 1) ∧ p + 1 = (p + 1)) ∧ (IntKind.wrap .i64 ((l : Int) * (10 : Int)) = (((l * 10) : Nat) : Int)) ∧ (IntKind.wrap .i32 ((((48 + q) : Nat) : Int) - (48 : Int)) = (q : Int)) ∧ (IntKind.wrap .i64 (q : Int) = (q : Int)) ∧ (IntKind.wrap .i64 ((((l * 10) : Nat) : Int) + (q : Int)) = ((((l * 10) + q) : Nat) : Int)) ∧ True) (by kernel_rfl) ⟨⟨hp, he, rfl⟩, (wI64 (by omega)), (wI32 (by omega)), (wI64 (by omega)), (wI64 (by omega)), tt⟩
theorem smp_o (ds : List Nat) (l p : Nat) (j : List Value) (hl : l < 1000000000000000000) (hp : (dstr ds).size ≤ p)  (hr : GT ⟨Frame.enter Tryz.prog 109 #[(.string (dstr ds))] .normal, [], mkH 5 []⟩ (smp_h ds l p j)) : CT 109 #[(.string (dstr ds))] (mkH 5 []) (nI l) (mkH 6 []) :=
  sF (sc := [(2, .op (.nxtE)), (30, .stay)]) (next := 6) (l := []) (p := (¬ p < (dstr ds).size) ∧ True) (by kernel_rfl) ⟨(by omega), tt⟩ hr
theorem smp_loop {ds : List Nat} (hd : Dig ds) (hL : ds.length ≤ 18) : ∀ (k p : Nat) (j : List Value), k = ds.length - p → p ≤ ds.length →
    GT ⟨Frame.enter Tryz.prog 109 #[(.string (dstr ds))] .normal, [], mkH 5 []⟩ (smp_h ds (dval (ds.take p)) p j) → CT 109 #[(.string (dstr ds))] (mkH 5 []) (nI (dval ds)) (mkH 6 []) := by
  intro k
  induction k with
  | zero =>
    intro p j hk hp hr
    have hlt : dval ds < 1000000000000000000 := by
      have h2 := dval_lt _ hd
      have h3 : 10 ^ ds.length ≤ 10 ^ 18 := Nat.pow_le_pow_right (by decide) hL
      have h4 : (10 : Nat) ^ 18 = 1000000000000000000 := by decide
      omega
    rw [List.take_of_length_le (by omega)] at hr
    exact smp_o ds (dval ds) p j hlt (by rw [dstr_size]; omega) hr
  | succ k ih =>
    intro p j hk hp hr
    have hlt : dval (ds.take p) < 100000000000000000 := by
      have h2 := dval_lt _ (hd.take p)
      have h3 : 10 ^ (ds.take p).length ≤ 10 ^ 17 := Nat.pow_le_pow_right (by decide) (by rw [List.length_take]; omega)
      have h4 : (10 : Nat) ^ 17 = 100000000000000000 := by decide
      omega
    have r := smp_r ds _ p (ds.getD p 0) j (hd.get p) hlt (by rw [dstr_size]; omega) (decode_dstr hd (by omega))
    rw [← dval_take_succ (by omega)] at r
    exact ih (p + 1) _ (by omega) (by omega) (hr.trans r)
theorem smpc (n0 : Nat) (ds : List Nat) (hG : 5 ≤ n0) (hd : Dig ds) (h0 : 0 < ds.length) (hL : ds.length ≤ 18) : FT 109 #[(.string (dstr ds))] n0 [] (nI (dval ds)) [] [] :=
  fsp_flat [] [] [] [] [] n0 (smp_loop hd hL _ _ _ rfl (Nat.zero_le _) (smp_in ds hd h0)) rfl rfl rfl (by simp) (by simp) hG rfl rfl rfl (by simp) (by simp) rfl rfl rfl
noncomputable def smm_h_f (ds : List Nat) (l p : Nat) (j : List Value) : Frame := ⟨109, List.toArray [(.string (mstr ds)), uu, (lI 0), bT, (.string (dstr ds)), (nI l), uu, (J j 0), (J j 1), (J j 2), (J j 3), bT, (J j 4), (J j 5), (pt 5), (J j 6), (J j 7), (J j 8), (J j 9), (J j 10), (J j 11), (J j 12), (J j 13), (J j 14), uu, uu, uu, uu, uu], [.code (cd Tryz.f109 [1, 1, 1, 0, 1, 0, 0]), .inLoop (cd Tryz.f109 [1, 1, 1, 0, 1, 0, 0]), .inBlock 0, .code (cd Tryz.f109 [1, 1, 1, 1])], [], .run, .normal, none⟩
noncomputable def smm_h_o (ds : List Nat) (l p : Nat) : List (Nat × AObj) := [(5, (.iter (dstr ds) p))]
noncomputable def smm_h (ds : List Nat) (l p : Nat) (j : List Value) : AS := ⟨smm_h_f ds l p j, [], mkH 6 (smm_h_o ds l p)⟩
theorem smm_in (ds : List Nat) (hd : Dig ds) (h0 : 0 < ds.length)  : GT ⟨Frame.enter Tryz.prog 109 #[(.string (mstr ds))] .normal, [], mkH 5 []⟩ (smm_h ds 0 0 [undef, (.tuple #[bT,(.string (dstr ds))]), (.string (mstr ds)), (.tuple #[bT,(.string (dstr ds))]), (.string (dstr ds)), (.string (dstr ds)), undef, undef, undef, undef, undef, undef, undef, undef, undef]) :=
  sR (sc := [(7, .call [] (.tuple #[bT,(.string (dstr ds))]) [] []), (18, .stay)]) (fr1 := smm_h_f ds 0 0 [uu, (.tuple #[bT,(.string (dstr ds))]), (.string (mstr ds)), (.tuple #[bT,(.string (dstr ds))]), (.string (dstr ds)), (.string (dstr ds)), uu, uu, uu, uu, uu, uu, uu, uu, uu]) (next := 6) (l := smm_h_o ds 0 0) (p := (FT 128 #[(.string (mstr ds))] 5 [] (.tuple #[bT,(.string (dstr ds))]) [] []) ∧ True) (by kernel_rfl) ⟨(so_mc 5 ds (by omega)), tt⟩
theorem smm_r (ds : List Nat) (l p q : Nat) (j : List Value) (hq : q < 10) (hl : l < 100000000000000000) (hp : p < (dstr ds).size) (he : Utf8.decode (dstr ds) p = (48 + q, 1))  : GT (smm_h ds l p j) (smm_h ds ((l * 10) + q) (p + 1) [(nR (48 + q)), (J j 1), (J j 2), (J j 3), (J j 4), (J j 5), (.tuple #[bT,(nI p),(nR (48 + q))]), bT, (nR (48 + q)), (nI l), (nI (l * 10)), (nR (48 + q)), (nR q), (nI q), (nI ((l * 10) + q))]) :=
  sR (sc := [(2, .op (.nxtC (48 + q) 1 (p + 1))), (13, .op (.rwI (((l * 10) : Nat) : Int))), (1, .op (.rwI (q : Int))), (0, .op (.rwI (q : Int))), (0, .op (.rwI ((((l * 10) + q) : Nat) : Int))), (4, .stay)]) (fr1 := smm_h_f ds ((l * 10) + q) (p + 1) [(nR (48 + q)), (J j 1), (J j 2), (J j 3), (J j 4), (J j 5), (.tuple #[bT,(nI p),(nR (48 + q))]), bT, (nR (48 + q)), (nI l), (nI (l * 10)), (nR (48 + q)), (nR q), (nI q), (nI ((l * 10) + q))]) (next := 6) (l := smm_h_o ds ((l * 10) + q) (p + 1)) (p := (p < (dstr ds).size ∧ Utf8.decode (dstr ds) p = ((48 + q), 1) ∧ p + 1 = (p + 1)) ∧ (IntKind.wrap .i64 ((l : Int) * (10 : Int)) = (((l * 10) : Nat) : Int)) ∧ (IntKind.wrap .i32 ((((48 + q) : Nat) : Int) - (48 : Int)) = (q : Int)) ∧ (IntKind.wrap .i64 (q : Int) = (q : Int)) ∧ (IntKind.wrap .i64 ((((l * 10) : Nat) : Int) + (q : Int)) = ((((l * 10) + q) : Nat) : Int)) ∧ True) (by kernel_rfl) ⟨⟨hp, he, rfl⟩, (wI64 (by omega)), (wI32 (by omega)), (wI64 (by omega)), (wI64 (by omega)), tt⟩
theorem smm_o (ds : List Nat) (l p : Nat) (j : List Value) (hl : l < 1000000000000000000) (hp : (dstr ds).size ≤ p)  (hr : GT ⟨Frame.enter Tryz.prog 109 #[(.string (mstr ds))] .normal, [], mkH 5 []⟩ (smm_h ds l p j)) : CT 109 #[(.string (mstr ds))] (mkH 5 []) (.int .i64 (-(l : Int))) (mkH 6 []) :=
  sF (sc := [(2, .op (.nxtE)), (26, .op (.rwI (-(l : Int)))), (3, .stay)]) (next := 6) (l := []) (p := (¬ p < (dstr ds).size) ∧ (IntKind.wrap .i64 ((0 : Int) - (l : Int)) = (-(l : Int))) ∧ True) (by kernel_rfl) ⟨(by omega), (wI64 (by omega)), tt⟩ hr
theorem smm_loop {ds : List Nat} (hd : Dig ds) (hL : ds.length ≤ 18) : ∀ (k p : Nat) (j : List Value), k = ds.length - p → p ≤ ds.length →
    GT ⟨Frame.enter Tryz.prog 109 #[(.string (mstr ds))] .normal, [], mkH 5 []⟩ (smm_h ds (dval (ds.take p)) p j) → CT 109 #[(.string (mstr ds))] (mkH 5 []) (.int .i64 (-((dval ds : Nat) : Int))) (mkH 6 []) := by
  intro k
  induction k with
  | zero =>
    intro p j hk hp hr
    have hlt : dval ds < 1000000000000000000 := by
      have h2 := dval_lt _ hd
      have h3 : 10 ^ ds.length ≤ 10 ^ 18 := Nat.pow_le_pow_right (by decide) hL
      have h4 : (10 : Nat) ^ 18 = 1000000000000000000 := by decide
      omega
    rw [List.take_of_length_le (by omega)] at hr
    exact smm_o ds (dval ds) p j hlt (by rw [dstr_size]; omega) hr
  | succ k ih =>
    intro p j hk hp hr
    have hlt : dval (ds.take p) < 100000000000000000 := by
      have h2 := dval_lt _ (hd.take p)
      have h3 : 10 ^ (ds.take p).length ≤ 10 ^ 17 := Nat.pow_le_pow_right (by decide) (by rw [List.length_take]; omega)
      have h4 : (10 : Nat) ^ 17 = 100000000000000000 := by decide
      omega
    have r := smm_r ds _ p (ds.getD p 0) j (hd.get p) hlt (by rw [dstr_size]; omega) (decode_dstr hd (by omega))
    rw [← dval_take_succ (by omega)] at r
    exact ih (p + 1) _ (by omega) (by omega) (hr.trans r)
theorem smmc (n0 : Nat) (ds : List Nat) (hG : 5 ≤ n0) (hd : Dig ds) (h0 : 0 < ds.length) (hL : ds.length ≤ 18) : FT 109 #[(.string (mstr ds))] n0 [] (.int .i64 (-((dval ds : Nat) : Int))) [] [] :=
  fsp_flat [] [] [] [] [] n0 (smm_loop hd hL _ _ _ rfl (Nat.zero_le _) (smm_in ds hd h0)) rfl rfl rfl (by simp) (by simp) hG rfl rfl rfl (by simp) (by simp) rfl rfl rfl
theorem sg_f (xs : List Nat) (n c : Nat)  : CT 117 #[bF,(sl 5 n c)] (mkH 6 [(5, (cU xs))]) (.agg #[bF,(sl 5 n c)]) (mkH 7 [(5, (cU xs))]) :=
  sF (sc := [(17, .stay)]) (next := 7) (l := [(5, (cU xs))]) (p := True) (by kernel_rfl) tt (Gets.refl _)
theorem sg_fc (n0 b : Nat) (xs : List Nat) (n c : Nat) (hb : 5 ≤ b ∧ b < n0) :
    FT 117 #[.bool false, sl b n c] n0 [(b, cU xs)] (.agg #[.bool false, sl b n c]) [(b, some (cU xs))] [] :=
  fsp_flat [b] [cU xs] [cU xs] [] [] n0 (sg_f xs n c) rfl rfl rfl (by simp) (by simp; omega) (by omega) (by simp [flat, ns_closed]) (by simp [flat, ns_closed]) rfl (by simp) (by simp) rfl rfl rfl
theorem sg_t (xs : List Nat) (n c : Nat) (ht : 0 < n)  : CT 117 #[bT,(sl 5 n c)] (mkH 6 [(5, (cU xs))]) (.agg #[bT,(sl 5 n c)]) (mkH 7 [(5, (cU xs))]) :=
  sF (sc := [(10, .op (.rwB true)), (6, .stay)]) (next := 7) (l := [(5, (cU xs))]) (p := (decide ((n : Int) > (0 : Int)) = true) ∧ True) (by kernel_rfl) ⟨(dT (by omega)), tt⟩ (Gets.refl _)
theorem sg_tc (n0 b : Nat) (xs : List Nat) (n c : Nat) (hb : 5 ≤ b ∧ b < n0) (ht : 0 < n) :
    FT 117 #[.bool true, sl b n c] n0 [(b, cU xs)] (.agg #[.bool true, sl b n c]) [(b, some (cU xs))] [] :=
  fsp_flat [b] [cU xs] [cU xs] [] [] n0 (sg_t xs n c ht) rfl rfl rfl (by simp) (by simp; omega) (by omega) (by simp [flat, ns_closed]) (by simp [flat, ns_closed]) rfl (by simp) (by simp) rfl rfl rfl
theorem sg_z (xs : List Nat) (n c : Nat) (ht : n = 0)  : CT 117 #[bT,(sl 5 n c)] (mkH 6 [(5, (cU xs))]) (.agg #[bF,(sl 5 n c)]) (mkH 7 [(5, (cU xs))]) :=
  sF (sc := [(10, .op (.rwB false)), (6, .stay)]) (next := 7) (l := [(5, (cU xs))]) (p := (decide ((n : Int) > (0 : Int)) = false) ∧ True) (by kernel_rfl) ⟨(dF (by omega)), tt⟩ (Gets.refl _)
theorem sg_zc (n0 b : Nat) (xs : List Nat) (n c : Nat) (hb : 5 ≤ b ∧ b < n0) (ht : n = 0) :
    FT 117 #[.bool true, sl b n c] n0 [(b, cU xs)] (.agg #[.bool false, sl b n c]) [(b, some (cU xs))] [] :=
  fsp_flat [b] [cU xs] [cU xs] [] [] n0 (sg_z xs n c ht) rfl rfl rfl (by simp) (by simp; omega) (by omega) (by simp [flat, ns_closed]) (by simp [flat, ns_closed]) rfl (by simp) (by simp) rfl rfl rfl
theorem wi_ff  : CT 118 #[bF,bF] (mkH 5 []) bF (mkH 5 []) :=
  sF (sc := [(12, .stay)]) (next := 5) (l := []) (p := True) (by kernel_rfl) tt (Gets.refl _)
theorem wi_ffc (n0 : Nat) (hG : 5 ≤ n0) : FT 118 #[bF,bF] n0 [] bF [] [] :=
  fsp_flat [] [] [] [] [] n0 (wi_ff) rfl rfl rfl (by simp) (by simp) hG rfl rfl rfl (by simp) (by simp) rfl rfl rfl
theorem wi_ft  : CT 118 #[bF,bT] (mkH 5 []) bT (mkH 5 []) :=
  sF (sc := [(12, .stay)]) (next := 5) (l := []) (p := True) (by kernel_rfl) tt (Gets.refl _)
theorem wi_ftc (n0 : Nat) (hG : 5 ≤ n0) : FT 118 #[bF,bT] n0 [] bT [] [] :=
  fsp_flat [] [] [] [] [] n0 (wi_ft) rfl rfl rfl (by simp) (by simp) hG rfl rfl rfl (by simp) (by simp) rfl rfl rfl
theorem wi_tf  : CT 118 #[bT,bF] (mkH 5 []) bT (mkH 5 []) :=
  sF (sc := [(12, .stay)]) (next := 5) (l := []) (p := True) (by kernel_rfl) tt (Gets.refl _)
theorem wi_tfc (n0 : Nat) (hG : 5 ≤ n0) : FT 118 #[bT,bF] n0 [] bT [] [] :=
  fsp_flat [] [] [] [] [] n0 (wi_tf) rfl rfl rfl (by simp) (by simp) hG rfl rfl rfl (by simp) (by simp) rfl rfl rfl
theorem wi_tt  : CT 118 #[bT,bT] (mkH 5 []) bF (mkH 5 []) :=
  sF (sc := [(12, .stay)]) (next := 5) (l := []) (p := True) (by kernel_rfl) tt (Gets.refl _)
theorem wi_ttc (n0 : Nat) (hG : 5 ≤ n0) : FT 118 #[bT,bT] n0 [] bF [] [] :=
  fsp_flat [] [] [] [] [] n0 (wi_tt) rfl rfl rfl (by simp) (by simp) hG rfl rfl rfl (by simp) (by simp) rfl rfl rfl
noncomputable section
abbrev z_35d_0 (a q i k e n c : Nat) (j : List Value) : List Value := [(nW (a + q)), (nI i), (sl 6 k e), (nI k), bF, bF, (nW q), bT, bT, (nI i), (nI (i + 1)), (sl 5 n c), (nI i), (.pointer (some ⟨5,i,none⟩)), (nW a), (nW q), (nW (a + q)), (nI i), (sl 6 k e), (nI k), bF, (J j 21), (J j 22), (J j 23), (J j 24), (J j 25), (J j 26), (nW (a + q)), (nW ((a + q) / 1000000000)), (sl 5 n c), (nI i), (nW (a + q)), (nW ((a + q) % 1000000000)), (.pointer (some ⟨5,i,none⟩))]
end
noncomputable def gain_h_f (xs ys : List Nat) (n c k e : Nat) (q i : Nat) (j : List Value) : Frame := ⟨189, List.toArray [(sl 5 n c), (sl 6 k e), uu, uu, (nW q), (nI i), (J j 0), (J j 1), (J j 2), (J j 3), (J j 4), (J j 5), (J j 6), (J j 7), (J j 8), (J j 9), (J j 10), (J j 11), (J j 12), (J j 13), (J j 14), (J j 15), (J j 16), (J j 17), (J j 18), (J j 19), (J j 20), (J j 21), (J j 22), (J j 23), (J j 24), (J j 25), (J j 26), (J j 27), (J j 28), (J j 29), (J j 30), (J j 31), (J j 32), (J j 33)], [.code (cd Tryz.f189 [1, 1, 0, 0]), .inLoop (cd Tryz.f189 [1, 1, 0, 0]), .inBlock 0], [], .run, .normal, none⟩
noncomputable def gain_h_o (xs ys : List Nat) (n c k e : Nat) (q i : Nat) : List (Nat × AObj) := [(5, (cU xs)), (6, (cU ys))]
noncomputable def gain_h (xs ys : List Nat) (n c k e : Nat) (q i : Nat) (j : List Value) : AS := ⟨gain_h_f xs ys n c k e q i j, [], mkH 7 (gain_h_o xs ys n c k e q i)⟩
theorem gain_in (xs ys : List Nat) (n c k e : Nat)  : GT ⟨Frame.enter Tryz.prog 189 #[(sl 5 n c),(sl 6 k e)] .normal, [], mkH 7 [(5, (cU xs)), (6, (cU ys))]⟩ (gain_h xs ys n c k e 0 0 [undef, undef, undef, undef, undef, undef, undef, undef, undef, undef, undef, undef, undef, undef, undef, undef, undef, undef, undef, undef, undef, undef, undef, undef, undef, undef, undef, undef, undef, undef, undef, undef, undef, undef]) :=
  sR (sc := [(10, .stay)]) (fr1 := gain_h_f xs ys n c k e 0 0 [uu, uu, uu, uu, uu, uu, uu, uu, uu, uu, uu, uu, uu, uu, uu, uu, uu, uu, uu, uu, uu, uu, uu, uu, uu, uu, uu, uu, uu, uu, uu, uu, uu, uu]) (next := 7) (l := gain_h_o xs ys n c k e 0 0) (p := True) (by kernel_rfl) tt
theorem gain_r1 (xs ys : List Nat) (n c k e q i a b : Nat) (j : List Value) (hi : i < k) (hn : i < n) (hc : n ≤ xs.length) (hm : n < 9223372036854775807) (hkm : k < 9223372036854775807) (hb : b < 1000000000) (ha : a < 1000000000) (hq : q ≤ 1) (hx : (ns .u32 xs)[i]? = some (nW a)) (hy : (ns .u32 ys)[i]? = some (nW b))  : GT (gain_h xs ys n c k e q i j) (gain_h (xs.set i (((a + q) + b) % 1000000000)) ys n c k e (((a + q) + b) / 1000000000) (i + 1) [(nW ((a + q) + b)), (nI i), (sl 6 k e), (nI k), bT, bT, undef, undef, bT, (nI i), (nI (i + 1)), (sl 5 n c), (nI i), (.pointer (some ⟨5,i,none⟩)), (nW a), (nW q), (nW (a + q)), (nI i), (sl 6 k e), (nI k), bT, (nW (a + q)), (sl 6 k e), (nI i), (.pointer (some ⟨6,i,none⟩)), (nW b), (nW ((a + q) + b)), (nW ((a + q) + b)), (nW (((a + q) + b) / 1000000000)), (sl 5 n c), (nI i), (nW ((a + q) + b)), (nW (((a + q) + b) % 1000000000)), (.pointer (some ⟨5,i,none⟩))]) :=
  sR (sc := [(6, .op (.rwB true)), (13, .op (.idx i)), (0, .op (.ld (nW a))), (1, .op (.rwI (((a + q) : Nat) : Int))), (8, .op (.rwB true)), (6, .op (.idx i)), (0, .op (.ld (nW b))), (0, .op (.rwI ((((a + q) + b) : Nat) : Int))), (5, .op (.rwI (((((a + q) + b) / 1000000000) : Nat) : Int))), (6, .op (.rwI (((((a + q) + b) % 1000000000) : Nat) : Int))), (0, .op (.idx i)), (0, .op (.st (ns .u32 (xs.set i (((a + q) + b) % 1000000000))))), (4, .op (.rwI (((i + 1) : Nat) : Int))), (3, .stay)]) (fr1 := gain_h_f (xs.set i (((a + q) + b) % 1000000000)) ys n c k e (((a + q) + b) / 1000000000) (i + 1) [(nW ((a + q) + b)), (nI i), (sl 6 k e), (nI k), bT, bT, uu, uu, bT, (nI i), (nI (i + 1)), (sl 5 n c), (nI i), (.pointer (some ⟨5,i,none⟩)), (nW a), (nW q), (nW (a + q)), (nI i), (sl 6 k e), (nI k), bT, (nW (a + q)), (sl 6 k e), (nI i), (.pointer (some ⟨6,i,none⟩)), (nW b), (nW ((a + q) + b)), (nW ((a + q) + b)), (nW (((a + q) + b) / 1000000000)), (sl 5 n c), (nI i), (nW ((a + q) + b)), (nW (((a + q) + b) % 1000000000)), (.pointer (some ⟨5,i,none⟩))]) (next := 7) (l := gain_h_o (xs.set i (((a + q) + b) % 1000000000)) ys n c k e (((a + q) + b) / 1000000000) (i + 1)) (p := (decide ((i : Int) < (k : Int)) = true) ∧ (0 ≤ (i : Int) ∧ (i : Int) < (n : Int) ∧ 0 + Int.toNat (i : Int) * 1 = i) ∧ (((ns .u32 xs) : List Value)[i]? = some (nW a)) ∧ (IntKind.wrap .u32 ((a : Int) + (q : Int)) = (((a + q) : Nat) : Int)) ∧ (decide ((i : Int) < (k : Int)) = true) ∧ (0 ≤ (i : Int) ∧ (i : Int) < (k : Int) ∧ 0 + Int.toNat (i : Int) * 1 = i) ∧ (((ns .u32 ys) : List Value)[i]? = some (nW b)) ∧ (IntKind.wrap .u32 ((((a + q) : Nat) : Int) + (b : Int)) = ((((a + q) + b) : Nat) : Int)) ∧ (IntKind.wrap .u32 (Int.tdiv ((((a + q) + b) : Nat) : Int) (1000000000 : Int)) = (((((a + q) + b) / 1000000000) : Nat) : Int)) ∧ ((Int.tmod ((((a + q) + b) : Nat) : Int) (1000000000 : Int)) = (((((a + q) + b) % 1000000000) : Nat) : Int)) ∧ (0 ≤ (i : Int) ∧ (i : Int) < (n : Int) ∧ 0 + Int.toNat (i : Int) * 1 = i) ∧ (i + 1 ≤ (ns .u32 xs).length ∧ lspl (ns .u32 xs) i [(nW (((a + q) + b) % 1000000000))] = (ns .u32 (xs.set i (((a + q) + b) % 1000000000)))) ∧ (IntKind.wrap .i64 ((i : Int) + (1 : Int)) = (((i + 1) : Nat) : Int)) ∧ True) (by kernel_rfl) ⟨(dT (by omega)), (by omega), hx, (wU32 (by omega)), (dT (by omega)), (by omega), hy, (wU32 (by omega)), (by rw [Int.tdiv_eq_ediv_of_nonneg (by omega), wrap_u32 (by omega) (by omega)] <;> omega), (by rw [Int.tmod_eq_emod_of_nonneg (by omega)] <;> omega), (by omega), (ns_set (by omega)), (wI64 (by omega)), tt⟩
theorem gain_r2 (xs ys : List Nat) (n c k e q i a : Nat) (j : List Value) (hi : k ≤ i) (hn : i < n) (hc : n ≤ xs.length) (hm : n < 9223372036854775807) (hq : q = 1) (ha : a < 1000000000) (hx : (ns .u32 xs)[i]? = some (nW a))  : GT (gain_h xs ys n c k e q i j) (gain_h (xs.set i ((a + q) % 1000000000)) ys n c k e ((a + q) / 1000000000) (i + 1) (z_35d_0 a q i k e n c j)) :=
  sR (sc := [(6, .op (.rwB false)), (2, .op (.rwB true)), (10, .op (.idx i)), (0, .op (.ld (nW a))), (1, .op (.rwI (((a + q) : Nat) : Int))), (8, .op (.rwB false)), (6, .op (.rwI ((((a + q) / 1000000000) : Nat) : Int))), (6, .op (.rwI ((((a + q) % 1000000000) : Nat) : Int))), (0, .op (.idx i)), (0, .op (.st (ns .u32 (xs.set i ((a + q) % 1000000000))))), (4, .op (.rwI (((i + 1) : Nat) : Int))), (3, .stay)]) (fr1 := gain_h_f (xs.set i ((a + q) % 1000000000)) ys n c k e ((a + q) / 1000000000) (i + 1) (z_35d_0 a q i k e n c j)) (next := 7) (l := gain_h_o (xs.set i ((a + q) % 1000000000)) ys n c k e ((a + q) / 1000000000) (i + 1)) (p := (decide ((i : Int) < (k : Int)) = false) ∧ (decide ((q : Int) > (0 : Int)) = true) ∧ (0 ≤ (i : Int) ∧ (i : Int) < (n : Int) ∧ 0 + Int.toNat (i : Int) * 1 = i) ∧ (((ns .u32 xs) : List Value)[i]? = some (nW a)) ∧ (IntKind.wrap .u32 ((a : Int) + (q : Int)) = (((a + q) : Nat) : Int)) ∧ (decide ((i : Int) < (k : Int)) = false) ∧ (IntKind.wrap .u32 (Int.tdiv (((a + q) : Nat) : Int) (1000000000 : Int)) = ((((a + q) / 1000000000) : Nat) : Int)) ∧ ((Int.tmod (((a + q) : Nat) : Int) (1000000000 : Int)) = ((((a + q) % 1000000000) : Nat) : Int)) ∧ (0 ≤ (i : Int) ∧ (i : Int) < (n : Int) ∧ 0 + Int.toNat (i : Int) * 1 = i) ∧ (i + 1 ≤ (ns .u32 xs).length ∧ lspl (ns .u32 xs) i [(nW ((a + q) % 1000000000))] = (ns .u32 (xs.set i ((a + q) % 1000000000)))) ∧ (IntKind.wrap .i64 ((i : Int) + (1 : Int)) = (((i + 1) : Nat) : Int)) ∧ True) (by kernel_rfl) ⟨(dF (by omega)), (dT (by omega)), (by omega), hx, (wU32 (by omega)), (dF (by omega)), (by rw [Int.tdiv_eq_ediv_of_nonneg (by omega), wrap_u32 (by omega) (by omega)] <;> omega), (by rw [Int.tmod_eq_emod_of_nonneg (by omega)] <;> omega), (by omega), (ns_set (by omega)), (wI64 (by omega)), tt⟩
theorem gain_out (xs0 xs ys : List Nat) (n c k e q i : Nat) (j : List Value) (hi : k ≤ i) (hq : q = 0)  (hr : GT ⟨Frame.enter Tryz.prog 189 #[(sl 5 n c),(sl 6 k e)] .normal, [], mkH 7 [(5, (cU xs0)), (6, (cU ys))]⟩ (gain_h xs ys n c k e q i j)) : CT 189 #[(sl 5 n c),(sl 6 k e)] (mkH 7 [(5, (cU xs0)), (6, (cU ys))]) undef (mkH 7 [(5, (cU xs)), (6, (cU ys))]) :=
  sF (sc := [(6, .op (.rwB false)), (2, .op (.rwB false)), (5, .stay)]) (next := 7) (l := [(5, (cU xs)), (6, (cU ys))]) (p := (decide ((i : Int) < (k : Int)) = false) ∧ (decide ((q : Int) > (0 : Int)) = false) ∧ True) (by kernel_rfl) ⟨(dF (by omega)), (dF (by omega)), tt⟩ hr
theorem gain_loop {s0 : AS} {ys : List Nat} {n k e T : Nat} (hly : Lim ys) (hk : k ≤ ys.length) (hkn : k ≤ n) (hn : n < 9223372036854775807) (hT : T < 1000000000 ^ n) :
    ∀ (m : Nat) (xs : List Nat) (q i : Nat) (j : List Value), m = n - i → xs.length = n → Lim xs → i ≤ n → q ≤ 1 → val xs + q * 1000000000 ^ i + 1000000000 ^ i * val ((ys.take k).drop i) = T →
      GT s0 (gain_h xs ys n n k e q i j) → ∃ zs i' j', k ≤ i' ∧ zs.length = n ∧ Lim zs ∧ val zs = T ∧ GT s0 (gain_h zs ys n n k e 0 i' j') := by
  intro m
  induction m with
  | zero =>
    intro xs q i j hm hx hl hi hq hv hr
    have hin : i = n := by omega
    subst hin
    have hq0 : q = 0 := by
      rcases Nat.eq_zero_or_pos q with h | h
      · exact h
      · have := Nat.mul_le_mul_right (1000000000 ^ i) h
        omega
    subst hq0
    refine ⟨xs, i, j, hkn, hx, hl, ?_, hr⟩
    rw [List.drop_eq_nil_of_le (by rw [List.length_take]; omega)] at hv
    exact nil_end hv
  | succ m ih =>
    intro xs q i j hm hx hl hi hq hv hr
    have hP : 1000000000 ^ (i + 1) = 1000000000 ^ i * 1000000000 := Nat.pow_succ ..
    by_cases hik : i < k
    · have ha := hl.get i
      have hb := hly.get i
      have r := gain_r1 xs ys n n k e q i (xs.getD i 0) (ys.getD i 0) j hik (by omega) (by omega) hn (by omega) hb ha hq (ns_get (by omega)) (ns_get (by omega))
      refine ih _ _ _ _ (by omega) (by simpa using hx) (hl.set (Nat.mod_lt _ (by decide))) (by omega) (by omega) ?_ (hr.trans r)
      have h1 := val_set xs i ((xs.getD i 0 + q + ys.getD i 0) % 1000000000) (by omega)
      have h2 : val ((ys.take k).drop i) = ys.getD i 0 + 1000000000 * val ((ys.take k).drop (i + 1)) := by
        rw [val_drop (by rw [List.length_take]; omega), getD_take hik]
      rw [h2] at hv
      rw [hP]
      exact carry_step h1 hv
    · by_cases hq1 : q = 1
      · subst hq1
        have hin : i < n := by
          rcases Nat.lt_or_ge i n with h | h
          · exact h
          · have := pow_le h
            omega
        have ha := hl.get i
        have r := gain_r2 xs ys n n k e 1 i (xs.getD i 0) j (by omega) hin (by omega) hn rfl ha (ns_get (by omega))
        refine ih _ _ _ _ (by omega) (by simpa using hx) (hl.set (Nat.mod_lt _ (by decide))) (by omega) (by omega) ?_ (hr.trans r)
        have h1 := val_set xs i ((xs.getD i 0 + 1) % 1000000000) (by omega)
        rw [List.drop_eq_nil_of_le (by rw [List.length_take]; omega)] at hv ⊢
        rw [hP]
        exact nil_add (carry_step0 h1 (nil_one hv))
      · have hq0 : q = 0 := by omega
        subst hq0
        refine ⟨xs, i, j, by omega, hx, hl, ?_, hr⟩
        rw [List.drop_eq_nil_of_le (by rw [List.length_take]; omega)] at hv
        exact nil_end hv
theorem gain_c (n0 bx byy : Nat) (xs ys : List Nat) (k e : Nat) (hb : 5 ≤ bx ∧ bx < n0 ∧ 5 ≤ byy ∧ byy < n0 ∧ bx ≠ byy) (hlx : Lim xs) (hly : Lim ys) (hk : k ≤ ys.length) (hkn : k ≤ xs.length) (hn : xs.length < 9223372036854775807)
    (hT : val xs + val (ys.take k) < 1000000000 ^ xs.length) :
    ∃ zs, zs.length = xs.length ∧ Lim zs ∧ val zs = val xs + val (ys.take k) ∧
      FT 189 #[sl bx xs.length xs.length, sl byy k e] n0 [(bx, cU xs), (byy, cU ys)] undef
        [(bx, some (cU zs)), (byy, some (cU ys))] [] := by
  have r := gain_in xs ys xs.length xs.length k e
  obtain ⟨zs, i', j', h1, h2, h3, h4, h5⟩ := gain_loop (T := val xs + val (ys.take k)) hly hk hkn hn hT _ xs 0 0 _ rfl rfl hlx (by omega) (by omega) (by simp) r
  have S := gain_out xs zs ys xs.length xs.length k e 0 i' j' h1 rfl h5
  refine ⟨zs, h2, h3, h4, fsp_flat [bx, byy] [cU xs, cU ys] [cU zs, cU ys] [] [] n0 S rfl rfl rfl ?_ ?_ (by omega) ?_ ?_ rfl (by simp) (by simp) rfl rfl rfl⟩
  · simp [hb.2.2.2.2]
  · simp; omega
  · simp [flat, ns_closed]
  · simp [flat, ns_closed]
theorem copied_o (xs : List Nat) (n c k : Nat) (hc : n ≤ xs.length) (hk : n ≤ k) (hm : k < 70368744177664)  : CT 154 #[(sl 5 n c),(nI k)] (mkH 6 [(5, (cU xs))]) (sl 6 k k) (mkH 7 [(5, (cU xs)), (6, (.cells (ns .u32 (xs.take n ++ List.replicate (k - n) 0)) 121 none false))]) :=
  sF (sc := [(7, .op (.mks k k (ns .u32 (List.replicate k 0)))), (6, .op (.cpy n (ns .u32 (xs.take n ++ List.replicate (k - n) 0)))), (7, .stay)]) (next := 7) (l := [(5, (cU xs)), (6, (.cells (ns .u32 (xs.take n ++ List.replicate (k - n) 0)) 121 none false))]) (p := ((0 ≤ (k : Int) ∧ (k : Int) ≤ (k : Int) ∧ ((4 : Nat) : Int) * (k : Int) ≤ 281474976710656 ∧ (k : Int) ≤ 9223372036854775807) ∧ closedL (ns .u32 (List.replicate k 0)) = true ∧ (madeCells (Value.cells (lW 0)) (Int.toNat (k : Int) * 1)).toList = (ns .u32 (List.replicate k 0)) ∧ Int.toNat (k : Int) = k ∧ Int.toNat (k : Int) = k) ∧ (0 + n ≤ (ns .u32 xs).length ∧ Nat.min n k = n ∧ 0 + n ≤ (ns .u32 (List.replicate k 0)).length ∧ (List.take n (List.take n (List.drop 0 (ns .u32 xs)))).all (·.oneCell') = true ∧ lspl (ns .u32 (List.replicate k 0)) 0 (List.take n (List.take n (List.drop 0 (ns .u32 xs)))) = (ns .u32 (xs.take n ++ List.replicate (k - n) 0))) ∧ True) (by kernel_rfl) ⟨(by refine ⟨⟨?_, ?_, ?_, ?_⟩, ns_closed _ _, ns_made _ _ _, ?_, ?_⟩ <;> omega), (ns_cpy hc hk), tt⟩ (Gets.refl _)
theorem copied_c (n0 b : Nat) (xs : List Nat) (n c k : Nat) (hb : 5 ≤ b ∧ b < n0) (hc : n ≤ xs.length) (hk : n ≤ k) (hm : k < 70368744177664) :
    FT 154 #[sl b n c, .int .i64 (k : Nat)] n0 [(b, cU xs)] (sl n0 k k) [(b, some (cU xs))]
      [.cells (ns .u32 (xs.take n ++ List.replicate (k - n) 0)) 121 none false] :=
  fsp_flat [b] [cU xs] [cU xs] [6] [.cells (ns .u32 (xs.take n ++ List.replicate (k - n) 0)) 121 none false] n0 (copied_o xs n c k hc hk hm) rfl rfl rfl (by simp) (by simp; omega) (by omega) (by simp [flat, ns_closed]) (by simp [flat, ns_closed]) (by simp [flat, ns_closed, AObj.ro]) (by simp) (by simp) rfl rfl rfl
theorem plus_o (xs ys : List Nat) (n c k e : Nat) (hc : n ≤ xs.length) (hk : k ≤ ys.length) (hn : n < 1099511627776) (hkm : k < 1099511627776) (zs0 : List Nat) (hz : zs0.length = max n k + 1) (hc1 : FT 189 #[(sl 7 ((max n k) + 1) ((max n k) + 1)),(sl 6 k e)] 8 [(7,(.cells (ns .u32 (xs.take n ++ List.replicate (((max n k) + 1) - n) 0)) 121 none false)),(6,(cU ys))] undef [(7,some (cU zs0)),(6,some (cU ys))] [])  : CT 151 #[(sl 5 n c),(sl 6 k e)] (mkH 7 [(5, (cU xs)), (6, (cU ys))]) (sl 7 (top zs0 ((max n k) + 1)) (top zs0 ((max n k) + 1))) (mkH 8 [(5, (cU xs)), (6, (cU ys)), (7, (cU zs0))]) :=
  sF (sc := [(11, .op (.rwI (((max n k) : Nat) : Int))), (0, .op (.rwI ((((max n k) + 1) : Nat) : Int))), (0, .call [5] (sl 7 ((max n k) + 1) ((max n k) + 1)) [(5,some (cU xs))] [(.cells (ns .u32 (xs.take n ++ List.replicate (((max n k) + 1) - n) 0)) 121 none false)]), (6, .call [7,6] uu [(7,some (cU zs0)),(6,some (cU ys))] []), (4, .call [7] (sl 7 (top zs0 ((max n k) + 1)) (top zs0 ((max n k) + 1))) [(7,some (cU zs0))] []), (3, .stay)]) (next := 8) (l := [(5, (cU xs)), (6, (cU ys)), (7, (cU zs0))]) (p := ((if (k : Int) > (n : Int) then (k : Int) else (n : Int)) = (((max n k) : Nat) : Int)) ∧ (IntKind.wrap .i64 ((((max n k) : Nat) : Int) + (1 : Int)) = ((((max n k) + 1) : Nat) : Int)) ∧ (FT 154 #[(sl 5 n c),(nI ((max n k) + 1))] 7 [(5,(cU xs))] (sl 7 ((max n k) + 1) ((max n k) + 1)) [(5,some (cU xs))] [(.cells (ns .u32 (xs.take n ++ List.replicate (((max n k) + 1) - n) 0)) 121 none false)]) ∧ (FT 189 #[(sl 7 ((max n k) + 1) ((max n k) + 1)),(sl 6 k e)] 8 [(7,(.cells (ns .u32 (xs.take n ++ List.replicate (((max n k) + 1) - n) 0)) 121 none false)),(6,(cU ys))] uu [(7,some (cU zs0)),(6,some (cU ys))] []) ∧ (FT 156 #[(sl 7 ((max n k) + 1) ((max n k) + 1))] 8 [(7,(cU zs0))] (sl 7 (top zs0 ((max n k) + 1)) (top zs0 ((max n k) + 1))) [(7,some (cU zs0))] []) ∧ True) (by kernel_rfl) ⟨(by omega), (wI64 (by omega)), (copied_c 7 5 xs n c ((max n k) + 1) (by omega) (by omega) (by omega) (by omega)), hc1, (trim_c 8 7 zs0 ((max n k) + 1) ((max n k) + 1) (by omega) (by rw [hz]; exact Nat.le_refl _) (by omega) (by omega)), tt⟩ (Gets.refl _)
theorem plus_c (n0 bx byy : Nat) (xs ys : List Nat) (n c k e : Nat) (hb : 5 ≤ bx ∧ bx < n0 ∧ 5 ≤ byy ∧ byy < n0 ∧ bx ≠ byy) (hlx : Lim xs) (hly : Lim ys) (hc : n ≤ xs.length) (hk : k ≤ ys.length) (hn : n < 1099511627776) (hkm : k < 1099511627776) :
    ∃ zs t, Lim zs ∧ t ≤ zs.length ∧ t ≤ max n k + 1 ∧ (0 < t → zs.getD (t - 1) 0 ≠ 0) ∧ val (zs.take t) = val (xs.take n) + val (ys.take k) ∧
      FT 151 #[sl bx n c, sl byy k e] n0 [(bx, cU xs), (byy, cU ys)] (sl n0 t t)
        [(bx, some (cU xs)), (byy, some (cU ys))] [cU zs] := by
  have hl1 : (xs.take n ++ List.replicate (max n k + 1 - n) 0).length = max n k + 1 := by rw [List.length_append, List.length_take, List.length_replicate]; omega
  have hv1 : val (xs.take n ++ List.replicate (max n k + 1 - n) 0) = val (xs.take n) := by rw [val_append, val_replicate, Nat.mul_zero, Nat.add_zero]
  have hx1 := val_lt (hlx.take n)
  have hy1 := val_lt (hly.take k)
  have hx2 : val (xs.take n) < 1000000000 ^ max n k := Nat.lt_of_lt_of_le hx1 (pow_le (by rw [List.length_take]; omega))
  have hy2 : val (ys.take k) < 1000000000 ^ max n k := Nat.lt_of_lt_of_le hy1 (pow_le (by rw [List.length_take]; omega))
  obtain ⟨zs, h1, h2, h3, h4⟩ := gain_c 8 7 6 (xs.take n ++ List.replicate (max n k + 1 - n) 0) ys k e (by omega) ((hlx.take n).append (Lim.replicate _)) hly hk (by rw [hl1]; omega) (by rw [hl1]; omega) (by rw [hl1, hv1]; exact sum_lt hx2 hy2)
  rw [hl1] at h1 h4
  have S := plus_o xs ys n c k e hc hk hn hkm zs h1 h4
  have htl := top_le zs (max n k + 1)
  refine ⟨zs, top zs (max n k + 1), h2, by rw [h1]; exact htl, htl, top_pos zs _, ?_, fsp_flat [bx, byy] [cU xs, cU ys] [cU xs, cU ys] [7] [cU zs] n0 S rfl rfl rfl ?_ ?_ (by omega) ?_ ?_ ?_ (by simp) (by simp) rfl rfl rfl⟩
  · rw [top_val, List.take_of_length_le (by rw [h1]; exact Nat.le_refl _), h3, hv1]
  · simp [hb.2.2.2.2]
  · simp; omega
  · simp [flat, ns_closed]
  · simp [flat, ns_closed]
  · simp [flat, ns_closed, AObj.ro]
end Go.Proofs.YtbjpjoodjbmicaaGreatDoor
