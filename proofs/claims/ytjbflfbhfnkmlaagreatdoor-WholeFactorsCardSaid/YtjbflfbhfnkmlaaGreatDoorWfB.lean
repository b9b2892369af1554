import Derived.Test.YtjbflfbhfnkmlaaGreatDoorPToInt
set_option linter.unusedVariables false
set_option linter.unusedSimpArgs false
set_option maxRecDepth 100000
namespace Go.Proofs.YtjbflfbhfnkmlaaGreatDoor
open Go Go.AE Seg
noncomputable section
abbrev z_e09_0 (s : ByteArray) : AS := ⟨Frame.enter Tryz.prog 127 #[(.string s),(lI 10)] .normal, [], mkH 5 []⟩
end
theorem dox (n0 r : Nat) (hG : 5 ≤ n0) (h : r < 48 ∨ 57 < r) (h2 : r ≤ 1114111) : ∃ v : Nat, 10 ≤ v ∧ v ≤ 99 ∧ FT 167 #[.int .i32 (r : Int)] n0 [] (.int .i64 (v : Int)) [] [] := by
  rcases Nat.lt_or_ge r 48 with h3 | h3
  · exact ⟨99, by omega, by omega, dAc n0 r hG h3⟩
  rcases Nat.lt_or_ge r 97 with h4 | h4
  · exact ⟨99, by omega, by omega, dBc n0 r hG (by omega) h4⟩
  rcases Nat.lt_or_ge 122 r with h5 | h5
  · exact ⟨99, by omega, by omega, dDc n0 r hG h5 h2⟩
  · have := dCc n0 (r - 97) hG (by omega)
    rw [show 97 + (r - 97) = r from by omega] at this
    exact ⟨_, by omega, by omega, this⟩
theorem isD_lt {b : UInt8} (h : isD b = true) : b.toNat - 48 < 10 := by
  simp only [isD, Bool.and_eq_true, decide_eq_true_eq] at h; omega
theorem byte_0 {c : UInt8} (h : c = 48) : (((c.toNat : Nat) : Int) == (48 : Int)) = true := by subst h; rfl
theorem byte_n0 {c : UInt8} (h : c ≠ 48) : (((c.toNat : Nat) : Int) == (48 : Int)) = false := by
  rw [beq_eq_false_iff_ne]; intro h1; exact h (by apply UInt8.toNat_inj.1; show c.toNat = 48; omega)
theorem wbpe (s : ByteArray) (hs : ∀ n0, 5 ≤ n0 → FT 128 #[.string s] n0 [] (.tuple #[.bool false, .string (Seg.bts [])]) [] [])  : CT 127 #[(.string s),(lI 10)] (mkH 5 []) bF (mkH 5 []) :=
  sF (sc := [(7, .call [] (.tuple #[bF,(.string (bts []))]) [] []), (10, .op (.rwB true)), (20, .stay)]) (by kernel_rfl) (aI (hs 5 (by omega)) (aI (show ((bts []).toList == (bts []).toList) = true from (by simp only [decide_eq_true_eq, decide_eq_false_iff_not, beq_iff_eq, beq_eq_false_iff_ne, bne_iff_ne, bne_eq_false_iff_eq, ne_eq, gt_iff_lt, ge_iff_le] <;> omega)) tt)) (Gets.refl _)
theorem wbpec (n0 : Nat) (s : ByteArray) (hG : 5 ≤ n0) (hs : ∀ n0, 5 ≤ n0 → FT 128 #[.string s] n0 [] (.tuple #[.bool false, .string (Seg.bts [])]) [] []) : FT 127 #[(.string s),(lI 10)] n0 [] bF [] [] :=
  fsp_flat [] [] [] [] [] n0 (wbpe s hs) rfl rfl rfl (by simp) (by simp) hG rfl rfl rfl (by simp) (by simp) rfl rfl rfl
theorem wbpz (s t : ByteArray) (c : UInt8) (hs : ∀ n0, 5 ≤ n0 → FT 128 #[.string s] n0 [] (.tuple #[.bool false, .string t]) [] []) (hne : (t.toList == (Seg.bts []).toList) = false) (hx : t[0]? = some c) (hc : c = 48) (hz : (!(t.toList == (Seg.bts [48]).toList)) = true)  : CT 127 #[(.string s),(lI 10)] (mkH 5 []) bF (mkH 5 []) :=
  sF (sc := [(7, .call [] (.tuple #[bF,(.string t)]) [] []), (10, .op (.rwB false)), (2, .op (.sidx c)), (0, .op (.rwB true)), (16, .op (.rwB true)), (10, .stay)]) (by kernel_rfl) (aI (hs 5 (by omega)) (aI hne (aI (show 0 ≤ (0 : Int) ∧ t[Int.toNat (0 : Int)]? = some c from ⟨by omega, hx⟩) (aI (show (((c.toNat : Nat) : Int) == (48 : Int)) = true from (byte_0 hc)) (aI hz tt))))) (Gets.refl _)
theorem wbpzc (n0 : Nat) (s t : ByteArray) (c : UInt8) (hG : 5 ≤ n0) (hs : ∀ n0, 5 ≤ n0 → FT 128 #[.string s] n0 [] (.tuple #[.bool false, .string t]) [] []) (hne : (t.toList == (Seg.bts []).toList) = false) (hx : t[0]? = some c) (hc : c = 48) (hz : (!(t.toList == (Seg.bts [48]).toList)) = true) : FT 127 #[(.string s),(lI 10)] n0 [] bF [] [] :=
  fsp_flat [] [] [] [] [] n0 (wbpz s t c hs hne hx hc hz) rfl rfl rfl (by simp) (by simp) hG rfl rfl rfl (by simp) (by simp) rfl rfl rfl
noncomputable def wbp_h_f (s t : ByteArray) (c : UInt8) (p : Nat) (j : List Value) : Frame := ⟨127, List.toArray [(.string s), (lI 10), uu, uu, (J j 0), bF, (.string t), uu, (J j 1), (J j 2), (J j 3), (J j 4), bF, (J j 5), (J j 6), bF, bF, (J j 7), (J j 8), bF, bF, uu, uu, uu, uu, uu, uu, bF, bF, (J j 9), (pt 5), (J j 10), (J j 11), (J j 12), (J j 13), (J j 14), (J j 15), (J j 16)], [.code (cd Tryz.f127 [1, 1, 1, 0, 1, 0, 0]), .inLoop (cd Tryz.f127 [1, 1, 1, 0, 1, 0, 0]), .inBlock 0, .code (cd Tryz.f127 [1, 1, 1, 1])], [], .run, .normal, none⟩
noncomputable def wbp_h_o (s t : ByteArray) (c : UInt8) (p : Nat) : List (Nat × AObj) := [(5, (.iter t p))]
noncomputable def wbp_h (s t : ByteArray) (c : UInt8) (p : Nat) (j : List Value) : AS := ⟨wbp_h_f s t c p j, [], mkH 6 (wbp_h_o s t c p)⟩
theorem wbp_in (s t : ByteArray) (c : UInt8) (hs : ∀ n0, 5 ≤ n0 → FT 128 #[.string s] n0 [] (.tuple #[.bool false, .string t]) [] []) (hne : (t.toList == (Seg.bts []).toList) = false) (hx : t[0]? = some c) (hc : c ≠ 48)  : GT (z_e09_0 s) (wbp_h s t c 0 [bF, undef, (.tuple #[bF,(.string t)]), (.string s), (.tuple #[bF,(.string t)]), (.string t), (.string t), (.string t), (nB c.toNat), (.string t), undef, undef, undef, undef, undef, undef, undef]) :=
  sR (sc := [(7, .call [] (.tuple #[bF,(.string t)]) [] []), (10, .op (.rwB false)), (2, .op (.sidx c)), (0, .op (.rwB false)), (20, .stay)]) (by kernel_rfl) (aI (hs 5 (by omega)) (aI hne (aI (show 0 ≤ (0 : Int) ∧ t[Int.toNat (0 : Int)]? = some c from ⟨by omega, hx⟩) (aI (show (((c.toNat : Nat) : Int) == (48 : Int)) = false from (byte_n0 hc)) tt))))
theorem wbp_r (s t : ByteArray) (c : UInt8) (p q : Nat) (j : List Value) (hq : q < 10) (hp : p < t.size) (he : Utf8.decode t p = (48 + q, 1))  : GT (wbp_h s t c p j) (wbp_h s t c (p + 1) [(J j 0), (nR (48 + q)), (J j 2), (J j 3), (J j 4), (J j 5), (J j 6), (J j 7), (J j 8), (J j 9), (.tuple #[bT,(nI p),(nR (48 + q))]), bT, (nR (48 + q)), (nR (48 + q)), (nI q), (lI 10), bF]) :=
  sR (sc := [(2, .op (.nxtC (48 + q) 1 (p + 1))), (14, .call [] (nI q) [] []), (1, .op (.rwB false)), (5, .stay)]) (by kernel_rfl) (aI (show p < t.size ∧ Utf8.decode t p = ((48 + q), 1) ∧ p + 1 = (p + 1) from ⟨hp, he, rfl⟩) (aI (do_c 6 q (by omega) hq) (aI (dF (p := (q : Int) ≥ (10 : Int)) (by omega)) tt)))
theorem wbp_x (s t : ByteArray) (c : UInt8) (p r w v : Nat) (j : List Value) (hp : p < t.size) (he : Utf8.decode t p = (r, w)) (hv : (FT 167 #[.int .i32 (r : Int)] 6 [] (.int .i64 (v : Int)) [] [])) (h10 : 10 ≤ v)  (hr : GT (z_e09_0 s) (wbp_h s t c p j)) : CT 127 #[(.string s),(lI 10)] (mkH 5 []) bF (mkH 6 []) :=
  sF (sc := [(2, .op (.nxtC r w (p + w))), (14, .call [] (nI v) [] []), (1, .op (.rwB true)), (7, .stay)]) (by kernel_rfl) (aI (show p < t.size ∧ Utf8.decode t p = (r, w) ∧ p + w = (p + w) from ⟨hp, he, rfl⟩) (aI hv (aI (dT (p := (v : Int) ≥ (10 : Int)) (by omega)) tt))) hr
theorem wbp_loop {s t : ByteArray} {c : UInt8} {P : Nat} (hP : P < t.size) (hg : ∀ q (hq : q < P), isD (t[q]'(by omega)) = true) (hb : isD (t[P]'hP) = false) : ∀ (k p : Nat) (j : List Value), k = P - p → p ≤ P →
    GT ⟨Frame.enter Tryz.prog 127 #[(.string s),(lI 10)] .normal, [], mkH 5 []⟩ (wbp_h s t c p j) → CT 127 #[(.string s),(lI 10)] (mkH 5 []) bF (mkH 6 []) := by
  intro k
  induction k with
  | zero =>
    intro p j hk hp hr
    have hpp : p = P := by omega
    subst hpp
    obtain ⟨r, w, h1, h2, h3⟩ := dec_bad hP hb
    obtain ⟨v, h4, _, h5⟩ := dox 6 r (by omega) h2 h3
    exact wbp_x s t c p r w v j hP h1 h5 h4 hr
  | succ k ih =>
    intro p j hk hp hr
    have r := wbp_r s t c p _ j (isD_lt (hg p (by omega))) (by omega) (dec_good (by omega) (hg p (by omega)))
    exact ih (p + 1) _ (by omega) (by omega) (hr.trans r)
theorem wbpxc (n0 : Nat) (s t : ByteArray) (c : UInt8) (hG : 5 ≤ n0) (hs : ∀ n0, 5 ≤ n0 → FT 128 #[.string s] n0 [] (.tuple #[.bool false, .string t]) [] []) (hne : (t.toList == (Seg.bts []).toList) = false) (hx : t[0]? = some c) (hc : c ≠ 48) {P : Nat} (hP : P < t.size) (hg : ∀ q (hq : q < P), isD (t[q]'(by omega)) = true) (hb : isD (t[P]'hP) = false) : FT 127 #[(.string s),(lI 10)] n0 [] bF [] [] :=
  fsp_flat [] [] [] [] [] n0 (wbp_loop hP hg hb _ _ _ rfl (Nat.zero_le _) (wbp_in s t c hs hne hx hc)) rfl rfl rfl (by simp) (by simp) hG rfl rfl rfl (by simp) (by simp) rfl rfl rfl
theorem wbme (s : ByteArray) (hs : ∀ n0, 5 ≤ n0 → FT 128 #[.string s] n0 [] (.tuple #[.bool true, .string (Seg.bts [])]) [] [])  : CT 127 #[(.string s),(lI 10)] (mkH 5 []) bF (mkH 5 []) :=
  sF (sc := [(7, .call [] (.tuple #[bT,(.string (bts []))]) [] []), (10, .op (.rwB true)), (20, .stay)]) (by kernel_rfl) (aI (hs 5 (by omega)) (aI (show ((bts []).toList == (bts []).toList) = true from (by simp only [decide_eq_true_eq, decide_eq_false_iff_not, beq_iff_eq, beq_eq_false_iff_ne, bne_iff_ne, bne_eq_false_iff_eq, ne_eq, gt_iff_lt, ge_iff_le] <;> omega)) tt)) (Gets.refl _)
theorem wbmec (n0 : Nat) (s : ByteArray) (hG : 5 ≤ n0) (hs : ∀ n0, 5 ≤ n0 → FT 128 #[.string s] n0 [] (.tuple #[.bool true, .string (Seg.bts [])]) [] []) : FT 127 #[(.string s),(lI 10)] n0 [] bF [] [] :=
  fsp_flat [] [] [] [] [] n0 (wbme s hs) rfl rfl rfl (by simp) (by simp) hG rfl rfl rfl (by simp) (by simp) rfl rfl rfl
theorem wbmz (s t : ByteArray) (c : UInt8) (hs : ∀ n0, 5 ≤ n0 → FT 128 #[.string s] n0 [] (.tuple #[.bool true, .string t]) [] []) (hne : (t.toList == (Seg.bts []).toList) = false) (hx : t[0]? = some c) (hc : c = 48)  : CT 127 #[(.string s),(lI 10)] (mkH 5 []) bF (mkH 5 []) :=
  sF (sc := [(7, .call [] (.tuple #[bT,(.string t)]) [] []), (10, .op (.rwB false)), (2, .op (.sidx c)), (0, .op (.rwB true)), (27, .stay)]) (by kernel_rfl) (aI (hs 5 (by omega)) (aI hne (aI (show 0 ≤ (0 : Int) ∧ t[Int.toNat (0 : Int)]? = some c from ⟨by omega, hx⟩) (aI (show (((c.toNat : Nat) : Int) == (48 : Int)) = true from (byte_0 hc)) tt)))) (Gets.refl _)
theorem wbmzc (n0 : Nat) (s t : ByteArray) (c : UInt8) (hG : 5 ≤ n0) (hs : ∀ n0, 5 ≤ n0 → FT 128 #[.string s] n0 [] (.tuple #[.bool true, .string t]) [] []) (hne : (t.toList == (Seg.bts []).toList) = false) (hx : t[0]? = some c) (hc : c = 48) : FT 127 #[(.string s),(lI 10)] n0 [] bF [] [] :=
  fsp_flat [] [] [] [] [] n0 (wbmz s t c hs hne hx hc) rfl rfl rfl (by simp) (by simp) hG rfl rfl rfl (by simp) (by simp) rfl rfl rfl
noncomputable def wbm_h_f (s t : ByteArray) (c : UInt8) (p : Nat) (j : List Value) : Frame := ⟨127, List.toArray [(.string s), (lI 10), uu, uu, (J j 0), bT, (.string t), uu, (J j 1), (J j 2), (J j 3), (J j 4), bT, (J j 5), (J j 6), bF, bF, (J j 7), (J j 8), bF, bF, uu, uu, uu, uu, uu, uu, bF, bF, (J j 9), (pt 5), (J j 10), (J j 11), (J j 12), (J j 13), (J j 14), (J j 15), (J j 16)], [.code (cd Tryz.f127 [1, 1, 1, 0, 1, 0, 0]), .inLoop (cd Tryz.f127 [1, 1, 1, 0, 1, 0, 0]), .inBlock 0, .code (cd Tryz.f127 [1, 1, 1, 1])], [], .run, .normal, none⟩
noncomputable def wbm_h_o (s t : ByteArray) (c : UInt8) (p : Nat) : List (Nat × AObj) := [(5, (.iter t p))]
noncomputable def wbm_h (s t : ByteArray) (c : UInt8) (p : Nat) (j : List Value) : AS := ⟨wbm_h_f s t c p j, [], mkH 6 (wbm_h_o s t c p)⟩
theorem wbm_in (s t : ByteArray) (c : UInt8) (hs : ∀ n0, 5 ≤ n0 → FT 128 #[.string s] n0 [] (.tuple #[.bool true, .string t]) [] []) (hne : (t.toList == (Seg.bts []).toList) = false) (hx : t[0]? = some c) (hc : c ≠ 48)  : GT (z_e09_0 s) (wbm_h s t c 0 [bF, undef, (.tuple #[bT,(.string t)]), (.string s), (.tuple #[bT,(.string t)]), (.string t), (.string t), (.string t), (nB c.toNat), (.string t), undef, undef, undef, undef, undef, undef, undef]) :=
  sR (sc := [(7, .call [] (.tuple #[bT,(.string t)]) [] []), (10, .op (.rwB false)), (2, .op (.sidx c)), (0, .op (.rwB false)), (20, .stay)]) (by kernel_rfl) (aI (hs 5 (by omega)) (aI hne (aI (show 0 ≤ (0 : Int) ∧ t[Int.toNat (0 : Int)]? = some c from ⟨by omega, hx⟩) (aI (show (((c.toNat : Nat) : Int) == (48 : Int)) = false from (byte_n0 hc)) tt))))
theorem wbm_r (s t : ByteArray) (c : UInt8) (p q : Nat) (j : List Value) (hq : q < 10) (hp : p < t.size) (he : Utf8.decode t p = (48 + q, 1))  : GT (wbm_h s t c p j) (wbm_h s t c (p + 1) [(J j 0), (nR (48 + q)), (J j 2), (J j 3), (J j 4), (J j 5), (J j 6), (J j 7), (J j 8), (J j 9), (.tuple #[bT,(nI p),(nR (48 + q))]), bT, (nR (48 + q)), (nR (48 + q)), (nI q), (lI 10), bF]) :=
  sR (sc := [(2, .op (.nxtC (48 + q) 1 (p + 1))), (14, .call [] (nI q) [] []), (1, .op (.rwB false)), (5, .stay)]) (by kernel_rfl) (aI (show p < t.size ∧ Utf8.decode t p = ((48 + q), 1) ∧ p + 1 = (p + 1) from ⟨hp, he, rfl⟩) (aI (do_c 6 q (by omega) hq) (aI (dF (p := (q : Int) ≥ (10 : Int)) (by omega)) tt)))
theorem wbm_x (s t : ByteArray) (c : UInt8) (p r w v : Nat) (j : List Value) (hp : p < t.size) (he : Utf8.decode t p = (r, w)) (hv : (FT 167 #[.int .i32 (r : Int)] 6 [] (.int .i64 (v : Int)) [] [])) (h10 : 10 ≤ v)  (hr : GT (z_e09_0 s) (wbm_h s t c p j)) : CT 127 #[(.string s),(lI 10)] (mkH 5 []) bF (mkH 6 []) :=
  sF (sc := [(2, .op (.nxtC r w (p + w))), (14, .call [] (nI v) [] []), (1, .op (.rwB true)), (7, .stay)]) (by kernel_rfl) (aI (show p < t.size ∧ Utf8.decode t p = (r, w) ∧ p + w = (p + w) from ⟨hp, he, rfl⟩) (aI hv (aI (dT (p := (v : Int) ≥ (10 : Int)) (by omega)) tt))) hr
theorem wbm_loop {s t : ByteArray} {c : UInt8} {P : Nat} (hP : P < t.size) (hg : ∀ q (hq : q < P), isD (t[q]'(by omega)) = true) (hb : isD (t[P]'hP) = false) : ∀ (k p : Nat) (j : List Value), k = P - p → p ≤ P →
    GT ⟨Frame.enter Tryz.prog 127 #[(.string s),(lI 10)] .normal, [], mkH 5 []⟩ (wbm_h s t c p j) → CT 127 #[(.string s),(lI 10)] (mkH 5 []) bF (mkH 6 []) := by
  intro k
  induction k with
  | zero =>
    intro p j hk hp hr
    have hpp : p = P := by omega
    subst hpp
    obtain ⟨r, w, h1, h2, h3⟩ := dec_bad hP hb
    obtain ⟨v, h4, _, h5⟩ := dox 6 r (by omega) h2 h3
    exact wbm_x s t c p r w v j hP h1 h5 h4 hr
  | succ k ih =>
    intro p j hk hp hr
    have r := wbm_r s t c p _ j (isD_lt (hg p (by omega))) (by omega) (dec_good (by omega) (hg p (by omega)))
    exact ih (p + 1) _ (by omega) (by omega) (hr.trans r)
theorem wbmxc (n0 : Nat) (s t : ByteArray) (c : UInt8) (hG : 5 ≤ n0) (hs : ∀ n0, 5 ≤ n0 → FT 128 #[.string s] n0 [] (.tuple #[.bool true, .string t]) [] []) (hne : (t.toList == (Seg.bts []).toList) = false) (hx : t[0]? = some c) (hc : c ≠ 48) {P : Nat} (hP : P < t.size) (hg : ∀ q (hq : q < P), isD (t[q]'(by omega)) = true) (hb : isD (t[P]'hP) = false) : FT 127 #[(.string s),(lI 10)] n0 [] bF [] [] :=
  fsp_flat [] [] [] [] [] n0 (wbm_loop hP hg hb _ _ _ rfl (Nat.zero_le _) (wbm_in s t c hs hne hx hc)) rfl rfl rfl (by simp) (by simp) hG rfl rfl rfl (by simp) (by simp) rfl rfl rfl
theorem ba_ext {s : ByteArray} {l : List UInt8} (h : s.data.toList = l) : s = ⟨l.toArray⟩ := by
  apply ByteArray.ext; apply Array.ext'; simpa using h
theorem ba_cut (b : UInt8) (l : List UInt8) : (⟨(b :: l).toArray⟩ : ByteArray).extract 0 1 = ⟨[b].toArray⟩ := by
  apply ByteArray.ext; simp only [ByteArray.data_extract]; apply Array.ext'
  rw [Array.toList_extract, List.extract_eq_take_drop]; simp
theorem ba_rest (b : UInt8) (l : List UInt8) : (⟨(b :: l).toArray⟩ : ByteArray).extract 1 (⟨(b :: l).toArray⟩ : ByteArray).size = ⟨l.toArray⟩ := by
  apply ByteArray.ext; simp only [ByteArray.data_extract]; apply Array.ext'
  rw [Array.toList_extract, List.extract_eq_take_drop]; simp [ByteArray.size]
theorem ba_ne (l m : List UInt8) (h : l ≠ m) : ((⟨l.toArray⟩ : ByteArray).toList == (Seg.bts (m.map (·.toNat))).toList) = false := by
  rw [ByteArray.toList_eq, ByteArray.toList_eq, beq_eq_false_iff_ne]
  intro h1; apply h
  have h2 : l = m.map (fun b => UInt8.ofNat b.toNat) := by simpa [Seg.bts, Function.comp_def] using h1
  rw [h2]; conv => rhs; rw [← List.map_id m]
  exact List.map_congr_left fun b _ => UInt8.ofNat_toNat
theorem ds_head {c : UInt8} {l : List UInt8} (he : dstr (dsOf ⟨(c :: l).toArray⟩) = ⟨(c :: l).toArray⟩) (hc : c ≠ 48) : (dsOf ⟨(c :: l).toArray⟩).getD 0 0 ≠ 0 := by
  have h2 := congrArg (fun t => t.data.toList.head?) he
  simp only [dstr, dsOf, List.map_cons, List.head?_cons, Option.some.injEq] at h2
  intro h0
  have h3 : c.toNat - 48 = 0 := h0
  rw [h3] at h2; exact hc h2.symm
theorem ds_m {ds : List Nat} {l : List UInt8} (he : dstr ds = ⟨l.toArray⟩) : (⟨((45 : UInt8) :: l).toArray⟩ : ByteArray) = mstr ds := by
  have h2 : ds.map (fun d => UInt8.ofNat (48 + d)) = l := by have := congrArg (fun t => t.data.toList) he; simpa [dstr] using this
  subst h2; rfl
theorem kif (s : ByteArray) (hw : ∀ n0, 5 ≤ n0 → FT 127 #[.string s, .int .i64 (.ofNat 10)] n0 [] bF [] [])  : CT 145 #[(.string s)] (mkH 5 []) (lI 0) (mkH 5 []) :=
  sF (sc := [(8, .call [] bF [] []), (8, .stay)]) (by kernel_rfl) (aI (hw 5 (by omega)) tt) (Gets.refl _)
theorem kifc (n0 : Nat) (s : ByteArray) (hG : 5 ≤ n0) (hw : ∀ n0, 5 ≤ n0 → FT 127 #[.string s, .int .i64 (.ofNat 10)] n0 [] bF [] []) : FT 145 #[(.string s)] n0 [] (lI 0) [] [] :=
  fsp_flat [] [] [] [] [] n0 (kif s hw) rfl rfl rfl (by simp) (by simp) hG rfl rfl rfl (by simp) (by simp) rfl rfl rfl
theorem kipe (ds : List Nat) (hd : Dig ds) (h0 : 0 < ds.length) (h1 : ds.getD 0 0 ≠ 0) (hs : 400 < (dstr ds).size)  : CT 145 #[(.string (dstr ds))] (mkH 5 []) (lI 1) (mkH 5 []) :=
  sF (sc := [(8, .call [] bT [] []), (7, .call [] (.tuple #[bF,(.string (dstr ds))]) [] []), (12, .op (.rwB true)), (8, .stay)]) (by kernel_rfl) (aI (wfpc 5 ds (by omega) hd h0 h1) (aI (so_pc 5 ds (by omega) hd h0) (aI (dT (p := (((dstr ds).size : Nat) : Int) > (400 : Int)) (by omega)) tt))) (Gets.refl _)
theorem kipec (n0 : Nat) (ds : List Nat) (hG : 5 ≤ n0) (hd : Dig ds) (h0 : 0 < ds.length) (h1 : ds.getD 0 0 ≠ 0) (hs : 400 < (dstr ds).size) : FT 145 #[(.string (dstr ds))] n0 [] (lI 1) [] [] :=
  fsp_flat [] [] [] [] [] n0 (kipe ds hd h0 h1 hs) rfl rfl rfl (by simp) (by simp) hG rfl rfl rfl (by simp) (by simp) rfl rfl rfl
theorem kime (ds : List Nat) (hd : Dig ds) (h0 : 0 < ds.length) (h1 : ds.getD 0 0 ≠ 0) (hs : 400 < (dstr ds).size)  : CT 145 #[(.string (mstr ds))] (mkH 5 []) (lI 1) (mkH 5 []) :=
  sF (sc := [(8, .call [] bT [] []), (7, .call [] (.tuple #[bT,(.string (dstr ds))]) [] []), (12, .op (.rwB true)), (8, .stay)]) (by kernel_rfl) (aI (wfmc 5 ds (by omega) hd h0 h1) (aI (so_mc 5 ds (by omega)) (aI (dT (p := (((dstr ds).size : Nat) : Int) > (400 : Int)) (by omega)) tt))) (Gets.refl _)
theorem kimec (n0 : Nat) (ds : List Nat) (hG : 5 ≤ n0) (hd : Dig ds) (h0 : 0 < ds.length) (h1 : ds.getD 0 0 ≠ 0) (hs : 400 < (dstr ds).size) : FT 145 #[(.string (mstr ds))] n0 [] (lI 1) [] [] :=
  fsp_flat [] [] [] [] [] n0 (kime ds hd h0 h1 hs) rfl rfl rfl (by simp) (by simp) hG rfl rfl rfl (by simp) (by simp) rfl rfl rfl
end Go.Proofs.YtjbflfbhfnkmlaaGreatDoor
