import Derived.Test.YtpbbfgpnoinkjaaGreatDoorNPlus
import Derived.Test.YtpbbfgpnoinkjaaGreatDoorPLeast
import Derived.Test.YtpbbfgpnoinkjaaGreatDoorPDigits
import Derived.Test.YtpbbfgpnoinkjaaGreatDoorLF
set_option linter.unusedVariables false
set_option linter.unusedSimpArgs false
set_option maxRecDepth 100000
set_option linter.unusedVariables false
set_option linter.unusedSimpArgs false
namespace Go.Proofs.YtpbbfgpnoinkjaaGreatDoor
open Go Go.AE Seg
theorem sum_o (xs ys : List Nat) (n c k e : Nat) (sx sy : Bool) (sg : Bool) (zs : List Nat) (t : Nat) (hc1 : FSp Tryz.prog 5 114 #[(.agg #[(.bool sx),(sl 5 n c)]),(.agg #[(.bool sy),(sl 6 k e)])] 11 [(5,(cU xs)),(6,(cU ys))] (.agg #[(.bool sg),(sl 11 t t)]) [(5,some (cU xs)),(6,some (cU ys))] [(cU zs)]) (hr : Gets Tryz.prog 5 ⟨Frame.enter Tryz.prog 272 #[(.agg #[]),(.agg #[(.bool sx),(sl 5 n c)]),(.agg #[(.bool sy),(sl 6 k e)])] .normal, [], mkH 7 [(5, (cU xs)), (6, (cU ys))]⟩ ⟨Frame.enter Tryz.prog 272 #[(.agg #[]),(.agg #[(.bool sx),(sl 5 n c)]),(.agg #[(.bool sy),(sl 6 k e)])] .normal, [], mkH 7 [(5, (cU xs)), (6, (cU ys))]⟩) : CSp Tryz.prog 5 272 #[(.agg #[]),(.agg #[(.bool sx),(sl 5 n c)]),(.agg #[(.bool sy),(sl 6 k e)])] (mkH 7 [(5, (cU xs)), (6, (cU ys))]) (.agg #[(.bool sg),(sl 11 t t)]) (mkH 12 [(5, (cU xs)), (6, (cU ys)), (11, (cU zs))]) :=
  seg_fin hmix_ok (hk := hk0) (draw := dr0) (sc := [(11, .call [5,6] (.agg #[(.bool sg),(sl 11 t t)]) [(5,some (cU xs)),(6,some (cU ys))] [(cU zs)]), (3, .stay)]) (next := 12) (l := [(5, (cU xs)), (6, (cU ys)), (11, (cU zs))]) (p := (FSp Tryz.prog 5 114 #[(.agg #[(.bool sx),(sl 5 n c)]),(.agg #[(.bool sy),(sl 6 k e)])] 11 [(5,(cU xs)),(6,(cU ys))] (.agg #[(.bool sg),(sl 11 t t)]) [(5,some (cU xs)),(6,some (cU ys))] [(cU zs)]) ∧ True) hk0_ok dr0_ok (by kernel_rfl) ⟨hc1, trivial⟩ hr

theorem sum_c (n0 bx byy : Nat) (xs ys : List Nat) (n c k e : Nat) (sx sy : Bool) (hb : 5 ≤ bx ∧ bx < n0 ∧ 5 ≤ byy ∧ byy < n0 ∧ bx ≠ byy) (hlx : Lim xs) (hly : Lim ys) (hc : n ≤ xs.length) (hk : k ≤ ys.length) (hn : n < 1099511627776) (hkm : k < 1099511627776)
    (hx : 0 < n → xs.getD (n - 1) 0 ≠ 0) (hy : 0 < k → ys.getD (k - 1) 0 ≠ 0) (hsx : sx = true → 0 < n) (hsy : sy = true → 0 < k) :
    ∃ sg zs t, Lim zs ∧ t ≤ zs.length ∧ t ≤ max n k + 1 ∧ (0 < t → zs.getD (t - 1) 0 ≠ 0) ∧ (sg = true → 0 < t) ∧ iv sg (val (zs.take t)) = iv sx (val (xs.take n)) + iv sy (val (ys.take k)) ∧
      FSp Tryz.prog 5 272 #[.agg #[], .agg #[.bool sx, sl bx n c], .agg #[.bool sy, sl byy k e]] n0 [(bx, cU xs), (byy, cU ys)] (.agg #[.bool sg, sl n0 t t])
        [(bx, some (cU xs)), (byy, some (cU ys))] [cU zs] := by
  obtain ⟨sg, zs, t, h1, h2, h3, h4, h5, h6, h7⟩ := np_c 11 5 6 xs ys n c k e sx sy (by omega) hlx hly hc hk hn hkm hx hy hsx hsy
  exact ⟨sg, zs, t, h1, h2, h3, h4, h5, h6, fsp_flat [bx, byy] [cU xs, cU ys] [cU xs, cU ys] [11] [cU zs] n0 (sum_o xs ys n c k e sx sy sg zs t h7 (Gets.refl _)) rfl rfl rfl (by simp [hb.2.2.2.2]) (by simp; omega) (by omega) (by simp [flat, ns_closed]) (by simp [flat, ns_closed]) (by simp [flat, ns_closed, AObj.ro]) (by simp) (by simp) rfl rfl rfl⟩

theorem dif_t (xs ys : List Nat) (n c k e : Nat) (sx : Bool)  (sg : Bool) (zs : List Nat) (t : Nat) (hc1 : FSp Tryz.prog 5 114 #[(.agg #[(.bool sx),(sl 5 n c)]),(.agg #[(.bool false),(sl 6 k e)])] 14 [(5,(cU xs)),(6,(cU ys))] (.agg #[(.bool sg),(sl 14 t t)]) [(5,some (cU xs)),(6,some (cU ys))] [(cU zs)]) (hr : Gets Tryz.prog 5 ⟨Frame.enter Tryz.prog 273 #[(.agg #[]),(.agg #[(.bool sx),(sl 5 n c)]),(.agg #[(.bool true),(sl 6 k e)])] .normal, [], mkH 7 [(5, (cU xs)), (6, (cU ys))]⟩ ⟨Frame.enter Tryz.prog 273 #[(.agg #[]),(.agg #[(.bool sx),(sl 5 n c)]),(.agg #[(.bool true),(sl 6 k e)])] .normal, [], mkH 7 [(5, (cU xs)), (6, (cU ys))]⟩) : CSp Tryz.prog 5 273 #[(.agg #[]),(.agg #[(.bool sx),(sl 5 n c)]),(.agg #[(.bool true),(sl 6 k e)])] (mkH 7 [(5, (cU xs)), (6, (cU ys))]) (.agg #[(.bool sg),(sl 14 t t)]) (mkH 15 [(5, (cU xs)), (6, (cU ys)), (14, (cU zs))]) :=
  seg_fin hmix_ok (hk := hk0) (draw := dr0) (sc := [(19, .drwM [] [⟨2, [6], (.agg #[(.bool false),(sl 6 k e)]), [(6,some (cU ys))], []⟩, ⟨3, [5,6], (.agg #[(.bool sg),(sl 14 t t)]), [(5,some (cU xs)),(6,some (cU ys))], [(cU zs)]⟩]), (5, .stay)]) (next := 15) (l := [(5, (cU xs)), (6, (cU ys)), (14, (cU zs))]) (p := (True ∧ (True ∧ ((FSp Tryz.prog 5 150 #[(.agg #[(.bool true),(sl 6 k e)])] 14 [(6,(cU ys))] (.agg #[(.bool false),(sl 6 k e)]) [(6,some (cU ys))] []) ∧ ((FSp Tryz.prog 5 114 #[(.agg #[(.bool sx),(sl 5 n c)]),(.agg #[(.bool false),(sl 6 k e)])] 14 [(5,(cU xs)),(6,(cU ys))] (.agg #[(.bool sg),(sl 14 t t)]) [(5,some (cU xs)),(6,some (cU ys))] [(cU zs)]) ∧ (True ∧ (True)))))) ∧ True) hk0_ok dr0_ok (by kernel_rfl) ⟨⟨trivial, trivial, (ng_tc 14 6 ys k e (by omega)), hc1, trivial, trivial⟩, trivial⟩ hr
theorem dif_f (xs ys : List Nat) (n c k e : Nat) (sx : Bool) (hk : 0 < k) (sg : Bool) (zs : List Nat) (t : Nat) (hc1 : FSp Tryz.prog 5 114 #[(.agg #[(.bool sx),(sl 5 n c)]),(.agg #[(.bool true),(sl 6 k e)])] 14 [(5,(cU xs)),(6,(cU ys))] (.agg #[(.bool sg),(sl 14 t t)]) [(5,some (cU xs)),(6,some (cU ys))] [(cU zs)]) (hr : Gets Tryz.prog 5 ⟨Frame.enter Tryz.prog 273 #[(.agg #[]),(.agg #[(.bool sx),(sl 5 n c)]),(.agg #[(.bool false),(sl 6 k e)])] .normal, [], mkH 7 [(5, (cU xs)), (6, (cU ys))]⟩ ⟨Frame.enter Tryz.prog 273 #[(.agg #[]),(.agg #[(.bool sx),(sl 5 n c)]),(.agg #[(.bool false),(sl 6 k e)])] .normal, [], mkH 7 [(5, (cU xs)), (6, (cU ys))]⟩) : CSp Tryz.prog 5 273 #[(.agg #[]),(.agg #[(.bool sx),(sl 5 n c)]),(.agg #[(.bool false),(sl 6 k e)])] (mkH 7 [(5, (cU xs)), (6, (cU ys))]) (.agg #[(.bool sg),(sl 14 t t)]) (mkH 15 [(5, (cU xs)), (6, (cU ys)), (14, (cU zs))]) :=
  seg_fin hmix_ok (hk := hk0) (draw := dr0) (sc := [(19, .drwM [] [⟨2, [6], (.agg #[(.bool true),(sl 6 k e)]), [(6,some (cU ys))], []⟩, ⟨3, [5,6], (.agg #[(.bool sg),(sl 14 t t)]), [(5,some (cU xs)),(6,some (cU ys))], [(cU zs)]⟩]), (5, .stay)]) (next := 15) (l := [(5, (cU xs)), (6, (cU ys)), (14, (cU zs))]) (p := (True ∧ (True ∧ ((FSp Tryz.prog 5 150 #[(.agg #[(.bool false),(sl 6 k e)])] 14 [(6,(cU ys))] (.agg #[(.bool true),(sl 6 k e)]) [(6,some (cU ys))] []) ∧ ((FSp Tryz.prog 5 114 #[(.agg #[(.bool sx),(sl 5 n c)]),(.agg #[(.bool true),(sl 6 k e)])] 14 [(5,(cU xs)),(6,(cU ys))] (.agg #[(.bool sg),(sl 14 t t)]) [(5,some (cU xs)),(6,some (cU ys))] [(cU zs)]) ∧ (True ∧ (True)))))) ∧ True) hk0_ok dr0_ok (by kernel_rfl) ⟨⟨trivial, trivial, (ng_fc 14 6 ys k e (by omega) hk), hc1, trivial, trivial⟩, trivial⟩ hr
theorem dif_z (xs ys : List Nat) (n c k e : Nat) (sx : Bool) (hk : k = 0) (sg : Bool) (zs : List Nat) (t : Nat) (hc1 : FSp Tryz.prog 5 114 #[(.agg #[(.bool sx),(sl 5 n c)]),(.agg #[(.bool false),(sl 6 k e)])] 14 [(5,(cU xs)),(6,(cU ys))] (.agg #[(.bool sg),(sl 14 t t)]) [(5,some (cU xs)),(6,some (cU ys))] [(cU zs)]) (hr : Gets Tryz.prog 5 ⟨Frame.enter Tryz.prog 273 #[(.agg #[]),(.agg #[(.bool sx),(sl 5 n c)]),(.agg #[(.bool false),(sl 6 k e)])] .normal, [], mkH 7 [(5, (cU xs)), (6, (cU ys))]⟩ ⟨Frame.enter Tryz.prog 273 #[(.agg #[]),(.agg #[(.bool sx),(sl 5 n c)]),(.agg #[(.bool false),(sl 6 k e)])] .normal, [], mkH 7 [(5, (cU xs)), (6, (cU ys))]⟩) : CSp Tryz.prog 5 273 #[(.agg #[]),(.agg #[(.bool sx),(sl 5 n c)]),(.agg #[(.bool false),(sl 6 k e)])] (mkH 7 [(5, (cU xs)), (6, (cU ys))]) (.agg #[(.bool sg),(sl 14 t t)]) (mkH 15 [(5, (cU xs)), (6, (cU ys)), (14, (cU zs))]) :=
  seg_fin hmix_ok (hk := hk0) (draw := dr0) (sc := [(19, .drwM [] [⟨2, [6], (.agg #[(.bool false),(sl 6 k e)]), [(6,some (cU ys))], []⟩, ⟨3, [5,6], (.agg #[(.bool sg),(sl 14 t t)]), [(5,some (cU xs)),(6,some (cU ys))], [(cU zs)]⟩]), (5, .stay)]) (next := 15) (l := [(5, (cU xs)), (6, (cU ys)), (14, (cU zs))]) (p := (True ∧ (True ∧ ((FSp Tryz.prog 5 150 #[(.agg #[(.bool false),(sl 6 k e)])] 14 [(6,(cU ys))] (.agg #[(.bool false),(sl 6 k e)]) [(6,some (cU ys))] []) ∧ ((FSp Tryz.prog 5 114 #[(.agg #[(.bool sx),(sl 5 n c)]),(.agg #[(.bool false),(sl 6 k e)])] 14 [(5,(cU xs)),(6,(cU ys))] (.agg #[(.bool sg),(sl 14 t t)]) [(5,some (cU xs)),(6,some (cU ys))] [(cU zs)]) ∧ (True ∧ (True)))))) ∧ True) hk0_ok dr0_ok (by kernel_rfl) ⟨⟨trivial, trivial, (ng_zc 14 6 ys k e (by omega) hk), hc1, trivial, trivial⟩, trivial⟩ hr

theorem dif_c (n0 bx byy : Nat) (xs ys : List Nat) (n c k e : Nat) (sx sy : Bool) (hb : 5 ≤ bx ∧ bx < n0 ∧ 5 ≤ byy ∧ byy < n0 ∧ bx ≠ byy) (hlx : Lim xs) (hly : Lim ys) (hc : n ≤ xs.length) (hk : k ≤ ys.length) (hn : n < 1099511627776) (hkm : k < 1099511627776)
    (hx : 0 < n → xs.getD (n - 1) 0 ≠ 0) (hy : 0 < k → ys.getD (k - 1) 0 ≠ 0) (hsx : sx = true → 0 < n) (hsy : sy = true → 0 < k) :
    ∃ sg zs t, Lim zs ∧ t ≤ zs.length ∧ t ≤ max n k + 1 ∧ (0 < t → zs.getD (t - 1) 0 ≠ 0) ∧ (sg = true → 0 < t) ∧ iv sg (val (zs.take t)) = iv sx (val (xs.take n)) - iv sy (val (ys.take k)) ∧
      FSp Tryz.prog 5 273 #[.agg #[], .agg #[.bool sx, sl bx n c], .agg #[.bool sy, sl byy k e]] n0 [(bx, cU xs), (byy, cU ys)] (.agg #[.bool sg, sl n0 t t])
        [(bx, some (cU xs)), (byy, some (cU ys))] [cU zs] := by
  cases sy with
  | true =>
    obtain ⟨sg, zs, t, h1, h2, h3, h4, h5, h6, h7⟩ := np_c 14 5 6 xs ys n c k e sx false (by omega) hlx hly hc hk hn hkm hx hy hsx (by intro q; cases q)
    exact ⟨sg, zs, t, h1, h2, h3, h4, h5, by rw [h6]; rw [iv_f, iv_t]; omega, fsp_flat [bx, byy] [cU xs, cU ys] [cU xs, cU ys] [14] [cU zs] n0 (dif_t xs ys n c k e sx sg zs t h7 (Gets.refl _)) rfl rfl rfl (by simp [hb.2.2.2.2]) (by simp; omega) (by omega) (by simp [flat, ns_closed]) (by simp [flat, ns_closed]) (by simp [flat, ns_closed, AObj.ro]) (by simp) (by simp) rfl rfl rfl⟩
  | false =>
    rcases Nat.eq_zero_or_pos k with hk0 | hk0
    · obtain ⟨sg, zs, t, h1, h2, h3, h4, h5, h6, h7⟩ := np_c 14 5 6 xs ys n c k e sx false (by omega) hlx hly hc hk hn hkm hx hy hsx (by intro q; cases q)
      exact ⟨sg, zs, t, h1, h2, h3, h4, h5, by rw [h6]; rw [iv_f, hk0, List.take_zero]; simp [val], fsp_flat [bx, byy] [cU xs, cU ys] [cU xs, cU ys] [14] [cU zs] n0 (dif_z xs ys n c k e sx hk0 sg zs t h7 (Gets.refl _)) rfl rfl rfl (by simp [hb.2.2.2.2]) (by simp; omega) (by omega) (by simp [flat, ns_closed]) (by simp [flat, ns_closed]) (by simp [flat, ns_closed, AObj.ro]) (by simp) (by simp) rfl rfl rfl⟩
    · obtain ⟨sg, zs, t, h1, h2, h3, h4, h5, h6, h7⟩ := np_c 14 5 6 xs ys n c k e sx true (by omega) hlx hly hc hk hn hkm hx hy hsx (fun _ => hk0)
      exact ⟨sg, zs, t, h1, h2, h3, h4, h5, by rw [h6]; rw [iv_f, iv_t]; omega, fsp_flat [bx, byy] [cU xs, cU ys] [cU xs, cU ys] [14] [cU zs] n0 (dif_f xs ys n c k e sx hk0 sg zs t h7 (Gets.refl _)) rfl rfl rfl (by simp [hb.2.2.2.2]) (by simp; omega) (by omega) (by simp [flat, ns_closed]) (by simp [flat, ns_closed]) (by simp [flat, ns_closed, AObj.ro]) (by simp) (by simp) rfl rfl rfl⟩

end Go.Proofs.YtpbbfgpnoinkjaaGreatDoor
set_option maxRecDepth 100000
set_option linter.unusedVariables false
set_option linter.unusedSimpArgs false
namespace Go.Proofs.YtpbbfgpnoinkjaaGreatDoor
open Go Go.AE Seg

theorem kis_i (n0 : Nat) (a : Int) (hG : 5 ≤ n0) (hs : (digs a.natAbs).length ≤ 18) : FSp Tryz.prog 5 145 #[.string (istr a)] n0 [] (.int .i64 (.ofNat 2)) [] [] := by
  rcases int_cases a with ⟨m, rfl, hm⟩ | ⟨m, h0, rfl, hm⟩
  · rw [istr_nn]
    rw [hm] at hs
    rcases Nat.eq_zero_or_pos m with q | q
    · exact kizsc n0 _ hG (digs_dig m) (digs_len_pos m) (by rw [q, digs_zero]) (by rw [dstr_size]; exact hs)
    · exact kipsc n0 _ hG (digs_dig m) (digs_len_pos m) (digs_head m q) (by rw [dstr_size]; exact hs)
  · rw [istr_neg h0]
    rw [hm] at hs
    exact kimsc n0 _ hG (digs_dig m) (digs_len_pos m) (digs_head m h0) (by rw [dstr_size]; exact hs)
theorem kil_i (n0 : Nat) (a : Int) (hG : 5 ≤ n0) (hs : 18 < (digs a.natAbs).length) (hL : ndig a.natAbs ≤ 400) : FSp Tryz.prog 5 145 #[.string (istr a)] n0 [] (.int .i64 (.ofNat 3)) [] [] := by
  have hL2 := digs_len_le hL (by decide)
  rcases int_cases a with ⟨m, rfl, hm⟩ | ⟨m, h0, rfl, hm⟩
  · rw [istr_nn]
    rw [hm] at hs hL2
    have q : 0 < m := by
      rcases Nat.eq_zero_or_pos m with q | q
      · rw [q, digs_zero] at hs
        exact absurd hs (by decide)
      · exact q
    exact kiplc n0 _ hG (digs_dig m) (digs_len_pos m) (digs_head m q) (by rw [dstr_size]; exact hs) (by rw [dstr_size]; exact hL2)
  · rw [istr_neg h0]
    rw [hm] at hs hL2
    exact kimlc n0 _ hG (digs_dig m) (digs_len_pos m) (digs_head m h0) (by rw [dstr_size]; exact hs) (by rw [dstr_size]; exact hL2)
theorem sm_i (n0 : Nat) (a : Int) (hG : 5 ≤ n0) (hs : (digs a.natAbs).length ≤ 18) : FSp Tryz.prog 5 109 #[.string (istr a)] n0 [] (.int .i64 a) [] [] := by
  rcases int_cases a with ⟨m, rfl, hm⟩ | ⟨m, h0, rfl, hm⟩
  · rw [istr_nn]
    rw [hm] at hs
    have h := smpc n0 _ hG (digs_dig m) (digs_len_pos m) hs
    rw [digs_val] at h
    exact h
  · rw [istr_neg h0]
    rw [hm] at hs
    have h := smmc n0 _ hG (digs_dig m) (digs_len_pos m) hs
    rw [digs_val] at h
    exact h
theorem nu_i (n0 : Nat) (a : Int) (hG : 5 ≤ n0) (hL : ndig a.natAbs ≤ 400) :
    ∃ sg zs t, Lim zs ∧ t ≤ zs.length ∧ (t ≤ 45 ∧ t ≤ ((digs a.natAbs).length + 8) / 9) ∧ (0 < t → zs.getD (t - 1) 0 ≠ 0) ∧ (sg = true → 0 < t) ∧ iv sg (val (zs.take t)) = a ∧
      FSp Tryz.prog 5 111 #[.string (istr a)] n0 [] (.agg #[.bool sg, sl n0 t t]) [] [cU zs] := by
  have hL2 := digs_len_le hL (by decide)
  rcases int_cases a with ⟨m, rfl, hm⟩ | ⟨m, h0, rfl, hm⟩
  · rw [istr_nn]
    rw [hm] at hL2
    obtain ⟨zs, t, h1, h2, h3, h4, h5, h6⟩ := nu_pc n0 _ hG (digs_dig m) (digs_len_pos m) (by omega)
    rw [digs_val] at h5
    exact ⟨false, zs, t, h1, h2, by rw [hm]; omega, h4, (by intro q; cases q), by rw [iv_f, h5], h6⟩
  · rw [istr_neg h0]
    rw [hm] at hL2
    obtain ⟨zs, t, h1, h2, h3, h4, h5, h6⟩ := nu_mc n0 _ hG (digs_dig m) (by rw [digs_val]; exact h0) (by omega)
    rw [digs_val] at h5
    exact ⟨true, zs, t, h1, h2, by rw [hm]; omega, h4, fun _ => len_pos (zs := zs) (by omega), by rw [iv_t, h5], h6⟩
theorem nt_i (n0 b : Nat) (sg : Bool) (xs : List Nat) (n c : Nat) (hb : 5 ≤ b ∧ b < n0) (hlx : Lim xs) (hc : n ≤ xs.length) (hm : n < 1099511627776) (hx : 0 < n → xs.getD (n - 1) 0 ≠ 0) (hsg : sg = true → 0 < n) (hd : ndig (iv sg (val (xs.take n))).natAbs ≤ 400) :
    FSp Tryz.prog 5 112 #[.agg #[.bool sg, sl b n c]] n0 [(1, gob1), (b, cU xs)] (.string (istr (iv sg (val (xs.take n)))))
      [(1, some gob1), (b, some (cU xs))] [] := by
  cases sg with
  | false =>
    rw [iv_f] at hd ⊢
    rw [istr_nn]
    exact nt_pc n0 b xs n c hb hlx hc hm hx (by simpa using hd)
  | true =>
    rw [iv_t] at hd ⊢
    rw [istr_neg (val_pos (hsg rfl) hx)]
    exact nt_mc n0 b xs n c hb hlx hc hm hx (by simpa using hd)

end Go.Proofs.YtpbbfgpnoinkjaaGreatDoor
