import Derived.Test.YtpbbfgpnoinkjaaGreatDoorK
import Derived.Test.YtpbbfgpnoinkjaaGreatDoorPSigned
import Derived.Test.YtpbbfgpnoinkjaaGreatDoorPDec
set_option linter.unusedVariables false
set_option linter.unusedSimpArgs false
set_option maxRecDepth 100000
set_option linter.unusedVariables false
set_option linter.unusedSimpArgs false
namespace Go.Proofs.YtpbbfgpnoinkjaaGreatDoor
open Go Go.AE Seg
theorem copied_o (xs : List Nat) (n c k : Nat) (hc : n ≤ xs.length) (hk : n ≤ k) (hm : k < 70368744177664)  (hr : Gets Tryz.prog 5 ⟨Frame.enter Tryz.prog 154 #[(sl 5 n c),(.int .i64 ((k : Nat) : Int))] .normal, [], mkH 6 [(5, (cU xs))]⟩ ⟨Frame.enter Tryz.prog 154 #[(sl 5 n c),(.int .i64 ((k : Nat) : Int))] .normal, [], mkH 6 [(5, (cU xs))]⟩) : CSp Tryz.prog 5 154 #[(sl 5 n c),(.int .i64 ((k : Nat) : Int))] (mkH 6 [(5, (cU xs))]) (sl 6 k k) (mkH 7 [(5, (cU xs)), (6, (.cells (ns .u32 (xs.take n ++ List.replicate (k - n) 0)) 121 none false))]) :=
  seg_fin hmix_ok (hk := hk0) (draw := dr0) (sc := [(7, .op (.mks k k (ns .u32 (List.replicate k 0)))), (6, .op (.cpy n (ns .u32 (xs.take n ++ List.replicate (k - n) 0)))), (7, .stay)]) (next := 7) (l := [(5, (cU xs)), (6, (.cells (ns .u32 (xs.take n ++ List.replicate (k - n) 0)) 121 none false))]) (p := ((0 ≤ ((k : Nat) : Int) ∧ ((k : Nat) : Int) ≤ ((k : Nat) : Int) ∧ ((4 : Nat) : Int) * ((k : Nat) : Int) ≤ 281474976710656 ∧ ((k : Nat) : Int) ≤ 9223372036854775807) ∧ closedL (ns .u32 (List.replicate k 0)) = true ∧ (madeCells (Value.cells (.int .u32 (.ofNat 0))) (Int.toNat ((k : Nat) : Int) * 1)).toList = (ns .u32 (List.replicate k 0)) ∧ Int.toNat ((k : Nat) : Int) = k ∧ Int.toNat ((k : Nat) : Int) = k) ∧ ((0 + n ≤ (ns .u32 xs).length ∧ Nat.min n k = n ∧ 0 + n ≤ (ns .u32 (List.replicate k 0)).length ∧ (List.take n (List.take n (List.drop 0 (ns .u32 xs)))).all (·.oneCell') = true ∧ lspl (ns .u32 (List.replicate k 0)) 0 (List.take n (List.take n (List.drop 0 (ns .u32 xs)))) = (ns .u32 (xs.take n ++ List.replicate (k - n) 0))) ∧ True)) hk0_ok dr0_ok (by kernel_rfl) ⟨(by refine ⟨⟨?_, ?_, ?_, ?_⟩, ns_closed _ _, ns_made _ _ _, ?_, ?_⟩ <;> omega), (ns_cpy hc hk), trivial⟩ hr

/-- copied has the same limbs, and zeros behind them, in new memory. -/
theorem copied_c (n0 b : Nat) (xs : List Nat) (n c k : Nat) (hb : 5 ≤ b ∧ b < n0) (hc : n ≤ xs.length) (hk : n ≤ k) (hm : k < 70368744177664) :
    FSp Tryz.prog 5 154 #[sl b n c, .int .i64 (k : Nat)] n0 [(b, cU xs)] (sl n0 k k) [(b, some (cU xs))]
      [.cells (ns .u32 (xs.take n ++ List.replicate (k - n) 0)) 121 none false] :=
  fsp_flat [b] [cU xs] [cU xs] [6] [.cells (ns .u32 (xs.take n ++ List.replicate (k - n) 0)) 121 none false] n0 (copied_o xs n c k hc hk hm (Gets.refl _)) rfl rfl rfl (by simp) (by simp; omega) (by omega) (by simp [flat, ns_closed]) (by simp [flat, ns_closed]) (by simp [flat, ns_closed, AObj.ro]) (by simp) (by simp) rfl rfl rfl

theorem copied_n (k : Nat) (hm : k < 70368744177664)  (hr : Gets Tryz.prog 5 ⟨Frame.enter Tryz.prog 154 #[(.slice none 0 0),(.int .i64 ((k : Nat) : Int))] .normal, [], mkH 5 []⟩ ⟨Frame.enter Tryz.prog 154 #[(.slice none 0 0),(.int .i64 ((k : Nat) : Int))] .normal, [], mkH 5 []⟩) : CSp Tryz.prog 5 154 #[(.slice none 0 0),(.int .i64 ((k : Nat) : Int))] (mkH 5 []) (sl 5 k k) (mkH 6 [(5, (cU (List.replicate k 0)))]) :=
  seg_fin hmix_ok (hk := hk0) (draw := dr0) (sc := [(7, .op (.mks k k (ns .u32 (List.replicate k 0)))), (14, .stay)]) (next := 6) (l := [(5, (cU (List.replicate k 0)))]) (p := ((0 ≤ ((k : Nat) : Int) ∧ ((k : Nat) : Int) ≤ ((k : Nat) : Int) ∧ ((4 : Nat) : Int) * ((k : Nat) : Int) ≤ 281474976710656 ∧ ((k : Nat) : Int) ≤ 9223372036854775807) ∧ closedL (ns .u32 (List.replicate k 0)) = true ∧ (madeCells (Value.cells (.int .u32 (.ofNat 0))) (Int.toNat ((k : Nat) : Int) * 1)).toList = (ns .u32 (List.replicate k 0)) ∧ Int.toNat ((k : Nat) : Int) = k ∧ Int.toNat ((k : Nat) : Int) = k) ∧ True) hk0_ok dr0_ok (by kernel_rfl) ⟨(by refine ⟨⟨?_, ?_, ?_, ?_⟩, ns_closed _ _, ns_made _ _ _, ?_, ?_⟩ <;> omega), trivial⟩ hr

theorem copied_nil (n0 k : Nat) (hG : 5 ≤ n0) (hm : k < 70368744177664) :
    FSp Tryz.prog 5 154 #[.slice none 0 0, .int .i64 (k : Nat)] n0 [] (sl n0 k k) [] [cU (List.replicate k 0)] :=
  fsp_flat [] [] [] [5] [cU (List.replicate k 0)] n0 (copied_n k hm (Gets.refl _)) rfl rfl rfl (by simp) (by simp) hG rfl rfl (by simp [flat, ns_closed, AObj.ro]) (by simp) (by simp) rfl rfl rfl

end Go.Proofs.YtpbbfgpnoinkjaaGreatDoor
set_option maxRecDepth 100000
set_option linter.unusedVariables false
set_option linter.unusedSimpArgs false
namespace Go.Proofs.YtpbbfgpnoinkjaaGreatDoor
open Go Go.AE Seg
theorem plus_o (xs ys : List Nat) (n c k e : Nat) (hc : n ≤ xs.length) (hk : k ≤ ys.length) (hn : n < 1099511627776) (hkm : k < 1099511627776) (zs0 : List Nat) (hz : zs0.length = max n k + 1) (hc1 : FSp Tryz.prog 5 189 #[(sl 7 ((max n k) + 1) ((max n k) + 1)),(sl 6 k e)] 8 [(7,(.cells (ns .u32 (xs.take n ++ List.replicate (((max n k) + 1) - n) 0)) 121 none false)),(6,(cU ys))] undef [(7,some (cU zs0)),(6,some (cU ys))] []) (hr : Gets Tryz.prog 5 ⟨Frame.enter Tryz.prog 151 #[(sl 5 n c),(sl 6 k e)] .normal, [], mkH 7 [(5, (cU xs)), (6, (cU ys))]⟩ ⟨Frame.enter Tryz.prog 151 #[(sl 5 n c),(sl 6 k e)] .normal, [], mkH 7 [(5, (cU xs)), (6, (cU ys))]⟩) : CSp Tryz.prog 5 151 #[(sl 5 n c),(sl 6 k e)] (mkH 7 [(5, (cU xs)), (6, (cU ys))]) (sl 7 (top zs0 ((max n k) + 1)) (top zs0 ((max n k) + 1))) (mkH 8 [(5, (cU xs)), (6, (cU ys)), (7, (cU zs0))]) :=
  seg_fin hmix_ok (hk := hk0) (draw := dr0) (sc := [(11, .op (.rwI (((max n k) : Nat) : Int))), (0, .op (.rwI ((((max n k) + 1) : Nat) : Int))), (0, .call [5] (sl 7 ((max n k) + 1) ((max n k) + 1)) [(5,some (cU xs))] [(.cells (ns .u32 (xs.take n ++ List.replicate (((max n k) + 1) - n) 0)) 121 none false)]), (6, .call [7,6] undef [(7,some (cU zs0)),(6,some (cU ys))] []), (4, .call [7] (sl 7 (top zs0 ((max n k) + 1)) (top zs0 ((max n k) + 1))) [(7,some (cU zs0))] []), (3, .stay)]) (next := 8) (l := [(5, (cU xs)), (6, (cU ys)), (7, (cU zs0))]) (p := ((if ((k : Nat) : Int) > ((n : Nat) : Int) then ((k : Nat) : Int) else ((n : Nat) : Int)) = (((max n k) : Nat) : Int)) ∧ ((IntKind.wrap .i64 ((((max n k) : Nat) : Int) + (1 : Int)) = ((((max n k) + 1) : Nat) : Int)) ∧ ((FSp Tryz.prog 5 154 #[(sl 5 n c),(.int .i64 ((((max n k) + 1) : Nat) : Int))] 7 [(5,(cU xs))] (sl 7 ((max n k) + 1) ((max n k) + 1)) [(5,some (cU xs))] [(.cells (ns .u32 (xs.take n ++ List.replicate (((max n k) + 1) - n) 0)) 121 none false)]) ∧ ((FSp Tryz.prog 5 189 #[(sl 7 ((max n k) + 1) ((max n k) + 1)),(sl 6 k e)] 8 [(7,(.cells (ns .u32 (xs.take n ++ List.replicate (((max n k) + 1) - n) 0)) 121 none false)),(6,(cU ys))] undef [(7,some (cU zs0)),(6,some (cU ys))] []) ∧ ((FSp Tryz.prog 5 156 #[(sl 7 ((max n k) + 1) ((max n k) + 1))] 8 [(7,(cU zs0))] (sl 7 (top zs0 ((max n k) + 1)) (top zs0 ((max n k) + 1))) [(7,some (cU zs0))] []) ∧ True))))) hk0_ok dr0_ok (by kernel_rfl) ⟨(by omega), (by rw [wrap_i64 (by omega) (by omega)] <;> omega), (copied_c 7 5 xs n c ((max n k) + 1) (by omega) (by omega) (by omega) (by omega)), hc1, (trim_c 8 7 zs0 ((max n k) + 1) ((max n k) + 1) (by omega) (by rw [hz]; exact Nat.le_refl _) (by omega) (by omega)), trivial⟩ hr

/-- plus returns the sum in new memory. -/
theorem plus_c (n0 bx byy : Nat) (xs ys : List Nat) (n c k e : Nat) (hb : 5 ≤ bx ∧ bx < n0 ∧ 5 ≤ byy ∧ byy < n0 ∧ bx ≠ byy) (hlx : Lim xs) (hly : Lim ys) (hc : n ≤ xs.length) (hk : k ≤ ys.length) (hn : n < 1099511627776) (hkm : k < 1099511627776) :
    ∃ zs t, Lim zs ∧ t ≤ zs.length ∧ t ≤ max n k + 1 ∧ (0 < t → zs.getD (t - 1) 0 ≠ 0) ∧ val (zs.take t) = val (xs.take n) + val (ys.take k) ∧
      FSp Tryz.prog 5 151 #[sl bx n c, sl byy k e] n0 [(bx, cU xs), (byy, cU ys)] (sl n0 t t)
        [(bx, some (cU xs)), (byy, some (cU ys))] [cU zs] := by
  have hl1 : (xs.take n ++ List.replicate (max n k + 1 - n) 0).length = max n k + 1 := by rw [List.length_append, List.length_take, List.length_replicate]; omega
  have hv1 : val (xs.take n ++ List.replicate (max n k + 1 - n) 0) = val (xs.take n) := by rw [val_append, val_replicate, Nat.mul_zero, Nat.add_zero]
  have hx1 := val_lt (hlx.take n)
  have hy1 := val_lt (hly.take k)
  have hx2 : val (xs.take n) < 1000000000 ^ max n k := Nat.lt_of_lt_of_le hx1 (pow_le (by rw [List.length_take]; omega))
  have hy2 : val (ys.take k) < 1000000000 ^ max n k := Nat.lt_of_lt_of_le hy1 (pow_le (by rw [List.length_take]; omega))
  obtain ⟨zs, h1, h2, h3, h4⟩ := gain_c 8 7 6 (xs.take n ++ List.replicate (max n k + 1 - n) 0) ys k e (by omega) ((hlx.take n).append (Lim.replicate _)) hly hk (by rw [hl1]; omega) (by rw [hl1]; omega) (by rw [hl1, hv1]; exact sum_lt hx2 hy2)
  rw [hl1] at h1 h4
  have S := plus_o xs ys n c k e hc hk hn hkm zs h1 h4 (Gets.refl _)
  have htl := top_le zs (max n k + 1)
  refine ⟨zs, top zs (max n k + 1), h2, by rw [h1]; exact htl, htl, top_pos zs _, ?_, fsp_flat [bx, byy] [cU xs, cU ys] [cU xs, cU ys] [7] [cU zs] n0 S rfl rfl rfl ?_ ?_ (by omega) ?_ ?_ ?_ (by simp) (by simp) rfl rfl rfl⟩
  · rw [top_val, List.take_of_length_le (by rw [h1]; exact Nat.le_refl _), h3, hv1]
  · simp [hb.2.2.2.2]
  · simp; omega
  · simp [flat, ns_closed]
  · simp [flat, ns_closed]
  · simp [flat, ns_closed, AObj.ro]

end Go.Proofs.YtpbbfgpnoinkjaaGreatDoor
