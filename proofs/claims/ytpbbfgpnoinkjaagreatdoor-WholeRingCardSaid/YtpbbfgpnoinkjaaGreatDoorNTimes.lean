import Derived.Test.YtpbbfgpnoinkjaaGreatDoorPSmallOf
import Derived.Test.YtpbbfgpnoinkjaaGreatDoorRows2
import Derived.Test.YtpbbfgpnoinkjaaGreatDoorLF
set_option linter.unusedVariables false
set_option linter.unusedSimpArgs false
set_option maxRecDepth 100000
set_option linter.unusedVariables false
set_option linter.unusedSimpArgs false
namespace Go.Proofs.YtpbbfgpnoinkjaaGreatDoor
open Go Go.AE Seg
theorem tm_o (xs ys : List Nat) (n c k e : Nat) (hmin : n < 24 ∨ k < 24) (zs : List Nat) (t : Nat) (hc1 : FSp Tryz.prog 5 218 #[(sl 5 n c),(sl 6 k e)] 7 [(5,(cU xs)),(6,(cU ys))] (sl 7 t t) [(5,some (cU xs)),(6,some (cU ys))] [(cU zs)]) (hr : Gets Tryz.prog 5 ⟨Frame.enter Tryz.prog 202 #[(sl 5 n c),(sl 6 k e)] .normal, [], mkH 7 [(5, (cU xs)), (6, (cU ys))]⟩ ⟨Frame.enter Tryz.prog 202 #[(sl 5 n c),(sl 6 k e)] .normal, [], mkH 7 [(5, (cU xs)), (6, (cU ys))]⟩) : CSp Tryz.prog 5 202 #[(sl 5 n c),(sl 6 k e)] (mkH 7 [(5, (cU xs)), (6, (cU ys))]) (sl 7 t t) (mkH 8 [(5, (cU xs)), (6, (cU ys)), (7, (cU zs))]) :=
  seg_fin hmix_ok (hk := hk0) (draw := dr0) (sc := [(11, .op (.rwI (((min n k) : Nat) : Int))), (0, .op (.rwB true)), (6, .call [5,6] (sl 7 t t) [(5,some (cU xs)),(6,some (cU ys))] [(cU zs)]), (3, .stay)]) (next := 8) (l := [(5, (cU xs)), (6, (cU ys)), (7, (cU zs))]) (p := ((if ((k : Nat) : Int) < ((n : Nat) : Int) then ((k : Nat) : Int) else ((n : Nat) : Int)) = (((min n k) : Nat) : Int)) ∧ ((decide ((((min n k) : Nat) : Int) < (24 : Int)) = true) ∧ ((FSp Tryz.prog 5 218 #[(sl 5 n c),(sl 6 k e)] 7 [(5,(cU xs)),(6,(cU ys))] (sl 7 t t) [(5,some (cU xs)),(6,some (cU ys))] [(cU zs)]) ∧ True))) hk0_ok dr0_ok (by kernel_rfl) ⟨(by omega), (by simp only [decide_eq_true_eq, decide_eq_false_iff_not, beq_iff_eq, beq_eq_false_iff_ne, bne_iff_ne, bne_eq_false_iff_eq, ne_eq, gt_iff_lt, ge_iff_le] <;> omega), hc1, trivial⟩ hr

/-- times returns the product in new memory. -/
theorem tm_c (n0 bx byy : Nat) (xs ys : List Nat) (n c k e : Nat) (hmin : n < 24 ∨ k < 24) (hb : 5 ≤ bx ∧ bx < n0 ∧ 5 ≤ byy ∧ byy < n0 ∧ bx ≠ byy) (hlx : Lim xs) (hly : Lim ys) (hc : n ≤ xs.length) (hk : k ≤ ys.length) (hn : n < 70368744177) (hkm : k < 70368744177) :
    ∃ zs t, Lim zs ∧ t ≤ zs.length ∧ t ≤ n + k ∧ (0 < t → zs.getD (t - 1) 0 ≠ 0) ∧ val (zs.take t) = val (xs.take n) * val (ys.take k) ∧
      FSp Tryz.prog 5 202 #[sl bx n c, sl byy k e] n0 [(bx, cU xs), (byy, cU ys)] (sl n0 t t) [(bx, some (cU xs)), (byy, some (cU ys))] [cU zs] := by
  obtain ⟨zs, t, h1, h2, h3, h4, h5, h6⟩ := rw_c 7 5 6 xs ys n c k e (by omega) hlx hly hc hk hn hkm
  exact ⟨zs, t, h1, h2, h3, h4, h5, fsp_flat [bx, byy] [cU xs, cU ys] [cU xs, cU ys] [7] [cU zs] n0 (tm_o xs ys n c k e hmin zs t h6 (Gets.refl _)) rfl rfl rfl (by simp [hb.2.2.2.2]) (by simp; omega) (by omega) (by simp [flat, ns_closed]) (by simp [flat, ns_closed]) (by simp [flat, ns_closed, AObj.ro]) (by simp) (by simp) rfl rfl rfl⟩

theorem mu_o (xs ys : List Nat) (n c k e : Nat) (zs : List Nat) (t : Nat) (hc1 : FSp Tryz.prog 5 202 #[(sl 6 n c),(sl 7 k e)] 9 [(6,(cU xs)),(7,(cU ys))] (sl 9 t t) [(6,some (cU xs)),(7,some (cU ys))] [(cU zs)]) (hr : Gets Tryz.prog 5 ⟨Frame.enter Tryz.prog 179 #[(sl 5 2 2)] .normal, [], mkH 8 [(5, (.cells [(sl 6 n c),(sl 7 k e)] 75 none false)), (6, (cU xs)), (7, (cU ys))]⟩ ⟨Frame.enter Tryz.prog 179 #[(sl 5 2 2)] .normal, [], mkH 8 [(5, (.cells [(sl 6 n c),(sl 7 k e)] 75 none false)), (6, (cU xs)), (7, (cU ys))]⟩) : CSp Tryz.prog 5 179 #[(sl 5 2 2)] (mkH 8 [(5, (.cells [(sl 6 n c),(sl 7 k e)] 75 none false)), (6, (cU xs)), (7, (cU ys))]) (sl 9 t t) (mkH 10 [(5, (.cells [(sl 6 n c),(sl 7 k e)] 75 none false)), (6, (cU xs)), (7, (cU ys)), (9, (cU zs))]) :=
  seg_fin hmix_ok (hk := hk0) (draw := dr0) (sc := [(81, .call [6,7] (sl 9 t t) [(6,some (cU xs)),(7,some (cU ys))] [(cU zs)]), (21, .stay)]) (next := 10) (l := [(5, (.cells [(sl 6 n c),(sl 7 k e)] 75 none false)), (6, (cU xs)), (7, (cU ys)), (9, (cU zs))]) (p := (FSp Tryz.prog 5 202 #[(sl 6 n c),(sl 7 k e)] 9 [(6,(cU xs)),(7,(cU ys))] (sl 9 t t) [(6,some (cU xs)),(7,some (cU ys))] [(cU zs)]) ∧ True) hk0_ok dr0_ok (by kernel_rfl) ⟨hc1, trivial⟩ hr

/-- multiplied, of two factors. -/
theorem mu_c (n0 bf bx byy : Nat) (xs ys : List Nat) (n c k e : Nat) (hmin : n < 24 ∨ k < 24) (hb : 5 ≤ bf ∧ bf < n0 ∧ 5 ≤ bx ∧ bx < n0 ∧ 5 ≤ byy ∧ byy < n0 ∧ bx ≠ byy ∧ bf ≠ bx ∧ bf ≠ byy) (hlx : Lim xs) (hly : Lim ys) (hc : n ≤ xs.length) (hk : k ≤ ys.length) (hn : n < 70368744177) (hkm : k < 70368744177) :
    ∃ zs t, Lim zs ∧ t ≤ zs.length ∧ t ≤ n + k ∧ (0 < t → zs.getD (t - 1) 0 ≠ 0) ∧ val (zs.take t) = val (xs.take n) * val (ys.take k) ∧
      FSp Tryz.prog 5 179 #[sl bf 2 2] n0 [(bf, .cells [sl bx n c, sl byy k e] 75 none false), (bx, cU xs), (byy, cU ys)] (sl n0 t t) [(bf, some (.cells [sl bx n c, sl byy k e] 75 none false)), (bx, some (cU xs)), (byy, some (cU ys))] [cU zs] := by
  obtain ⟨zs, t, h1, h2, h3, h4, h5, h6⟩ := tm_c 9 6 7 xs ys n c k e hmin (by omega) hlx hly hc hk hn hkm
  have e1 : byy ≠ bx := fun h => hb.2.2.2.2.2.2.1 h.symm
  have e2 : bx ≠ bf := fun h => hb.2.2.2.2.2.2.2.1 h.symm
  have e3 : byy ≠ bf := fun h => hb.2.2.2.2.2.2.2.2 h.symm
  exact ⟨zs, t, h1, h2, h3, h4, h5, fsp_move (os' := [.cells [sl bx n c, sl byy k e] 75 none false, cU xs, cU ys]) (ps' := [.cells [sl bx n c, sl byy k e] 75 none false, cU xs, cU ys]) (qs' := [cU zs]) [bf, bx, byy] [.cells [sl 6 n c, sl 7 k e] 75 none false, cU xs, cU ys] [.cells [sl 6 n c, sl 7 k e] 75 none false, cU xs, cU ys] [9] [cU zs] n0 (mu_o xs ys n c k e zs t h6 (Gets.refl _)) rfl (by kernel_rfl) (by kernel_rfl)
    (by simp [hb.2.2.2.2.2.2]) (by simp; omega) (by omega) rfl (by simp [goodO, goodL, good, okI, closedL_good _ _ (ns_closed .u32 xs), closedL_good _ _ (ns_closed .u32 ys), closedL_good _ _ (ns_closed .u32 zs)]) (by simp [goodO, goodL, good, okI, AObj.ro, closedL_good _ _ (ns_closed .u32 xs), closedL_good _ _ (ns_closed .u32 ys), closedL_good _ _ (ns_closed .u32 zs)])
    (by simp only [List.map_cons, List.map_nil, mvO, closedL_mv _ _ (ns_closed .u32 xs), closedL_mv _ _ (ns_closed .u32 ys), closedL_mv _ _ (ns_closed .u32 zs)]; rfl) (by simp only [List.map_cons, List.map_nil, mvO, closedL_mv _ _ (ns_closed .u32 xs), closedL_mv _ _ (ns_closed .u32 ys), closedL_mv _ _ (ns_closed .u32 zs)]; rfl) (by simp only [List.map_cons, List.map_nil, mvO, closedL_mv _ _ (ns_closed .u32 xs), closedL_mv _ _ (ns_closed .u32 ys), closedL_mv _ _ (ns_closed .u32 zs)]) (by simp) (by simp) rfl rfl rfl⟩

end Go.Proofs.YtpbbfgpnoinkjaaGreatDoor
