import Derived.Test.YtjbflfbhfnkmlaaGreatDoorPCnt
import Derived.Test.YtjbflfbhfnkmlaaGreatDoorPTurn
import Derived.Test.YtjbflfbhfnkmlaaGreatDoorLF
import Derived.Test.YtjbflfbhfnkmlaaGreatDoorPToInt
import Derived.Test.YtjbflfbhfnkmlaaGreatDoorLG
set_option linter.unusedVariables false
set_option linter.unusedSimpArgs false
set_option maxRecDepth 100000
namespace Go.Proofs.YtjbflfbhfnkmlaaGreatDoor
open Go Go.AE Seg
noncomputable section
abbrev z_f82_0 (s : Nat) : AObj := .cells [(nI s)] 70 none false
end
theorem pm_next {n s q : Nat} {ps : List Nat} (H : PInv n ps q s) (_h : 0 < q) {s0 : Nat} (_hq : q ≤ s0) : q ≤ s + 1 ∨ s = 1 := by
  rcases Nat.lt_or_ge s q with h | h
  · right
    have h1 := H.one
    rcases Nat.lt_or_ge 1 s with h2 | h2
    · exact absurd (Nat.mod_self s) (H.nodiv s (by omega) h)
    · omega
  · exact .inl (by omega)
noncomputable def pm_h_f (n s p k : Nat) (ps : List Nat) (jc : List Value) (j : List Value) : Frame := ⟨131, List.toArray [(nI n), (pt 5), (.slice none 0 0), (sl 7 k 0), (nI p), (J j 0), (J j 1), (J j 2), (J j 3), (J j 4), (J j 5), (J j 6), (J j 7), (J j 8), (J j 9), (J j 10), (J j 11), (J jc 0), (J j 12), (J j 13), (J j 14), (J j 15), (J j 16), uu], [.code (cd Tryz.f131 [1, 1, 0, 1, 0, 0]), .inLoop (cd Tryz.f131 [1, 1, 0, 1, 0, 0]), .inBlock 0, .code (cd Tryz.f131 [1, 1, 1])], [], .run, .normal, none⟩
noncomputable def pm_h_o (n s p k : Nat) (ps : List Nat) (jc : List Value) : List (Nat × AObj) := [(1, gob1), (5, (z_f82_0 s)), (7, (.cells (fs ps) 9 (some 1) false))]
noncomputable def pm_h (n s p k : Nat) (ps : List Nat) (jc : List Value) (j : List Value) : AS := ⟨pm_h_f n s p k ps jc j, [], mkH 10 (pm_h_o n s p k ps jc)⟩
theorem pm_ina {s0 : AS} (hs0 : s0.h.next = 5) (n : Nat) (hn : n < 1048575) (h1 : 1 < n) (q : Nat) (hq : 0 < q) (hq2 : q < 1048577) (hm : n % q = 0) (hc1 : (FT 170 #[(lI 2),(.func (.func 171) #[] #[(pt 5)])] 6 [(5,(.cells [(nI n)] 70 none false))] (nI q) [(5,some (.cells [(nI n)] 70 none false))] [])) (hr : GT s0 ⟨Frame.enter Tryz.prog 131 #[(nI n)] .normal, [], mkH 5 [(1, gob1)]⟩) : GT s0 (pm_h n (n / q) q 1 ([q]) ([undef]) [(nI n), bT, (nI n), (nI q), (nI (n / q)), (lI 2), (.func (.func 171) #[] #[(pt 5)]), (nI q), (nI n), (nI q), (nI (n % q)), bF, (.slice none 0 0), (nI q), (.string (istr (q : Int))), (sl 6 1 1), (sl 7 1 0)]) := by
  have h1 := hr.trans (sR (sc := [(20, .op (.rwB true)), (9, .call [5] (nI q) [(5,some (.cells [(nI n)] 70 none false))] []), (7, .op (.div (((n % q) : Nat) : Int))), (0, .op (.rwB false)), (14, .call [1] (.string (istr (q : Int))) [] []), (12, .op (.div (((n / q) : Nat) : Int))), (3, .stay)]) (fr1 := ⟨131, List.toArray [(nI n), (pt 5), (.slice none 0 0), (sl 7 1 0), (nI q), (nI n), bT, (nI n), (nI q), (nI (n / q)), (lI 2), (.func (.func 171) #[] #[(pt 5)]), (nI q), (nI n), (nI q), (nI (n % q)), bF, uu, (.slice none 0 0), (nI q), (.string (istr (q : Int))), (sl 6 1 1), (sl 7 1 0), uu], [.code (cd Tryz.f131 [1, 1, 0, 1, 0, 0]), .inLoop (cd Tryz.f131 [1, 1, 0, 1, 0, 0]), .inBlock 0, .code (cd Tryz.f131 [1, 1, 1])], [], .run, .normal, none⟩) (next := 8) (l := [(1, gob1), (5, (.cells [(nI (n / q))] 70 none false)), (7, (.cells [(.string (istr (q : Int)))] 9 (some 1) false))]) (by kernel_rfl) (aI (show decide ((n : Int) > (1 : Int)) = true from (by rw [decide_eq_true_eq]; omega)) (aI hc1 (aI (show (q : Int) ≠ 0 ∧ (Int.tmod (n : Int) (q : Int)) = (((n % q) : Nat) : Int) from ⟨by omega, tmod_nat n q⟩) (aI (show ((((n % q) : Nat) : Int) != (0 : Int)) = false from (mod_z' hm)) (aI (fmt_c 6 (q : Int) (by omega) (by omega)) (aI (show (q : Int) ≠ 0 ∧ IntKind.wrap .i64 (Int.tdiv (n : Int) (q : Int)) = (((n / q) : Nat) : Int) from ⟨by omega, quo_wrap (by omega)⟩) tt)))))))
  exact gets_turn (fr := pm_h_f n (n / q) q 1 ([q]) ([undef]) [(nI n), bT, (nI n), (nI q), (nI (n / q)), (lI 2), (.func (.func 171) #[] #[(pt 5)]), (nI q), (nI n), (nI q), (nI (n % q)), bF, (.slice none 0 0), (nI q), (.string (istr ((q : Nat) : Int))), (sl 6 1 1), (sl 7 1 0)]) (fr1 := ⟨131, List.toArray [(nI n), (pt 5), (.slice none 0 0), (sl 7 1 0), (nI q), (nI n), bT, (nI n), (nI q), (nI (n / q)), (lI 2), (.func (.func 171) #[] #[(pt 5)]), (nI q), (nI n), (nI q), (nI (n % q)), bF, undef, (.slice none 0 0), (nI q), (.string (istr ((q : Nat) : Int))), (sl 6 1 1), (sl 7 1 0), undef], [.code (cd Tryz.f131 [1, 1, 0, 1, 0, 0]), .inLoop (cd Tryz.f131 [1, 1, 0, 1, 0, 0]), .inBlock 0, .code (cd Tryz.f131 [1, 1, 1])], [], .run, .normal, none⟩) (nx1 := 8) (b := 6) (k := 0) (l1 := [(1, gob1), (5, (.cells [(nI (n / q))] 70 none false)), (7, (.cells [(.string (istr ((q : Nat) : Int)))] 9 (some 1) false))]) (l2 := pm_h_o n (n / q) q 1 ([q]) ([undef])) h1 (by kernel_rfl) rfl rfl rfl (by kernel_rfl) (by rw [hs0]; decide) (by rw [hs0]; decide) (by decide) (by decide) (by rfl) (by simp only [pm_h_o, List.map_cons, List.map_nil]; rw [flat_mv _ gob1_flat]; simp only [mvO, closedL_mv _ _ (fs_closed _)]; rfl) (by kernel_rfl)
theorem pm_inb {s0 : AS} (hs0 : s0.h.next = 5) (n : Nat) (hn : n < 1048575) (h1 : 1 < n) (q : Nat) (hq : 0 < q) (hq2 : q < 1048577) (hm : n % q ≠ 0) (hc1 : (FT 170 #[(lI 2),(.func (.func 171) #[] #[(pt 5)])] 6 [(5,(.cells [(nI n)] 70 none false))] (nI q) [(5,some (.cells [(nI n)] 70 none false))] [])) (hr : GT s0 ⟨Frame.enter Tryz.prog 131 #[(nI n)] .normal, [], mkH 5 [(1, gob1)]⟩) : GT s0 (pm_h n (n / n) n 1 ([n]) ([(nI n)]) [(nI n), bT, (nI n), (nI n), (nI (n / n)), (lI 2), (.func (.func 171) #[] #[(pt 5)]), (nI q), (nI n), (nI q), (nI (n % q)), bT, (.slice none 0 0), (nI n), (.string (istr (n : Int))), (sl 6 1 1), (sl 7 1 0)]) := by
  have h1 := hr.trans (sR (sc := [(20, .op (.rwB true)), (9, .call [5] (nI q) [(5,some (.cells [(nI n)] 70 none false))] []), (7, .op (.div (((n % q) : Nat) : Int))), (0, .op (.rwB true)), (17, .call [1] (.string (istr (n : Int))) [] []), (12, .op (.div (((n / n) : Nat) : Int))), (3, .stay)]) (fr1 := ⟨131, List.toArray [(nI n), (pt 5), (.slice none 0 0), (sl 7 1 0), (nI n), (nI n), bT, (nI n), (nI n), (nI (n / n)), (lI 2), (.func (.func 171) #[] #[(pt 5)]), (nI q), (nI n), (nI q), (nI (n % q)), bT, (nI n), (.slice none 0 0), (nI n), (.string (istr (n : Int))), (sl 6 1 1), (sl 7 1 0), uu], [.code (cd Tryz.f131 [1, 1, 0, 1, 0, 0]), .inLoop (cd Tryz.f131 [1, 1, 0, 1, 0, 0]), .inBlock 0, .code (cd Tryz.f131 [1, 1, 1])], [], .run, .normal, none⟩) (next := 8) (l := [(1, gob1), (5, (.cells [(nI (n / n))] 70 none false)), (7, (.cells [(.string (istr (n : Int)))] 9 (some 1) false))]) (by kernel_rfl) (aI (show decide ((n : Int) > (1 : Int)) = true from (by rw [decide_eq_true_eq]; omega)) (aI hc1 (aI (show (q : Int) ≠ 0 ∧ (Int.tmod (n : Int) (q : Int)) = (((n % q) : Nat) : Int) from ⟨by omega, tmod_nat n q⟩) (aI (show ((((n % q) : Nat) : Int) != (0 : Int)) = true from (mod_nz' hm)) (aI (fmt_c 6 (n : Int) (by omega) (by omega)) (aI (show (n : Int) ≠ 0 ∧ IntKind.wrap .i64 (Int.tdiv (n : Int) (n : Int)) = (((n / n) : Nat) : Int) from ⟨by omega, quo_wrap (by omega)⟩) tt)))))))
  exact gets_turn (fr := pm_h_f n (n / n) n 1 ([n]) ([(nI n)]) [(nI n), bT, (nI n), (nI n), (nI (n / n)), (lI 2), (.func (.func 171) #[] #[(pt 5)]), (nI q), (nI n), (nI q), (nI (n % q)), bT, (.slice none 0 0), (nI n), (.string (istr ((n : Nat) : Int))), (sl 6 1 1), (sl 7 1 0)]) (fr1 := ⟨131, List.toArray [(nI n), (pt 5), (.slice none 0 0), (sl 7 1 0), (nI n), (nI n), bT, (nI n), (nI n), (nI (n / n)), (lI 2), (.func (.func 171) #[] #[(pt 5)]), (nI q), (nI n), (nI q), (nI (n % q)), bT, (nI n), (.slice none 0 0), (nI n), (.string (istr ((n : Nat) : Int))), (sl 6 1 1), (sl 7 1 0), undef], [.code (cd Tryz.f131 [1, 1, 0, 1, 0, 0]), .inLoop (cd Tryz.f131 [1, 1, 0, 1, 0, 0]), .inBlock 0, .code (cd Tryz.f131 [1, 1, 1])], [], .run, .normal, none⟩) (nx1 := 8) (b := 6) (k := 0) (l1 := [(1, gob1), (5, (.cells [(nI (n / n))] 70 none false)), (7, (.cells [(.string (istr ((n : Nat) : Int)))] 9 (some 1) false))]) (l2 := pm_h_o n (n / n) n 1 ([n]) ([(nI n)])) h1 (by kernel_rfl) rfl rfl rfl (by kernel_rfl) (by rw [hs0]; decide) (by rw [hs0]; decide) (by decide) (by decide) (by rfl) (by simp only [pm_h_o, List.map_cons, List.map_nil]; rw [flat_mv _ gob1_flat]; simp only [mvO, closedL_mv _ _ (fs_closed _)]; rfl) (by kernel_rfl)
theorem pm_ra {s0 : AS} (hs0 : s0.h.next = 5) (n s p k : Nat) (ps : List Nat) (j jc : List Value) (hjc : FixJ (turnT 6 2) jc) (hs : s < 1048575) (h1 : 1 < s) (hk : ps.length = k) (hk2 : k < 1048576) (q : Nat) (hq : 0 < q) (hq2 : q < 1048577) (hm : s % q = 0) (hc1 : (FT 170 #[(nI p),(.func (.func 171) #[] #[(pt 5)])] 10 [(5,(z_f82_0 s))] (nI q) [(5,some (z_f82_0 s))] [])) (hr : GT s0 (pm_h n s p k ps jc j)) : GT s0 (pm_h n (s / q) q (k + 1) (ps ++ [q]) ([(J jc 0)]) [(nI s), bT, (nI s), (nI q), (nI (s / q)), (nI p), (.func (.func 171) #[] #[(pt 5)]), (nI q), (nI s), (nI q), (nI (s % q)), bF, (sl 9 k 0), (nI q), (.string (istr (q : Int))), (sl 6 1 1), (sl 7 (k + 1) 0)]) := by
  have h1 := hr.trans (sR (sc := [(4, .op (.rwB true)), (9, .call [5] (nI q) [(5,some (z_f82_0 s))] []), (7, .op (.div (((s % q) : Nat) : Int))), (0, .op (.rwB false)), (14, .call [1] (.string (istr (q : Int))) [] []), (5, .op (.appG (k + 1) (fs (ps ++ [q])))), (6, .op (.div (((s / q) : Nat) : Int))), (3, .stay)]) (fr1 := ⟨131, List.toArray [(nI n), (pt 5), (.slice none 0 0), (sl 11 (k + 1) 0), (nI q), (nI s), bT, (nI s), (nI q), (nI (s / q)), (nI p), (.func (.func 171) #[] #[(pt 5)]), (nI q), (nI s), (nI q), (nI (s % q)), bF, (J jc 0), (sl 7 k 0), (nI q), (.string (istr (q : Int))), (sl 10 1 1), (sl 11 (k + 1) 0), uu], [.code (cd Tryz.f131 [1, 1, 0, 1, 0, 0]), .inLoop (cd Tryz.f131 [1, 1, 0, 1, 0, 0]), .inBlock 0, .code (cd Tryz.f131 [1, 1, 1])], [], .run, .normal, none⟩) (next := 12) (l := [(1, gob1), (5, (.cells [(nI (s / q))] 70 none false)), (11, (.cells (fs (ps ++ [q])) 9 (some 1) false))]) (by kernel_rfl) (aI (show decide ((s : Int) > (1 : Int)) = true from (by rw [decide_eq_true_eq]; omega)) (aI hc1 (aI (show (q : Int) ≠ 0 ∧ (Int.tmod (s : Int) (q : Int)) = (((s % q) : Nat) : Int) from ⟨by omega, tmod_nat s q⟩) (aI (show ((((s % q) : Nat) : Int) != (0 : Int)) = false from (mod_z' hm)) (aI (fmt_c 10 (q : Int) (by omega) (by omega)) (aI (show k + 1 = (k + 1) ∧ (k + 1) * 16 ≤ 140737488355328 ∧ (k + 1) ≤ 9223372036854775807 ∧ ((fs ps) : List Value).length = k * 1 ∧ ((fs ps) : List Value) ++ [(.string (istr (q : Int)))] = (fs (ps ++ [q])) from ⟨by omega, by omega, by omega, by rw [fs_length]; omega, fs_snoc _ _⟩) (aI (show (q : Int) ≠ 0 ∧ IntKind.wrap .i64 (Int.tdiv (s : Int) (q : Int)) = (((s / q) : Nat) : Int) from ⟨by omega, quo_wrap (by omega)⟩) tt))))))))
  rw [← J_mv (turnT 6 2) hjc 0] at h1
  exact gets_turn (fr := pm_h_f n (s / q) q (k + 1) (ps ++ [q]) ([(J jc 0)]) [(nI s), bT, (nI s), (nI q), (nI (s / q)), (nI p), (.func (.func 171) #[] #[(pt 5)]), (nI q), (nI s), (nI q), (nI (s % q)), bF, (sl 9 k 0), (nI q), (.string (istr ((q : Nat) : Int))), (sl 6 1 1), (sl 7 (k + 1) 0)]) (fr1 := ⟨131, List.toArray [(nI n), (pt 5), (.slice none 0 0), (sl 11 (k + 1) 0), (nI q), (nI s), bT, (nI s), (nI q), (nI (s / q)), (nI p), (.func (.func 171) #[] #[(pt 5)]), (nI q), (nI s), (nI q), (nI (s % q)), bF, (mv (turnT 6 2) (J jc 0)), (sl 7 k 0), (nI q), (.string (istr ((q : Nat) : Int))), (sl 10 1 1), (sl 11 (k + 1) 0), undef], [.code (cd Tryz.f131 [1, 1, 0, 1, 0, 0]), .inLoop (cd Tryz.f131 [1, 1, 0, 1, 0, 0]), .inBlock 0, .code (cd Tryz.f131 [1, 1, 1])], [], .run, .normal, none⟩) (nx1 := 12) (b := 6) (k := 2) (l1 := [(1, gob1), (5, (.cells [(nI (s / q))] 70 none false)), (11, (.cells (fs (ps ++ [q])) 9 (some 1) false))]) (l2 := pm_h_o n (s / q) q (k + 1) (ps ++ [q]) ([(J jc 0)])) h1 (by kernel_rfl) rfl rfl rfl (by kernel_rfl) (by rw [hs0]; decide) (by rw [hs0]; decide) (by decide) (by decide) (by rfl) (by simp only [pm_h_o, List.map_cons, List.map_nil]; rw [flat_mv _ gob1_flat]; simp only [mvO, closedL_mv _ _ (fs_closed _)]; rfl) (by kernel_rfl)
theorem pm_rb {s0 : AS} (hs0 : s0.h.next = 5) (n s p k : Nat) (ps : List Nat) (j jc : List Value) (hjc : FixJ (turnT 6 2) jc) (hs : s < 1048575) (h1 : 1 < s) (hk : ps.length = k) (hk2 : k < 1048576) (q : Nat) (hq : 0 < q) (hq2 : q < 1048577) (hm : s % q ≠ 0) (hc1 : (FT 170 #[(nI p),(.func (.func 171) #[] #[(pt 5)])] 10 [(5,(z_f82_0 s))] (nI q) [(5,some (z_f82_0 s))] [])) (hr : GT s0 (pm_h n s p k ps jc j)) : GT s0 (pm_h n (s / s) s (k + 1) (ps ++ [s]) ([(nI s)]) [(nI s), bT, (nI s), (nI s), (nI (s / s)), (nI p), (.func (.func 171) #[] #[(pt 5)]), (nI q), (nI s), (nI q), (nI (s % q)), bT, (sl 9 k 0), (nI s), (.string (istr (s : Int))), (sl 6 1 1), (sl 7 (k + 1) 0)]) := by
  have h1 := hr.trans (sR (sc := [(4, .op (.rwB true)), (9, .call [5] (nI q) [(5,some (z_f82_0 s))] []), (7, .op (.div (((s % q) : Nat) : Int))), (0, .op (.rwB true)), (17, .call [1] (.string (istr (s : Int))) [] []), (5, .op (.appG (k + 1) (fs (ps ++ [s])))), (6, .op (.div (((s / s) : Nat) : Int))), (3, .stay)]) (fr1 := ⟨131, List.toArray [(nI n), (pt 5), (.slice none 0 0), (sl 11 (k + 1) 0), (nI s), (nI s), bT, (nI s), (nI s), (nI (s / s)), (nI p), (.func (.func 171) #[] #[(pt 5)]), (nI q), (nI s), (nI q), (nI (s % q)), bT, (nI s), (sl 7 k 0), (nI s), (.string (istr (s : Int))), (sl 10 1 1), (sl 11 (k + 1) 0), uu], [.code (cd Tryz.f131 [1, 1, 0, 1, 0, 0]), .inLoop (cd Tryz.f131 [1, 1, 0, 1, 0, 0]), .inBlock 0, .code (cd Tryz.f131 [1, 1, 1])], [], .run, .normal, none⟩) (next := 12) (l := [(1, gob1), (5, (.cells [(nI (s / s))] 70 none false)), (11, (.cells (fs (ps ++ [s])) 9 (some 1) false))]) (by kernel_rfl) (aI (show decide ((s : Int) > (1 : Int)) = true from (by rw [decide_eq_true_eq]; omega)) (aI hc1 (aI (show (q : Int) ≠ 0 ∧ (Int.tmod (s : Int) (q : Int)) = (((s % q) : Nat) : Int) from ⟨by omega, tmod_nat s q⟩) (aI (show ((((s % q) : Nat) : Int) != (0 : Int)) = true from (mod_nz' hm)) (aI (fmt_c 10 (s : Int) (by omega) (by omega)) (aI (show k + 1 = (k + 1) ∧ (k + 1) * 16 ≤ 140737488355328 ∧ (k + 1) ≤ 9223372036854775807 ∧ ((fs ps) : List Value).length = k * 1 ∧ ((fs ps) : List Value) ++ [(.string (istr (s : Int)))] = (fs (ps ++ [s])) from ⟨by omega, by omega, by omega, by rw [fs_length]; omega, fs_snoc _ _⟩) (aI (show (s : Int) ≠ 0 ∧ IntKind.wrap .i64 (Int.tdiv (s : Int) (s : Int)) = (((s / s) : Nat) : Int) from ⟨by omega, quo_wrap (by omega)⟩) tt))))))))
  exact gets_turn (fr := pm_h_f n (s / s) s (k + 1) (ps ++ [s]) ([(nI s)]) [(nI s), bT, (nI s), (nI s), (nI (s / s)), (nI p), (.func (.func 171) #[] #[(pt 5)]), (nI q), (nI s), (nI q), (nI (s % q)), bT, (sl 9 k 0), (nI s), (.string (istr ((s : Nat) : Int))), (sl 6 1 1), (sl 7 (k + 1) 0)]) (fr1 := ⟨131, List.toArray [(nI n), (pt 5), (.slice none 0 0), (sl 11 (k + 1) 0), (nI s), (nI s), bT, (nI s), (nI s), (nI (s / s)), (nI p), (.func (.func 171) #[] #[(pt 5)]), (nI q), (nI s), (nI q), (nI (s % q)), bT, (nI s), (sl 7 k 0), (nI s), (.string (istr ((s : Nat) : Int))), (sl 10 1 1), (sl 11 (k + 1) 0), undef], [.code (cd Tryz.f131 [1, 1, 0, 1, 0, 0]), .inLoop (cd Tryz.f131 [1, 1, 0, 1, 0, 0]), .inBlock 0, .code (cd Tryz.f131 [1, 1, 1])], [], .run, .normal, none⟩) (nx1 := 12) (b := 6) (k := 2) (l1 := [(1, gob1), (5, (.cells [(nI (s / s))] 70 none false)), (11, (.cells (fs (ps ++ [s])) 9 (some 1) false))]) (l2 := pm_h_o n (s / s) s (k + 1) (ps ++ [s]) ([(nI s)])) h1 (by kernel_rfl) rfl rfl rfl (by kernel_rfl) (by rw [hs0]; decide) (by rw [hs0]; decide) (by decide) (by decide) (by rfl) (by simp only [pm_h_o, List.map_cons, List.map_nil]; rw [flat_mv _ gob1_flat]; simp only [mvO, closedL_mv _ _ (fs_closed _)]; rfl) (by kernel_rfl)
theorem pm_o (n s p k : Nat) (ps : List Nat) (j jc : List Value) (h1 : ¬ 1 < s) (hr : GT ⟨Frame.enter Tryz.prog 131 #[(nI n)] .normal, [], mkH 5 [(1, gob1)]⟩ (pm_h n s p k ps jc j)) : CT 131 #[(nI n)] (mkH 5 [(1, gob1)]) (sl 7 k 0) (mkH 10 [(1, gob1), (7, (.cells (fs ps) 9 (some 1) false))]) :=
  sF (sc := [(4, .op (.rwB false)), (9, .stay)]) (by kernel_rfl) (aI (dF (p := (s : Int) > (1 : Int)) (by omega)) tt) hr
theorem pm_one (n : Nat) (h1 : ¬ 1 < n) : CT 131 #[(nI n)] (mkH 5 [(1, gob1)]) (.slice none 0 0) (mkH 6 [(1, gob1)]) :=
  sF (sc := [(20, .op (.rwB false)), (9, .stay)]) (by kernel_rfl) (aI (dF (p := (n : Int) > (1 : Int)) (by omega)) tt) (Gets.refl _)
theorem pm_loop {n : Nat} (hn : n < 1048575) : ∀ (fuel s p : Nat) (ps : List Nat) (jc j : List Value), s ≤ fuel → PInv n ps p s → s < 1048575 → p < 1048576 → p ≤ s + 1 ∨ s = 1 → FixJ (turnT 6 2) jc → GT ⟨Frame.enter Tryz.prog 131 #[(nI n)] .normal, [], mkH 5 [(1, gob1)]⟩ (pm_h n s p ps.length ps jc j) →
    ∃ ps', lprod ps' = n ∧ (∀ x ∈ ps', Pr x) ∧ ps'.Pairwise (· ≤ ·) ∧ ∃ nx, CT 131 #[(nI n)] (mkH 5 [(1, gob1)]) (sl 7 ps'.length 0) (mkH nx [(1, gob1), (7, .cells (fs ps') 9 (some 1) false)]) := by
  intro fuel
  induction fuel with
  | zero =>
    intro s p ps jc j hf H _ _ _ _ _
    have := H.one
    omega
  | succ fuel ih =>
    intro s p ps jc j hf H hs hp hps hj hr
    have hlen := (lprod_len (ps := ps) fun x hx => (H.pr x hx).1)
    have hle : lprod ps ≤ n := by
      have := Nat.mul_le_mul_left (lprod ps) H.one
      rw [H.prod] at this
      omega
    by_cases h1 : 1 < s
    · obtain ⟨q, g1, g2, g3, g4, T⟩ := le_c 10 5 s p (by omega) (by omega) (by have := H.two; omega) (by omega)
      have hp2 := H.two
      by_cases hm : s % q = 0
      · have r := pm_ra (s0 := ⟨Frame.enter Tryz.prog 131 #[(nI n)] .normal, [], mkH 5 [(1, gob1)]⟩) rfl n s p ps.length ps j jc hj hs h1 rfl (by omega) q (by omega) (by omega) hm T hr
        obtain ⟨H', hqs⟩ := pinv_div H g1 hm g4
        rw [show ps.length + 1 = (ps ++ [q]).length by rw [List.length_append]; rfl] at r
        have hlt : s / q < s := Nat.div_lt_self (by omega) (by omega)
        exact ih _ _ _ _ _ (by omega) H' (by omega) (by omega) (pm_next H' (by omega) hqs) (by first | exact hj | rfl | (unfold FixJ; simp [mvL, J_mv _ hj, mv])) r
      · have hlt : s < q * q := g3.resolve_left hm
        have r := pm_rb (s0 := ⟨Frame.enter Tryz.prog 131 #[(nI n)] .normal, [], mkH 5 [(1, gob1)]⟩) rfl n s p ps.length ps j jc hj hs h1 rfl (by omega) q (by omega) (by omega) hm T hr
        have H' := pinv_last H h1 hlt g4
        rw [show ps.length + 1 = (ps ++ [s]).length by rw [List.length_append]; rfl] at r
        have hss : s / s = 1 := Nat.div_self (by omega)
        exact ih _ _ _ _ _ (by omega) H' (by omega) (by omega) (.inr hss) (by first | exact hj | rfl | (unfold FixJ; simp [mvL, J_mv _ hj, mv])) r
    · have hs1 : s = 1 := by have := H.one; omega
      refine ⟨ps, ?_, H.pr, H.asc, _, pm_o n s p ps.length ps j jc h1 hr⟩
      have := H.prod
      rw [hs1, Nat.mul_one] at this
      exact this
theorem pm_c (n : Nat) (hn : n < 1048575) (h1 : 1 < n) :
    ∃ ps, lprod ps = n ∧ (∀ x ∈ ps, Pr x) ∧ ps.Pairwise (· ≤ ·) ∧ ∀ n0, 5 ≤ n0 →
      FT 131 #[(nI n)] n0 [(1, gob1)] (sl n0 ps.length 0) [(1, some gob1)] [.cells (fs ps) 9 (some 1) false] := by
  obtain ⟨q, g1, g2, g3, g4, T⟩ := le_c 6 5 n 2 (by omega) (by omega) (by omega) (by omega)
  have H0 := pinv_start (n := n) (by omega)
  by_cases hm : n % q = 0
  · have r := pm_ina (s0 := ⟨Frame.enter Tryz.prog 131 #[(nI n)] .normal, [], mkH 5 [(1, gob1)]⟩) rfl n hn h1 q (by omega) (by omega) hm T (Gets.refl _)
    obtain ⟨H', hqs⟩ := pinv_div H0 g1 hm g4
    have hlt : n / q < n := Nat.div_lt_self (by omega) (by omega)
    obtain ⟨ps, e1, e2, e3, nx, S⟩ := pm_loop hn _ _ _ [q] _ _ (Nat.le_refl _) H' (by omega) (by omega) (pm_next H' (by omega) hqs) (by rfl) r
    exact ⟨ps, e1, e2, e3, fun n0 hG => fsp_glob [(1, gob1)] [] [] [] [7] [.cells (fs ps) 9 (some 1) false] n0 (S) (by decide +kernel) (by rfl) rfl (by rfl) (by kernel_rfl) (by simp) (by simp) hG rfl rfl (by simp [flat, fs_closed, AObj.ro]) (by simp) (by simp) rfl rfl rfl⟩
  · have hlt : n < q * q := g3.resolve_left hm
    have r := pm_inb (s0 := ⟨Frame.enter Tryz.prog 131 #[(nI n)] .normal, [], mkH 5 [(1, gob1)]⟩) rfl n hn h1 q (by omega) (by omega) hm T (Gets.refl _)
    have H' := pinv_last H0 h1 hlt g4
    have hss : n / n = 1 := Nat.div_self (by omega)
    obtain ⟨ps, e1, e2, e3, nx, S⟩ := pm_loop hn _ _ _ [n] _ _ (Nat.le_refl _) H' (by omega) (by omega) (.inr hss) (by rfl) r
    exact ⟨ps, e1, e2, e3, fun n0 hG => fsp_glob [(1, gob1)] [] [] [] [7] [.cells (fs ps) 9 (some 1) false] n0 (S) (by decide +kernel) (by rfl) rfl (by rfl) (by kernel_rfl) (by simp) (by simp) hG rfl rfl (by simp [flat, fs_closed, AObj.ro]) (by simp) (by simp) rfl rfl rfl⟩
theorem pm_1 (n0 : Nat) (hG : 5 ≤ n0) : FT 131 #[.int .i64 (((1 : Nat) : Nat) : Int)] n0 [(1, gob1)] (.slice none 0 0) [(1, some gob1)] [] :=
  fsp_glob [(1, gob1)] [] [] [] [] [] n0 (pm_one 1 (by omega)) (by decide +kernel) (by rfl) rfl (by rfl) rfl (by simp) (by simp) hG rfl rfl rfl (by simp) (by simp) rfl rfl rfl
theorem istr_ne0 {n : Nat} (h : 0 < n) : ((istr ((n : Nat) : Int)).toList == (Seg.bts [48]).toList) = false := by
  rw [beq_eq_false_iff_ne, ByteArray.toList_eq, ByteArray.toList_eq]
  intro q
  rw [istr_nn] at q
  have h1 : (digs n).getD 0 0 ≠ 0 := digs_head n h
  have h2 := digs_dig n
  revert h1 h2 q
  cases digs n with
  | nil => intro q; cases q
  | cons d ds =>
    intro q h1 h2
    have q0 : some (UInt8.ofNat (48 + d)) = some (UInt8.ofNat 48) := congrArg (fun l : List UInt8 => l[0]?) q
    injection q0 with q0
    exact byte_inj (h2 d (List.mem_cons_self ..)) (by decide) (by have : d ≠ 0 := h1; omega) q0
theorem fa_o (sa sd : ByteArray) (n : Nat) (hn : n ≤ 1000000) (hk : ∀ n0, 5 ≤ n0 → FT 145 #[.string sa] n0 [] (lI 2) [] []) (hso : ∀ n0, 5 ≤ n0 → FT 128 #[.string sa] n0 [] (.tuple #[.bool false, .string sd]) [] []) (hsm : ∀ n0, 5 ≤ n0 → FT 109 #[.string sa] n0 [] (nI n) [] []) (hz : (sa.toList == (Seg.bts [48]).toList) = false) (hpm : ∀ n0, 5 ≤ n0 → FT 131 #[.int .i64 (n : Int)] n0 [(1, gob1)] (.slice none 0 0) [(1, some gob1)] []) : CT 81 #[(.string sa)] (mkH 5 [(1, gob1)]) (.slice none 0 0) (mkH 6 [(1, gob1)]) :=
  sF (sc := [(44, .call [] (lI 2) [] []), (53, .call [] (.tuple #[bF,(.string sd)]) [] []), (24, .op (.rwB false)), (11, .call [] (nI n) [] []), (0, .op (.rwB false)), (7, .call [] (nI n) [] []), (0, .call [1] (.slice none 0 0) [(1,some gob1)] []), (3, .stay)]) (by kernel_rfl) (aI (hk 6 (by omega)) (aI (hso 6 (by omega)) (aI hz (aI (hsm 6 (by omega)) (aI (dF (p := (n : Int) > (1000000 : Int)) (by omega)) (aI (hsm 6 (by omega)) (aI (hpm 6 (by omega)) tt))))))) (Gets.refl _)
theorem fa_oc (n0 : Nat) (hG : 5 ≤ n0) (sa sd : ByteArray) (n : Nat) (hn : n ≤ 1000000) (hk : ∀ n0, 5 ≤ n0 → FT 145 #[.string sa] n0 [] (lI 2) [] []) (hso : ∀ n0, 5 ≤ n0 → FT 128 #[.string sa] n0 [] (.tuple #[.bool false, .string sd]) [] []) (hsm : ∀ n0, 5 ≤ n0 → FT 109 #[.string sa] n0 [] (nI n) [] []) (hz : (sa.toList == (Seg.bts [48]).toList) = false) (hpm : ∀ n0, 5 ≤ n0 → FT 131 #[.int .i64 ((n : Nat) : Int)] n0 [(1, gob1)] (.slice none 0 0) [(1, some gob1)] []) : FT 81 #[.string sa] n0 [(1, gob1)] (.slice none 0 0) [(1, some gob1)] [] :=
  fsp_glob [(1, gob1)] [] [] [] [] [] n0 (fa_o sa sd n hn hk hso hsm hz hpm) (by decide +kernel) (by rfl) rfl (by rfl) rfl (by simp) (by simp) hG rfl rfl rfl (by simp) (by simp) rfl rfl rfl
theorem Fa_o (sa : ByteArray) (hfa : ∀ n0, 5 ≤ n0 → FT 81 #[.string sa] n0 [(1, gob1)] (.slice none 0 0) [(1, some gob1)] []) : CT 32 #[(.string sa)] (mkH 5 [(1, gob1)]) (.tuple #[(.slice none 0 0),(lI 0)]) (mkH 7 [(1, gob1)]) :=
  sF (sc := [(31, .call [1] (.slice none 0 0) [(1,some gob1)] []), (30, .stay)]) (by kernel_rfl) (aI (hfa 7 (by omega)) tt) (Gets.refl _)
theorem Fa_1 (n0 n : Nat) (hn1 : n = 1) (hG : 5 ≤ n0) : FT 32 #[.string (istr ((n : Nat) : Int))] n0 [(1, gob1)] (.tuple #[.slice none 0 0, .int .i64 (.ofNat 0)]) [(1, some gob1)] [] := by
  have hd : (digs ((n : Nat) : Int).natAbs).length ≤ 18 := by rw [Int.natAbs_natCast, hn1, digs_small (by decide)]; decide
  have hp : ∀ n0, 5 ≤ n0 → FT 131 #[.int .i64 ((n : Nat) : Int)] n0 [(1, gob1)] (.slice none 0 0) [(1, some gob1)] [] := fun n0 h => by rw [hn1]; exact pm_1 n0 h
  exact fsp_glob [(1, gob1)] [] [] [] [] [] n0 (Fa_o _ fun n0 h => fa_oc n0 h (istr (n : Int)) (dstr (digs n)) n (by omega) (fun n0 h => by have := kis_i n0 (n : Int) h hd; exact this) (fun n0 h => by have := so_pc n0 (digs n) h (digs_dig n) (digs_len_pos n); rw [← istr_nn] at this; exact this) (fun n0 h => sm_i n0 (n : Int) h hd) (istr_ne0 (by omega)) hp) (by decide +kernel) (by rfl) rfl (by rfl) rfl (by simp) (by simp) hG rfl rfl rfl (by simp) (by simp) rfl rfl rfl
theorem fa_m (sa sd : ByteArray) (n : Nat) (hn : n ≤ 1000000) (hk : ∀ n0, 5 ≤ n0 → FT 145 #[.string sa] n0 [] (lI 2) [] []) (hso : ∀ n0, 5 ≤ n0 → FT 128 #[.string sa] n0 [] (.tuple #[.bool false, .string sd]) [] []) (hsm : ∀ n0, 5 ≤ n0 → FT 109 #[.string sa] n0 [] (nI n) [] []) (hz : (sa.toList == (Seg.bts [48]).toList) = false) (k : Nat) (ps : List Nat) (hpm : ∀ n0, 5 ≤ n0 → FT 131 #[.int .i64 (n : Int)] n0 [(1, gob1)] (sl n0 k 0) [(1, some gob1)] [.cells (fs ps) 9 (some 1) false]) : CT 81 #[(.string sa)] (mkH 5 [(1, gob1)]) (sl 6 k 0) (mkH 7 [(1, gob1), (6, (.cells (fs ps) 9 (some 1) false))]) :=
  sF (sc := [(44, .call [] (lI 2) [] []), (53, .call [] (.tuple #[bF,(.string sd)]) [] []), (24, .op (.rwB false)), (11, .call [] (nI n) [] []), (0, .op (.rwB false)), (7, .call [] (nI n) [] []), (0, .call [1] (sl 6 k 0) [(1,some gob1)] [(.cells (fs ps) 9 (some 1) false)]), (3, .stay)]) (by kernel_rfl) (aI (hk 6 (by omega)) (aI (hso 6 (by omega)) (aI hz (aI (hsm 6 (by omega)) (aI (dF (p := (n : Int) > (1000000 : Int)) (by omega)) (aI (hsm 6 (by omega)) (aI (hpm 6 (by omega)) tt))))))) (Gets.refl _)
theorem fa_mc (n0 : Nat) (hG : 5 ≤ n0) (sa sd : ByteArray) (n : Nat) (hn : n ≤ 1000000) (hk : ∀ n0, 5 ≤ n0 → FT 145 #[.string sa] n0 [] (lI 2) [] []) (hso : ∀ n0, 5 ≤ n0 → FT 128 #[.string sa] n0 [] (.tuple #[.bool false, .string sd]) [] []) (hsm : ∀ n0, 5 ≤ n0 → FT 109 #[.string sa] n0 [] (nI n) [] []) (hz : (sa.toList == (Seg.bts [48]).toList) = false) (k : Nat) (ps : List Nat) (hpm : ∀ n0, 5 ≤ n0 → FT 131 #[.int .i64 ((n : Nat) : Int)] n0 [(1, gob1)] (sl n0 k 0) [(1, some gob1)] [.cells (fs ps) 9 (some 1) false]) : FT 81 #[.string sa] n0 [(1, gob1)] (sl n0 k 0) [(1, some gob1)] [.cells (fs ps) 9 (some 1) false] :=
  fsp_glob [(1, gob1)] [] [] [] [6] [.cells (fs ps) 9 (some 1) false] n0 (fa_m sa sd n hn hk hso hsm hz k ps hpm) (by decide +kernel) (by rfl) rfl (by rfl) (by kernel_rfl) (by simp) (by simp) hG rfl rfl (by simp [flat, fs_closed, AObj.ro]) (by simp) (by simp) rfl rfl rfl
theorem Fa_m (sa : ByteArray) (k : Nat) (ps : List Nat) (hfa : ∀ n0, 5 ≤ n0 → FT 81 #[.string sa] n0 [(1, gob1)] (sl n0 k 0) [(1, some gob1)] [.cells (fs ps) 9 (some 1) false]) : CT 32 #[(.string sa)] (mkH 5 [(1, gob1)]) (.tuple #[(sl 7 k 0),(lI 0)]) (mkH 8 [(1, gob1), (7, (.cells (fs ps) 9 (some 1) false))]) :=
  sF (sc := [(31, .call [1] (sl 7 k 0) [(1,some gob1)] [(.cells (fs ps) 9 (some 1) false)]), (30, .stay)]) (by kernel_rfl) (aI (hfa 7 (by omega)) tt) (Gets.refl _)
theorem Fa_c (n : Nat) (h1 : 1 < n) (hn : n ≤ 1000000) : ∃ ps, lprod ps = n ∧ (∀ x ∈ ps, Pr x) ∧ ps.Pairwise (· ≤ ·) ∧ ∀ n0, 5 ≤ n0 →
    FT 32 #[.string (istr ((n : Nat) : Int))] n0 [(1, gob1)] (.tuple #[sl n0 ps.length 0, .int .i64 (.ofNat 0)]) [(1, some gob1)] [.cells (fs ps) 9 (some 1) false] := by
  have hd : (digs ((n : Nat) : Int).natAbs).length ≤ 18 := by
    have h4 : ndig ((n : Nat) : Int).natAbs ≤ 7 := ndig_lt 7 _ (by rw [Int.natAbs_natCast]; omega)
    have := digs_len_le h4 (by decide)
    omega
  obtain ⟨ps, e1, e2, e3, hp⟩ := pm_c n (by omega) h1
  exact ⟨ps, e1, e2, e3, fun n0 hG => fsp_glob [(1, gob1)] [] [] [] [7] [.cells (fs ps) 9 (some 1) false] n0 (Fa_m _ _ _ fun n0 h => fa_mc n0 h (istr (n : Int)) (dstr (digs n)) n hn (fun n0 h => by have := kis_i n0 (n : Int) h hd; exact this) (fun n0 h => by have := so_pc n0 (digs n) h (digs_dig n) (digs_len_pos n); rw [← istr_nn] at this; exact this) (fun n0 h => sm_i n0 (n : Int) h hd) (istr_ne0 (by omega)) ps.length ps hp) (by decide +kernel) (by rfl) rfl (by rfl) (by kernel_rfl) (by simp) (by simp) hG rfl rfl (by simp [flat, fs_closed, AObj.ro]) (by simp) (by simp) rfl rfl rfl⟩
theorem fx0 (s : ByteArray) (hk : ∀ n0, 5 ≤ n0 → FT 145 #[.string s] n0 [] (lI 0) [] []) : CT 32 #[(.string s)] (mkH 5 [(0, Cn.gob0), (1, gob1), (2, Cn.gob2), (3, Cn.gob3)]) (.tuple #[(.slice none 0 0),(lI 1)]) (mkH 8 [(0, Cn.gob0), (1, gob1), (2, Cn.gob2), (3, Cn.gob3)]) :=
  sF (sc := [(76, .call [] (lI 0) [] []), (39, .call [0,1,2,3] (lI 1) [(0,some Cn.gob0),(1,some gob1),(2,some Cn.gob2),(3,some Cn.gob3)] []), (11, .stay)]) (by kernel_rfl) (aI (hk 8 (by omega)) (aI (code_c 1 8) tt)) (Gets.refl _)
theorem fx0c (n0 : Nat) (s : ByteArray) (hk : ∀ n0, 5 ≤ n0 → FT 145 #[.string s] n0 [] (lI 0) [] []) : FT 32 #[(.string s)] n0 [(0, Cn.gob0), (1, gob1), (2, Cn.gob2), (3, Cn.gob3)] (.tuple #[(.slice none 0 0),(lI 1)]) [(0, some Cn.gob0), (1, some gob1), (2, some Cn.gob2), (3, some Cn.gob3)] [] := by
  have h := fsp_of_tell (tell_of_csp (by kernel_rfl) (by kernel_rfl) (fx0 s hk)) glOK2 (by kernel_rfl) (by kernel_rfl) n0
  exact h
theorem fx1 (s : ByteArray) (hk : ∀ n0, 5 ≤ n0 → FT 145 #[.string s] n0 [] (lI 1) [] []) : CT 32 #[(.string s)] (mkH 5 [(0, Cn.gob0), (1, gob1), (2, Cn.gob2), (3, Cn.gob3)]) (.tuple #[(.slice none 0 0),(lI 13)]) (mkH 8 [(0, Cn.gob0), (1, gob1), (2, Cn.gob2), (3, Cn.gob3)]) :=
  sF (sc := [(76, .call [] (lI 1) [] []), (45, .call [0,1,2,3] (lI 13) [(0,some Cn.gob0),(1,some gob1),(2,some Cn.gob2),(3,some Cn.gob3)] []), (11, .stay)]) (by kernel_rfl) (aI (hk 8 (by omega)) (aI (code_c 13 8) tt)) (Gets.refl _)
theorem fx1c (n0 : Nat) (s : ByteArray) (hk : ∀ n0, 5 ≤ n0 → FT 145 #[.string s] n0 [] (lI 1) [] []) : FT 32 #[(.string s)] n0 [(0, Cn.gob0), (1, gob1), (2, Cn.gob2), (3, Cn.gob3)] (.tuple #[(.slice none 0 0),(lI 13)]) [(0, some Cn.gob0), (1, some gob1), (2, some Cn.gob2), (3, some Cn.gob3)] [] := by
  have h := fsp_of_tell (tell_of_csp (by kernel_rfl) (by kernel_rfl) (fx1 s hk)) glOK2 (by kernel_rfl) (by kernel_rfl) n0
  exact h
theorem fx2m (s : ByteArray) (hk : ∀ n0, 5 ≤ n0 → FT 145 #[.string s] n0 [] (lI 2) [] []) (sd : ByteArray) (hso : ∀ n0, 5 ≤ n0 → FT 128 #[.string s] n0 [] (.tuple #[.bool true, .string sd]) [] []) : CT 32 #[(.string s)] (mkH 5 [(0, Cn.gob0), (1, gob1), (2, Cn.gob2), (3, Cn.gob3)]) (.tuple #[(.slice none 0 0),(lI 2)]) (mkH 8 [(0, Cn.gob0), (1, gob1), (2, Cn.gob2), (3, Cn.gob3)]) :=
  sF (sc := [(76, .call [] (lI 2) [] []), (53, .call [] (.tuple #[bT,(.string sd)]) [] []), (52, .call [0,1,2,3] (lI 2) [(0,some Cn.gob0),(1,some gob1),(2,some Cn.gob2),(3,some Cn.gob3)] []), (11, .stay)]) (by kernel_rfl) (aI (hk 8 (by omega)) (aI (hso 8 (by omega)) (aI (code_c 2 8) tt))) (Gets.refl _)
theorem fx2mc (n0 : Nat) (s : ByteArray) (hk : ∀ n0, 5 ≤ n0 → FT 145 #[.string s] n0 [] (lI 2) [] []) (sd : ByteArray) (hso : ∀ n0, 5 ≤ n0 → FT 128 #[.string s] n0 [] (.tuple #[.bool true, .string sd]) [] []) : FT 32 #[(.string s)] n0 [(0, Cn.gob0), (1, gob1), (2, Cn.gob2), (3, Cn.gob3)] (.tuple #[(.slice none 0 0),(lI 2)]) [(0, some Cn.gob0), (1, some gob1), (2, some Cn.gob2), (3, some Cn.gob3)] [] := by
  have h := fsp_of_tell (tell_of_csp (by kernel_rfl) (by kernel_rfl) (fx2m s hk sd hso)) glOK2 (by kernel_rfl) (by kernel_rfl) n0
  exact h
theorem fx2z (s : ByteArray) (hk : ∀ n0, 5 ≤ n0 → FT 145 #[.string s] n0 [] (lI 2) [] []) (sd : ByteArray) (hso : ∀ n0, 5 ≤ n0 → FT 128 #[.string s] n0 [] (.tuple #[.bool false, .string sd]) [] []) (hz : (s.toList == (bts [48]).toList) = true) : CT 32 #[(.string s)] (mkH 5 [(0, Cn.gob0), (1, gob1), (2, Cn.gob2), (3, Cn.gob3)]) (.tuple #[(.slice none 0 0),(lI 2)]) (mkH 8 [(0, Cn.gob0), (1, gob1), (2, Cn.gob2), (3, Cn.gob3)]) :=
  sF (sc := [(76, .call [] (lI 2) [] []), (53, .call [] (.tuple #[bF,(.string sd)]) [] []), (24, .op (.rwB true)), (27, .call [0,1,2,3] (lI 2) [(0,some Cn.gob0),(1,some gob1),(2,some Cn.gob2),(3,some Cn.gob3)] []), (11, .stay)]) (by kernel_rfl) (aI (hk 8 (by omega)) (aI (hso 8 (by omega)) (aI hz (aI (code_c 2 8) tt)))) (Gets.refl _)
theorem fx2zc (n0 : Nat) (s : ByteArray) (hk : ∀ n0, 5 ≤ n0 → FT 145 #[.string s] n0 [] (lI 2) [] []) (sd : ByteArray) (hso : ∀ n0, 5 ≤ n0 → FT 128 #[.string s] n0 [] (.tuple #[.bool false, .string sd]) [] []) (hz : (s.toList == (bts [48]).toList) = true) : FT 32 #[(.string s)] n0 [(0, Cn.gob0), (1, gob1), (2, Cn.gob2), (3, Cn.gob3)] (.tuple #[(.slice none 0 0),(lI 2)]) [(0, some Cn.gob0), (1, some gob1), (2, some Cn.gob2), (3, some Cn.gob3)] [] := by
  have h := fsp_of_tell (tell_of_csp (by kernel_rfl) (by kernel_rfl) (fx2z s hk sd hso hz)) glOK2 (by kernel_rfl) (by kernel_rfl) n0
  exact h
theorem fx3m (s : ByteArray) (hk : ∀ n0, 5 ≤ n0 → FT 145 #[.string s] n0 [] (lI 3) [] []) (sd : ByteArray) (hso : ∀ n0, 5 ≤ n0 → FT 128 #[.string s] n0 [] (.tuple #[.bool true, .string sd]) [] []) : CT 32 #[(.string s)] (mkH 5 [(0, Cn.gob0), (1, gob1), (2, Cn.gob2), (3, Cn.gob3)]) (.tuple #[(.slice none 0 0),(lI 2)]) (mkH 8 [(0, Cn.gob0), (1, gob1), (2, Cn.gob2), (3, Cn.gob3)]) :=
  sF (sc := [(76, .call [] (lI 3) [] []), (53, .call [] (.tuple #[bT,(.string sd)]) [] []), (52, .call [0,1,2,3] (lI 2) [(0,some Cn.gob0),(1,some gob1),(2,some Cn.gob2),(3,some Cn.gob3)] []), (11, .stay)]) (by kernel_rfl) (aI (hk 8 (by omega)) (aI (hso 8 (by omega)) (aI (code_c 2 8) tt))) (Gets.refl _)
theorem fx3mc (n0 : Nat) (s : ByteArray) (hk : ∀ n0, 5 ≤ n0 → FT 145 #[.string s] n0 [] (lI 3) [] []) (sd : ByteArray) (hso : ∀ n0, 5 ≤ n0 → FT 128 #[.string s] n0 [] (.tuple #[.bool true, .string sd]) [] []) : FT 32 #[(.string s)] n0 [(0, Cn.gob0), (1, gob1), (2, Cn.gob2), (3, Cn.gob3)] (.tuple #[(.slice none 0 0),(lI 2)]) [(0, some Cn.gob0), (1, some gob1), (2, some Cn.gob2), (3, some Cn.gob3)] [] := by
  have h := fsp_of_tell (tell_of_csp (by kernel_rfl) (by kernel_rfl) (fx3m s hk sd hso)) glOK2 (by kernel_rfl) (by kernel_rfl) n0
  exact h
theorem fx3p (s : ByteArray) (hk : ∀ n0, 5 ≤ n0 → FT 145 #[.string s] n0 [] (lI 3) [] []) (sd : ByteArray) (hso : ∀ n0, 5 ≤ n0 → FT 128 #[.string s] n0 [] (.tuple #[.bool false, .string sd]) [] []) (hz : (s.toList == (bts [48]).toList) = false) : CT 32 #[(.string s)] (mkH 5 [(0, Cn.gob0), (1, gob1), (2, Cn.gob2), (3, Cn.gob3)]) (.tuple #[(.slice none 0 0),(lI 13)]) (mkH 8 [(0, Cn.gob0), (1, gob1), (2, Cn.gob2), (3, Cn.gob3)]) :=
  sF (sc := [(76, .call [] (lI 3) [] []), (53, .call [] (.tuple #[bF,(.string sd)]) [] []), (24, .op (.rwB false)), (40, .call [0,1,2,3] (lI 13) [(0,some Cn.gob0),(1,some gob1),(2,some Cn.gob2),(3,some Cn.gob3)] []), (11, .stay)]) (by kernel_rfl) (aI (hk 8 (by omega)) (aI (hso 8 (by omega)) (aI hz (aI (code_c 13 8) tt)))) (Gets.refl _)
theorem fx3pc (n0 : Nat) (s : ByteArray) (hk : ∀ n0, 5 ≤ n0 → FT 145 #[.string s] n0 [] (lI 3) [] []) (sd : ByteArray) (hso : ∀ n0, 5 ≤ n0 → FT 128 #[.string s] n0 [] (.tuple #[.bool false, .string sd]) [] []) (hz : (s.toList == (bts [48]).toList) = false) : FT 32 #[(.string s)] n0 [(0, Cn.gob0), (1, gob1), (2, Cn.gob2), (3, Cn.gob3)] (.tuple #[(.slice none 0 0),(lI 13)]) [(0, some Cn.gob0), (1, some gob1), (2, some Cn.gob2), (3, some Cn.gob3)] [] := by
  have h := fsp_of_tell (tell_of_csp (by kernel_rfl) (by kernel_rfl) (fx3p s hk sd hso hz)) glOK2 (by kernel_rfl) (by kernel_rfl) n0
  exact h
theorem fx2p (s : ByteArray) (hk : ∀ n0, 5 ≤ n0 → FT 145 #[.string s] n0 [] (lI 2) [] []) (sd : ByteArray) (hso : ∀ n0, 5 ≤ n0 → FT 128 #[.string s] n0 [] (.tuple #[.bool false, .string sd]) [] []) (z : Int) (hsm : ∀ n0, 5 ≤ n0 → FT 109 #[.string s] n0 [] (.int .i64 z) [] []) (hb : 1000000 < z) (hz : (s.toList == (bts [48]).toList) = false) : CT 32 #[(.string s)] (mkH 5 [(0, Cn.gob0), (1, gob1), (2, Cn.gob2), (3, Cn.gob3)]) (.tuple #[(.slice none 0 0),(lI 13)]) (mkH 8 [(0, Cn.gob0), (1, gob1), (2, Cn.gob2), (3, Cn.gob3)]) :=
  sF (sc := [(76, .call [] (lI 2) [] []), (53, .call [] (.tuple #[bF,(.string sd)]) [] []), (24, .op (.rwB false)), (11, .call [] (.int .i64 z) [] []), (0, .op (.rwB true)), (27, .call [0,1,2,3] (lI 13) [(0,some Cn.gob0),(1,some gob1),(2,some Cn.gob2),(3,some Cn.gob3)] []), (11, .stay)]) (by kernel_rfl) (aI (hk 8 (by omega)) (aI (hso 8 (by omega)) (aI hz (aI (hsm 8 (by omega)) (aI (show decide (z > (1000000 : Int)) = true from (by rw [decide_eq_true_eq]; omega)) (aI (code_c 13 8) tt)))))) (Gets.refl _)
theorem fx2pc (n0 : Nat) (s : ByteArray) (hk : ∀ n0, 5 ≤ n0 → FT 145 #[.string s] n0 [] (lI 2) [] []) (sd : ByteArray) (hso : ∀ n0, 5 ≤ n0 → FT 128 #[.string s] n0 [] (.tuple #[.bool false, .string sd]) [] []) (z : Int) (hsm : ∀ n0, 5 ≤ n0 → FT 109 #[.string s] n0 [] (.int .i64 z) [] []) (hb : 1000000 < z) (hz : (s.toList == (bts [48]).toList) = false) : FT 32 #[(.string s)] n0 [(0, Cn.gob0), (1, gob1), (2, Cn.gob2), (3, Cn.gob3)] (.tuple #[(.slice none 0 0),(lI 13)]) [(0, some Cn.gob0), (1, some gob1), (2, some Cn.gob2), (3, some Cn.gob3)] [] := by
  have h := fsp_of_tell (tell_of_csp (by kernel_rfl) (by kernel_rfl) (fx2p s hk sd hso z hsm hb hz)) glOK2 (by kernel_rfl) (by kernel_rfl) n0
  exact h
theorem rx1 (s : ByteArray) (hc : ∀ n0, 5 ≤ n0 → FT 74 #[.string s] n0 [] (lI 1) [] []) : CT 33 #[(.string s)] (mkH 5 []) (.tuple #[(.slice none 0 0),(lI 1)]) (mkH 5 []) :=
  sF (sc := [(9, .call [] (lI 1) [] []), (15, .stay)]) (by kernel_rfl) (aI (hc 5 (by omega)) tt) (Gets.refl _)
theorem rx1c (n0 : Nat) (hG : 5 ≤ n0) (s : ByteArray) (hc : ∀ n0, 5 ≤ n0 → FT 74 #[.string s] n0 [] (lI 1) [] []) : FT 33 #[(.string s)] n0 [] (.tuple #[(.slice none 0 0),(lI 1)]) [] [] :=
  fsp_flat [] [] [] [] [] n0 (rx1 s hc) rfl rfl rfl (by simp) (by simp) hG rfl rfl rfl (by simp) (by simp) rfl rfl rfl
theorem rx13 (s : ByteArray) (hc : ∀ n0, 5 ≤ n0 → FT 74 #[.string s] n0 [] (lI 13) [] []) : CT 33 #[(.string s)] (mkH 5 []) (.tuple #[(.slice none 0 0),(lI 13)]) (mkH 5 []) :=
  sF (sc := [(9, .call [] (lI 13) [] []), (15, .stay)]) (by kernel_rfl) (aI (hc 5 (by omega)) tt) (Gets.refl _)
theorem rx13c (n0 : Nat) (hG : 5 ≤ n0) (s : ByteArray) (hc : ∀ n0, 5 ≤ n0 → FT 74 #[.string s] n0 [] (lI 13) [] []) : FT 33 #[(.string s)] n0 [] (.tuple #[(.slice none 0 0),(lI 13)]) [] [] :=
  fsp_flat [] [] [] [] [] n0 (rx13 s hc) rfl rfl rfl (by simp) (by simp) hG rfl rfl rfl (by simp) (by simp) rfl rfl rfl
theorem rxm (s : ByteArray) (hc : ∀ n0, 5 ≤ n0 → FT 74 #[.string s] n0 [] (lI 0) [] []) (hn : ∀ n0, 5 ≤ n0 → FT 44 #[.string s] n0 [] bT [] []) : CT 33 #[(.string s)] (mkH 5 []) (.tuple #[(.slice none 0 0),(lI 2)]) (mkH 5 []) :=
  sF (sc := [(9, .call [] (lI 0) [] []), (13, .call [] bT [] []), (12, .stay)]) (by kernel_rfl) (aI (hc 5 (by omega)) (aI (hn 5 (by omega)) tt)) (Gets.refl _)
theorem rxmc (n0 : Nat) (hG : 5 ≤ n0) (s : ByteArray) (hc : ∀ n0, 5 ≤ n0 → FT 74 #[.string s] n0 [] (lI 0) [] []) (hn : ∀ n0, 5 ≤ n0 → FT 44 #[.string s] n0 [] bT [] []) : FT 33 #[(.string s)] n0 [] (.tuple #[(.slice none 0 0),(lI 2)]) [] [] :=
  fsp_flat [] [] [] [] [] n0 (rxm s hc hn) rfl rfl rfl (by simp) (by simp) hG rfl rfl rfl (by simp) (by simp) rfl rfl rfl
theorem rxz (s : ByteArray) (hc : ∀ n0, 5 ≤ n0 → FT 74 #[.string s] n0 [] (lI 0) [] []) (hn : ∀ n0, 5 ≤ n0 → FT 44 #[.string s] n0 [] bF [] []) (hz : (s.toList == (bts [48]).toList) = true) : CT 33 #[(.string s)] (mkH 5 []) (.tuple #[(.slice none 0 0),(lI 2)]) (mkH 5 []) :=
  sF (sc := [(9, .call [] (lI 0) [] []), (13, .call [] bF [] []), (2, .op (.rwB true)), (9, .stay)]) (by kernel_rfl) (aI (hc 5 (by omega)) (aI (hn 5 (by omega)) (aI hz tt))) (Gets.refl _)
theorem rxzc (n0 : Nat) (hG : 5 ≤ n0) (s : ByteArray) (hc : ∀ n0, 5 ≤ n0 → FT 74 #[.string s] n0 [] (lI 0) [] []) (hn : ∀ n0, 5 ≤ n0 → FT 44 #[.string s] n0 [] bF [] []) (hz : (s.toList == (bts [48]).toList) = true) : FT 33 #[(.string s)] n0 [] (.tuple #[(.slice none 0 0),(lI 2)]) [] [] :=
  fsp_flat [] [] [] [] [] n0 (rxz s hc hn hz) rfl rfl rfl (by simp) (by simp) hG rfl rfl rfl (by simp) (by simp) rfl rfl rfl
theorem rxl (s : ByteArray) (hc : ∀ n0, 5 ≤ n0 → FT 74 #[.string s] n0 [] (lI 0) [] []) (hn : ∀ n0, 5 ≤ n0 → FT 44 #[.string s] n0 [] bF [] []) (z : Int) (ht : ∀ n0, 5 ≤ n0 → FT 52 #[.string s] n0 [] (.tuple #[.int .i64 z, .bool false]) [] []) (hz : (s.toList == (bts [48]).toList) = false) : CT 33 #[(.string s)] (mkH 5 []) (.tuple #[(.slice none 0 0),(lI 13)]) (mkH 5 []) :=
  sF (sc := [(9, .call [] (lI 0) [] []), (13, .call [] bF [] []), (2, .op (.rwB false)), (7, .call [] (.tuple #[(.int .i64 z),bF]) [] []), (23, .stay)]) (by kernel_rfl) (aI (hc 5 (by omega)) (aI (hn 5 (by omega)) (aI hz (aI (ht 5 (by omega)) tt)))) (Gets.refl _)
theorem rxlc (n0 : Nat) (hG : 5 ≤ n0) (s : ByteArray) (hc : ∀ n0, 5 ≤ n0 → FT 74 #[.string s] n0 [] (lI 0) [] []) (hn : ∀ n0, 5 ≤ n0 → FT 44 #[.string s] n0 [] bF [] []) (z : Int) (ht : ∀ n0, 5 ≤ n0 → FT 52 #[.string s] n0 [] (.tuple #[.int .i64 z, .bool false]) [] []) (hz : (s.toList == (bts [48]).toList) = false) : FT 33 #[(.string s)] n0 [] (.tuple #[(.slice none 0 0),(lI 13)]) [] [] :=
  fsp_flat [] [] [] [] [] n0 (rxl s hc hn z ht hz) rfl rfl rfl (by simp) (by simp) hG rfl rfl rfl (by simp) (by simp) rfl rfl rfl
theorem rxb (s : ByteArray) (hc : ∀ n0, 5 ≤ n0 → FT 74 #[.string s] n0 [] (lI 0) [] []) (hn : ∀ n0, 5 ≤ n0 → FT 44 #[.string s] n0 [] bF [] []) (z : Int) (ht : ∀ n0, 5 ≤ n0 → FT 52 #[.string s] n0 [] (.tuple #[.int .i64 z, .bool true]) [] []) (hz : (s.toList == (bts [48]).toList) = false) (hb : 1000000 < z) : CT 33 #[(.string s)] (mkH 5 []) (.tuple #[(.slice none 0 0),(lI 13)]) (mkH 5 []) :=
  sF (sc := [(9, .call [] (lI 0) [] []), (13, .call [] bF [] []), (2, .op (.rwB false)), (7, .call [] (.tuple #[(.int .i64 z),bT]) [] []), (13, .op (.rwB true)), (9, .stay)]) (by kernel_rfl) (aI (hc 5 (by omega)) (aI (hn 5 (by omega)) (aI hz (aI (ht 5 (by omega)) (aI (show decide (z > (1000000 : Int)) = true from (by first | (rw [decide_eq_true_eq]; omega) | (rw [decide_eq_false_iff_not]; omega))) tt))))) (Gets.refl _)
theorem rxbc (n0 : Nat) (hG : 5 ≤ n0) (s : ByteArray) (hc : ∀ n0, 5 ≤ n0 → FT 74 #[.string s] n0 [] (lI 0) [] []) (hn : ∀ n0, 5 ≤ n0 → FT 44 #[.string s] n0 [] bF [] []) (z : Int) (ht : ∀ n0, 5 ≤ n0 → FT 52 #[.string s] n0 [] (.tuple #[.int .i64 z, .bool true]) [] []) (hz : (s.toList == (bts [48]).toList) = false) (hb : 1000000 < z) : FT 33 #[(.string s)] n0 [] (.tuple #[(.slice none 0 0),(lI 13)]) [] [] :=
  fsp_flat [] [] [] [] [] n0 (rxb s hc hn z ht hz hb) rfl rfl rfl (by simp) (by simp) hG rfl rfl rfl (by simp) (by simp) rfl rfl rfl
theorem rxo (s : ByteArray) (hc : ∀ n0, 5 ≤ n0 → FT 74 #[.string s] n0 [] (lI 0) [] []) (hn : ∀ n0, 5 ≤ n0 → FT 44 #[.string s] n0 [] bF [] []) (z : Int) (ht : ∀ n0, 5 ≤ n0 → FT 52 #[.string s] n0 [] (.tuple #[.int .i64 z, .bool true]) [] []) (hz : (s.toList == (bts [48]).toList) = false) (hb : z = 1) : CT 33 #[(.string s)] (mkH 5 []) (.tuple #[(.slice none 0 0),(lI 0)]) (mkH 5 []) :=
  sF (sc := [(9, .call [] (lI 0) [] []), (13, .call [] bF [] []), (2, .op (.rwB false)), (7, .call [] (.tuple #[(.int .i64 z),bT]) [] []), (13, .op (.rwB false)), (19, .op (.rwB false)), (10, .stay)]) (by kernel_rfl) (aI (hc 5 (by omega)) (aI (hn 5 (by omega)) (aI hz (aI (ht 5 (by omega)) (aI (show decide (z > (1000000 : Int)) = false from (by first | (rw [decide_eq_true_eq]; omega) | (rw [decide_eq_false_iff_not]; omega))) (aI (show decide (z > (1 : Int)) = false from (by first | (rw [decide_eq_true_eq]; omega) | (rw [decide_eq_false_iff_not]; omega))) tt)))))) (Gets.refl _)
theorem rxoc (n0 : Nat) (hG : 5 ≤ n0) (s : ByteArray) (hc : ∀ n0, 5 ≤ n0 → FT 74 #[.string s] n0 [] (lI 0) [] []) (hn : ∀ n0, 5 ≤ n0 → FT 44 #[.string s] n0 [] bF [] []) (z : Int) (ht : ∀ n0, 5 ≤ n0 → FT 52 #[.string s] n0 [] (.tuple #[.int .i64 z, .bool true]) [] []) (hz : (s.toList == (bts [48]).toList) = false) (hb : z = 1) : FT 33 #[(.string s)] n0 [] (.tuple #[(.slice none 0 0),(lI 0)]) [] [] :=
  fsp_flat [] [] [] [] [] n0 (rxo s hc hn z ht hz hb) rfl rfl rfl (by simp) (by simp) hG rfl rfl rfl (by simp) (by simp) rfl rfl rfl
theorem til (z : Int) (h15 : 15 < (istr ((z.natAbs : Nat) : Int)).size) (hl : (digs z.natAbs).length < 1099511627776) (abz : ∀ n0, 5 ≤ n0 → FT 43 #[.string (istr z)] n0 [] (.string (istr ((z.natAbs : Nat) : Int))) [] []) : CT 52 #[(.string (istr z))] (mkH 5 []) (.tuple #[(lI 0),bF]) (mkH 5 []) :=
  sF (sc := [(8, .call [] (.string (istr ((z.natAbs : Nat) : Int))) [] []), (6, .call [] bT [] []), (4, .op (.rwB true)), (9, .stay)]) (by kernel_rfl) (aI (abz 5 (by omega)) (aI (fo_i z 5 (by omega) (by omega)) (aI (show decide ((((istr ((z.natAbs : Nat) : Int)).size : Nat) : Int) > (15 : Int)) = true from (by rw [decide_eq_true_eq]; omega)) tt))) (Gets.refl _)
theorem tilc (n0 : Nat) (hG : 5 ≤ n0) (z : Int) (h15 : 15 < (istr ((z.natAbs : Nat) : Int)).size) (hl : (digs z.natAbs).length < 1099511627776) (abz : ∀ n0, 5 ≤ n0 → FT 43 #[.string (istr z)] n0 [] (.string (istr ((z.natAbs : Nat) : Int))) [] []) : FT 52 #[(.string (istr z))] n0 [] (.tuple #[(lI 0),bF]) [] [] :=
  fsp_flat [] [] [] [] [] n0 (til z h15 hl abz) rfl rfl rfl (by simp) (by simp) hG rfl rfl rfl (by simp) (by simp) rfl rfl rfl
def FE (s : ByteArray) : Prop := ∃ e : Int, (∀ n0, 5 ≤ n0 → FT 32 #[.string s] n0 [(0, Cn.gob0), (1, gob1), (2, Cn.gob2), (3, Cn.gob3)] (.tuple #[.slice none 0 0, .int .i64 e]) [(0, some Cn.gob0), (1, some gob1), (2, some Cn.gob2), (3, some Cn.gob3)] []) ∧ ∀ n0, 5 ≤ n0 → FT 33 #[.string s] n0 [] (.tuple #[.slice none 0 0, .int .i64 e]) [] []
def FL (s : ByteArray) : Prop := ∃ ps : List Nat, ps.length < 1048576 ∧ 0 < ps.length ∧ (∀ x ∈ ps, x ≤ 1000000) ∧ (∀ n0, 5 ≤ n0 → FT 32 #[.string s] n0 [(0, Cn.gob0), (1, gob1), (2, Cn.gob2), (3, Cn.gob3)] (.tuple #[sl n0 ps.length 0, .int .i64 (.ofNat 0)]) [(0, some Cn.gob0), (1, some gob1), (2, some Cn.gob2), (3, some Cn.gob3)] [.cells (fs ps) 9 (some 1) false]) ∧ ∀ n0, 5 ≤ n0 → FT 33 #[.string s] n0 [] (.tuple #[sl n0 ps.length 0, .int .i64 (.ofNat 0)]) [] [.cells (fs ps) 9 (some 1) false]
theorem FE_mk {s : ByteArray} (e : Int) (a : ∀ n0, 5 ≤ n0 → FT 32 #[.string s] n0 [(0, Cn.gob0), (1, gob1), (2, Cn.gob2), (3, Cn.gob3)] (.tuple #[.slice none 0 0, .int .i64 e]) [(0, some Cn.gob0), (1, some gob1), (2, some Cn.gob2), (3, some Cn.gob3)] []) (b : ∀ n0, 5 ≤ n0 → FT 33 #[.string s] n0 [] (.tuple #[.slice none 0 0, .int .i64 e]) [] []) : FE s := ⟨e, a, b⟩
theorem le_lprod : ∀ {l : List Nat}, (∀ x ∈ l, Pr x) → ∀ x ∈ l, x ≤ lprod l
  | y :: l, h, x, hx => by
    have h1 := lprodPr_pos (l := l) fun z hz => h z (List.mem_cons_of_mem _ hz)
    have hy := (h y (List.mem_cons_self ..)).1
    rcases List.mem_cons.1 hx with e | e
    · subst e
      exact Nat.le_mul_of_pos_right _ h1
    · have h2 := le_lprod (fun z hz => h z (List.mem_cons_of_mem _ hz)) x e
      exact Nat.le_trans h2 (Nat.le_mul_of_pos_left _ (by omega))
theorem sz_digs (n : Nat) : (istr ((n : Nat) : Int)).size = (digs n).length := by rw [istr_nn, dstr_size]
theorem Fac_any (s : ByteArray) (hs : s.size < 1099511627776) : FE s ∨ FL s := by
  rcases cls s hs with A | A | ⟨z, rfl, h1, _⟩
  · exact .inl (FE_mk (.ofNat 1) (fun n0 _ => fx0c n0 _ A.1) (fun n0 h => rx1c n0 h _ A.2))
  · exact .inl (FE_mk (.ofNat 13) (fun n0 _ => fx1c n0 _ A.1) (fun n0 h => rx13c n0 h _ A.2))
  have hck : ∀ n0, 5 ≤ n0 → _ := fun n0 h => ck_i z n0 h h1
  rcases int_cases z with ⟨n, rfl, hm⟩ | ⟨n, h0, rfl, hm⟩
  · rw [hm] at h1
    have hne : ∀ n0, 5 ≤ n0 → FT 44 #[.string (istr (n : Int))] n0 [] bF [] [] := fun n0 h => by rw [istr_nn]; exact ne_pc n0 _ h (digs_dig n) (digs_len_pos n)
    have hso : ∀ n0, 5 ≤ n0 → FT 128 #[.string (istr (n : Int))] n0 [] (.tuple #[.bool false, .string (dstr (digs n))]) [] [] := fun n0 h => by rw [istr_nn]; exact so_pc n0 _ h (digs_dig n) (digs_len_pos n)
    by_cases hn0 : n = 0
    · subst hn0
      have hz : ((istr ((0 : Nat) : Int)).toList == (Seg.bts [48]).toList) = true := by rw [show istr ((0 : Nat) : Int) = Seg.bts [48] from istr_zeroF]; exact beq_self_eq_true _
      exact .inl (FE_mk (.ofNat 2) (fun n0 _ => fx2zc n0 _ (fun n1 h => kis_i n1 _ h (by show (digs 0).length ≤ 18; rw [digs_zero]; decide)) _ hso hz) (fun n0 h => rxzc n0 h _ hck hne hz))
    have hz := istr_ne0 (n := n) (by omega)
    by_cases h2 : (digs n).length ≤ 18
    · have hki : ∀ n1, 5 ≤ n1 → _ := fun n1 h => kis_i n1 (n : Int) h (by rw [hm]; exact h2)
      by_cases hb : 1000000 < n
      · refine .inl (FE_mk (.ofNat 13) (fun n0 _ => fx2pc n0 _ hki _ hso (n : Int) (fun n1 h => sm_i n1 (n : Int) h (by rw [hm]; exact h2)) (by omega) hz) ?_)
        by_cases h15 : (digs n).length ≤ 15
        · exact fun n0 h => rxbc n0 h _ hck hne (n : Int) (fun n1 h => ti_i (n : Int) n1 h (by rw [hm]; exact h15)) hz (by omega)
        · exact fun n0 h => rxlc n0 h _ hck hne 0 (fun n1 h => tilc n1 h (n : Int) (by rw [hm, sz_digs]; omega) (by rw [hm]; omega) (fun n2 h => by have := ab_pc n2 _ h (digs_dig n) (digs_len_pos n); rw [hm, istr_nn]; exact this)) hz
      · have h15 : (digs n).length ≤ 15 := by
          have := digs_len_le (ndig_lt 7 n (by omega)) (by decide)
          omega
        have hti : ∀ n1, 5 ≤ n1 → _ := fun n1 h => ti_i (n : Int) n1 h (by rw [hm]; exact h15)
        by_cases hn1 : n = 1
        · exact .inl (FE_mk (.ofNat 0) (fun n0 hG => fsp_more (L := [(1, gob1)]) (gl := [(0, Cn.gob0), (1, gob1), (2, Cn.gob2), (3, Cn.gob3)]) (by simp) (Fa_1 n0 n hn1 hG)) (fun n0 h => rxoc n0 h _ hck hne (n : Int) hti hz (by omega)))
        · obtain ⟨ps, a1, a2, a3, A⟩ := Fa_c n (by omega) (by omega)
          obtain ⟨qs, b1, b2, b3, B⟩ := rf_c n (by omega) (by omega) hck hne hti hz
          obtain rfl := primes_unique a2 b2 a3 b3 (by rw [a1, b1])
          have hl := lprod_len (ps := ps) fun x hx => (a2 x hx).1
          refine .inr ⟨ps, by omega, ?_, fun x hx => ?_, fun n0 hG => fsp_moreN (L := [(1, gob1)]) (gl := [(0, Cn.gob0), (1, gob1), (2, Cn.gob2), (3, Cn.gob3)]) (by simp) (A n0 hG), B⟩
          · cases ps with
            | nil => simp only [lprod] at a1; omega
            | cons x l => simp
          · have := le_lprod a2 x hx
            omega
    · exact .inl (FE_mk (.ofNat 13) (fun n0 _ => fx3pc n0 _ (fun n1 h => kil_i n1 (n : Int) h (by rw [hm]; omega) (by rw [hm]; exact Nat.le_trans (ndig_le_len _) h1)) _ hso hz) (fun n0 h => rxlc n0 h _ hck hne 0 (fun n1 h => tilc n1 h (n : Int) (by rw [hm, sz_digs]; omega) (by rw [hm]; omega) (fun n2 h => by have := ab_pc n2 _ h (digs_dig n) (digs_len_pos n); rw [hm, istr_nn]; exact this)) hz))
  · have hso : ∀ n0, 5 ≤ n0 → FT 128 #[.string (istr (-(n : Int)))] n0 [] (.tuple #[.bool true, .string (dstr (digs n))]) [] [] := fun n0 h => by rw [istr_neg h0]; exact so_mc n0 _ h
    have hne : ∀ n0, 5 ≤ n0 → FT 44 #[.string (istr (-(n : Int)))] n0 [] bT [] [] := fun n0 h => by rw [istr_neg h0]; exact ne_mc n0 _ h
    have R : ∀ n0, 5 ≤ n0 → _ := fun n0 h => rxmc n0 h _ hck hne
    rw [hm] at h1
    by_cases h2 : (digs n).length ≤ 18
    · exact .inl (FE_mk (.ofNat 2) (fun n0 _ => fx2mc n0 _ (fun n1 h => kis_i n1 _ h (by rw [hm]; exact h2)) _ hso) R)
    · exact .inl (FE_mk (.ofNat 2) (fun n0 _ => fx3mc n0 _ (fun n1 h => kil_i n1 _ h (by rw [hm]; omega) (by rw [hm]; exact Nat.le_trans (ndig_le_len _) h1)) _ hso) R)
noncomputable section
abbrev z_60b_0 (ps : List Nat) : List (Nat × AObj) := [(5, (.cells (fs ps) 9 (some 1) false)), (6, (.cells (fs ps) 9 (some 1) false))]
abbrev z_60b_1 (ps : List Nat) (i : Nat) : Value := .string (istr ((ps.getD i 0 : Nat) : Int))
end
theorem eqn_o : CT 34 #[(.slice none 0 0),(.slice none 0 0)] (mkH 5 []) bT (mkH 5 []) :=
  sF (sc := [(37, .stay)]) (by kernel_rfl) tt (Gets.refl _)
theorem eqn_c (n0 : Nat) (hG : 5 ≤ n0) : FT 34 #[(.slice none 0 0),(.slice none 0 0)] n0 [] bT [] [] := fsp_flat [] [] [] [] [] n0 eqn_o rfl rfl rfl (by simp) (by simp) hG rfl rfl rfl (by simp) (by simp) rfl rfl rfl
noncomputable def eq_h_f (k : Nat) (ps : List Nat) (i : Nat) (j : List Value) : Frame := ⟨34, List.toArray [(sl 5 k 0), (sl 6 k 0), uu, uu, (J j 0), (nI i), (J j 1), (J j 2), (J j 3), (J j 4), bF, (J j 5), (J j 6), (J j 7), (J j 8), (J j 9), (J j 10), (J j 11), (J j 12), (J j 13), (J j 14), (J j 15), (J j 16), (J j 17), (J j 18), (J j 19)], [.code (cd Tryz.f34 [1, 1, 0, 1, 0, 0]), .inLoop (cd Tryz.f34 [1, 1, 0, 1, 0, 0]), .inBlock 0, .code (cd Tryz.f34 [1, 1, 1])], [], .run, .normal, none⟩
noncomputable def eq_h_o (k : Nat) (ps : List Nat) (i : Nat) : List (Nat × AObj) := (z_60b_0 ps)
noncomputable def eq_h (k : Nat) (ps : List Nat) (i : Nat) (j : List Value) : AS := ⟨eq_h_f k ps i j, [], mkH 7 (eq_h_o k ps i)⟩
theorem eq_in (k : Nat) (ps : List Nat)  : GT ⟨Frame.enter Tryz.prog 34 #[(sl 5 k 0),(sl 6 k 0)] .normal, [], mkH 7 (z_60b_0 ps)⟩ (eq_h k ps 0 [bF, (sl 5 k 0), (nI k), (sl 6 k 0), (nI k), undef, undef, undef, undef, undef, undef, undef, undef, undef, undef, undef, undef, undef, undef, undef]) :=
  sR (sc := [(11, .op (.rwB false)), (10, .stay)]) (by kernel_rfl) (aI (nF (a := (k : Int)) (b := (k : Int)) (by omega)) tt)
theorem eq_r (k : Nat) (ps : List Nat) (i : Nat) (j : List Value) (hk : ps.length = k) (hk2 : k < 1048576) (hi : i < k)  : GT (eq_h k ps i j) (eq_h k ps (i + 1) [(J j 0), (J j 1), (J j 2), (J j 3), (J j 4), (nI i), (sl 5 k 0), (nI k), bT, (nI i), (nI (i + 1)), (sl 5 k 0), (nI i), (.pointer (some ⟨5,i,none⟩)), (z_60b_1 ps i), (sl 6 k 0), (nI i), (.pointer (some ⟨6,i,none⟩)), (z_60b_1 ps i), bF]) :=
  sR (sc := [(6, .op (.rwB true)), (6, .drw [(2, .idx i), (3, .ld (z_60b_1 ps i)), (6, .idx i), (7, .ld (z_60b_1 ps i)), (8, .rwB false)]), (5, .op (.rwI (((i + 1) : Nat) : Int))), (3, .stay)]) (by kernel_rfl) (aI (dT (p := (i : Int) < (k : Int)) (by omega)) (aI (aI tt (aI tt (aI (ix (i : Int) (k : Int) 0 1 i (by omega)) (aI (show ((fs ps) : List Value)[i]? = some (z_60b_1 ps i) from (fs_get (by omega))) (aI tt (aI tt (aI (ix (i : Int) (k : Int) 0 1 i (by omega)) (aI (show ((fs ps) : List Value)[i]? = some (z_60b_1 ps i) from (fs_get (by omega))) (aI (show (!((istr ((ps.getD i 0 : Nat) : Int)).toList == (istr ((ps.getD i 0 : Nat) : Int)).toList)) = false from (by rw [beq_self_eq_true]; rfl)) tt))))))))) (aI (wI64 (a := ((i : Int) + (1 : Int))) (r := (((i + 1) : Nat) : Int)) (by omega)) tt)))
theorem eq_o (k : Nat) (ps : List Nat) (i : Nat) (j : List Value) (hk : ps.length = k) (hk2 : k < 1048576) (hi : ¬ i < k) (hr : GT ⟨Frame.enter Tryz.prog 34 #[(sl 5 k 0),(sl 6 k 0)] .normal, [], mkH 7 (z_60b_0 ps)⟩ (eq_h k ps i j)) : CT 34 #[(sl 5 k 0),(sl 6 k 0)] (mkH 7 (z_60b_0 ps)) bT (mkH 7 (z_60b_0 ps)) :=
  sF (sc := [(6, .op (.rwB false)), (8, .stay)]) (by kernel_rfl) (aI (dF (p := (i : Int) < (k : Int)) (by omega)) tt) hr
theorem eq_loop {k : Nat} {ps : List Nat} (hk : ps.length = k) (hk2 : k < 1048576) : ∀ (q i : Nat) (j : List Value), q = k - i → i ≤ k → GT ⟨Frame.enter Tryz.prog 34 #[(sl 5 k 0),(sl 6 k 0)] .normal, [], mkH 7 [(5, (.cells (fs ps) 9 (some 1) false)), (6, (.cells (fs ps) 9 (some 1) false))]⟩ (eq_h k ps i j) → CT 34 #[(sl 5 k 0),(sl 6 k 0)] (mkH 7 [(5, (.cells (fs ps) 9 (some 1) false)), (6, (.cells (fs ps) 9 (some 1) false))]) bT (mkH 7 [(5, (.cells (fs ps) 9 (some 1) false)), (6, (.cells (fs ps) 9 (some 1) false))]) := by
  intro q
  induction q with
  | zero => intro i j hq hi hr; exact eq_o k ps i j hk hk2 (by omega) hr
  | succ q ih => intro i j hq hi hr; exact ih (i + 1) _ (by omega) (by omega) (hr.trans (eq_r k ps i j hk hk2 (by omega)))
theorem eqt_c (n0 a b : Nat) (ps : List Nat) (hab : 5 ≤ a ∧ a < n0 ∧ 5 ≤ b ∧ b < n0 ∧ a ≠ b) (hk2 : ps.length < 1048576) : FT 34 #[sl a ps.length 0, sl b ps.length 0] n0 [(a, .cells (fs ps) 9 (some 1) false), (b, .cells (fs ps) 9 (some 1) false)] bT [(a, some (.cells (fs ps) 9 (some 1) false)), (b, some (.cells (fs ps) 9 (some 1) false))] [] := by
  have S := eq_loop (ps := ps) rfl hk2 _ 0 _ rfl (Nat.zero_le _) (eq_in ps.length ps)
  exact fsp_flat [a, b] [.cells (fs ps) 9 (some 1) false, .cells (fs ps) 9 (some 1) false] [.cells (fs ps) 9 (some 1) false, .cells (fs ps) 9 (some 1) false] [] [] n0 S rfl rfl rfl (by simp [hab.2.2.2.2]) (by simp; omega) (by omega) (by simp [flat, fs_closed]) (by simp [flat, fs_closed]) rfl (by simp) (by simp) rfl rfl rfl
end Go.Proofs.YtjbflfbhfnkmlaaGreatDoor
