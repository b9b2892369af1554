import Derived.Test.YtbjpjoodjbmicaaGreatDoorPRText
import Derived.Test.YtbjpjoodjbmicaaGreatDoorRLimbs
import Derived.Test.YtbjpjoodjbmicaaGreatDoorRPlus
set_option linter.unusedVariables false
set_option linter.unusedSimpArgs false
set_option maxRecDepth 100000
namespace Go.Proofs.YtbjpjoodjbmicaaGreatDoor
open Go Go.AE Seg
noncomputable section
abbrev z_38d_0 (l1 : List Nat) : AObj := .cells (ns .i64 l1) 3 (some 1) false
abbrev z_38d_1 (l2 : List Nat) : AObj := .cells (ns .i64 l2) 3 (some 1) false
abbrev z_38d_2 (os : List Nat) : AObj := .cells (ns .i64 os) 3 (some 1) false
end
theorem pq_s (x y : Int) (hsm : ∀ n0, 5 ≤ n0 → FT 86 #[.string (istr x), .string (istr y)] n0 [] (.tuple #[.int .i64 x, .int .i64 y, .bool true]) [] []) (hx : x.natAbs < 1000000000) (hy : y.natAbs < 1000000000)  : CT 40 #[(.string (istr x)),(.string (istr y))] (mkH 5 []) (.string (istr (x + y))) (mkH 5 []) :=
  sF (sc := [(9, .call [] (.tuple #[(.int .i64 x),(.int .i64 y),bT]) [] []), (17, .op (.rwI (x + y))), (0, .call [] (.string (istr (x + y))) [] []), (3, .stay)]) (next := 5) (l := []) (p := (FT 86 #[(.string (istr x)),(.string (istr y))] 5 [] (.tuple #[(.int .i64 x),(.int .i64 y),bT]) [] []) ∧ (IntKind.wrap .i64 (x + y) = (x + y)) ∧ (FT 75 #[(.int .i64 (x + y))] 5 [] (.string (istr (x + y))) [] []) ∧ True) (by kernel_rfl) ⟨(hsm 5 (by omega)), (wI64 (by omega)), (oi_i (x + y) 5 (by omega) (by omega)), tt⟩ (Gets.refl _)
theorem pq_pp (x y : Int) (l1 l2 os : List Nat) (t1 t2 t : Nat) (hsm : ∀ n0, 5 ≤ n0 → FT 86 #[.string (istr x), .string (istr y)] n0 [] (.tuple #[.int .i64 0, .int .i64 0, .bool false]) [] []) (hl1 : ∀ n0, 5 ≤ n0 → FT 87 #[.string (dstr (digs x.natAbs))] n0 [] (sl n0 t1 0) [] [.cells (ns .i64 l1) 3 (some 1) false]) (hl2 : ∀ n0, 5 ≤ n0 → FT 87 #[.string (dstr (digs y.natAbs))] n0 [] (sl n0 t2 0) [] [.cells (ns .i64 l2) 3 (some 1) false]) (hnx : ∀ n0, 5 ≤ n0 → FT 44 #[.string (istr x)] n0 [] bF [] []) (hny : ∀ n0, 5 ≤ n0 → FT 44 #[.string (istr y)] n0 [] bF [] []) (hp : ∀ (n0 b1 b2 : Nat), 5 ≤ b1 → b1 < n0 → 5 ≤ b2 → b2 < n0 → b1 ≠ b2 → FT 89 #[sl b1 t1 0, sl b2 t2 0] n0 [(b1, .cells (ns .i64 l1) 3 (some 1) false), (b2, .cells (ns .i64 l2) 3 (some 1) false)] (sl n0 t 0) [(b1, some (z_38d_0 l1)), (b2, some (z_38d_1 l2))] [.cells (ns .i64 os) 3 (some 1) false]) (hs : ∀ n0 b, 5 ≤ b ∧ b < n0 → FT 88 #[.bool false, sl b t 0] n0 [(b, .cells (ns .i64 os) 3 (some 1) false)] (.string (istr (x + y))) [(b, some (z_38d_2 os))] [])  : CT 40 #[(.string (istr x)),(.string (istr y))] (mkH 5 []) (.string (istr (x + y))) (mkH 8 []) :=
  sF (sc := [(9, .call [] (.tuple #[(lI 0),(lI 0),bF]) [] []), (17, .call [] (.string (dstr (digs x.natAbs))) [] []), (0, .call [] (sl 5 t1 0) [] [(z_38d_0 l1)]), (1, .call [] (.string (dstr (digs y.natAbs))) [] []), (0, .call [] (sl 6 t2 0) [] [(z_38d_1 l2)]), (7, .call [] bF [] []), (1, .call [] bF [] []), (6, .call [] bF [] []), (2, .call [5,6] (sl 7 t 0) [(5,some (z_38d_0 l1)),(6,some (z_38d_1 l2))] [(z_38d_2 os)]), (0, .call [7] (.string (istr (x + y))) [(7,some (z_38d_2 os))] []), (3, .stay)]) (next := 8) (l := []) (p := (FT 86 #[(.string (istr x)),(.string (istr y))] 5 [] (.tuple #[(lI 0),(lI 0),bF]) [] []) ∧ (FT 43 #[(.string (istr x))] 5 [] (.string (dstr (digs x.natAbs))) [] []) ∧ (FT 87 #[(.string (dstr (digs x.natAbs)))] 5 [] (sl 5 t1 0) [] [(z_38d_0 l1)]) ∧ (FT 43 #[(.string (istr y))] 6 [] (.string (dstr (digs y.natAbs))) [] []) ∧ (FT 87 #[(.string (dstr (digs y.natAbs)))] 6 [] (sl 6 t2 0) [] [(z_38d_1 l2)]) ∧ (FT 44 #[(.string (istr x))] 7 [] bF [] []) ∧ (FT 44 #[(.string (istr y))] 7 [] bF [] []) ∧ (FT 44 #[(.string (istr x))] 7 [] bF [] []) ∧ (FT 89 #[(sl 5 t1 0),(sl 6 t2 0)] 7 [(5,(z_38d_0 l1)),(6,(z_38d_1 l2))] (sl 7 t 0) [(5,some (z_38d_0 l1)),(6,some (z_38d_1 l2))] [(z_38d_2 os)]) ∧ (FT 88 #[bF,(sl 7 t 0)] 8 [(7,(z_38d_2 os))] (.string (istr (x + y))) [(7,some (z_38d_2 os))] []) ∧ True) (by kernel_rfl) ⟨(hsm 5 (by omega)), (ab_i x 5 (by omega)), (hl1 5 (by omega)), (ab_i y 6 (by omega)), (hl2 6 (by omega)), (hnx 7 (by omega)), (hny 7 (by omega)), (hnx 7 (by omega)), (hp 7 5 6 (by omega) (by omega) (by omega) (by omega) (by omega)), (hs 8 7 (by omega)), tt⟩ (Gets.refl _)
theorem ne_q (z : Int) (b : Bool) (hb : decide (z < 0) = b) : ∀ n0, 5 ≤ n0 → FT 44 #[.string (istr z)] n0 [] (.bool b) [] [] := by
  intro n0 hG
  subst hb
  rcases int_cases z with ⟨k, rfl, hm⟩ | ⟨k, h0, rfl, hm⟩
  · rw [istr_nn, show decide (((k : Nat) : Int) < 0) = false by rw [decide_eq_false_iff_not]; omega]
    exact ne_pc n0 _ hG (digs_dig _) (digs_len_pos _)
  · rw [istr_neg h0, show decide (-((k : Nat) : Int) < 0) = true by rw [decide_eq_true_eq]; omega]
    exact ne_mc n0 _ hG
theorem sg_q (n0 b : Nat) (xs : List Nat) (n : Nat) (neg : Bool) (z : Int) (hb : 5 ≤ b ∧ b < n0) (hn : n ≤ xs.length) (hm : n < 1000000000) (hlx : F.Lim xs) (hv : 0 < n → 0 < F.val (xs.take n)) (hz : z = if neg = true then -((F.val (xs.take n) : Nat) : Int) else ((F.val (xs.take n) : Nat) : Int)) :
    FT 88 #[.bool neg, sl b n 0] n0 [(b, .cells (ns .i64 xs) 3 (some 1) false)] (.string (istr z)) [(b, some (.cells (ns .i64 xs) 3 (some 1) false))] [] := by
  subst hz
  cases neg with
  | false =>
    simp only [Bool.false_eq_true, if_false, istr_nn]
    exact rsg_n_c n0 b xs n hb hn hm hlx
  | true =>
    simp only [if_true]
    rcases Nat.eq_zero_or_pos n with h0 | h0
    · have hz : F.val (xs.take n) = 0 := by rw [h0]; rfl
      have := rsg_z_c n0 b xs n hb hn hm hlx h0
      rw [hz] at this ⊢
      rw [show -(((0 : Nat)) : Int) = ((0 : Nat) : Int) from rfl, istr_nn]
      exact this
    · rw [istr_neg (hv h0)]
      exact rsg_m_c n0 b xs n hb hn hm hlx h0
theorem pl_q (x y : Int) (hx0 : 0 ≤ x) (hy0 : 0 ≤ y) (n0 : Nat) (hG : 5 ≤ n0) (hx : (digs x.natAbs).length ≤ 100000000) (hy : (digs y.natAbs).length ≤ 100000000) : FT 40 #[.string (istr x), .string (istr y)] n0 [] (.string (istr (x + y))) [] [] := by
  by_cases hsml : (digs x.natAbs).length ≤ 9 ∧ (digs y.natAbs).length ≤ 9
  · have h1 := lt_of_ndig hsml.1
    have h2 := lt_of_ndig hsml.2
    exact fsp_flat [] [] [] [] [] n0 (pq_s x y (fun n0 h => sm_t x y n0 h hsml.1 hsml.2) h1 h2) rfl rfl rfl (by simp) (by simp) hG rfl rfl rfl (by simp) (by simp) rfl rfl rfl
  have hsm := fun n0 h => sm_f x y n0 h hsml (by omega) (by omega)
  obtain ⟨l1, t1, a1, a2, a3, av, at1, ha⟩ := lb_c (digs x.natAbs) (digs_dig _) (digs_len_pos _) (by omega)
  obtain ⟨l2, t2, b1, b2, b3, bv, bt1, hb⟩ := lb_c (digs y.natAbs) (digs_dig _) (digs_len_pos _) (by omega)
  rw [digs_val] at av bv
  have hpos : 0 < x.natAbs ∨ 0 < y.natAbs := by
    rcases Nat.eq_zero_or_pos x.natAbs with h | h
    · rcases Nat.eq_zero_or_pos y.natAbs with h' | h'
      · exfalso
        apply hsml
        rw [h, h', digs_zero]
        exact ⟨by decide, by decide⟩
      · exact .inr h'
    · exact .inl h
  have ta : 0 < x.natAbs → 0 < t1 := fun h => by
    rcases Nat.eq_zero_or_pos t1 with h' | h'
    · rw [h', List.take_zero] at av
      have : F.val [] = 0 := rfl
      omega
    · exact h'
  have tb : 0 < y.natAbs → 0 < t2 := fun h => by
    rcases Nat.eq_zero_or_pos t2 with h' | h'
    · rw [h', List.take_zero] at bv
      have : F.val [] = 0 := rfl
      omega
    · exact h'
  · · obtain ⟨os, o1, o2, o3, o4, hp⟩ := rp_c l1 l2 t1 t2 a2 b2 a1 b1 (by omega) (by omega) (by omega)
      have ov : F.val (os.take os.length) = x.natAbs + y.natAbs := by rw [List.take_length, o2, av, bv]
      exact fsp_flat [] [] [] [] [] n0 (pq_pp x y l1 l2 os t1 t2 os.length hsm ha hb (ne_q x false (by simp [hx0])) (ne_q y false (by simp [hy0])) hp (fun n0 b h => sg_q n0 b os os.length false (x + y) h (Nat.le_refl _) (by omega) o1 (fun _ => by rw [ov]; omega) (by rw [ov]; simp; omega))) rfl rfl rfl (by simp) (by simp) hG rfl rfl rfl (by simp) (by simp) rfl rfl rfl
end Go.Proofs.YtbjpjoodjbmicaaGreatDoor
