import Derived.Test.YtjbflfbhfnkmlaaGreatDoorK
import Derived.Test.YtjbflfbhfnkmlaaGreatDoorLF
import Derived.Test.YtjbflfbhfnkmlaaGreatDoorAl
import Derived.Test.YtjbflfbhfnkmlaaGreatDoorPToInt
import Derived.Test.YtjbflfbhfnkmlaaGreatDoorWfB
import Derived.Test.YtjbflfbhfnkmlaaGreatDoorLE
import Derived.Laws.Strings
import Derived.Test.YtjbflfbhfnkmlaaGreatDoorPTurn
set_option linter.unusedVariables false
set_option linter.unusedSimpArgs false
set_option maxRecDepth 100000
namespace Go.Proofs.YtjbflfbhfnkmlaaGreatDoor
open Go Go.AE Seg
theorem gob1_eq : Cn.gob1 = gob1 := by kernel_rfl
theorem gl_eq : Cn.gl = [(0, Cn.gob0), (1, gob1), (2, Cn.gob2), (3, Cn.gob3)] := by rw [← gob1_eq]; rfl
theorem counted_c (n : Nat) : FT 15 #[] n [(0, Cn.gob0), (1, gob1), (2, Cn.gob2), (3, Cn.gob3)] bT [(0, some Cn.gob0), (1, some gob1), (2, some Cn.gob2), (3, some Cn.gob3)] [] := by
  have h := fsp_of_tell Cn.tell0 Cn.glOK (by kernel_rfl) (by kernel_rfl) n
  rw [gl_eq] at h
  exact h
end Go.Proofs.YtjbflfbhfnkmlaaGreatDoor
set_option maxRecDepth 100000
namespace Go.Proofs.YtjbflfbhfnkmlaaGreatDoor.Cn
open Go Go.AE Cn.Seg
noncomputable def ce1 (k : Int) : AS := ⟨Frame.enter Tryz.prog 106 #[.iface 159 (.agg #[.int .i64 k])] .normal, [], h0⟩
theorem ce_run (k : Int) : ((iter stp0 1000 (ce1 k)).bind fun s => (afinal Tryz.prog s).map fun r => (r.1, Nat.beq s.fr.fn 106)) = some (.int .i64 k, true) := by kernel_rfl
theorem tellE (k : Int) : TellG Tryz.prog 5 gl 106 #[.iface 159 (.agg #[.int .i64 k])] (.int .i64 k) := by
  obtain ⟨s, h1, h2⟩ := Option.bind_eq_some_iff.1 (ce_run k)
  obtain ⟨⟨v, h⟩, h3, h4⟩ := Option.map_eq_some_iff.1 h2
  simp only [Prod.mk.injEq] at h4
  obtain ⟨h4, h5⟩ := h4
  refine tell_of_segs (h' := s.h) (by kernel_rfl) (by kernel_rfl) (fun ρ w cs0 H => ?_) (by rw [h3]; exact congrArg some h4) h5 rfl
  have S : StepTo Tryz.prog 5 ρ (ce1 k) (ce1 k) (Frame.enter Tryz.prog 106 #[.iface 159 (.agg #[.int .i64 k])] .normal) [] cs0 w := start_ok H (closedArr_ren _ _ (by kernel_rfl))
  obtain ⟨ρ1, fa, ca, wa, H1, E1, S1⟩ := S
  obtain ⟨ρ2, fb, cb, wb, H2, E2, S2⟩ := iterS_ok (cs0 := cs0) stp0_ok 1000 H1 h1
  exact ⟨ρ2, fb, cb, wb, H2, E1.trans E2, S1.trans S2⟩
end Go.Proofs.YtjbflfbhfnkmlaaGreatDoor.Cn
set_option maxRecDepth 100000
namespace Go.Proofs.YtjbflfbhfnkmlaaGreatDoor
open Go Go.AE Seg
noncomputable section
abbrev z_12d_0 (t : ByteArray) : AS := ⟨Frame.enter Tryz.prog 143 #[(.string t)] .normal, [], mkH 5 []⟩
abbrev z_12d_1 (t : ByteArray) : List Value := [bF, (.string t), (nI t.size), (.string t), (nI t.size), undef, undef, undef, undef, undef, undef, undef, undef, undef, undef, undef, undef, undef, undef, undef, undef]
end
theorem byte_45y {c : UInt8} (h : c = 45) : (((c.toNat : Nat) : Int) == (45 : Int)) = true := by subst h; rfl
theorem byte_45n {c : UInt8} (h : c ≠ 45) : (((c.toNat : Nat) : Int) == (45 : Int)) = false := by
  rw [beq_eq_false_iff_ne]; intro h1; exact h (by apply UInt8.toNat_inj.1; show c.toNat = 45; omega)
theorem rd_e  : CT 143 #[(.string (bts []))] (mkH 5 []) bF (mkH 5 []) :=
  sF (sc := [(27, .stay)]) (by kernel_rfl) tt (Gets.refl _)
theorem rd_ec (n0 : Nat)  (hG : 5 ≤ n0) : FT 143 #[(.string (bts []))] n0 [] bF [] [] :=
  fsp_flat [] [] [] [] [] n0 (rd_e) rfl rfl rfl (by simp) (by simp) hG rfl rfl rfl (by simp) (by simp) rfl rfl rfl
theorem rd_z (t : ByteArray) (c : UInt8) (h0 : 0 < t.size) (h1 : t.size > 1) (hx : t[0]? = some c) (hc : c = 48)  : CT 143 #[(.string t)] (mkH 5 []) bF (mkH 5 []) :=
  sF (sc := [(9, .op (.rwB false)), (3, .op (.rwB true)), (2, .op (.sidx c)), (0, .op (.rwB true)), (9, .stay)]) (by kernel_rfl) (aI (eF (a := ((t.size : Nat) : Int)) (b := (0 : Int)) (by omega)) (aI (dT (p := ((t.size : Nat) : Int) > (1 : Int)) (by omega)) (aI (show 0 ≤ (0 : Int) ∧ t[Int.toNat (0 : Int)]? = some c from ⟨by omega, hx⟩) (aI (show (((c.toNat : Nat) : Int) == (48 : Int)) = true from (byte_0 hc)) tt)))) (Gets.refl _)
theorem rd_zc (n0 : Nat) (t : ByteArray) (c : UInt8) (hG : 5 ≤ n0) (h0 : 0 < t.size) (h1 : t.size > 1) (hx : t[0]? = some c) (hc : c = 48) : FT 143 #[(.string t)] n0 [] bF [] [] :=
  fsp_flat [] [] [] [] [] n0 (rd_z t c h0 h1 hx hc) rfl rfl rfl (by simp) (by simp) hG rfl rfl rfl (by simp) (by simp) rfl rfl rfl
noncomputable def rdb_h_f (t : ByteArray) (i : Nat) (jc : List Value) (j : List Value) : Frame := ⟨143, List.toArray [(.string t), uu, (J j 0), (nI i), (J j 1), (J j 2), bF, bF, (J j 3), (J j 4), (J jc 0), (J jc 1), (J jc 2), (J jc 3), (J jc 4), bF, bF, (J j 5), (J j 6), (J j 7), (J j 8), (J j 9), (J j 10), (J j 11), (J j 12), (J j 13), (J j 14), (J j 15), (J j 16), (J j 17), (J j 18), (J j 19), (J j 20)], [.code (cd Tryz.f143 [1, 1, 0, 1, 0, 0]), .inLoop (cd Tryz.f143 [1, 1, 0, 1, 0, 0]), .inBlock 0, .code (cd Tryz.f143 [1, 1, 1])], [], .run, .normal, none⟩
noncomputable def rdb_h_o (t : ByteArray) (i : Nat) (jc : List Value) : List (Nat × AObj) := []
noncomputable def rdb_h (t : ByteArray) (i : Nat) (jc : List Value) (j : List Value) : AS := ⟨rdb_h_f t i jc j, [], mkH 5 (rdb_h_o t i jc)⟩
theorem rdb_in1 (t : ByteArray) (h0 : 0 < t.size) (h1 : ¬ t.size > 1)  : GT (z_12d_0 t) (rdb_h t 0 ([bF, bF, undef, undef, undef]) (z_12d_1 t)) :=
  sR (sc := [(9, .op (.rwB false)), (3, .op (.rwB false)), (16, .stay)]) (by kernel_rfl) (aI (eF (a := ((t.size : Nat) : Int)) (b := (0 : Int)) (by omega)) (aI (dF (p := ((t.size : Nat) : Int) > (1 : Int)) (by omega)) tt))
theorem rdb_in2 (t : ByteArray) (h0 : 0 < t.size) (h1 : t.size > 1) (c : UInt8) (hc : c ≠ 48) (hx : t[0]? = some c)  : GT (z_12d_0 t) (rdb_h t 0 ([bT, bT, (.string t), (nB c.toNat), bF]) (z_12d_1 t)) :=
  sR (sc := [(9, .op (.rwB false)), (3, .op (.rwB true)), (2, .op (.sidx c)), (0, .op (.rwB false)), (12, .stay)]) (by kernel_rfl) (aI (eF (a := ((t.size : Nat) : Int)) (b := (0 : Int)) (by omega)) (aI (dT (p := ((t.size : Nat) : Int) > (1 : Int)) (by omega)) (aI (show 0 ≤ (0 : Int) ∧ t[Int.toNat (0 : Int)]? = some c from ⟨by omega, hx⟩) (aI (show (((c.toNat : Nat) : Int) == (48 : Int)) = false from (byte_n0 hc)) tt))))
theorem rdb_r (t : ByteArray) (i : Nat) (c : UInt8) (j jc : List Value) (hi : i < t.size) (hm : t.size < 1099511627776) (hx : t[i]? = some c) (h1 : 48 ≤ c.toNat) (h2 : c.toNat ≤ 57)  : GT (rdb_h t i jc j) (rdb_h t (i + 1) ([(J jc 0), (J jc 1), (J jc 2), (J jc 3), (J jc 4)]) [(J j 0), (J j 1), (J j 2), (J j 3), (J j 4), (nI i), (.string t), (nI t.size), bT, (nI i), (nI (i + 1)), (.string t), (nI i), (nB c.toNat), bF, bF, (.string t), (nI i), (nB c.toNat), bF, bF]) :=
  sR (sc := [(6, .op (.rwB true)), (9, .op (.sidx c)), (0, .op (.rwB false)), (3, .op (.sidx c)), (0, .op (.rwB false)), (7, .op (.rwI (((i + 1) : Nat) : Int))), (3, .stay)]) (by kernel_rfl) (aI (dT (p := (i : Int) < ((t.size : Nat) : Int)) (by omega)) (aI (show 0 ≤ (i : Int) ∧ t[Int.toNat (i : Int)]? = some c from ⟨by omega, hx⟩) (aI (dF (p := ((c.toNat : Nat) : Int) < (48 : Int)) (by omega)) (aI (show 0 ≤ (i : Int) ∧ t[Int.toNat (i : Int)]? = some c from ⟨by omega, hx⟩) (aI (dF (p := ((c.toNat : Nat) : Int) > (57 : Int)) (by omega)) (aI (wI64 (a := ((i : Int) + (1 : Int))) (r := (((i + 1) : Nat) : Int)) (by omega)) tt))))))
theorem rdb_a (t : ByteArray) (i : Nat) (c : UInt8) (j jc : List Value) (hi : i < t.size) (hm : t.size < 1099511627776) (hx : t[i]? = some c) (h1 : c.toNat < 48)  (hr : GT (z_12d_0 t) (rdb_h t i jc j)) : CT 143 #[(.string t)] (mkH 5 []) bF (mkH 5 []) :=
  sF (sc := [(6, .op (.rwB true)), (9, .op (.sidx c)), (0, .op (.rwB true)), (13, .stay)]) (by kernel_rfl) (aI (dT (p := (i : Int) < ((t.size : Nat) : Int)) (by omega)) (aI (show 0 ≤ (i : Int) ∧ t[Int.toNat (i : Int)]? = some c from ⟨by omega, hx⟩) (aI (dT (p := ((c.toNat : Nat) : Int) < (48 : Int)) (by omega)) tt))) hr
theorem rdb_b (t : ByteArray) (i : Nat) (c : UInt8) (j jc : List Value) (hi : i < t.size) (hm : t.size < 1099511627776) (hx : t[i]? = some c) (h1 : 48 ≤ c.toNat) (h2 : 57 < c.toNat)  (hr : GT (z_12d_0 t) (rdb_h t i jc j)) : CT 143 #[(.string t)] (mkH 5 []) bF (mkH 5 []) :=
  sF (sc := [(6, .op (.rwB true)), (9, .op (.sidx c)), (0, .op (.rwB false)), (3, .op (.sidx c)), (0, .op (.rwB true)), (8, .stay)]) (by kernel_rfl) (aI (dT (p := (i : Int) < ((t.size : Nat) : Int)) (by omega)) (aI (show 0 ≤ (i : Int) ∧ t[Int.toNat (i : Int)]? = some c from ⟨by omega, hx⟩) (aI (dF (p := ((c.toNat : Nat) : Int) < (48 : Int)) (by omega)) (aI (show 0 ≤ (i : Int) ∧ t[Int.toNat (i : Int)]? = some c from ⟨by omega, hx⟩) (aI (dT (p := ((c.toNat : Nat) : Int) > (57 : Int)) (by omega)) tt))))) hr
theorem rdb_loop {t : ByteArray} {P : Nat} (hP : P < t.size) (hm : t.size < 1099511627776) (hg : ∀ q (hq : q < P), isD (t[q]'(by omega)) = true) (hb : isD (t[P]'hP) = false) : ∀ (k i : Nat) (j jc : List Value), k = P - i → i ≤ P → GT ⟨Frame.enter Tryz.prog 143 #[(.string t)] .normal, [], mkH 5 []⟩ (rdb_h t i jc j) → CT 143 #[(.string t)] (mkH 5 []) bF (mkH 5 []) := by
  intro k
  induction k with
  | zero =>
    intro i j jc hk hi hr
    have hpp : i = P := by omega
    subst hpp
    rcases Nat.lt_or_ge (t[i]'hP).toNat 48 with h1 | h1
    · exact rdb_a t i _ j jc hP hm (getElem?_pos t i hP) h1 hr
    · refine rdb_b t i _ j jc hP hm (getElem?_pos t i hP) h1 ?_ hr
      rcases Nat.lt_or_ge 57 (t[i]'hP).toNat with h2 | h2
      · exact h2
      · simp [isD, h1, h2] at hb
  | succ k ih =>
    intro i j jc hk hi hr
    have h1 := hg i (by omega)
    simp only [isD, Bool.and_eq_true, decide_eq_true_eq] at h1
    exact ih (i + 1) _ _ (by omega) (by omega) (hr.trans (rdb_r t i _ j jc (by omega) hm (getElem?_pos t i (by omega)) h1.1 h1.2))
theorem rdb_c (n0 : Nat) (t : ByteArray) (hG : 5 ≤ n0) (hm : t.size < 1099511627776) {P : Nat} (hP : P < t.size) (hg : ∀ q (hq : q < P), isD (t[q]'(by omega)) = true) (hb : isD (t[P]'hP) = false) : FT 143 #[.string t] n0 [] bF [] [] := by
  by_cases h1 : t.size > 1
  · by_cases hc : t[0]'(by omega) = 48
    · exact rd_zc n0 t _ hG (by omega) h1 (getElem?_pos t 0 (by omega)) hc
    · exact fsp_flat [] [] [] [] [] n0 (rdb_loop hP hm hg hb _ 0 _ _ rfl (Nat.zero_le _) (rdb_in2 t (by omega) h1 _ hc (getElem?_pos t 0 (by omega)))) rfl rfl rfl (by simp) (by simp) hG rfl rfl rfl (by simp) (by simp) rfl rfl rfl
  · exact fsp_flat [] [] [] [] [] n0 (rdb_loop hP hm hg hb _ 0 _ _ rfl (Nat.zero_le _) (rdb_in1 t (by omega) h1)) rfl rfl rfl (by simp) (by simp) hG rfl rfl rfl (by simp) (by simp) rfl rfl rfl
theorem nb_e  : CT 44 #[(.string (bts []))] (mkH 5 []) bF (mkH 5 []) :=
  sF (sc := [(17, .stay)]) (by kernel_rfl) tt (Gets.refl _)
theorem nb_ec (n0 : Nat)  (hG : 5 ≤ n0) : FT 44 #[(.string (bts []))] n0 [] bF [] [] :=
  fsp_flat [] [] [] [] [] n0 (nb_e) rfl rfl rfl (by simp) (by simp) hG rfl rfl rfl (by simp) (by simp) rfl rfl rfl
theorem nb_n (s : ByteArray) (c : UInt8) (h0 : 0 < s.size) (hx : s[0]? = some c) (hc : c ≠ 45)  : CT 44 #[(.string s)] (mkH 5 []) bF (mkH 5 []) :=
  sF (sc := [(8, .op (.rwB true)), (2, .op (.sidx c)), (0, .op (.rwB false)), (4, .stay)]) (by kernel_rfl) (aI (dT (p := ((s.size : Nat) : Int) > (0 : Int)) (by omega)) (aI (show 0 ≤ (0 : Int) ∧ s[Int.toNat (0 : Int)]? = some c from ⟨by omega, hx⟩) (aI (show (((c.toNat : Nat) : Int) == (45 : Int)) = false from (byte_45n hc)) tt))) (Gets.refl _)
theorem nb_nc (n0 : Nat) (s : ByteArray) (c : UInt8) (hG : 5 ≤ n0) (h0 : 0 < s.size) (hx : s[0]? = some c) (hc : c ≠ 45) : FT 44 #[(.string s)] n0 [] bF [] [] :=
  fsp_flat [] [] [] [] [] n0 (nb_n s c h0 hx hc) rfl rfl rfl (by simp) (by simp) hG rfl rfl rfl (by simp) (by simp) rfl rfl rfl
theorem nb_y (s : ByteArray) (c : UInt8) (h0 : 0 < s.size) (hx : s[0]? = some c) (hc : c = 45)  : CT 44 #[(.string s)] (mkH 5 []) bT (mkH 5 []) :=
  sF (sc := [(8, .op (.rwB true)), (2, .op (.sidx c)), (0, .op (.rwB true)), (4, .stay)]) (by kernel_rfl) (aI (dT (p := ((s.size : Nat) : Int) > (0 : Int)) (by omega)) (aI (show 0 ≤ (0 : Int) ∧ s[Int.toNat (0 : Int)]? = some c from ⟨by omega, hx⟩) (aI (show (((c.toNat : Nat) : Int) == (45 : Int)) = true from (byte_45y hc)) tt))) (Gets.refl _)
theorem nb_yc (n0 : Nat) (s : ByteArray) (c : UInt8) (hG : 5 ≤ n0) (h0 : 0 < s.size) (hx : s[0]? = some c) (hc : c = 45) : FT 44 #[(.string s)] n0 [] bT [] [] :=
  fsp_flat [] [] [] [] [] n0 (nb_y s c h0 hx hc) rfl rfl rfl (by simp) (by simp) hG rfl rfl rfl (by simp) (by simp) rfl rfl rfl
theorem abn (s : ByteArray) (hn : ∀ n0, 5 ≤ n0 → FT 44 #[.string s] n0 [] bF [] [])  : CT 43 #[(.string s)] (mkH 5 []) (.string s) (mkH 5 []) :=
  sF (sc := [(8, .call [] bF [] []), (9, .stay)]) (by kernel_rfl) (aI (hn 5 (by omega)) tt) (Gets.refl _)
theorem abnc (n0 : Nat) (s : ByteArray) (hG : 5 ≤ n0) (hn : ∀ n0, 5 ≤ n0 → FT 44 #[.string s] n0 [] bF [] []) : FT 43 #[(.string s)] n0 [] (.string s) [] [] :=
  fsp_flat [] [] [] [] [] n0 (abn s hn) rfl rfl rfl (by simp) (by simp) hG rfl rfl rfl (by simp) (by simp) rfl rfl rfl
theorem aby (s t : ByteArray) (hn : ∀ n0, 5 ≤ n0 → FT 44 #[.string s] n0 [] bT [] []) (h0 : 0 < s.size) (hu : s.extract 1 s.size = t)  : CT 43 #[(.string s)] (mkH 5 []) (.string t) (mkH 5 []) :=
  sF (sc := [(8, .call [] bT [] []), (5, .op (.sslc t)), (3, .stay)]) (by kernel_rfl) (aI (hn 5 (by omega)) (aI (show 0 ≤ (1 : Int) ∧ (1 : Int) ≤ ((s.size : Nat) : Int) ∧ ((s.size : Nat) : Int) ≤ ((s.size : Nat) : Int) ∧ s.extract (Int.toNat (1 : Int)) (Int.toNat ((s.size : Nat) : Int)) = t from ⟨by omega, by omega, by omega, hu⟩) tt)) (Gets.refl _)
theorem abyc (n0 : Nat) (s t : ByteArray) (hG : 5 ≤ n0) (hn : ∀ n0, 5 ≤ n0 → FT 44 #[.string s] n0 [] bT [] []) (h0 : 0 < s.size) (hu : s.extract 1 s.size = t) : FT 43 #[(.string s)] n0 [] (.string t) [] [] :=
  fsp_flat [] [] [] [] [] n0 (aby s t hn h0 hu) rfl rfl rfl (by simp) (by simp) hG rfl rfl rfl (by simp) (by simp) rfl rfl rfl
theorem fob (s t : ByteArray) (ha : ∀ n0, 5 ≤ n0 → FT 43 #[.string s] n0 [] (.string t) [] []) (hd : ∀ n0, 5 ≤ n0 → FT 143 #[.string t] n0 [] bF [] [])  : CT 104 #[(.string s)] (mkH 5 []) bF (mkH 5 []) :=
  sF (sc := [(7, .call [] (.string t) [] []), (0, .call [] bF [] []), (7, .stay)]) (by kernel_rfl) (aI (ha 5 (by omega)) (aI (hd 5 (by omega)) tt)) (Gets.refl _)
theorem fobc (n0 : Nat) (s t : ByteArray) (hG : 5 ≤ n0) (ha : ∀ n0, 5 ≤ n0 → FT 43 #[.string s] n0 [] (.string t) [] []) (hd : ∀ n0, 5 ≤ n0 → FT 143 #[.string t] n0 [] bF [] []) : FT 104 #[(.string s)] n0 [] bF [] [] :=
  fsp_flat [] [] [] [] [] n0 (fob s t ha hd) rfl rfl rfl (by simp) (by simp) hG rfl rfl rfl (by simp) (by simp) rfl rfl rfl
theorem ckb (s : ByteArray) (hf : ∀ n0, 5 ≤ n0 → FT 104 #[.string s] n0 [] bF [] [])  : CT 74 #[(.string s)] (mkH 5 []) (lI 1) (mkH 5 []) :=
  sF (sc := [(8, .call [] bF [] []), (8, .stay)]) (by kernel_rfl) (aI (hf 5 (by omega)) tt) (Gets.refl _)
theorem ckbc (n0 : Nat) (s : ByteArray) (hG : 5 ≤ n0) (hf : ∀ n0, 5 ≤ n0 → FT 104 #[.string s] n0 [] bF [] []) : FT 74 #[(.string s)] n0 [] (lI 1) [] [] :=
  fsp_flat [] [] [] [] [] n0 (ckb s hf) rfl rfl rfl (by simp) (by simp) hG rfl rfl rfl (by simp) (by simp) rfl rfl rfl
theorem rd_0 (n0 : Nat) (hG : 5 ≤ n0) : FT 143 #[.string (Seg.bts [48])] n0 [] bT [] [] :=
  rdg_c1 n0 [0] hG (by decide) (by decide) (by decide) (fun h => absurd h (by decide))
theorem fom0  : CT 104 #[(.string (bts [45,48]))] (mkH 5 []) bF (mkH 5 []) :=
  sF (sc := [(45, .call [] bT [] []), (7, .stay)]) (by kernel_rfl) (aI (rd_0 5 (by omega)) tt) (Gets.refl _)
theorem fom0c (n0 : Nat)  (hG : 5 ≤ n0) : FT 104 #[(.string (bts [45,48]))] n0 [] bF [] [] :=
  fsp_flat [] [] [] [] [] n0 (fom0) rfl rfl rfl (by simp) (by simp) hG rfl rfl rfl (by simp) (by simp) rfl rfl rfl
theorem istr_of {ds : List Nat} (hd : Dig ds) (h0 : 0 < ds.length) (h : ds = [0] ∨ ds.getD 0 0 ≠ 0) : ∃ z : Int, dstr ds = istr z := by
  rcases h with h | h
  · subst h; exact ⟨0, by rw [show (0 : Int) = ((0 : Nat) : Int) from rfl, istr_nn, digs_small (by decide)]⟩
  · obtain ⟨n, hn⟩ : ∃ n, ds.length = n + 1 := ⟨ds.length - 1, by omega⟩
    exact ⟨(dval ds : Nat), by rw [istr_nn, (digs_dval n ds hn hd h).1]⟩
theorem istr_of_m {ds : List Nat} (hd : Dig ds) (h0 : 0 < ds.length) (h : ds.getD 0 0 ≠ 0) : ∃ z : Int, mstr ds = istr z := by
  obtain ⟨n, hn⟩ : ∃ n, ds.length = n + 1 := ⟨ds.length - 1, by omega⟩
  have := digs_dval n ds hn hd h
  exact ⟨-((dval ds : Nat) : Int), by rw [istr_neg this.2, this.1]⟩
def NoNum (s : ByteArray) : Prop := (∀ n0, 5 ≤ n0 → FT 145 #[.string s] n0 [] (lI 0) [] []) ∧ ∀ n0, 5 ≤ n0 → FT 74 #[.string s] n0 [] (lI 1) [] []
theorem nonum {s t : ByteArray} (hw : ∀ n0, 5 ≤ n0 → FT 127 #[.string s, .int .i64 (.ofNat 10)] n0 [] bF [] []) (ha : ∀ n0, 5 ≤ n0 → FT 43 #[.string s] n0 [] (.string t) [] []) (hd : ∀ n0, 5 ≤ n0 → FT 143 #[.string t] n0 [] bF [] []) : NoNum s :=
  ⟨fun n0 h => kifc n0 s h hw, fun n0 h => ckbc n0 s h fun n1 h1 => fobc n1 s t h1 ha hd⟩
theorem str_any (s : ByteArray) (hm : s.size < 1099511627776) : (∃ z : Int, s = istr z) ∨ NoNum s := by
  generalize hl : s.data.toList = l
  have hs := ba_ext hl
  subst hs
  cases l with
  | nil => exact .inr (nonum (fun n0 hG => wbpec n0 _ hG (fun n1 h1 => so_ec n1 h1)) (fun n0 h => abnc n0 _ h fun n1 h1 => nb_ec n1 h1) (fun n0 h => rd_ec n0 h))
  | cons b l =>
    have hsz : (⟨(b :: l).toArray⟩ : ByteArray).size = l.length + 1 := by simp [ByteArray.size]
    rw [hsz] at hm
    have hgx : (⟨(b :: l).toArray⟩ : ByteArray)[0]? = some b := rfl
    by_cases hb : b = 45
    · subst hb
      have hS : ∀ n0, 5 ≤ n0 → FT 128 #[.string ⟨((45 : UInt8) :: l).toArray⟩] n0 [] (.tuple #[.bool true, .string ⟨l.toArray⟩]) [] [] :=
        fun n0 h => so_tc n0 _ _ h (by rw [hsz]; omega) (ba_cut 45 l) (ba_rest 45 l)
      have hA : ∀ n0, 5 ≤ n0 → FT 43 #[.string ⟨((45 : UInt8) :: l).toArray⟩] n0 [] (.string ⟨l.toArray⟩) [] [] :=
        fun n0 h => abyc n0 _ _ h (fun n1 h1 => nb_yc n1 _ 45 h1 (by rw [hsz]; omega) hgx rfl) (by rw [hsz]; omega) (ba_rest 45 l)
      cases l with
      | nil => exact .inr (nonum (fun n0 hG => wbmec n0 _ hG hS) hA (fun n0 h => rd_ec n0 h))
      | cons c l =>
        have hsz2 : (⟨(c :: l).toArray⟩ : ByteArray).size = l.length + 1 := by simp [ByteArray.size]
        have hm2 : (c :: l).length = l.length + 1 := rfl
        rw [hm2] at hm
        have hne := ba_ne (c :: l) [] (by simp)
        have hx : (⟨(c :: l).toArray⟩ : ByteArray)[0]? = some c := rfl
        by_cases hc : c = 48
        · by_cases hl0 : l = []
          · subst hc hl0
            exact .inr ⟨fun n0 h => kifc n0 _ h fun n1 h1 => wbmzc n1 _ _ 48 h1 hS hne hx rfl, fun n0 h => ckbc n0 _ h fun n1 h1 => fom0c n1 h1⟩
          · exact .inr (nonum (fun n0 hG => wbmzc n0 _ _ c hG hS hne hx hc) hA (fun n0 h => rd_zc n0 _ c h (by rw [hsz2]; omega) (by rw [hsz2]; have := List.length_pos_iff.2 hl0; omega) hx hc))
        · rcases bytes_cases ⟨(c :: l).toArray⟩ with ⟨hd, he⟩ | ⟨P, hP, hg, hbad⟩
          · obtain ⟨z, hz⟩ := istr_of_m hd (by simp [dsOf]) (ds_head he hc)
            exact .inl ⟨z, (ds_m he).trans hz⟩
          · exact .inr (nonum (fun n0 hG => wbmxc n0 _ _ c hG hS hne hx hc hP hg hbad) hA (fun n0 h => rdb_c n0 _ h (by rw [hsz2]; omega) hP hg hbad))
    · have hS : ∀ n0, 5 ≤ n0 → FT 128 #[.string ⟨(b :: l).toArray⟩] n0 [] (.tuple #[.bool false, .string ⟨(b :: l).toArray⟩]) [] [] :=
        fun n0 h => so_nc n0 _ _ h (by rw [hsz]; omega) (ba_cut b l) (ba_ne [b] [45] (by simpa using hb))
      have hA : ∀ n0, 5 ≤ n0 → FT 43 #[.string ⟨(b :: l).toArray⟩] n0 [] (.string ⟨(b :: l).toArray⟩) [] [] :=
        fun n0 h => abnc n0 _ h fun n1 h1 => nb_nc n1 _ b h1 (by rw [hsz]; omega) hgx hb
      have hne := ba_ne (b :: l) [] (by simp)
      by_cases hc : b = 48
      · by_cases hl0 : l = []
        · subst hc hl0
          obtain ⟨z, hz⟩ := istr_of (ds := [0]) (by decide) (by decide) (.inl rfl)
          exact .inl ⟨z, hz⟩
        · exact .inr (nonum (fun n0 hG => wbpzc n0 _ _ b hG hS hne hgx hc (congrArg not (ba_ne (b :: l) [48] (by simp [hl0])))) hA (fun n0 h => rd_zc n0 _ b h (by rw [hsz]; omega) (by rw [hsz]; have := List.length_pos_iff.2 hl0; omega) hgx hc))
      · rcases bytes_cases ⟨(b :: l).toArray⟩ with ⟨hd, he⟩ | ⟨P, hP, hg, hbad⟩
        · obtain ⟨z, hz⟩ := istr_of hd (by simp [dsOf]) (.inr (ds_head he hc))
          exact .inl ⟨z, he.symm.trans hz⟩
        · exact .inr (nonum (fun n0 hG => wbpxc n0 _ _ b hG hS hne hgx hc hP hg hbad) hA (fun n0 h => rdb_c n0 _ h (by rw [hsz]; omega) hP hg hbad))
theorem ab_i (z : Int) (n0 : Nat) (hG : 5 ≤ n0) : FT 43 #[.string (istr z)] n0 [] (.string (dstr (digs z.natAbs))) [] [] := by
  rcases int_cases z with ⟨k, rfl, hm⟩ | ⟨k, h0, rfl, hm⟩
  · rw [istr_nn, hm]
    exact ab_pc n0 _ hG (digs_dig _) (digs_len_pos _)
  · rw [istr_neg h0, hm]
    exact ab_mc n0 _ hG
theorem fo_i (z : Int) (n0 : Nat) (hG : 5 ≤ n0) (hz : (digs z.natAbs).length < 1099511627776) : FT 104 #[.string (istr z)] n0 [] bT [] [] := by
  rcases int_cases z with ⟨k, rfl, hm⟩ | ⟨k, h0, rfl, hm⟩
  · rw [istr_nn]
    rw [hm] at hz
    exact fo_pc n0 _ hG (digs_dig _) (digs_len_pos _) hz (fun h => digs_head k (by
      rcases Nat.eq_zero_or_pos k with q | q
      · rw [q, digs_zero] at h
        exact absurd h (by decide)
      · exact q))
  · rw [istr_neg h0]
    rw [hm] at hz
    exact fo_mc n0 _ hG (digs_dig _) (digs_len_pos _) hz (fun _ => digs_head k h0) (digs_head k h0)
theorem ck_o (z : Int) (hz : (digs z.natAbs).length ≤ 400)  : CT 74 #[(.string (istr z))] (mkH 5 []) (lI 0) (mkH 5 []) :=
  sF (sc := [(8, .call [] bT [] []), (8, .call [] (.string (dstr (digs z.natAbs))) [] []), (1, .op (.rwB false)), (8, .stay)]) (by kernel_rfl) (aI (fo_i z 5 (by omega) (by omega)) (aI (ab_i z 5 (by omega)) (aI (show decide ((((dstr (digs z.natAbs)).size : Nat) : Int) > (400 : Int)) = false from (by simp only [decide_eq_true_eq, decide_eq_false_iff_not, dstr_size, gt_iff_lt] <;> omega)) tt))) (Gets.refl _)
theorem ck_i (z : Int) (n0 : Nat) (hG : 5 ≤ n0) (hz : (digs z.natAbs).length ≤ 400) : FT 74 #[.string (istr z)] n0 [] (lI 0) [] [] :=
  fsp_flat [] [] [] [] [] n0 (ck_o z hz) rfl rfl rfl (by simp) (by simp) hG rfl rfl rfl (by simp) (by simp) rfl rfl rfl
noncomputable def smp_h_f (ds : List Nat) (l p : Nat) (j : List Value) : Frame := ⟨109, List.toArray [(.string (dstr ds)), uu, (lI 0), bF, (.string (dstr ds)), (nI l), uu, (J j 0), (J j 1), (J j 2), (J j 3), bF, (J j 4), (J j 5), (pt 5), (J j 6), (J j 7), (J j 8), (J j 9), (J j 10), (J j 11), (J j 12), (J j 13), (J j 14), uu, uu, uu, uu, uu], [.code (cd Tryz.f109 [1, 1, 1, 0, 1, 0, 0]), .inLoop (cd Tryz.f109 [1, 1, 1, 0, 1, 0, 0]), .inBlock 0, .code (cd Tryz.f109 [1, 1, 1, 1])], [], .run, .normal, none⟩
noncomputable def smp_h_o (ds : List Nat) (l p : Nat) : List (Nat × AObj) := [(5, (.iter (dstr ds) p))]
noncomputable def smp_h (ds : List Nat) (l p : Nat) (j : List Value) : AS := ⟨smp_h_f ds l p j, [], mkH 6 (smp_h_o ds l p)⟩
theorem smp_in (ds : List Nat) (hd : Dig ds) (h0 : 0 < ds.length)  : GT ⟨Frame.enter Tryz.prog 109 #[(.string (dstr ds))] .normal, [], mkH 5 []⟩ (smp_h ds 0 0 [undef, (.tuple #[bF,(.string (dstr ds))]), (.string (dstr ds)), (.tuple #[bF,(.string (dstr ds))]), (.string (dstr ds)), (.string (dstr ds)), undef, undef, undef, undef, undef, undef, undef, undef, undef]) :=
  sR (sc := [(7, .call [] (.tuple #[bF,(.string (dstr ds))]) [] []), (18, .stay)]) (by kernel_rfl) (aI (so_pc 5 ds (by omega) hd h0) tt)
theorem smp_r (ds : List Nat) (l p q : Nat) (j : List Value) (hq : q < 10) (hl : l < 100000000000000000) (hp : p < (dstr ds).size) (he : Utf8.decode (dstr ds) p = (48 + q, 1))  : GT (smp_h ds l p j) (smp_h ds ((l * 10) + q) (p + 1) [(nR (48 + q)), (J j 1), (J j 2), (J j 3), (J j 4), (J j 5), (.tuple #[bT,(nI p),(nR (48 + q))]), bT, (nR (48 + q)), (nI l), (nI (l * 10)), (nR (48 + q)), (nR q), (nI q), (nI ((l * 10) + q))]) :=
  sR (sc := [(2, .op (.nxtC (48 + q) 1 (p + 1))), (13, .op (.rwI (((l * 10) : Nat) : Int))), (1, .op (.rwI (q : Int))), (0, .op (.rwI (q : Int))), (0, .op (.rwI ((((l * 10) + q) : Nat) : Int))), (4, .stay)]) (by kernel_rfl) (aI (show p < (dstr ds).size ∧ Utf8.decode (dstr ds) p = ((48 + q), 1) ∧ p + 1 = (p + 1) from ⟨hp, he, rfl⟩) (aI (wI64 (a := ((l : Int) * (10 : Int))) (r := (((l * 10) : Nat) : Int)) (by omega)) (aI (wI32 (a := ((((48 + q) : Nat) : Int) - (48 : Int))) (r := (q : Int)) (by omega)) (aI (wI64 (a := (q : Int)) (r := (q : Int)) (by omega)) (aI (wI64 (a := ((((l * 10) : Nat) : Int) + (q : Int))) (r := ((((l * 10) + q) : Nat) : Int)) (by omega)) tt)))))
theorem smp_o (ds : List Nat) (l p : Nat) (j : List Value) (hl : l < 1000000000000000000) (hp : (dstr ds).size ≤ p)  (hr : GT ⟨Frame.enter Tryz.prog 109 #[(.string (dstr ds))] .normal, [], mkH 5 []⟩ (smp_h ds l p j)) : CT 109 #[(.string (dstr ds))] (mkH 5 []) (nI l) (mkH 6 []) :=
  sF (sc := [(2, .op (.nxtE)), (30, .stay)]) (by kernel_rfl) (aI (show ¬ p < (dstr ds).size from (by omega)) tt) hr
theorem smp_loop {ds : List Nat} (hd : Dig ds) (hL : ds.length ≤ 18) : ∀ (k p : Nat) (j : List Value), k = ds.length - p → p ≤ ds.length →
    GT ⟨Frame.enter Tryz.prog 109 #[(.string (dstr ds))] .normal, [], mkH 5 []⟩ (smp_h ds (dval (ds.take p)) p j) → CT 109 #[(.string (dstr ds))] (mkH 5 []) (nI (dval ds)) (mkH 6 []) := by
  intro k
  induction k with
  | zero =>
    intro p j hk hp hr
    have hlt : dval ds < 1000000000000000000 := by
      have h2 := dval_lt _ hd
      have h3 : 10 ^ ds.length ≤ 10 ^ 18 := Nat.pow_le_pow_right (by decide) hL
      have h4 : (10 : Nat) ^ 18 = 1000000000000000000 := by decide
      omega
    rw [List.take_of_length_le (by omega)] at hr
    exact smp_o ds (dval ds) p j hlt (by rw [dstr_size]; omega) hr
  | succ k ih =>
    intro p j hk hp hr
    have hlt : dval (ds.take p) < 100000000000000000 := by
      have h2 := dval_lt _ (hd.take p)
      have h3 : 10 ^ (ds.take p).length ≤ 10 ^ 17 := Nat.pow_le_pow_right (by decide) (by rw [List.length_take]; omega)
      have h4 : (10 : Nat) ^ 17 = 100000000000000000 := by decide
      omega
    have r := smp_r ds _ p (ds.getD p 0) j (hd.get p) hlt (by rw [dstr_size]; omega) (decode_dstr hd (by omega))
    rw [← dval_take_succ (by omega)] at r
    exact ih (p + 1) _ (by omega) (by omega) (hr.trans r)
theorem smpc (n0 : Nat) (ds : List Nat) (hG : 5 ≤ n0) (hd : Dig ds) (h0 : 0 < ds.length) (hL : ds.length ≤ 18) : FT 109 #[(.string (dstr ds))] n0 [] (nI (dval ds)) [] [] :=
  fsp_flat [] [] [] [] [] n0 (smp_loop hd hL _ _ _ rfl (Nat.zero_le _) (smp_in ds hd h0)) rfl rfl rfl (by simp) (by simp) hG rfl rfl rfl (by simp) (by simp) rfl rfl rfl
noncomputable def smm_h_f (ds : List Nat) (l p : Nat) (j : List Value) : Frame := ⟨109, List.toArray [(.string (mstr ds)), uu, (lI 0), bT, (.string (dstr ds)), (nI l), uu, (J j 0), (J j 1), (J j 2), (J j 3), bT, (J j 4), (J j 5), (pt 5), (J j 6), (J j 7), (J j 8), (J j 9), (J j 10), (J j 11), (J j 12), (J j 13), (J j 14), uu, uu, uu, uu, uu], [.code (cd Tryz.f109 [1, 1, 1, 0, 1, 0, 0]), .inLoop (cd Tryz.f109 [1, 1, 1, 0, 1, 0, 0]), .inBlock 0, .code (cd Tryz.f109 [1, 1, 1, 1])], [], .run, .normal, none⟩
noncomputable def smm_h_o (ds : List Nat) (l p : Nat) : List (Nat × AObj) := [(5, (.iter (dstr ds) p))]
noncomputable def smm_h (ds : List Nat) (l p : Nat) (j : List Value) : AS := ⟨smm_h_f ds l p j, [], mkH 6 (smm_h_o ds l p)⟩
theorem smm_in (ds : List Nat) (hd : Dig ds) (h0 : 0 < ds.length)  : GT ⟨Frame.enter Tryz.prog 109 #[(.string (mstr ds))] .normal, [], mkH 5 []⟩ (smm_h ds 0 0 [undef, (.tuple #[bT,(.string (dstr ds))]), (.string (mstr ds)), (.tuple #[bT,(.string (dstr ds))]), (.string (dstr ds)), (.string (dstr ds)), undef, undef, undef, undef, undef, undef, undef, undef, undef]) :=
  sR (sc := [(7, .call [] (.tuple #[bT,(.string (dstr ds))]) [] []), (18, .stay)]) (by kernel_rfl) (aI (so_mc 5 ds (by omega)) tt)
theorem smm_r (ds : List Nat) (l p q : Nat) (j : List Value) (hq : q < 10) (hl : l < 100000000000000000) (hp : p < (dstr ds).size) (he : Utf8.decode (dstr ds) p = (48 + q, 1))  : GT (smm_h ds l p j) (smm_h ds ((l * 10) + q) (p + 1) [(nR (48 + q)), (J j 1), (J j 2), (J j 3), (J j 4), (J j 5), (.tuple #[bT,(nI p),(nR (48 + q))]), bT, (nR (48 + q)), (nI l), (nI (l * 10)), (nR (48 + q)), (nR q), (nI q), (nI ((l * 10) + q))]) :=
  sR (sc := [(2, .op (.nxtC (48 + q) 1 (p + 1))), (13, .op (.rwI (((l * 10) : Nat) : Int))), (1, .op (.rwI (q : Int))), (0, .op (.rwI (q : Int))), (0, .op (.rwI ((((l * 10) + q) : Nat) : Int))), (4, .stay)]) (by kernel_rfl) (aI (show p < (dstr ds).size ∧ Utf8.decode (dstr ds) p = ((48 + q), 1) ∧ p + 1 = (p + 1) from ⟨hp, he, rfl⟩) (aI (wI64 (a := ((l : Int) * (10 : Int))) (r := (((l * 10) : Nat) : Int)) (by omega)) (aI (wI32 (a := ((((48 + q) : Nat) : Int) - (48 : Int))) (r := (q : Int)) (by omega)) (aI (wI64 (a := (q : Int)) (r := (q : Int)) (by omega)) (aI (wI64 (a := ((((l * 10) : Nat) : Int) + (q : Int))) (r := ((((l * 10) + q) : Nat) : Int)) (by omega)) tt)))))
theorem smm_o (ds : List Nat) (l p : Nat) (j : List Value) (hl : l < 1000000000000000000) (hp : (dstr ds).size ≤ p)  (hr : GT ⟨Frame.enter Tryz.prog 109 #[(.string (mstr ds))] .normal, [], mkH 5 []⟩ (smm_h ds l p j)) : CT 109 #[(.string (mstr ds))] (mkH 5 []) (.int .i64 (-(l : Int))) (mkH 6 []) :=
  sF (sc := [(2, .op (.nxtE)), (26, .op (.rwI (-(l : Int)))), (3, .stay)]) (by kernel_rfl) (aI (show ¬ p < (dstr ds).size from (by omega)) (aI (wI64 (a := ((0 : Int) - (l : Int))) (r := (-(l : Int))) (by omega)) tt)) hr
theorem smm_loop {ds : List Nat} (hd : Dig ds) (hL : ds.length ≤ 18) : ∀ (k p : Nat) (j : List Value), k = ds.length - p → p ≤ ds.length →
    GT ⟨Frame.enter Tryz.prog 109 #[(.string (mstr ds))] .normal, [], mkH 5 []⟩ (smm_h ds (dval (ds.take p)) p j) → CT 109 #[(.string (mstr ds))] (mkH 5 []) (.int .i64 (-((dval ds : Nat) : Int))) (mkH 6 []) := by
  intro k
  induction k with
  | zero =>
    intro p j hk hp hr
    have hlt : dval ds < 1000000000000000000 := by
      have h2 := dval_lt _ hd
      have h3 : 10 ^ ds.length ≤ 10 ^ 18 := Nat.pow_le_pow_right (by decide) hL
      have h4 : (10 : Nat) ^ 18 = 1000000000000000000 := by decide
      omega
    rw [List.take_of_length_le (by omega)] at hr
    exact smm_o ds (dval ds) p j hlt (by rw [dstr_size]; omega) hr
  | succ k ih =>
    intro p j hk hp hr
    have hlt : dval (ds.take p) < 100000000000000000 := by
      have h2 := dval_lt _ (hd.take p)
      have h3 : 10 ^ (ds.take p).length ≤ 10 ^ 17 := Nat.pow_le_pow_right (by decide) (by rw [List.length_take]; omega)
      have h4 : (10 : Nat) ^ 17 = 100000000000000000 := by decide
      omega
    have r := smm_r ds _ p (ds.getD p 0) j (hd.get p) hlt (by rw [dstr_size]; omega) (decode_dstr hd (by omega))
    rw [← dval_take_succ (by omega)] at r
    exact ih (p + 1) _ (by omega) (by omega) (hr.trans r)
theorem smmc (n0 : Nat) (ds : List Nat) (hG : 5 ≤ n0) (hd : Dig ds) (h0 : 0 < ds.length) (hL : ds.length ≤ 18) : FT 109 #[(.string (mstr ds))] n0 [] (.int .i64 (-((dval ds : Nat) : Int))) [] [] :=
  fsp_flat [] [] [] [] [] n0 (smm_loop hd hL _ _ _ rfl (Nat.zero_le _) (smm_in ds hd h0)) rfl rfl rfl (by simp) (by simp) hG rfl rfl rfl (by simp) (by simp) rfl rfl rfl
theorem kis_i (n0 : Nat) (a : Int) (hG : 5 ≤ n0) (hs : (digs a.natAbs).length ≤ 18) : FT 145 #[.string (istr a)] n0 [] (lI 2) [] [] := by
  rcases int_cases a with ⟨m, rfl, hm⟩ | ⟨m, h0, rfl, hm⟩
  · rw [istr_nn]
    rw [hm] at hs
    rcases Nat.eq_zero_or_pos m with q | q
    · exact kizsc n0 _ hG (digs_dig m) (digs_len_pos m) (by rw [q, digs_zero]) (by rw [dstr_size]; exact hs)
    · exact kipsc n0 _ hG (digs_dig m) (digs_len_pos m) (digs_head m q) (by rw [dstr_size]; exact hs)
  · rw [istr_neg h0]
    rw [hm] at hs
    exact kimsc n0 _ hG (digs_dig m) (digs_len_pos m) (digs_head m h0) (by rw [dstr_size]; exact hs)
theorem kil_i (n0 : Nat) (a : Int) (hG : 5 ≤ n0) (hs : 18 < (digs a.natAbs).length) (hL : ndig a.natAbs ≤ 400) : FT 145 #[.string (istr a)] n0 [] (lI 3) [] [] := by
  have hL2 := digs_len_le hL (by decide)
  rcases int_cases a with ⟨m, rfl, hm⟩ | ⟨m, h0, rfl, hm⟩
  · rw [istr_nn]
    rw [hm] at hs hL2
    have q : 0 < m := by
      rcases Nat.eq_zero_or_pos m with q | q
      · rw [q, digs_zero] at hs
        exact absurd hs (by decide)
      · exact q
    exact kiplc n0 _ hG (digs_dig m) (digs_len_pos m) (digs_head m q) (by rw [dstr_size]; exact hs) (by rw [dstr_size]; exact hL2)
  · rw [istr_neg h0]
    rw [hm] at hs hL2
    exact kimlc n0 _ hG (digs_dig m) (digs_len_pos m) (digs_head m h0) (by rw [dstr_size]; exact hs) (by rw [dstr_size]; exact hL2)
theorem sm_i (n0 : Nat) (a : Int) (hG : 5 ≤ n0) (hs : (digs a.natAbs).length ≤ 18) : FT 109 #[.string (istr a)] n0 [] (.int .i64 a) [] [] := by
  rcases int_cases a with ⟨m, rfl, hm⟩ | ⟨m, h0, rfl, hm⟩
  · rw [istr_nn]
    rw [hm] at hs
    have h := smpc n0 _ hG (digs_dig m) (digs_len_pos m) hs
    rw [digs_val] at h
    exact h
  · rw [istr_neg h0]
    rw [hm] at hs
    have h := smmc n0 _ hG (digs_dig m) (digs_len_pos m) hs
    rw [digs_val] at h
    exact h
theorem istr_zeroF : istr 0 = Seg.bts [48] := by kernel_rfl
theorem code_c (k : Int) (n : Nat) : FT 106 #[.iface 159 (.agg #[.int .i64 k])] n [(0, Cn.gob0), (1, gob1), (2, Cn.gob2), (3, Cn.gob3)] (.int .i64 k) [(0, some Cn.gob0), (1, some gob1), (2, some Cn.gob2), (3, some Cn.gob3)] [] := by
  have h := fsp_of_tell (Cn.tellE k) Cn.glOK (by kernel_rfl) (by kernel_rfl) n
  rw [gl_eq] at h
  exact h
theorem tell_of_csp {P : Program} {G : Nat} {gl : List (Nat × AObj)} {f : FuncId} {args : Array Value} {v : Value} {h' : AH} (ha : closedArr args = true) (hv : closed v = true) (S : CSp P G f args (mkH G gl) v h') : TellG P G gl f args v := by
  intro ρ w H
  refine (S ρ w args H (closedArr_ren ρ args ha)).mono ?_
  rintro e w' ⟨ρ', v', rfl, h1, h2, h3⟩
  rw [closed_ren ρ' _ hv] at h3
  cases h3
  exact ⟨ρ', _, rfl, h1, h2⟩
theorem glOK2 : GlOK 5 [(0, Cn.gob0), (1, gob1), (2, Cn.gob2), (3, Cn.gob3)] := by
  have h := Cn.glOK
  rw [gl_eq] at h
  exact h
theorem ck_l (z : Int) (hz : 400 < (digs z.natAbs).length) (hz2 : (digs z.natAbs).length < 1099511627776)  : CT 74 #[(.string (istr z))] (mkH 5 []) (lI 13) (mkH 5 []) :=
  sF (sc := [(8, .call [] bT [] []), (8, .call [] (.string (dstr (digs z.natAbs))) [] []), (1, .op (.rwB true)), (7, .stay)]) (by kernel_rfl) (aI (fo_i z 5 (by omega) (by omega)) (aI (ab_i z 5 (by omega)) (aI (show decide ((((dstr (digs z.natAbs)).size : Nat) : Int) > (400 : Int)) = true from (by simp only [decide_eq_true_eq, decide_eq_false_iff_not, dstr_size, gt_iff_lt] <;> omega)) tt))) (Gets.refl _)
theorem ck_lc (n0 : Nat) (z : Int) (hG : 5 ≤ n0) (hz : 400 < (digs z.natAbs).length) (hz2 : (digs z.natAbs).length < 1099511627776) : FT 74 #[(.string (istr z))] n0 [] (lI 13) [] [] :=
  fsp_flat [] [] [] [] [] n0 (ck_l z hz hz2) rfl rfl rfl (by simp) (by simp) hG rfl rfl rfl (by simp) (by simp) rfl rfl rfl
theorem ndig_le_len (n : Nat) : ndig n ≤ (digs n).length := by
  rcases Nat.eq_zero_or_pos n with h | h
  · subst h; rw [ndig_zero]; omega
  · exact Nat.le_of_eq (digs_len n h).symm
def Cls (s : ByteArray) (k c : Nat) : Prop := (∀ n0, 5 ≤ n0 → FT 145 #[.string s] n0 [] (.int .i64 (.ofNat k)) [] []) ∧ (∀ n0, 5 ≤ n0 → FT 74 #[.string s] n0 [] (.int .i64 (.ofNat c)) [] [])
theorem len_size (z : Int) (h : (istr z).size < 1099511627776) : (digs z.natAbs).length < 1099511627776 := by
  rcases int_cases z with ⟨k, rfl, hm⟩ | ⟨k, h0, rfl, hm⟩
  · rw [hm]; rw [istr_nn, dstr_size] at h; exact h
  · rw [hm]; rw [istr_neg h0, mstr_len] at h; omega
theorem cls (s : ByteArray) (hm : s.size < 1099511627776) : Cls s 0 1 ∨ Cls s 1 13 ∨ ∃ z : Int, s = istr z ∧ (digs z.natAbs).length ≤ 400 ∧ ((Cls s 2 0 ∧ (digs z.natAbs).length ≤ 18) ∨ Cls s 3 0) := by
  rcases str_any s hm with ⟨z, rfl⟩ | h
  · have hl := len_size z hm
    by_cases h1 : (digs z.natAbs).length ≤ 400
    · refine .inr (.inr ⟨z, rfl, h1, ?_⟩)
      by_cases h2 : (digs z.natAbs).length ≤ 18
      · exact .inl ⟨⟨fun n0 h => kis_i n0 z h h2, fun n0 h => ck_i z n0 h h1⟩, h2⟩
      · exact .inr ⟨fun n0 h => kil_i n0 z h (by omega) (Nat.le_trans (ndig_le_len _) h1), fun n0 h => ck_i z n0 h h1⟩
    · refine .inr (.inl ⟨?_, fun n0 h => ck_lc n0 z h (by omega) hl⟩)
      intro n0 hG
      rcases int_cases z with ⟨k, rfl, hm⟩ | ⟨k, h0, rfl, hm⟩
      · rw [istr_nn]; rw [hm] at h1
        exact kipec n0 _ hG (digs_dig _) (digs_len_pos _) (digs_head k (by
          rcases Nat.eq_zero_or_pos k with q | q
          · rw [q, digs_zero] at h1; exact absurd (by decide) h1
          · exact q)) (by rw [dstr_size]; omega)
      · rw [istr_neg h0]; rw [hm] at h1
        exact kimec n0 _ hG (digs_dig _) (digs_len_pos _) (digs_head k h0) (by rw [dstr_size]; omega)
  · exact .inl h
noncomputable section
abbrev z_bca_0 (s : Nat) : List (Nat × AObj) := [(5, (.cells [(nI s)] 70 none false))]
end
noncomputable def le_h_f (s p q : Nat) (j : List Value) : Frame := ⟨170, List.toArray [(nI q), (.func (.func 171) #[] #[(pt 5)]), uu, uu, (lI 0), (J j 0), (J j 1), (J j 2), (J j 3), (J j 4), (J j 5), uu], [.code (cd Tryz.f170 [1, 0, 0, 0]), .inLoop (cd Tryz.f170 [1, 0, 0, 0]), .inBlock 0, .code (cd Tryz.f170 [1, 1])], [], .run, .normal, none⟩
noncomputable def le_h_o (s p q : Nat) : List (Nat × AObj) := (z_bca_0 s)
noncomputable def le_h (s p q : Nat) (j : List Value) : AS := ⟨le_h_f s p q j, [], mkH 6 (le_h_o s p q)⟩
theorem le_in (s p : Nat)  : GT ⟨Frame.enter Tryz.prog 170 #[(nI p),(.func (.func 171) #[] #[(pt 5)])] .normal, [], mkH 6 (z_bca_0 s)⟩ (le_h s p p [undef, undef, undef, undef, undef, undef]) :=
  sR (sc := [(7, .stay)]) (by kernel_rfl) tt
theorem le_r (s p q : Nat) (j : List Value) (hq : 0 < q) (hq2 : q < 1048576) (hs : s < 1099511627776) (hm : s % q ≠ 0) (hd : q * q ≤ s)  : GT (le_h s p q j) (le_h s p (q + 1) [(.func (.func 171) #[] #[(pt 5)]), (nI q), bF, bT, (nI q), (nI (q + 1))]) :=
  sR (sc := [(14, .op (.div (((s % q) : Nat) : Int))), (0, .op (.rwB false)), (3, .op (.rwI (((q * q) : Nat) : Int))), (1, .op (.rwB false)), (12, .op (.rwI (((q + 1) : Nat) : Int))), (4, .stay)]) (by kernel_rfl) (aI (show (q : Int) ≠ 0 ∧ (Int.tmod (s : Int) (q : Int)) = (((s % q) : Nat) : Int) from ⟨by omega, tmod_nat s q⟩) (aI (show ((((s % q) : Nat) : Int) == (0 : Int)) = false from (mod_nz hm)) (aI (show IntKind.wrap .i64 ((q : Int) * (q : Int)) = (((q * q) : Nat) : Int) from (mul_wrap hq2)) (aI (show decide ((((q * q) : Nat) : Int) > (s : Int)) = false from (not_gt hd)) (aI (wI64 (a := ((q : Int) + (1 : Int))) (r := (((q + 1) : Nat) : Int)) (by omega)) tt)))))
theorem le_a (s p q : Nat) (j : List Value) (hq : 0 < q) (hq2 : q < 1048576) (hs : s < 1099511627776) (hm : s % q = 0)  (hr : GT ⟨Frame.enter Tryz.prog 170 #[(nI p),(.func (.func 171) #[] #[(pt 5)])] .normal, [], mkH 6 (z_bca_0 s)⟩ (le_h s p q j)) : CT 170 #[(nI p),(.func (.func 171) #[] #[(pt 5)])] (mkH 6 (z_bca_0 s)) (nI q) (mkH 6 (z_bca_0 s)) :=
  sF (sc := [(14, .op (.div (((s % q) : Nat) : Int))), (0, .op (.rwB true)), (21, .stay)]) (by kernel_rfl) (aI (show (q : Int) ≠ 0 ∧ (Int.tmod (s : Int) (q : Int)) = (((s % q) : Nat) : Int) from ⟨by omega, tmod_nat s q⟩) (aI (show ((((s % q) : Nat) : Int) == (0 : Int)) = true from (mod_z hm)) tt)) hr
theorem le_b (s p q : Nat) (j : List Value) (hq : 0 < q) (hq2 : q < 1048576) (hs : s < 1099511627776) (hm : s % q ≠ 0) (hd : s < q * q)  (hr : GT ⟨Frame.enter Tryz.prog 170 #[(nI p),(.func (.func 171) #[] #[(pt 5)])] .normal, [], mkH 6 (z_bca_0 s)⟩ (le_h s p q j)) : CT 170 #[(nI p),(.func (.func 171) #[] #[(pt 5)])] (mkH 6 (z_bca_0 s)) (nI q) (mkH 6 (z_bca_0 s)) :=
  sF (sc := [(14, .op (.div (((s % q) : Nat) : Int))), (0, .op (.rwB false)), (3, .op (.rwI (((q * q) : Nat) : Int))), (1, .op (.rwB true)), (15, .stay)]) (by kernel_rfl) (aI (show (q : Int) ≠ 0 ∧ (Int.tmod (s : Int) (q : Int)) = (((s % q) : Nat) : Int) from ⟨by omega, tmod_nat s q⟩) (aI (show ((((s % q) : Nat) : Int) == (0 : Int)) = false from (mod_nz hm)) (aI (show IntKind.wrap .i64 ((q : Int) * (q : Int)) = (((q * q) : Nat) : Int) from (mul_wrap hq2)) (aI (show decide ((((q * q) : Nat) : Int) > (s : Int)) = true from (is_gt hd)) tt)))) hr
theorem le_loop {s p : Nat} (hs : s < 1048575) : ∀ (k q : Nat) (j : List Value), k = s + 1 - q → 0 < q → q ≤ s + 1 → p ≤ q → (∀ d, p ≤ d → d < q → s % d ≠ 0 ∧ d * d ≤ s) → GT ⟨Frame.enter Tryz.prog 170 #[(nI p),(.func (.func 171) #[] #[(pt 5)])] .normal, [], mkH 6 [(5, (.cells [(nI s)] 70 none false))]⟩ (le_h s p q j) →
    ∃ q', p ≤ q' ∧ q' ≤ s + 1 ∧ (s % q' = 0 ∨ s < q' * q') ∧ (∀ d, p ≤ d → d < q' → s % d ≠ 0) ∧ CT 170 #[(nI p),(.func (.func 171) #[] #[(pt 5)])] (mkH 6 [(5, (.cells [(nI s)] 70 none false))]) (nI q') (mkH 6 [(5, (.cells [(nI s)] 70 none false))]) := by
  intro k
  induction k with
  | zero =>
    intro q j hk h0 hq hp hall hr
    have hq1 : q = s + 1 := by omega
    have hd : s < q * q := by
      have : q * 1 ≤ q * q := Nat.mul_le_mul_left q h0
      omega
    by_cases hm : s % q = 0
    · exact ⟨q, hp, hq, .inl hm, fun d h1 h2 => (hall d h1 h2).1, le_a s p q j h0 (by omega) (by omega) hm hr⟩
    · exact ⟨q, hp, hq, .inr hd, fun d h1 h2 => (hall d h1 h2).1, le_b s p q j h0 (by omega) (by omega) hm hd hr⟩
  | succ k ih =>
    intro q j hk h0 hq hp hall hr
    by_cases hm : s % q = 0
    · exact ⟨q, hp, hq, .inl hm, fun d h1 h2 => (hall d h1 h2).1, le_a s p q j h0 (by omega) (by omega) hm hr⟩
    · by_cases hd : q * q ≤ s
      · refine ih (q + 1) _ (by omega) (by omega) (by omega) (by omega) (fun d h1 h2 => ?_) (hr.trans (le_r s p q j h0 (by omega) (by omega) hm hd))
        rcases (by omega : d < q ∨ d = q) with h | rfl
        · exact hall d h1 h
        · exact ⟨hm, hd⟩
      · exact ⟨q, hp, hq, .inr (by omega), fun d h1 h2 => (hall d h1 h2).1, le_b s p q j h0 (by omega) (by omega) hm (by omega) hr⟩
theorem le_c (n0 b s p : Nat) (hb : 5 ≤ b ∧ b < n0) (hs : s < 1048575) (hp : 0 < p) (hps : p ≤ s + 1) :
    ∃ q, p ≤ q ∧ q ≤ s + 1 ∧ (s % q = 0 ∨ s < q * q) ∧ (∀ d, p ≤ d → d < q → s % d ≠ 0) ∧
      FT 170 #[.int .i64 ((p : Nat) : Int), (.func (.func 171) #[] #[pt b])] n0 [(b, (.cells [.int .i64 ((s : Nat) : Int)] 70 none false))] (nI q) [(b, some (.cells [.int .i64 ((s : Nat) : Int)] 70 none false))] [] := by
  obtain ⟨q, h1, h2, h3, h4, S⟩ := le_loop (by omega) _ p _ rfl hp hps (Nat.le_refl _) (fun d h1 h2 => by omega) (le_in s p)
  exact ⟨q, h1, h2, h3, h4, fsp_flat [b] [(.cells [.int .i64 ((s : Nat) : Int)] 70 none false)] [(.cells [.int .i64 ((s : Nat) : Int)] 70 none false)] [] [] n0 S rfl rfl rfl (by simp) (by simp; omega) (by omega) rfl rfl rfl (by simp) (by simp) rfl rfl rfl⟩
end Go.Proofs.YtjbflfbhfnkmlaaGreatDoor
