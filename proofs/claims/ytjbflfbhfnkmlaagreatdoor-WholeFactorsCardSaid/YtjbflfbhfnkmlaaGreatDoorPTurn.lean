import Derived.Test.YtjbflfbhfnkmlaaGreatDoorK
import Derived.Test.YtjbflfbhfnkmlaaGreatDoorLF
set_option linter.unusedVariables false
set_option linter.unusedSimpArgs false
set_option maxRecDepth 100000
namespace Go.Proofs.YtjbflfbhfnkmlaaGreatDoor
open Go Go.AE Seg
noncomputable section
abbrev z_6b1_0 (o n c i b4 : Nat) (zs : List Int) : List (Nat × AObj) := [(5, (.cells [(.slice (some ⟨6,o,none⟩) n c),(nI (i + 1)),(nU b4)] 62 none false)), (6, (.win o (zs.map (Value.int .i64))))]
end
theorem tn_a (zs : List Int) (o n c i u : Nat) (z : Int) (hx : (zs.map (Value.int .i64))[i]? = some (.int .i64 z)) (hi : i < n) (hm : i < 9223372036854775000) (a1 : Nat) (ha1 : IntKind.wrap .u64 ((((i + 1) : Nat) : Int) * (13503953896175478587 : Int)) = (a1 : Int)) (a2 : Nat) (ha2 : IntKind.wrap .u64 z = (a2 : Int)) (a3 : Nat) (ha3 : IntKind.wrap .u64 ((a2 : Int) * (4354685564936845355 : Int)) = (a3 : Int)) (a4 : Nat) (ha4 : IntKind.wrap .u64 ((a1 : Int) + (a3 : Int)) = (a4 : Int)) (b1 : Nat) (hb1 : IntKind.wrap .u64 (((BitVec.ofInt 64 (u : Int) ^^^ BitVec.ofInt 64 (a4 : Int)).toNat : Nat) : Int) = (b1 : Int)) (b2 : Nat) (hb2 : IntKind.wrap .u64 ((b1 : Int) * (11912009170470909681 : Int)) = (b2 : Int)) (b3 : Nat) (hb3 : (Int.fdiv (b2 : Int) (2 ^ 31)) = (b3 : Int)) (b4 : Nat) (hb4 : IntKind.wrap .u64 (((BitVec.ofInt 64 (b2 : Int) ^^^ BitVec.ofInt 64 (b3 : Int)).toNat : Nat) : Int) = (b4 : Int)) (b5 : Nat) (hb5 : IntKind.wrap .u64 ((b4 : Int) * (5840696475078001361 : Int)) = (b5 : Int)) (b6 : Nat) (hb6 : (Int.fdiv (b5 : Int) (2 ^ 29)) = (b6 : Int)) (b7 : Nat) (hb7 : IntKind.wrap .u64 (((BitVec.ofInt 64 (b5 : Int) ^^^ BitVec.ofInt 64 (b6 : Int)).toNat : Nat) : Int) = (b7 : Int)) (b8 : Nat) (hb8 : (Int.fdiv (b7 : Int) (2 ^ 11)) = (b8 : Int))  : CT 97 #[(pt 5)] (mkH 7 [(5, (.cells [(.slice (some ⟨6,o,none⟩) n c),(nI i),(nU u)] 62 none false)), (6, (.win o (zs.map (Value.int .i64))))]) (nU b8) (mkH 7 (z_6b1_0 o n c i b4 zs)) :=
  sF (sc := [(10, .op (.rwI (((i + 1) : Nat) : Int))), (0, .op (.rwI (((i + 1) : Nat) : Int))), (0, .op (.rwI (a1 : Int))), (4, .drw [(9, .rwB true)]), (1, .drw [(9, .idx (o + i)), (10, .ld (.int .i64 z)), (11, .rwI (a2 : Int)), (12, .rwI (a3 : Int)), (13, .rwI (a4 : Int))]), (6, .op (.rwI (((i + 1) : Nat) : Int))), (12, .op (.rwI (b1 : Int))), (0, .op (.rwI (b2 : Int))), (5, .drwM [(9, .rwI (b3 : Int)), (10, .rwI (b4 : Int))] []), (6, .op (.rwI (b5 : Int))), (6, .op (.rwI (b6 : Int))), (0, .op (.rwI (b7 : Int))), (0, .op (.rwI (b8 : Int))), (3, .stay)]) (by kernel_rfl) (aI (wI64 (a := ((i : Int) + (1 : Int))) (r := (((i + 1) : Nat) : Int)) (by omega)) (aI (wU64 (a := (((i + 1) : Nat) : Int)) (r := (((i + 1) : Nat) : Int)) (by omega)) (aI ha1 (aI (aI tt (aI tt (aI tt (aI tt (aI tt (aI tt (aI tt (aI tt (aI tt (aI (dT (p := (i : Int) < (n : Int)) (by omega)) tt)))))))))) (aI (aI tt (aI tt (aI tt (aI tt (aI tt (aI tt (aI tt (aI tt (aI tt (aI (ix (i : Int) (n : Int) o 1 (o + i) (by omega)) (aI (show o ≤ (o + i) ∧ ((zs.map (Value.int .i64)) : List Value)[(o + i) - o]? = some (.int .i64 z) from ⟨Nat.le_add_right _ _, by rw [Nat.add_sub_cancel_left]; exact hx⟩) (aI ha2 (aI ha3 (aI ha4 (aI tt tt))))))))))))))) (aI (wI64 (a := ((i : Int) + (1 : Int))) (r := (((i + 1) : Nat) : Int)) (by omega)) (aI hb1 (aI hb2 (aI (aI tt (aI tt (aI tt (aI tt (aI tt (aI tt (aI tt (aI tt (aI tt (aI hb3 (aI hb4 (aI tt (aI tt (aI tt tt)))))))))))))) (aI hb5 (aI hb6 (aI hb7 (aI hb8 tt))))))))))))) (Gets.refl _)
theorem turn_a (n0 b L : Nat) (zs : List Int) (o n c i u : Nat) (hb : 5 ≤ b ∧ b < n0 ∧ 5 ≤ L ∧ L < n0 ∧ b ≠ L) (hn : n ≤ zs.length) (hi : i < n) (hm : i < 9223372036854775000) :
    ∃ u' x, FT 97 #[pt b] n0 [(b, .cells [.slice (some ⟨L, o, none⟩) n c, .int .i64 ((i : Nat) : Int), .int .u64 ((u : Nat) : Int)] 62 none false), (L, .win o (zs.map (Value.int .i64)))] (nU x) [(b, some (.cells [.slice (some ⟨L, o, none⟩) n c, .int .i64 ((i + 1 : Nat) : Int), .int .u64 ((u' : Nat) : Int)] 62 none false)), (L, some (.win o (zs.map (Value.int .i64))))] [] := by
  obtain ⟨a1, ha1⟩ : ∃ v : Nat, IntKind.wrap .u64 ((((i + 1) : Nat) : Int) * (13503953896175478587 : Int)) = ((v : Nat) : Int) := ex_u64 _
  obtain ⟨a2, ha2⟩ : ∃ v : Nat, IntKind.wrap .u64 (zs.getD i 0) = ((v : Nat) : Int) := ex_u64 _
  obtain ⟨a3, ha3⟩ : ∃ v : Nat, IntKind.wrap .u64 (((a2 : Nat) : Int) * (4354685564936845355 : Int)) = ((v : Nat) : Int) := ex_u64 _
  obtain ⟨a4, ha4⟩ : ∃ v : Nat, IntKind.wrap .u64 (((a1 : Nat) : Int) + ((a3 : Nat) : Int)) = ((v : Nat) : Int) := ex_u64 _
  obtain ⟨b1, hb1⟩ : ∃ v : Nat, IntKind.wrap .u64 (((BitVec.ofInt 64 ((u : Nat) : Int) ^^^ BitVec.ofInt 64 ((a4 : Nat) : Int)).toNat : Nat) : Int) = ((v : Nat) : Int) := ex_u64 _
  obtain ⟨b2, hb2⟩ : ∃ v : Nat, IntKind.wrap .u64 (((b1 : Nat) : Int) * (11912009170470909681 : Int)) = ((v : Nat) : Int) := ex_u64 _
  obtain ⟨b3, hb3⟩ : ∃ v : Nat, (Int.fdiv ((b2 : Nat) : Int) (2 ^ 31)) = ((v : Nat) : Int) := ex_shr _ _
  obtain ⟨b4, hb4⟩ : ∃ v : Nat, IntKind.wrap .u64 (((BitVec.ofInt 64 ((b2 : Nat) : Int) ^^^ BitVec.ofInt 64 ((b3 : Nat) : Int)).toNat : Nat) : Int) = ((v : Nat) : Int) := ex_u64 _
  obtain ⟨b5, hb5⟩ : ∃ v : Nat, IntKind.wrap .u64 (((b4 : Nat) : Int) * (5840696475078001361 : Int)) = ((v : Nat) : Int) := ex_u64 _
  obtain ⟨b6, hb6⟩ : ∃ v : Nat, (Int.fdiv ((b5 : Nat) : Int) (2 ^ 29)) = ((v : Nat) : Int) := ex_shr _ _
  obtain ⟨b7, hb7⟩ : ∃ v : Nat, IntKind.wrap .u64 (((BitVec.ofInt 64 ((b5 : Nat) : Int) ^^^ BitVec.ofInt 64 ((b6 : Nat) : Int)).toNat : Nat) : Int) = ((v : Nat) : Int) := ex_u64 _
  obtain ⟨b8, hb8⟩ : ∃ v : Nat, (Int.fdiv ((b7 : Nat) : Int) (2 ^ 11)) = ((v : Nat) : Int) := ex_shr _ _
  refine ⟨b4, b8, fsp_move (os' := [.cells [.slice (some ⟨L, o, none⟩) n c, .int .i64 ((i : Nat) : Int), .int .u64 ((u : Nat) : Int)] 62 none false, .win o (zs.map (Value.int .i64))]) (ps' := [.cells [.slice (some ⟨L, o, none⟩) n c, .int .i64 ((i + 1 : Nat) : Int), .int .u64 ((b4 : Nat) : Int)] 62 none false, .win o (zs.map (Value.int .i64))]) (qs' := []) [b, L] [.cells [.slice (some ⟨6, o, none⟩) n c, .int .i64 ((i : Nat) : Int), .int .u64 ((u : Nat) : Int)] 62 none false, .win o (zs.map (Value.int .i64))] [.cells [.slice (some ⟨6, o, none⟩) n c, .int .i64 ((i + 1 : Nat) : Int), .int .u64 ((b4 : Nat) : Int)] 62 none false, .win o (zs.map (Value.int .i64))] [] [] n0 (tn_a zs o n c i u (zs.getD i 0) (ints_get (by omega)) hi hm a1 ha1 a2 ha2 a3 ha3 a4 ha4 b1 hb1 b2 hb2 b3 hb3 b4 hb4 b5 hb5 b6 hb6 b7 hb7 b8 hb8) rfl rfl rfl (by simp [hb.2.2.2.2]) (by simp; omega) (by omega) rfl
    (by simp [goodO, goodL, good, okI, closedL_good _ _ (ints_closed zs)]) rfl (by simp only [List.map_cons, List.map_nil, mvO, closedL_mv _ _ (ints_closed zs)]; rfl) (by simp only [List.map_cons, List.map_nil, mvO, closedL_mv _ _ (ints_closed zs)]; rfl) rfl (by simp) (by simp) rfl rfl rfl⟩
theorem tn_b (zs : List Int) (o n c i u : Nat) (hi : n ≤ i) (hm : i < 9223372036854775000) (a1 : Nat) (ha1 : IntKind.wrap .u64 ((((i + 1) : Nat) : Int) * (13503953896175478587 : Int)) = (a1 : Int)) (b1 : Nat) (hb1 : IntKind.wrap .u64 (((BitVec.ofInt 64 (u : Int) ^^^ BitVec.ofInt 64 (a1 : Int)).toNat : Nat) : Int) = (b1 : Int)) (b2 : Nat) (hb2 : IntKind.wrap .u64 ((b1 : Int) * (11912009170470909681 : Int)) = (b2 : Int)) (b3 : Nat) (hb3 : (Int.fdiv (b2 : Int) (2 ^ 31)) = (b3 : Int)) (b4 : Nat) (hb4 : IntKind.wrap .u64 (((BitVec.ofInt 64 (b2 : Int) ^^^ BitVec.ofInt 64 (b3 : Int)).toNat : Nat) : Int) = (b4 : Int)) (b5 : Nat) (hb5 : IntKind.wrap .u64 ((b4 : Int) * (5840696475078001361 : Int)) = (b5 : Int)) (b6 : Nat) (hb6 : (Int.fdiv (b5 : Int) (2 ^ 29)) = (b6 : Int)) (b7 : Nat) (hb7 : IntKind.wrap .u64 (((BitVec.ofInt 64 (b5 : Int) ^^^ BitVec.ofInt 64 (b6 : Int)).toNat : Nat) : Int) = (b7 : Int)) (b8 : Nat) (hb8 : (Int.fdiv (b7 : Int) (2 ^ 11)) = (b8 : Int))  : CT 97 #[(pt 5)] (mkH 7 [(5, (.cells [(.slice (some ⟨6,o,none⟩) n c),(nI i),(nU u)] 62 none false)), (6, (.win o (zs.map (Value.int .i64))))]) (nU b8) (mkH 7 (z_6b1_0 o n c i b4 zs)) :=
  sF (sc := [(10, .op (.rwI (((i + 1) : Nat) : Int))), (0, .op (.rwI (((i + 1) : Nat) : Int))), (0, .op (.rwI (a1 : Int))), (4, .drw [(9, .rwB false)]), (8, .op (.rwI (((i + 1) : Nat) : Int))), (12, .op (.rwI (b1 : Int))), (0, .op (.rwI (b2 : Int))), (5, .drwM [(9, .rwI (b3 : Int)), (10, .rwI (b4 : Int))] []), (6, .op (.rwI (b5 : Int))), (6, .op (.rwI (b6 : Int))), (0, .op (.rwI (b7 : Int))), (0, .op (.rwI (b8 : Int))), (3, .stay)]) (by kernel_rfl) (aI (wI64 (a := ((i : Int) + (1 : Int))) (r := (((i + 1) : Nat) : Int)) (by omega)) (aI (wU64 (a := (((i + 1) : Nat) : Int)) (r := (((i + 1) : Nat) : Int)) (by omega)) (aI ha1 (aI (aI tt (aI tt (aI tt (aI tt (aI tt (aI tt (aI tt (aI tt (aI tt (aI (dF (p := (i : Int) < (n : Int)) (by omega)) tt)))))))))) (aI (wI64 (a := ((i : Int) + (1 : Int))) (r := (((i + 1) : Nat) : Int)) (by omega)) (aI hb1 (aI hb2 (aI (aI tt (aI tt (aI tt (aI tt (aI tt (aI tt (aI tt (aI tt (aI tt (aI hb3 (aI hb4 (aI tt (aI tt (aI tt tt)))))))))))))) (aI hb5 (aI hb6 (aI hb7 (aI hb8 tt)))))))))))) (Gets.refl _)
theorem turn_b (n0 b L : Nat) (zs : List Int) (o n c i u : Nat) (hb : 5 ≤ b ∧ b < n0 ∧ 5 ≤ L ∧ L < n0 ∧ b ≠ L) (hn : n ≤ zs.length) (hi : n ≤ i) (hm : i < 9223372036854775000) :
    ∃ u' x, FT 97 #[pt b] n0 [(b, .cells [.slice (some ⟨L, o, none⟩) n c, .int .i64 ((i : Nat) : Int), .int .u64 ((u : Nat) : Int)] 62 none false), (L, .win o (zs.map (Value.int .i64)))] (nU x) [(b, some (.cells [.slice (some ⟨L, o, none⟩) n c, .int .i64 ((i + 1 : Nat) : Int), .int .u64 ((u' : Nat) : Int)] 62 none false)), (L, some (.win o (zs.map (Value.int .i64))))] [] := by
  obtain ⟨a1, ha1⟩ : ∃ v : Nat, IntKind.wrap .u64 ((((i + 1) : Nat) : Int) * (13503953896175478587 : Int)) = ((v : Nat) : Int) := ex_u64 _
  obtain ⟨b1, hb1⟩ : ∃ v : Nat, IntKind.wrap .u64 (((BitVec.ofInt 64 ((u : Nat) : Int) ^^^ BitVec.ofInt 64 ((a1 : Nat) : Int)).toNat : Nat) : Int) = ((v : Nat) : Int) := ex_u64 _
  obtain ⟨b2, hb2⟩ : ∃ v : Nat, IntKind.wrap .u64 (((b1 : Nat) : Int) * (11912009170470909681 : Int)) = ((v : Nat) : Int) := ex_u64 _
  obtain ⟨b3, hb3⟩ : ∃ v : Nat, (Int.fdiv ((b2 : Nat) : Int) (2 ^ 31)) = ((v : Nat) : Int) := ex_shr _ _
  obtain ⟨b4, hb4⟩ : ∃ v : Nat, IntKind.wrap .u64 (((BitVec.ofInt 64 ((b2 : Nat) : Int) ^^^ BitVec.ofInt 64 ((b3 : Nat) : Int)).toNat : Nat) : Int) = ((v : Nat) : Int) := ex_u64 _
  obtain ⟨b5, hb5⟩ : ∃ v : Nat, IntKind.wrap .u64 (((b4 : Nat) : Int) * (5840696475078001361 : Int)) = ((v : Nat) : Int) := ex_u64 _
  obtain ⟨b6, hb6⟩ : ∃ v : Nat, (Int.fdiv ((b5 : Nat) : Int) (2 ^ 29)) = ((v : Nat) : Int) := ex_shr _ _
  obtain ⟨b7, hb7⟩ : ∃ v : Nat, IntKind.wrap .u64 (((BitVec.ofInt 64 ((b5 : Nat) : Int) ^^^ BitVec.ofInt 64 ((b6 : Nat) : Int)).toNat : Nat) : Int) = ((v : Nat) : Int) := ex_u64 _
  obtain ⟨b8, hb8⟩ : ∃ v : Nat, (Int.fdiv ((b7 : Nat) : Int) (2 ^ 11)) = ((v : Nat) : Int) := ex_shr _ _
  refine ⟨b4, b8, fsp_move (os' := [.cells [.slice (some ⟨L, o, none⟩) n c, .int .i64 ((i : Nat) : Int), .int .u64 ((u : Nat) : Int)] 62 none false, .win o (zs.map (Value.int .i64))]) (ps' := [.cells [.slice (some ⟨L, o, none⟩) n c, .int .i64 ((i + 1 : Nat) : Int), .int .u64 ((b4 : Nat) : Int)] 62 none false, .win o (zs.map (Value.int .i64))]) (qs' := []) [b, L] [.cells [.slice (some ⟨6, o, none⟩) n c, .int .i64 ((i : Nat) : Int), .int .u64 ((u : Nat) : Int)] 62 none false, .win o (zs.map (Value.int .i64))] [.cells [.slice (some ⟨6, o, none⟩) n c, .int .i64 ((i + 1 : Nat) : Int), .int .u64 ((b4 : Nat) : Int)] 62 none false, .win o (zs.map (Value.int .i64))] [] [] n0 (tn_b zs o n c i u hi hm a1 ha1 b1 hb1 b2 hb2 b3 hb3 b4 hb4 b5 hb5 b6 hb6 b7 hb7 b8 hb8) rfl rfl rfl (by simp [hb.2.2.2.2]) (by simp; omega) (by omega) rfl
    (by simp [goodO, goodL, good, okI, closedL_good _ _ (ints_closed zs)]) rfl (by simp only [List.map_cons, List.map_nil, mvO, closedL_mv _ _ (ints_closed zs)]; rfl) (by simp only [List.map_cons, List.map_nil, mvO, closedL_mv _ _ (ints_closed zs)]; rfl) rfl (by simp) (by simp) rfl rfl rfl⟩
theorem turn_c (n0 b L : Nat) (zs : List Int) (o n c i u : Nat) (hb : 5 ≤ b ∧ b < n0 ∧ 5 ≤ L ∧ L < n0 ∧ b ≠ L) (hn : n ≤ zs.length) (hm : i < 9223372036854775000) :
    ∃ u' x, FT 97 #[pt b] n0 [(b, .cells [.slice (some ⟨L, o, none⟩) n c, .int .i64 ((i : Nat) : Int), .int .u64 ((u : Nat) : Int)] 62 none false), (L, .win o (zs.map (Value.int .i64)))] (nU x) [(b, some (.cells [.slice (some ⟨L, o, none⟩) n c, .int .i64 ((i + 1 : Nat) : Int), .int .u64 ((u' : Nat) : Int)] 62 none false)), (L, some (.win o (zs.map (Value.int .i64))))] [] := by
  rcases Nat.lt_or_ge i n with h | h
  · exact turn_a n0 b L zs o n c i u hb hn h hm
  · exact turn_b n0 b L zs o n c i u hb hn h hm
noncomputable section
abbrev z_258_0 (o n c i v : Nat) : AObj := .cells [(.slice (some ⟨6,o,none⟩) n c),(nI (i + 1)),(nU v)] 62 none false
abbrev z_258_1 (o : Nat) (zs : List Int) : AObj := .win o (zs.map (Value.int .i64))
end
theorem up_conv {x r k : Nat} (hr : r = x % (k + 1)) (hk : k < 1099511627776) : IntKind.wrap .i64 (((x % (k + 1) : Nat) : Int)) = ((r : Nat) : Int) := by
  have : x % (k + 1) < k + 1 := Nat.mod_lt x (by omega)
  subst hr
  exact wrap_i64 (by omega) (by omega)
theorem up_p (zs : List Int) (o n c i u k : Nat) (hk : 0 < k) (hk2 : k < 1099511627776) (v x : Nat) (r : Nat) (hrx : r = x % (k + 1)) (hc1 : (FT 97 #[(pt 5)] 7 [(5,(.cells [(.slice (some ⟨6,o,none⟩) n c),(nI i),(nU u)] 62 none false)),(6,(z_258_1 o zs))] (nU x) [(5,some (z_258_0 o n c i v)),(6,some (z_258_1 o zs))] []))  : CT 47 #[(pt 5),(nI k)] (mkH 7 [(5, (.cells [(.slice (some ⟨6,o,none⟩) n c),(nI i),(nU u)] 62 none false)), (6, (z_258_1 o zs))]) (nI r) (mkH 7 [(5, (z_258_0 o n c i v)), (6, (z_258_1 o zs))]) :=
  sF (sc := [(7, .call [5,6] (nU x) [(5,some (z_258_0 o n c i v)),(6,some (z_258_1 o zs))] []), (6, .op (.rwB false)), (7, .op (.rwI (k : Int))), (0, .op (.rwI (((k + 1) : Nat) : Int))), (0, .op (.div (((x % (k + 1)) : Nat) : Int))), (0, .op (.rwI (r : Int))), (3, .stay)]) (by kernel_rfl) (aI hc1 (aI (dF (p := (k : Int) < (1 : Int)) (by omega)) (aI (wU64 (a := (k : Int)) (r := (k : Int)) (by omega)) (aI (wU64 (a := ((k : Int) + (1 : Int))) (r := (((k + 1) : Nat) : Int)) (by omega)) (aI (show (((k + 1) : Nat) : Int) ≠ 0 ∧ (Int.tmod (x : Int) (((k + 1) : Nat) : Int)) = (((x % (k + 1)) : Nat) : Int) from ⟨by omega, by first | (rw [Int.tmod_eq_emod_of_nonneg (by omega)]; first | rfl | exact (Int.natCast_emod _ _).symm | omega) | (rw [Int.tdiv_eq_ediv_of_nonneg (by omega)]; first | rfl | omega)⟩) (aI (show IntKind.wrap .i64 (((x % (k + 1)) : Nat) : Int) = (r : Int) from (up_conv hrx hk2)) tt)))))) (Gets.refl _)
theorem up_z (zs : List Int) (o n c i u k : Nat) (hk : k = 0) (hk2 : k < 1099511627776) (v x : Nat) (hc1 : (FT 97 #[(pt 5)] 7 [(5,(.cells [(.slice (some ⟨6,o,none⟩) n c),(nI i),(nU u)] 62 none false)),(6,(z_258_1 o zs))] (nU x) [(5,some (z_258_0 o n c i v)),(6,some (z_258_1 o zs))] []))  : CT 47 #[(pt 5),(nI k)] (mkH 7 [(5, (.cells [(.slice (some ⟨6,o,none⟩) n c),(nI i),(nU u)] 62 none false)), (6, (z_258_1 o zs))]) (lI 0) (mkH 7 [(5, (z_258_0 o n c i v)), (6, (z_258_1 o zs))]) :=
  sF (sc := [(7, .call [5,6] (nU x) [(5,some (z_258_0 o n c i v)),(6,some (z_258_1 o zs))] []), (6, .op (.rwB true)), (7, .stay)]) (by kernel_rfl) (aI hc1 (aI (dT (p := (k : Int) < (1 : Int)) (by omega)) tt)) (Gets.refl _)
theorem up_c (n0 b L : Nat) (zs : List Int) (o n c i u k : Nat) (hb : 5 ≤ b ∧ b < n0 ∧ 5 ≤ L ∧ L < n0 ∧ b ≠ L) (hn : n ≤ zs.length) (hm : i < 9223372036854775000) (hk2 : k < 1099511627776) :
    ∃ u' r, r ≤ k ∧ FT 47 #[pt b, .int .i64 ((k : Nat) : Int)] n0 [(b, .cells [.slice (some ⟨L, o, none⟩) n c, .int .i64 ((i : Nat) : Int), .int .u64 ((u : Nat) : Int)] 62 none false), (L, .win o (zs.map (Value.int .i64)))] (nI r) [(b, some (.cells [.slice (some ⟨L, o, none⟩) n c, .int .i64 ((i + 1 : Nat) : Int), .int .u64 ((u' : Nat) : Int)] 62 none false)), (L, some (.win o (zs.map (Value.int .i64))))] [] := by
  obtain ⟨v, x, T⟩ := turn_c 7 5 6 zs o n c i u (by omega) hn hm
  rcases Nat.eq_zero_or_pos k with hk | hk
  · exact ⟨v, 0, Nat.zero_le _, fsp_move (os' := [.cells [.slice (some ⟨L, o, none⟩) n c, .int .i64 ((i : Nat) : Int), .int .u64 ((u : Nat) : Int)] 62 none false, .win o (zs.map (Value.int .i64))]) (ps' := [.cells [.slice (some ⟨L, o, none⟩) n c, .int .i64 ((i + 1 : Nat) : Int), .int .u64 ((v : Nat) : Int)] 62 none false, .win o (zs.map (Value.int .i64))]) (qs' := []) [b, L] [.cells [.slice (some ⟨6, o, none⟩) n c, .int .i64 ((i : Nat) : Int), .int .u64 ((u : Nat) : Int)] 62 none false, .win o (zs.map (Value.int .i64))] [.cells [.slice (some ⟨6, o, none⟩) n c, .int .i64 ((i + 1 : Nat) : Int), .int .u64 ((v : Nat) : Int)] 62 none false, .win o (zs.map (Value.int .i64))] [] [] n0 (up_z zs o n c i u k hk hk2 v x T) rfl rfl rfl (by simp [hb.2.2.2.2]) (by simp; omega) (by omega) rfl
      (by simp [goodO, goodL, good, okI, closedL_good _ _ (ints_closed zs)]) rfl (by simp only [List.map_cons, List.map_nil, mvO, closedL_mv _ _ (ints_closed zs)]; rfl) (by simp only [List.map_cons, List.map_nil, mvO, closedL_mv _ _ (ints_closed zs)]; rfl) rfl (by simp) (by simp) rfl rfl rfl⟩
  · exact ⟨v, x % (k + 1), Nat.le_of_lt_succ (Nat.mod_lt x (Nat.succ_pos k)), fsp_move (os' := [.cells [.slice (some ⟨L, o, none⟩) n c, .int .i64 ((i : Nat) : Int), .int .u64 ((u : Nat) : Int)] 62 none false, .win o (zs.map (Value.int .i64))]) (ps' := [.cells [.slice (some ⟨L, o, none⟩) n c, .int .i64 ((i + 1 : Nat) : Int), .int .u64 ((v : Nat) : Int)] 62 none false, .win o (zs.map (Value.int .i64))]) (qs' := []) [b, L] [.cells [.slice (some ⟨6, o, none⟩) n c, .int .i64 ((i : Nat) : Int), .int .u64 ((u : Nat) : Int)] 62 none false, .win o (zs.map (Value.int .i64))] [.cells [.slice (some ⟨6, o, none⟩) n c, .int .i64 ((i + 1 : Nat) : Int), .int .u64 ((v : Nat) : Int)] 62 none false, .win o (zs.map (Value.int .i64))] [] [] n0 (up_p zs o n c i u k hk hk2 v x _ rfl T) rfl rfl rfl (by simp [hb.2.2.2.2]) (by simp; omega) (by omega) rfl
      (by simp [goodO, goodL, good, okI, closedL_good _ _ (ints_closed zs)]) rfl (by simp only [List.map_cons, List.map_nil, mvO, closedL_mv _ _ (ints_closed zs)]; rfl) (by simp only [List.map_cons, List.map_nil, mvO, closedL_mv _ _ (ints_closed zs)]; rfl) rfl (by simp) (by simp) rfl rfl rfl⟩
noncomputable section
end
theorem b2s_one {x e : Nat} (h : x = 48 + e) : 0 + 1 ≤ ([.int .u8 ((x : Nat) : Int)] : List Value).length ∧ (intsOf (List.take 1 (List.drop 0 ([.int .u8 ((x : Nat) : Int)] : List Value)))).map (fun ns => (⟨(ns.map fun n => UInt8.ofNat n.toNat).toArray⟩ : ByteArray)) = some (dstr [e]) := by
  subst h
  exact ⟨Nat.le_refl _, rfl⟩
theorem mstr_catw (ds : List Nat) : Seg.bts [45] ++ dstr ds = mstr ds := by
  apply ByteArray.ext
  simp [ByteArray.data_append, mstr, dstr, Seg.bts]
theorem dstr_snoc (ds : List Nat) (e : Nat) : dstr ds ++ dstr [e] = dstr (ds ++ [e]) := by
  apply ByteArray.ext
  simp [ByteArray.data_append, dstr]
theorem dec_eq {n : Nat} (h : ¬ n < 10) : dstr (digs (n / 10)) ++ dstr [n % 10] = dstr (digs n) := by rw [dstr_snoc, ← digs_big h]
theorem de_s (n : Nat) (hn : n < 1000000000000000001) (h : n < 10) (e : Nat) (he : e = n)  : CT 30 #[(nI n)] (mkH 5 []) (.string (dstr [e])) (mkH 6 []) :=
  sF (sc := [(8, .op (.rwB false)), (7, .op (.rwB true)), (13, .op (.rwI (((n % 10) : Nat) : Int))), (0, .op (.rwI (((48 + (n % 10)) : Nat) : Int))), (0, .op (.rwI (((48 + (n % 10)) : Nat) : Int))), (1, .op (.b2s (dstr [e]))), (7, .stay)]) (by kernel_rfl) (aI (dF (p := (n : Int) < (0 : Int)) (by omega)) (aI (dT (p := (n : Int) < (10 : Int)) (by omega)) (aI (show (Int.tmod (n : Int) (10 : Int)) = (((n % 10) : Nat) : Int) from (by rw [Int.tmod_eq_emod_of_nonneg (by omega)] <;> omega)) (aI (wI64 (a := ((48 : Int) + (((n % 10) : Nat) : Int))) (r := (((48 + (n % 10)) : Nat) : Int)) (by omega)) (aI (wU8 (a := (((48 + (n % 10)) : Nat) : Int)) (r := (((48 + (n % 10)) : Nat) : Int)) (by omega)) (aI (show 0 + 1 ≤ ([(nB (48 + (n % 10)))]).length ∧ (intsOf (List.take 1 (List.drop 0 [(nB (48 + (n % 10)))]))).map (fun ns => (⟨(ns.map fun n => UInt8.ofNat n.toNat).toArray⟩ : ByteArray)) = some (dstr [e]) from (b2s_one (by omega))) tt)))))) (Gets.refl _)
theorem de_r (n : Nat) (hn : n < 1000000000000000001) (h : ¬ n < 10) (e : Nat) (he : e = n % 10) (sr : ByteArray) (hsz : sr.size < 1099511627776) (hrec : ∀ n0, 5 ≤ n0 → FT 30 #[(nI (n / 10))] n0 [] (.string sr) [] [])  : CT 30 #[(nI n)] (mkH 5 []) (.string (sr ++ (dstr [e]))) (mkH 6 []) :=
  sF (sc := [(8, .op (.rwB false)), (7, .op (.rwB false)), (6, .op (.rwI (((n / 10) : Nat) : Int))), (0, .call [] (.string sr) [] []), (1, .op (.rwI (((n % 10) : Nat) : Int))), (8, .op (.rwI ((((n % 10) % 10) : Nat) : Int))), (0, .op (.rwI (((48 + ((n % 10) % 10)) : Nat) : Int))), (0, .op (.rwI (((48 + ((n % 10) % 10)) : Nat) : Int))), (1, .op (.b2s (dstr [e]))), (4, .op (.cat (sr ++ (dstr [e])))), (3, .stay)]) (by kernel_rfl) (aI (dF (p := (n : Int) < (0 : Int)) (by omega)) (aI (dF (p := (n : Int) < (10 : Int)) (by omega)) (aI (show IntKind.wrap .i64 (Int.tdiv (n : Int) (10 : Int)) = (((n / 10) : Nat) : Int) from (by rw [Int.tdiv_eq_ediv_of_nonneg (by omega), wrap_i64 (by omega) (by omega)] <;> omega)) (aI (hrec 5 (by omega)) (aI (show (Int.tmod (n : Int) (10 : Int)) = (((n % 10) : Nat) : Int) from (by rw [Int.tmod_eq_emod_of_nonneg (by omega)] <;> omega)) (aI (show (Int.tmod (((n % 10) : Nat) : Int) (10 : Int)) = ((((n % 10) % 10) : Nat) : Int) from (by rw [Int.tmod_eq_emod_of_nonneg (by omega)] <;> omega)) (aI (wI64 (a := ((48 : Int) + ((((n % 10) % 10) : Nat) : Int))) (r := (((48 + ((n % 10) % 10)) : Nat) : Int)) (by omega)) (aI (wU8 (a := (((48 + ((n % 10) % 10)) : Nat) : Int)) (r := (((48 + ((n % 10) % 10)) : Nat) : Int)) (by omega)) (aI (show 0 + 1 ≤ ([(nB (48 + ((n % 10) % 10)))]).length ∧ (intsOf (List.take 1 (List.drop 0 [(nB (48 + ((n % 10) % 10)))]))).map (fun ns => (⟨(ns.map fun n => UInt8.ofNat n.toNat).toArray⟩ : ByteArray)) = some (dstr [e]) from (b2s_one (by omega))) (aI (show (((sr.size + (dstr [e]).size : Nat)) : Int) ≤ 9223372036854775807 ∧ sr ++ (dstr [e]) = (sr ++ (dstr [e])) from ⟨by rw [show (dstr [e]).size = 1 from rfl]; omega, rfl⟩) tt)))))))))) (Gets.refl _)
theorem de_c : ∀ (n n0 : Nat), 5 ≤ n0 → n < 1000000000000000001 → FT 30 #[.int .i64 ((n : Nat) : Int)] n0 [] (.string (istr (n : Int))) [] [] := by
  intro n
  induction n using Nat.strongRecOn with
  | _ n ih =>
    intro n0 hG hn
    rw [istr_nn]
    by_cases h : n < 10
    · rw [digs_small h]
      exact fsp_flat [] [] [] [] [] n0 (de_s n hn h n rfl) rfl rfl rfl (by simp) (by simp) hG rfl rfl rfl (by simp) (by simp) rfl rfl rfl
    · have hr : ∀ n0, 5 ≤ n0 → FT 30 #[(nI (n / 10))] n0 [] (.string (dstr (digs (n / 10)))) [] [] := fun n0 hG => by
        have := ih (n / 10) (by omega) n0 hG (by omega)
        rw [istr_nn] at this
        exact this
      have hsz : (dstr (digs (n / 10))).size < 1099511627776 := by
        rw [dstr_size]
        have h1 : ndig (n / 10) ≤ 18 := ndig_lt 18 _ (by omega)
        have := digs_len_le h1 (by decide)
        omega
      rw [← dec_eq h]
      exact fsp_flat [] [] [] [] [] n0 (de_r n hn h _ rfl _ hsz hr) rfl rfl rfl (by simp) (by simp) hG rfl rfl rfl (by simp) (by simp) rfl rfl rfl
theorem oi_s (n : Nat) (hn : n < 1000000000000000001) (h : n < 10) (e : Nat) (he : e = n)  : CT 75 #[(nI n)] (mkH 5 []) (.string (dstr [e])) (mkH 6 []) :=
  sF (sc := [(8, .op (.rwB false)), (7, .op (.rwB true)), (5, .op (.rwI (((48 + n) : Nat) : Int))), (0, .op (.rwI (((48 + n) : Nat) : Int))), (1, .op (.b2s (dstr [e]))), (3, .stay)]) (by kernel_rfl) (aI (dF (p := (n : Int) < (0 : Int)) (by omega)) (aI (dT (p := (n : Int) < (10 : Int)) (by omega)) (aI (wI64 (a := ((48 : Int) + (n : Int))) (r := (((48 + n) : Nat) : Int)) (by omega)) (aI (wU8 (a := (((48 + n) : Nat) : Int)) (r := (((48 + n) : Nat) : Int)) (by omega)) (aI (show 0 + 1 ≤ ([(nB (48 + n))]).length ∧ (intsOf (List.take 1 (List.drop 0 [(nB (48 + n))]))).map (fun ns => (⟨(ns.map fun n => UInt8.ofNat n.toNat).toArray⟩ : ByteArray)) = some (dstr [e]) from (b2s_one (by omega))) tt))))) (Gets.refl _)
theorem oi_r (n : Nat) (hn : n < 1000000000000000001) (h : ¬ n < 10) (e : Nat) (he : e = n % 10) (sr : ByteArray) (hsz : sr.size < 1099511627776) (hrec : ∀ n0, 5 ≤ n0 → FT 75 #[(nI (n / 10))] n0 [] (.string sr) [] [])  : CT 75 #[(nI n)] (mkH 5 []) (.string (sr ++ (dstr [e]))) (mkH 6 []) :=
  sF (sc := [(8, .op (.rwB false)), (7, .op (.rwB false)), (4, .drwB [(1, .rwI (((n / 10) : Nat) : Int)), (4, .rwI (((n % 10) : Nat) : Int)), (5, .rwI (((48 + (n % 10)) : Nat) : Int)), (6, .rwI (((48 + (n % 10)) : Nat) : Int)), (8, .b2s (dstr [e])), (9, .cat (sr ++ (dstr [e])))] [⟨2, [], (.string sr), [], []⟩] ⟨#[(nI n), uu, (.string (sr ++ (dstr [e]))), (nI n), bF, uu, uu, uu, uu, (nI n), bF, uu, uu, uu, uu, uu, (nI n), (nI (n / 10)), (.string sr), (nI n), (nI (n % 10)), (nI (48 + (n % 10))), (nB (48 + (n % 10))), (sl 5 1 1), (.string (dstr [e])), (.string (sr ++ (dstr [e])))], 6, [(5, (.cells [(nB (48 + (n % 10)))] 5 none false))]⟩), (1, .stay)]) (by kernel_rfl) (aI (dF (p := (n : Int) < (0 : Int)) (by omega)) (aI (dF (p := (n : Int) < (10 : Int)) (by omega)) (aI (show True ∧ ((IntKind.wrap .i64 (Int.tdiv (n : Int) (10 : Int)) = (((n / 10) : Nat) : Int)) ∧ (True ∧ (((Int.tmod (n : Int) (10 : Int)) = (((n % 10) : Nat) : Int)) ∧ ((IntKind.wrap .i64 ((48 : Int) + (((n % 10) : Nat) : Int)) = (((48 + (n % 10)) : Nat) : Int)) ∧ ((IntKind.wrap .u8 (((48 + (n % 10)) : Nat) : Int) = (((48 + (n % 10)) : Nat) : Int)) ∧ (((FT 75 #[(nI (n / 10))] 5 [] (.string sr) [] []) ∧ (True) ∧ (((True) ∧ (True) ∧ (((0 + 1 ≤ ([(nB (48 + (n % 10)))]).length ∧ (intsOf (List.take 1 (List.drop 0 [(nB (48 + (n % 10)))]))).map (fun ns => (⟨(ns.map fun n => UInt8.ofNat n.toNat).toArray⟩ : ByteArray)) = some (dstr [e])) ∧ (True) ∧ (((((sr.size + (dstr [e]).size : Nat)) : Int) ≤ 9223372036854775807 ∧ sr ++ (dstr [e]) = (sr ++ (dstr [e]))) ∧ (True ∧ (endT ⟨#[(nI n), uu, (.string (sr ++ (dstr [e]))), (nI n), bF, uu, uu, uu, uu, (nI n), bF, uu, uu, uu, uu, uu, (nI n), (nI (n / 10)), (.string sr), (nI n), (nI (n % 10)), (nI (48 + (n % 10))), (nB (48 + (n % 10))), (sl 5 1 1), (.string (dstr [e])), (.string (sr ++ (dstr [e])))], 6, [(5, (.cells [(nB (48 + (n % 10)))] 5 none false))]⟩)))) ∧ (True))) ∧ (True))) ∧ (((True) ∧ (True) ∧ (((FT 75 #[(nI (n / 10))] 6 [] (.string sr) [] []) ∧ (True) ∧ (((0 + 1 ≤ ([(nB (48 + (n % 10)))]).length ∧ (intsOf (List.take 1 (List.drop 0 [(nB (48 + (n % 10)))]))).map (fun ns => (⟨(ns.map fun n => UInt8.ofNat n.toNat).toArray⟩ : ByteArray)) = some (dstr [e])) ∧ (True) ∧ (((((sr.size + (dstr [e]).size : Nat)) : Int) ≤ 9223372036854775807 ∧ sr ++ (dstr [e]) = (sr ++ (dstr [e]))) ∧ (True ∧ (endT ⟨#[(nI n), uu, (.string (sr ++ (dstr [e]))), (nI n), bF, uu, uu, uu, uu, (nI n), bF, uu, uu, uu, uu, uu, (nI n), (nI (n / 10)), (.string sr), (nI n), (nI (n % 10)), (nI (48 + (n % 10))), (nB (48 + (n % 10))), (sl 5 1 1), (.string (dstr [e])), (.string (sr ++ (dstr [e])))], 6, [(5, (.cells [(nB (48 + (n % 10)))] 5 none false))]⟩)))) ∧ (True))) ∧ (((0 + 1 ≤ ([(nB (48 + (n % 10)))]).length ∧ (intsOf (List.take 1 (List.drop 0 [(nB (48 + (n % 10)))]))).map (fun ns => (⟨(ns.map fun n => UInt8.ofNat n.toNat).toArray⟩ : ByteArray)) = some (dstr [e])) ∧ (True) ∧ (((FT 75 #[(nI (n / 10))] 6 [] (.string sr) [] []) ∧ (True) ∧ (((((sr.size + (dstr [e]).size : Nat)) : Int) ≤ 9223372036854775807 ∧ sr ++ (dstr [e]) = (sr ++ (dstr [e]))) ∧ (True ∧ (endT ⟨#[(nI n), uu, (.string (sr ++ (dstr [e]))), (nI n), bF, uu, uu, uu, uu, (nI n), bF, uu, uu, uu, uu, uu, (nI n), (nI (n / 10)), (.string sr), (nI n), (nI (n % 10)), (nI (48 + (n % 10))), (nB (48 + (n % 10))), (sl 5 1 1), (.string (dstr [e])), (.string (sr ++ (dstr [e])))], 6, [(5, (.cells [(nB (48 + (n % 10)))] 5 none false))]⟩)))) ∧ (True))) ∧ (True)))) ∧ (True)))))))) from ⟨tt, ⟨(by rw [Int.tdiv_eq_ediv_of_nonneg (by omega), wrap_i64 (by omega) (by omega)] <;> omega), ⟨tt, ⟨(by rw [Int.tmod_eq_emod_of_nonneg (by omega)] <;> omega), ⟨(wI64 (by omega)), ⟨(wU8 (by omega)), ⟨⟨(hrec 5 (by omega)), tt, ⟨⟨tt, tt, ⟨⟨(b2s_one (by omega)), tt, ⟨⟨by rw [show (dstr [e]).size = 1 from rfl]; omega, rfl⟩, ⟨tt, rfl⟩⟩⟩, tt⟩⟩, tt⟩⟩, ⟨⟨tt, tt, ⟨⟨(hrec 6 (by omega)), tt, ⟨⟨(b2s_one (by omega)), tt, ⟨⟨by rw [show (dstr [e]).size = 1 from rfl]; omega, rfl⟩, ⟨tt, rfl⟩⟩⟩, tt⟩⟩, ⟨⟨(b2s_one (by omega)), tt, ⟨⟨(hrec 6 (by omega)), tt, ⟨⟨by rw [show (dstr [e]).size = 1 from rfl]; omega, rfl⟩, ⟨tt, rfl⟩⟩⟩, tt⟩⟩, tt⟩⟩⟩, tt⟩⟩⟩⟩⟩⟩⟩⟩) tt))) (Gets.refl _)
theorem oi_c : ∀ (n n0 : Nat), 5 ≤ n0 → n < 1000000000000000001 → FT 75 #[.int .i64 ((n : Nat) : Int)] n0 [] (.string (istr (n : Int))) [] [] := by
  intro n
  induction n using Nat.strongRecOn with
  | _ n ih =>
    intro n0 hG hn
    rw [istr_nn]
    by_cases h : n < 10
    · rw [digs_small h]
      exact fsp_flat [] [] [] [] [] n0 (oi_s n hn h n rfl) rfl rfl rfl (by simp) (by simp) hG rfl rfl rfl (by simp) (by simp) rfl rfl rfl
    · have hr : ∀ n0, 5 ≤ n0 → FT 75 #[(nI (n / 10))] n0 [] (.string (dstr (digs (n / 10)))) [] [] := fun n0 hG => by
        have := ih (n / 10) (by omega) n0 hG (by omega)
        rw [istr_nn] at this
        exact this
      have hsz : (dstr (digs (n / 10))).size < 1099511627776 := by
        rw [dstr_size]
        have h1 : ndig (n / 10) ≤ 18 := ndig_lt 18 _ (by omega)
        have := digs_len_le h1 (by decide)
        omega
      rw [← dec_eq h]
      exact fsp_flat [] [] [] [] [] n0 (oi_r n hn h _ rfl _ hsz hr) rfl rfl rfl (by simp) (by simp) hG rfl rfl rfl (by simp) (by simp) rfl rfl rfl
theorem oi_m (n : Nat) (h0 : 0 < n) (hn : n < 1000000000000000001) (ds : List Nat) (hsz : (dstr ds).size < 1099511627776) (hrec : ∀ n0, 5 ≤ n0 → FT 75 #[.int .i64 (n : Int)] n0 [] (.string (dstr ds)) [] [])  : CT 75 #[(.int .i64 (-(n : Int)))] (mkH 5 []) (.string ((bts [45]) ++ (dstr ds))) (mkH 5 []) :=
  sF (sc := [(8, .op (.rwB true)), (5, .op (.rwI (n : Int))), (0, .call [] (.string (dstr ds)) [] []), (0, .op (.cat ((bts [45]) ++ (dstr ds)))), (3, .stay)]) (by kernel_rfl) (aI (dT (p := (-(n : Int)) < (0 : Int)) (by omega)) (aI (wI64 (a := ((0 : Int) - (-(n : Int)))) (r := (n : Int)) (by omega)) (aI (hrec 5 (by omega)) (aI (show ((((bts [45]).size + (dstr ds).size : Nat)) : Int) ≤ 9223372036854775807 ∧ (bts [45]) ++ (dstr ds) = ((bts [45]) ++ (dstr ds)) from ⟨by rw [show (Seg.bts [45]).size = 1 from rfl]; omega, rfl⟩) tt)))) (Gets.refl _)
theorem oi_i (z : Int) (n0 : Nat) (hG : 5 ≤ n0) (hz : z.natAbs < 1000000000000000001) : FT 75 #[.int .i64 z] n0 [] (.string (istr z)) [] [] := by
  rcases int_cases z with ⟨m, rfl, hm⟩ | ⟨m, h0, rfl, hm⟩
  · exact oi_c m n0 hG (by omega)
  · have hr : ∀ n0, 5 ≤ n0 → FT 75 #[.int .i64 ((m : Nat) : Int)] n0 [] (.string (dstr (digs m))) [] [] := fun n0 hG => by
      have := oi_c m n0 hG (by omega)
      rw [istr_nn] at this
      exact this
    have hsz : (dstr (digs m)).size < 1099511627776 := by
      rw [dstr_size]
      have h1 : ndig m ≤ 19 := ndig_lt 19 _ (by omega)
      have := digs_len_le h1 (by decide)
      omega
    rw [istr_neg h0, ← mstr_catw]
    exact fsp_flat [] [] [] [] [] n0 (oi_m m h0 (by omega) _ hsz hr) rfl rfl rfl (by simp) (by simp) hG rfl rfl rfl (by simp) (by simp) rfl rfl rfl
theorem tab_is {ρ : Rho} {H : AH} {w : World} (hw : WR 5 ρ H w) (hr : H.get 1 = some gob1) : Lib.TabIs Tryz.prog w "internal/strconv.uint64pow10" .u64 Lib.pow10Tab :=
  tab_of_WR hw (g := 1) (by decide) (by kernel_rfl) hr
theorem fmt_c (n0 : Nat) (n : Int) (h0 : -9223372036854775808 ≤ n) (h1 : n ≤ 9223372036854775807) : FT 146 #[.int .i64 n, .int .i64 (.ofNat 10)] n0 [(1, gob1)] (.string (istr n)) [] [] := by
  intro H _ hr
  exact csp_of_calls rfl rfl fun ρ w hw => (Tryz.strconv_FormatInt_10 n h0 h1 w (tab_is hw (hr _ (List.mem_cons_self ..)))).mono fun e w' ⟨h3, k, os, h4⟩ => ⟨by rw [h3, istr_itoa], k, os, h4⟩
theorem digit_ne : ∀ d, d < 10 → ((dstr [d]).toList == (Seg.bts [45]).toList) = false := by decide +kernel
theorem mstr_size (ds : List Nat) : (mstr ds).size = ds.length + 1 := by simp [mstr, ByteArray.size]
theorem mstr_cut (ds : List Nat) : (mstr ds).extract 0 1 = Seg.bts [45] := by
  apply ByteArray.ext
  simp only [ByteArray.data_extract, mstr, Seg.bts]
  apply Array.ext'
  rw [Array.toList_extract, List.extract_eq_take_drop]
  simp
theorem mstr_rest (ds : List Nat) (n : Nat) (hn : n = ds.length + 1) : (mstr ds).extract 1 n = dstr ds := by
  apply ByteArray.ext
  simp only [ByteArray.data_extract, mstr, dstr]
  apply Array.ext'
  rw [Array.toList_extract, List.extract_eq_take_drop, hn, List.drop_succ_cons, List.drop_zero, Nat.add_sub_cancel]
  exact List.take_of_length_le (by rw [List.length_map]; exact Nat.le_refl _)
theorem mstr_cat (ds : List Nat) : Seg.bts [45] ++ dstr ds = mstr ds := by
  apply ByteArray.ext
  simp [ByteArray.data_append, mstr, dstr, Seg.bts]
theorem dstr_cut {ds : List Nat} (h : 0 < ds.length) : (dstr ds).extract 0 1 = dstr [ds.getD 0 0] := by
  rw [dstr_extract]
  cases ds with
  | nil => simp at h
  | cons d ds => rfl
theorem so_p (ds : List Nat) (d : Nat) (hd : d < 10) (h0 : 0 < (dstr ds).size) (hx : (dstr ds).extract 0 1 = dstr [d])  : CT 128 #[(.string (dstr ds))] (mkH 5 []) (.tuple #[bF,(.string (dstr ds))]) (mkH 5 []) :=
  sF (sc := [(40, .op (.rwB true)), (4, .op (.sslc (dstr [d]))), (1, .op (.rwB false)), (37, .stay)]) (by kernel_rfl) (aI (show decide ((((dstr ds).size : Nat) : Int) ≥ (1 : Int)) = true from (by rw [decide_eq_true_eq]; omega)) (aI (show 0 ≤ (0 : Int) ∧ (0 : Int) ≤ (1 : Int) ∧ (1 : Int) ≤ (((dstr ds).size : Nat) : Int) ∧ (dstr ds).extract (Int.toNat (0 : Int)) (Int.toNat (1 : Int)) = (dstr [d]) from ⟨by omega, by omega, by omega, hx⟩) (aI (show ((dstr [d]).toList == (bts [45]).toList) = false from (digit_ne d hd)) tt))) (Gets.refl _)
theorem so_m (ds : List Nat) (hs : (mstr ds).size = ds.length + 1)  : CT 128 #[(.string (mstr ds))] (mkH 5 []) (.tuple #[bT,(.string (dstr ds))]) (mkH 5 []) :=
  sF (sc := [(40, .op (.rwB true)), (4, .op (.sslc (bts [45]))), (1, .op (.rwB true)), (14, .op (.sslc (dstr ds))), (26, .stay)]) (by kernel_rfl) (aI (show decide ((((mstr ds).size : Nat) : Int) ≥ (1 : Int)) = true from (by rw [decide_eq_true_eq]; omega)) (aI (show 0 ≤ (0 : Int) ∧ (0 : Int) ≤ (1 : Int) ∧ (1 : Int) ≤ (((mstr ds).size : Nat) : Int) ∧ (mstr ds).extract (Int.toNat (0 : Int)) (Int.toNat (1 : Int)) = (bts [45]) from ⟨by omega, by omega, by omega, mstr_cut ds⟩) (aI (show ((bts [45]).toList == (bts [45]).toList) = true from (by decide +kernel)) (aI (show 0 ≤ (1 : Int) ∧ (1 : Int) ≤ (((mstr ds).size : Nat) : Int) ∧ (((mstr ds).size : Nat) : Int) ≤ (((mstr ds).size : Nat) : Int) ∧ (mstr ds).extract (Int.toNat (1 : Int)) (Int.toNat (((mstr ds).size : Nat) : Int)) = (dstr ds) from ⟨by omega, by omega, by omega, mstr_rest ds _ hs⟩) tt)))) (Gets.refl _)
theorem so_pc (n0 : Nat) (ds : List Nat) (hG : 5 ≤ n0) (hd : Dig ds) (h0 : 0 < ds.length) : FT 128 #[.string (dstr ds)] n0 [] (.tuple #[.bool false, .string (dstr ds)]) [] [] :=
  fsp_flat [] [] [] [] [] n0 (so_p ds _ (hd.get 0) (by rw [dstr_size]; exact h0) (dstr_cut h0)) rfl rfl rfl (by simp) (by simp) hG rfl rfl rfl (by simp) (by simp) rfl rfl rfl
theorem so_mc (n0 : Nat) (ds : List Nat) (hG : 5 ≤ n0) : FT 128 #[.string (mstr ds)] n0 [] (.tuple #[.bool true, .string (dstr ds)]) [] [] :=
  fsp_flat [] [] [] [] [] n0 (so_m ds (mstr_size ds)) rfl rfl rfl (by simp) (by simp) hG rfl rfl rfl (by simp) (by simp) rfl rfl rfl
noncomputable section
abbrev z_756_0 (ds : List Nat) : Value := .tuple #[bF,(.string (dstr ds))]
abbrev z_756_1 (ds : List Nat) : AS := ⟨Frame.enter Tryz.prog 127 #[(.string (dstr ds)),(lI 10)] .normal, [], mkH 5 []⟩
abbrev z_756_2 (ds : List Nat) : Value := .tuple #[bT,(.string (dstr ds))]
abbrev z_756_3 (d : Nat) : Value := nB ((UInt8.ofNat (48 + d)).toNat)
end
theorem do_ (q : Nat) (hq : q < 10)  : CT 167 #[(nR (48 + q))] (mkH 5 []) (nI q) (mkH 5 []) :=
  sF (sc := [(15, .op (.rwB false)), (11, .op (.rwB true)), (2, .op (.rwB true)), (9, .op (.rwI (q : Int))), (0, .op (.rwI (q : Int))), (3, .stay)]) (by kernel_rfl) (aI (dF (p := (97 : Int) ≤ (((48 + q) : Nat) : Int)) (by omega)) (aI (dT (p := (48 : Int) ≤ (((48 + q) : Nat) : Int)) (by omega)) (aI (dT (p := (((48 + q) : Nat) : Int) ≤ (57 : Int)) (by omega)) (aI (wI32 (a := ((((48 + q) : Nat) : Int) - (48 : Int))) (r := (q : Int)) (by omega)) (aI (wI64 (a := (q : Int)) (r := (q : Int)) (by omega)) tt))))) (Gets.refl _)
theorem do_c (n0 : Nat) (q : Nat) (hG : 5 ≤ n0) (hq : q < 10) : FT 167 #[(nR (48 + q))] n0 [] (nI q) [] [] :=
  fsp_flat [] [] [] [] [] n0 (do_ q hq) rfl rfl rfl (by simp) (by simp) hG rfl rfl rfl (by simp) (by simp) rfl rfl rfl
theorem ne_empty {ds : List Nat} (h : 0 < ds.length) : ((dstr ds).toList == (Seg.bts []).toList) = false := by
  rw [ByteArray.toList_eq, ByteArray.toList_eq]
  cases ds with
  | nil => simp at h
  | cons d ds => rfl
theorem byte_zero {d : Nat} (h0 : d = 0) : ((((UInt8.ofNat (48 + d)).toNat : Nat) : Int) == (48 : Int)) = true := by subst h0; rfl
theorem byte_ne {d : Nat} (h : d < 10) (h0 : d ≠ 0) : ((((UInt8.ofNat (48 + d)).toNat : Nat) : Int) == (48 : Int)) = false := by
  rw [byte_nat h, beq_eq_false_iff_ne]; omega
noncomputable def wfp_h_f (ds : List Nat) (d p : Nat) (j : List Value) : Frame := ⟨127, List.toArray [(.string (dstr ds)), (lI 10), uu, uu, (J j 0), bF, (.string (dstr ds)), uu, (J j 1), (J j 2), (J j 3), (J j 4), bF, (J j 5), (J j 6), bF, bF, (J j 7), (J j 8), bF, bF, uu, uu, uu, uu, uu, uu, bF, bF, (J j 9), (pt 5), (J j 10), (J j 11), (J j 12), (J j 13), (J j 14), (J j 15), (J j 16)], [.code (cd Tryz.f127 [1, 1, 1, 0, 1, 0, 0]), .inLoop (cd Tryz.f127 [1, 1, 1, 0, 1, 0, 0]), .inBlock 0, .code (cd Tryz.f127 [1, 1, 1, 1])], [], .run, .normal, none⟩
noncomputable def wfp_h_o (ds : List Nat) (d p : Nat) : List (Nat × AObj) := [(5, (.iter (dstr ds) p))]
noncomputable def wfp_h (ds : List Nat) (d p : Nat) (j : List Value) : AS := ⟨wfp_h_f ds d p j, [], mkH 6 (wfp_h_o ds d p)⟩
theorem wfp_in (ds : List Nat) (d : Nat) (hd : Dig ds) (h0 : 0 < ds.length) (h1 : d < 10) (h2 : d ≠ 0) (hx : (dstr ds)[0]? = some (UInt8.ofNat (48 + d)))  : GT (z_756_1 ds) (wfp_h ds d 0 [bF, undef, (z_756_0 ds), (.string (dstr ds)), (z_756_0 ds), (.string (dstr ds)), (.string (dstr ds)), (.string (dstr ds)), (z_756_3 d), (.string (dstr ds)), undef, undef, undef, undef, undef, undef, undef]) :=
  sR (sc := [(7, .call [] (z_756_0 ds) [] []), (10, .op (.rwB false)), (2, .op (.sidx (UInt8.ofNat (48 + d)))), (0, .op (.rwB false)), (20, .stay)]) (by kernel_rfl) (aI (so_pc 5 ds (by omega) hd h0) (aI (show ((dstr ds).toList == (bts []).toList) = false from (ne_empty h0)) (aI (show 0 ≤ (0 : Int) ∧ (dstr ds)[Int.toNat (0 : Int)]? = some (UInt8.ofNat (48 + d)) from ⟨by omega, hx⟩) (aI (show ((((UInt8.ofNat (48 + d)).toNat : Nat) : Int) == (48 : Int)) = false from (byte_ne h1 h2)) tt))))
theorem wfp_r (ds : List Nat) (d p q : Nat) (j : List Value) (hq : q < 10) (hp : p < (dstr ds).size) (he : Utf8.decode (dstr ds) p = (48 + q, 1))  : GT (wfp_h ds d p j) (wfp_h ds d (p + 1) [(J j 0), (nR (48 + q)), (J j 2), (J j 3), (J j 4), (J j 5), (J j 6), (J j 7), (J j 8), (J j 9), (.tuple #[bT,(nI p),(nR (48 + q))]), bT, (nR (48 + q)), (nR (48 + q)), (nI q), (lI 10), bF]) :=
  sR (sc := [(2, .op (.nxtC (48 + q) 1 (p + 1))), (14, .call [] (nI q) [] []), (1, .op (.rwB false)), (5, .stay)]) (by kernel_rfl) (aI (show p < (dstr ds).size ∧ Utf8.decode (dstr ds) p = ((48 + q), 1) ∧ p + 1 = (p + 1) from ⟨hp, he, rfl⟩) (aI (do_c 6 q (by omega) hq) (aI (dF (p := (q : Int) ≥ (10 : Int)) (by omega)) tt)))
theorem wfp_o (ds : List Nat) (d p : Nat) (j : List Value) (hp : (dstr ds).size ≤ p)  (hr : GT (z_756_1 ds) (wfp_h ds d p j)) : CT 127 #[(.string (dstr ds)),(lI 10)] (mkH 5 []) bT (mkH 6 []) :=
  sF (sc := [(2, .op (.nxtE)), (10, .stay)]) (by kernel_rfl) (aI (show ¬ p < (dstr ds).size from (by omega)) tt) hr
theorem wfp_loop {ds : List Nat} {d : Nat} (hd : Dig ds) : ∀ (k p : Nat) (j : List Value), k = ds.length - p → p ≤ ds.length →
    GT ⟨Frame.enter Tryz.prog 127 #[(.string (dstr ds)),(lI 10)] .normal, [], mkH 5 []⟩ (wfp_h ds d p j) → CT 127 #[(.string (dstr ds)),(lI 10)] (mkH 5 []) bT (mkH 6 []) := by
  intro k
  induction k with
  | zero =>
    intro p j hk hp hr
    exact wfp_o ds d p j (by rw [dstr_size]; omega) hr
  | succ k ih =>
    intro p j hk hp hr
    have r := wfp_r ds d p (ds.getD p 0) j (hd.get p) (by rw [dstr_size]; omega) (decode_dstr hd (by omega))
    exact ih (p + 1) _ (by omega) (by omega) (hr.trans r)
theorem wfpc (n0 : Nat) (ds : List Nat) (hG : 5 ≤ n0) (hd : Dig ds) (h0 : 0 < ds.length) (h1 : ds.getD 0 0 ≠ 0) : FT 127 #[(.string (dstr ds)),(lI 10)] n0 [] bT [] [] :=
  fsp_flat [] [] [] [] [] n0 (wfp_loop hd _ _ _ rfl (Nat.zero_le _) (wfp_in ds _ hd h0 (hd.get 0) h1 (dstr_get h0))) rfl rfl rfl (by simp) (by simp) hG rfl rfl rfl (by simp) (by simp) rfl rfl rfl
noncomputable def wfm_h_f (ds : List Nat) (d p : Nat) (j : List Value) : Frame := ⟨127, List.toArray [(.string (mstr ds)), (lI 10), uu, uu, (J j 0), bT, (.string (dstr ds)), uu, (J j 1), (J j 2), (J j 3), (J j 4), bT, (J j 5), (J j 6), bF, bF, (J j 7), (J j 8), bF, bF, uu, uu, uu, uu, uu, uu, bF, bF, (J j 9), (pt 5), (J j 10), (J j 11), (J j 12), (J j 13), (J j 14), (J j 15), (J j 16)], [.code (cd Tryz.f127 [1, 1, 1, 0, 1, 0, 0]), .inLoop (cd Tryz.f127 [1, 1, 1, 0, 1, 0, 0]), .inBlock 0, .code (cd Tryz.f127 [1, 1, 1, 1])], [], .run, .normal, none⟩
noncomputable def wfm_h_o (ds : List Nat) (d p : Nat) : List (Nat × AObj) := [(5, (.iter (dstr ds) p))]
noncomputable def wfm_h (ds : List Nat) (d p : Nat) (j : List Value) : AS := ⟨wfm_h_f ds d p j, [], mkH 6 (wfm_h_o ds d p)⟩
theorem wfm_in (ds : List Nat) (d : Nat) (hd : Dig ds) (h0 : 0 < ds.length) (h1 : d < 10) (h2 : d ≠ 0) (hx : (dstr ds)[0]? = some (UInt8.ofNat (48 + d)))  : GT ⟨Frame.enter Tryz.prog 127 #[(.string (mstr ds)),(lI 10)] .normal, [], mkH 5 []⟩ (wfm_h ds d 0 [bF, undef, (z_756_2 ds), (.string (mstr ds)), (z_756_2 ds), (.string (dstr ds)), (.string (dstr ds)), (.string (dstr ds)), (z_756_3 d), (.string (dstr ds)), undef, undef, undef, undef, undef, undef, undef]) :=
  sR (sc := [(7, .call [] (z_756_2 ds) [] []), (10, .op (.rwB false)), (2, .op (.sidx (UInt8.ofNat (48 + d)))), (0, .op (.rwB false)), (20, .stay)]) (by kernel_rfl) (aI (so_mc 5 ds (by omega)) (aI (show ((dstr ds).toList == (bts []).toList) = false from (ne_empty h0)) (aI (show 0 ≤ (0 : Int) ∧ (dstr ds)[Int.toNat (0 : Int)]? = some (UInt8.ofNat (48 + d)) from ⟨by omega, hx⟩) (aI (show ((((UInt8.ofNat (48 + d)).toNat : Nat) : Int) == (48 : Int)) = false from (byte_ne h1 h2)) tt))))
theorem wfm_r (ds : List Nat) (d p q : Nat) (j : List Value) (hq : q < 10) (hp : p < (dstr ds).size) (he : Utf8.decode (dstr ds) p = (48 + q, 1))  : GT (wfm_h ds d p j) (wfm_h ds d (p + 1) [(J j 0), (nR (48 + q)), (J j 2), (J j 3), (J j 4), (J j 5), (J j 6), (J j 7), (J j 8), (J j 9), (.tuple #[bT,(nI p),(nR (48 + q))]), bT, (nR (48 + q)), (nR (48 + q)), (nI q), (lI 10), bF]) :=
  sR (sc := [(2, .op (.nxtC (48 + q) 1 (p + 1))), (14, .call [] (nI q) [] []), (1, .op (.rwB false)), (5, .stay)]) (by kernel_rfl) (aI (show p < (dstr ds).size ∧ Utf8.decode (dstr ds) p = ((48 + q), 1) ∧ p + 1 = (p + 1) from ⟨hp, he, rfl⟩) (aI (do_c 6 q (by omega) hq) (aI (dF (p := (q : Int) ≥ (10 : Int)) (by omega)) tt)))
theorem wfm_o (ds : List Nat) (d p : Nat) (j : List Value) (hp : (dstr ds).size ≤ p)  (hr : GT ⟨Frame.enter Tryz.prog 127 #[(.string (mstr ds)),(lI 10)] .normal, [], mkH 5 []⟩ (wfm_h ds d p j)) : CT 127 #[(.string (mstr ds)),(lI 10)] (mkH 5 []) bT (mkH 6 []) :=
  sF (sc := [(2, .op (.nxtE)), (10, .stay)]) (by kernel_rfl) (aI (show ¬ p < (dstr ds).size from (by omega)) tt) hr
theorem wfm_loop {ds : List Nat} {d : Nat} (hd : Dig ds) : ∀ (k p : Nat) (j : List Value), k = ds.length - p → p ≤ ds.length →
    GT ⟨Frame.enter Tryz.prog 127 #[(.string (mstr ds)),(lI 10)] .normal, [], mkH 5 []⟩ (wfm_h ds d p j) → CT 127 #[(.string (mstr ds)),(lI 10)] (mkH 5 []) bT (mkH 6 []) := by
  intro k
  induction k with
  | zero =>
    intro p j hk hp hr
    exact wfm_o ds d p j (by rw [dstr_size]; omega) hr
  | succ k ih =>
    intro p j hk hp hr
    have r := wfm_r ds d p (ds.getD p 0) j (hd.get p) (by rw [dstr_size]; omega) (decode_dstr hd (by omega))
    exact ih (p + 1) _ (by omega) (by omega) (hr.trans r)
theorem wfmc (n0 : Nat) (ds : List Nat) (hG : 5 ≤ n0) (hd : Dig ds) (h0 : 0 < ds.length) (h1 : ds.getD 0 0 ≠ 0) : FT 127 #[(.string (mstr ds)),(lI 10)] n0 [] bT [] [] :=
  fsp_flat [] [] [] [] [] n0 (wfm_loop hd _ _ _ rfl (Nat.zero_le _) (wfm_in ds _ hd h0 (hd.get 0) h1 (dstr_get h0))) rfl rfl rfl (by simp) (by simp) hG rfl rfl rfl (by simp) (by simp) rfl rfl rfl
noncomputable def wfz_h_f (ds : List Nat) (d p : Nat) (j : List Value) : Frame := ⟨127, List.toArray [(.string (dstr ds)), (lI 10), uu, uu, (J j 0), bF, (.string (dstr ds)), uu, (J j 1), (J j 2), (J j 3), (J j 4), bF, (J j 5), (J j 6), bF, bF, (J j 7), (J j 8), bT, bT, bF, bF, bF, (J j 9), bF, bF, bF, bF, (J j 10), (pt 5), (J j 11), (J j 12), (J j 13), (J j 14), (J j 15), (J j 16), (J j 17)], [.code (cd Tryz.f127 [1, 1, 1, 0, 1, 0, 0]), .inLoop (cd Tryz.f127 [1, 1, 1, 0, 1, 0, 0]), .inBlock 0, .code (cd Tryz.f127 [1, 1, 1, 1])], [], .run, .normal, none⟩
noncomputable def wfz_h_o (ds : List Nat) (d p : Nat) : List (Nat × AObj) := [(5, (.iter (dstr ds) p))]
noncomputable def wfz_h (ds : List Nat) (d p : Nat) (j : List Value) : AS := ⟨wfz_h_f ds d p j, [], mkH 6 (wfz_h_o ds d p)⟩
theorem wfz_in (ds : List Nat) (d : Nat) (hd : Dig ds) (h0 : 0 < ds.length) (h1 : d < 10) (h2 : d = 0) (hz : (!((dstr ds).toList == (Seg.bts [48]).toList)) = false) (hx : (dstr ds)[0]? = some (UInt8.ofNat (48 + d)))  : GT (z_756_1 ds) (wfz_h ds d 0 [bF, undef, (z_756_0 ds), (.string (dstr ds)), (z_756_0 ds), (.string (dstr ds)), (.string (dstr ds)), (.string (dstr ds)), (z_756_3 d), (.string (dstr ds)), (.string (dstr ds)), undef, undef, undef, undef, undef, undef, undef]) :=
  sR (sc := [(7, .call [] (z_756_0 ds) [] []), (10, .op (.rwB false)), (2, .op (.sidx (UInt8.ofNat (48 + d)))), (0, .op (.rwB true)), (16, .op (.rwB false)), (14, .stay)]) (by kernel_rfl) (aI (so_pc 5 ds (by omega) hd h0) (aI (show ((dstr ds).toList == (bts []).toList) = false from (ne_empty h0)) (aI (show 0 ≤ (0 : Int) ∧ (dstr ds)[Int.toNat (0 : Int)]? = some (UInt8.ofNat (48 + d)) from ⟨by omega, hx⟩) (aI (show ((((UInt8.ofNat (48 + d)).toNat : Nat) : Int) == (48 : Int)) = true from (byte_zero h2)) (aI hz tt)))))
theorem wfz_r (ds : List Nat) (d p q : Nat) (j : List Value) (hq : q < 10) (hp : p < (dstr ds).size) (he : Utf8.decode (dstr ds) p = (48 + q, 1))  : GT (wfz_h ds d p j) (wfz_h ds d (p + 1) [(J j 0), (nR (48 + q)), (J j 2), (J j 3), (J j 4), (J j 5), (J j 6), (J j 7), (J j 8), (J j 9), (J j 10), (.tuple #[bT,(nI p),(nR (48 + q))]), bT, (nR (48 + q)), (nR (48 + q)), (nI q), (lI 10), bF]) :=
  sR (sc := [(2, .op (.nxtC (48 + q) 1 (p + 1))), (14, .call [] (nI q) [] []), (1, .op (.rwB false)), (5, .stay)]) (by kernel_rfl) (aI (show p < (dstr ds).size ∧ Utf8.decode (dstr ds) p = ((48 + q), 1) ∧ p + 1 = (p + 1) from ⟨hp, he, rfl⟩) (aI (do_c 6 q (by omega) hq) (aI (dF (p := (q : Int) ≥ (10 : Int)) (by omega)) tt)))
theorem wfz_o (ds : List Nat) (d p : Nat) (j : List Value) (hp : (dstr ds).size ≤ p)  (hr : GT (z_756_1 ds) (wfz_h ds d p j)) : CT 127 #[(.string (dstr ds)),(lI 10)] (mkH 5 []) bT (mkH 6 []) :=
  sF (sc := [(2, .op (.nxtE)), (10, .stay)]) (by kernel_rfl) (aI (show ¬ p < (dstr ds).size from (by omega)) tt) hr
theorem wfz_loop {ds : List Nat} {d : Nat} (hd : Dig ds) : ∀ (k p : Nat) (j : List Value), k = ds.length - p → p ≤ ds.length →
    GT ⟨Frame.enter Tryz.prog 127 #[(.string (dstr ds)),(lI 10)] .normal, [], mkH 5 []⟩ (wfz_h ds d p j) → CT 127 #[(.string (dstr ds)),(lI 10)] (mkH 5 []) bT (mkH 6 []) := by
  intro k
  induction k with
  | zero =>
    intro p j hk hp hr
    exact wfz_o ds d p j (by rw [dstr_size]; omega) hr
  | succ k ih =>
    intro p j hk hp hr
    have r := wfz_r ds d p (ds.getD p 0) j (hd.get p) (by rw [dstr_size]; omega) (decode_dstr hd (by omega))
    exact ih (p + 1) _ (by omega) (by omega) (hr.trans r)
theorem wfzc (n0 : Nat) (ds : List Nat) (hG : 5 ≤ n0) (hd : Dig ds) (h0 : 0 < ds.length) (h1 : ds = [0]) : FT 127 #[(.string (dstr ds)),(lI 10)] n0 [] bT [] [] :=
  fsp_flat [] [] [] [] [] n0 (wfz_loop hd _ _ _ rfl (Nat.zero_le _) (wfz_in ds _ hd h0 (hd.get 0) (by rw [h1]; rfl) (by rw [h1]; decide +kernel) (dstr_get h0))) rfl rfl rfl (by simp) (by simp) hG rfl rfl rfl (by simp) (by simp) rfl rfl rfl
theorem kips (ds : List Nat) (hd : Dig ds) (h0 : 0 < ds.length) (h1 : ds.getD 0 0 ≠ 0) (hs : (dstr ds).size ≤ 18)  : CT 145 #[(.string (dstr ds))] (mkH 5 []) (lI 2) (mkH 5 []) :=
  sF (sc := [(8, .call [] bT [] []), (7, .call [] (z_756_0 ds) [] []), (12, .op (.rwB false)), (7, .op (.rwB false)), (10, .stay)]) (by kernel_rfl) (aI (wfpc 5 ds (by omega) hd h0 h1) (aI (so_pc 5 ds (by omega) hd h0) (aI (dF (p := (((dstr ds).size : Nat) : Int) > (400 : Int)) (by omega)) (aI (dF (p := (((dstr ds).size : Nat) : Int) > (18 : Int)) (by omega)) tt)))) (Gets.refl _)
theorem kipsc (n0 : Nat) (ds : List Nat) (hG : 5 ≤ n0) (hd : Dig ds) (h0 : 0 < ds.length) (h1 : ds.getD 0 0 ≠ 0) (hs : (dstr ds).size ≤ 18) : FT 145 #[(.string (dstr ds))] n0 [] (lI 2) [] [] :=
  fsp_flat [] [] [] [] [] n0 (kips ds hd h0 h1 hs) rfl rfl rfl (by simp) (by simp) hG rfl rfl rfl (by simp) (by simp) rfl rfl rfl
theorem kipl (ds : List Nat) (hd : Dig ds) (h0 : 0 < ds.length) (h1 : ds.getD 0 0 ≠ 0) (hs : 18 < (dstr ds).size) (hs2 : (dstr ds).size ≤ 400)  : CT 145 #[(.string (dstr ds))] (mkH 5 []) (lI 3) (mkH 5 []) :=
  sF (sc := [(8, .call [] bT [] []), (7, .call [] (z_756_0 ds) [] []), (12, .op (.rwB false)), (7, .op (.rwB true)), (8, .stay)]) (by kernel_rfl) (aI (wfpc 5 ds (by omega) hd h0 h1) (aI (so_pc 5 ds (by omega) hd h0) (aI (dF (p := (((dstr ds).size : Nat) : Int) > (400 : Int)) (by omega)) (aI (dT (p := (((dstr ds).size : Nat) : Int) > (18 : Int)) (by omega)) tt)))) (Gets.refl _)
theorem kiplc (n0 : Nat) (ds : List Nat) (hG : 5 ≤ n0) (hd : Dig ds) (h0 : 0 < ds.length) (h1 : ds.getD 0 0 ≠ 0) (hs : 18 < (dstr ds).size) (hs2 : (dstr ds).size ≤ 400) : FT 145 #[(.string (dstr ds))] n0 [] (lI 3) [] [] :=
  fsp_flat [] [] [] [] [] n0 (kipl ds hd h0 h1 hs hs2) rfl rfl rfl (by simp) (by simp) hG rfl rfl rfl (by simp) (by simp) rfl rfl rfl
theorem kims (ds : List Nat) (hd : Dig ds) (h0 : 0 < ds.length) (h1 : ds.getD 0 0 ≠ 0) (hs : (dstr ds).size ≤ 18)  : CT 145 #[(.string (mstr ds))] (mkH 5 []) (lI 2) (mkH 5 []) :=
  sF (sc := [(8, .call [] bT [] []), (7, .call [] (z_756_2 ds) [] []), (12, .op (.rwB false)), (7, .op (.rwB false)), (10, .stay)]) (by kernel_rfl) (aI (wfmc 5 ds (by omega) hd h0 h1) (aI (so_mc 5 ds (by omega)) (aI (dF (p := (((dstr ds).size : Nat) : Int) > (400 : Int)) (by omega)) (aI (dF (p := (((dstr ds).size : Nat) : Int) > (18 : Int)) (by omega)) tt)))) (Gets.refl _)
theorem kimsc (n0 : Nat) (ds : List Nat) (hG : 5 ≤ n0) (hd : Dig ds) (h0 : 0 < ds.length) (h1 : ds.getD 0 0 ≠ 0) (hs : (dstr ds).size ≤ 18) : FT 145 #[(.string (mstr ds))] n0 [] (lI 2) [] [] :=
  fsp_flat [] [] [] [] [] n0 (kims ds hd h0 h1 hs) rfl rfl rfl (by simp) (by simp) hG rfl rfl rfl (by simp) (by simp) rfl rfl rfl
theorem kiml (ds : List Nat) (hd : Dig ds) (h0 : 0 < ds.length) (h1 : ds.getD 0 0 ≠ 0) (hs : 18 < (dstr ds).size) (hs2 : (dstr ds).size ≤ 400)  : CT 145 #[(.string (mstr ds))] (mkH 5 []) (lI 3) (mkH 5 []) :=
  sF (sc := [(8, .call [] bT [] []), (7, .call [] (z_756_2 ds) [] []), (12, .op (.rwB false)), (7, .op (.rwB true)), (8, .stay)]) (by kernel_rfl) (aI (wfmc 5 ds (by omega) hd h0 h1) (aI (so_mc 5 ds (by omega)) (aI (dF (p := (((dstr ds).size : Nat) : Int) > (400 : Int)) (by omega)) (aI (dT (p := (((dstr ds).size : Nat) : Int) > (18 : Int)) (by omega)) tt)))) (Gets.refl _)
theorem kimlc (n0 : Nat) (ds : List Nat) (hG : 5 ≤ n0) (hd : Dig ds) (h0 : 0 < ds.length) (h1 : ds.getD 0 0 ≠ 0) (hs : 18 < (dstr ds).size) (hs2 : (dstr ds).size ≤ 400) : FT 145 #[(.string (mstr ds))] n0 [] (lI 3) [] [] :=
  fsp_flat [] [] [] [] [] n0 (kiml ds hd h0 h1 hs hs2) rfl rfl rfl (by simp) (by simp) hG rfl rfl rfl (by simp) (by simp) rfl rfl rfl
theorem kizs (ds : List Nat) (hd : Dig ds) (h0 : 0 < ds.length) (h1 : ds = [0]) (hs : (dstr ds).size ≤ 18)  : CT 145 #[(.string (dstr ds))] (mkH 5 []) (lI 2) (mkH 5 []) :=
  sF (sc := [(8, .call [] bT [] []), (7, .call [] (z_756_0 ds) [] []), (12, .op (.rwB false)), (7, .op (.rwB false)), (10, .stay)]) (by kernel_rfl) (aI (wfzc 5 ds (by omega) hd h0 h1) (aI (so_pc 5 ds (by omega) hd h0) (aI (dF (p := (((dstr ds).size : Nat) : Int) > (400 : Int)) (by omega)) (aI (dF (p := (((dstr ds).size : Nat) : Int) > (18 : Int)) (by omega)) tt)))) (Gets.refl _)
theorem kizsc (n0 : Nat) (ds : List Nat) (hG : 5 ≤ n0) (hd : Dig ds) (h0 : 0 < ds.length) (h1 : ds = [0]) (hs : (dstr ds).size ≤ 18) : FT 145 #[(.string (dstr ds))] n0 [] (lI 2) [] [] :=
  fsp_flat [] [] [] [] [] n0 (kizs ds hd h0 h1 hs) rfl rfl rfl (by simp) (by simp) hG rfl rfl rfl (by simp) (by simp) rfl rfl rfl
end Go.Proofs.YtjbflfbhfnkmlaaGreatDoor
