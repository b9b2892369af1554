import Derived.Test.YtbjpjoodjbmicaaGreatDoorK
import Derived.Test.YtbjpjoodjbmicaaGreatDoorPTrim
import Derived.Test.YtbjpjoodjbmicaaGreatDoorPWf
import Derived.Test.YtbjpjoodjbmicaaGreatDoorLF
import Derived.Test.YtbjpjoodjbmicaaGreatDoorPText
set_option linter.unusedVariables false
set_option linter.unusedSimpArgs false
set_option maxRecDepth 100000
namespace Go.Proofs.YtbjpjoodjbmicaaGreatDoor
open Go Go.AE Seg
noncomputable section
abbrev z_02c_0 (i : Nat) : Value := .pointer (some ⟨5,i,none⟩)
end
noncomputable def lose_h_f (xs ys : List Nat) (n c k e : Nat) (q i : Nat) (j : List Value) : Frame := ⟨192, List.toArray [(sl 5 n c), (sl 6 k e), uu, uu, (nW q), (nI i), (J j 0), (J j 1), (J j 2), (J j 3), (J j 4), (J j 5), (J j 6), (J j 7), (J j 8), (J j 9), (J j 10), (J j 11), (J j 12), (J j 13), (J j 14), (J j 15), (J j 16), (J j 17), (J j 18), (J j 19), (J j 20), (J j 21), (J j 22), (J j 23), (J j 24), (J j 25), (J j 26), (J j 27), (J j 28), (J j 29), (J j 30), (J j 31), (J j 32), (J j 33), (J j 34), (J j 35), (J j 36), (J j 37), (J j 38), (J j 39), (J j 40)], [.code (cd Tryz.f192 [1, 1, 0, 0]), .inLoop (cd Tryz.f192 [1, 1, 0, 0]), .inBlock 0], [], .run, .normal, none⟩
noncomputable def lose_h_o (xs ys : List Nat) (n c k e : Nat) (q i : Nat) : List (Nat × AObj) := [(5, (cU xs)), (6, (cU ys))]
noncomputable def lose_h (xs ys : List Nat) (n c k e : Nat) (q i : Nat) (j : List Value) : AS := ⟨lose_h_f xs ys n c k e q i j, [], mkH 7 (lose_h_o xs ys n c k e q i)⟩
theorem lose_in (xs ys : List Nat) (n c k e : Nat)  : GT ⟨Frame.enter Tryz.prog 192 #[(sl 5 n c),(sl 6 k e)] .normal, [], mkH 7 [(5, (cU xs)), (6, (cU ys))]⟩ (lose_h xs ys n c k e 0 0 [undef, undef, undef, undef, undef, undef, undef, undef, undef, undef, undef, undef, undef, undef, undef, undef, undef, undef, undef, undef, undef, undef, undef, undef, undef, undef, undef, undef, undef, undef, undef, undef, undef, undef, undef, undef, undef, undef, undef, undef, undef]) :=
  sR (sc := [(10, .stay)]) (fr1 := lose_h_f xs ys n c k e 0 0 [uu, uu, uu, uu, uu, uu, uu, uu, uu, uu, uu, uu, uu, uu, uu, uu, uu, uu, uu, uu, uu, uu, uu, uu, uu, uu, uu, uu, uu, uu, uu, uu, uu, uu, uu, uu, uu, uu, uu, uu, uu]) (next := 7) (l := lose_h_o xs ys n c k e 0 0) (p := True) (by kernel_rfl) tt
theorem lose_t1 (xs ys : List Nat) (n c k e q i a b v : Nat) (j : List Value) (hi : i < k) (hn : i < n) (hc : n ≤ xs.length) (hm : n < 9223372036854775807) (hkm : k < 9223372036854775807) (hb : b < 1000000000) (ha : a < 1000000000) (hq : q ≤ 1) (hx : (ns .u32 xs)[i]? = some (nW a)) (hy : (ns .u32 ys)[i]? = some (nW b)) (hlt : a < q + b) (hv : v + (q + b) = a + 1000000000)  : GT (lose_h xs ys n c k e q i j) (lose_h (xs.set i v) ys n c k e 1 (i + 1) [(nW (q + b)), (nI i), (sl 6 k e), (nI k), bT, bT, undef, undef, bT, (nI i), (nI (i + 1)), (nW q), (nI i), (sl 6 k e), (nI k), bT, (nW q), (sl 6 k e), (nI i), (.pointer (some ⟨6,i,none⟩)), (nW b), (nW (q + b)), (sl 5 n c), (nI i), (z_02c_0 i), (nW a), (nW (q + b)), bT, (sl 5 n c), (nI i), (z_02c_0 i), (nW a), (nW (a + 1000000000)), (z_02c_0 i), (sl 5 n c), (nI i), (z_02c_0 i), (nW (a + 1000000000)), (nW (q + b)), (nW v), (z_02c_0 i)]) :=
  sR (sc := [(6, .op (.rwB true)), (20, .op (.rwB true)), (6, .op (.idx i)), (0, .op (.ld (nW b))), (0, .op (.rwI (((q + b) : Nat) : Int))), (11, .op (.idx i)), (0, .op (.ld (nW a))), (1, .op (.rwB true)), (9, .op (.idx i)), (0, .op (.ld (nW a))), (0, .op (.rwI (((a + 1000000000) : Nat) : Int))), (0, .op (.idx i)), (0, .op (.st (ns .u32 (xs.set i (a + 1000000000))))), (4, .op (.idx i)), (0, .op (.ld (nW (a + 1000000000)))), (1, .op (.rwI (v : Int))), (0, .op (.idx i)), (0, .op (.st (ns .u32 (xs.set i v)))), (4, .op (.rwI (((i + 1) : Nat) : Int))), (3, .stay)]) (fr1 := lose_h_f (xs.set i v) ys n c k e 1 (i + 1) [(nW (q + b)), (nI i), (sl 6 k e), (nI k), bT, bT, uu, uu, bT, (nI i), (nI (i + 1)), (nW q), (nI i), (sl 6 k e), (nI k), bT, (nW q), (sl 6 k e), (nI i), (.pointer (some ⟨6,i,none⟩)), (nW b), (nW (q + b)), (sl 5 n c), (nI i), (z_02c_0 i), (nW a), (nW (q + b)), bT, (sl 5 n c), (nI i), (z_02c_0 i), (nW a), (nW (a + 1000000000)), (z_02c_0 i), (sl 5 n c), (nI i), (z_02c_0 i), (nW (a + 1000000000)), (nW (q + b)), (nW v), (z_02c_0 i)]) (next := 7) (l := lose_h_o (xs.set i v) ys n c k e 1 (i + 1)) (p := (decide ((i : Int) < (k : Int)) = true) ∧ (decide ((i : Int) < (k : Int)) = true) ∧ (0 ≤ (i : Int) ∧ (i : Int) < (k : Int) ∧ 0 + Int.toNat (i : Int) * 1 = i) ∧ (((ns .u32 ys) : List Value)[i]? = some (nW b)) ∧ (IntKind.wrap .u32 ((q : Int) + (b : Int)) = (((q + b) : Nat) : Int)) ∧ (0 ≤ (i : Int) ∧ (i : Int) < (n : Int) ∧ 0 + Int.toNat (i : Int) * 1 = i) ∧ (((ns .u32 xs) : List Value)[i]? = some (nW a)) ∧ (decide ((a : Int) < (((q + b) : Nat) : Int)) = true) ∧ (0 ≤ (i : Int) ∧ (i : Int) < (n : Int) ∧ 0 + Int.toNat (i : Int) * 1 = i) ∧ (((ns .u32 xs) : List Value)[i]? = some (nW a)) ∧ (IntKind.wrap .u32 ((a : Int) + (1000000000 : Int)) = (((a + 1000000000) : Nat) : Int)) ∧ (0 ≤ (i : Int) ∧ (i : Int) < (n : Int) ∧ 0 + Int.toNat (i : Int) * 1 = i) ∧ (i + 1 ≤ (ns .u32 xs).length ∧ lspl (ns .u32 xs) i [(nW (a + 1000000000))] = (ns .u32 (xs.set i (a + 1000000000)))) ∧ (0 ≤ (i : Int) ∧ (i : Int) < (n : Int) ∧ 0 + Int.toNat (i : Int) * 1 = i) ∧ (((ns .u32 (xs.set i (a + 1000000000))) : List Value)[i]? = some (nW (a + 1000000000))) ∧ (IntKind.wrap .u32 ((((a + 1000000000) : Nat) : Int) - (((q + b) : Nat) : Int)) = (v : Int)) ∧ (0 ≤ (i : Int) ∧ (i : Int) < (n : Int) ∧ 0 + Int.toNat (i : Int) * 1 = i) ∧ (i + 1 ≤ (ns .u32 (xs.set i (a + 1000000000))).length ∧ lspl (ns .u32 (xs.set i (a + 1000000000))) i [(nW v)] = (ns .u32 (xs.set i v))) ∧ (IntKind.wrap .i64 ((i : Int) + (1 : Int)) = (((i + 1) : Nat) : Int)) ∧ True) (by kernel_rfl) ⟨(dT (by omega)), (dT (by omega)), (by omega), hy, (wU32 (by omega)), (by omega), hx, (dT (by omega)), (by omega), hx, (wU32 (by omega)), (by omega), (ns_set (by omega)), (by omega), (ns_get_set (by omega)), (wU32 (by omega)), (by omega), (ns_set2 (by omega)), (wI64 (by omega)), tt⟩
theorem lose_f1 (xs ys : List Nat) (n c k e q i a b v : Nat) (j : List Value) (hi : i < k) (hn : i < n) (hc : n ≤ xs.length) (hm : n < 9223372036854775807) (hkm : k < 9223372036854775807) (hb : b < 1000000000) (ha : a < 1000000000) (hq : q ≤ 1) (hx : (ns .u32 xs)[i]? = some (nW a)) (hy : (ns .u32 ys)[i]? = some (nW b)) (hlt : q + b ≤ a) (hv : v + (q + b) = a)  : GT (lose_h xs ys n c k e q i j) (lose_h (xs.set i v) ys n c k e 0 (i + 1) [(nW (q + b)), (nI i), (sl 6 k e), (nI k), bT, bT, undef, undef, bT, (nI i), (nI (i + 1)), (nW q), (nI i), (sl 6 k e), (nI k), bT, (nW q), (sl 6 k e), (nI i), (.pointer (some ⟨6,i,none⟩)), (nW b), (nW (q + b)), (sl 5 n c), (nI i), (z_02c_0 i), (nW a), (nW (q + b)), bF, (J j 28), (J j 29), (J j 30), (J j 31), (J j 32), (J j 33), (sl 5 n c), (nI i), (z_02c_0 i), (nW a), (nW (q + b)), (nW v), (z_02c_0 i)]) :=
  sR (sc := [(6, .op (.rwB true)), (20, .op (.rwB true)), (6, .op (.idx i)), (0, .op (.ld (nW b))), (0, .op (.rwI (((q + b) : Nat) : Int))), (11, .op (.idx i)), (0, .op (.ld (nW a))), (1, .op (.rwB false)), (6, .op (.idx i)), (0, .op (.ld (nW a))), (1, .op (.rwI (v : Int))), (0, .op (.idx i)), (0, .op (.st (ns .u32 (xs.set i v)))), (4, .op (.rwI (((i + 1) : Nat) : Int))), (3, .stay)]) (fr1 := lose_h_f (xs.set i v) ys n c k e 0 (i + 1) [(nW (q + b)), (nI i), (sl 6 k e), (nI k), bT, bT, uu, uu, bT, (nI i), (nI (i + 1)), (nW q), (nI i), (sl 6 k e), (nI k), bT, (nW q), (sl 6 k e), (nI i), (.pointer (some ⟨6,i,none⟩)), (nW b), (nW (q + b)), (sl 5 n c), (nI i), (z_02c_0 i), (nW a), (nW (q + b)), bF, (J j 28), (J j 29), (J j 30), (J j 31), (J j 32), (J j 33), (sl 5 n c), (nI i), (z_02c_0 i), (nW a), (nW (q + b)), (nW v), (z_02c_0 i)]) (next := 7) (l := lose_h_o (xs.set i v) ys n c k e 0 (i + 1)) (p := (decide ((i : Int) < (k : Int)) = true) ∧ (decide ((i : Int) < (k : Int)) = true) ∧ (0 ≤ (i : Int) ∧ (i : Int) < (k : Int) ∧ 0 + Int.toNat (i : Int) * 1 = i) ∧ (((ns .u32 ys) : List Value)[i]? = some (nW b)) ∧ (IntKind.wrap .u32 ((q : Int) + (b : Int)) = (((q + b) : Nat) : Int)) ∧ (0 ≤ (i : Int) ∧ (i : Int) < (n : Int) ∧ 0 + Int.toNat (i : Int) * 1 = i) ∧ (((ns .u32 xs) : List Value)[i]? = some (nW a)) ∧ (decide ((a : Int) < (((q + b) : Nat) : Int)) = false) ∧ (0 ≤ (i : Int) ∧ (i : Int) < (n : Int) ∧ 0 + Int.toNat (i : Int) * 1 = i) ∧ (((ns .u32 xs) : List Value)[i]? = some (nW a)) ∧ (IntKind.wrap .u32 ((a : Int) - (((q + b) : Nat) : Int)) = (v : Int)) ∧ (0 ≤ (i : Int) ∧ (i : Int) < (n : Int) ∧ 0 + Int.toNat (i : Int) * 1 = i) ∧ (i + 1 ≤ (ns .u32 xs).length ∧ lspl (ns .u32 xs) i [(nW v)] = (ns .u32 (xs.set i v))) ∧ (IntKind.wrap .i64 ((i : Int) + (1 : Int)) = (((i + 1) : Nat) : Int)) ∧ True) (by kernel_rfl) ⟨(dT (by omega)), (dT (by omega)), (by omega), hy, (wU32 (by omega)), (by omega), hx, (dF (by omega)), (by omega), hx, (wU32 (by omega)), (by omega), (ns_set (by omega)), (wI64 (by omega)), tt⟩
theorem lose_t2 (xs ys : List Nat) (n c k e q i a v : Nat) (j : List Value) (hi : k ≤ i) (hn : i < n) (hc : n ≤ xs.length) (hm : n < 9223372036854775807) (hq : q = 1) (ha : a < 1000000000) (hx : (ns .u32 xs)[i]? = some (nW a)) (hlt : a < q) (hv : v + q = a + 1000000000)  : GT (lose_h xs ys n c k e q i j) (lose_h (xs.set i v) ys n c k e 1 (i + 1) [(nW q), (nI i), (sl 6 k e), (nI k), bF, bF, (nW q), bT, bT, (nI i), (nI (i + 1)), (nW q), (nI i), (sl 6 k e), (nI k), bF, (J j 16), (J j 17), (J j 18), (J j 19), (J j 20), (J j 21), (sl 5 n c), (nI i), (z_02c_0 i), (nW a), (nW q), bT, (sl 5 n c), (nI i), (z_02c_0 i), (nW a), (nW (a + 1000000000)), (z_02c_0 i), (sl 5 n c), (nI i), (z_02c_0 i), (nW (a + 1000000000)), (nW q), (nW v), (z_02c_0 i)]) :=
  sR (sc := [(6, .op (.rwB false)), (2, .op (.rwB true)), (17, .op (.rwB false)), (12, .op (.idx i)), (0, .op (.ld (nW a))), (1, .op (.rwB true)), (9, .op (.idx i)), (0, .op (.ld (nW a))), (0, .op (.rwI (((a + 1000000000) : Nat) : Int))), (0, .op (.idx i)), (0, .op (.st (ns .u32 (xs.set i (a + 1000000000))))), (4, .op (.idx i)), (0, .op (.ld (nW (a + 1000000000)))), (1, .op (.rwI (v : Int))), (0, .op (.idx i)), (0, .op (.st (ns .u32 (xs.set i v)))), (4, .op (.rwI (((i + 1) : Nat) : Int))), (3, .stay)]) (fr1 := lose_h_f (xs.set i v) ys n c k e 1 (i + 1) [(nW q), (nI i), (sl 6 k e), (nI k), bF, bF, (nW q), bT, bT, (nI i), (nI (i + 1)), (nW q), (nI i), (sl 6 k e), (nI k), bF, (J j 16), (J j 17), (J j 18), (J j 19), (J j 20), (J j 21), (sl 5 n c), (nI i), (z_02c_0 i), (nW a), (nW q), bT, (sl 5 n c), (nI i), (z_02c_0 i), (nW a), (nW (a + 1000000000)), (z_02c_0 i), (sl 5 n c), (nI i), (z_02c_0 i), (nW (a + 1000000000)), (nW q), (nW v), (z_02c_0 i)]) (next := 7) (l := lose_h_o (xs.set i v) ys n c k e 1 (i + 1)) (p := (decide ((i : Int) < (k : Int)) = false) ∧ (decide ((q : Int) > (0 : Int)) = true) ∧ (decide ((i : Int) < (k : Int)) = false) ∧ (0 ≤ (i : Int) ∧ (i : Int) < (n : Int) ∧ 0 + Int.toNat (i : Int) * 1 = i) ∧ (((ns .u32 xs) : List Value)[i]? = some (nW a)) ∧ (decide ((a : Int) < (q : Int)) = true) ∧ (0 ≤ (i : Int) ∧ (i : Int) < (n : Int) ∧ 0 + Int.toNat (i : Int) * 1 = i) ∧ (((ns .u32 xs) : List Value)[i]? = some (nW a)) ∧ (IntKind.wrap .u32 ((a : Int) + (1000000000 : Int)) = (((a + 1000000000) : Nat) : Int)) ∧ (0 ≤ (i : Int) ∧ (i : Int) < (n : Int) ∧ 0 + Int.toNat (i : Int) * 1 = i) ∧ (i + 1 ≤ (ns .u32 xs).length ∧ lspl (ns .u32 xs) i [(nW (a + 1000000000))] = (ns .u32 (xs.set i (a + 1000000000)))) ∧ (0 ≤ (i : Int) ∧ (i : Int) < (n : Int) ∧ 0 + Int.toNat (i : Int) * 1 = i) ∧ (((ns .u32 (xs.set i (a + 1000000000))) : List Value)[i]? = some (nW (a + 1000000000))) ∧ (IntKind.wrap .u32 ((((a + 1000000000) : Nat) : Int) - (q : Int)) = (v : Int)) ∧ (0 ≤ (i : Int) ∧ (i : Int) < (n : Int) ∧ 0 + Int.toNat (i : Int) * 1 = i) ∧ (i + 1 ≤ (ns .u32 (xs.set i (a + 1000000000))).length ∧ lspl (ns .u32 (xs.set i (a + 1000000000))) i [(nW v)] = (ns .u32 (xs.set i v))) ∧ (IntKind.wrap .i64 ((i : Int) + (1 : Int)) = (((i + 1) : Nat) : Int)) ∧ True) (by kernel_rfl) ⟨(dF (by omega)), (dT (by omega)), (dF (by omega)), (by omega), hx, (dT (by omega)), (by omega), hx, (wU32 (by omega)), (by omega), (ns_set (by omega)), (by omega), (ns_get_set (by omega)), (wU32 (by omega)), (by omega), (ns_set2 (by omega)), (wI64 (by omega)), tt⟩
theorem lose_f2 (xs ys : List Nat) (n c k e q i a v : Nat) (j : List Value) (hi : k ≤ i) (hn : i < n) (hc : n ≤ xs.length) (hm : n < 9223372036854775807) (hq : q = 1) (ha : a < 1000000000) (hx : (ns .u32 xs)[i]? = some (nW a)) (hlt : q ≤ a) (hv : v + q = a)  : GT (lose_h xs ys n c k e q i j) (lose_h (xs.set i v) ys n c k e 0 (i + 1) [(nW q), (nI i), (sl 6 k e), (nI k), bF, bF, (nW q), bT, bT, (nI i), (nI (i + 1)), (nW q), (nI i), (sl 6 k e), (nI k), bF, (J j 16), (J j 17), (J j 18), (J j 19), (J j 20), (J j 21), (sl 5 n c), (nI i), (z_02c_0 i), (nW a), (nW q), bF, (J j 28), (J j 29), (J j 30), (J j 31), (J j 32), (J j 33), (sl 5 n c), (nI i), (z_02c_0 i), (nW a), (nW q), (nW v), (z_02c_0 i)]) :=
  sR (sc := [(6, .op (.rwB false)), (2, .op (.rwB true)), (17, .op (.rwB false)), (12, .op (.idx i)), (0, .op (.ld (nW a))), (1, .op (.rwB false)), (6, .op (.idx i)), (0, .op (.ld (nW a))), (1, .op (.rwI (v : Int))), (0, .op (.idx i)), (0, .op (.st (ns .u32 (xs.set i v)))), (4, .op (.rwI (((i + 1) : Nat) : Int))), (3, .stay)]) (fr1 := lose_h_f (xs.set i v) ys n c k e 0 (i + 1) [(nW q), (nI i), (sl 6 k e), (nI k), bF, bF, (nW q), bT, bT, (nI i), (nI (i + 1)), (nW q), (nI i), (sl 6 k e), (nI k), bF, (J j 16), (J j 17), (J j 18), (J j 19), (J j 20), (J j 21), (sl 5 n c), (nI i), (z_02c_0 i), (nW a), (nW q), bF, (J j 28), (J j 29), (J j 30), (J j 31), (J j 32), (J j 33), (sl 5 n c), (nI i), (z_02c_0 i), (nW a), (nW q), (nW v), (z_02c_0 i)]) (next := 7) (l := lose_h_o (xs.set i v) ys n c k e 0 (i + 1)) (p := (decide ((i : Int) < (k : Int)) = false) ∧ (decide ((q : Int) > (0 : Int)) = true) ∧ (decide ((i : Int) < (k : Int)) = false) ∧ (0 ≤ (i : Int) ∧ (i : Int) < (n : Int) ∧ 0 + Int.toNat (i : Int) * 1 = i) ∧ (((ns .u32 xs) : List Value)[i]? = some (nW a)) ∧ (decide ((a : Int) < (q : Int)) = false) ∧ (0 ≤ (i : Int) ∧ (i : Int) < (n : Int) ∧ 0 + Int.toNat (i : Int) * 1 = i) ∧ (((ns .u32 xs) : List Value)[i]? = some (nW a)) ∧ (IntKind.wrap .u32 ((a : Int) - (q : Int)) = (v : Int)) ∧ (0 ≤ (i : Int) ∧ (i : Int) < (n : Int) ∧ 0 + Int.toNat (i : Int) * 1 = i) ∧ (i + 1 ≤ (ns .u32 xs).length ∧ lspl (ns .u32 xs) i [(nW v)] = (ns .u32 (xs.set i v))) ∧ (IntKind.wrap .i64 ((i : Int) + (1 : Int)) = (((i + 1) : Nat) : Int)) ∧ True) (by kernel_rfl) ⟨(dF (by omega)), (dT (by omega)), (dF (by omega)), (by omega), hx, (dF (by omega)), (by omega), hx, (wU32 (by omega)), (by omega), (ns_set (by omega)), (wI64 (by omega)), tt⟩
theorem lose_out (xs0 xs ys : List Nat) (n c k e q i : Nat) (j : List Value) (hi : k ≤ i) (hq : q = 0)  (hr : GT ⟨Frame.enter Tryz.prog 192 #[(sl 5 n c),(sl 6 k e)] .normal, [], mkH 7 [(5, (cU xs0)), (6, (cU ys))]⟩ (lose_h xs ys n c k e q i j)) : CT 192 #[(sl 5 n c),(sl 6 k e)] (mkH 7 [(5, (cU xs0)), (6, (cU ys))]) undef (mkH 7 [(5, (cU xs)), (6, (cU ys))]) :=
  sF (sc := [(6, .op (.rwB false)), (2, .op (.rwB false)), (5, .stay)]) (next := 7) (l := [(5, (cU xs)), (6, (cU ys))]) (p := (decide ((i : Int) < (k : Int)) = false) ∧ (decide ((q : Int) > (0 : Int)) = false) ∧ True) (by kernel_rfl) ⟨(dF (by omega)), (dF (by omega)), tt⟩ hr
theorem lose_loop {s0 : AS} {ys : List Nat} {n k e D : Nat} (hly : Lim ys) (hk : k ≤ ys.length) (hkn : k ≤ n) (hn : n < 9223372036854775807) :
    ∀ (m : Nat) (xs : List Nat) (q i : Nat) (j : List Value), m = n - i → xs.length = n → Lim xs → i ≤ n → q ≤ 1 → D + q * 1000000000 ^ i + 1000000000 ^ i * val ((ys.take k).drop i) = val xs →
      GT s0 (lose_h xs ys n n k e q i j) → ∃ zs i' j', k ≤ i' ∧ zs.length = n ∧ Lim zs ∧ D = val zs ∧ GT s0 (lose_h zs ys n n k e 0 i' j') := by
  intro m
  induction m with
  | zero =>
    intro xs q i j hm hx hl hi hq hv hr
    have hin : i = n := by omega
    subst hin
    have hlt := val_lt hl
    rw [hx] at hlt
    have hq0 : q = 0 := by
      rcases Nat.eq_zero_or_pos q with h | h
      · exact h
      · have h1 : q = 1 := by omega
        rw [h1, Nat.one_mul] at hv
        omega
    subst hq0
    refine ⟨xs, i, j, hkn, hx, hl, ?_, hr⟩
    rw [List.drop_eq_nil_of_le (by rw [List.length_take]; omega)] at hv
    exact nil_end hv
  | succ m ih =>
    intro xs q i j hm hx hl hi hq hv hr
    have hP : 1000000000 ^ (i + 1) = 1000000000 ^ i * 1000000000 := Nat.pow_succ ..
    by_cases hik : i < k
    · have ha := hl.get i
      have hb := hly.get i
      have h2 : val ((ys.take k).drop i) = ys.getD i 0 + 1000000000 * val ((ys.take k).drop (i + 1)) := by
        rw [val_drop (by rw [List.length_take]; omega), getD_take hik]
      rw [h2] at hv
      by_cases hlt : xs.getD i 0 < q + ys.getD i 0
      · obtain ⟨v, hvv⟩ : ∃ v, v + (q + ys.getD i 0) = xs.getD i 0 + 1000000000 := ⟨xs.getD i 0 + 1000000000 - (q + ys.getD i 0), by omega⟩
        have r := lose_t1 xs ys n n k e q i (xs.getD i 0) (ys.getD i 0) v j hik (by omega) (by omega) hn (by omega) hb ha hq (ns_get (by omega)) (ns_get (by omega)) hlt hvv
        refine ih _ _ _ _ (by omega) (by simpa using hx) (hl.set (by omega)) (by omega) (by omega) ?_ (hr.trans r)
        have h1 := val_set xs i v (by omega)
        rw [hP]
        exact borrow_step hvv h1 hv
      · obtain ⟨v, hvv⟩ : ∃ v, v + (q + ys.getD i 0) = xs.getD i 0 := ⟨xs.getD i 0 - (q + ys.getD i 0), by omega⟩
        have r := lose_f1 xs ys n n k e q i (xs.getD i 0) (ys.getD i 0) v j hik (by omega) (by omega) hn (by omega) hb ha hq (ns_get (by omega)) (ns_get (by omega)) (by omega) hvv
        refine ih _ _ _ _ (by omega) (by simpa using hx) (hl.set (by omega)) (by omega) (by omega) ?_ (hr.trans r)
        have h1 := val_set xs i v (by omega)
        rw [hP]
        exact borrow_not hvv h1 hv
    · by_cases hq1 : q = 1
      · subst hq1
        rw [List.drop_eq_nil_of_le (by rw [List.length_take]; omega)] at hv
        have hlt0 := val_lt hl
        rw [hx] at hlt0
        have hv' := nil_one hv
        have hin : i < n := by
          rcases Nat.lt_or_ge i n with h | h
          · exact h
          · have := pow_le h
            omega
        have ha := hl.get i
        by_cases hlt : xs.getD i 0 < 1
        · obtain ⟨v, hvv⟩ : ∃ v, v + 1 = xs.getD i 0 + 1000000000 := ⟨xs.getD i 0 + 999999999, by omega⟩
          have r := lose_t2 xs ys n n k e 1 i (xs.getD i 0) v j (by omega) hin (by omega) hn rfl ha (ns_get (by omega)) hlt hvv
          refine ih _ _ _ _ (by omega) (by simpa using hx) (hl.set (by omega)) (by omega) (by omega) ?_ (hr.trans r)
          have h1 := val_set xs i v (by omega)
          rw [List.drop_eq_nil_of_le (by rw [List.length_take]; omega), hP]
          exact nil_add (borrow_step0 hvv h1 hv')
        · obtain ⟨v, hvv⟩ : ∃ v, v + 1 = xs.getD i 0 := ⟨xs.getD i 0 - 1, by omega⟩
          have r := lose_f2 xs ys n n k e 1 i (xs.getD i 0) v j (by omega) hin (by omega) hn rfl ha (ns_get (by omega)) (by omega) hvv
          refine ih _ _ _ _ (by omega) (by simpa using hx) (hl.set (by omega)) (by omega) (by omega) ?_ (hr.trans r)
          have h1 := val_set xs i v (by omega)
          rw [List.drop_eq_nil_of_le (by rw [List.length_take]; omega), hP]
          exact nil_add (borrow_not0 hvv h1 hv')
      · have hq0 : q = 0 := by omega
        subst hq0
        refine ⟨xs, i, j, by omega, hx, hl, ?_, hr⟩
        rw [List.drop_eq_nil_of_le (by rw [List.length_take]; omega)] at hv
        exact nil_end hv
theorem lose_c (n0 bx byy : Nat) (xs ys : List Nat) (k e : Nat) (hb : 5 ≤ bx ∧ bx < n0 ∧ 5 ≤ byy ∧ byy < n0 ∧ bx ≠ byy) (hlx : Lim xs) (hly : Lim ys) (hk : k ≤ ys.length) (hkn : k ≤ xs.length) (hn : xs.length < 9223372036854775807)
    (hT : val (ys.take k) ≤ val xs) :
    ∃ zs, zs.length = xs.length ∧ Lim zs ∧ val zs = val xs - val (ys.take k) ∧
      FT 192 #[sl bx xs.length xs.length, sl byy k e] n0 [(bx, cU xs), (byy, cU ys)] undef
        [(bx, some (cU zs)), (byy, some (cU ys))] [] := by
  have r := lose_in xs ys xs.length xs.length k e
  obtain ⟨zs, i', j', h1, h2, h3, h4, h5⟩ := lose_loop (D := val xs - val (ys.take k)) hly hk hkn hn _ xs 0 0 _ rfl rfl hlx (by omega) (by omega) (by simp; omega) r
  have S := lose_out xs zs ys xs.length xs.length k e 0 i' j' h1 rfl h5
  refine ⟨zs, h2, h3, h4.symm, fsp_flat [bx, byy] [cU xs, cU ys] [cU zs, cU ys] [] [] n0 S rfl rfl rfl ?_ ?_ (by omega) ?_ ?_ rfl (by simp) (by simp) rfl rfl rfl⟩
  · simp [hb.2.2.2.2]
  · simp; omega
  · simp [flat, ns_closed]
  · simp [flat, ns_closed]
noncomputable section
abbrev z_453_0 (xs : List Nat) (n : Nat) : AObj := .cells (ns .u32 (xs.take n ++ List.replicate (n - n) 0)) 121 none false
end
theorem minus_o (xs ys : List Nat) (n c k e : Nat) (hc : n ≤ xs.length) (hk : k ≤ ys.length) (hn : n < 1099511627776) (hkm : k < 1099511627776) (zs0 : List Nat) (hz : zs0.length = n) (hc1 : (FT 192 #[(sl 7 n n),(sl 6 k e)] 8 [(7,(z_453_0 xs n)),(6,(cU ys))] undef [(7,some (cU zs0)),(6,some (cU ys))] []))  : CT 153 #[(sl 5 n c),(sl 6 k e)] (mkH 7 [(5, (cU xs)), (6, (cU ys))]) (sl 7 (top zs0 n) (top zs0 n)) (mkH 8 [(5, (cU xs)), (6, (cU ys)), (7, (cU zs0))]) :=
  sF (sc := [(9, .call [5] (sl 7 n n) [(5,some (cU xs))] [(z_453_0 xs n)]), (6, .call [7,6] uu [(7,some (cU zs0)),(6,some (cU ys))] []), (4, .call [7] (sl 7 (top zs0 n) (top zs0 n)) [(7,some (cU zs0))] []), (3, .stay)]) (next := 8) (l := [(5, (cU xs)), (6, (cU ys)), (7, (cU zs0))]) (p := (FT 154 #[(sl 5 n c),(nI n)] 7 [(5,(cU xs))] (sl 7 n n) [(5,some (cU xs))] [(z_453_0 xs n)]) ∧ (FT 192 #[(sl 7 n n),(sl 6 k e)] 8 [(7,(z_453_0 xs n)),(6,(cU ys))] uu [(7,some (cU zs0)),(6,some (cU ys))] []) ∧ (FT 156 #[(sl 7 n n)] 8 [(7,(cU zs0))] (sl 7 (top zs0 n) (top zs0 n)) [(7,some (cU zs0))] []) ∧ True) (by kernel_rfl) ⟨(copied_c 7 5 xs n c n (by omega) (by omega) (by omega) (by omega)), hc1, (trim_c 8 7 zs0 n n (by omega) (by rw [hz]; exact Nat.le_refl _) (by omega) (by omega)), tt⟩ (Gets.refl _)
theorem minus_c (n0 bx byy : Nat) (xs ys : List Nat) (n c k e : Nat) (hb : 5 ≤ bx ∧ bx < n0 ∧ 5 ≤ byy ∧ byy < n0 ∧ bx ≠ byy) (hlx : Lim xs) (hly : Lim ys) (hc : n ≤ xs.length) (hk : k ≤ ys.length) (hn : n < 1099511627776) (hkm : k ≤ n) (hle : val (ys.take k) ≤ val (xs.take n)) :
    ∃ zs t, Lim zs ∧ t ≤ zs.length ∧ t ≤ n ∧ (0 < t → zs.getD (t - 1) 0 ≠ 0) ∧ val (zs.take t) = val (xs.take n) - val (ys.take k) ∧
      FT 153 #[sl bx n c, sl byy k e] n0 [(bx, cU xs), (byy, cU ys)] (sl n0 t t)
        [(bx, some (cU xs)), (byy, some (cU ys))] [cU zs] := by
  have hl1 : (xs.take n ++ List.replicate (n - n) 0).length = n := by rw [List.length_append, List.length_take, List.length_replicate]; omega
  have hv1 : val (xs.take n ++ List.replicate (n - n) 0) = val (xs.take n) := by rw [val_append, val_replicate, Nat.mul_zero, Nat.add_zero]
  obtain ⟨zs, h1, h2, h3, h4⟩ := lose_c 8 7 6 (xs.take n ++ List.replicate (n - n) 0) ys k e (by omega) ((hlx.take n).append (Lim.replicate _)) hly hk (by rw [hl1]; omega) (by rw [hl1]; omega) (by rw [hv1]; exact hle)
  rw [hl1] at h1 h4
  have S := minus_o xs ys n c k e hc hk hn (by omega) zs h1 h4
  have htl := top_le zs n
  refine ⟨zs, top zs n, h2, by rw [h1]; exact htl, htl, top_pos zs _, ?_, fsp_flat [bx, byy] [cU xs, cU ys] [cU xs, cU ys] [7] [cU zs] n0 S rfl rfl rfl ?_ ?_ (by omega) ?_ ?_ ?_ (by simp) (by simp) rfl rfl rfl⟩
  · rw [top_val, List.take_of_length_le (by rw [h1]; exact Nat.le_refl _), h3, hv1]
  · simp [hb.2.2.2.2]
  · simp; omega
  · simp [flat, ns_closed]
  · simp [flat, ns_closed]
  · simp [flat, ns_closed, AObj.ro]
theorem cmpu_lt (a b : Nat) (h : a < b)  : CT 191 #[(nW a),(nW b)] (mkH 5 []) (.int .i64 (.negSucc 0)) (mkH 5 []) :=
  sF (sc := [(16, .op (.rwB false)), (18, .op (.rwB false)), (25, .op (.rwB true)), (7, .stay)]) (next := 5) (l := []) (p := (((a : Int) != (a : Int)) = false) ∧ (((b : Int) != (b : Int)) = false) ∧ (decide ((a : Int) < (b : Int)) = true) ∧ True) (by kernel_rfl) ⟨(nF (by omega)), (nF (by omega)), (dT (by omega)), tt⟩ (Gets.refl _)
theorem cmpu_gt (a b : Nat) (h : b < a)  : CT 191 #[(nW a),(nW b)] (mkH 5 []) (lI 1) (mkH 5 []) :=
  sF (sc := [(16, .op (.rwB false)), (18, .op (.rwB false)), (25, .op (.rwB false)), (8, .op (.rwB true)), (7, .stay)]) (next := 5) (l := []) (p := (((a : Int) != (a : Int)) = false) ∧ (((b : Int) != (b : Int)) = false) ∧ (decide ((a : Int) < (b : Int)) = false) ∧ (decide ((a : Int) > (b : Int)) = true) ∧ True) (by kernel_rfl) ⟨(nF (by omega)), (nF (by omega)), (dF (by omega)), (dT (by omega)), tt⟩ (Gets.refl _)
theorem cmpu_eq (a b : Nat) (h : a = b)  : CT 191 #[(nW a),(nW b)] (mkH 5 []) (lI 0) (mkH 5 []) :=
  sF (sc := [(16, .op (.rwB false)), (18, .op (.rwB false)), (25, .op (.rwB false)), (8, .op (.rwB false)), (8, .stay)]) (next := 5) (l := []) (p := (((a : Int) != (a : Int)) = false) ∧ (((b : Int) != (b : Int)) = false) ∧ (decide ((a : Int) < (b : Int)) = false) ∧ (decide ((a : Int) > (b : Int)) = false) ∧ True) (by kernel_rfl) ⟨(nF (by omega)), (nF (by omega)), (dF (by omega)), (dF (by omega)), tt⟩ (Gets.refl _)
theorem cmpu_c (n0 a b : Nat) (hG : 5 ≤ n0) : FT 191 #[.int .u32 (a : Nat), .int .u32 (b : Nat)] n0 [] (.int .i64 (cmpN a b)) [] [] := by
  have S : CT 191 #[(nW a),(nW b)] (mkH 5 []) (.int .i64 (cmpN a b)) (mkH 5 []) := by
    rcases Nat.lt_trichotomy a b with h | h | h
    · rw [cmpN_lt h]; exact cmpu_lt a b h
    · rw [cmpN_eq h]; exact cmpu_eq a b h
    · rw [cmpN_gt h]; exact cmpu_gt a b h
  exact fsp_flat [] [] [] [] [] n0 S rfl rfl rfl (by simp) (by simp) hG rfl rfl rfl (by simp) (by simp) rfl rfl rfl
noncomputable section
abbrev z_c9b_0 (xs ys : List Nat) : List (Nat × AObj) := [(5, (cU xs)), (6, (cU ys))]
end
theorem cmp_lt (xs ys : List Nat) (n c k e : Nat) (hn : n < 1099511627776) (hkm : k < 1099511627776) (hlt : n < k)  : CT 152 #[(sl 5 n c),(sl 6 k e)] (mkH 7 (z_c9b_0 xs ys)) (.int .i64 (.negSucc 0)) (mkH 7 (z_c9b_0 xs ys)) :=
  sF (sc := [(11, .op (.rwB true)), (25, .op (.rwB false)), (18, .op (.rwB false)), (25, .op (.rwB true)), (11, .stay)]) (next := 7) (l := (z_c9b_0 xs ys)) (p := (((n : Int) != (k : Int)) = true) ∧ (((n : Int) != (n : Int)) = false) ∧ (((k : Int) != (k : Int)) = false) ∧ (decide ((n : Int) < (k : Int)) = true) ∧ True) (by kernel_rfl) ⟨(nT (by omega)), (nF (by omega)), (nF (by omega)), (dT (by omega)), tt⟩ (Gets.refl _)
theorem cmp_gt (xs ys : List Nat) (n c k e : Nat) (hn : n < 1099511627776) (hkm : k < 1099511627776) (hlt : k < n)  : CT 152 #[(sl 5 n c),(sl 6 k e)] (mkH 7 (z_c9b_0 xs ys)) (lI 1) (mkH 7 (z_c9b_0 xs ys)) :=
  sF (sc := [(11, .op (.rwB true)), (25, .op (.rwB false)), (18, .op (.rwB false)), (25, .op (.rwB false)), (8, .op (.rwB true)), (11, .stay)]) (next := 7) (l := (z_c9b_0 xs ys)) (p := (((n : Int) != (k : Int)) = true) ∧ (((n : Int) != (n : Int)) = false) ∧ (((k : Int) != (k : Int)) = false) ∧ (decide ((n : Int) < (k : Int)) = false) ∧ (decide ((n : Int) > (k : Int)) = true) ∧ True) (by kernel_rfl) ⟨(nT (by omega)), (nF (by omega)), (nF (by omega)), (dF (by omega)), (dT (by omega)), tt⟩ (Gets.refl _)
noncomputable def cmp_h_f (xs ys : List Nat) (n c k e : Nat) (i : Int) (j : List Value) : Frame := ⟨152, List.toArray [(sl 5 n c), (sl 6 k e), uu, uu, (J j 0), (.int .i64 i), (J j 1), (J j 2), (J j 3), (J j 4), bF, uu, uu, uu, uu, uu, (J j 5), (J j 6), (J j 7), (J j 8), (J j 9), (J j 10), (J j 11), (J j 12), (J j 13), (J j 14), (J j 15), (J j 16), (J j 17), (J j 18), (J j 19), (J j 20), (J j 21), (J j 22), (J j 23), (J j 24), (J j 25), (J j 26), (J j 27), (J j 28), (J j 29)], [.code (cd Tryz.f152 [1, 1, 0, 1, 0, 0]), .inLoop (cd Tryz.f152 [1, 1, 0, 1, 0, 0]), .inBlock 0, .code (cd Tryz.f152 [1, 1, 1])], [], .run, .normal, none⟩
noncomputable def cmp_h_o (xs ys : List Nat) (n c k e : Nat) (i : Int) : List (Nat × AObj) := (z_c9b_0 xs ys)
noncomputable def cmp_h (xs ys : List Nat) (n c k e : Nat) (i : Int) (j : List Value) : AS := ⟨cmp_h_f xs ys n c k e i j, [], mkH 7 (cmp_h_o xs ys n c k e i)⟩
theorem cmp_in (xs ys : List Nat) (n c k e : Nat) (hn : n < 1099511627776) (hkm : k < 1099511627776) (hnk : n = k)  : GT ⟨Frame.enter Tryz.prog 152 #[(sl 5 n c),(sl 6 k e)] .normal, [], mkH 7 (z_c9b_0 xs ys)⟩ (cmp_h xs ys n c k e ((n : Int) - 1) [(lI 0), (sl 5 n c), (nI n), (sl 6 k e), (nI k), (sl 5 n c), (nI n), (.int .i64 ((n : Int) - 1)), undef, undef, undef, undef, undef, undef, undef, undef, undef, undef, undef, undef, undef, undef, undef, undef, undef, undef, undef, undef, undef, undef]) :=
  sR (sc := [(11, .op (.rwB false)), (8, .op (.rwI ((n : Int) - 1))), (4, .stay)]) (fr1 := cmp_h_f xs ys n c k e ((n : Int) - 1) [(lI 0), (sl 5 n c), (nI n), (sl 6 k e), (nI k), (sl 5 n c), (nI n), (.int .i64 ((n : Int) - 1)), uu, uu, uu, uu, uu, uu, uu, uu, uu, uu, uu, uu, uu, uu, uu, uu, uu, uu, uu, uu, uu, uu]) (next := 7) (l := cmp_h_o xs ys n c k e ((n : Int) - 1)) (p := (((n : Int) != (k : Int)) = false) ∧ (IntKind.wrap .i64 ((n : Int) - (1 : Int)) = ((n : Int) - 1)) ∧ True) (by kernel_rfl) ⟨(nF (by omega)), (wI64 (by omega)), tt⟩
theorem cmp_r (xs ys : List Nat) (n c k e : Nat) (i : Nat) (a b : Nat) (j : List Value) (hi : i < n) (hnk : n = k) (hc : n ≤ xs.length) (hk : k ≤ ys.length) (hn : n < 1099511627776) (hx : (ns .u32 xs)[i]? = some (nW a)) (hy : (ns .u32 ys)[i]? = some (nW b)) (hab : a = b)  : GT (cmp_h xs ys n c k e (i : Int) j) (cmp_h xs ys n c k e ((i : Int) - 1) [(J j 0), (J j 1), (J j 2), (J j 3), (J j 4), (J j 5), (J j 6), (J j 7), (nI i), bT, (nI i), (.int .i64 ((i : Int) - 1)), (sl 5 n c), (nI i), (.pointer (some ⟨5,i,none⟩)), (nW a), (sl 6 k e), (nI i), (.pointer (some ⟨6,i,none⟩)), (nW b), bF, (J j 21), (J j 22), (J j 23), (J j 24), (J j 25), (J j 26), (J j 27), (J j 28), (J j 29)]) :=
  sR (sc := [(4, .op (.rwB true)), (6, .drw [(2, .idx i), (3, .ld (nW a)), (6, .idx i), (7, .ld (nW b)), (8, .rwB false)]), (5, .op (.rwI ((i : Int) - 1))), (3, .stay)]) (fr1 := cmp_h_f xs ys n c k e ((i : Int) - 1) [(J j 0), (J j 1), (J j 2), (J j 3), (J j 4), (J j 5), (J j 6), (J j 7), (nI i), bT, (nI i), (.int .i64 ((i : Int) - 1)), (sl 5 n c), (nI i), (.pointer (some ⟨5,i,none⟩)), (nW a), (sl 6 k e), (nI i), (.pointer (some ⟨6,i,none⟩)), (nW b), bF, (J j 21), (J j 22), (J j 23), (J j 24), (J j 25), (J j 26), (J j 27), (J j 28), (J j 29)]) (next := 7) (l := cmp_h_o xs ys n c k e ((i : Int) - 1)) (p := (decide ((i : Int) ≥ (0 : Int)) = true) ∧ (True ∧ True ∧ (0 ≤ (i : Int) ∧ (i : Int) < (n : Int) ∧ 0 + Int.toNat (i : Int) * 1 = i) ∧ (((ns .u32 xs) : List Value)[i]? = some (nW a)) ∧ True ∧ True ∧ (0 ≤ (i : Int) ∧ (i : Int) < (k : Int) ∧ 0 + Int.toNat (i : Int) * 1 = i) ∧ (((ns .u32 ys) : List Value)[i]? = some (nW b)) ∧ (((a : Int) != (b : Int)) = false) ∧ True) ∧ (IntKind.wrap .i64 ((i : Int) - (1 : Int)) = ((i : Int) - 1)) ∧ True) (by kernel_rfl) ⟨(dT (by omega)), ⟨tt, tt, (by omega), hx, tt, tt, (by omega), hy, (nF (by omega)), tt⟩, (wI64 (by omega)), tt⟩
theorem cmp_o (xs ys : List Nat) (n c k e : Nat) (i : Nat) (a b : Nat) (j : List Value) (hi : i < n) (hnk : n = k) (hc : n ≤ xs.length) (hk : k ≤ ys.length) (hn : n < 1099511627776) (hx : (ns .u32 xs)[i]? = some (nW a)) (hy : (ns .u32 ys)[i]? = some (nW b)) (hab : a ≠ b)  (hr : GT ⟨Frame.enter Tryz.prog 152 #[(sl 5 n c),(sl 6 k e)] .normal, [], mkH 7 (z_c9b_0 xs ys)⟩ (cmp_h xs ys n c k e (i : Int) j)) : CT 152 #[(sl 5 n c),(sl 6 k e)] (mkH 7 (z_c9b_0 xs ys)) (.int .i64 (cmpN a b)) (mkH 7 (z_c9b_0 xs ys)) :=
  sF (sc := [(4, .op (.rwB true)), (6, .drw [(2, .idx i), (3, .ld (nW a)), (6, .idx i), (7, .ld (nW b)), (8, .rwB true)]), (2, .drwM [(2, .idx i), (3, .ld (nW a)), (6, .idx i), (7, .ld (nW b))] [⟨8, [], (.int .i64 (cmpN a b)), [], []⟩]), (1, .stay)]) (next := 7) (l := (z_c9b_0 xs ys)) (p := (decide ((i : Int) ≥ (0 : Int)) = true) ∧ (True ∧ True ∧ (0 ≤ (i : Int) ∧ (i : Int) < (n : Int) ∧ 0 + Int.toNat (i : Int) * 1 = i) ∧ (((ns .u32 xs) : List Value)[i]? = some (nW a)) ∧ True ∧ True ∧ (0 ≤ (i : Int) ∧ (i : Int) < (k : Int) ∧ 0 + Int.toNat (i : Int) * 1 = i) ∧ (((ns .u32 ys) : List Value)[i]? = some (nW b)) ∧ (((a : Int) != (b : Int)) = true) ∧ True) ∧ (True ∧ True ∧ (0 ≤ (i : Int) ∧ (i : Int) < (n : Int) ∧ 0 + Int.toNat (i : Int) * 1 = i) ∧ (((ns .u32 xs) : List Value)[i]? = some (nW a)) ∧ True ∧ True ∧ (0 ≤ (i : Int) ∧ (i : Int) < (k : Int) ∧ 0 + Int.toNat (i : Int) * 1 = i) ∧ (((ns .u32 ys) : List Value)[i]? = some (nW b)) ∧ (FT 191 #[(nW a),(nW b)] 7 [] (.int .i64 (cmpN a b)) [] []) ∧ True ∧ True) ∧ True) (by kernel_rfl) ⟨(dT (by omega)), ⟨tt, tt, (by omega), hx, tt, tt, (by omega), hy, (nT (by omega)), tt⟩, ⟨tt, tt, (by omega), hx, tt, tt, (by omega), hy, (cmpu_c 7 a b (by omega)), tt, tt⟩, tt⟩ hr
theorem cmp_e (xs ys : List Nat) (n c k e : Nat) (i : Int) (j : List Value) (hi : i < 0)  (hr : GT ⟨Frame.enter Tryz.prog 152 #[(sl 5 n c),(sl 6 k e)] .normal, [], mkH 7 (z_c9b_0 xs ys)⟩ (cmp_h xs ys n c k e i j)) : CT 152 #[(sl 5 n c),(sl 6 k e)] (mkH 7 (z_c9b_0 xs ys)) (lI 0) (mkH 7 (z_c9b_0 xs ys)) :=
  sF (sc := [(4, .op (.rwB false)), (8, .stay)]) (next := 7) (l := (z_c9b_0 xs ys)) (p := (decide (i ≥ (0 : Int)) = false) ∧ True) (by kernel_rfl) ⟨(dF (by omega)), tt⟩ hr
theorem cmp_loop {n c e : Nat} {xs ys : List Nat} (hlx : Lim xs) (hly : Lim ys) (hc : n ≤ xs.length) (hk : n ≤ ys.length) (hn : n < 1099511627776) : ∀ (i : Nat) (j : List Value), i ≤ n → cmpN (val (xs.take n)) (val (ys.take n)) = cmpN (val (xs.take i)) (val (ys.take i)) →
    GT ⟨Frame.enter Tryz.prog 152 #[(sl 5 n c),(sl 6 n e)] .normal, [], mkH 7 [(5, (cU xs)), (6, (cU ys))]⟩ (cmp_h xs ys n c n e ((i : Int) - 1) j) → CT 152 #[(sl 5 n c),(sl 6 n e)] (mkH 7 [(5, (cU xs)), (6, (cU ys))]) (.int .i64 (cmpN (val (xs.take n)) (val (ys.take n)))) (mkH 7 [(5, (cU xs)), (6, (cU ys))]) := by
  intro i
  induction i with
  | zero =>
    intro j _ ht hr
    have := cmp_e xs ys n c n e _ j (by omega) hr
    rw [ht]
    exact this
  | succ i ih =>
    intro j hi ht hr
    rw [show ((i + 1 : Nat) : Int) - 1 = (i : Int) by omega] at hr
    by_cases ha : xs.getD i 0 = ys.getD i 0
    · have r := cmp_r xs ys n c n e i (xs.getD i 0) (ys.getD i 0) j (by omega) rfl hc hk hn (ns_get (by omega)) (ns_get (by omega)) ha
      exact ih _ (by omega) (by rw [ht, val_take_succ, val_take_succ, ha]; exact cmpN_add _ _ _) (hr.trans r)
    · have := cmp_o xs ys n c n e i (xs.getD i 0) (ys.getD i 0) j (by omega) rfl hc hk hn (ns_get (by omega)) (ns_get (by omega)) ha hr
      rw [ht, val_take_succ, val_take_succ, cmpN_top (by have := val_lt (hlx.take i); rw [List.length_take, Nat.min_eq_left (by omega)] at this; exact this) (by have := val_lt (hly.take i); rw [List.length_take, Nat.min_eq_left (by omega)] at this; exact this) ha]
      exact this
theorem cmp_c (n0 bx byy : Nat) (xs ys : List Nat) (n c k e : Nat) (hb : 5 ≤ bx ∧ bx < n0 ∧ 5 ≤ byy ∧ byy < n0 ∧ bx ≠ byy) (hlx : Lim xs) (hly : Lim ys) (hc : n ≤ xs.length) (hk : k ≤ ys.length) (hn : n < 1099511627776) (hkm : k < 1099511627776)
    (hx : 0 < n → xs.getD (n - 1) 0 ≠ 0) (hy : 0 < k → ys.getD (k - 1) 0 ≠ 0) :
    FT 152 #[sl bx n c, sl byy k e] n0 [(bx, cU xs), (byy, cU ys)] (.int .i64 (cmpN (val (xs.take n)) (val (ys.take k))))
        [(bx, some (cU xs)), (byy, some (cU ys))] [] := by
  have S : CT 152 #[(sl 5 n c),(sl 6 k e)] (mkH 7 [(5, (cU xs)), (6, (cU ys))]) (.int .i64 (cmpN (val (xs.take n)) (val (ys.take k)))) (mkH 7 [(5, (cU xs)), (6, (cU ys))]) := by
    by_cases hnk : n = k
    · subst hnk
      refine cmp_loop hlx hly hc hk hn n _ (Nat.le_refl _) rfl (cmp_in xs ys n c n e hn hkm rfl)
    · by_cases hlt : n < k
      · rw [cmpN_lt (val_lt_of_len hlx hc hlt hy)]
        exact cmp_lt xs ys n c k e hn hkm hlt
      · rw [cmpN_gt (val_lt_of_len hly hk (by omega) hx)]
        exact cmp_gt xs ys n c k e hn hkm (by omega)
  refine fsp_flat [bx, byy] [cU xs, cU ys] [cU xs, cU ys] [] [] n0 S rfl rfl rfl ?_ ?_ (by omega) ?_ ?_ rfl (by simp) (by simp) rfl rfl rfl
  · simp [hb.2.2.2.2]
  · simp; omega
  · simp [flat, ns_closed]
  · simp [flat, ns_closed]
noncomputable section
abbrev z_fb9_7 (xs ys : List Nat) : List (Nat × Option AObj) := [(5,some (cU xs)),(6,some (cU ys))]
abbrev z_fb9_0 (n c k e : Nat) (xs ys : List Nat) (q : Int) : Prop := FT 152 #[(sl 5 n c),(sl 6 k e)] 10 [(5,(cU xs)),(6,(cU ys))] (.int .i64 q) (z_fb9_7 xs ys) []
abbrev z_fb9_1 (n c k e t : Nat) (xs ys zs : List Nat) : Prop := FT 153 #[(sl 5 n c),(sl 6 k e)] 10 [(5,(cU xs)),(6,(cU ys))] (sl 10 t t) (z_fb9_7 xs ys) [(cU zs)]
abbrev z_fb9_2 (xs ys zs : List Nat) : List (Nat × AObj) := [(5, (cU xs)), (6, (cU ys)), (10, (cU zs))]
abbrev z_fb9_3 (n c k e t : Nat) (xs ys zs : List Nat) : Prop := FT 151 #[(sl 5 n c),(sl 6 k e)] 10 [(5,(cU xs)),(6,(cU ys))] (sl 10 t t) (z_fb9_7 xs ys) [(cU zs)]
abbrev z_fb9_4 (k e n c t : Nat) (ys xs zs : List Nat) : Prop := FT 153 #[(sl 6 k e),(sl 5 n c)] 10 [(6,(cU ys)),(5,(cU xs))] (sl 10 t t) [(6,some (cU ys)),(5,some (cU xs))] [(cU zs)]
abbrev z_fb9_5 (t : Nat) (zs : List Nat) : Prop := FT 117 #[bF,(sl 10 t t)] 11 [(10,(cU zs))] (.agg #[bF,(sl 10 t t)]) [(10,some (cU zs))] []
abbrev z_fb9_6 (t : Nat) (zs : List Nat) : Prop := FT 117 #[bT,(sl 10 t t)] 11 [(10,(cU zs))] (.agg #[bT,(sl 10 t t)]) [(10,some (cU zs))] []
end
theorem np_ff (xs ys : List Nat) (n c k e : Nat) (zs : List Nat) (t : Nat) (hc1 : (z_fb9_3 n c k e t xs ys zs))  : CT 114 #[(.agg #[bF,(sl 5 n c)]),(.agg #[bF,(sl 6 k e)])] (mkH 7 [(5, (cU xs)), (6, (cU ys))]) (.agg #[bF,(sl 10 t t)]) (mkH 11 (z_fb9_2 xs ys zs)) :=
  sF (sc := [(17, .drwM [] [⟨6, [5,6], (sl 10 t t), (z_fb9_7 xs ys), [(cU zs)]⟩, ⟨7, [10], (.agg #[bF,(sl 10 t t)]), [(10,some (cU zs))], []⟩]), (1, .stay)]) (next := 11) (l := (z_fb9_2 xs ys zs)) (p := (True ∧ True ∧ True ∧ True ∧ True ∧ True ∧ (z_fb9_3 n c k e t xs ys zs) ∧ (z_fb9_5 t zs) ∧ True ∧ True) ∧ True) (by kernel_rfl) ⟨⟨tt, tt, tt, tt, tt, tt, hc1, (sg_fc 11 10 zs t t (by omega)), tt, tt⟩, tt⟩ (Gets.refl _)
theorem np_tt (xs ys : List Nat) (n c k e : Nat) (zs : List Nat) (t : Nat) (ht : 0 < t) (hc1 : (z_fb9_3 n c k e t xs ys zs))  : CT 114 #[(.agg #[bT,(sl 5 n c)]),(.agg #[bT,(sl 6 k e)])] (mkH 7 [(5, (cU xs)), (6, (cU ys))]) (.agg #[bT,(sl 10 t t)]) (mkH 11 (z_fb9_2 xs ys zs)) :=
  sF (sc := [(17, .drwM [] [⟨6, [5,6], (sl 10 t t), (z_fb9_7 xs ys), [(cU zs)]⟩, ⟨7, [10], (.agg #[bT,(sl 10 t t)]), [(10,some (cU zs))], []⟩]), (1, .stay)]) (next := 11) (l := (z_fb9_2 xs ys zs)) (p := (True ∧ True ∧ True ∧ True ∧ True ∧ True ∧ (z_fb9_3 n c k e t xs ys zs) ∧ (z_fb9_6 t zs) ∧ True ∧ True) ∧ True) (by kernel_rfl) ⟨⟨tt, tt, tt, tt, tt, tt, hc1, (sg_tc 11 10 zs t t (by omega) ht), tt, tt⟩, tt⟩ (Gets.refl _)
theorem np_ftl (xs ys : List Nat) (n c k e : Nat) (q : Int) (hq : q < 0) (hc1 : (z_fb9_0 n c k e xs ys q)) (zs : List Nat) (t : Nat) (ht : 0 < t) (hc3 : (z_fb9_4 k e n c t ys xs zs))  : CT 114 #[(.agg #[bF,(sl 5 n c)]),(.agg #[bT,(sl 6 k e)])] (mkH 7 [(5, (cU xs)), (6, (cU ys))]) (.agg #[bT,(sl 10 t t)]) (mkH 11 (z_fb9_2 xs ys zs)) :=
  sF (sc := [(24, .call [5,6] (.int .i64 q) (z_fb9_7 xs ys) []), (0, .op (.rwB true)), (9, .drwM [] [⟨6, [6,5], (sl 10 t t), [(6,some (cU ys)),(5,some (cU xs))], [(cU zs)]⟩, ⟨7, [10], (.agg #[bT,(sl 10 t t)]), [(10,some (cU zs))], []⟩]), (1, .stay)]) (next := 11) (l := (z_fb9_2 xs ys zs)) (p := (z_fb9_0 n c k e xs ys q) ∧ (decide (q < (0 : Int)) = true) ∧ (True ∧ True ∧ True ∧ True ∧ True ∧ True ∧ (z_fb9_4 k e n c t ys xs zs) ∧ (z_fb9_6 t zs) ∧ True ∧ True) ∧ True) (by kernel_rfl) ⟨hc1, (dT (by omega)), ⟨tt, tt, tt, tt, tt, tt, hc3, (sg_tc 11 10 zs t t (by omega) ht), tt, tt⟩, tt⟩ (Gets.refl _)
theorem np_ftg (xs ys : List Nat) (n c k e : Nat) (q : Int) (hq : ¬ q < 0) (hc1 : (z_fb9_0 n c k e xs ys q)) (zs : List Nat) (t : Nat) (hc3 : (z_fb9_1 n c k e t xs ys zs))  : CT 114 #[(.agg #[bF,(sl 5 n c)]),(.agg #[bT,(sl 6 k e)])] (mkH 7 [(5, (cU xs)), (6, (cU ys))]) (.agg #[bF,(sl 10 t t)]) (mkH 11 (z_fb9_2 xs ys zs)) :=
  sF (sc := [(24, .call [5,6] (.int .i64 q) (z_fb9_7 xs ys) []), (0, .op (.rwB false)), (4, .drwM [] [⟨6, [5,6], (sl 10 t t), (z_fb9_7 xs ys), [(cU zs)]⟩, ⟨7, [10], (.agg #[bF,(sl 10 t t)]), [(10,some (cU zs))], []⟩]), (1, .stay)]) (next := 11) (l := (z_fb9_2 xs ys zs)) (p := (z_fb9_0 n c k e xs ys q) ∧ (decide (q < (0 : Int)) = false) ∧ (True ∧ True ∧ True ∧ True ∧ True ∧ True ∧ (z_fb9_1 n c k e t xs ys zs) ∧ (z_fb9_5 t zs) ∧ True ∧ True) ∧ True) (by kernel_rfl) ⟨hc1, (dF (by omega)), ⟨tt, tt, tt, tt, tt, tt, hc3, (sg_fc 11 10 zs t t (by omega)), tt, tt⟩, tt⟩ (Gets.refl _)
theorem np_tfl (xs ys : List Nat) (n c k e : Nat) (q : Int) (hq : q < 0) (hc1 : (z_fb9_0 n c k e xs ys q)) (zs : List Nat) (t : Nat) (hc3 : (z_fb9_4 k e n c t ys xs zs))  : CT 114 #[(.agg #[bT,(sl 5 n c)]),(.agg #[bF,(sl 6 k e)])] (mkH 7 [(5, (cU xs)), (6, (cU ys))]) (.agg #[bF,(sl 10 t t)]) (mkH 11 (z_fb9_2 xs ys zs)) :=
  sF (sc := [(24, .call [5,6] (.int .i64 q) (z_fb9_7 xs ys) []), (0, .op (.rwB true)), (9, .drwM [] [⟨6, [6,5], (sl 10 t t), [(6,some (cU ys)),(5,some (cU xs))], [(cU zs)]⟩, ⟨7, [10], (.agg #[bF,(sl 10 t t)]), [(10,some (cU zs))], []⟩]), (1, .stay)]) (next := 11) (l := (z_fb9_2 xs ys zs)) (p := (z_fb9_0 n c k e xs ys q) ∧ (decide (q < (0 : Int)) = true) ∧ (True ∧ True ∧ True ∧ True ∧ True ∧ True ∧ (z_fb9_4 k e n c t ys xs zs) ∧ (z_fb9_5 t zs) ∧ True ∧ True) ∧ True) (by kernel_rfl) ⟨hc1, (dT (by omega)), ⟨tt, tt, tt, tt, tt, tt, hc3, (sg_fc 11 10 zs t t (by omega)), tt, tt⟩, tt⟩ (Gets.refl _)
theorem np_tfg (xs ys : List Nat) (n c k e : Nat) (q : Int) (hq : ¬ q < 0) (hc1 : (z_fb9_0 n c k e xs ys q)) (zs : List Nat) (t : Nat) (ht : 0 < t) (hc3 : (z_fb9_1 n c k e t xs ys zs))  : CT 114 #[(.agg #[bT,(sl 5 n c)]),(.agg #[bF,(sl 6 k e)])] (mkH 7 [(5, (cU xs)), (6, (cU ys))]) (.agg #[bT,(sl 10 t t)]) (mkH 11 (z_fb9_2 xs ys zs)) :=
  sF (sc := [(24, .call [5,6] (.int .i64 q) (z_fb9_7 xs ys) []), (0, .op (.rwB false)), (4, .drwM [] [⟨6, [5,6], (sl 10 t t), (z_fb9_7 xs ys), [(cU zs)]⟩, ⟨7, [10], (.agg #[bT,(sl 10 t t)]), [(10,some (cU zs))], []⟩]), (1, .stay)]) (next := 11) (l := (z_fb9_2 xs ys zs)) (p := (z_fb9_0 n c k e xs ys q) ∧ (decide (q < (0 : Int)) = false) ∧ (True ∧ True ∧ True ∧ True ∧ True ∧ True ∧ (z_fb9_1 n c k e t xs ys zs) ∧ (z_fb9_6 t zs) ∧ True ∧ True) ∧ True) (by kernel_rfl) ⟨hc1, (dF (by omega)), ⟨tt, tt, tt, tt, tt, tt, hc3, (sg_tc 11 10 zs t t (by omega) ht), tt, tt⟩, tt⟩ (Gets.refl _)
theorem np_tfe (xs ys : List Nat) (n c k e : Nat) (q : Int) (hq : ¬ q < 0) (hc1 : (z_fb9_0 n c k e xs ys q)) (zs : List Nat) (t : Nat) (ht : t = 0) (hc3 : (z_fb9_1 n c k e t xs ys zs))  : CT 114 #[(.agg #[bT,(sl 5 n c)]),(.agg #[bF,(sl 6 k e)])] (mkH 7 [(5, (cU xs)), (6, (cU ys))]) (.agg #[bF,(sl 10 t t)]) (mkH 11 (z_fb9_2 xs ys zs)) :=
  sF (sc := [(24, .call [5,6] (.int .i64 q) (z_fb9_7 xs ys) []), (0, .op (.rwB false)), (4, .drwM [] [⟨6, [5,6], (sl 10 t t), (z_fb9_7 xs ys), [(cU zs)]⟩, ⟨7, [10], (.agg #[bF,(sl 10 t t)]), [(10,some (cU zs))], []⟩]), (1, .stay)]) (next := 11) (l := (z_fb9_2 xs ys zs)) (p := (z_fb9_0 n c k e xs ys q) ∧ (decide (q < (0 : Int)) = false) ∧ (True ∧ True ∧ True ∧ True ∧ True ∧ True ∧ (z_fb9_1 n c k e t xs ys zs) ∧ (FT 117 #[bT,(sl 10 t t)] 11 [(10,(cU zs))] (.agg #[bF,(sl 10 t t)]) [(10,some (cU zs))] []) ∧ True ∧ True) ∧ True) (by kernel_rfl) ⟨hc1, (dF (by omega)), ⟨tt, tt, tt, tt, tt, tt, hc3, (sg_zc 11 10 zs t t (by omega) ht), tt, tt⟩, tt⟩ (Gets.refl _)
theorem np_c (n0 bx byy : Nat) (xs ys : List Nat) (n c k e : Nat) (sx sy : Bool) (hb : 5 ≤ bx ∧ bx < n0 ∧ 5 ≤ byy ∧ byy < n0 ∧ bx ≠ byy) (hlx : Lim xs) (hly : Lim ys) (hc : n ≤ xs.length) (hk : k ≤ ys.length) (hn : n < 1099511627776) (hkm : k < 1099511627776)
    (hx : 0 < n → xs.getD (n - 1) 0 ≠ 0) (hy : 0 < k → ys.getD (k - 1) 0 ≠ 0) (hsx : sx = true → 0 < n) (hsy : sy = true → 0 < k) :
    ∃ sg zs t, Lim zs ∧ t ≤ zs.length ∧ t ≤ max n k + 1 ∧ (0 < t → zs.getD (t - 1) 0 ≠ 0) ∧ (sg = true → 0 < t) ∧ iv sg (val (zs.take t)) = iv sx (val (xs.take n)) + iv sy (val (ys.take k)) ∧
      FT 114 #[.agg #[.bool sx, sl bx n c], .agg #[.bool sy, sl byy k e]] n0 [(bx, cU xs), (byy, cU ys)] (.agg #[.bool sg, sl n0 t t])
        [(bx, some (cU xs)), (byy, some (cU ys))] [cU zs] := by
  cases sx with
  | false => cases sy with
    | false =>
      obtain ⟨zs, t, h1, h2, h3, h4, h5, h6⟩ := plus_c 10 5 6 xs ys n c k e (by omega) hlx hly hc hk hn hkm
      exact ⟨false, zs, t, h1, h2, by omega, h4, (by intro q; cases q), by simp only [iv_f, iv_t]; omega, fsp_flat [bx, byy] [cU xs, cU ys] [cU xs, cU ys] [10] [cU zs] n0 (np_ff xs ys n c k e zs t h6) rfl rfl rfl (by simp [hb.2.2.2.2]) (by simp; omega) (by omega) (by simp [flat, ns_closed]) (by simp [flat, ns_closed]) (by simp [flat, ns_closed, AObj.ro]) (by simp) (by simp) rfl rfl rfl⟩
    | true =>
      have hq := cmp_c 10 5 6 xs ys n c k e (by omega) hlx hly hc hk hn hkm hx hy
      have hpy := val_pos (hsy rfl) hy
      by_cases hlt : val (xs.take n) < val (ys.take k)
      · have hle : val (xs.take n) ≤ val (ys.take k) := by omega
        obtain ⟨zs, t, h1, h2, h3, h4, h5, h6⟩ := minus_c 10 6 5 ys xs k e n c (by omega) hly hlx hk hc hkm (len_le_of_val hly hk hx hle) hle
        have ht : 0 < t := len_pos (zs := zs) (by omega)
        exact ⟨true, zs, t, h1, h2, by omega, h4, (fun _ => ht), by simp only [iv_f, iv_t]; omega, fsp_flat [bx, byy] [cU xs, cU ys] [cU xs, cU ys] [10] [cU zs] n0 (np_ftl xs ys n c k e _ (cmpN_neg.2 hlt) hq zs t ht h6) rfl rfl rfl (by simp [hb.2.2.2.2]) (by simp; omega) (by omega) (by simp [flat, ns_closed]) (by simp [flat, ns_closed]) (by simp [flat, ns_closed, AObj.ro]) (by simp) (by simp) rfl rfl rfl⟩
      · have hle : val (ys.take k) ≤ val (xs.take n) := by omega
        obtain ⟨zs, t, h1, h2, h3, h4, h5, h6⟩ := minus_c 10 5 6 xs ys n c k e (by omega) hlx hly hc hk hn (len_le_of_val hlx hc hy hle) hle
        exact ⟨false, zs, t, h1, h2, by omega, h4, (by intro q; cases q), by simp only [iv_f, iv_t]; omega, fsp_flat [bx, byy] [cU xs, cU ys] [cU xs, cU ys] [10] [cU zs] n0 (np_ftg xs ys n c k e _ (fun h => hlt (cmpN_neg.1 h)) hq zs t h6) rfl rfl rfl (by simp [hb.2.2.2.2]) (by simp; omega) (by omega) (by simp [flat, ns_closed]) (by simp [flat, ns_closed]) (by simp [flat, ns_closed, AObj.ro]) (by simp) (by simp) rfl rfl rfl⟩
  | true => cases sy with
    | true =>
      have hpx := val_pos (hsx rfl) hx
      obtain ⟨zs, t, h1, h2, h3, h4, h5, h6⟩ := plus_c 10 5 6 xs ys n c k e (by omega) hlx hly hc hk hn hkm
      have ht : 0 < t := len_pos (zs := zs) (by omega)
      exact ⟨true, zs, t, h1, h2, by omega, h4, (fun _ => ht), by simp only [iv_f, iv_t]; omega, fsp_flat [bx, byy] [cU xs, cU ys] [cU xs, cU ys] [10] [cU zs] n0 (np_tt xs ys n c k e zs t ht h6) rfl rfl rfl (by simp [hb.2.2.2.2]) (by simp; omega) (by omega) (by simp [flat, ns_closed]) (by simp [flat, ns_closed]) (by simp [flat, ns_closed, AObj.ro]) (by simp) (by simp) rfl rfl rfl⟩
    | false =>
      have hq := cmp_c 10 5 6 xs ys n c k e (by omega) hlx hly hc hk hn hkm hx hy
      have hpx := val_pos (hsx rfl) hx
      by_cases hlt : val (xs.take n) < val (ys.take k)
      · have hle : val (xs.take n) ≤ val (ys.take k) := by omega
        obtain ⟨zs, t, h1, h2, h3, h4, h5, h6⟩ := minus_c 10 6 5 ys xs k e n c (by omega) hly hlx hk hc hkm (len_le_of_val hly hk hx hle) hle
        exact ⟨false, zs, t, h1, h2, by omega, h4, (by intro q; cases q), by simp only [iv_f, iv_t]; omega, fsp_flat [bx, byy] [cU xs, cU ys] [cU xs, cU ys] [10] [cU zs] n0 (np_tfl xs ys n c k e _ (cmpN_neg.2 hlt) hq zs t h6) rfl rfl rfl (by simp [hb.2.2.2.2]) (by simp; omega) (by omega) (by simp [flat, ns_closed]) (by simp [flat, ns_closed]) (by simp [flat, ns_closed, AObj.ro]) (by simp) (by simp) rfl rfl rfl⟩
      · have hle : val (ys.take k) ≤ val (xs.take n) := by omega
        obtain ⟨zs, t, h1, h2, h3, h4, h5, h6⟩ := minus_c 10 5 6 xs ys n c k e (by omega) hlx hly hc hk hn (len_le_of_val hlx hc hy hle) hle
        rcases Nat.eq_zero_or_pos t with ht | ht
        · have h0 : val (zs.take t) = 0 := by rw [ht]; rfl
          exact ⟨false, zs, t, h1, h2, by omega, h4, (by intro q; cases q), by simp only [iv_f, iv_t]; omega, fsp_flat [bx, byy] [cU xs, cU ys] [cU xs, cU ys] [10] [cU zs] n0 (np_tfe xs ys n c k e _ (fun h => hlt (cmpN_neg.1 h)) hq zs t ht h6) rfl rfl rfl (by simp [hb.2.2.2.2]) (by simp; omega) (by omega) (by simp [flat, ns_closed]) (by simp [flat, ns_closed]) (by simp [flat, ns_closed, AObj.ro]) (by simp) (by simp) rfl rfl rfl⟩
        · exact ⟨true, zs, t, h1, h2, by omega, h4, (fun _ => ht), by simp only [iv_f, iv_t]; omega, fsp_flat [bx, byy] [cU xs, cU ys] [cU xs, cU ys] [10] [cU zs] n0 (np_tfg xs ys n c k e _ (fun h => hlt (cmpN_neg.1 h)) hq zs t ht h6) rfl rfl rfl (by simp [hb.2.2.2.2]) (by simp; omega) (by omega) (by simp [flat, ns_closed]) (by simp [flat, ns_closed]) (by simp [flat, ns_closed, AObj.ro]) (by simp) (by simp) rfl rfl rfl⟩
noncomputable section
end
theorem sum_o (xs ys : List Nat) (n c k e : Nat) (sx sy : Bool) (sg : Bool) (zs : List Nat) (t : Nat) (hc1 : (FT 114 #[(.agg #[(.bool sx),(sl 5 n c)]),(.agg #[(.bool sy),(sl 6 k e)])] 11 [(5,(cU xs)),(6,(cU ys))] (.agg #[(.bool sg),(sl 11 t t)]) [(5,some (cU xs)),(6,some (cU ys))] [(cU zs)]))  : CT 272 #[(.agg #[]),(.agg #[(.bool sx),(sl 5 n c)]),(.agg #[(.bool sy),(sl 6 k e)])] (mkH 7 [(5, (cU xs)), (6, (cU ys))]) (.agg #[(.bool sg),(sl 11 t t)]) (mkH 12 [(5, (cU xs)), (6, (cU ys)), (11, (cU zs))]) :=
  sF (sc := [(11, .call [5,6] (.agg #[(.bool sg),(sl 11 t t)]) [(5,some (cU xs)),(6,some (cU ys))] [(cU zs)]), (3, .stay)]) (next := 12) (l := [(5, (cU xs)), (6, (cU ys)), (11, (cU zs))]) (p := (FT 114 #[(.agg #[(.bool sx),(sl 5 n c)]),(.agg #[(.bool sy),(sl 6 k e)])] 11 [(5,(cU xs)),(6,(cU ys))] (.agg #[(.bool sg),(sl 11 t t)]) [(5,some (cU xs)),(6,some (cU ys))] [(cU zs)]) ∧ True) (by kernel_rfl) ⟨hc1, tt⟩ (Gets.refl _)
theorem sum_c (n0 bx byy : Nat) (xs ys : List Nat) (n c k e : Nat) (sx sy : Bool) (hb : 5 ≤ bx ∧ bx < n0 ∧ 5 ≤ byy ∧ byy < n0 ∧ bx ≠ byy) (hlx : Lim xs) (hly : Lim ys) (hc : n ≤ xs.length) (hk : k ≤ ys.length) (hn : n < 1099511627776) (hkm : k < 1099511627776)
    (hx : 0 < n → xs.getD (n - 1) 0 ≠ 0) (hy : 0 < k → ys.getD (k - 1) 0 ≠ 0) (hsx : sx = true → 0 < n) (hsy : sy = true → 0 < k) :
    ∃ sg zs t, Lim zs ∧ t ≤ zs.length ∧ t ≤ max n k + 1 ∧ (0 < t → zs.getD (t - 1) 0 ≠ 0) ∧ (sg = true → 0 < t) ∧ iv sg (val (zs.take t)) = iv sx (val (xs.take n)) + iv sy (val (ys.take k)) ∧
      FT 272 #[.agg #[], .agg #[.bool sx, sl bx n c], .agg #[.bool sy, sl byy k e]] n0 [(bx, cU xs), (byy, cU ys)] (.agg #[.bool sg, sl n0 t t])
        [(bx, some (cU xs)), (byy, some (cU ys))] [cU zs] := by
  obtain ⟨sg, zs, t, h1, h2, h3, h4, h5, h6, h7⟩ := np_c 11 5 6 xs ys n c k e sx sy (by omega) hlx hly hc hk hn hkm hx hy hsx hsy
  exact ⟨sg, zs, t, h1, h2, h3, h4, h5, h6, fsp_flat [bx, byy] [cU xs, cU ys] [cU xs, cU ys] [11] [cU zs] n0 (sum_o xs ys n c k e sx sy sg zs t h7) rfl rfl rfl (by simp [hb.2.2.2.2]) (by simp; omega) (by omega) (by simp [flat, ns_closed]) (by simp [flat, ns_closed]) (by simp [flat, ns_closed, AObj.ro]) (by simp) (by simp) rfl rfl rfl⟩
theorem kis_i (n0 : Nat) (a : Int) (hG : 5 ≤ n0) (hs : (digs a.natAbs).length ≤ 18) : FT 145 #[.string (istr a)] n0 [] (lI 2) [] [] := by
  rcases int_cases a with ⟨m, rfl, hm⟩ | ⟨m, h0, rfl, hm⟩
  · rw [istr_nn]
    rw [hm] at hs
    rcases Nat.eq_zero_or_pos m with q | q
    · exact kizsc n0 _ hG (digs_dig m) (digs_len_pos m) (by rw [q, digs_zero]) (by rw [dstr_size]; exact hs)
    · exact kipsc n0 _ hG (digs_dig m) (digs_len_pos m) (digs_head m q) (by rw [dstr_size]; exact hs)
  · rw [istr_neg h0]
    rw [hm] at hs
    exact kimsc n0 _ hG (digs_dig m) (digs_len_pos m) (digs_head m h0) (by rw [dstr_size]; exact hs)
theorem kil_i (n0 : Nat) (a : Int) (hG : 5 ≤ n0) (hs : 18 < (digs a.natAbs).length) (hL : ndig a.natAbs ≤ 400) : FT 145 #[.string (istr a)] n0 [] (lI 3) [] [] := by
  have hL2 := digs_len_le hL (by decide)
  rcases int_cases a with ⟨m, rfl, hm⟩ | ⟨m, h0, rfl, hm⟩
  · rw [istr_nn]
    rw [hm] at hs hL2
    have q : 0 < m := by
      rcases Nat.eq_zero_or_pos m with q | q
      · rw [q, digs_zero] at hs
        exact absurd hs (by decide)
      · exact q
    exact kiplc n0 _ hG (digs_dig m) (digs_len_pos m) (digs_head m q) (by rw [dstr_size]; exact hs) (by rw [dstr_size]; exact hL2)
  · rw [istr_neg h0]
    rw [hm] at hs hL2
    exact kimlc n0 _ hG (digs_dig m) (digs_len_pos m) (digs_head m h0) (by rw [dstr_size]; exact hs) (by rw [dstr_size]; exact hL2)
theorem sm_i (n0 : Nat) (a : Int) (hG : 5 ≤ n0) (hs : (digs a.natAbs).length ≤ 18) : FT 109 #[.string (istr a)] n0 [] (.int .i64 a) [] [] := by
  rcases int_cases a with ⟨m, rfl, hm⟩ | ⟨m, h0, rfl, hm⟩
  · rw [istr_nn]
    rw [hm] at hs
    have h := smpc n0 _ hG (digs_dig m) (digs_len_pos m) hs
    rw [digs_val] at h
    exact h
  · rw [istr_neg h0]
    rw [hm] at hs
    have h := smmc n0 _ hG (digs_dig m) (digs_len_pos m) hs
    rw [digs_val] at h
    exact h
theorem nu_i (n0 : Nat) (a : Int) (hG : 5 ≤ n0) (hL : ndig a.natAbs ≤ 400) :
    ∃ sg zs t, Lim zs ∧ t ≤ zs.length ∧ (t ≤ 45 ∧ t ≤ ((digs a.natAbs).length + 8) / 9) ∧ (0 < t → zs.getD (t - 1) 0 ≠ 0) ∧ (sg = true → 0 < t) ∧ iv sg (val (zs.take t)) = a ∧
      FT 111 #[.string (istr a)] n0 [] (.agg #[.bool sg, sl n0 t t]) [] [cU zs] := by
  have hL2 := digs_len_le hL (by decide)
  rcases int_cases a with ⟨m, rfl, hm⟩ | ⟨m, h0, rfl, hm⟩
  · rw [istr_nn]
    rw [hm] at hL2
    obtain ⟨zs, t, h1, h2, h3, h4, h5, h6⟩ := nu_pc n0 _ hG (digs_dig m) (digs_len_pos m) (by omega)
    rw [digs_val] at h5
    exact ⟨false, zs, t, h1, h2, by rw [hm]; omega, h4, (by intro q; cases q), by rw [iv_f, h5], h6⟩
  · rw [istr_neg h0]
    rw [hm] at hL2
    obtain ⟨zs, t, h1, h2, h3, h4, h5, h6⟩ := nu_mc n0 _ hG (digs_dig m) (by rw [digs_val]; exact h0) (by omega)
    rw [digs_val] at h5
    exact ⟨true, zs, t, h1, h2, by rw [hm]; omega, h4, fun _ => len_pos (zs := zs) (by omega), by rw [iv_t, h5], h6⟩
theorem nt_i (n0 b : Nat) (sg : Bool) (xs : List Nat) (n c : Nat) (hb : 5 ≤ b ∧ b < n0) (hlx : Lim xs) (hc : n ≤ xs.length) (hm : n < 1099511627776) (hx : 0 < n → xs.getD (n - 1) 0 ≠ 0) (hsg : sg = true → 0 < n) (hd : ndig (iv sg (val (xs.take n))).natAbs ≤ 400) :
    FT 112 #[.agg #[.bool sg, sl b n c]] n0 [(1, gob1), (b, cU xs)] (.string (istr (iv sg (val (xs.take n)))))
      [(1, some gob1), (b, some (cU xs))] [] := by
  cases sg with
  | false =>
    rw [iv_f] at hd ⊢
    rw [istr_nn]
    exact nt_pc n0 b xs n c hb hlx hc hm hx (by simpa using hd)
  | true =>
    rw [iv_t] at hd ⊢
    rw [istr_neg (val_pos (hsg rfl) hx)]
    exact nt_mc n0 b xs n c hb hlx hc hm hx (by simpa using hd)
end Go.Proofs.YtbjpjoodjbmicaaGreatDoor
