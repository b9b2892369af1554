import Derived.Test.YtbjpjoodjbmicaaGreatDoorK
import Derived.Test.YtbjpjoodjbmicaaGreatDoorLF
import Derived.Test.YtbjpjoodjbmicaaGreatDoorAl
import Derived.Test.YtbjpjoodjbmicaaGreatDoorPWf
import Derived.Test.YtbjpjoodjbmicaaGreatDoorPLose
import Derived.Test.YtbjpjoodjbmicaaGreatDoorPWhole
set_option linter.unusedVariables false
set_option linter.unusedSimpArgs false
set_option maxRecDepth 100000
namespace Go.Proofs.YtbjpjoodjbmicaaGreatDoor
open Go Go.AE Seg
theorem gob1_eq : Cn.gob1 = gob1 := by kernel_rfl
theorem gl_eq : Cn.gl = [(0, Cn.gob0), (1, gob1), (2, Cn.gob2), (3, Cn.gob3)] := by rw [← gob1_eq]; rfl
theorem counted_c (n : Nat) : FT 15 #[] n [(0, Cn.gob0), (1, gob1), (2, Cn.gob2), (3, Cn.gob3)] bT [(0, some Cn.gob0), (1, some gob1), (2, some Cn.gob2), (3, some Cn.gob3)] [] := by
  have h := fsp_of_tell Cn.tell0 Cn.glOK (by kernel_rfl) (by kernel_rfl) n
  rw [gl_eq] at h
  exact h
noncomputable section
abbrev z_bbd_0 (F : List Nat) : List Value := [(nW (F.getD 0 0)),(nW (F.getD 1 0)),(nW (F.getD 2 0)),(nW (F.getD 3 0)),(nW (F.getD 4 0)),(nW (F.getD 5 0)),(nW (F.getD 6 0)),(nW (F.getD 7 0)),(nW (F.getD 8 0)),(nW (F.getD 9 0)),(nW (F.getD 10 0)),(nW (F.getD 11 0)),(nW (F.getD 12 0)),(nW (F.getD 13 0)),(nW (F.getD 14 0)),(nW (F.getD 15 0)),(nW (F.getD 16 0)),(nW (F.getD 17 0)),(nW (F.getD 18 0)),(nW (F.getD 19 0)),(nW (F.getD 20 0)),(nW (F.getD 21 0)),(nW (F.getD 22 0)),(nW (F.getD 23 0)),(nW (F.getD 24 0)),(nW (F.getD 25 0)),(nW (F.getD 26 0)),(nW (F.getD 27 0)),(nW (F.getD 28 0)),(nW (F.getD 29 0)),(nW (F.getD 30 0)),(nW (F.getD 31 0)),(nW (F.getD 32 0)),(nW (F.getD 33 0)),(nW (F.getD 34 0)),(nW (F.getD 35 0)),(nW (F.getD 36 0)),(nW (F.getD 37 0)),(nW (F.getD 38 0)),(nW (F.getD 39 0)),(nW (F.getD 40 0)),(nW (F.getD 41 0)),(nW (F.getD 42 0)),(nW (F.getD 43 0)),(nW (F.getD 44 0))]
end
theorem full_list {F : List Nat} (h : F.length = 45) : List.take 45 (List.drop 0 (ns .u32 F)) = (List.range 45).map fun i => .int .u32 ((F.getD i 0 : Nat) : Int) := by
  rw [List.drop_zero, List.take_of_length_le (by rw [ns_length, h]; exact Nat.le_refl _)]
  apply List.ext_getElem?
  intro i
  by_cases hi : i < 45
  · rw [ns_get (by omega)]
    simp [List.getElem?_map, List.getElem?_range hi]
  · rw [List.getElem?_eq_none (by rw [ns_length]; omega), List.getElem?_eq_none (by simp; omega)]
theorem eqInts_map (F E : List Nat) : ∀ l : List Nat, eqInts (l.map fun i => .int .u32 ((F.getD i 0 : Nat) : Int)) (l.map fun i => .int .u32 ((E.getD i 0 : Nat) : Int)) = l.all fun i => F.getD i 0 == E.getD i 0
  | [] => rfl
  | i :: l => by
    simp only [List.map_cons, eqInts, List.all_cons, eqInts_map F E l]
    congr 1
    rw [Bool.eq_iff_iff, beq_iff_eq, beq_iff_eq]
    omega
theorem eq_full {F E : List Nat} (h : F.length = 45) (g : E.length = 45) (b : Bool) (hb : decide (F = E) = b) : eqInts ((List.range 45).map fun i => .int .u32 ((F.getD i 0 : Nat) : Int)) ((List.range 45).map fun i => .int .u32 ((E.getD i 0 : Nat) : Int)) = b := by
  rw [eqInts_map, ← hb, Bool.eq_iff_iff, List.all_eq_true, decide_eq_true_eq]
  constructor
  · intro q
    apply List.ext_getElem?
    intro i
    by_cases hi : i < 45
    · have := q i (List.mem_range.2 hi)
      rw [beq_iff_eq] at this
      simp only [List.getD_eq_getElem?_getD] at this
      rw [List.getElem?_eq_getElem (by omega), List.getElem?_eq_getElem (by omega)] at this ⊢
      simpa using this
    · rw [List.getElem?_eq_none (by omega), List.getElem?_eq_none (by omega)]
  · rintro rfl i _
    rw [beq_iff_eq]
theorem val_inj : ∀ {l m : List Nat}, Lim l → Lim m → l.length = m.length → val l = val m → l = m
  | [], [], _, _, _, _ => rfl
  | [], _ :: _, _, _, h, _ => by simp at h
  | _ :: _, [], _, _, h, _ => by simp at h
  | x :: l, y :: m, hl, hm, h, hv => by
    rw [show val (x :: l) = x + 1000000000 * val l from rfl, show val (y :: m) = y + 1000000000 * val m from rfl] at hv
    have h1 := hl x (by simp)
    have h2 := hm y (by simp)
    have h3 := val_inj (l := l) (m := m) (fun z hz => hl z (by simp [hz])) (fun z hz => hm z (by simp [hz])) (by simpa using h) (by omega)
    rw [h3, show x = y by rw [h3] at hv; omega]
abbrev fvl (F : List Nat) : List Value := (List.range 45).map fun i => .int .u32 ((F.getD i 0 : Nat) : Int)
abbrev fv (F : List Nat) : Value := .agg ⟨fvl F⟩
def fl45 (xs : List Nat) (n : Nat) : List Nat := xs.take n ++ List.replicate (45 - n) 0
theorem fl45_len {xs : List Nat} {n : Nat} (h : n ≤ xs.length) (h45 : n ≤ 45) : (fl45 xs n).length = 45 := by
  unfold fl45
  rw [List.length_append, List.length_take, List.length_replicate]
  omega
theorem fl45_lim {xs : List Nat} {n : Nat} (h : Lim xs) : Lim (fl45 xs n) := (h.take n).append (Lim.replicate _)
theorem fl45_val (xs : List Nat) (n : Nat) : val (fl45 xs n) = val (xs.take n) := by
  unfold fl45
  rw [val_append, val_replicate, Nat.mul_zero, Nat.add_zero]
theorem fu_o (xs F : List Nat) (n c : Nat) (sx : Bool) (hc : n ≤ xs.length) (h45 : n ≤ 45) (hF : F = xs.take n ++ List.replicate (45 - n) 0) (hl : F.length = 45)  : CT 176 #[(.agg #[(.bool sx),(sl 5 n c)])] (mkH 6 [(5, (cU xs))]) (.agg #[(nW (F.getD 0 0)),(nW (F.getD 1 0)),(nW (F.getD 2 0)),(nW (F.getD 3 0)),(nW (F.getD 4 0)),(nW (F.getD 5 0)),(nW (F.getD 6 0)),(nW (F.getD 7 0)),(nW (F.getD 8 0)),(nW (F.getD 9 0)),(nW (F.getD 10 0)),(nW (F.getD 11 0)),(nW (F.getD 12 0)),(nW (F.getD 13 0)),(nW (F.getD 14 0)),(nW (F.getD 15 0)),(nW (F.getD 16 0)),(nW (F.getD 17 0)),(nW (F.getD 18 0)),(nW (F.getD 19 0)),(nW (F.getD 20 0)),(nW (F.getD 21 0)),(nW (F.getD 22 0)),(nW (F.getD 23 0)),(nW (F.getD 24 0)),(nW (F.getD 25 0)),(nW (F.getD 26 0)),(nW (F.getD 27 0)),(nW (F.getD 28 0)),(nW (F.getD 29 0)),(nW (F.getD 30 0)),(nW (F.getD 31 0)),(nW (F.getD 32 0)),(nW (F.getD 33 0)),(nW (F.getD 34 0)),(nW (F.getD 35 0)),(nW (F.getD 36 0)),(nW (F.getD 37 0)),(nW (F.getD 38 0)),(nW (F.getD 39 0)),(nW (F.getD 40 0)),(nW (F.getD 41 0)),(nW (F.getD 42 0)),(nW (F.getD 43 0)),(nW (F.getD 44 0))]) (mkH 9 [(5, (cU xs))]) :=
  sF (sc := [(10, .drwM [(3, .cpy n (ns .u32 F))] []), (2, .op (.ldn (z_bbd_0 F))), (3, .stay)]) (next := 9) (l := [(5, (cU xs))]) (p := (True ∧ True ∧ True ∧ (0 + n ≤ (ns .u32 xs).length ∧ Nat.min n 45 = n ∧ 0 + n ≤ ([(lW 0),(lW 0),(lW 0),(lW 0),(lW 0),(lW 0),(lW 0),(lW 0),(lW 0),(lW 0),(lW 0),(lW 0),(lW 0),(lW 0),(lW 0),(lW 0),(lW 0),(lW 0),(lW 0),(lW 0),(lW 0),(lW 0),(lW 0),(lW 0),(lW 0),(lW 0),(lW 0),(lW 0),(lW 0),(lW 0),(lW 0),(lW 0),(lW 0),(lW 0),(lW 0),(lW 0),(lW 0),(lW 0),(lW 0),(lW 0),(lW 0),(lW 0),(lW 0),(lW 0),(lW 0)] : List Value).length ∧ (List.take n (List.take n (List.drop 0 (ns .u32 xs)))).all (·.oneCell') = true ∧ lspl ([(lW 0),(lW 0),(lW 0),(lW 0),(lW 0),(lW 0),(lW 0),(lW 0),(lW 0),(lW 0),(lW 0),(lW 0),(lW 0),(lW 0),(lW 0),(lW 0),(lW 0),(lW 0),(lW 0),(lW 0),(lW 0),(lW 0),(lW 0),(lW 0),(lW 0),(lW 0),(lW 0),(lW 0),(lW 0),(lW 0),(lW 0),(lW 0),(lW 0),(lW 0),(lW 0),(lW 0),(lW 0),(lW 0),(lW 0),(lW 0),(lW 0),(lW 0),(lW 0),(lW 0),(lW 0)] : List Value) 0 (List.take n (List.take n (List.drop 0 (ns .u32 xs)))) = (ns .u32 F)) ∧ True) ∧ (0 + 45 ≤ (ns .u32 F).length ∧ (List.take 45 (List.drop 0 (ns .u32 F))) = (z_bbd_0 F)) ∧ True) (by kernel_rfl) ⟨⟨tt, tt, tt, (by subst hF; exact ns_cpy hc h45), tt⟩, ⟨by rw [ns_length, hl]; exact Nat.le_refl _, by rw [full_list hl]; rfl⟩, tt⟩ (Gets.refl _)
theorem fu_c (n0 b : Nat) (xs : List Nat) (n c : Nat) (sx : Bool) (hb : 5 ≤ b ∧ b < n0) (hc : n ≤ xs.length) (h45 : n ≤ 45) :
    FT 176 #[.agg #[.bool sx, sl b n c]] n0 [(b, cU xs)] (fv (fl45 xs n)) [(b, some (cU xs))] [] :=
  fsp_flat [b] [cU xs] [cU xs] [] [] n0 (fu_o xs (fl45 xs n) n c sx hc h45 rfl (fl45_len hc h45)) rfl rfl rfl (by simp) (by simp; omega) (by omega) (by simp [flat, ns_closed]) (by simp [flat, ns_closed]) rfl (by simp) (by simp) rfl rfl rfl
theorem neg_f  : CT 125 #[bF] (mkH 5 []) bF (mkH 5 []) :=
  sF (sc := [(10, .stay)]) (next := 5) (l := []) (p := True) (by kernel_rfl) tt (Gets.refl _)
theorem neg_fc (n0 : Nat) (hG : 5 ≤ n0) : FT 125 #[bF] n0 [] bF [] [] :=
  fsp_flat [] [] [] [] [] n0 (neg_f) rfl rfl rfl (by simp) (by simp) hG rfl rfl rfl (by simp) (by simp) rfl rfl rfl
theorem neg_t  : CT 125 #[bT] (mkH 5 []) bT (mkH 5 []) :=
  sF (sc := [(10, .stay)]) (next := 5) (l := []) (p := True) (by kernel_rfl) tt (Gets.refl _)
theorem neg_tc (n0 : Nat) (hG : 5 ≤ n0) : FT 125 #[bT] n0 [] bT [] [] :=
  fsp_flat [] [] [] [] [] n0 (neg_t) rfl rfl rfl (by simp) (by simp) hG rfl rfl rfl (by simp) (by simp) rfl rfl rfl
noncomputable section
abbrev z_76a_0 (xs ys : List Nat) : List (Nat × AObj) := [(5, (cU xs)), (6, (cU ys))]
abbrev z_76a_1 : Prop := FT 125 #[bF] 11 [] bF [] []
abbrev z_76a_2 : Prop := FT 125 #[bT] 11 [] bT [] []
abbrev z_76a_3 (n c : Nat) (xs : List Nat) : Prop := FT 176 #[(.agg #[bF,(sl 5 n c)])] 9 [(5,(cU xs))] (fv (fl45 xs n)) [(5,some (cU xs))] []
abbrev z_76a_4 (k e : Nat) (ys : List Nat) : Prop := FT 176 #[(.agg #[bF,(sl 6 k e)])] 9 [(6,(cU ys))] (fv (fl45 ys k)) [(6,some (cU ys))] []
abbrev z_76a_5 (n c : Nat) (xs : List Nat) : Prop := FT 176 #[(.agg #[bT,(sl 5 n c)])] 9 [(5,(cU xs))] (fv (fl45 xs n)) [(5,some (cU xs))] []
abbrev z_76a_6 (k e : Nat) (ys : List Nat) : Prop := FT 176 #[(.agg #[bT,(sl 6 k e)])] 9 [(6,(cU ys))] (fv (fl45 ys k)) [(6,some (cU ys))] []
end
def cmpZ (a b : Int) : Int := if a < b then -1 else if a = b then 0 else 1
theorem cmpZ_lt {a b : Int} (h : a < b) : cmpZ a b = -1 := by unfold cmpZ; rw [if_pos h]
theorem cmpZ_eq {a b : Int} (h : a = b) : cmpZ a b = 0 := by unfold cmpZ; rw [if_neg (by omega), if_pos h]
theorem cmpZ_gt {a b : Int} (h : b < a) : cmpZ a b = 1 := by unfold cmpZ; rw [if_neg (by omega), if_neg (by omega)]
theorem nc_ffe (xs ys : List Nat) (n c k e : Nat) (hc : n ≤ xs.length) (hk : k ≤ ys.length) (h45 : n ≤ 45) (hk45 : k ≤ 45) (l1 : (fl45 xs n).length = 45) (l2 : (fl45 ys k).length = 45) (he : fl45 xs n = fl45 ys k)  : CT 137 #[(.agg #[bF,(sl 5 n c)]),(.agg #[bF,(sl 6 k e)])] (mkH 7 (z_76a_0 xs ys)) (lI 0) (mkH 9 (z_76a_0 xs ys)) :=
  sF (sc := [(8, .drwM [(10, .eqA true)] [⟨7, [5], (fv (fl45 xs n)), [(5,some (cU xs))], []⟩, ⟨9, [6], (fv (fl45 ys k)), [(6,some (cU ys))], []⟩]), (6, .stay)]) (next := 9) (l := (z_76a_0 xs ys)) (p := (True ∧ True ∧ True ∧ True ∧ True ∧ True ∧ True ∧ True ∧ (z_76a_3 n c xs) ∧ (z_76a_4 k e ys) ∧ (eqInts (fvl (fl45 xs n)) (fvl (fl45 ys k)) = true) ∧ True ∧ True) ∧ True) (by kernel_rfl) ⟨⟨tt, tt, tt, tt, tt, tt, tt, tt, (fu_c 9 5 xs n c false (by omega) (by omega) (by omega)), (fu_c 9 6 ys k e false (by omega) (by omega) (by omega)), (eq_full l1 l2 true (by simp [he])), tt, tt⟩, tt⟩ (Gets.refl _)
theorem nc_ffl (xs ys : List Nat) (n c k e : Nat) (hc : n ≤ xs.length) (hk : k ≤ ys.length) (h45 : n ≤ 45) (hk45 : k ≤ 45) (l1 : (fl45 xs n).length = 45) (l2 : (fl45 ys k).length = 45) (he : ¬ fl45 xs n = fl45 ys k) (q : Int) (hq : (FT 152 #[sl 5 n c, sl 6 k e] 11 [(5, cU xs), (6, cU ys)] (.int .i64 q) [(5, some (cU xs)), (6, some (cU ys))] [])) (h0 : q < 0)  : CT 137 #[(.agg #[bF,(sl 5 n c)]),(.agg #[bF,(sl 6 k e)])] (mkH 7 (z_76a_0 xs ys)) (.int .i64 (.negSucc 0)) (mkH 11 (z_76a_0 xs ys)) :=
  sF (sc := [(8, .drwM [(10, .eqA false)] [⟨7, [5], (fv (fl45 xs n)), [(5,some (cU xs))], []⟩, ⟨9, [6], (fv (fl45 ys k)), [(6,some (cU ys))], []⟩]), (16, .drwM [] [⟨2, [], bF, [], []⟩, ⟨5, [], bF, [], []⟩]), (7, .call [] bF [] []), (9, .call [5,6] (.int .i64 q) [(5,some (cU xs)),(6,some (cU ys))] []), (0, .op (.rwB true)), (11, .stay)]) (next := 11) (l := (z_76a_0 xs ys)) (p := (True ∧ True ∧ True ∧ True ∧ True ∧ True ∧ True ∧ True ∧ (z_76a_3 n c xs) ∧ (z_76a_4 k e ys) ∧ (eqInts (fvl (fl45 xs n)) (fvl (fl45 ys k)) = false) ∧ True ∧ True) ∧ (True ∧ True ∧ True ∧ True ∧ z_76a_1 ∧ z_76a_1 ∧ True ∧ True) ∧ z_76a_1 ∧ (FT 152 #[(sl 5 n c),(sl 6 k e)] 11 [(5,(cU xs)),(6,(cU ys))] (.int .i64 q) [(5,some (cU xs)),(6,some (cU ys))] []) ∧ (decide (q < (0 : Int)) = true) ∧ True) (by kernel_rfl) ⟨⟨tt, tt, tt, tt, tt, tt, tt, tt, (fu_c 9 5 xs n c false (by omega) (by omega) (by omega)), (fu_c 9 6 ys k e false (by omega) (by omega) (by omega)), (eq_full l1 l2 false (by simp [he])), tt, tt⟩, ⟨tt, tt, tt, tt, (neg_fc 11 (by omega)), (neg_fc 11 (by omega)), tt, tt⟩, (neg_fc 11 (by omega)), hq, (dT (by omega)), tt⟩ (Gets.refl _)
theorem nc_ffg (xs ys : List Nat) (n c k e : Nat) (hc : n ≤ xs.length) (hk : k ≤ ys.length) (h45 : n ≤ 45) (hk45 : k ≤ 45) (l1 : (fl45 xs n).length = 45) (l2 : (fl45 ys k).length = 45) (he : ¬ fl45 xs n = fl45 ys k) (q : Int) (hq : (FT 152 #[sl 5 n c, sl 6 k e] 11 [(5, cU xs), (6, cU ys)] (.int .i64 q) [(5, some (cU xs)), (6, some (cU ys))] [])) (h0 : ¬ q < 0)  : CT 137 #[(.agg #[bF,(sl 5 n c)]),(.agg #[bF,(sl 6 k e)])] (mkH 7 (z_76a_0 xs ys)) (lI 1) (mkH 11 (z_76a_0 xs ys)) :=
  sF (sc := [(8, .drwM [(10, .eqA false)] [⟨7, [5], (fv (fl45 xs n)), [(5,some (cU xs))], []⟩, ⟨9, [6], (fv (fl45 ys k)), [(6,some (cU ys))], []⟩]), (16, .drwM [] [⟨2, [], bF, [], []⟩, ⟨5, [], bF, [], []⟩]), (7, .call [] bF [] []), (9, .call [5,6] (.int .i64 q) [(5,some (cU xs)),(6,some (cU ys))] []), (0, .op (.rwB false)), (12, .stay)]) (next := 11) (l := (z_76a_0 xs ys)) (p := (True ∧ True ∧ True ∧ True ∧ True ∧ True ∧ True ∧ True ∧ (z_76a_3 n c xs) ∧ (z_76a_4 k e ys) ∧ (eqInts (fvl (fl45 xs n)) (fvl (fl45 ys k)) = false) ∧ True ∧ True) ∧ (True ∧ True ∧ True ∧ True ∧ z_76a_1 ∧ z_76a_1 ∧ True ∧ True) ∧ z_76a_1 ∧ (FT 152 #[(sl 5 n c),(sl 6 k e)] 11 [(5,(cU xs)),(6,(cU ys))] (.int .i64 q) [(5,some (cU xs)),(6,some (cU ys))] []) ∧ (decide (q < (0 : Int)) = false) ∧ True) (by kernel_rfl) ⟨⟨tt, tt, tt, tt, tt, tt, tt, tt, (fu_c 9 5 xs n c false (by omega) (by omega) (by omega)), (fu_c 9 6 ys k e false (by omega) (by omega) (by omega)), (eq_full l1 l2 false (by simp [he])), tt, tt⟩, ⟨tt, tt, tt, tt, (neg_fc 11 (by omega)), (neg_fc 11 (by omega)), tt, tt⟩, (neg_fc 11 (by omega)), hq, (dF (by omega)), tt⟩ (Gets.refl _)
theorem nc_ftd (xs ys : List Nat) (n c k e : Nat) (hc : n ≤ xs.length) (hk : k ≤ ys.length) (h45 : n ≤ 45) (hk45 : k ≤ 45) (l1 : (fl45 xs n).length = 45) (l2 : (fl45 ys k).length = 45)  : CT 137 #[(.agg #[bF,(sl 5 n c)]),(.agg #[bT,(sl 6 k e)])] (mkH 7 (z_76a_0 xs ys)) (lI 1) (mkH 11 (z_76a_0 xs ys)) :=
  sF (sc := [(8, .drw []), (16, .drwM [] [⟨2, [], bF, [], []⟩, ⟨5, [], bT, [], []⟩]), (5, .call [] bF [] []), (12, .stay)]) (next := 11) (l := (z_76a_0 xs ys)) (p := (True ∧ True ∧ True ∧ True ∧ True ∧ True ∧ True ∧ True ∧ True ∧ True ∧ True ∧ True ∧ True) ∧ (True ∧ True ∧ True ∧ True ∧ z_76a_1 ∧ z_76a_2 ∧ True ∧ True) ∧ z_76a_1 ∧ True) (by kernel_rfl) ⟨⟨tt, tt, tt, tt, tt, tt, tt, tt, tt, tt, tt, tt, tt⟩, ⟨tt, tt, tt, tt, (neg_fc 11 (by omega)), (neg_tc 11 (by omega)), tt, tt⟩, (neg_fc 11 (by omega)), tt⟩ (Gets.refl _)
theorem nc_tfd (xs ys : List Nat) (n c k e : Nat) (hc : n ≤ xs.length) (hk : k ≤ ys.length) (h45 : n ≤ 45) (hk45 : k ≤ 45) (l1 : (fl45 xs n).length = 45) (l2 : (fl45 ys k).length = 45)  : CT 137 #[(.agg #[bT,(sl 5 n c)]),(.agg #[bF,(sl 6 k e)])] (mkH 7 (z_76a_0 xs ys)) (.int .i64 (.negSucc 0)) (mkH 11 (z_76a_0 xs ys)) :=
  sF (sc := [(8, .drw []), (16, .drwM [] [⟨2, [], bT, [], []⟩, ⟨5, [], bF, [], []⟩]), (5, .call [] bT [] []), (11, .stay)]) (next := 11) (l := (z_76a_0 xs ys)) (p := (True ∧ True ∧ True ∧ True ∧ True ∧ True ∧ True ∧ True ∧ True ∧ True ∧ True ∧ True ∧ True) ∧ (True ∧ True ∧ True ∧ True ∧ z_76a_2 ∧ z_76a_1 ∧ True ∧ True) ∧ z_76a_2 ∧ True) (by kernel_rfl) ⟨⟨tt, tt, tt, tt, tt, tt, tt, tt, tt, tt, tt, tt, tt⟩, ⟨tt, tt, tt, tt, (neg_tc 11 (by omega)), (neg_fc 11 (by omega)), tt, tt⟩, (neg_tc 11 (by omega)), tt⟩ (Gets.refl _)
theorem nc_tte (xs ys : List Nat) (n c k e : Nat) (hc : n ≤ xs.length) (hk : k ≤ ys.length) (h45 : n ≤ 45) (hk45 : k ≤ 45) (l1 : (fl45 xs n).length = 45) (l2 : (fl45 ys k).length = 45) (he : fl45 xs n = fl45 ys k)  : CT 137 #[(.agg #[bT,(sl 5 n c)]),(.agg #[bT,(sl 6 k e)])] (mkH 7 (z_76a_0 xs ys)) (lI 0) (mkH 9 (z_76a_0 xs ys)) :=
  sF (sc := [(8, .drwM [(10, .eqA true)] [⟨7, [5], (fv (fl45 xs n)), [(5,some (cU xs))], []⟩, ⟨9, [6], (fv (fl45 ys k)), [(6,some (cU ys))], []⟩]), (6, .stay)]) (next := 9) (l := (z_76a_0 xs ys)) (p := (True ∧ True ∧ True ∧ True ∧ True ∧ True ∧ True ∧ True ∧ (z_76a_5 n c xs) ∧ (z_76a_6 k e ys) ∧ (eqInts (fvl (fl45 xs n)) (fvl (fl45 ys k)) = true) ∧ True ∧ True) ∧ True) (by kernel_rfl) ⟨⟨tt, tt, tt, tt, tt, tt, tt, tt, (fu_c 9 5 xs n c true (by omega) (by omega) (by omega)), (fu_c 9 6 ys k e true (by omega) (by omega) (by omega)), (eq_full l1 l2 true (by simp [he])), tt, tt⟩, tt⟩ (Gets.refl _)
theorem nc_ttl (xs ys : List Nat) (n c k e : Nat) (hc : n ≤ xs.length) (hk : k ≤ ys.length) (h45 : n ≤ 45) (hk45 : k ≤ 45) (l1 : (fl45 xs n).length = 45) (l2 : (fl45 ys k).length = 45) (he : ¬ fl45 xs n = fl45 ys k) (q : Int) (hq : (FT 152 #[sl 6 k e, sl 5 n c] 11 [(6, cU ys), (5, cU xs)] (.int .i64 q) [(6, some (cU ys)), (5, some (cU xs))] [])) (h0 : q < 0)  : CT 137 #[(.agg #[bT,(sl 5 n c)]),(.agg #[bT,(sl 6 k e)])] (mkH 7 (z_76a_0 xs ys)) (.int .i64 (.negSucc 0)) (mkH 11 (z_76a_0 xs ys)) :=
  sF (sc := [(8, .drwM [(10, .eqA false)] [⟨7, [5], (fv (fl45 xs n)), [(5,some (cU xs))], []⟩, ⟨9, [6], (fv (fl45 ys k)), [(6,some (cU ys))], []⟩]), (16, .drwM [] [⟨2, [], bT, [], []⟩, ⟨5, [], bT, [], []⟩]), (7, .call [] bT [] []), (14, .call [6,5] (.int .i64 q) [(6,some (cU ys)),(5,some (cU xs))] []), (0, .op (.rwB true)), (11, .stay)]) (next := 11) (l := (z_76a_0 xs ys)) (p := (True ∧ True ∧ True ∧ True ∧ True ∧ True ∧ True ∧ True ∧ (z_76a_5 n c xs) ∧ (z_76a_6 k e ys) ∧ (eqInts (fvl (fl45 xs n)) (fvl (fl45 ys k)) = false) ∧ True ∧ True) ∧ (True ∧ True ∧ True ∧ True ∧ z_76a_2 ∧ z_76a_2 ∧ True ∧ True) ∧ z_76a_2 ∧ (FT 152 #[(sl 6 k e),(sl 5 n c)] 11 [(6,(cU ys)),(5,(cU xs))] (.int .i64 q) [(6,some (cU ys)),(5,some (cU xs))] []) ∧ (decide (q < (0 : Int)) = true) ∧ True) (by kernel_rfl) ⟨⟨tt, tt, tt, tt, tt, tt, tt, tt, (fu_c 9 5 xs n c true (by omega) (by omega) (by omega)), (fu_c 9 6 ys k e true (by omega) (by omega) (by omega)), (eq_full l1 l2 false (by simp [he])), tt, tt⟩, ⟨tt, tt, tt, tt, (neg_tc 11 (by omega)), (neg_tc 11 (by omega)), tt, tt⟩, (neg_tc 11 (by omega)), hq, (dT (by omega)), tt⟩ (Gets.refl _)
theorem nc_ttg (xs ys : List Nat) (n c k e : Nat) (hc : n ≤ xs.length) (hk : k ≤ ys.length) (h45 : n ≤ 45) (hk45 : k ≤ 45) (l1 : (fl45 xs n).length = 45) (l2 : (fl45 ys k).length = 45) (he : ¬ fl45 xs n = fl45 ys k) (q : Int) (hq : (FT 152 #[sl 6 k e, sl 5 n c] 11 [(6, cU ys), (5, cU xs)] (.int .i64 q) [(6, some (cU ys)), (5, some (cU xs))] [])) (h0 : ¬ q < 0)  : CT 137 #[(.agg #[bT,(sl 5 n c)]),(.agg #[bT,(sl 6 k e)])] (mkH 7 (z_76a_0 xs ys)) (lI 1) (mkH 11 (z_76a_0 xs ys)) :=
  sF (sc := [(8, .drwM [(10, .eqA false)] [⟨7, [5], (fv (fl45 xs n)), [(5,some (cU xs))], []⟩, ⟨9, [6], (fv (fl45 ys k)), [(6,some (cU ys))], []⟩]), (16, .drwM [] [⟨2, [], bT, [], []⟩, ⟨5, [], bT, [], []⟩]), (7, .call [] bT [] []), (14, .call [6,5] (.int .i64 q) [(6,some (cU ys)),(5,some (cU xs))] []), (0, .op (.rwB false)), (12, .stay)]) (next := 11) (l := (z_76a_0 xs ys)) (p := (True ∧ True ∧ True ∧ True ∧ True ∧ True ∧ True ∧ True ∧ (z_76a_5 n c xs) ∧ (z_76a_6 k e ys) ∧ (eqInts (fvl (fl45 xs n)) (fvl (fl45 ys k)) = false) ∧ True ∧ True) ∧ (True ∧ True ∧ True ∧ True ∧ z_76a_2 ∧ z_76a_2 ∧ True ∧ True) ∧ z_76a_2 ∧ (FT 152 #[(sl 6 k e),(sl 5 n c)] 11 [(6,(cU ys)),(5,(cU xs))] (.int .i64 q) [(6,some (cU ys)),(5,some (cU xs))] []) ∧ (decide (q < (0 : Int)) = false) ∧ True) (by kernel_rfl) ⟨⟨tt, tt, tt, tt, tt, tt, tt, tt, (fu_c 9 5 xs n c true (by omega) (by omega) (by omega)), (fu_c 9 6 ys k e true (by omega) (by omega) (by omega)), (eq_full l1 l2 false (by simp [he])), tt, tt⟩, ⟨tt, tt, tt, tt, (neg_tc 11 (by omega)), (neg_tc 11 (by omega)), tt, tt⟩, (neg_tc 11 (by omega)), hq, (dF (by omega)), tt⟩ (Gets.refl _)
theorem nc_c (n0 bx byy : Nat) (xs ys : List Nat) (n c k e : Nat) (sx sy : Bool) (hb : 5 ≤ bx ∧ bx < n0 ∧ 5 ≤ byy ∧ byy < n0 ∧ bx ≠ byy) (hlx : Lim xs) (hly : Lim ys) (hc : n ≤ xs.length) (hk : k ≤ ys.length) (h45 : n ≤ 45) (hk45 : k ≤ 45)
    (hx : 0 < n → xs.getD (n - 1) 0 ≠ 0) (hy : 0 < k → ys.getD (k - 1) 0 ≠ 0) (hsx : sx = true → 0 < n) (hsy : sy = true → 0 < k) :
    FT 137 #[.agg #[.bool sx, sl bx n c], .agg #[.bool sy, sl byy k e]] n0 [(bx, cU xs), (byy, cU ys)] (.int .i64 (cmpZ (iv sx (val (xs.take n))) (iv sy (val (ys.take k)))))
        [(bx, some (cU xs)), (byy, some (cU ys))] [] := by
  have l1 := fl45_len hc h45
  have l2 := fl45_len hk hk45
  cases sx with
  | false => cases sy with
    | false =>
      by_cases hv : val (xs.take n) = val (ys.take k)
      · have he : fl45 xs n = fl45 ys k := val_inj (fl45_lim hlx) (fl45_lim hly) (by rw [l1, l2]) (by rw [fl45_val, fl45_val, hv])
        rw [cmpZ_eq (by rw [iv_f, iv_f, hv])]
        exact fsp_flat [bx, byy] [cU xs, cU ys] [cU xs, cU ys] [] [] n0 (nc_ffe xs ys n c k e hc hk h45 hk45 l1 l2 he) rfl rfl rfl (by simp [hb.2.2.2.2]) (by simp; omega) (by omega) (by simp [flat, ns_closed]) (by simp [flat, ns_closed]) rfl (by simp) (by simp) rfl rfl rfl
      · have he : ¬ fl45 xs n = fl45 ys k := fun q => hv (by rw [← fl45_val xs, ← fl45_val ys, q])
        have hq := cmp_c 11 5 6 xs ys n c k e (by omega) hlx hly hc hk (by omega) (by omega) hx hy
        by_cases h0 : val (xs.take n) < val (ys.take k)
        · rw [cmpZ_lt (by rw [iv_f, iv_f]; omega)]
          exact fsp_flat [bx, byy] [cU xs, cU ys] [cU xs, cU ys] [] [] n0 (nc_ffl xs ys n c k e hc hk h45 hk45 l1 l2 he _ hq (cmpN_neg.2 h0)) rfl rfl rfl (by simp [hb.2.2.2.2]) (by simp; omega) (by omega) (by simp [flat, ns_closed]) (by simp [flat, ns_closed]) rfl (by simp) (by simp) rfl rfl rfl
        · rw [cmpZ_gt (by rw [iv_f, iv_f]; omega)]
          exact fsp_flat [bx, byy] [cU xs, cU ys] [cU xs, cU ys] [] [] n0 (nc_ffg xs ys n c k e hc hk h45 hk45 l1 l2 he _ hq (fun q => h0 (cmpN_neg.1 q))) rfl rfl rfl (by simp [hb.2.2.2.2]) (by simp; omega) (by omega) (by simp [flat, ns_closed]) (by simp [flat, ns_closed]) rfl (by simp) (by simp) rfl rfl rfl
    | true =>
      have hpy := val_pos (hsy rfl) hy
      rw [cmpZ_gt (by rw [iv_t, iv_f]; omega)]
      exact fsp_flat [bx, byy] [cU xs, cU ys] [cU xs, cU ys] [] [] n0 (nc_ftd xs ys n c k e hc hk h45 hk45 l1 l2) rfl rfl rfl (by simp [hb.2.2.2.2]) (by simp; omega) (by omega) (by simp [flat, ns_closed]) (by simp [flat, ns_closed]) rfl (by simp) (by simp) rfl rfl rfl
  | true => cases sy with
    | false =>
      have hpx := val_pos (hsx rfl) hx
      rw [cmpZ_lt (by rw [iv_t, iv_f]; omega)]
      exact fsp_flat [bx, byy] [cU xs, cU ys] [cU xs, cU ys] [] [] n0 (nc_tfd xs ys n c k e hc hk h45 hk45 l1 l2) rfl rfl rfl (by simp [hb.2.2.2.2]) (by simp; omega) (by omega) (by simp [flat, ns_closed]) (by simp [flat, ns_closed]) rfl (by simp) (by simp) rfl rfl rfl
    | true =>
      by_cases hv : val (xs.take n) = val (ys.take k)
      · have he : fl45 xs n = fl45 ys k := val_inj (fl45_lim hlx) (fl45_lim hly) (by rw [l1, l2]) (by rw [fl45_val, fl45_val, hv])
        rw [cmpZ_eq (by rw [iv_t, iv_t, hv])]
        exact fsp_flat [bx, byy] [cU xs, cU ys] [cU xs, cU ys] [] [] n0 (nc_tte xs ys n c k e hc hk h45 hk45 l1 l2 he) rfl rfl rfl (by simp [hb.2.2.2.2]) (by simp; omega) (by omega) (by simp [flat, ns_closed]) (by simp [flat, ns_closed]) rfl (by simp) (by simp) rfl rfl rfl
      · have he : ¬ fl45 xs n = fl45 ys k := fun q => hv (by rw [← fl45_val xs, ← fl45_val ys, q])
        have hq := cmp_c 11 6 5 ys xs k e n c (by omega) hly hlx hk hc (by omega) (by omega) hy hx
        by_cases h0 : val (ys.take k) < val (xs.take n)
        · rw [cmpZ_lt (by rw [iv_t, iv_t]; omega)]
          exact fsp_flat [bx, byy] [cU xs, cU ys] [cU xs, cU ys] [] [] n0 (nc_ttl xs ys n c k e hc hk h45 hk45 l1 l2 he _ hq (cmpN_neg.2 h0)) rfl rfl rfl (by simp [hb.2.2.2.2]) (by simp; omega) (by omega) (by simp [flat, ns_closed]) (by simp [flat, ns_closed]) rfl (by simp) (by simp) rfl rfl rfl
        · rw [cmpZ_gt (by rw [iv_t, iv_t]; omega)]
          exact fsp_flat [bx, byy] [cU xs, cU ys] [cU xs, cU ys] [] [] n0 (nc_ttg xs ys n c k e hc hk h45 hk45 l1 l2 he _ hq (fun q => h0 (cmpN_neg.1 q))) rfl rfl rfl (by simp [hb.2.2.2.2]) (by simp; omega) (by omega) (by simp [flat, ns_closed]) (by simp [flat, ns_closed]) rfl (by simp) (by simp) rfl rfl rfl
noncomputable section
abbrev z_c63_0 (sx sy : Bool) (n k : Nat) (xs ys : List Nat) (q : Int) : Prop := FT 137 #[(.agg #[(.bool sx),(sl 9 n n)]),(.agg #[(.bool sy),(sl 10 k k)])] 11 [(9,(cU xs)),(10,(cU ys))] (.int .i64 q) [(9,some (cU xs)),(10,some (cU ys))] []
abbrev z_c63_1 (b : Int) (sy : Bool) (k : Nat) (ys : List Nat) : Prop := FT 111 #[(.string (istr b))] 10 [] (.agg #[(.bool sy),(sl 10 k k)]) [] [(cU ys)]
abbrev z_c63_2 (a : Int) (sx : Bool) (n : Nat) (xs : List Nat) : Prop := FT 111 #[(.string (istr a))] 9 [] (.agg #[(.bool sx),(sl 9 n n)]) [] [(cU xs)]
abbrev z_c63_3 (a b : Int) : Array Value := #[(.string (istr a)),(.string (istr b))]
end
theorem wc_l (a b : Int) (hka : ∀ n0, 5 ≤ n0 → FT 145 #[.string (istr a)] n0 [] (lI 2) [] []) (hkb : ∀ n0, 5 ≤ n0 → FT 145 #[.string (istr b)] n0 [] (lI 2) [] []) (hsa : ∀ n0, 5 ≤ n0 → FT 109 #[.string (istr a)] n0 [] (.int .i64 a) [] []) (hsb : ∀ n0, 5 ≤ n0 → FT 109 #[.string (istr b)] n0 [] (.int .i64 b) [] []) (h : a < b)  : CT 45 (z_c63_3 a b) (mkH 5 []) (.tuple #[(.int .i64 (.negSucc 0)),(lI 0)]) (mkH 9 []) :=
  sF (sc := [(80, .call [] (lI 2) [] []), (52, .call [] (lI 2) [] []), (54, .call [] (.int .i64 a) [] []), (1, .call [] (.int .i64 b) [] []), (17, .op (.rwB false)), (18, .op (.rwB false)), (25, .op (.rwB true)), (42, .stay)]) (next := 9) (l := []) (p := (FT 145 #[(.string (istr a))] 9 [] (lI 2) [] []) ∧ (FT 145 #[(.string (istr b))] 9 [] (lI 2) [] []) ∧ (FT 109 #[(.string (istr a))] 9 [] (.int .i64 a) [] []) ∧ (FT 109 #[(.string (istr b))] 9 [] (.int .i64 b) [] []) ∧ ((a != a) = false) ∧ ((b != b) = false) ∧ (decide (a < b) = true) ∧ True) (by kernel_rfl) ⟨(hka 9 (by omega)), (hkb 9 (by omega)), (hsa 9 (by omega)), (hsb 9 (by omega)), (nF (by omega)), (nF (by omega)), (dT (by omega)), tt⟩ (Gets.refl _)
theorem wc_g (a b : Int) (hka : ∀ n0, 5 ≤ n0 → FT 145 #[.string (istr a)] n0 [] (lI 2) [] []) (hkb : ∀ n0, 5 ≤ n0 → FT 145 #[.string (istr b)] n0 [] (lI 2) [] []) (hsa : ∀ n0, 5 ≤ n0 → FT 109 #[.string (istr a)] n0 [] (.int .i64 a) [] []) (hsb : ∀ n0, 5 ≤ n0 → FT 109 #[.string (istr b)] n0 [] (.int .i64 b) [] []) (h : b < a)  : CT 45 (z_c63_3 a b) (mkH 5 []) (.tuple #[(lI 1),(lI 0)]) (mkH 9 []) :=
  sF (sc := [(80, .call [] (lI 2) [] []), (52, .call [] (lI 2) [] []), (54, .call [] (.int .i64 a) [] []), (1, .call [] (.int .i64 b) [] []), (17, .op (.rwB false)), (18, .op (.rwB false)), (25, .op (.rwB false)), (8, .op (.rwB true)), (42, .stay)]) (next := 9) (l := []) (p := (FT 145 #[(.string (istr a))] 9 [] (lI 2) [] []) ∧ (FT 145 #[(.string (istr b))] 9 [] (lI 2) [] []) ∧ (FT 109 #[(.string (istr a))] 9 [] (.int .i64 a) [] []) ∧ (FT 109 #[(.string (istr b))] 9 [] (.int .i64 b) [] []) ∧ ((a != a) = false) ∧ ((b != b) = false) ∧ (decide (a < b) = false) ∧ (decide (a > b) = true) ∧ True) (by kernel_rfl) ⟨(hka 9 (by omega)), (hkb 9 (by omega)), (hsa 9 (by omega)), (hsb 9 (by omega)), (nF (by omega)), (nF (by omega)), (dF (by omega)), (dT (by omega)), tt⟩ (Gets.refl _)
theorem wc_e (a b : Int) (hka : ∀ n0, 5 ≤ n0 → FT 145 #[.string (istr a)] n0 [] (lI 2) [] []) (hkb : ∀ n0, 5 ≤ n0 → FT 145 #[.string (istr b)] n0 [] (lI 2) [] []) (hsa : ∀ n0, 5 ≤ n0 → FT 109 #[.string (istr a)] n0 [] (.int .i64 a) [] []) (hsb : ∀ n0, 5 ≤ n0 → FT 109 #[.string (istr b)] n0 [] (.int .i64 b) [] []) (h : a = b)  : CT 45 (z_c63_3 a b) (mkH 5 []) (.tuple #[(lI 0),(lI 0)]) (mkH 9 []) :=
  sF (sc := [(80, .call [] (lI 2) [] []), (52, .call [] (lI 2) [] []), (54, .call [] (.int .i64 a) [] []), (1, .call [] (.int .i64 b) [] []), (17, .op (.rwB false)), (18, .op (.rwB false)), (25, .op (.rwB false)), (8, .op (.rwB false)), (43, .stay)]) (next := 9) (l := []) (p := (FT 145 #[(.string (istr a))] 9 [] (lI 2) [] []) ∧ (FT 145 #[(.string (istr b))] 9 [] (lI 2) [] []) ∧ (FT 109 #[(.string (istr a))] 9 [] (.int .i64 a) [] []) ∧ (FT 109 #[(.string (istr b))] 9 [] (.int .i64 b) [] []) ∧ ((a != a) = false) ∧ ((b != b) = false) ∧ (decide (a < b) = false) ∧ (decide (a > b) = false) ∧ True) (by kernel_rfl) ⟨(hka 9 (by omega)), (hkb 9 (by omega)), (hsa 9 (by omega)), (hsb 9 (by omega)), (nF (by omega)), (nF (by omega)), (dF (by omega)), (dF (by omega)), tt⟩ (Gets.refl _)
theorem wc_23 (a b : Int) (hka : ∀ n0, 5 ≤ n0 → FT 145 #[.string (istr a)] n0 [] (lI 2) [] []) (hkb : ∀ n0, 5 ≤ n0 → FT 145 #[.string (istr b)] n0 [] (lI 3) [] [])   (sx : Bool) (xs : List Nat) (n : Nat) (hc1 : (z_c63_2 a sx n xs)) (sy : Bool) (ys : List Nat) (k : Nat) (hc3 : (z_c63_1 b sy k ys)) (q : Int) (hc5 : (z_c63_0 sx sy n k xs ys q))  : CT 45 (z_c63_3 a b) (mkH 5 []) (.tuple #[(.int .i64 q),(lI 0)]) (mkH 11 []) :=
  sF (sc := [(80, .call [] (lI 2) [] []), (52, .call [] (lI 3) [] []), (55, .call [] (.agg #[(.bool sx),(sl 9 n n)]) [] [(cU xs)]), (1, .call [] (.agg #[(.bool sy),(sl 10 k k)]) [] [(cU ys)]), (0, .call [9,10] (.int .i64 q) [(9,some (cU xs)),(10,some (cU ys))] []), (34, .stay)]) (next := 11) (l := []) (p := (FT 145 #[(.string (istr a))] 9 [] (lI 2) [] []) ∧ (FT 145 #[(.string (istr b))] 9 [] (lI 3) [] []) ∧ (z_c63_2 a sx n xs) ∧ (z_c63_1 b sy k ys) ∧ (z_c63_0 sx sy n k xs ys q) ∧ True) (by kernel_rfl) ⟨(hka 9 (by omega)), (hkb 9 (by omega)), hc1, hc3, hc5, tt⟩ (Gets.refl _)
theorem wc_32 (a b : Int) (hka : ∀ n0, 5 ≤ n0 → FT 145 #[.string (istr a)] n0 [] (lI 3) [] []) (hkb : ∀ n0, 5 ≤ n0 → FT 145 #[.string (istr b)] n0 [] (lI 2) [] [])   (sx : Bool) (xs : List Nat) (n : Nat) (hc1 : (z_c63_2 a sx n xs)) (sy : Bool) (ys : List Nat) (k : Nat) (hc3 : (z_c63_1 b sy k ys)) (q : Int) (hc5 : (z_c63_0 sx sy n k xs ys q))  : CT 45 (z_c63_3 a b) (mkH 5 []) (.tuple #[(.int .i64 q),(lI 0)]) (mkH 11 []) :=
  sF (sc := [(80, .call [] (lI 3) [] []), (52, .call [] (lI 2) [] []), (55, .call [] (.agg #[(.bool sx),(sl 9 n n)]) [] [(cU xs)]), (1, .call [] (.agg #[(.bool sy),(sl 10 k k)]) [] [(cU ys)]), (0, .call [9,10] (.int .i64 q) [(9,some (cU xs)),(10,some (cU ys))] []), (34, .stay)]) (next := 11) (l := []) (p := (FT 145 #[(.string (istr a))] 9 [] (lI 3) [] []) ∧ (FT 145 #[(.string (istr b))] 9 [] (lI 2) [] []) ∧ (z_c63_2 a sx n xs) ∧ (z_c63_1 b sy k ys) ∧ (z_c63_0 sx sy n k xs ys q) ∧ True) (by kernel_rfl) ⟨(hka 9 (by omega)), (hkb 9 (by omega)), hc1, hc3, hc5, tt⟩ (Gets.refl _)
theorem wc_33 (a b : Int) (hka : ∀ n0, 5 ≤ n0 → FT 145 #[.string (istr a)] n0 [] (lI 3) [] []) (hkb : ∀ n0, 5 ≤ n0 → FT 145 #[.string (istr b)] n0 [] (lI 3) [] [])   (sx : Bool) (xs : List Nat) (n : Nat) (hc1 : (z_c63_2 a sx n xs)) (sy : Bool) (ys : List Nat) (k : Nat) (hc3 : (z_c63_1 b sy k ys)) (q : Int) (hc5 : (z_c63_0 sx sy n k xs ys q))  : CT 45 (z_c63_3 a b) (mkH 5 []) (.tuple #[(.int .i64 q),(lI 0)]) (mkH 11 []) :=
  sF (sc := [(80, .call [] (lI 3) [] []), (52, .call [] (lI 3) [] []), (55, .call [] (.agg #[(.bool sx),(sl 9 n n)]) [] [(cU xs)]), (1, .call [] (.agg #[(.bool sy),(sl 10 k k)]) [] [(cU ys)]), (0, .call [9,10] (.int .i64 q) [(9,some (cU xs)),(10,some (cU ys))] []), (34, .stay)]) (next := 11) (l := []) (p := (FT 145 #[(.string (istr a))] 9 [] (lI 3) [] []) ∧ (FT 145 #[(.string (istr b))] 9 [] (lI 3) [] []) ∧ (z_c63_2 a sx n xs) ∧ (z_c63_1 b sy k ys) ∧ (z_c63_0 sx sy n k xs ys q) ∧ True) (by kernel_rfl) ⟨(hka 9 (by omega)), (hkb 9 (by omega)), hc1, hc3, hc5, tt⟩ (Gets.refl _)
theorem Compare_i (n0 : Nat) (a b : Int) (hG : 5 ≤ n0) (ha : ndig a.natAbs ≤ 400) (hb : ndig b.natAbs ≤ 400) :
    FT 45 #[.string (istr a), .string (istr b)] n0 [] (.tuple #[.int .i64 (cmpZ a b), .int .i64 (.ofNat 0)]) [] [] := by
  by_cases hsh : (digs a.natAbs).length ≤ 18 ∧ (digs b.natAbs).length ≤ 18
  · have ka := fun n0 h => kis_i n0 a h hsh.1
    have kb := fun n0 h => kis_i n0 b h hsh.2
    have sa := fun n0 h => sm_i n0 a h hsh.1
    have sb := fun n0 h => sm_i n0 b h hsh.2
    rcases Int.lt_trichotomy a b with h | h | h
    · rw [cmpZ_lt h]
      exact fsp_flat [] [] [] [] [] n0 (wc_l a b ka kb sa sb h) rfl rfl rfl (by simp) (by simp) hG rfl rfl rfl (by simp) (by simp) rfl rfl rfl
    · rw [cmpZ_eq h]
      exact fsp_flat [] [] [] [] [] n0 (wc_e a b ka kb sa sb h) rfl rfl rfl (by simp) (by simp) hG rfl rfl rfl (by simp) (by simp) rfl rfl rfl
    · rw [cmpZ_gt h]
      exact fsp_flat [] [] [] [] [] n0 (wc_g a b ka kb sa sb h) rfl rfl rfl (by simp) (by simp) hG rfl rfl rfl (by simp) (by simp) rfl rfl rfl
  · obtain ⟨sx, xs, n, e1, e2, e3, e4, e5, e6, e7⟩ := nu_i 9 a (by omega) ha
    obtain ⟨sy, ys, k, f1, f2, f3, f4, f5, f6, f7⟩ := nu_i 10 b (by omega) hb
    have T := nc_c 11 9 10 xs ys n n k k sx sy (by omega) e1 f1 e2 f2 e3.1 f3.1 e4 f4 e5 f5
    rw [e6, f6] at T
    by_cases h1 : (digs a.natAbs).length ≤ 18
    · exact fsp_flat [] [] [] [] [] n0 (wc_23 a b (fun n0 h => kis_i n0 a h h1) (fun n0 h => kil_i n0 b h (by omega) hb) sx xs n e7 sy ys k f7 _ T) rfl rfl rfl (by simp) (by simp) hG rfl rfl rfl (by simp) (by simp) rfl rfl rfl
    · by_cases h2 : (digs b.natAbs).length ≤ 18
      · exact fsp_flat [] [] [] [] [] n0 (wc_32 a b (fun n0 h => kil_i n0 a h (by omega) ha) (fun n0 h => kis_i n0 b h h2) sx xs n e7 sy ys k f7 _ T) rfl rfl rfl (by simp) (by simp) hG rfl rfl rfl (by simp) (by simp) rfl rfl rfl
      · exact fsp_flat [] [] [] [] [] n0 (wc_33 a b (fun n0 h => kil_i n0 a h (by omega) ha) (fun n0 h => kil_i n0 b h (by omega) hb) sx xs n e7 sy ys k f7 _ T) rfl rfl rfl (by simp) (by simp) hG rfl rfl rfl (by simp) (by simp) rfl rfl rfl
noncomputable section
abbrev z_d20_0 (n e : Nat) (sr : ByteArray) : Array Value := #[(nI n), uu, (.string (sr ++ (dstr [e]))), (nI n), bF, uu, uu, uu, uu, (nI n), bF, uu, uu, uu, uu, uu, (nI n), (nI (n / 10)), (.string sr), (nI n), (nI (n % 10)), (nI (48 + (n % 10))), (nB (48 + (n % 10))), (sl 5 1 1), (.string (dstr [e])), (.string (sr ++ (dstr [e])))]
end
theorem dec_eq {n : Nat} (h : ¬ n < 10) : dstr (digs (n / 10)) ++ dstr [n % 10] = dstr (digs n) := by rw [dstr_snoc, ← digs_big h]
theorem oi_s (n : Nat) (hn : n < 1099511627776) (h : n < 10) (e : Nat) (he : e = n)  : CT 75 #[(nI n)] (mkH 5 []) (.string (dstr [e])) (mkH 6 []) :=
  sF (sc := [(8, .op (.rwB false)), (7, .op (.rwB true)), (5, .op (.rwI (((48 + n) : Nat) : Int))), (0, .op (.rwI (((48 + n) : Nat) : Int))), (1, .op (.b2s (dstr [e]))), (3, .stay)]) (next := 6) (l := []) (p := (decide ((n : Int) < (0 : Int)) = false) ∧ (decide ((n : Int) < (10 : Int)) = true) ∧ (IntKind.wrap .i64 ((48 : Int) + (n : Int)) = (((48 + n) : Nat) : Int)) ∧ (IntKind.wrap .u8 (((48 + n) : Nat) : Int) = (((48 + n) : Nat) : Int)) ∧ (0 + 1 ≤ ([(nB (48 + n))]).length ∧ (intsOf (List.take 1 (List.drop 0 [(nB (48 + n))]))).map (fun ns => (⟨(ns.map fun n => UInt8.ofNat n.toNat).toArray⟩ : ByteArray)) = some (dstr [e])) ∧ True) (by kernel_rfl) ⟨(dF (by omega)), (dT (by omega)), (wI64 (by omega)), (wU8 (by omega)), (b2s_one (by omega)), tt⟩ (Gets.refl _)
theorem oi_r (n : Nat) (hn : n < 1099511627776) (h : ¬ n < 10) (e : Nat) (he : e = n % 10) (sr : ByteArray) (hsz : sr.size < 1099511627776) (hrec : ∀ n0, 5 ≤ n0 → FT 75 #[(nI (n / 10))] n0 [] (.string sr) [] [])  : CT 75 #[(nI n)] (mkH 5 []) (.string (sr ++ (dstr [e]))) (mkH 6 []) :=
  sF (sc := [(8, .op (.rwB false)), (7, .op (.rwB false)), (4, .drwB [(1, .rwI (((n / 10) : Nat) : Int)), (4, .rwI (((n % 10) : Nat) : Int)), (5, .rwI (((48 + (n % 10)) : Nat) : Int)), (6, .rwI (((48 + (n % 10)) : Nat) : Int)), (8, .b2s (dstr [e])), (9, .cat (sr ++ (dstr [e])))] [⟨2, [], (.string sr), [], []⟩] ⟨(z_d20_0 n e sr), 6, [(5, (.cells [(nB (48 + (n % 10)))] 5 none false))]⟩), (1, .stay)]) (next := 6) (l := []) (p := (decide ((n : Int) < (0 : Int)) = false) ∧ (decide ((n : Int) < (10 : Int)) = false) ∧ (True ∧ ((IntKind.wrap .i64 (Int.tdiv (n : Int) (10 : Int)) = (((n / 10) : Nat) : Int)) ∧ (True ∧ (((Int.tmod (n : Int) (10 : Int)) = (((n % 10) : Nat) : Int)) ∧ ((IntKind.wrap .i64 ((48 : Int) + (((n % 10) : Nat) : Int)) = (((48 + (n % 10)) : Nat) : Int)) ∧ ((IntKind.wrap .u8 (((48 + (n % 10)) : Nat) : Int) = (((48 + (n % 10)) : Nat) : Int)) ∧ (((FT 75 #[(nI (n / 10))] 5 [] (.string sr) [] []) ∧ (True) ∧ (((True) ∧ (True) ∧ (((0 + 1 ≤ ([(nB (48 + (n % 10)))]).length ∧ (intsOf (List.take 1 (List.drop 0 [(nB (48 + (n % 10)))]))).map (fun ns => (⟨(ns.map fun n => UInt8.ofNat n.toNat).toArray⟩ : ByteArray)) = some (dstr [e])) ∧ (True) ∧ (((((sr.size + (dstr [e]).size : Nat)) : Int) ≤ 9223372036854775807 ∧ sr ++ (dstr [e]) = (sr ++ (dstr [e]))) ∧ (True ∧ (endT ⟨(z_d20_0 n e sr), 6, [(5, (.cells [(nB (48 + (n % 10)))] 5 none false))]⟩)))) ∧ (True))) ∧ (True))) ∧ (((True) ∧ (True) ∧ (((FT 75 #[(nI (n / 10))] 6 [] (.string sr) [] []) ∧ (True) ∧ (((0 + 1 ≤ ([(nB (48 + (n % 10)))]).length ∧ (intsOf (List.take 1 (List.drop 0 [(nB (48 + (n % 10)))]))).map (fun ns => (⟨(ns.map fun n => UInt8.ofNat n.toNat).toArray⟩ : ByteArray)) = some (dstr [e])) ∧ (True) ∧ (((((sr.size + (dstr [e]).size : Nat)) : Int) ≤ 9223372036854775807 ∧ sr ++ (dstr [e]) = (sr ++ (dstr [e]))) ∧ (True ∧ (endT ⟨(z_d20_0 n e sr), 6, [(5, (.cells [(nB (48 + (n % 10)))] 5 none false))]⟩)))) ∧ (True))) ∧ (((0 + 1 ≤ ([(nB (48 + (n % 10)))]).length ∧ (intsOf (List.take 1 (List.drop 0 [(nB (48 + (n % 10)))]))).map (fun ns => (⟨(ns.map fun n => UInt8.ofNat n.toNat).toArray⟩ : ByteArray)) = some (dstr [e])) ∧ (True) ∧ (((FT 75 #[(nI (n / 10))] 6 [] (.string sr) [] []) ∧ (True) ∧ (((((sr.size + (dstr [e]).size : Nat)) : Int) ≤ 9223372036854775807 ∧ sr ++ (dstr [e]) = (sr ++ (dstr [e]))) ∧ (True ∧ (endT ⟨(z_d20_0 n e sr), 6, [(5, (.cells [(nB (48 + (n % 10)))] 5 none false))]⟩)))) ∧ (True))) ∧ (True)))) ∧ (True))))))))) ∧ True) (by kernel_rfl) ⟨(dF (by omega)), (dF (by omega)), ⟨tt, ⟨(by rw [Int.tdiv_eq_ediv_of_nonneg (by omega), wrap_i64 (by omega) (by omega)] <;> omega), ⟨tt, ⟨(by rw [Int.tmod_eq_emod_of_nonneg (by omega)] <;> omega), ⟨(wI64 (by omega)), ⟨(wU8 (by omega)), ⟨⟨(hrec 5 (by omega)), tt, ⟨⟨tt, tt, ⟨⟨(b2s_one (by omega)), tt, ⟨⟨by rw [show (dstr [e]).size = 1 from rfl]; omega, rfl⟩, ⟨tt, rfl⟩⟩⟩, tt⟩⟩, tt⟩⟩, ⟨⟨tt, tt, ⟨⟨(hrec 6 (by omega)), tt, ⟨⟨(b2s_one (by omega)), tt, ⟨⟨by rw [show (dstr [e]).size = 1 from rfl]; omega, rfl⟩, ⟨tt, rfl⟩⟩⟩, tt⟩⟩, ⟨⟨(b2s_one (by omega)), tt, ⟨⟨(hrec 6 (by omega)), tt, ⟨⟨by rw [show (dstr [e]).size = 1 from rfl]; omega, rfl⟩, ⟨tt, rfl⟩⟩⟩, tt⟩⟩, tt⟩⟩⟩, tt⟩⟩⟩⟩⟩⟩⟩⟩, tt⟩ (Gets.refl _)
theorem oi_c : ∀ (n n0 : Nat), 5 ≤ n0 → n < 1099511627776 → FT 75 #[.int .i64 ((n : Nat) : Int)] n0 [] (.string (istr (n : Int))) [] [] := by
  intro n
  induction n using Nat.strongRecOn with
  | _ n ih =>
    intro n0 hG hn
    rw [istr_nn]
    by_cases h : n < 10
    · rw [digs_small h]
      exact fsp_flat [] [] [] [] [] n0 (oi_s n hn h n rfl) rfl rfl rfl (by simp) (by simp) hG rfl rfl rfl (by simp) (by simp) rfl rfl rfl
    · have hr : ∀ n0, 5 ≤ n0 → FT 75 #[(nI (n / 10))] n0 [] (.string (dstr (digs (n / 10)))) [] [] := fun n0 hG => by
        have := ih (n / 10) (by omega) n0 hG (by omega)
        rw [istr_nn] at this
        exact this
      have hsz : (dstr (digs (n / 10))).size < 1099511627776 := by
        rw [dstr_size]
        have h1 : ndig (n / 10) ≤ 12 := ndig_lt 12 _ (by omega)
        have := digs_len_le h1 (by decide)
        omega
      rw [← dec_eq h]
      exact fsp_flat [] [] [] [] [] n0 (oi_r n hn h _ rfl _ hsz hr) rfl rfl rfl (by simp) (by simp) hG rfl rfl rfl (by simp) (by simp) rfl rfl rfl
theorem oi_m (n : Nat) (h0 : 0 < n) (hn : n < 1099511627776) (ds : List Nat) (hsz : (dstr ds).size < 1099511627776) (hrec : ∀ n0, 5 ≤ n0 → FT 75 #[.int .i64 (n : Int)] n0 [] (.string (dstr ds)) [] [])  : CT 75 #[(.int .i64 (-(n : Int)))] (mkH 5 []) (.string ((bts [45]) ++ (dstr ds))) (mkH 5 []) :=
  sF (sc := [(8, .op (.rwB true)), (5, .op (.rwI (n : Int))), (0, .call [] (.string (dstr ds)) [] []), (0, .op (.cat ((bts [45]) ++ (dstr ds)))), (3, .stay)]) (next := 5) (l := []) (p := (decide ((-(n : Int)) < (0 : Int)) = true) ∧ (IntKind.wrap .i64 ((0 : Int) - (-(n : Int))) = (n : Int)) ∧ (FT 75 #[(nI n)] 5 [] (.string (dstr ds)) [] []) ∧ (((((bts [45]).size + (dstr ds).size : Nat)) : Int) ≤ 9223372036854775807 ∧ (bts [45]) ++ (dstr ds) = ((bts [45]) ++ (dstr ds))) ∧ True) (by kernel_rfl) ⟨(dT (by omega)), (wI64 (by omega)), (hrec 5 (by omega)), ⟨by rw [show (Seg.bts [45]).size = 1 from rfl]; omega, rfl⟩, tt⟩ (Gets.refl _)
theorem oi_i (z : Int) (n0 : Nat) (hG : 5 ≤ n0) (hz : z.natAbs < 1099511627776) : FT 75 #[.int .i64 z] n0 [] (.string (istr z)) [] [] := by
  rcases int_cases z with ⟨m, rfl, hm⟩ | ⟨m, h0, rfl, hm⟩
  · exact oi_c m n0 hG (by omega)
  · have hr : ∀ n0, 5 ≤ n0 → FT 75 #[.int .i64 ((m : Nat) : Int)] n0 [] (.string (dstr (digs m))) [] [] := fun n0 hG => by
      have := oi_c m n0 hG (by omega)
      rw [istr_nn] at this
      exact this
    have hsz : (dstr (digs m)).size < 1099511627776 := by
      rw [dstr_size]
      have h1 : ndig m ≤ 13 := ndig_lt 13 _ (by omega)
      have := digs_len_le h1 (by decide)
      omega
    rw [istr_neg h0, ← mstr_catw]
    exact fsp_flat [] [] [] [] [] n0 (oi_m m h0 (by omega) _ hsz hr) rfl rfl rfl (by simp) (by simp) hG rfl rfl rfl (by simp) (by simp) rfl rfl rfl
end Go.Proofs.YtbjpjoodjbmicaaGreatDoor
