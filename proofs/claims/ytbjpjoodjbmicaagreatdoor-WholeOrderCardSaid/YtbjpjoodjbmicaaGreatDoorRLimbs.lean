import Derived.Test.YtbjpjoodjbmicaaGreatDoorPToInt
import Derived.Test.YtbjpjoodjbmicaaGreatDoorLF
set_option linter.unusedVariables false
set_option linter.unusedSimpArgs false
set_option maxRecDepth 100000
namespace Go.Proofs.YtbjpjoodjbmicaaGreatDoor
open Go Go.AE Seg
noncomputable section
abbrev z_664_0 (i l q : Nat) (cs : List Nat) : List Value := [(nI i), (.string (dstr cs)), (nI ((dstr cs).size)), bT, (nI i), (nI (i + 1)), (nI l), (nI (10 * l)), (.string (dstr cs)), (nI i), (nB ((UInt8.ofNat (48 + q)).toNat)), (nB q), (nI q), (nI ((10 * l) + q))]
abbrev z_664_1 (i : Nat) (cs : List Nat) (ji : List Value) : List Value := [(nI i), (.string (dstr cs)), (nI ((dstr cs).size)), bF, (J ji 4), (J ji 5), (J ji 6), (J ji 7), (J ji 8), (J ji 9), (J ji 10), (J ji 11), (J ji 12), (J ji 13)]
abbrev z_664_2 (cs : List Nat) : Value := .int .i64 ((((dstr cs).size : Nat) : Int) - (4 : Int))
abbrev z_664_3 (ls : List Nat) : AObj := .cells (ns .i64 ls) 3 (some 1) false
abbrev z_664_4 (cs : List Nat) (b : Nat) : Value := .string (dstr (cs.take b))
end
noncomputable def lb_a_f (cs : List Nat) (b l i : Nat) (ji : List Value) (j2 : List Value) : Frame := ⟨87, List.toArray [(.string (dstr cs)), uu, (.slice none 0 0), (.slice none 0 0), (nI b), (nI l), (nI i), (.string (dstr cs)), (nI ((dstr cs).size)), bT, (.string (dstr cs)), (nI ((dstr cs).size)), (z_664_2 cs), (nI b), (nI b), (J ji 0), (J ji 1), (J ji 2), (J ji 3), (J ji 4), (J ji 5), (J ji 6), (J ji 7), (J ji 8), (J ji 9), (J ji 10), (J ji 11), (J ji 12), (J ji 13), uu, uu, uu, uu, uu, uu, uu, uu, uu], [.code (cd Tryz.f87 [1, 1, 0, 0, 0, 1, 0, 1, 1, 0, 1, 0, 0]), .inLoop (cd Tryz.f87 [1, 1, 0, 0, 0, 1, 0, 1, 1, 0, 1, 0, 0]), .inBlock 2, .code (cd Tryz.f87 [1, 1, 0, 0, 0, 1, 0, 1, 1, 1]), .inBlock 1, .inLoop (cd Tryz.f87 [1, 1, 0, 0, 0]), .inBlock 0, .code (cd Tryz.f87 [1, 1, 1])], [], .run, .normal, none⟩
noncomputable def lb_a_o (cs : List Nat) (b l i : Nat) (ji : List Value) : List (Nat × AObj) := []
noncomputable def lb_a (cs : List Nat) (b l i : Nat) (ji : List Value) (j2 : List Value) : AS := ⟨lb_a_f cs b l i ji j2, [], mkH 5 (lb_a_o cs b l i ji)⟩
theorem lb_in (cs : List Nat) (b : Nat) (h0 : 0 < (dstr cs).size) (hm : (dstr cs).size < 1099511627776) (hb : b = (dstr cs).size - 4)  : GT ⟨Frame.enter Tryz.prog 87 #[(.string (dstr cs))] .normal, [], mkH 5 []⟩ (lb_a cs b 0 b ([undef, undef, undef, undef, undef, undef, undef, undef, undef, undef, undef, undef, undef, undef]) []) :=
  sR (sc := [(16, .op (.rwB true)), (8, .op (.rwI ((((dstr cs).size : Nat) : Int) - (4 : Int)))), (0, .op (.rwI (b : Int))), (14, .stay)]) (fr1 := lb_a_f cs b 0 b ([uu, uu, uu, uu, uu, uu, uu, uu, uu, uu, uu, uu, uu, uu]) []) (next := 5) (l := lb_a_o cs b 0 b ([uu, uu, uu, uu, uu, uu, uu, uu, uu, uu, uu, uu, uu, uu])) (p := (decide ((((dstr cs).size : Nat) : Int) > (0 : Int)) = true) ∧ (IntKind.wrap .i64 ((((dstr cs).size : Nat) : Int) - (4 : Int)) = ((((dstr cs).size : Nat) : Int) - (4 : Int))) ∧ ((if ((((dstr cs).size : Nat) : Int) - (4 : Int)) > (0 : Int) then ((((dstr cs).size : Nat) : Int) - (4 : Int)) else (0 : Int)) = (b : Int)) ∧ True) (by kernel_rfl) ⟨(dT (by omega)), (wI64 (by omega)), (by split <;> omega), tt⟩
theorem lb_a1 (cs : List Nat) (b l i : Nat) (ji j2 : List Value) (q : Nat) (hq : q < 10) (hl : l < 1000) (hi : i < (dstr cs).size) (hm : (dstr cs).size < 1099511627776) (hx : (dstr cs)[i]? = some (UInt8.ofNat (48 + q)))  : GT (lb_a cs b l i ji j2) (lb_a cs b ((10 * l) + q) (i + 1) ((z_664_0 i l q cs)) []) :=
  sR (sc := [(6, .op (.rwB true)), (7, .op (.rwI (((10 * l) : Nat) : Int))), (2, .op (.sidx (UInt8.ofNat (48 + q)))), (0, .op (.rwI (q : Int))), (0, .op (.rwI (q : Int))), (0, .op (.rwI ((((10 * l) + q) : Nat) : Int))), (5, .op (.rwI (((i + 1) : Nat) : Int))), (3, .stay)]) (fr1 := lb_a_f cs b ((10 * l) + q) (i + 1) ((z_664_0 i l q cs)) []) (next := 5) (l := lb_a_o cs b ((10 * l) + q) (i + 1) ((z_664_0 i l q cs))) (p := (decide ((i : Int) < (((dstr cs).size : Nat) : Int)) = true) ∧ (IntKind.wrap .i64 ((10 : Int) * (l : Int)) = (((10 * l) : Nat) : Int)) ∧ (0 ≤ (i : Int) ∧ (dstr cs)[Int.toNat (i : Int)]? = some (UInt8.ofNat (48 + q))) ∧ (IntKind.wrap .u8 ((((UInt8.ofNat (48 + q)).toNat : Nat) : Int) - (48 : Int)) = (q : Int)) ∧ (IntKind.wrap .i64 (q : Int) = (q : Int)) ∧ (IntKind.wrap .i64 ((((10 * l) : Nat) : Int) + (q : Int)) = ((((10 * l) + q) : Nat) : Int)) ∧ (IntKind.wrap .i64 ((i : Int) + (1 : Int)) = (((i + 1) : Nat) : Int)) ∧ True) (by kernel_rfl) ⟨(dT (by omega)), (wI64 (by omega)), ⟨by omega, hx⟩, (byte_sub hq), (wI64 (by omega)), (wI64 (by omega)), (wI64 (by omega)), tt⟩
noncomputable def lb_h_f (st : ByteArray) (ls : List Nat) (k : Nat) (jc : List Value) (j : List Value) : Frame := ⟨87, List.toArray [(.string st), uu, (.slice none 0 0), (sl 6 k 0), (J j 0), (J j 1), (J j 2), (J j 3), (J j 4), (J j 5), (J j 6), (J j 7), (J j 8), (J j 9), (J j 10), (J jc 0), (J jc 1), (J jc 2), (J jc 3), (J jc 4), (J jc 5), (J jc 6), (J jc 7), (J jc 8), (J jc 9), (J jc 10), (J jc 11), (J jc 12), (J jc 13), (J j 11), (J j 12), (J j 13), (J j 14), (J j 15), (J j 16), (J j 17), uu, uu], [.code (cd Tryz.f87 [1, 1, 0, 0, 0]), .inLoop (cd Tryz.f87 [1, 1, 0, 0, 0]), .inBlock 0, .code (cd Tryz.f87 [1, 1, 1])], [], .run, .normal, none⟩
noncomputable def lb_h_o (st : ByteArray) (ls : List Nat) (k : Nat) (jc : List Value) : List (Nat × AObj) := [(6, (z_664_3 ls))]
noncomputable def lb_h (st : ByteArray) (ls : List Nat) (k : Nat) (jc : List Value) (j : List Value) : AS := ⟨lb_h_f st ls k jc j, [], mkH 9 (lb_h_o st ls k jc)⟩
theorem lb_2 {s0 : AS} (hs0 : s0.h.next = 5) (cs : List Nat) (b l i : Nat) (ji j2 : List Value) (hji : FixJ (turnT 5 0) ji) (hb : b ≤ (dstr cs).size) (hi : (dstr cs).size ≤ i) (hm : (dstr cs).size < 1099511627776)  (hr : GT s0 (lb_a cs b l i ji j2)) : GT s0 (lb_h (dstr (cs.take b)) ([l]) 1 ((z_664_1 i cs ji)) [(nI b), (nI l), (nI i), (.string (dstr cs)), (nI ((dstr cs).size)), bT, (.string (dstr cs)), (nI ((dstr cs).size)), (z_664_2 cs), (nI b), (nI b), (.slice none 0 0), (nI l), (sl 5 1 1), (sl 6 1 0), (.string (dstr cs)), (nI b), (z_664_4 cs b)]) := by
  have h1 := hr.trans (sR (sc := [(6, .op (.rwB false)), (3, .drwM [(6, .sslc (dstr (cs.take b)))] []), (2, .stay)]) (fr1 := ⟨87, List.toArray [(z_664_4 cs b), uu, (.slice none 0 0), (sl 6 1 0), (nI b), (nI l), (nI i), (.string (dstr cs)), (nI ((dstr cs).size)), bT, (.string (dstr cs)), (nI ((dstr cs).size)), (z_664_2 cs), (nI b), (nI b), (nI i), (.string (dstr cs)), (nI ((dstr cs).size)), bF, (J ji 4), (J ji 5), (J ji 6), (J ji 7), (J ji 8), (J ji 9), (J ji 10), (J ji 11), (J ji 12), (J ji 13), (.slice none 0 0), (nI l), (sl 5 1 1), (sl 6 1 0), (.string (dstr cs)), (nI b), (z_664_4 cs b), uu, uu], [.code (cd Tryz.f87 [1, 1, 0, 0, 0]), .inLoop (cd Tryz.f87 [1, 1, 0, 0, 0]), .inBlock 0, .code (cd Tryz.f87 [1, 1, 1])], [], .run, .normal, none⟩) (next := 7) (l := [(6, (.cells [(nI l)] 3 (some 1) false))]) (p := (decide ((i : Int) < (((dstr cs).size : Nat) : Int)) = false) ∧ (True ∧ True ∧ True ∧ True ∧ (0 ≤ (0 : Int) ∧ (0 : Int) ≤ (b : Int) ∧ (b : Int) ≤ (((dstr cs).size : Nat) : Int) ∧ (dstr cs).extract (Int.toNat (0 : Int)) (Int.toNat (b : Int)) = (dstr (cs.take b))) ∧ True ∧ True ∧ True ∧ True ∧ True) ∧ True) (by kernel_rfl) ⟨(dF (by omega)), ⟨tt, tt, tt, tt, ⟨by omega, by omega, by omega, by rw [dstr_extract]; rfl⟩, tt, tt, tt, tt, tt⟩, tt⟩)
  rw [← J_mv (turnT 5 0) hji 10] at h1
  rw [← J_mv (turnT 5 0) hji 11] at h1
  rw [← J_mv (turnT 5 0) hji 12] at h1
  rw [← J_mv (turnT 5 0) hji 13] at h1
  rw [← J_mv (turnT 5 0) hji 4] at h1
  rw [← J_mv (turnT 5 0) hji 5] at h1
  rw [← J_mv (turnT 5 0) hji 6] at h1
  rw [← J_mv (turnT 5 0) hji 7] at h1
  rw [← J_mv (turnT 5 0) hji 8] at h1
  rw [← J_mv (turnT 5 0) hji 9] at h1
  exact gets_turn (fr := lb_h_f (dstr (cs.take b)) ([l]) 1 ((z_664_1 i cs ji)) [(nI b), (nI l), (nI i), (.string (dstr cs)), (nI ((dstr cs).size)), bT, (.string (dstr cs)), (nI ((dstr cs).size)), (z_664_2 cs), (nI b), (nI b), (.slice none 0 0), (nI l), (sl 5 1 1), (sl 6 1 0), (.string (dstr cs)), (nI b), (z_664_4 cs b)]) (fr1 := ⟨87, List.toArray [(z_664_4 cs b), undef, (.slice none 0 0), (sl 6 1 0), (nI b), (nI l), (nI i), (.string (dstr cs)), (nI ((dstr cs).size)), bT, (.string (dstr cs)), (nI ((dstr cs).size)), (z_664_2 cs), (nI b), (nI b), (nI i), (.string (dstr cs)), (nI ((dstr cs).size)), bF, (mv (turnT 5 0) (J ji 4)), (mv (turnT 5 0) (J ji 5)), (mv (turnT 5 0) (J ji 6)), (mv (turnT 5 0) (J ji 7)), (mv (turnT 5 0) (J ji 8)), (mv (turnT 5 0) (J ji 9)), (mv (turnT 5 0) (J ji 10)), (mv (turnT 5 0) (J ji 11)), (mv (turnT 5 0) (J ji 12)), (mv (turnT 5 0) (J ji 13)), (.slice none 0 0), (nI l), (sl 5 1 1), (sl 6 1 0), (.string (dstr cs)), (nI b), (z_664_4 cs b), undef, undef], [.code (cd Tryz.f87 [1, 1, 0, 0, 0]), .inLoop (cd Tryz.f87 [1, 1, 0, 0, 0]), .inBlock 0, .code (cd Tryz.f87 [1, 1, 1])], [], .run, .normal, none⟩) (nx1 := 7) (b := 5) (k := 0) (l1 := [(6, (.cells [(nI l)] 3 (some 1) false))]) (l2 := lb_h_o (dstr (cs.take b)) ([l]) 1 ((z_664_1 i cs ji))) h1 (by kernel_rfl) rfl rfl rfl (by kernel_rfl) (by rw [hs0]; decide) (by rw [hs0]; decide) (by decide) (by decide) (by rfl) (by simp only [lb_h_o, List.map_cons, List.map_nil, mvO, closedL_mv _ _ (ns_closed _ _)]) (by kernel_rfl)
noncomputable def lb_g_f (cs ls : List Nat) (k b l i : Nat) (j jc : List Value) (ji : List Value) (j2 : List Value) : Frame := ⟨87, List.toArray [(.string (dstr cs)), uu, (.slice none 0 0), (sl 6 k 0), (nI b), (nI l), (nI i), (.string (dstr cs)), (nI ((dstr cs).size)), bT, (.string (dstr cs)), (nI ((dstr cs).size)), (z_664_2 cs), (nI b), (nI b), (J ji 0), (J ji 1), (J ji 2), (J ji 3), (J ji 4), (J ji 5), (J ji 6), (J ji 7), (J ji 8), (J ji 9), (J ji 10), (J ji 11), (J ji 12), (J ji 13), (J j 11), (J j 12), (J j 13), (J j 14), (J j 15), (J j 16), (J j 17), uu, uu], [.code (cd Tryz.f87 [1, 1, 0, 0, 0, 1, 0, 1, 1, 0, 1, 0, 0]), .inLoop (cd Tryz.f87 [1, 1, 0, 0, 0, 1, 0, 1, 1, 0, 1, 0, 0]), .inBlock 2, .code (cd Tryz.f87 [1, 1, 0, 0, 0, 1, 0, 1, 1, 1]), .inBlock 1, .inLoop (cd Tryz.f87 [1, 1, 0, 0, 0]), .inBlock 0, .code (cd Tryz.f87 [1, 1, 1])], [], .run, .normal, none⟩
noncomputable def lb_g_o (cs ls : List Nat) (k b l i : Nat) (j jc : List Value) (ji : List Value) : List (Nat × AObj) := [(6, (z_664_3 ls))]
noncomputable def lb_g (cs ls : List Nat) (k b l i : Nat) (j jc : List Value) (ji : List Value) (j2 : List Value) : AS := ⟨lb_g_f cs ls k b l i j jc ji j2, [], mkH 9 (lb_g_o cs ls k b l i j jc ji)⟩
theorem lb_3 (cs ls : List Nat) (k b : Nat) (j jc : List Value) (h0 : 0 < (dstr cs).size) (hm : (dstr cs).size < 1099511627776) (hb : b = (dstr cs).size - 4)  : GT (lb_h (dstr cs) ls k jc j) (lb_g cs ls k b 0 b j jc ([(J jc 0), (J jc 1), (J jc 2), (J jc 3), (J jc 4), (J jc 5), (J jc 6), (J jc 7), (J jc 8), (J jc 9), (J jc 10), (J jc 11), (J jc 12), (J jc 13)]) []) :=
  sR (sc := [(5, .op (.rwB true)), (8, .op (.rwI ((((dstr cs).size : Nat) : Int) - (4 : Int)))), (0, .op (.rwI (b : Int))), (14, .stay)]) (fr1 := lb_g_f cs ls k b 0 b j jc ([(J jc 0), (J jc 1), (J jc 2), (J jc 3), (J jc 4), (J jc 5), (J jc 6), (J jc 7), (J jc 8), (J jc 9), (J jc 10), (J jc 11), (J jc 12), (J jc 13)]) []) (next := 9) (l := lb_g_o cs ls k b 0 b j jc ([(J jc 0), (J jc 1), (J jc 2), (J jc 3), (J jc 4), (J jc 5), (J jc 6), (J jc 7), (J jc 8), (J jc 9), (J jc 10), (J jc 11), (J jc 12), (J jc 13)])) (p := (decide ((((dstr cs).size : Nat) : Int) > (0 : Int)) = true) ∧ (IntKind.wrap .i64 ((((dstr cs).size : Nat) : Int) - (4 : Int)) = ((((dstr cs).size : Nat) : Int) - (4 : Int))) ∧ ((if ((((dstr cs).size : Nat) : Int) - (4 : Int)) > (0 : Int) then ((((dstr cs).size : Nat) : Int) - (4 : Int)) else (0 : Int)) = (b : Int)) ∧ True) (by kernel_rfl) ⟨(dT (by omega)), (wI64 (by omega)), (by split <;> omega), tt⟩
theorem lb_g1 (cs ls : List Nat) (k b l i : Nat) (j jc ji j2 : List Value) (q : Nat) (hq : q < 10) (hl : l < 1000) (hi : i < (dstr cs).size) (hm : (dstr cs).size < 1099511627776) (hx : (dstr cs)[i]? = some (UInt8.ofNat (48 + q)))  : GT (lb_g cs ls k b l i j jc ji j2) (lb_g cs ls k b ((10 * l) + q) (i + 1) j jc ((z_664_0 i l q cs)) []) :=
  sR (sc := [(6, .op (.rwB true)), (7, .op (.rwI (((10 * l) : Nat) : Int))), (2, .op (.sidx (UInt8.ofNat (48 + q)))), (0, .op (.rwI (q : Int))), (0, .op (.rwI (q : Int))), (0, .op (.rwI ((((10 * l) + q) : Nat) : Int))), (5, .op (.rwI (((i + 1) : Nat) : Int))), (3, .stay)]) (fr1 := lb_g_f cs ls k b ((10 * l) + q) (i + 1) j jc ((z_664_0 i l q cs)) []) (next := 9) (l := lb_g_o cs ls k b ((10 * l) + q) (i + 1) j jc ((z_664_0 i l q cs))) (p := (decide ((i : Int) < (((dstr cs).size : Nat) : Int)) = true) ∧ (IntKind.wrap .i64 ((10 : Int) * (l : Int)) = (((10 * l) : Nat) : Int)) ∧ (0 ≤ (i : Int) ∧ (dstr cs)[Int.toNat (i : Int)]? = some (UInt8.ofNat (48 + q))) ∧ (IntKind.wrap .u8 ((((UInt8.ofNat (48 + q)).toNat : Nat) : Int) - (48 : Int)) = (q : Int)) ∧ (IntKind.wrap .i64 (q : Int) = (q : Int)) ∧ (IntKind.wrap .i64 ((((10 * l) : Nat) : Int) + (q : Int)) = ((((10 * l) + q) : Nat) : Int)) ∧ (IntKind.wrap .i64 ((i : Int) + (1 : Int)) = (((i + 1) : Nat) : Int)) ∧ True) (by kernel_rfl) ⟨(dT (by omega)), (wI64 (by omega)), ⟨by omega, hx⟩, (byte_sub hq), (wI64 (by omega)), (wI64 (by omega)), (wI64 (by omega)), tt⟩
theorem lb_4 {s0 : AS} (hs0 : s0.h.next = 5) (cs ls : List Nat) (k b l i : Nat) (j jc ji j2 : List Value) (hjc : FixJ (turnT 5 2) jc) (hji : FixJ (turnT 5 2) ji) (hb : b ≤ (dstr cs).size) (hi : (dstr cs).size ≤ i) (hm : (dstr cs).size < 1099511627776) (hk : ls.length = k) (hk2 : k < 1099511627776)  (hr : GT s0 (lb_g cs ls k b l i j jc ji j2)) : GT s0 (lb_h (dstr (cs.take b)) (ls ++ [l]) (k + 1) ((z_664_1 i cs ji)) [(nI b), (nI l), (nI i), (.string (dstr cs)), (nI ((dstr cs).size)), bT, (.string (dstr cs)), (nI ((dstr cs).size)), (z_664_2 cs), (nI b), (nI b), (sl 8 k 0), (nI l), (sl 5 1 1), (sl 6 (k + 1) 0), (.string (dstr cs)), (nI b), (z_664_4 cs b)]) := by
  have h1 := hr.trans (sR (sc := [(6, .op (.rwB false)), (3, .drwM [(6, .sslc (dstr (cs.take b))), (3, .appG (k + 1) (ns .i64 (ls ++ [l])))] []), (2, .stay)]) (fr1 := ⟨87, List.toArray [(z_664_4 cs b), uu, (.slice none 0 0), (sl 10 (k + 1) 0), (nI b), (nI l), (nI i), (.string (dstr cs)), (nI ((dstr cs).size)), bT, (.string (dstr cs)), (nI ((dstr cs).size)), (z_664_2 cs), (nI b), (nI b), (nI i), (.string (dstr cs)), (nI ((dstr cs).size)), bF, (J ji 4), (J ji 5), (J ji 6), (J ji 7), (J ji 8), (J ji 9), (J ji 10), (J ji 11), (J ji 12), (J ji 13), (sl 6 k 0), (nI l), (sl 9 1 1), (sl 10 (k + 1) 0), (.string (dstr cs)), (nI b), (z_664_4 cs b), uu, uu], [.code (cd Tryz.f87 [1, 1, 0, 0, 0]), .inLoop (cd Tryz.f87 [1, 1, 0, 0, 0]), .inBlock 0, .code (cd Tryz.f87 [1, 1, 1])], [], .run, .normal, none⟩) (next := 11) (l := [(10, (.cells (ns .i64 (ls ++ [l])) 3 (some 1) false))]) (p := (decide ((i : Int) < (((dstr cs).size : Nat) : Int)) = false) ∧ (True ∧ True ∧ True ∧ True ∧ (0 ≤ (0 : Int) ∧ (0 : Int) ≤ (b : Int) ∧ (b : Int) ≤ (((dstr cs).size : Nat) : Int) ∧ (dstr cs).extract (Int.toNat (0 : Int)) (Int.toNat (b : Int)) = (dstr (cs.take b))) ∧ True ∧ (k + 1 = (k + 1) ∧ (k + 1) * 8 ≤ 140737488355328 ∧ (k + 1) ≤ 9223372036854775807 ∧ ((ns .i64 ls) : List Value).length = k * 1 ∧ ((ns .i64 ls) : List Value) ++ [(nI l)] = (ns .i64 (ls ++ [l]))) ∧ True ∧ True ∧ True) ∧ True) (by kernel_rfl) ⟨(dF (by omega)), ⟨tt, tt, tt, tt, ⟨by omega, by omega, by omega, by rw [dstr_extract]; rfl⟩, tt, ⟨by omega, by omega, by omega, by rw [ns_length, Nat.mul_one]; omega, ns_snoc _ _ _⟩, tt, tt, tt⟩, tt⟩)
  rw [← J_mv (turnT 5 2) hji 10] at h1
  rw [← J_mv (turnT 5 2) hji 11] at h1
  rw [← J_mv (turnT 5 2) hji 12] at h1
  rw [← J_mv (turnT 5 2) hji 13] at h1
  rw [← J_mv (turnT 5 2) hji 4] at h1
  rw [← J_mv (turnT 5 2) hji 5] at h1
  rw [← J_mv (turnT 5 2) hji 6] at h1
  rw [← J_mv (turnT 5 2) hji 7] at h1
  rw [← J_mv (turnT 5 2) hji 8] at h1
  rw [← J_mv (turnT 5 2) hji 9] at h1
  exact gets_turn (fr := lb_h_f (dstr (cs.take b)) (ls ++ [l]) (k + 1) ((z_664_1 i cs ji)) [(nI b), (nI l), (nI i), (.string (dstr cs)), (nI ((dstr cs).size)), bT, (.string (dstr cs)), (nI ((dstr cs).size)), (z_664_2 cs), (nI b), (nI b), (sl 8 k 0), (nI l), (sl 5 1 1), (sl 6 (k + 1) 0), (.string (dstr cs)), (nI b), (z_664_4 cs b)]) (fr1 := ⟨87, List.toArray [(z_664_4 cs b), undef, (.slice none 0 0), (sl 10 (k + 1) 0), (nI b), (nI l), (nI i), (.string (dstr cs)), (nI ((dstr cs).size)), bT, (.string (dstr cs)), (nI ((dstr cs).size)), (z_664_2 cs), (nI b), (nI b), (nI i), (.string (dstr cs)), (nI ((dstr cs).size)), bF, (mv (turnT 5 2) (J ji 4)), (mv (turnT 5 2) (J ji 5)), (mv (turnT 5 2) (J ji 6)), (mv (turnT 5 2) (J ji 7)), (mv (turnT 5 2) (J ji 8)), (mv (turnT 5 2) (J ji 9)), (mv (turnT 5 2) (J ji 10)), (mv (turnT 5 2) (J ji 11)), (mv (turnT 5 2) (J ji 12)), (mv (turnT 5 2) (J ji 13)), (sl 6 k 0), (nI l), (sl 9 1 1), (sl 10 (k + 1) 0), (.string (dstr cs)), (nI b), (z_664_4 cs b), undef, undef], [.code (cd Tryz.f87 [1, 1, 0, 0, 0]), .inLoop (cd Tryz.f87 [1, 1, 0, 0, 0]), .inBlock 0, .code (cd Tryz.f87 [1, 1, 1])], [], .run, .normal, none⟩) (nx1 := 11) (b := 5) (k := 2) (l1 := [(10, (.cells (ns .i64 (ls ++ [l])) 3 (some 1) false))]) (l2 := lb_h_o (dstr (cs.take b)) (ls ++ [l]) (k + 1) ((z_664_1 i cs ji))) h1 (by kernel_rfl) rfl rfl rfl (by kernel_rfl) (by rw [hs0]; decide) (by rw [hs0]; decide) (by decide) (by decide) (by rfl) (by simp only [lb_h_o, List.map_cons, List.map_nil, mvO, closedL_mv _ _ (ns_closed _ _)]) (by kernel_rfl)
theorem lb_o (ds ls : List Nat) (k : Nat) (st : ByteArray) (j jc : List Value) (h0 : st.size = 0) (hk : k ≤ ls.length) (hk2 : k < 1099511627776)  (hr : GT ⟨Frame.enter Tryz.prog 87 #[(.string (dstr ds))] .normal, [], mkH 5 []⟩ (lb_h st ls k jc j)) : CT 87 #[(.string (dstr ds))] (mkH 5 []) (sl 6 (F.top ls k) 0) (mkH 9 [(6, (z_664_3 ls))]) :=
  sF (sc := [(5, .op (.rwB false)), (6, .call [6] (sl 6 (F.top ls k) 0) [(6,some (z_664_3 ls))] []), (3, .stay)]) (next := 9) (l := [(6, (z_664_3 ls))]) (p := (decide (((st.size : Nat) : Int) > (0 : Int)) = false) ∧ (FT 133 #[(sl 6 k 0)] 9 [(6,(z_664_3 ls))] (sl 6 (F.top ls k) 0) [(6,some (z_664_3 ls))] []) ∧ True) (by kernel_rfl) ⟨(dF (by omega)), (rt_c 9 6 ls k (by omega) (by omega) (by omega)), tt⟩ hr
theorem lb_inA {cs : List Nat} {b : Nat} {s0 : AS} (hd : Dig cs) (hm : cs.length < 1099511627776) (hb4 : cs.length ≤ b + 4) : ∀ (n i : Nat) (ji j2 : List Value), n = cs.length - i → b ≤ i → i ≤ cs.length → (∀ q, FixJ (turnT 5 q) ji) →
    GT s0 (lb_a cs b (dval ((cs.take i).drop b)) i ji j2) → ∃ ji' j2', (∀ q, FixJ (turnT 5 q) ji') ∧ GT s0 (lb_a cs b (dval (cs.drop b)) cs.length ji' j2') := by
  intro n
  induction n with
  | zero =>
    intro i ji j2 hn hb hi hji hr
    have : i = cs.length := by omega
    subst this
    rw [List.take_length] at hr
    exact ⟨ji, j2, hji, hr⟩
  | succ n ih =>
    intro i ji j2 hn hb hi hji hr
    have hl : dval ((cs.take i).drop b) < 1000 := dval_four (k := 3) ((hd.take i).drop b) (by rw [List.length_drop, List.length_take]; omega)
    have r := lb_a1 cs b _ i ji j2 (cs.getD i 0) (hd.get i) hl (by rw [dstr_size]; omega) (by rw [dstr_size]; exact hm) (dstr_get (by omega))
    rw [dval_step hb (by omega)] at r
    exact ih (i + 1) _ _ (by omega) (by omega) (by omega) (fun _ => by rfl) (hr.trans r)
theorem lb_inB {cs ls : List Nat} {k b : Nat} {j jc : List Value} {s0 : AS} (hd : Dig cs) (hm : cs.length < 1099511627776) (hb4 : cs.length ≤ b + 4) : ∀ (n i : Nat) (ji j2 : List Value), n = cs.length - i → b ≤ i → i ≤ cs.length → FixJ (turnT 5 2) ji →
    GT s0 (lb_g cs ls k b (dval ((cs.take i).drop b)) i j jc ji j2) → ∃ ji' j2', FixJ (turnT 5 2) ji' ∧ GT s0 (lb_g cs ls k b (dval (cs.drop b)) cs.length j jc ji' j2') := by
  intro n
  induction n with
  | zero =>
    intro i ji j2 hn hb hi hji hr
    have : i = cs.length := by omega
    subst this
    rw [List.take_length] at hr
    exact ⟨ji, j2, hji, hr⟩
  | succ n ih =>
    intro i ji j2 hn hb hi hji hr
    have hl : dval ((cs.take i).drop b) < 1000 := dval_four (k := 3) ((hd.take i).drop b) (by rw [List.length_drop, List.length_take]; omega)
    have r := lb_g1 cs ls k b _ i j jc ji j2 (cs.getD i 0) (hd.get i) hl (by rw [dstr_size]; omega) (by rw [dstr_size]; exact hm) (dstr_get (by omega))
    rw [dval_step hb (by omega)] at r
    exact ih (i + 1) _ _ (by omega) (by omega) (by omega) (by rfl) (hr.trans r)
theorem lb_all {ds : List Nat} (hd : Dig ds) (hm : ds.length < 1099511627776) : ∀ (n e : Nat) (ls : List Nat) (jc j : List Value), e ≤ n → e ≤ ds.length → F.Lim ls → F.val ls = dval (ds.drop e) → (e = 0 ∨ ds.length - e = 4 * ls.length) → 4 * ls.length ≤ ds.length + 3 → FixJ (turnT 5 2) jc →
    GT ⟨Frame.enter Tryz.prog 87 #[(.string (dstr ds))] .normal, [], mkH 5 []⟩ (lb_h (dstr (ds.take e)) ls ls.length jc j) →
    ∃ ls' jc' j', F.Lim ls' ∧ F.val ls' = dval ds ∧ 4 * ls'.length ≤ ds.length + 3 ∧ GT ⟨Frame.enter Tryz.prog 87 #[(.string (dstr ds))] .normal, [], mkH 5 []⟩ (lb_h (dstr []) ls' ls'.length jc' j') := by
  intro n
  induction n with
  | zero =>
    intro e ls jc j he hel hlim hv hr4 h4 hjc hr
    have : e = 0 := by omega
    subst this
    rw [List.take_zero] at hr
    exact ⟨ls, jc, j, hlim, hv, h4, hr⟩
  | succ n ih =>
    intro e ls jc j he hel hlim hv hr4 h4 hjc hr
    rcases Nat.eq_zero_or_pos e with h0 | h0
    · subst h0
      rw [List.take_zero] at hr
      exact ⟨ls, jc, j, hlim, hv, h4, hr⟩
    · have hlen : (ds.take e).length = e := by rw [List.length_take]; omega
      have hr4' : ds.length - e = 4 * ls.length := by omega
      have hsz : (dstr (ds.take e)).size = e := by rw [dstr_size, hlen]
      obtain ⟨b, hb⟩ : ∃ b, b = e - 4 := ⟨_, rfl⟩
      have a1 := lb_3 (ds.take e) ls ls.length b j jc (by omega) (by omega) (by rw [hsz]; exact hb)
      have a1' : GT ⟨Frame.enter Tryz.prog 87 #[(.string (dstr ds))] .normal, [], mkH 5 []⟩ (lb_g (ds.take e) ls ls.length b (dval (((ds.take e).take b).drop b)) b j jc [(J jc 0), (J jc 1), (J jc 2), (J jc 3), (J jc 4), (J jc 5), (J jc 6), (J jc 7), (J jc 8), (J jc 9), (J jc 10), (J jc 11), (J jc 12), (J jc 13)] []) := by
        rw [List.drop_eq_nil_of_le (by rw [List.length_take]; omega)]
        exact hr.trans a1
      obtain ⟨ji', j2', hji, a2⟩ := lb_inB (hd.take e) (by omega) (by omega) _ b _ _ rfl (Nat.le_refl _) (by omega) (by unfold FixJ; simp [mvL, J_mv _ hjc, mv]) a1'
      have a3 := lb_4 (s0 := ⟨Frame.enter Tryz.prog 87 #[(.string (dstr ds))] .normal, [], mkH 5 []⟩) rfl (ds.take e) ls ls.length b (dval ((ds.take e).drop b)) (ds.take e).length j jc ji' j2' hjc hji (by omega) (by rw [hsz, hlen]; exact Nat.le_refl _) (by omega) rfl (by omega) a2
      have hl : dval ((ds.take e).drop b) < 10000 := dval_four (k := 4) ((hd.take e).drop b) (by rw [List.length_drop, hlen]; omega)
      rw [List.take_take, Nat.min_eq_left (by omega), show ls.length + 1 = (ls ++ [dval ((ds.take e).drop b)]).length by rw [List.length_append]; rfl] at a3
      refine ih b _ _ _ (by omega) (by omega) (hlim.append fun x hx => by rw [List.mem_singleton] at hx; rw [hx]; exact hl) (group_step hv rfl hr4' (by omega) hel rfl) ?_ ?_ (by unfold FixJ; simp [mvL, J_mv _ hji, mv]) a3
      · rw [List.length_append, List.length_singleton]; omega
      · rw [List.length_append, List.length_singleton]; omega
theorem lb_c (ds : List Nat) (hd : Dig ds) (h0 : 0 < ds.length) (hm : ds.length < 1099511627776) :
    ∃ ls t, F.Lim ls ∧ t ≤ ls.length ∧ 4 * ls.length ≤ ds.length + 3 ∧ F.val (ls.take t) = dval ds ∧ (0 < t → ls.getD (t - 1) 0 ≠ 0) ∧ ∀ n0, 5 ≤ n0 →
      FT 87 #[.string (dstr ds)] n0 [] (sl n0 t 0) [] [.cells (ns .i64 ls) 3 (some 1) false] := by
  obtain ⟨b, hb⟩ : ∃ b, b = ds.length - 4 := ⟨_, rfl⟩
  have hsz := dstr_size ds
  have a1 := lb_in ds b (by omega) (by omega) (by omega)
  have a1' : GT ⟨Frame.enter Tryz.prog 87 #[(.string (dstr ds))] .normal, [], mkH 5 []⟩ (lb_a ds b (dval ((ds.take b).drop b)) b [undef, undef, undef, undef, undef, undef, undef, undef, undef, undef, undef, undef, undef, undef] []) := by
    rw [List.drop_eq_nil_of_le (by rw [List.length_take]; omega)]
    exact a1
  obtain ⟨ji', j2', hji, a2⟩ := lb_inA hd hm (by omega) _ b _ _ rfl (Nat.le_refl _) (by omega) (fun _ => by rfl) a1'
  have a3 := lb_2 (s0 := ⟨Frame.enter Tryz.prog 87 #[(.string (dstr ds))] .normal, [], mkH 5 []⟩) rfl ds b (dval (ds.drop b)) ds.length ji' j2' (hji 0) (by omega) (by omega) (by omega) a2
  have hl : dval (ds.drop b) < 10000 := dval_four (k := 4) (hd.drop b) (by rw [List.length_drop]; omega)
  obtain ⟨ls, jc', j', h1, h2, h3, a4⟩ := lb_all hd hm _ b [dval (ds.drop b)] _ _ (Nat.le_refl _) (by omega) (fun x hx => by rw [List.mem_singleton] at hx; rw [hx]; exact hl) (by simp [F.val]) (by simp; omega) (by simp; omega) (by unfold FixJ; simp [mvL, J_mv _ (hji 2), mv]) a3
  have S := lb_o ds ls ls.length (dstr []) j' jc' rfl (Nat.le_refl _) (by omega) a4
  have ht := F.top_le ls ls.length
  refine ⟨ls, F.top ls ls.length, h1, ht, h3, ?_, F.top_pos ls _, fun n0 hG => ?_⟩
  · rw [F.top_val, List.take_length]; exact h2
  · exact fsp_flat [] [] [] [6] [.cells (ns .i64 ls) 3 (some 1) false] n0 S rfl rfl rfl (by simp) (by simp) hG rfl rfl (by simp [flat, ns_closed, AObj.ro]) (by simp) (by simp) rfl rfl rfl
end Go.Proofs.YtbjpjoodjbmicaaGreatDoor
