import Derived.Test.YtjbflfbhfnkmlaaGreatDoorLD
import Derived.Test.YtjbflfbhfnkmlaaGreatDoorK0
import Derived.ChangeSame
import Derived.ChangeVars
import Derived.JoinedOf
import Derived.RowKit
import Derived.RowKitTokens
import Derived.LaidLaws
import Derived.LaidHandle
import Derived.SevenTiedAt
set_option linter.unusedVariables false
set_option linter.unusedSimpArgs false
set_option maxRecDepth 100000
namespace Go.Proofs.YtjbflfbhfnkmlaaGreatDoor.Cn
open Go Go.AE Seg Go.ChangeShapes Go.WideShapes Go.RowKit
theorem ownKnob_none : ownKnob Tryz.prog.godebug = none := by kernel_rfl
theorem gn0 : Tryz.prog.globalNamed "errors.errorType" = some 0 := by kernel_rfl
theorem gn1 : Tryz.prog.globalNamed "internal/strconv.uint64pow10" = some 1 := by kernel_rfl
theorem gn2 : Tryz.prog.globalNamed "math/bits.deBruijn32tab" = some 2 := by kernel_rfl
theorem gn3 : Tryz.prog.globalNamed "math/bits.deBruijn64tab" = some 3 := by kernel_rfl
theorem ty1 : (Tryz.prog.globals[1]?).map (·.type) = some 248 := by kernel_rfl
theorem ty2 : (Tryz.prog.globals[2]?).map (·.type) = some 274 := by kernel_rfl
theorem ty3 : (Tryz.prog.globals[3]?).map (·.type) = some 275 := by kernel_rfl
theorem ua1 : Tryz.prog.underlying 248 = some (.array 20 60) := by kernel_rfl
theorem ua2 : Tryz.prog.underlying 274 = some (.array 32 5) := by kernel_rfl
theorem ua3 : Tryz.prog.underlying 275 = some (.array 64 5) := by kernel_rfl
theorem ue64 : Tryz.prog.underlying 60 = some (.int .u64) := by kernel_rfl
theorem ue8 : Tryz.prog.underlying 5 = some (.int .u8) := by kernel_rfl
theorem rtT : (Tryz.prog.cutTypes.find? (·.1 == "internal/reflectlite.rtype")).map (·.2) = some 223 := by kernel_rfl
theorem oneRow : ((List.range 309).filter fun t => Tryz.prog.rowNamed t [101, 114, 114, 111, 114]) = [156] := by kernel_rfl
theorem tsize : Tryz.prog.types.size = 309 := by kernel_rfl
theorem gsize : Tryz.prog.globals.size = 4 := by kernel_rfl
theorem row_of {W : World} (h : W.ShapedOpen Tryz.prog) (g : Nat) (hlt : g < 4) (hg : (((begin Tryz.prog (fun _ _ => 0) default).world.heap[g]?).bind Obj.row?).isSome = true) : ∃ cs t, W.heap[g]? = some (.cells cs t (0, 0)) := by
  obtain ⟨⟨z, t⟩, hz⟩ := Option.isSome_iff_exists.1 hg
  obtain ⟨cs, h1, _⟩ := h.1 g z t (by rw [gsize]; exact hlt) hz
  exact ⟨cs, t, h1⟩
theorem laid_parts {W : World} (h : laidMetH Tryz.prog Rows.wholeRingRow.laid W) :
    laidMet Tryz.prog [("math/bits.deBruijn32tab", Rows.laid_math_bits_deBruijn32tab), ("math/bits.deBruijn64tab", Rows.laid_math_bits_deBruijn64tab), ("internal/strconv.uint64pow10", Rows.laid_internal_strconv_uint64pow10)] W ∧
    handlesMet Tryz.prog [("errors.errorType", Rows.laid_errors_errorType)] W := h
theorem handle_of_laid {W : World} (h : handlesMet Tryz.prog [("errors.errorType", Rows.laid_errors_errorType)] W) : W.var? Tryz.prog "errors.errorType" = some #[errVal] := by
  obtain ⟨name, u, ty, e1, e2, e3, e4, e5⟩ := h _ (List.mem_singleton.2 rfl)
  have en : name = [101, 114, 114, 111, 114] := (Option.some.inj e1).symm
  subst en
  obtain rfl := Option.some.inj (rtT.symm.trans e2)
  have hm : ty ∈ (List.range 309).filter fun t => Tryz.prog.rowNamed t [101, 114, 114, 111, 114] := List.mem_filter.2 ⟨List.mem_range.2 (by rw [← tsize]; exact e3), e4⟩
  rw [oneRow] at hm
  obtain rfl := List.mem_singleton.1 hm
  have hh : typeHandle Tryz.prog 156 = .pointer (some ⟨4, 156, none⟩) := by kernel_rfl
  rw [hh] at e5
  exact e5
theorem litV_eq : ∀ ds : List (DataW Unit), ds.map litV = dvals (.agg ds) := by
  intro ds
  simp only [dvals]
  refine List.map_congr_left fun d _ => ?_
  cases d <;> rfl
theorem dat1 : ∃ ds, Rows.laid_internal_strconv_uint64pow10 = DataW.agg (H := Unit) ds := ⟨_, rfl⟩
theorem dat2 : ∃ ds, Rows.laid_math_bits_deBruijn32tab = DataW.agg (H := Unit) ds := ⟨_, rfl⟩
theorem dat3 : ∃ ds, Rows.laid_math_bits_deBruijn64tab = DataW.agg (H := Unit) ds := ⟨_, rfl⟩
theorem tables_of_laid {W : World} (h : laidMet Tryz.prog [("math/bits.deBruijn32tab", Rows.laid_math_bits_deBruijn32tab), ("math/bits.deBruijn64tab", Rows.laid_math_bits_deBruijn64tab), ("internal/strconv.uint64pow10", Rows.laid_internal_strconv_uint64pow10)] W) :
    (∃ c, W.var? Tryz.prog "math/bits.deBruijn32tab" = some c ∧ c.toList = dvals Rows.laid_math_bits_deBruijn32tab) ∧ (∃ c, W.var? Tryz.prog "math/bits.deBruijn64tab" = some c ∧ c.toList = dvals Rows.laid_math_bits_deBruijn64tab) ∧
    ∃ c, W.var? Tryz.prog "internal/strconv.uint64pow10" = some c ∧ c.toList = dvals Rows.laid_internal_strconv_uint64pow10 := by
  obtain ⟨ps, ⟨g2, t2, c2, f2, p2, q2, a1, a2, a3, a4, ⟨g3, t3, c3, f3, p3, q3, b1, b2, b3, b4, ⟨g1, t1, c1, f1, p1, q1, d1, d2, d3, d4, _⟩, _⟩, _⟩, _, _⟩ := h
  obtain rfl := Option.some.inj (gn2.symm.trans a1)
  obtain rfl := Option.some.inj (gn3.symm.trans b1)
  obtain rfl := Option.some.inj (gn1.symm.trans d1)
  obtain rfl := Option.some.inj (ty2.symm.trans a2)
  obtain rfl := Option.some.inj (ty3.symm.trans b2)
  obtain rfl := Option.some.inj (ty1.symm.trans d2)
  obtain ⟨l1, e1⟩ := dat1
  obtain ⟨l2, e2⟩ := dat2
  obtain ⟨l3, e3⟩ := dat3
  rw [e1] at d4
  rw [e2] at a4
  rw [e3] at b4
  refine ⟨⟨c2, a3, ?_⟩, ⟨c3, b3, ?_⟩, ⟨c1, d3, ?_⟩⟩
  · rw [e2, ← litV_eq]; exact table_cells ua2 ue8 (by kernel_rfl) (by kernel_rfl) a4
  · rw [e3, ← litV_eq]; exact table_cells ua3 ue8 (by kernel_rfl) (by kernel_rfl) b4
  · rw [e1, ← litV_eq]; exact table_cells ua1 ue64 (by kernel_rfl) (by kernel_rfl) d4
abbrev rho0 : Rho := rhoG 5 fun _ => ([], 0)
theorem var_row {W : World} {name : String} {g : Nat} {c : Array Value} (hg : Tryz.prog.globalNamed name = some g) (hv : W.var? Tryz.prog name = some c) (hr : ∃ cs t, W.heap[g]? = some (.cells cs t (0, 0))) : ∃ t, W.heap[g]? = some (.cells c t (0, 0)) := by
  obtain ⟨cs, t, hr⟩ := hr
  simp only [World.var?, hg, Option.bind_some, hr] at hv
  cases hv
  exact ⟨t, hr⟩
theorem gob_rel {id : Nat} {c : List Value} {arr : Array Value} {t : TypeId} (hc : arr.toList = c) (hr : renL rho0 c = some c) : ObjR rho0 id (.cells c 0 none true) (.cells arr t (0, 0)) := by
  simp only [ObjR]
  exact ⟨.inl trivial, ⟨c, [], by simp [hc], hr, fun _ => rfl⟩, .inl trivial, fun _ => rfl, fun sz q => by cases q⟩
theorem errVal_ren : renL rho0 [errVal] = some [errVal] := by
  have h9 : renA rho0 ⟨4, 156, none⟩ = some ⟨4, 156, none⟩ := by rfl
  simp [renL, ren, renArr, errVal, h9]
theorem start_rel {W : World} (hl : laidMetH Tryz.prog Rows.wholeRingRow.laid W) (hs : W.ShapedOpen Tryz.prog) : WR 5 rho0 h0 W := by
  obtain ⟨hd, hh⟩ := laid_parts hl
  have hv0 := handle_of_laid hh
  obtain ⟨⟨c2, v2, k2⟩, ⟨c3, v3, k3⟩, ⟨c1, v1, k1⟩⟩ := tables_of_laid hd
  obtain ⟨t0, r0⟩ := var_row gn0 hv0 (row_of hs 0 (by decide) (by kernel_rfl))
  obtain ⟨t1, r1⟩ := var_row gn1 v1 (row_of hs 1 (by decide) (by kernel_rfl))
  obtain ⟨t2, r2⟩ := var_row gn2 v2 (row_of hs 2 (by decide) (by kernel_rfl))
  obtain ⟨t3, r3⟩ := var_row gn3 v3 (row_of hs 3 (by decide) (by kernel_rfl))
  have hin : ∀ i o, h0.get i = some o → (i = 0 ∧ o = gob0) ∨ (i = 1 ∧ o = gob1) ∨ (i = 2 ∧ o = gob2) ∨ (i = 3 ∧ o = gob3) := fun i o e => by
    rcases mkH_get _ _ i o e with q | q
    · simp only [gl, List.mem_cons, List.not_mem_nil, or_false, Prod.mk.injEq] at q
      rcases q with ⟨rfl, rfl⟩ | ⟨rfl, rfl⟩ | ⟨rfl, rfl⟩ | ⟨rfl, rfl⟩ <;> simp
    · simp [AH.get, T.get] at q
  have hnx : h0.next = 5 := mkH_next 5 _ _ rfl
  refine ⟨fun i o e => ?_, fun i hi => ?_, fun i j o p b e1 e2 b1 b2 => ?_, fun g hg => ⟨rhoG_at hg, rfl⟩, by rw [hnx]; exact Nat.le_refl 5⟩
  · rcases hin i o e with ⟨rfl, rfl⟩ | ⟨rfl, rfl⟩ | ⟨rfl, rfl⟩ | ⟨rfl, rfl⟩
    · exact ⟨0, _, rfl, r0, gob_rel rfl errVal_ren⟩
    · exact ⟨1, _, rfl, r1, gob_rel k1 (closedL_ren _ _ (by kernel_rfl))⟩
    · exact ⟨2, _, rfl, r2, gob_rel k2 (closedL_ren _ _ (by kernel_rfl))⟩
    · exact ⟨3, _, rfl, r3, gob_rel k3 (closedL_ren _ _ (by kernel_rfl))⟩
  · rw [hnx] at hi
    have : Nat.blt i 5 = false := by
      cases q : Nat.blt i 5 with
      | false => rfl
      | true => rw [Nat.blt_eq] at q; omega
    simp [rhoG, this]
  · rw [← (rhoG_blk b1).2, ← (rhoG_blk b2).2]
theorem h0_ro {i : Nat} {o : AObj} (e : h0.get i = some o) : o.ro = true := by
  rcases mkH_get _ _ i o e with q | q
  · simp only [gl, List.mem_cons, List.not_mem_nil, or_false, Prod.mk.injEq] at q
    rcases q with ⟨_, rfl⟩ | ⟨_, rfl⟩ | ⟨_, rfl⟩ | ⟨_, rfl⟩ <;> rfl
  · simp [AH.get, T.get] at q
theorem kept_of_ext {W W' : World} {ρ' : Rho} {h' : AH} (E : Ext rho0 h0 W ρ' h' W') (may : MemPlace → Prop) : W.keptBut W' may := by
  refine ⟨E.os, E.output, fun i hi => ?_⟩
  have hp := E.pres i hi (fun ⟨k, o, e1, e2, _⟩ => by rw [h0_ro e1] at e2; cases e2)
  rw [hp]
  cases W.heap[i]? with
  | none => rfl
  | some o => cases o <;> simp
end Go.Proofs.YtjbflfbhfnkmlaaGreatDoor.Cn
