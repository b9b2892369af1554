import Derived.Test.YtjbflfbhfnkmlaaGreatDoorR1
import Derived.Test.YtjbflfbhfnkmlaaGreatDoorLF
import Derived.ChangeSlices
import Derived.Shelf.Strconv.Itoa0
import Derived.Shelf.Strconv.Itoa1
import Derived.Shelf.LaysM
import Derived.Shelf.Strconv.Itoa2
import Derived.Shelf.Strconv.Itoa3
import Derived.Shelf.Strconv.Itoa4
import Derived.Ground.NamesProg
import Derived.Test.YtjbflfbhfnkmlaaGreatDoorProg
set_option linter.unusedVariables false
set_option linter.unusedSimpArgs false
set_option maxRecDepth 100000
namespace Go.Proofs.YtjbflfbhfnkmlaaGreatDoor
open Go Go.AE Go.ChangeShapes Go.WideShapes Go.RowKit
theorem u22 : Tryz.prog.underlying 22 = some (.slice 3) := by kernel_rfl
theorem u3 : Tryz.prog.underlying 3 = some (.int .i64) := by kernel_rfl
theorem c3 : Tryz.prog.cellsOf 3 = 1 := by kernel_rfl
theorem rowT0 : ((((begin Tryz.prog (fun _ _ => 0) default).world.heap[0]?).bind Obj.row?).map (·.2)) = some 202 := by kernel_rfl
theorem rowT1 : ((((begin Tryz.prog (fun _ _ => 0) default).world.heap[1]?).bind Obj.row?).map (·.2)) = some 248 := by kernel_rfl
theorem rowT2 : ((((begin Tryz.prog (fun _ _ => 0) default).world.heap[2]?).bind Obj.row?).map (·.2)) = some 274 := by kernel_rfl
theorem rowT3 : ((((begin Tryz.prog (fun _ _ => 0) default).world.heap[3]?).bind Obj.row?).map (·.2)) = some 275 := by kernel_rfl
theorem row_type {W : World} (h : W.ShapedOpen Tryz.prog) (g : Nat) (hlt : g < 4) {T : TypeId} (hg : ((((begin Tryz.prog (fun _ _ => 0) default).world.heap[g]?).bind Obj.row?).map (·.2)) = some T) : ∃ cs, W.heap[g]? = some (.cells cs T (0, 0)) := by
  obtain ⟨⟨z, t⟩, hz, ht⟩ := Option.map_eq_some_iff.1 hg
  simp only at ht
  subst ht
  obtain ⟨cs, h1, _⟩ := h.1 g z t (by rw [Cn.gsize]; exact hlt) hz
  exact ⟨cs, h1⟩
theorem s0 : sameLayout Tryz.prog Tryz.prog.depth 202 3 = false := by kernel_rfl
theorem s1 : sameLayout Tryz.prog Tryz.prog.depth 248 3 = false := by kernel_rfl
theorem s2 : sameLayout Tryz.prog Tryz.prog.depth 274 3 = false := by kernel_rfl
theorem s3 : sameLayout Tryz.prog Tryz.prog.depth 275 3 = false := by kernel_rfl
theorem sa : sameLayout Tryz.prog Tryz.prog.depth 60 3 = false := by kernel_rfl
theorem sb : sameLayout Tryz.prog Tryz.prog.depth 5 3 = false := by kernel_rfl
def isIface : Option TypeDesc → Bool
  | some (.interface _) => true
  | _ => false
theorem uu0 : isIface (Tryz.prog.underlying 202) = true := by kernel_rfl
theorem uu1 : Tryz.prog.underlying 248 = some (.array 20 60) := by kernel_rfl
theorem uu2 : Tryz.prog.underlying 274 = some (.array 32 5) := by kernel_rfl
theorem uu3 : Tryz.prog.underlying 275 = some (.array 64 5) := by kernel_rfl
theorem ua : Tryz.prog.underlying 60 = some (.int .u64) := by kernel_rfl
theorem ub : Tryz.prog.underlying 5 = some (.int .u8) := by kernel_rfl
theorem no_int {T : TypeId} (hT : T = 202 ∨ T = 248 ∨ T = 274 ∨ T = 275) : ∀ (d count off n : Nat), liesAt Tryz.prog d T count off 3 n = false := by
  refine liesAt_no (fun m u' h => by rw [u3] at h; cases h) ?_
  rcases hT with rfl | rfl | rfl | rfl
  · have hu := uu0
    exact rowAt_no s0 (fun fs h => by rw [h] at hu; cases hu) (fun m e' h => by rw [h] at hu; cases hu)
  · exact rowAt_no s1 (fun fs h => by rw [uu1] at h; cases h) (fun m e' h => by rw [uu1] at h; cases h; exact ⟨sa, (fun fs h => by rw [ua] at h; cases h), (fun m e h => by rw [ua] at h; cases h)⟩)
  · exact rowAt_no s2 (fun fs h => by rw [uu2] at h; cases h) (fun m e' h => by rw [uu2] at h; cases h; exact ⟨sb, (fun fs h => by rw [ub] at h; cases h), (fun m e h => by rw [ub] at h; cases h)⟩)
  · exact rowAt_no s3 (fun fs h => by rw [uu3] at h; cases h) (fun m e' h => by rw [uu3] at h; cases h; exact ⟨sb, (fun fs h => by rw [ub] at h; cases h), (fun m e h => by rw [ub] at h; cases h)⟩)
theorem list_value {W : World} {base : Nat} {v : Value} (hv : Value.okWide Tryz.prog W .any base 22 v) : v = .slice none 0 0 ∨ ∃ a len cap, v = .slice (some a) len cap := by
  simp only [Value.okWide, u22] at hv
  cases v with
  | slice a n c =>
    cases a with
    | some a => exact .inr ⟨a, n, c, rfl⟩
    | none =>
      left
      cases n with
      | zero => cases c with
        | zero => rfl
        | succ c => simp [Cell.okWide, Cell.ok, u22] at hv
      | succ n => simp [Cell.okWide, Cell.ok, u22] at hv
  | _ => simp [Cell.okWide, Cell.ok, u22] at hv
noncomputable def h1 (o : Nat) (zs : List Int) : AH := Cn.h0.push (.win o (zs.map (Value.int .i64)))
def rho1 (b : Nat) : Rho := Cn.rho0.bind 5 b none
theorem start_list {W : World} (H : WR 5 Cn.rho0 Cn.h0 W) (hS : W.ShapedOpen Tryz.prog) {base : Nat} {a : Addr} {len cap : Nat} (hv : Value.okWide Tryz.prog W .any base 22 (.slice (some a) len cap)) {zs : List Int} (hz : zs.length = cap)
    (hcell : ∀ i, i < zs.length → W.cell? (a.add i) = some (.int .i64 (zs.getD i 0))) : a.spot = none ∧ WR 5 (rho1 a.block) (h1 a.off zs) W := by
  have hok : len ≤ cap ∧ (cap : Int) ≤ IntKind.i64.max ∧ W.has Tryz.prog .any base a 3 cap := by
    simp only [Value.okWide, u22, Cell.okWide, Cell.ok] at hv
    exact hv
  obtain ⟨_, _, _, hsp, row, cells, hsh, hlie⟩ := hok
  have hnx : Cn.h0.next = 5 := mkH_next 5 _ _ rfl
  obtain ⟨arr, fz, hx, hrow⟩ : ∃ arr fz, W.heap[a.block]? = some (.cells arr row fz) ∧ cells = arr.size := by
    unfold World.shape? at hsh
    split at hsh
    · rename_i c e fz hh
      simp only [Option.some.injEq, Prod.mk.injEq] at hsh
      obtain ⟨rfl, rfl⟩ := hsh
      exact ⟨c, fz, hh, rfl⟩
    · cases hsh
  refine ⟨hsp, ?_⟩
  have hwin : (arr.toList.drop a.off).take (zs.map (Value.int .i64)).length = zs.map (Value.int .i64) := by
    refine List.ext_getElem? fun i => ?_
    rw [List.length_map]
    rcases Nat.lt_or_ge i zs.length with hi | hi
    · have h2 := hcell i hi
      have ha : a.add i = ⟨a.block, a.off + i, none⟩ := by
        obtain ⟨b, o, s⟩ := a
        simp only at hsp
        subst hsp
        exact add_mk b o i
      rw [ha] at h2
      simp only [World.cell?, hx, Option.isSome_none, Bool.false_eq_true, if_false] at h2
      rw [List.getElem?_take_of_lt hi, List.getElem?_drop, Array.getElem?_toList, h2, List.getElem?_map, List.getElem?_eq_getElem hi]
      simp [List.getD, hi]
    · rw [List.getElem?_eq_none (by rw [List.length_take]; omega), List.getElem?_eq_none (by rw [List.length_map]; omega)]
  have hfar : ∀ g, g < 4 → a.block ≠ g := fun g hg e => by
    have key : ∀ (T : TypeId), (T = 202 ∨ T = 248 ∨ T = 274 ∨ T = 275) → (∃ cs, W.heap[g]? = some (.cells cs T (0, 0))) → False := fun T hT ⟨cs, hc⟩ => by
      rw [e, hc] at hx
      cases hx
      rw [no_int hT] at hlie
      cases hlie
    have : g = 0 ∨ g = 1 ∨ g = 2 ∨ g = 3 := by omega
    rcases this with rfl | rfl | rfl | rfl
    · exact key _ (.inl rfl) (row_type hS 0 (by decide) rowT0)
    · exact key _ (.inr (.inl rfl)) (row_type hS 1 (by decide) rowT1)
    · exact key _ (.inr (.inr (.inl rfl))) (row_type hS 2 (by decide) rowT2)
    · exact key _ (.inr (.inr (.inr rfl))) (row_type hS 3 (by decide) rowT3)
  have hW := H.addWin hx (ints_renL zs .i64) hwin fun i p e hb => by
    rcases mkH_get Cn.gl _ i p e with q | q
    · have hi : i < 4 := by
        simp only [Cn.gl, List.mem_cons, List.not_mem_nil, or_false, Prod.mk.injEq] at q
        omega
      exact hfar i hi (rhoG_blk hb).2
    · simp [AH.get, T.get] at q
  rw [hnx] at hW
  exact hW
theorem h1_ro {o : Nat} {zs : List Int} {i : Nat} {p : AObj} (e : (h1 o zs).get i = some p) : p.ro = true := by
  unfold h1 at e
  rw [AH.get_push] at e
  split at e
  · cases e; rfl
  · exact Cn.h0_ro e
theorem kept_of_ext1 {b o : Nat} {zs : List Int} {W W' : World} {ρ' : Rho} {h' : AH} (E : Ext (rho1 b) (h1 o zs) W ρ' h' W') : (∀ i, i < W.heap.size → W'.heap[i]? = W.heap[i]?) ∧ ∀ may : MemPlace → Prop, W.keptBut W' may := by
  have hp : ∀ i, i < W.heap.size → W'.heap[i]? = W.heap[i]? := fun i hi => E.pres i hi (fun ⟨k, o, e1, e2, _⟩ => by rw [h1_ro e1] at e2; cases e2)
  refine ⟨hp, fun may => ⟨E.os, E.output, fun i hi => ?_⟩⟩
  rw [hp i hi]
  cases W.heap[i]? with
  | none => rfl
  | some o => cases o <;> simp
theorem list_again {H : Type} {enc : TypeId × Value → H} {W W' : World} {a : Addr} {len cap : Nat} {zs : List Int} (hl : len ≤ cap) (hm : cap ≤ maxLen) (hz : zs.length = cap) (hcell : ∀ i, i < zs.length → W.cell? (a.add i) = some (.int .i64 (zs.getD i 0)))
    (hw : ∀ n ∈ zs, (Lit.int .i64 n).wf = true) (hp : ∀ i, i < W.heap.size → W'.heap[i]? = W.heap[i]?) :
    DataW.Trod enc Tryz.prog W' 0 (fun b => decide (b < W.heap.size)) true 22 (.slice (some a) len cap) (.slice (lits .i64 (zs.take len)) (lits .i64 (zs.drop len))) (MemPlace.row a zs.length) ∨ zs.length = 0 := by
  rcases Nat.eq_zero_or_pos zs.length with h0 | h0
  · exact .inr h0
  left
  have hb : a.block < W.heap.size := by have := World.block_lt_of_cell? _ _ (hcell 0 h0); simpa [block_add] using this
  refine ⟨2, shut_ints 0 u22 u3 c3 (Nat.zero_le _) hl hm ?_ (fun i hi => ?_) hw⟩
  · simp [hb, hz]
  · have := hcell i hi
    have hbb : (a.add i).block = a.block := block_add a i
    unfold World.cell? at this ⊢
    rw [hbb] at this ⊢
    rw [hp a.block hb]
    exact this
end Go.Proofs.YtjbflfbhfnkmlaaGreatDoor
namespace Go.Proofs
open Go.Shelf
def Tryz.laysM173_ren : Go.Shelf.Ren := ⟨fun | 173 => 146 | 246 => 186 | 283 => 207 | 284 => 208 | 285 => 209 | 286 => 210 | 129 => 221 | 317 => 220 | 318 => 222 | 319 => 223 | 320 => 224 | 337 => 229 | 338 => 230 | n => n, fun | 2 => 2 | 3 => 3 | 9 => 9 | 4 => 4 | 171 => 236 | 0 => 0 | 53 => 60 | 37 => 90 | 5 => 5 | 173 => 239 | 212 => 248 | 51 => 121 | 20 => 20 | 213 => 249 | 46 => 151 | 232 => 274 | 233 => 275 | n => n, fun | 17 => 1 | 18 => 2 | 19 => 3 | n => n⟩
theorem Tryz.laysM173 : Go.Proofs.LaysM.n173 Tryz.prog Tryz.laysM173_ren := {
  mixed := by kernel_rfl
  f129 := Tryz.func221.trans (congrArg some (by kernel_rfl))
  f173 := Tryz.func146.trans (congrArg some (by kernel_rfl))
  f246 := Tryz.func186.trans (congrArg some (by kernel_rfl))
  f283 := Tryz.func207.trans (congrArg some (by kernel_rfl))
  f284 := Tryz.func208.trans (congrArg some (by kernel_rfl))
  f285 := Tryz.func209.trans (congrArg some (by kernel_rfl))
  f286 := Tryz.func210.trans (congrArg some (by kernel_rfl))
  f317 := Tryz.func220.trans (congrArg some (by kernel_rfl))
  f318 := Tryz.func222.trans (congrArg some (by kernel_rfl))
  f319 := Tryz.func223.trans (congrArg some (by kernel_rfl))
  f320 := Tryz.func224.trans (congrArg some (by kernel_rfl))
  f337 := Tryz.func229.trans (congrArg some (by kernel_rfl))
  f338 := Tryz.func230.trans (congrArg some (by kernel_rfl))
  t0 := Tryz.underlying0
  a0 := Tryz.isAgg0
  z0 := Tryz.sizeOf0
  v0 := Tryz.zeroValue0
  t2 := Tryz.underlying2
  a2 := Tryz.isAgg2
  z2 := Tryz.sizeOf2
  v2 := Tryz.zeroValue2
  t3 := Tryz.underlying3
  a3 := Tryz.isAgg3
  z3 := Tryz.sizeOf3
  v3 := Tryz.zeroValue3
  t4 := Tryz.underlying4
  a4 := Tryz.isAgg4
  z4 := Tryz.sizeOf4
  v4 := Tryz.zeroValue4
  t5 := Tryz.underlying5
  a5 := Tryz.isAgg5
  z5 := Tryz.sizeOf5
  v5 := Tryz.zeroValue5
  t9 := Tryz.underlying9
  a9 := Tryz.isAgg9
  z9 := Tryz.sizeOf9
  v9 := Tryz.zeroValue9
  t20 := Tryz.underlying20
  a20 := Tryz.isAgg20
  z20 := Tryz.sizeOf20
  v20 := Tryz.zeroValue20
  t37 := Tryz.underlying90
  a37 := Tryz.isAgg90
  z37 := Tryz.sizeOf90
  v37 := Tryz.zeroValue90
  t46 := Tryz.underlying151
  a46 := Tryz.isAgg151
  z46 := Tryz.sizeOf151
  v46 := Tryz.zeroValue151
  t51 := Tryz.underlying121
  a51 := Tryz.isAgg121
  z51 := Tryz.sizeOf121
  v51 := Tryz.zeroValue121
  t53 := Tryz.underlying60
  a53 := Tryz.isAgg60
  z53 := Tryz.sizeOf60
  v53 := Tryz.zeroValue60
  t171 := Tryz.underlying236
  a171 := Tryz.isAgg236
  z171 := Tryz.sizeOf236
  v171 := Tryz.zeroValue236
  t173 := Tryz.underlying239
  a173 := Tryz.isAgg239
  z173 := Tryz.sizeOf239
  v173 := Tryz.zeroValue239
  t212 := Tryz.underlying248
  a212 := Tryz.isAgg248
  z212 := Tryz.sizeOf248
  v212 := Tryz.zeroValue248
  t213 := Tryz.underlying249
  a213 := Tryz.isAgg249
  z213 := Tryz.sizeOf249
  t232 := Tryz.underlying274
  a232 := Tryz.isAgg274
  z232 := Tryz.sizeOf274
  v232 := Tryz.zeroValue274
  t233 := Tryz.underlying275
  a233 := Tryz.isAgg275
  z233 := Tryz.sizeOf275
  v233 := Tryz.zeroValue275
  g17 := by kernel_rfl
  g18 := by kernel_rfl
  g19 := by kernel_rfl
  i0 := by kernel_rfl
  i2 := by kernel_rfl
  i3 := by kernel_rfl
  i4 := by kernel_rfl
  i5 := by kernel_rfl
  i9 := by kernel_rfl
  i20 := by kernel_rfl
  i37 := by kernel_rfl
  i46 := by kernel_rfl
  i51 := by kernel_rfl
  i53 := by kernel_rfl
  i171 := by kernel_rfl
  i173 := by kernel_rfl
  i212 := by kernel_rfl
  i232 := by kernel_rfl
  i233 := by kernel_rfl
  m17 := by kernel_rfl
  m18 := by kernel_rfl
  m19 := by kernel_rfl }
open Go.RowKit Go.Sort Go.Lib in
theorem Tryz.strconv_FormatInt_10 (n : Int) (h0 : -9223372036854775808 ≤ n) (h1 : n ≤ 9223372036854775807) (w : World) (htab : Lib.TabIs Tryz.prog w "internal/strconv.uint64pow10" .u64 Lib.pow10Tab) :
    Calls Tryz.prog 146 #[.int .i64 n, .int .i64 10] w fun e w' => e = .returned (.string ⟨(Lib.itoa n).toArray⟩) ∧ ∃ k os, w' = grow (w.drewN k) os := Any.strconv_FormatInt_10 Tryz.laysM173 n h0 h1 w htab
end Go.Proofs
