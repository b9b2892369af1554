import Derived.Test.YthghfccdllafbaaGreatDoorAA
import Derived.Laws.Cells
import Derived.Laws.Append
import Derived.Laws.RangeString
import Derived.Laws.MakeOwn
import Derived.Laws.BytesString
import Derived.Laws.BytesArg
namespace Go.AE
open Go

section
variable {P : Program} {G : Nat} {ρ : Rho} {h : AH} {w : World} {e e' : Operand → Value}

theorem eqIn_ptr (d : Nat) {t el : TypeId} (hu : P.underlying t = some (.pointer el)) (a : Addr) (w : World) : (Op.equalIn (d + 1) t (.pointer (some a)) (.pointer none)).run P w = .ok false w := by
  simp only [Op.equalIn, Sem.run_bind, run_underlying hu, Result.andThen_ok]; rfl
theorem eqIn_slice (d : Nat) {t el : TypeId} (hu : P.underlying t = some (.slice el)) (a : Addr) (n c m k : Nat) (w : World) : (Op.equalIn (d + 1) t (.slice (some a) n c) (.slice none m k)).run P w = .ok false w := by
  simp only [Op.equalIn, Sem.run_bind, run_underlying hu, Result.andThen_ok]; rfl
theorem eqIn_iface (d : Nat) {t : TypeId} {ms : Array (String × TypeId)} (hu : P.underlying t = some (.interface ms)) (u : TypeId) (v : Value) (w : World) : (Op.equalIn (d + 1) t (.iface u v) .nilIface).run P w = .ok false w := by
  simp only [Op.equalIn, Sem.run_bind, run_underlying hu, Result.andThen_ok]; rfl
theorem eqIn_func (d : Nat) {t : TypeId} {a b : Array TypeId} {c : Bool} (hu : P.underlying t = some (.func a b c)) (f : Fn) (x y : Array Value) (w : World) : (Op.equalIn (d + 1) t (.func f x y) .nilFunc).run P w = .ok false w := by
  simp only [Op.equalIn, Sem.run_bind, run_underlying hu, Result.andThen_ok]; rfl
theorem eq_eql {t : TypeId} {X Y : Value} (hE : ∀ w, (Op.equalIn (9999 + 1) t X Y).run P w = .ok false w) (w : World) : (do pure (Value.bool (← Op.equal t X Y)) : Sem Value).run P w = .ok (.bool false) w := by
  rw [Sem.run_bind]; erw [hE]; rfl
theorem eq_neq {t : TypeId} {X Y : Value} (hE : ∀ w, (Op.equalIn (9999 + 1) t X Y).run P w = .ok false w) (w : World) : (do pure (Value.bool (!(← Op.equal t X Y))) : Sem Value).run P w = .ok (.bool true) w := by
  rw [Sem.run_bind]; erw [hE]; rfl

theorem nilcmp {dst : Option Tmp} {bop : BinOp} {t yt type : TypeId} {x y : Operand} {pos : String} {after : Array Edge} {guard : Option (Nat × Bool)} {X Y : Value} {b : Bool} (hX : e' x = X) (hY : e' y = Y)
    (hg : eqGuard bop t x y X Y = pure ()) (hb : ∀ w, (binOp bop t X Y).run P w = .ok (.bool b) w) (w' : World) : (execOp e' ⟨dst, .binOp bop t x y yt, type, pos, after, guard⟩).run P w' = .ok (.value (.bool b)) w' := by
  simp only [execOp, hX, hY, hg, Sem.run_bind, Sem.run_pure, Result.andThen_ok, hb]

theorem aptr_ok (H : WR G ρ h w) (o : Oper) (hr : ∀ x ∈ o.op.operands, ren ρ (e x) = some (e' x)) {v : Value} (hv : aptr P h e o.op = some v) : PureAt P ρ e' o v := by
  obtain ⟨dst, op, type, pos, after, guard⟩ := o
  simp only at hr hv
  cases op <;> simp only [aptr] at hv <;> try (cases hv; done)
  case move x => cases hv; exact ⟨_, hr x (by simp [Op.operands]), fun _ => rfl⟩
  case assign x => cases hv; exact ⟨_, hr x (by simp [Op.operands]), fun _ => rfl⟩
  case pick c a b =>
    have hc := hr c (by simp [Op.operands])
    cases hce : e c <;> simp only [hce] at hv <;> try (cases hv; done)
    rename_i t
    rw [hce] at hc
    have hc' := ren_bool hc
    cases hv
    refine ⟨if t then e' a else e' b, ?_, fun w' => run_pick hc' w'⟩
    cases t
    · exact hr b (by simp [Op.operands])
    · exact hr a (by simp [Op.operands])
  case nilCheck x =>
    have hx := hr x (by simp [Op.operands])
    split at hv
    · rename_i a ha
      cases hv
      rw [ha] at hx
      obtain ⟨b, hb, hx'⟩ := ren_ptr hx
      exact ⟨.pointer (some b), by simp [ren, hb], fun w' => by simp only [execOp, hx']; rfl⟩
    · rename_i f first cap hf
      cases hv
      rw [hf] at hx
      have hx0 := hx
      simp only [ren, renF, Option.bind_eq_some_iff, Option.map_eq_some_iff] at hx
      obtain ⟨fn', hfn, f', hf', c', hc', hx'⟩ := hx
      cases hfn
      exact ⟨e' x, by rw [← hx0], fun w' => by simp only [execOp, ← hx']; rfl⟩
    · cases hv
  case makeInterface t x =>
    split at hv
    · rename_i hc
      cases hv
      have hx := hr x (by simp [Op.operands])
      refine ⟨.iface t (e' x), by simp [ren, hx], fun w' => ?_⟩
      simp only [execOp, Sem.run_bind, run_makeInterface _ _ _ hc, Result.andThen_ok, Sem.run_pure]
    · cases hv
  case makeFunc fn first cap =>
    have h1 := renArr_map (ρ := ρ) (e := e) (e' := e') first fun x hx => hr x (by simp [Op.operands, hx])
    have h2 := renArr_map (ρ := ρ) (e := e) (e' := e') cap fun x hx => hr x (by simp [Op.operands, hx])
    have key : ∀ fn', renF ρ fn = some fn' → fn' = fn → v = .func fn (first.map e) (cap.map e) → PureAt P ρ e' ⟨dst, .makeFunc fn first cap, type, pos, after, guard⟩ v := fun fn' q1 q2 q3 => by
      subst q3; subst q2
      exact ⟨.func fn' (first.map e') (cap.map e'), by simp only [ren, q1, h1, h2]; rfl, fun w' => by simp only [execOp, Instr.makeFunc]; rfl⟩
    cases fn <;> simp only at hv <;> first
      | (cases hv; done)
      | exact key _ rfl rfl (Option.some.inj hv).symm
  case extract x i =>
    have hx := hr x (by simp [Op.operands])
    cases hce : e x <;> simp only [hce] at hv <;> try (cases hv; done)
    rename_i vs
    rw [hce] at hx
    obtain ⟨vs', h1, h2⟩ := ren_tuple hx
    obtain ⟨v', h3, h4⟩ := renL_get i (renArr_iff.1 h1) v (by simpa using hv)
    have h5 : vs'[i]? = some v' := by simpa using h3
    refine ⟨v', h4, fun w' => ?_⟩
    simp only [execOp, h2, Instr.extract, h5]; rfl
  case field t x f =>
    have hx := hr x (by simp [Op.operands])
    split at hv
    · rename_i fields cs hu hce
      rw [hce] at hx
      obtain ⟨cs', h1, h2⟩ := ren_agg hx
      cases hf : fields[f]? with
      | none => simp [hf] at hv
      | some fd =>
        simp only [hf, Option.bind_some] at hv
        obtain ⟨v', h3, h4⟩ := apart_ok hv h1
        refine ⟨v', h3, fun w' => ?_⟩
        simp only [execOp, h2, Instr.field, Sem.run_bind, run_underlying hu, Result.andThen_ok, hf, asAgg, Sem.run_pure, h4]
    · cases hv
  case fieldAddr t x f =>
    have hx := hr x (by simp [Op.operands])
    split at hv
    · rename_i fields a hu hce
      rw [hce] at hx
      obtain ⟨b, h1, h2⟩ := ren_ptr hx
      cases hf : fields[f]? with
      | none => simp [hf] at hv
      | some fd =>
        simp only [hf, Option.bind_some] at hv
        split at hv
        · rename_i n hs
          cases hv
          refine ⟨.pointer (some (b.add fd.offset)), by simp [ren, renA_add h1], fun w' => ?_⟩
          simp [execOp, h2, Instr.fieldAt, run_underlying hu, hf, Instr.sureAddr, fieldPlace, run_sizeOf hs]
        · cases hv
    · cases hv
  case indexAddr t x i =>
    have hx := hr x (by simp [Op.operands])
    have hi := hr i (by simp [Op.operands])
    split at hv
    · rename_i el a n c k z hu hce hci
      rw [hce] at hx
      rw [hci] at hi
      obtain ⟨b, c', h1, _, h2⟩ := ren_slice hx
      have h3 := ren_int hi
      split at hv
      · rename_i s hs
        split at hv
        · rename_i hin
          cases hv
          refine ⟨.pointer (some (b.add (z.toNat * s))), by simp [ren, renA_add h1], fun w' => ?_⟩
          simp [execOp, h2, h3, Instr.indexAt, asIntOf, run_underlying hu, hin, run_sizeOf hs]
        · cases hv
      · cases hv
    · rename_i n el a k z hu hce hci
      rw [hce] at hx
      rw [hci] at hi
      obtain ⟨b, h1, h2⟩ := ren_ptr hx
      have h3 := ren_int hi
      split at hv
      · rename_i s hs
        split at hv
        · rename_i hin
          cases hv
          refine ⟨.pointer (some (b.add (z.toNat * s))), by simp [ren, renA_add h1], fun w' => ?_⟩
          simp [execOp, h2, h3, Instr.indexAt, asIntOf, run_underlying hu, hin, run_sizeOf hs, Instr.sureAddr]
        · cases hv
      · cases hv
    · cases hv
  case build t ps =>
    split at hv
    case h_2 => cases hv
    rename_i z0 hz0
    split at hv
    case isFalse => cases hv
    rename_i hzc
    cases hb : P.built t (ps.toList.map fun p => (p.1, e p.2)) with
    | none => simp [hb] at hv
    | some cells =>
      simp only [hb, Option.map_some, Option.some.injEq] at hv
      subst hv
      have hl : renL ρ ((ps.toList.map fun p => (p.1, e p.2)).map (·.2)) = some ((ps.toList.map fun p => (p.1, e' p.2)).map (·.2)) := by
        have := renArr_map (ρ := ρ) (e := e) (e' := e') (ps.toList.map (·.2)).toArray fun x hx => hr x (by simpa [Op.operands] using hx)
        simpa [renArr_iff, List.map_map, Function.comp_def] using this
      have hbuilt : ∃ out', P.built t (ps.toList.map fun p => (p.1, e' p.2)) = some out' ∧ renArr ρ cells = some out' := by
        unfold Program.built at hb ⊢
        cases hit : P.info? t with
        | none => simp [hit] at hb
        | some it =>
          cases hu : P.underlying t with
          | none => simp [hit, hu] at hb
          | some d =>
            cases hz : it.zero with
            | none => cases d <;> simp [hit, hu, hz] at hb
            | some z =>
              cases d <;> try (simp [hit, hu] at hb; done)
              case array n el =>
                cases hie : P.info? el with
                | none => simp [hit, hu, hz, hie] at hb
                | some ie =>
                  simp only [hit, hu, hz, hie] at hb ⊢
                  have : z0 = z := by simpa [hit, hz] using hz0.symm
                  subst this
                  exact fill_ren (by simp [List.map_map, Function.comp_def]) hl (ren_cells ρ z0 z0 (closed_ren ρ z0 hzc)) hb
              case struct fields =>
                cases hpl : fields.toList.mapM (fun f => (P.info? f.type).map fun i => (f.offset, i.size)) with
                | none => simp [hit, hu, hz, hpl] at hb
                | some places =>
                  simp only [hit, hu, hz, hpl] at hb ⊢
                  have : z0 = z := by simpa [hit, hz] using hz0.symm
                  subst this
                  exact fill_ren (by simp [List.map_map, Function.comp_def]) hl (ren_cells ρ z0 z0 (closed_ren ρ z0 hzc)) hb
      obtain ⟨out', h1, h2⟩ := hbuilt
      refine ⟨.agg out', by simp [ren, h2], fun w' => ?_⟩
      simp only [execOp, Sem.run_bind]
      rw [run_build w' t _ out' (by simpa using h1)]
      rfl
  case typeAssert x xt a ok =>
    have hx := hr x (by simp [Op.operands])
    split at hv
    · rename_i want t u hu hce
      rw [hce] at hx
      have hx0 := hx
      obtain ⟨u', h1, h2⟩ := ren_iface hx
      split at hv
      · rename_i i hi
        split at hv
        · rename_i hm
          cases hv
          refine ⟨if ok then .tuple #[.iface t u', .bool true] else .iface t u', ?_, fun w' => ?_⟩
          · cases ok <;> simp [ren, renArr, renL, h1]
          · simp [execOp, h2, Instr.typeAssert, run_underlying hu, typeInfo, hi, hm]
        · cases hv
      · cases hv
    · rename_i d t u hnot hu hce
      rw [hce] at hx
      obtain ⟨u', h1, h2⟩ := ren_iface hx
      split at hv
      · cases hv
      · rename_i hni
        split at hv
        · rename_i hta
          cases hv
          refine ⟨if ok then .tuple #[u', .bool true] else u', ?_, fun w' => ?_⟩
          · cases ok <;> simp [ren, renArr, renL, h1]
          · subst hta
            cases d <;> first
              | exact absurd rfl (hni _)
              | simp [execOp, h2, Instr.typeAssert, run_underlying hu]
        · cases hv
    · cases hv
  case binOp bop t x y yt =>
    have hx := hr x (by simp [Op.operands])
    have hy := hr y (by simp [Op.operands])
    have fin : ∀ (b : Bool), v = .bool b → (∀ w', (execOp e' ⟨dst, .binOp bop t x y yt, type, pos, after, guard⟩).run P w' = .ok (.value (.bool b)) w') → PureAt P ρ e' ⟨dst, .binOp bop t x y yt, type, pos, after, guard⟩ v := fun b q1 q2 => by
      subst q1; exact ⟨.bool b, by simp [ren], q2⟩
    split at hv <;> first | (cases hv; done) | skip
    · rename_i hu hce hcy
      rw [hce] at hx; rw [hcy] at hy
      obtain ⟨b, _, hx⟩ := ren_ptr hx
      exact fin _ (Option.some.inj hv).symm (nilcmp hx (Option.some.inj (by simpa [ren] using hy)).symm rfl (eq_eql (eqIn_ptr 9999 hu b)))
    · rename_i hu hce hcy
      rw [hce] at hx; rw [hcy] at hy
      obtain ⟨b, _, hx⟩ := ren_ptr hx
      exact fin _ (Option.some.inj hv).symm (nilcmp hx (Option.some.inj (by simpa [ren] using hy)).symm rfl (eq_neq (eqIn_ptr 9999 hu b)))
    · rename_i hu hce hcy
      rw [hce] at hx; rw [hcy] at hy
      obtain ⟨b, c', _, _, hx⟩ := ren_slice hx
      exact fin _ (Option.some.inj hv).symm (nilcmp hx (Option.some.inj (by simpa [ren] using hy)).symm rfl (eq_eql (eqIn_slice 9999 hu b _ c' _ _)))
    · rename_i hu hce hcy
      rw [hce] at hx; rw [hcy] at hy
      obtain ⟨b, c', _, _, hx⟩ := ren_slice hx
      exact fin _ (Option.some.inj hv).symm (nilcmp hx (Option.some.inj (by simpa [ren] using hy)).symm rfl (eq_neq (eqIn_slice 9999 hu b _ c' _ _)))
    · rename_i hu hce hcy
      rw [hce] at hx; rw [hcy] at hy
      obtain ⟨b, _, hx⟩ := ren_iface hx
      exact fin _ (Option.some.inj hv).symm (nilcmp hx (Option.some.inj (by simpa [ren] using hy)).symm rfl (eq_eql (eqIn_iface 9999 hu _ b)))
    · rename_i hu hce hcy
      rw [hce] at hx; rw [hcy] at hy
      obtain ⟨b, _, hx⟩ := ren_iface hx
      exact fin _ (Option.some.inj hv).symm (nilcmp hx (Option.some.inj (by simpa [ren] using hy)).symm rfl (eq_neq (eqIn_iface 9999 hu _ b)))
    · rename_i hu hce hcy
      rw [hce] at hx; rw [hcy] at hy
      simp only [ren, Option.bind_eq_some_iff, Option.map_eq_some_iff] at hx
      obtain ⟨fn', _, f', _, c', _, hx⟩ := hx
      exact fin _ (Option.some.inj hv).symm (nilcmp hx.symm (Option.some.inj (by simpa [ren] using hy)).symm rfl (eq_eql (eqIn_func 9999 hu fn' f' c')))
    · rename_i hu hce hcy
      rw [hce] at hx; rw [hcy] at hy
      simp only [ren, Option.bind_eq_some_iff, Option.map_eq_some_iff] at hx
      obtain ⟨fn', _, f', _, c', _, hx⟩ := hx
      exact fin _ (Option.some.inj hv).symm (nilcmp hx.symm (Option.some.inj (by simpa [ren] using hy)).symm rfl (eq_neq (eqIn_func 9999 hu fn' f' c')))
  case slice t x lo hi mx =>
    have hx := hr x (by simp [Op.operands])
    have hlo : ∀ y, lo = some y → ren ρ (e y) = some (e' y) := fun y q => hr y (by simp [Op.operands, q])
    have hhi : ∀ y, hi = some y → ren ρ (e y) = some (e' y) := fun y q => hr y (by simp [Op.operands, q])
    have hmx : ∀ y, mx = some y → ren ρ (e y) = some (e' y) := fun y q => hr y (by simp [Op.operands, q])
    split at hv
    · rename_i el a n c hu hce
      rw [hce] at hx
      split at hv
      · rename_i s l u ho hs hl hh
        obtain ⟨b, h1, h2⟩ := ren_slice_closed H ho hx
        have hl' := numO_ren hl hlo
        have hh' := numO_ren hh hhi
        have fin : ∀ m : Int, ((mx = none ∧ m = c) ∨ (hi ≠ none ∧ numO e' c mx = some m)) → 0 ≤ l → l ≤ u → u ≤ m → m ≤ c →
            v = .slice (some (if m.toNat = l.toNat then a else a.add (l.toNat * s))) (u - l).toNat (m.toNat - l.toNat) → PureAt P ρ e' ⟨dst, .slice t x lo hi mx, type, pos, after, guard⟩ v := by
          intro m hm q0 q1 q2 q3 q4
          subst q4
          refine ⟨.slice (some (if m.toNat = l.toNat then b else b.add (l.toNat * s))) (u - l).toNat (m.toNat - l.toNat), ?_, fun w' => ?_⟩
          · split
            · exact ren_slice_mk H ho h1
            · exact ren_slice_mk H (by rw [add_block]; exact ho) (renA_add h1 _)
          · have e1 : (u - l).toNat = u.toNat - l.toNat := by omega
            simp only [execOp, h2, Instr.sliceAt, Sem.run_bind, run_underlying hu, Result.andThen_ok, Instr.slice, run_bounds hl' hh' hm q0 q1 q2 q3, run_sizeOf hs, Sem.run_pure, Option.map_some, e1]
            split <;> rfl
        split at hv
        · split at hv
          · rename_i hin
            refine fin c (.inl ⟨rfl, rfl⟩) hin.1 hin.2.1 hin.2.2 (Int.le_refl _) ?_
            simpa using (Option.some.inj hv).symm
          · cases hv
        · rename_i m
          split at hv
          · rename_i m' y hm
            split at hv
            · rename_i hin
              exact fin m' (.inr ⟨by simp, numO_ren hm hmx⟩) hin.1 hin.2.1 hin.2.2.1 hin.2.2.2 (Option.some.inj hv).symm
            · cases hv
          · cases hv
      · rename_i sz0 s l u ho hs hl hh
        split at hv
        case h_2 => cases hv
        rename_i sz L hoc
        split at hv
        case isFalse => cases hv
        rename_i hcond
        obtain ⟨rfl, hspos, hmxhi⟩ := hcond
        have hl' := numO_ren hl hlo
        have hh' := numO_ren hh hhi
        obtain ⟨b, c', h1, h2, h3⟩ := ren_slice hx
        obtain ⟨C, hC, hLC⟩ := open_cap H hoc h1
        have hL : ∀ k, (c + k) * sz ≤ L → c + k ≤ C := fun k hk => by
          have : (c + k) * sz ≤ C * sz := Nat.le_trans hk hLC
          exact Nat.le_of_mul_le_mul_right this hspos
        have fin : ∀ (m : Int) (a2 : Addr) (c2 : Nat), ((mx = none ∧ m = c') ∨ (hi ≠ none ∧ numO e' c' mx = some m)) → 0 ≤ l → l ≤ u → u ≤ m → m ≤ c' →
            (∀ b2, b2 = (if m.toNat = l.toNat then b else b.add (l.toNat * sz)) → renA ρ a2 = some b2 ∧ renC ρ a2.block c2 = some (m.toNat - l.toNat)) →
            v = .slice (some a2) (u - l).toNat c2 → PureAt P ρ e' ⟨dst, .slice t x lo hi mx, type, pos, after, guard⟩ v := by
          intro m a2 c2 hm q0 q1 q2 q3 q5 q4
          subst q4
          obtain ⟨g1, g2⟩ := q5 _ rfl
          have e1 : (u - l).toNat = u.toNat - l.toNat := by omega
          refine ⟨.slice (some (if m.toNat = l.toNat then b else b.add (l.toNat * sz))) (u - l).toNat (m.toNat - l.toNat), ?_, fun w' => ?_⟩
          · simp only [ren, g1, g2, Option.bind_some, Option.map_some]
          · simp only [execOp, h3, Instr.sliceAt, Sem.run_bind, run_underlying hu, Result.andThen_ok, Instr.slice, run_bounds hl' hh' hm q0 q1 q2 q3, run_sizeOf hs, Sem.run_pure, Option.map_some, e1]
            split <;> rfl
        have hadd := renA_add h1 (l.toNat * sz)
        have addr : ∀ (m : Int) (b2 : Addr), b2 = (if m.toNat = l.toNat then b else b.add (l.toNat * sz)) → renA ρ (if m.toNat = l.toNat then a else a.add (l.toNat * sz)) = some b2 ∧ (if m.toNat = l.toNat then a else a.add (l.toNat * sz)).block = a.block := fun m b2 hb2 => by
          subst hb2
          split
          · exact ⟨h1, rfl⟩
          · exact ⟨hadd, add_block _ _⟩
        have mxs : ∀ m, mx.map (fun m => numO e c (some m)) = some (some m) → hi ≠ none ∧ numO e' c' mx = some m := fun m hm => by
          cases mx with
          | none => cases hm
          | some y =>
            simp only [Option.map_some, Option.some.injEq] at hm
            have hhi2 := hmxhi rfl
            refine ⟨fun q => (by rw [q] at hhi2; cases hhi2), ?_⟩
            have := numO_ren (e := e) (e' := e') (d := c) (o := some y) hm hmx
            exact this
        generalize hmq : mx.map (fun m => numO e c (some m)) = mq at hv
        cases mq with
        | none =>
          have hmn : mx = none := by cases mx with | none => rfl | some y => cases hmq
          simp only [aslo] at hv
          split at hv
          · rename_i hbig
            obtain ⟨k, rfl⟩ : ∃ k, c = bigC + k := ⟨c - bigC, by omega⟩
            rw [renC_abs hC] at h2
            cases h2
            rw [Nat.add_sub_cancel_left] at hv
            split at hv
            case isFalse => cases hv
            rename_i hin
            refine fin (c' : Int) _ _ (.inl ⟨hmn, rfl⟩) hin.1 hin.2.1 hin.2.2 (Int.le_refl _) (fun b2 hb2 => ?_) (Option.some.inj hv).symm
            obtain ⟨g1, g2⟩ := addr (c' : Int) b2 hb2
            simp only [Int.toNat_natCast] at g1 g2 ⊢
            exact ⟨g1, by rw [g2]; exact renC_abs hC⟩
          · rename_i hbig
            split at hv
            case isFalse => cases hv
            rename_i hin
            obtain ⟨q0, q1, q2, q3, q4⟩ := hin
            have hcu := hL _ q2
            rw [renC_rel hC (by omega) (by omega)] at h2
            cases h2
            refine fin ((C - c : Nat) : Int) _ _ (.inl ⟨hmn, rfl⟩) q0 q1 (by omega) (Int.le_refl _) (fun b2 hb2 => ?_) (Option.some.inj hv).symm
            subst hb2
            rw [add_block]
            refine ⟨?_, ?_⟩
            · split
              · rename_i hq
                have hl0 : l.toNat = 0 := by
                  rcases q3 with q3 | q3
                  · simp only [Int.toNat_natCast] at hq; omega
                  · omega
                rw [hl0, Nat.zero_mul]
                simpa [Addr.add] using h1
              · exact hadd
            · rw [renC_rel hC q4 (by omega)]
              simp only [Int.toNat_natCast]
              congr 1
              omega
        | some mo =>
          cases mo with
          | none => simp [aslo] at hv
          | some m =>
            obtain ⟨hhin, hnm⟩ := mxs m hmq
            simp only [aslo] at hv
            split at hv
            · rename_i hbig
              obtain ⟨k, rfl⟩ : ∃ k, c = bigC + k := ⟨c - bigC, by omega⟩
              rw [renC_abs hC] at h2
              cases h2
              rw [Nat.add_sub_cancel_left] at hv
              split at hv
              case isFalse => cases hv
              rename_i hin
              refine fin m _ _ (.inr ⟨hhin, hnm⟩) hin.1 hin.2.1 hin.2.2.1 hin.2.2.2 (fun b2 hb2 => ?_) (Option.some.inj hv).symm
              obtain ⟨g1, g2⟩ := addr m b2 hb2
              exact ⟨g1, by rw [g2]; exact renC_abs hC⟩
            · rename_i hbig
              split at hv
              case isFalse => cases hv
              rename_i hin
              obtain ⟨q0, q1, q2, q3⟩ := hin
              have hcu := hL _ q3
              rw [renC_rel hC (by omega) (by omega)] at h2
              cases h2
              refine fin m _ _ (.inr ⟨hhin, hnm⟩) q0 q1 q2 (by omega) (fun b2 hb2 => ?_) (Option.some.inj hv).symm
              obtain ⟨g1, g2⟩ := addr m b2 hb2
              exact ⟨g1, by rw [g2]; exact renC_abs hC⟩
      · cases hv
    · rename_i n el a hu hce
      rw [hce] at hx
      obtain ⟨b, h1, h2⟩ := ren_ptr hx
      split at hv
      · rename_i s l u hs hl hh
        have hl' := numO_ren hl hlo
        have hh' := numO_ren hh hhi
        split at hv
        · rename_i hin
          obtain ⟨q0, q1, q2, ho⟩ := hin
          cases hv
          refine ⟨.slice (some (if n = l.toNat then b else b.add (l.toNat * s))) (u - l).toNat (n - l.toNat), ?_, fun w' => ?_⟩
          · split
            · exact ren_slice_mk H ho h1
            · exact ren_slice_mk H (by rw [add_block]; exact ho) (renA_add h1 _)
          · have e1 : (u - l).toNat = u.toNat - l.toNat := by omega
            have hb := run_bounds (P := P) (isS := false) (mx := none) (m := n) hl' hh' (.inl ⟨rfl, rfl⟩) q0 q1 q2 (Int.le_refl _)
            simp only [Option.map_none] at hb
            simp only [execOp, h2, Instr.sliceAt, Sem.run_bind, run_underlying hu, Result.andThen_ok, Instr.sureAddr, hb, run_sizeOf hs, Sem.run_pure, Option.map_none, e1, Int.toNat_natCast]
        · cases hv
      · cases hv
    · cases hv
  case call c =>
    obtain ⟨callee, args, ts⟩ := c
    cases callee <;> simp only at hv <;> try (cases hv; done)
    rename_i b
    have one : ∀ x, args.toList = [x] → args = #[x] := fun x q => by cases args; simp at q; simp [q]
    split at hv
    · rename_i x el harg hu
      have ha := one x harg
      subst ha
      have hx := hr x (by simp [Op.operands, Call.operands])
      obtain ⟨t0, ht0, hu0⟩ := Option.bind_eq_some_iff.1 hu
      split at hv
      · rename_i a n c hce
        cases hv
        rw [hce] at hx
        obtain ⟨b', c', _, _, h2⟩ := ren_slice hx
        refine ⟨.int .i64 n, by simp [ren], fun w' => ?_⟩
        simp [execOp, resolve, invoke, Go.builtin, Builtin.len_, ht0, h2, run_underlying hu0, goInt]
      · cases hv
    · rename_i x el harg hu
      have ha := one x harg
      subst ha
      have hx := hr x (by simp [Op.operands, Call.operands])
      obtain ⟨t0, ht0, hu0⟩ := Option.bind_eq_some_iff.1 hu
      split at hv
      · rename_i a n c hce
        split at hv
        · rename_i ho
          cases hv
          rw [hce] at hx
          obtain ⟨b', _, h2⟩ := ren_slice_closed H ho hx
          refine ⟨.int .i64 c, by simp [ren], fun w' => ?_⟩
          simp [execOp, resolve, invoke, Go.builtin, Builtin.cap_, ht0, h2, run_underlying hu0, goInt]
        · rename_i sz0 ho
          split at hv
          case isFalse => cases hv
          rename_i hbig
          cases hv
          rw [hce] at hx
          obtain ⟨b', c', q1, q2, h2⟩ := ren_slice hx
          obtain ⟨k, rfl⟩ : ∃ k, c = bigC + k := ⟨c - bigC, by omega⟩
          obtain ⟨L, hoc⟩ := ocap_of_opn ho
          obtain ⟨C, hC, _⟩ := open_cap H hoc q1
          rw [renC_abs hC] at q2
          cases q2
          rw [Nat.add_sub_cancel_left]
          refine ⟨.int .i64 c', by simp [ren], fun w' => ?_⟩
          simp [execOp, resolve, invoke, Go.builtin, Builtin.cap_, ht0, h2, run_underlying hu0, goInt]
        · cases hv
      · cases hv
    · cases hv
end
end Go.AE
namespace Go.AE
open Go

/-- A cell of the abstract heap. -/
def acell (h : AH) (a : Addr) : Option Value :=
  match a.spot, h.get a.block with
  | none, some (.cells c _ _ _) => c[a.off]?
  | _, _ => none

/-- n cells from a on. -/
def acells (h : AH) (a : Addr) (n : Nat) : Option (List Value) :=
  match a.spot, h.get a.block with
  | none, some (.cells c _ _ _) => if a.off + n ≤ c.length then some ((c.drop a.off).take n) else none
  | _, _ => none

def aload (P : Program) (h : AH) (t : TypeId) (a : Addr) : Option Value :=
  match aggT P t, sizeT P t with
  | some true, some n => (acells h a n).map fun l => .agg ⟨l⟩
  | some false, _ => (acells h a 1).bind (·[0]?)
  | _, _ => none

def loadN (P : Program) (t : TypeId) : Nat :=
  match aggT P t, sizeT P t with
  | some true, some n => n
  | _, _ => 1

section
variable {P : Program} {G : Nat} {ρ : Rho} {h : AH} {w : World} {e e' : Operand → Value}

theorem renA_form {a b : Addr} (hb : renA ρ a = some b) : a.spot = none ∧ b = ⟨b.block, a.off, none⟩ ∧ ρ.blk a.block = some b.block := by
  unfold renA at hb
  split at hb
  · rename_i b' h1 h2
    cases hb
    exact ⟨h1, rfl, h2⟩
  · cases hb

theorem cells_ok (H : WR G ρ h w) {a b : Addr} {n : Nat} {l : List Value} (hl : acells h a n = some l) (hb : renA ρ a = some b) :
    ∃ l', renL ρ l = some l' ∧ l'.length = n ∧ ∀ j v, l'[j]? = some v → w.cell? (b.add j) = some v := by
  obtain ⟨hs, hbf, hblk⟩ := renA_form hb
  unfold acells at hl
  rw [hs] at hl
  split at hl
  case h_2 => cases hl
  rename_i c t o ro _ hg
  split at hl
  case isFalse => cases hl
  rename_i hle
  cases hl
  obtain ⟨b', x, h1, h2, h3⟩ := H.obj _ _ hg
  rw [hblk] at h1; cases h1
  cases x <;> simp only [ObjR] at h3
  rename_i arr t' fz
  obtain ⟨_, ⟨c', tail, q1, q2, _⟩, _⟩ := h3
  have hlen := renL_length q2
  refine ⟨(c'.drop a.off).take n, renL_take n (renL_drop a.off q2), by simp; omega, fun j v hv => ?_⟩
  have hj : j < n := by
    have := (List.getElem?_eq_some_iff.1 hv).1
    simp at this; omega
  have hcell : c'[a.off + j]? = some v := by
    rw [List.getElem?_take_of_lt hj, List.getElem?_drop] at hv
    exact hv
  have harr : arr[a.off + j]? = some v := by
    have : arr.toList[a.off + j]? = some v := by
      rw [q1, List.getElem?_append_left (by omega)]; exact hcell
    simpa using this
  rw [hbf]
  have hadd : Addr.add ⟨b.block, a.off, none⟩ j = ⟨b.block, a.off + j, none⟩ := Addr.add_lit _ _ _
  rw [hadd]
  simp [World.cell?, h2, harr]

theorem load_ok (H : WR G ρ h w) {t : TypeId} {a b : Addr} {v : Value} (hv : aload P h t a = some v) (hb : renA ρ a = some b) :
    ∃ v', ren ρ v = some v' ∧ ∀ w', (∀ j, j < loadN P t → w'.cell? (b.add j) = w.cell? (b.add j)) → (loadVar t b).run P w' = .ok v' w' := by
  unfold aload at hv
  split at hv
  · rename_i n h1 h2
    obtain ⟨l, hl, rfl⟩ := Option.map_eq_some_iff.1 hv
    obtain ⟨l', r1, r2, r3⟩ := cells_ok H hl hb
    refine ⟨.agg ⟨l'⟩, by simp [ren, renArr, r1], fun w' hw' => ?_⟩
    have hn : loadN P t = n := by simp [loadN, h1, h2]
    have := run_loadCells_list (P := P) (w := w') b l' fun j v hv => by
      have hj := (List.getElem?_eq_some_iff.1 hv).1
      rw [hw' j (by omega)]
      exact r3 j v hv
    rw [r2] at this
    simp only [loadVar, Sem.run_bind, run_isAgg h1, run_sizeOf h2, Result.andThen_ok, if_true, this]
    rfl
  · rename_i h1
    obtain ⟨l, hl, hl0⟩ := Option.bind_eq_some_iff.1 hv
    obtain ⟨l', r1, r2, r3⟩ := cells_ok H hl hb
    obtain ⟨v', s1, s2⟩ := renL_get 0 r1 v hl0
    refine ⟨v', s2, fun w' hw' => ?_⟩
    have h0 := r3 0 v' s1
    have hn : 0 < loadN P t := by unfold loadN; rw [h1]; simp
    rw [← hw' 0 hn, Addr.add_zero'] at h0
    simp only [loadVar, Sem.run_bind, run_isAgg h1, Result.andThen_ok, Bool.false_eq_true, if_false, run_load, h0]
  · cases hv

/-! ### stores -/
def lspl : List Value → Nat → List Value → List Value
  | l, _, [] => l
  | l, k, v :: vs => lspl (l.set k v) (k + 1) vs
def spl : Array Value → Nat → List Value → Array Value
  | a, _, [] => a
  | a, k, v :: vs => spl (a.setIfInBounds k v) (k + 1) vs

theorem spl_toList : ∀ (vs : List Value) (a : Array Value) (k : Nat), (spl a k vs).toList = lspl a.toList k vs
  | [], _, _ => rfl
  | v :: vs, a, k => by simp [spl, lspl, spl_toList vs]
theorem lspl_length : ∀ (vs l : List Value) (k : Nat), (lspl l k vs).length = l.length
  | [], _, _ => rfl
  | v :: vs, l, k => by simp [lspl, lspl_length vs]
theorem spl_size (vs : List Value) (a : Array Value) (k : Nat) : (spl a k vs).size = a.size := by
  have := congrArg List.length (spl_toList vs a k)
  simpa [lspl_length] using this
theorem lspl_append : ∀ (vs l tail : List Value) (k : Nat), k + vs.length ≤ l.length → lspl (l ++ tail) k vs = lspl l k vs ++ tail
  | [], _, _, _, _ => rfl
  | v :: vs, l, tail, k, h => by
    simp only [List.length_cons] at h
    simp only [lspl]
    rw [List.set_append_left _ _ (by omega), lspl_append vs _ _ _ (by simp; omega)]
theorem lspl_ren : ∀ {vs vs' l l' : List Value} (k : Nat), renL ρ vs = some vs' → renL ρ l = some l' → renL ρ (lspl l k vs) = some (lspl l' k vs')
  | [], vs', l, l', k, h1, h2 => by simp [renL] at h1; subst h1; exact h2
  | v :: vs, vs', l, l', k, h1, h2 => by
    obtain ⟨v', vs'', q1, q2, rfl⟩ := renL_cons.1 h1
    simp only [lspl]
    exact lspl_ren (k + 1) q2 (renL_set q1 k h2)

theorem oneCell_ren : ∀ (v v' : Value), ren ρ v = some v' → v.oneCell' = true → v'.oneCell' = true
  | .agg cs, v', q, h1 | .tuple cs, v', q, h1 => by simp [Value.oneCell'] at h1
  | .bool _, v', q, _ | .int _ _, v', q, _ | .float _ _, v', q, _ | .complex _ _ _, v', q, _ | .string _, v', q, _ | .pointer none, v', q, _ | .slice none _ _, v', q, _ | .map none, v', q, _ | .chan none, v', q, _ | .nilFunc, v', q, _ | .nilIface, v', q, _ => by
    simp [ren] at q
    subst q
    rfl
  | .pointer (some a), v', q, _ => by obtain ⟨b, _, rfl⟩ := ren_ptr q; rfl
  | .slice (some a) n c, v', q, _ => by obtain ⟨b, c', _, _, rfl⟩ := ren_slice q; rfl
  | .map (some r), v', q, _ => by
    simp only [ren, Option.map_eq_some_iff] at q
    obtain ⟨b, _, rfl⟩ := q; rfl
  | .chan (some r), v', q, _ => by
    simp only [ren] at q
    obtain ⟨a, c, rfl⟩ := opq_form q
    rfl
  | .func fn f c, v', q, _ => by
    simp only [ren, Option.bind_eq_some_iff, Option.map_eq_some_iff] at q
    obtain ⟨fn', _, f', _, c', _, rfl⟩ := q; rfl
  | .iface t u, v', q, _ => by obtain ⟨u', _, rfl⟩ := ren_iface q; rfl

theorem setCell_heap {b off : Nat} {arr : Array Value} {T : TypeId} {fz : Nat × Nat} (hg : w.heap[b]? = some (.cells arr T fz)) (v : Value) :
    w.setCell ⟨b, off, none⟩ v = { w with heap := w.heap.setIfInBounds b (.cells (arr.setIfInBounds off v) T fz) } := by
  have hlt := (Array.getElem?_eq_some_iff.1 hg).1
  have hge := (Array.getElem?_eq_some_iff.1 hg).2
  have : (w.heap.modify b fun | .cells c elem frozen => .cells (c.setIfInBounds off v) elem frozen | o => o) = w.heap.setIfInBounds b (.cells (arr.setIfInBounds off v) T fz) := by
    apply Array.ext_getElem?
    intro i
    rw [Array.getElem?_modify, Array.getElem?_setIfInBounds]
    by_cases hi : b = i
    · subst hi; simp [hlt, hge]
    · simp [hi]
  unfold World.setCell
  simp only [Option.isSome_none, Bool.false_eq_true, if_false]
  rw [← this]
  rfl

theorem setIf_self {b : Nat} {x : Obj} {hp : Array Obj} (hg : hp[b]? = some x) : hp.setIfInBounds b x = hp := by
  have hlt := (Array.getElem?_eq_some_iff.1 hg).1
  have hge := (Array.getElem?_eq_some_iff.1 hg).2
  apply Array.ext_getElem?
  intro i
  rw [Array.getElem?_setIfInBounds]
  by_cases hi : b = i
  · subst hi; simp [hlt, hge]
  · simp [hi]

theorem run_stores (P : Program) {b : Nat} {T : TypeId} {fz : Nat × Nat} : ∀ (vs : List Value) (off i : Nat) (arr : Array Value) (w : World), w.heap[b]? = some (.cells arr T fz) → off + i + vs.length ≤ arr.size →
    (fz = (0, 0) ∨ arr.size ≤ fz.1) → (∀ v ∈ vs, v.oneCell' = true) →
    (storeCells ⟨b, off, none⟩ vs i).run P w = .ok () { w with heap := w.heap.setIfInBounds b (.cells (spl arr (off + i) vs) T fz) }
  | [], off, i, arr, w, hg, _, _, _ => by simp [storeCells, spl, setIf_self hg]
  | v :: vs, off, i, arr, w, hg, hle, hz, ho => by
    simp only [List.length_cons] at hle
    have hadd : Addr.add ⟨b, off, none⟩ i = ⟨b, off + i, none⟩ := Addr.add_lit _ _ _
    have hcell : w.cell? ⟨b, off + i, none⟩ = some arr[off + i] := by
      simp [World.cell?, hg]
    have hfr : w.frozen? ⟨b, off + i, none⟩ = false := by
      obtain ⟨lo, hi⟩ := fz
      simp only [World.frozen?, hg]
      rcases hz with hz | hz
      · simp at hz; simp [hz]
      · simp at hz ⊢; omega
    simp only [storeCells, Sem.run_bind, hadd, run_store P w _ v .plain (ho v (by simp)), hcell, hfr, Bool.false_eq_true, if_false, Result.andThen_ok]
    rw [setCell_heap hg]
    have hlt := (Array.getElem?_eq_some_iff.1 hg).1
    have := run_stores P (b := b) (T := T) (fz := fz) vs off (i + 1) (arr.setIfInBounds (off + i) v) { w with heap := w.heap.setIfInBounds b (.cells (arr.setIfInBounds (off + i) v) T fz) }
      (by simp [hlt]) (by simp; omega) (by simpa using hz) fun u hu => ho u (by simp [hu])
    rw [this]
    simp only [spl, Nat.add_assoc]
    congr 2
    apply Array.ext_getElem?
    intro k
    simp only [Array.getElem?_setIfInBounds]
    by_cases hk : b = k
    · subst hk; simp [hlt]
    · simp [hk]
end
end Go.AE
namespace Go.AE
open Go

def OpAt (P : Program) (G : Nat) (ρ : Rho) (h : AH) (w : World) (e' : Operand → Value) (o : Oper) (v : Value) (h' : AH) : Prop :=
  ∃ ρ' v' w', WR G ρ' h' w' ∧ Ext ρ h w ρ' h' w' ∧ ren ρ' v = some v' ∧ ((execOp e' o).run P w = .ok (.value v') w' ∨ ((execOp e' o).run P w = .ok .skip w' ∧ v' = undef))

section
variable {P : Program} {G : Nat} {ρ : Rho} {h : AH} {w : World} {e e' : Operand → Value}

theorem PureAt.opAt (H : WR G ρ h w) {o : Oper} {v : Value} (hp : PureAt P ρ e' o v) : OpAt P G ρ h w e' o v h :=
  let ⟨v', h1, h2⟩ := hp; ⟨ρ, v', w, H, Ext.refl _ _ _, h1, .inl (h2 w)⟩

/-- A new row of cells, of a known size. -/
theorem push_row (H : WR G ρ h w) {cells cells' : Array Value} (hc : renArr ρ cells = some cells') (t : TypeId) :
    WR G (ρ.bind h.next w.heap.size none) (h.push (.cells cells.toList t none false)) { w with heap := w.heap.push (.cells cells' t) } ∧
    Ext ρ h w (ρ.bind h.next w.heap.size none) (h.push (.cells cells.toList t none false)) { w with heap := w.heap.push (.cells cells' t) } := by
  have hle := Rho.le_bind (H.fresh h.next (Nat.le_refl _)) w.heap.size none
  refine ⟨H.alloc _ _ none rfl ?_, Ext.alloc H _ _ none rfl rfl rfl rfl⟩
  simp only [ObjR]
  exact ⟨.inr trivial, ⟨cells'.toList, [], by simp, renL_mono hle _ _ (renArr_iff.1 hc), fun _ => rfl⟩, .inr (.inl trivial), fun _ => by simp [Rho.bind], fun sz q => by cases q⟩

/-- A new row of cells with more cells behind those that are known; 'C': how many elements of sz cells it has. -/
theorem push_open (H : WR G ρ h w) {cells cells' : List Value} (hc : renL ρ cells = some cells') (t : TypeId) (arr : Array Value) (tail : List Value) (harr : arr.toList = cells' ++ tail) (sz C : Nat) (hC : arr.size = C * sz)
    (fz : Nat × Nat) (hz : fz = (0, 0) ∨ arr.size ≤ fz.1) (w' : World) (hw : w'.heap = w.heap.push (.cells arr t fz)) (ht : w'.tape = w.tape) (ho : w'.os = w.os) (hu : w'.output = w.output) :
    WR G (ρ.bind h.next w.heap.size (some C)) (h.push (.cells cells t (some sz) false)) w' ∧
    Ext ρ h w (ρ.bind h.next w.heap.size (some C)) (h.push (.cells cells t (some sz) false)) w' := by
  have hle := Rho.le_bind (H.fresh h.next (Nat.le_refl _)) w.heap.size (some C)
  refine ⟨H.alloc _ _ (some C) hw ?_, Ext.alloc H _ _ (some C) hw ht ho hu⟩
  simp only [ObjR]
  exact ⟨.inr trivial, ⟨cells', tail, harr, renL_mono hle _ _ hc, fun q => by cases q⟩, .inr hz, fun q => (by cases q), fun s q => ⟨C, by simp [Rho.bind], by cases q; exact hC⟩⟩

theorem ren_new (ρ : Rho) (i b : Nat) (c : Option Nat) (off : Nat) : renA (ρ.bind i b c) ⟨i, off, none⟩ = some ⟨b, off, none⟩ := by simp [renA, Rho.bind]

/-! alloc, box -/
def azero (P : Program) (t : TypeId) : Option Value := (P.info? t).bind (·.zero)
theorem run_zero {t : TypeId} {z : Value} (hz : azero P t = some z) (w : World) : (zeroValue t).run P w = .ok z w := by
  obtain ⟨i, h1, h2⟩ := Option.bind_eq_some_iff.1 hz
  simp [zeroValue, typeInfo, h1, h2]

def aalloc (h : AH) (t : TypeId) (v : Value) : Value × AH := (.pointer (some ⟨h.next, 0, none⟩), h.push (.cells v.cells.toList t none false))

theorem run_newVar (t : TypeId) (v : Value) (w : World) : (newVar t v).run P w = .ok ⟨w.heap.size, 0, none⟩ { w with heap := w.heap.push (.cells v.cells t) } := by
  simp [newVar, newRow]

theorem box_ok (H : WR G ρ h w) {v v' : Value} (hv : ren ρ v = some v') (t : TypeId) {o : Oper}
    (hrun : (execOp e' o).run P w = .ok (.value (.pointer (some ⟨w.heap.size, 0, none⟩))) { w with heap := w.heap.push (.cells v'.cells t) }) : OpAt P G ρ h w e' o (aalloc h t v).1 (aalloc h t v).2 := by
  obtain ⟨h1, h2⟩ := push_row H (ren_cells ρ v v' hv) t
  exact ⟨_, .pointer (some ⟨w.heap.size, 0, none⟩), _, h1, h2, by simp [aalloc, ren, ren_new], .inl hrun⟩

/-! store -/
def astore (P : Program) (h : AH) (t : TypeId) (a : Addr) (v : Value) : Option AH :=
  match h.get a.block with
  | some (.cells c el o ro) =>
    let vs := v.cells.toList
    if sizeT P t = some vs.length ∧ a.off + vs.length ≤ c.length ∧ ro = false ∧ vs.all (·.oneCell') then some (h.put a.block (some (.cells (lspl c a.off vs) el o ro))) else none
  | _ => none

theorem renL_all {p : Value → Bool} (hp : ∀ v v', ren ρ v = some v' → p v = true → p v' = true) : ∀ {l l' : List Value}, renL ρ l = some l' → l.all p = true → ∀ v ∈ l', p v = true
  | [], l', h, _, v, hv => by simp [renL] at h; subst h; cases hv
  | x :: l, l', h, ha, v, hv => by
    obtain ⟨x', l'', h1, h2, rfl⟩ := renL_cons.1 h
    simp only [List.all_cons, Bool.and_eq_true] at ha
    rcases List.mem_cons.1 hv with rfl | hv
    · exact hp _ _ h1 ha.1
    · exact renL_all hp h2 ha.2 v hv

/-- Cells of one block are written. -/
theorem stores_ok (P : Program) (H : WR G ρ h w) {a b : Addr} {c : List Value} {el : TypeId} {o : Option Nat} (hg : h.get a.block = some (.cells c el o false)) (hb : renA ρ a = some b) {vs vs' : List Value} (hv : renL ρ vs = some vs') (hle : a.off + vs.length ≤ c.length)
    (h1 : vs.all (·.oneCell') = true) : ∃ w', (storeCells b vs').run P w = .ok () w' ∧ WR G ρ (h.put a.block (some (.cells (lspl c a.off vs) el o false))) w' ∧ Ext ρ h w ρ (h.put a.block (some (.cells (lspl c a.off vs) el o false))) w' := by
  obtain ⟨hs, hbf, hblk⟩ := renA_form hb
  obtain ⟨b', x, q1, q2, q3⟩ := H.obj _ _ hg
  rw [hblk] at q1; cases q1
  cases x <;> simp only [ObjR] at q3
  rename_i arr t' fz
  obtain ⟨ht, ⟨c', tail, r1, r2, r3⟩, r4, r5, r6⟩ := q3
  replace ht := ht.resolve_left (by simp)
  subst ht
  have hlen := renL_length hv
  have hclen := renL_length r2
  have hal : arr.size = c'.length + tail.length := by
    have := congrArg List.length r1
    simpa using this
  have hrun := run_stores P vs' a.off 0 arr w q2 (by omega) (r4.resolve_left (by simp)) (renL_all (fun v v' => oneCell_ren v v') hv h1)
  rw [← hbf] at hrun
  refine ⟨_, hrun, ?_, ?_⟩
  · refine H.set hg hblk rfl ?_
    simp only [ObjR]
    refine ⟨.inr trivial, ⟨lspl c' a.off vs', tail, ?_, lspl_ren _ hv r2, r3⟩, by simpa [spl_size] using r4, r5, by simpa [spl_size] using r6⟩
    simp only [Nat.add_zero]
    rw [spl_toList, r1, lspl_append _ _ _ _ (by omega)]
  · exact Ext.set H hg rfl hblk rfl rfl rfl rfl

theorem store_ok (H : WR G ρ h w) {t : TypeId} {a b : Addr} {v v' : Value} {h' : AH} (ha : astore P h t a v = some h') (hb : renA ρ a = some b) (hv : ren ρ v = some v') :
    ∃ w', (storeVar t b v').run P w = .ok () w' ∧ WR G ρ h' w' ∧ Ext ρ h w ρ h' w' := by
  unfold astore at ha
  split at ha
  case h_2 => cases ha
  rename_i c el o ro hg
  dsimp only at ha
  split at ha
  case isFalse => cases ha
  rename_i hcond
  obtain ⟨k1, k2, rfl, k4⟩ := hcond
  cases ha
  have hc := ren_cells ρ v v' hv
  obtain ⟨w', r1, r2, r3⟩ := stores_ok P H hg hb (renArr_iff.1 hc) k2 k4
  refine ⟨w', ?_, r2, r3⟩
  have hsz := renArr_size hc
  have hs : v'.cells.size = v.cells.toList.length := by simpa using hsz
  simp only [storeVar, Sem.run_bind, run_sizeOf k1, Result.andThen_ok, hs, ne_eq, not_true_eq_false, if_false]
  exact r1

/-! string iterators -/
theorem range_ok (H : WR G ρ h w) {t : TypeId} {s : ByteArray} (hu : P.underlying t = some .string) {o : Oper} {x : Operand} (ho : o.op = .range t x) (hx : e' x = .string s) :
    OpAt P G ρ h w e' o (.pointer (some ⟨h.next, 0, none⟩)) (h.push (.iter s 0)) := by
  refine ⟨ρ.bind h.next w.heap.size none, .pointer (some ⟨w.heap.size, 0, none⟩), { w with heap := w.heap.push (.stringIter s 0) }, H.alloc _ _ none rfl ⟨rfl, rfl⟩, Ext.alloc H _ _ none rfl rfl rfl rfl, by simp [ren, ren_new], .inl ?_⟩
  simp [execOp, ho, hx, Instr.range, run_underlying hu]

def anext (h : AH) (v : Value) : Option (Value × AH) :=
  match v with
  | .pointer (some ⟨r, 0, _⟩) => match h.get r with
    | some (.iter s pos) =>
      if pos < s.size then
        match Utf8.decode s pos with
        | (c, width) => some (.tuple #[.bool true, .int .i64 pos, .int .i32 c], h.put r (some (.iter s (pos + width))))
      else some (.tuple #[.bool false], h)
    | _ => none
  | _ => none

theorem next_ok (H : WR G ρ h w) {v v' : Value} {r : Value × AH} (hn : anext h v = some r) (hv : ren ρ v = some v') {o : Oper} {x : Operand} (ho : o.op = .next x true) (hx : e' x = v') : OpAt P G ρ h w e' o r.1 r.2 := by
  unfold anext at hn
  split at hn
  case h_2 => cases hn
  rename_i r0 sp
  obtain ⟨b, hb, hv'⟩ := ren_ptr hv
  obtain ⟨hs, hbf, hblk⟩ := renA_form hb
  simp only at hs hbf hblk
  split at hn
  case h_2 => cases hn
  rename_i s pos hg
  obtain ⟨b', y, q1, q2, q3⟩ := H.obj _ _ hg
  rw [hblk] at q1; cases q1
  cases y <;> simp only [ObjR] at q3
  obtain ⟨rfl, rfl⟩ := q3
  rename_i s pos
  have hgo : (getObj b.block).run P w = .ok (.stringIter s pos) w := by simp [getObj, Sem.run, q2]
  split at hn
  · rename_i hlt
    rw [hbf] at hv'
    have hrun : (execOp e' o).run P w = ((setObj b.block (.stringIter s (pos + (Utf8.decode s pos).2))).run P w).andThen fun _ w1 => .ok (.value (.tuple #[.bool true, .int .i64 pos, .int .i32 (Utf8.decode s pos).1])) w1 := by
      simp only [execOp, ho, hx, hv', Instr.next, Sem.run_bind, hgo, Result.andThen_ok, hlt, if_true]
      simp only [setObj, Sem.run, q2, Result.andThen_ok]
      rfl
    generalize Utf8.decode s pos = d at hn hrun
    obtain ⟨c, wd⟩ := d
    cases hn
    have hset : (setObj b.block (.stringIter s (pos + wd))).run P w = .ok () { w with heap := w.heap.setIfInBounds b.block (.stringIter s (pos + wd)) } := by simp [setObj, Sem.run, q2]
    rw [hset] at hrun
    exact ⟨ρ, .tuple #[.bool true, .int .i64 pos, .int .i32 c], { w with heap := w.heap.setIfInBounds b.block (.stringIter s (pos + wd)) }, H.set hg hblk rfl ⟨rfl, rfl⟩, Ext.set H hg rfl hblk rfl rfl rfl rfl, by simp [ren, renArr, renL], .inl hrun⟩
  · rename_i hlt
    cases hn
    refine ⟨ρ, .tuple #[.bool false], w, H, Ext.refl _ _ _, by simp [ren, renArr, renL], .inl ?_⟩
    rw [hbf] at hv'
    simp only [execOp, ho, hx, hv', Instr.next, Sem.run_bind, hgo, Result.andThen_ok, hlt, if_false]
    rfl
end
end Go.AE
namespace Go.AE
open Go

/-- What is appended or copied: how many elements, and their cells. -/
def asrc (h : AH) (sz : Nat) : Value → Option (Nat × List Value)
  | .slice (some a) n _ => (acells h a (n * sz)).map fun l => (n, l)
  | .slice none 0 _ => some (0, [])
  | .string s => if sz = 1 then some (s.size, s.data.toList.map fun b => .int .u8 b.toNat) else none
  | _ => none

section
variable {P : Program} {G : Nat} {ρ : Rho} {h : AH} {w : World} {e e' : Operand → Value}

theorem WR.of_heap (H : WR G ρ h w) {w' : World} (hw : w'.heap = w.heap) : WR G ρ h w' := ⟨fun i o q => by rw [hw]; exact H.obj i o q, H.fresh, H.inj, H.glob, H.gp⟩

theorem map_int_closed (l : List UInt8) : renL ρ (l.map fun b => Value.int .u8 b.toNat) = some (l.map fun b => Value.int .u8 b.toNat) := by
  induction l with
  | nil => simp [renL]
  | cons b l ih => simp only [List.map_cons]; exact renL_cons.2 ⟨_, _, by simp [ren], ih, rfl⟩

theorem src_ok (H : WR G ρ h w) {sz n : Nat} {x x' : Value} {news : List Value} (hs : asrc h sz x = some (n, news)) (hx : ren ρ x = some x') :
    ∃ news', renL ρ news = some news' ∧ news'.length = n * sz ∧ (∀ w' : World, (Builtin.lenOf x').run P w' = .ok n w') ∧
      (∀ m, m ≤ n → ∀ w' : World, w'.heap = w.heap → (Builtin.firstCells sz m x').run P w' = .ok (news'.take (m * sz)).toArray w') := by
  unfold asrc at hs
  split at hs
  · rename_i a k c
    obtain ⟨l, hl, hp⟩ := Option.map_eq_some_iff.1 hs
    cases hp
    obtain ⟨b, c', h1, _, rfl⟩ := ren_slice hx
    obtain ⟨l', r1, r2, r3⟩ := cells_ok H hl h1
    refine ⟨l', r1, r2, fun _ => rfl, fun m hm w' hw => ?_⟩
    have hmul : m * sz ≤ n * sz := Nat.mul_le_mul_right _ hm
    refine run_firstCells_some w' sz m b n c' (l'.take (m * sz)) (by simp; omega) fun j v hv => ?_
    have hj := (List.getElem?_eq_some_iff.1 hv).1
    simp at hj
    rw [List.getElem?_take_of_lt (by omega)] at hv
    have := r3 j v hv
    simp only [World.cell?, hw] at this ⊢
    exact this
  · rename_i c
    cases hs
    simp [ren] at hx; subst hx
    exact ⟨[], by simp [renL], by simp, fun _ => rfl, fun m hm w' _ => by simp [Builtin.firstCells]⟩
  · rename_i s
    split at hs
    case isFalse => cases hs
    rename_i hsz
    cases hs
    subst hsz
    simp [ren] at hx; subst hx
    refine ⟨s.data.toList.map fun b => .int .u8 b.toNat, map_int_closed _, by simp, fun _ => rfl, fun m hm w' _ => ?_⟩
    simp only [Builtin.firstCells, Sem.run_pure, Nat.mul_one]
    congr 1
    apply Array.toList_inj.1
    simp [ByteArray.data_extract]
  · cases hs

def srcT : TypeDesc → Bool
  | .string | .slice _ => true
  | _ => false

theorem run_append_in {t u ty el : TypeId} {d : TypeDesc} {sz n sLen sCap : Nat} {base : Addr} {x : Value} {news : List Value} (ht : P.underlying t = some (.slice el))
    (hu : P.underlying u = some d) (hd : srcT d = true) (hs : sizeT P el = some sz) (hl : ∀ w' : World, (Builtin.lenOf x).run P w' = .ok n w') (hn : (Builtin.firstCells sz n x).run P w = .ok news.toArray w) (hle : sLen + n ≤ sCap) :
    (Builtin.append_ #[t, u] ty #[.slice (some base) sLen sCap, x]).run P w = ((storeCells (base.add (sLen * sz)) news).run P w).andThen fun _ w' => .ok (.slice (some base) (sLen + n) sCap) w' := by
  cases d <;> (try (simp [srcT] at hd; done)) <;> simp [Builtin.append_, run_underlying ht, run_underlying hu, run_sizeOf hs, hl, hn, hle]

theorem run_append_in_nil {t u ty el : TypeId} {d : TypeDesc} {sz sLen sCap : Nat} {x : Value} (ht : P.underlying t = some (.slice el))
    (hu : P.underlying u = some d) (hd : srcT d = true) (hs : sizeT P el = some sz) (hl : ∀ w' : World, (Builtin.lenOf x).run P w' = .ok 0 w') (hn : (Builtin.firstCells sz 0 x).run P w = .ok #[] w) (hle : sLen ≤ sCap) :
    (Builtin.append_ #[t, u] ty #[.slice none sLen sCap, x]).run P w = .ok (.slice none sLen sCap) w := by
  cases d <;> (try (simp [srcT] at hd; done)) <;> simp [Builtin.append_, run_underlying ht, run_underlying hu, run_sizeOf hs, hl, hn, hle]

theorem run_append_new {t u ty el : TypeId} {d : TypeDesc} {i : TypeInfo} {z : Value} {sz n sLen sCap : Nat} {base : Option Addr} {x : Value} {olds news : List Value} (ht : P.underlying t = some (.slice el))
    (hu : P.underlying u = some d) (hd : srcT d = true) (hi : P.info? el = some i) (hiz : i.zero = some z) (hs : i.size = sz) (hl : ∀ w' : World, (Builtin.lenOf x).run P w' = .ok n w')
    (ho : (Builtin.firstCells sz sLen (.slice base sLen sCap)).run P w.drew = .ok olds.toArray w.drew) (hn : (Builtin.firstCells sz n x).run P w.drew = .ok news.toArray w.drew) (hlt : sCap < sLen + n)
    (h63 : sLen + n ≤ 9223372036854775807) (hfit : (sLen + n) * i.bytes ≤ 140737488355328) :
    (Builtin.append_ #[t, u] ty #[.slice base sLen sCap, x]).run P w = .ok (.slice (some ⟨w.heap.size, 0, none⟩) (sLen + n) (grownCap w (sLen + n) sCap el))
      (w.drew.alloc (.cells (olds.toArray ++ news.toArray ++ Builtin.zeroCells z.cells (grownCap w (sLen + n) sCap el - (sLen + n))) el)) := by
  have hno : ¬ (sLen + n ≤ sCap) := by omega
  have h63' : ¬ (9223372036854775807 < ((sLen : Int) + (n : Int))) := by omega
  have h48 := growslice_fits hlt hfit
  have h48' : ¬ (281474976710656 < Builtin.nextslicecap (sLen + n) sCap * i.bytes) := by omega
  subst hs
  cases d <;> (try (simp [srcT] at hd; done)) <;>
    (simp [Builtin.append_, run_underlying ht, run_underlying hu, sizeOf, typeInfo, zeroValue, hi, hiz, hl, hno, h63', h48', Question.forced, ho, hn, newRow, grownCap]
     try (congr 2; apply Array.ext'; simp [List.append_assoc]))
end
end Go.AE
namespace Go.AE
open Go

def aappend (P : Program) (h : AH) (t u : TypeId) (s x : Value) : Option (Value × AH) :=
  match P.underlying t, P.underlying u with
  | some (.slice el), some d => match srcT d, P.info? el with
    | true, some i => match i.zero, asrc h i.size x with
      | some z, some (n, news) =>
        if closed z ∧ z.cells.size = i.size ∧ 0 < i.size then
          match s with
          | .slice none 0 0 =>
            if n = 0 then some (.slice none 0 0, h)
            else if n * i.bytes ≤ 140737488355328 ∧ n ≤ 9223372036854775807 then some (.slice (some ⟨h.next, 0, none⟩) n 0, h.push (.cells news el (some i.size) false)) else none
          | .slice (some a) len c =>
            if (len + n) * i.bytes ≤ 140737488355328 ∧ len + n ≤ 9223372036854775807 then
              match h.get a.block with
              | some (.cells cs el' none ro) =>
                if len + n ≤ c then
                  if a.off + len * i.size + news.length ≤ cs.length ∧ ro = false ∧ news.all (·.oneCell') ∧ a.spot = none then
                    some (.slice (some a) (len + n) c, h.put a.block (some (.cells (lspl cs (a.off + len * i.size) news) el' none ro)))
                  else none
                else match acells h a (len * i.size) with
                  | some olds => some (.slice (some ⟨h.next, 0, none⟩) (len + n) 0, h.push (.cells (olds ++ news) el (some i.size) false))
                  | none => none
              | some (.cells cs el' (some sz) ro) =>
                if bigC ≤ c then
                  if len + n ≤ c - bigC then
                    if a.off + len * i.size + news.length ≤ cs.length ∧ ro = false ∧ news.all (·.oneCell') ∧ a.spot = none then
                      some (.slice (some a) (len + n) c, h.put a.block (some (.cells (lspl cs (a.off + len * i.size) news) el' (some sz) ro)))
                    else none
                  else match acells h a (len * i.size) with
                    | some olds => some (.slice (some ⟨h.next, 0, none⟩) (len + n) 0, h.push (.cells (olds ++ news) el (some i.size) false))
                    | none => none
                else if a.off = 0 ∧ c = 0 ∧ sz = i.size ∧ el' = el ∧ ro = false ∧ cs.length = len * i.size ∧ news.all (·.oneCell') then
                  some (.slice (some ⟨h.next, 0, none⟩) (len + n) 0, (h.put a.block none).push (.cells (cs ++ news) el (some i.size) false))
                else none
              | _ => none
            else none
          | _ => none
        else none
      | _, _ => none
    | _, _ => none
  | _, _ => none

section
variable {P : Program} {G : Nat} {ρ : Rho} {h : AH} {w : World} {e e' : Operand → Value}

theorem grownCap_ge (w : World) (need old : Nat) (el : TypeId) : need ≤ grownCap w need old el := by
  simp only [grownCap, Question.cut]; omega

theorem zeroCells_size (z : Array Value) (n : Nat) : (Builtin.zeroCells z n).size = n * z.size := by simp [Builtin.zeroCells]

/-- A new, greater array. -/
theorem grow_ok (H : WR G ρ h w) {el : TypeId} {i : TypeInfo} {z : Value} (hz : z.cells.size = i.size) {need old : Nat} {cells cells' : List Value} (hc : renL ρ cells = some cells') (hlen : cells'.length = need * i.size) :
    WR G (ρ.bind h.next w.heap.size (some (grownCap w need old el))) (h.push (.cells cells el (some i.size) false)) (w.drew.alloc (.cells (cells'.toArray ++ Builtin.zeroCells z.cells (grownCap w need old el - need)) el)) ∧
    Ext ρ h w (ρ.bind h.next w.heap.size (some (grownCap w need old el))) (h.push (.cells cells el (some i.size) false)) (w.drew.alloc (.cells (cells'.toArray ++ Builtin.zeroCells z.cells (grownCap w need old el - need)) el)) := by
  refine push_open H hc el _ (Builtin.zeroCells z.cells (grownCap w need old el - need)).toList (by simp) i.size _ ?_ (0, 0) (.inl rfl) _ rfl rfl rfl rfl
  have hge := grownCap_ge w need old el
  rw [Array.size_append, zeroCells_size, hz]
  simp only [List.size_toArray, hlen]
  rw [← Nat.add_mul]
  congr 1
  omega

theorem ren_open (ρ : Rho) (i b n C : Nat) : ren (ρ.bind i b (some C)) (.slice (some ⟨i, 0, none⟩) n 0) = some (.slice (some ⟨b, 0, none⟩) n C) := by
  have h0 : renC (ρ.bind i b (some C)) i 0 = some C := by
    rw [renC_rel (C := C) (by simp [Rho.bind]) (by decide) (Nat.zero_le _)]; rfl
  simp only [ren, ren_new, Option.bind_some, h0]
  rfl

theorem add_form {a : Addr} (hs : a.spot = none) (j : Nat) : a.add j = ⟨a.block, a.off + j, none⟩ := by
  obtain ⟨b, o, s⟩ := a
  simp only at hs
  subst hs
  exact Addr.add_lit b o j

def AppAt (P : Program) (G : Nat) (ρ : Rho) (h : AH) (w : World) (ts : Array TypeId) (ty : TypeId) (s' x' : Value) (r : Value × AH) : Prop :=
  ∃ ρ' v' w', WR G ρ' r.2 w' ∧ Ext ρ h w ρ' r.2 w' ∧ ren ρ' r.1 = some v' ∧ (Builtin.append_ ts ty #[s', x']).run P w = .ok v' w'

theorem append_ok (H : WR G ρ h w) {t u ty : TypeId} {s x s' x' : Value} {r : Value × AH} (ha : aappend P h t u s x = some r) (hs : ren ρ s = some s') (hx : ren ρ x = some x') : AppAt P G ρ h w #[t, u] ty s' x' r := by
  unfold aappend at ha
  split at ha
  case h_2 => cases ha
  rename_i el d ht hu
  split at ha
  case h_2 => cases ha
  rename_i i hd hi
  split at ha
  case h_2 => cases ha
  rename_i z n news hiz hsrc
  split at ha
  case isFalse => cases ha
  rename_i hzz
  obtain ⟨hzc, hzs, hsz⟩ := hzz
  obtain ⟨news', r1, r2, r3, r4⟩ := src_ok H hsrc hx
  have hsT : sizeT P el = some i.size := by simp [sizeT, hi]
  have hfull : ∀ w' : World, w'.heap = w.heap → (Builtin.firstCells i.size n x').run P w' = .ok news'.toArray w' := fun w' hw' => by
    have := r4 n (Nat.le_refl _) w' hw'
    rwa [← r2, List.take_length] at this
  split at ha
  · -- nil
    simp [ren] at hs; subst hs
    split at ha
    · rename_i hn; subst hn
      cases ha
      have := r4 0 (Nat.le_refl _) w rfl
      exact ⟨ρ, .slice none 0 0, w, H, Ext.refl _ _ _, by simp [ren], run_append_in_nil ht hu hd hsT r3 (by simpa using this) (Nat.le_refl _)⟩
    · rename_i hn
      split at ha
      case isFalse => cases ha
      rename_i hb
      cases ha
      have hrun := run_append_new (ty := ty) (w := w) (base := none) (sLen := 0) (sCap := 0) (olds := []) ht hu hd hi hiz rfl r3 (by simp [Builtin.firstCells]) (hfull w.drew rfl) (by omega) (by omega) (by simpa using hb.1)
      obtain ⟨g1, g2⟩ := grow_ok (el := el) (old := 0) (z := z) H hzs r1 (need := n) r2
      refine ⟨_, _, _, g1, g2, ren_open _ _ _ _ _, ?_⟩
      rw [hrun]
      simp
  · rename_i a len c
    split at ha
    case isFalse => cases ha
    rename_i hb
    obtain ⟨b, c', q1, q2, rfl⟩ := ren_slice hs
    obtain ⟨hsp, hbf, hblk⟩ := renA_form q1
    split at ha
    · rename_i cs el' ro hg
      have hop : h.opn a.block = some none := by simp [AH.opn, hg]
      have hc' := renC_closed H hop q2
      subst hc'
      split at ha
      · rename_i hle
        split at ha
        case isFalse => cases ha
        rename_i hcond
        obtain ⟨k1, rfl, k3, k4⟩ := hcond
        cases ha
        have hadd := renA_add q1 (len * i.size)
        have hab : (a.add (len * i.size)).block = a.block := add_block _ _
        have hao : (a.add (len * i.size)).off = a.off + len * i.size := by rw [add_form k4]
        obtain ⟨w', s1, s2, s3⟩ := stores_ok P H (a := a.add (len * i.size)) (by rw [hab]; exact hg) hadd r1 (by rw [hao]; exact k1) k3
        rw [hab, hao] at s2 s3
        refine ⟨ρ, .slice (some b) (len + n) c', w', s2, s3, ren_slice_mk H hop q1, ?_⟩
        rw [run_append_in ht hu hd hsT r3 (hfull w rfl) hle, s1]
        rfl
      · rename_i hnle
        split at ha
        case h_2 => cases ha
        rename_i olds hol
        cases ha
        obtain ⟨olds', o1, o2, o3⟩ := cells_ok H hol q1
        have hfo : (Builtin.firstCells i.size len (.slice (some b) len c')).run P w.drew = .ok olds'.toArray w.drew := run_firstCells_some w.drew i.size len b len c' olds' o2 (by simpa using o3)
        have hrun := run_append_new (ty := ty) (w := w) (base := some b) (sLen := len) (sCap := c') ht hu hd hi hiz rfl r3 hfo (hfull w.drew rfl) (by omega) hb.2 hb.1
        have hcat : renL ρ (olds ++ news) = some (olds' ++ news') := renL_append.2 ⟨_, _, o1, r1, rfl⟩
        obtain ⟨g1, g2⟩ := grow_ok (el := el) (old := c') (z := z) H hzs hcat (need := len + n) (by rw [List.length_append, o2, r2, Nat.add_mul])
        refine ⟨_, _, _, g1, g2, ren_open _ _ _ _ _, ?_⟩
        rw [hrun]
        simp
    · rename_i cs el' sz ro hg
      split at ha
      · -- a capacity that is known
        rename_i hbig
        obtain ⟨k, rfl⟩ : ∃ k, c = bigC + k := ⟨c - bigC, by omega⟩
        obtain ⟨C, hC, _⟩ := open_cap H (sz := sz) (L := cs.length) (by simp [AH.ocap, hg]) q1
        have q2k := q2
        rw [renC_abs hC] at q2k
        obtain rfl : k = c' := Option.some.inj q2k
        rw [Nat.add_sub_cancel_left] at ha
        split at ha
        · rename_i hle
          split at ha
          case isFalse => cases ha
          rename_i hcond
          obtain ⟨k1, rfl, k3, k4⟩ := hcond
          cases ha
          have hadd := renA_add q1 (len * i.size)
          have hab : (a.add (len * i.size)).block = a.block := add_block _ _
          have hao : (a.add (len * i.size)).off = a.off + len * i.size := by rw [add_form k4]
          obtain ⟨w', s1, s2, s3⟩ := stores_ok P H (a := a.add (len * i.size)) (by rw [hab]; exact hg) hadd r1 (by rw [hao]; exact k1) k3
          rw [hab, hao] at s2 s3
          refine ⟨ρ, .slice (some b) (len + n) k, w', s2, s3, by simp only [ren, q1, q2, Option.bind_some, Option.map_some], ?_⟩
          rw [run_append_in ht hu hd hsT r3 (hfull w rfl) hle, s1]
          rfl
        · rename_i hnle
          split at ha
          case h_2 => cases ha
          rename_i olds hol
          cases ha
          obtain ⟨olds', o1, o2, o3⟩ := cells_ok H hol q1
          have hfo : (Builtin.firstCells i.size len (.slice (some b) len k)).run P w.drew = .ok olds'.toArray w.drew := run_firstCells_some w.drew i.size len b len k olds' o2 (by simpa using o3)
          have hrun := run_append_new (ty := ty) (w := w) (base := some b) (sLen := len) (sCap := k) ht hu hd hi hiz rfl r3 hfo (hfull w.drew rfl) (by omega) hb.2 hb.1
          have hcat : renL ρ (olds ++ news) = some (olds' ++ news') := renL_append.2 ⟨_, _, o1, r1, rfl⟩
          obtain ⟨g1, g2⟩ := grow_ok (el := el) (old := k) (z := z) H hzs hcat (need := len + n) (by rw [List.length_append, o2, r2, Nat.add_mul])
          refine ⟨_, _, _, g1, g2, ren_open _ _ _ _ _, ?_⟩
          rw [hrun]
          simp
      split at ha
      case isFalse => cases ha
      rename_i hcond
      obtain ⟨k1, rfl, rfl, rfl, rfl, k6, k7⟩ := hcond
      cases ha
      obtain ⟨b', y, p1, p2, p3⟩ := H.obj _ _ hg
      rw [hblk] at p1; cases p1
      cases y <;> simp only [ObjR] at p3
      rename_i arr t' fz
      obtain ⟨p30, ⟨c1, tail, p4, p5, _⟩, p6, _, p7⟩ := p3
      obtain rfl := p30.resolve_left (by simp)
      obtain ⟨C, hC, hsize⟩ := p7 _ rfl
      have hcC : c' = C := by
        rw [renC_rel hC (by decide) (Nat.zero_le _)] at q2; simpa using q2.symm
      subst hcC
      have hc1 := renL_length p5
      have hal : arr.size = c1.length + tail.length := by
        have := congrArg List.length p4
        simpa using this
      have hcat : renL ρ (cs ++ news) = some (c1 ++ news') := renL_append.2 ⟨_, _, p5, r1, rfl⟩
      by_cases hle : len + n ≤ c'
      · -- in place
        have hmul : (len + n) * i.size ≤ c' * i.size := Nat.mul_le_mul_right _ hle
        rw [Nat.add_mul] at hmul
        have hbd : b.off = 0 := by rw [hbf]; exact k1
        have hbsp : b.spot = none := by rw [hbf]
        have hbs : b = ⟨b.block, 0, none⟩ := by
          obtain ⟨b1, b2, b3⟩ := b
          simp only at hbd hbsp
          rw [hbd, hbsp]
        have hadd : b.add (len * i.size) = ⟨b.block, len * i.size, none⟩ := by rw [add_form hbsp, hbd, Nat.zero_add]
        have hst := run_stores P news' (len * i.size) 0 arr w p2 (by omega) (p6.resolve_left (by simp)) (renL_all (fun v v' => oneCell_ren v v') r1 k7)
        have hrun := run_append_in (ty := ty) (w := w) (base := b) (sLen := len) (sCap := c') ht hu hd hsT r3 (hfull w rfl) hle
        rw [hadd, hst] at hrun
        refine ⟨ρ.bind h.next b.block (some c'), .slice (some b) (len + n) c', { w with heap := w.heap.setIfInBounds b.block (.cells (spl arr (len * i.size + 0) news') t' fz) }, ?_, ?_, ?_, hrun⟩
        · refine H.move hg hblk rfl ?_
          have hle' := Rho.le_bind (H.fresh h.next (Nat.le_refl _)) b.block (some c')
          simp only [ObjR]
          refine ⟨.inr trivial, ⟨c1 ++ news', tail.drop news'.length, ?_, renL_mono hle' _ _ hcat, fun q => by cases q⟩, by simpa [spl_size] using p6, fun q => (by cases q), fun s q => ⟨c', by simp [Rho.bind], by cases q; simpa [spl_size] using hsize⟩⟩
          rw [spl_toList, p4, Nat.add_zero]
          have hk : len * i.size = c1.length := by omega
          rw [hk]
          have key : ∀ (vs tl : List Value) (pre : List Value), vs.length ≤ tl.length → lspl (pre ++ tl) pre.length vs = pre ++ vs ++ tl.drop vs.length := by
            intro vs
            induction vs with
            | nil => intro tl pre _; simp [lspl]
            | cons v vs ih =>
              intro tl pre hl
              cases tl with
              | nil => simp at hl
              | cons x tl =>
                simp only [lspl]
                have e1 : (pre ++ x :: tl).set pre.length v = (pre ++ [v]) ++ tl := by simp
                rw [e1]
                have := ih tl (pre ++ [v]) (by simpa using hl)
                rw [List.length_append] at this
                simp only [List.length_cons, List.length_nil, Nat.zero_add] at this
                rw [this]
                simp
          exact key news' tail c1 (by omega)
        · exact Ext.move H hg rfl hblk rfl rfl rfl rfl
        · rw [hbs]; exact ren_open _ _ _ _ _
      · -- a new array
        have hdrop := H.drop a.block
        have hfo : (Builtin.firstCells i.size len (.slice (some b) len c')).run P w.drew = .ok c1.toArray w.drew := by
          refine run_firstCells_some w.drew i.size len b len c' c1 (by omega) fun j v hv => ?_
          have hbd : b.off = 0 := by rw [hbf]; exact k1
          have hbsp : b.spot = none := by rw [hbf]
          have hj := (List.getElem?_eq_some_iff.1 hv).1
          have : arr[j]? = some v := by
            have : arr.toList[j]? = some v := by rw [p4, List.getElem?_append_left hj]; exact hv
            simpa using this
          rw [add_form hbsp, hbd, Nat.zero_add]
          have hcell : (w.drew).heap[b.block]? = some (.cells arr t' fz) := p2
          simp [World.cell?, hcell, this]
        have hrun := run_append_new (ty := ty) (w := w) (base := some b) (sLen := len) (sCap := c') ht hu hd hi hiz rfl r3 hfo (hfull w.drew rfl) (by omega) hb.2 hb.1
        obtain ⟨g1, g2⟩ := grow_ok (el := t') (old := c') (z := z) hdrop hzs hcat (need := len + n) (by rw [List.length_append, hc1, k6, r2, Nat.add_mul])
        refine ⟨_, _, _, g1, (Ext.drop ρ h w a.block).trans g2, ren_open _ _ _ _ _, ?_⟩
        rw [hrun]
        simp
    · cases ha
  · cases ha
end
end Go.AE
namespace Go.AE
open Go

/-! copy -/
def acopy (P : Program) (h : AH) (t : TypeId) (dst src : Value) : Option (Value × AH) :=
  match P.underlying t with
  | some (.slice el) => match sizeT P el, dst with
    | some sz, .slice (some a) dLen _ => match asrc h sz src, h.get a.block with
      | some (m, news), some (.cells cs el' o ro) =>
        let vs := news.take (Nat.min m dLen * sz)
        if a.off + vs.length ≤ cs.length ∧ ro = false ∧ vs.all (·.oneCell') then some (.int .i64 (Nat.min m dLen), h.put a.block (some (.cells (lspl cs a.off vs) el' o ro))) else none
      | _, _ => none
    | some sz, .slice none dLen _ => match asrc h sz src with
      | some (m, _) => some (.int .i64 (Nat.min m dLen), h)
      | none => none
    | _, _ => none
  | _ => none

def aclear (P : Program) (h : AH) (t : TypeId) (x : Value) : Option (Value × AH) :=
  match P.underlying t with
  | some (.slice el) => match azero P el, x with
    | some z, .slice (some a) (n + 1) _ => match h.get a.block with
      | some (.cells cs el' o ro) =>
        let vs := (Builtin.zeroCells z.cells (n + 1)).toList
        if a.off + vs.length ≤ cs.length ∧ ro = false ∧ vs.all (·.oneCell') ∧ closedL vs then some (.tuple #[], h.put a.block (some (.cells (lspl cs a.off vs) el' o ro))) else none
      | _ => none
    | some _, .slice _ 0 _ => some (.tuple #[], h)
    | _, _ => none
  | _ => none

def abuildSlice (P : Program) (h : AH) (t : TypeId) (len : Nat) (parts : List (Nat × Value)) : Option (Value × AH) :=
  match P.underlying t with
  | some (.slice el) => match sizeT P el, azero P el with
    | some sz, some z =>
      let base : Array Value := (Array.range (len * sz)).map (z.cells[· % z.cells.size]!)
      if len * sz ≤ 2 ^ 24 ∧ len * sz ≠ 0 ∧ closedArr base then
        match Instr.fill (fun i => some (i * sz, sz)) base parts with
        | some cells => some (.slice (some ⟨h.next, 0, none⟩) len len, h.push (.cells cells.toList el none false))
        | none => none
      else none
    | _, _ => none
  | _ => none

def amakeSlice (P : Program) (h : AH) (t : TypeId) (l c : Value) : Option (Value × AH) :=
  match P.underlying t, l, c with
  | some (.slice el), .int _ l, .int _ c => match P.info? el with
    | some i => match i.zero with
      | some z =>
        if 0 ≤ l ∧ l ≤ c ∧ (i.bytes : Int) * c ≤ 281474976710656 ∧ c ≤ 9223372036854775807 ∧ closedArr (madeCells z.cells (c.toNat * i.size)) then
          some (.slice (some ⟨h.next, 0, none⟩) l.toNat c.toNat, h.push (.cells (madeCells z.cells (c.toNat * i.size)).toList el none false))
        else none
      | none => none
    | none => none
  | _, _, _ => none

def u8? : Value → Option Int
  | .int .u8 n => some n
  | _ => none
def intsOf : List Value → Option (List Int)
  | [] => some []
  | v :: l => (u8? v).bind fun n => (intsOf l).map (n :: ·)

def abytes (P : Program) (h : AH) (src dst : TypeId) (x : Value) : Option (Value × AH) :=
  match P.underlying src, P.underlying dst, x with
  | some (.slice e), some .string, .slice (some a) n _ => match P.underlying e with
    | some (.int .u8) => match acells h a n with
      | some l => (intsOf l).map fun ns => (.string ⟨(ns.map fun n => UInt8.ofNat n.toNat).toArray⟩, h)
      | none => none
    | _ => none
  | some (.slice e), some .string, .chan (some _) => match P.underlying e with
    | some (.int .u8) => some (.string ⟨#[]⟩, h)
    | _ => none
  | some _, some (.slice e), .string s => match P.underlying e with
    | some (.int .u8) => if (s.size : Int) ≤ 9223372036854775807 then some (.slice (some ⟨h.next, 0, none⟩) s.size 0, h.push (.cells (s.data.toList.map fun b => .int .u8 b.toNat) e (some 1) false)) else none
    | _ => none
  | _, _, _ => none

section
variable {P : Program} {G : Nat} {ρ : Rho} {h : AH} {w : World} {e e' : Operand → Value}

def RunAt (P : Program) (G : Nat) (ρ : Rho) (h : AH) (w : World) (s : Sem Value) (r : Value × AH) : Prop :=
  ∃ ρ' v' w', WR G ρ' r.2 w' ∧ Ext ρ h w ρ' r.2 w' ∧ ren ρ' r.1 = some v' ∧ s.run P w = .ok v' w'

theorem copy_ok (H : WR G ρ h w) {t u ty : TypeId} {dst src d' s' : Value} {r : Value × AH} (ha : acopy P h t dst src = some r) (hd : ren ρ dst = some d') (hs : ren ρ src = some s') : RunAt P G ρ h w (Builtin.copy_ #[t, u] ty #[d', s']) r := by
  unfold acopy at ha
  split at ha
  case h_2 => cases ha
  rename_i el ht
  split at ha
  case h_3 => cases ha
  · rename_i sz a dLen c hsz
    split at ha
    case h_2 => cases ha
    rename_i m news cs el' o ro hsrc hg
    dsimp only at ha
    split at ha
    case isFalse => cases ha
    rename_i hcond
    obtain ⟨k1, rfl, k3⟩ := hcond
    cases ha
    obtain ⟨news', r1, r2, r3, r4⟩ := src_ok (P := P) H hsrc hs
    obtain ⟨b, c', q1, _, rfl⟩ := ren_slice hd
    obtain ⟨w', s1, s2, s3⟩ := stores_ok P H hg q1 (renL_take (Nat.min m dLen * sz) r1) k1 k3
    refine ⟨ρ, .int .i64 (Nat.min m dLen), w', s2, s3, by simp [ren], ?_⟩
    have h4 := r4 (Nat.min m dLen) (Nat.min_le_left _ _) w rfl
    simp only [Builtin.copy_, List.getElem?_toArray]
    simp only [List.getElem?_cons_zero, List.getElem?_cons_succ, Sem.run_bind, run_underlying ht, Result.andThen_ok, r3, run_sizeOf hsz, h4, s1]
    rfl
  · rename_i sz dLen c hsz
    split at ha
    case h_2 => cases ha
    rename_i m news hsrc
    cases ha
    obtain ⟨news', r1, r2, r3, r4⟩ := src_ok (P := P) H hsrc hs
    simp [ren] at hd; subst hd
    refine ⟨ρ, .int .i64 (Nat.min m dLen), w, H, Ext.refl _ _ _, by simp [ren], ?_⟩
    have h4 := r4 (Nat.min m dLen) (Nat.min_le_left _ _) w rfl
    simp only [Builtin.copy_, List.getElem?_toArray, List.getElem?_cons_zero, List.getElem?_cons_succ, Sem.run_bind, run_underlying ht, Result.andThen_ok, r3, run_sizeOf hsz, h4]
    rfl

theorem clear_ok (H : WR G ρ h w) {t ty : TypeId} {x x' : Value} {r : Value × AH} (ha : aclear P h t x = some r) (hx : ren ρ x = some x') : RunAt P G ρ h w (Builtin.clear_ #[t] ty #[x']) r := by
  unfold aclear at ha
  split at ha
  case h_2 => cases ha
  rename_i el ht
  split at ha
  case h_3 => cases ha
  · rename_i z a n c hz
    split at ha
    case h_2 => cases ha
    rename_i cs el' o ro hg
    dsimp only at ha
    split at ha
    case isFalse => cases ha
    rename_i hcond
    obtain ⟨k1, rfl, k3, k4⟩ := hcond
    cases ha
    obtain ⟨b, c', q1, _, rfl⟩ := ren_slice hx
    obtain ⟨w', s1, s2, s3⟩ := stores_ok P H hg q1 (closedL_ren ρ _ k4) k1 k3
    refine ⟨ρ, .tuple #[], w', s2, s3, by simp [ren, renArr, renL], ?_⟩
    simp [Builtin.clear_, run_underlying ht, run_zero hz, s1]
  · rename_i z a c hz
    cases ha
    cases a with
    | none =>
      simp [ren] at hx; subst hx
      exact ⟨ρ, .tuple #[], w, H, Ext.refl _ _ _, by simp [ren, renArr, renL], by simp [Builtin.clear_, run_underlying ht]⟩
    | some a =>
      obtain ⟨b, c', q1, _, rfl⟩ := ren_slice hx
      exact ⟨ρ, .tuple #[], w, H, Ext.refl _ _ _, by simp [ren, renArr, renL], by simp [Builtin.clear_, run_underlying ht]⟩

theorem newSlice_ok (H : WR G ρ h w) {cells cells' : Array Value} (hc : renArr ρ cells = some cells') (el : TypeId) (n c : Nat) {s : Sem Value} (hs : s.run P w = .ok (.slice (some ⟨w.heap.size, 0, none⟩) n c) (w.alloc (.cells cells' el))) :
    RunAt P G ρ h w s (.slice (some ⟨h.next, 0, none⟩) n c, h.push (.cells cells.toList el none false)) := by
  obtain ⟨h1, h2⟩ := push_row H hc el
  refine ⟨_, _, _, h1, h2, ?_, hs⟩
  simp only [ren, ren_new, Option.bind_some, renC]
  simp [Rho.bind]

theorem buildSlice_ok (H : WR G ρ h w) {t : TypeId} {len : Nat} {ps ps' : List (Nat × Value)} {r : Value × AH} (ha : abuildSlice P h t len ps = some r) (h1 : ps'.map (·.1) = ps.map (·.1)) (h2 : renL ρ (ps.map (·.2)) = some (ps'.map (·.2))) :
    RunAt P G ρ h w (Instr.buildSlice t len ps'.toArray) r := by
  unfold abuildSlice at ha
  split at ha
  case h_2 => cases ha
  rename_i el ht
  split at ha
  case h_2 => cases ha
  rename_i sz z hsz hz
  dsimp only at ha
  split at ha
  case isFalse => cases ha
  rename_i hcond
  obtain ⟨k1, k2, k3⟩ := hcond
  split at ha
  case h_2 => cases ha
  rename_i cells hf
  cases ha
  obtain ⟨out', f1, f2⟩ := fill_ren h1 h2 (closedArr_ren ρ _ k3) hf
  refine newSlice_ok H f2 el len len ?_
  have k1' : ¬ (len * sz > 2 ^ 24) := by omega
  simp only [Instr.buildSlice, Sem.run_bind, run_underlying ht, run_sizeOf hsz, Result.andThen_ok, k1', if_false, k2, run_zero hz, Sem.run_pure, f1]
  simp [newRow]

theorem makeSlice_ok (H : WR G ρ h w) {t : TypeId} {l c : Value} {r : Value × AH} (ha : amakeSlice P h t l c = some r) : RunAt P G ρ h w (Instr.makeSlice t l c) r := by
  unfold amakeSlice at ha
  split at ha
  case h_2 => cases ha
  rename_i el kl l kc c ht
  split at ha
  case h_2 => cases ha
  rename_i i hi
  split at ha
  case h_2 => cases ha
  rename_i z hz
  split at ha
  case isFalse => cases ha
  rename_i hcond
  obtain ⟨k1, k2, k3, k4, k5⟩ := hcond
  cases ha
  exact newSlice_ok H (closedArr_ren ρ _ k5) el _ _ (run_make w t el i z ht hi hz kl kc l c k1 k2 k3 k4)

theorem u8?_spec {v : Value} {n : Int} (q : u8? v = some n) : v = .int .u8 n := by
  unfold u8? at q
  split at q
  · cases q; rfl
  · cases q

theorem intsOf_spec : ∀ {l : List Value} {ns : List Int}, intsOf l = some ns → l = ns.map (Value.int .u8)
  | [], ns, q => by simp [intsOf] at q; subst q; rfl
  | v :: l, ns, q => by
    simp only [intsOf, Option.bind_eq_some_iff, Option.map_eq_some_iff] at q
    obtain ⟨n, h1, ms, hm, rfl⟩ := q
    simp [intsOf_spec hm, u8?_spec h1]

theorem ints_ren (ns : List Int) : renL ρ (ns.map (Value.int .u8)) = some (ns.map (Value.int .u8)) := by
  induction ns with
  | nil => simp [renL]
  | cons n ns ih => simp only [List.map_cons]; exact renL_cons.2 ⟨_, _, by simp [ren], ih, rfl⟩

theorem bytes_ok (H : WR G ρ h w) {src dst : TypeId} {x x' : Value} {r : Value × AH} (ha : abytes P h src dst x = some r) (hx : ren ρ x = some x') : RunAt P G ρ h w (convert src dst x') r := by
  unfold abytes at ha
  split at ha
  · rename_i el a n c hs hd
    split at ha
    case h_2 => cases ha
    rename_i he
    split at ha
    case h_2 => cases ha
    rename_i l hl
    obtain ⟨ns, hns, rfl⟩ := Option.map_eq_some_iff.1 ha
    obtain ⟨b, c', q1, _, rfl⟩ := ren_slice hx
    obtain ⟨l', r1, r2, r3⟩ := cells_ok H hl q1
    have hl' := intsOf_spec hns
    subst hl'
    rw [ints_ren] at r1
    cases r1
    have hload := run_loadCells_list (P := P) w b (ns.map (Value.int .u8)) r3
    rw [r2] at hload
    refine ⟨ρ, .string ⟨(ns.map fun n => UInt8.ofNat n.toNat).toArray⟩, w, H, Ext.refl _ _ _, by simp [ren], ?_⟩
    rw [run_convert_bytes_string w src dst el _ n c' hs he hd, run_bytesToString w b n c' ns hload, foldl_push_bytes]
    simp [ByteArray.empty, ByteArray.emptyWithCapacity]
    try rfl
  · rename_i el v hs hd
    split at ha
    case h_2 => cases ha
    rename_i he
    cases ha
    simp only [ren] at hx
    obtain ⟨a, c, rfl⟩ := opq_form hx
    refine ⟨ρ, .string ⟨#[]⟩, w, H, Ext.refl _ _ _, by simp [ren], ?_⟩
    have hload : (loadCells a 0).run P w = .ok ([].map (Value.int .u8)).toArray w := by simp [loadCells, loadCellsFrom]
    rw [run_convert_bytes_string w src dst el _ 0 c hs he hd, run_bytesToString w a 0 c [] hload]
    rfl
  · rename_i d el s hs hd
    split at ha
    case h_2 => cases ha
    rename_i he
    split at ha
    case isFalse => cases ha
    cases ha
    simp [ren] at hx; subst hx
    let C := grownCap w s.size 0 el
    have hge : s.size ≤ C := grownCap_ge w s.size 0 el
    let elems : List Value := s.data.toList.map fun b => .int .u8 b.toNat
    let tail : List Value := List.replicate (C - s.size) (.int .u8 0)
    let w' : World := { w with heap := w.heap.push (.cells (elems ++ tail).toArray el (C, C + 1)), drawn := w.drawn + 1 }
    have hel : elems.length = s.size := by simp [elems]
    have hsz : (elems ++ tail).toArray.size = C := by simp only [List.size_toArray, List.length_append, hel, tail, List.length_replicate]; omega
    obtain ⟨g1, g2⟩ := push_open H (map_int_closed s.data.toList) el (elems ++ tail).toArray tail rfl 1 C (by omega) (C, C + 1) (.inr (by omega)) w' rfl rfl rfl rfl
    refine ⟨_, _, _, g1, g2, ren_open _ _ _ _ _, ?_⟩
    have hcap : (Question.appendCap s.size 0 el).cut (w.tape w.drawn (.appendCap s.size 0 el)) = C := rfl
    have harr : (Array.map (fun b : UInt8 => Value.int IntKind.u8 b.toNat) s.data ++ Array.replicate (C - s.size) (Value.int .u8 0)) = (elems ++ tail).toArray := by
      apply Array.ext'; simp [elems, tail]
    simp only [convert, Sem.run_bind, run_underlying hs, run_underlying hd, run_underlying he, Result.andThen_ok, Conv.stringToBytes, run_choose, Question.forced, Bool.false_eq_true, if_false, hcap, newRow, run_newObj, Sem.run_pure]
    rw [harr]
    have hshape : ∀ w1 : World, w1.heap = w.heap.push (.cells (elems ++ tail).toArray el (0, 0)) → (markStringish ⟨w.heap.size, 0, none⟩).run P w1 = .ok () (w1.freeze ⟨w.heap.size, C, none⟩ 1) := fun w1 hw1 => by
      have : w1.shape? w.heap.size = some (el, C) := by
        simp only [World.shape?, hw1, Array.getElem?_push_size, hsz]
      simp [markStringish, this]
    rw [hshape _ rfl]
    simp only [Result.andThen_ok]
    congr 1
    simp only [World.freeze, Nat.one_ne_zero, if_false, w']
    congr 1
    apply Array.ext_getElem?
    intro i
    rw [Array.getElem?_modify]
    by_cases hi : w.heap.size = i
    · subst hi; simp
    · rw [Array.getElem?_push, Array.getElem?_push]
      have : ¬ i = w.heap.size := fun q => hi q.symm
      simp [hi, this]
  · cases ha
end
end Go.AE
