import Derived.Test.YtlfjnddmeeigfabGreatDoorA6
namespace Go.AE
open Go

section
variable {P : Program} {G : Nat} {ρ : Rho} {h : AH} {w : World} {e e' : Operand → Value}

theorem eqIn_ptr (d : Nat) {t el : TypeId} (hu : P.underlying t = some (.pointer el)) (a : Addr) (w : World) : (Op.equalIn (d + 1) t (.pointer (some a)) (.pointer none)).run P w = .ok false w := by
  simp only [Op.equalIn, Sem.run_bind, run_underlying hu, Result.andThen_ok]; rfl
theorem eqIn_slice (d : Nat) {t el : TypeId} (hu : P.underlying t = some (.slice el)) (a : Addr) (n c m k : Nat) (w : World) : (Op.equalIn (d + 1) t (.slice (some a) n c) (.slice none m k)).run P w = .ok false w := by
  simp only [Op.equalIn, Sem.run_bind, run_underlying hu, Result.andThen_ok]; rfl
theorem eqIn_iface (d : Nat) {t : TypeId} {ms : Array (String × TypeId)} (hu : P.underlying t = some (.interface ms)) (u : TypeId) (v : Value) (w : World) : (Op.equalIn (d + 1) t (.iface u v) .nilIface).run P w = .ok false w := by
  simp only [Op.equalIn, Sem.run_bind, run_underlying hu, Result.andThen_ok]; rfl
theorem eqIn_func (d : Nat) {t : TypeId} {a b : Array TypeId} {c : Bool} (hu : P.underlying t = some (.func a b c)) (f : Fn) (x y : Array Value) (w : World) : (Op.equalIn (d + 1) t (.func f x y) .nilFunc).run P w = .ok false w := by
  simp only [Op.equalIn, Sem.run_bind, run_underlying hu, Result.andThen_ok]; rfl
theorem eq_eql {t : TypeId} {X Y : Value} (hE : ∀ w, (Op.equalIn (9999 + 1) t X Y).run P w = .ok false w) (w : World) : (do pure (Value.bool (← Op.equal t X Y)) : Sem Value).run P w = .ok (.bool false) w := by
  rw [Sem.run_bind]; erw [hE]; rfl
theorem eq_neq {t : TypeId} {X Y : Value} (hE : ∀ w, (Op.equalIn (9999 + 1) t X Y).run P w = .ok false w) (w : World) : (do pure (Value.bool (!(← Op.equal t X Y))) : Sem Value).run P w = .ok (.bool true) w := by
  rw [Sem.run_bind]; erw [hE]; rfl

theorem nilcmp {dst : Option Tmp} {bop : BinOp} {t yt type : TypeId} {x y : Operand} {pos : String} {after : Array Edge} {guard : Option (Nat × Bool)} {X Y : Value} {b : Bool} (hX : e' x = X) (hY : e' y = Y)
    (hg : eqGuard bop t x y X Y = pure ()) (hb : ∀ w, (binOp bop t X Y).run P w = .ok (.bool b) w) (w' : World) : (execOp e' ⟨dst, .binOp bop t x y yt, type, pos, after, guard⟩).run P w' = .ok (.value (.bool b)) w' := by
  simp only [execOp, hX, hY, hg, Sem.run_bind, Sem.run_pure, Result.andThen_ok, hb]

theorem aptr_ok (H : WR G ρ h w) (o : Oper) (hr : ∀ x ∈ o.op.operands, ren ρ (e x) = some (e' x)) {v : Value} (hv : aptr P h e o.op = some v) : PureAt P ρ e' o v := by
  obtain ⟨dst, op, type, pos, after, guard⟩ := o
  simp only at hr hv
  cases op <;> simp only [aptr] at hv <;> try (cases hv; done)
  case move x => cases hv; exact ⟨_, hr x (by simp [Op.operands]), fun _ => rfl⟩
  case assign x => cases hv; exact ⟨_, hr x (by simp [Op.operands]), fun _ => rfl⟩
  case pick c a b =>
    have hc := hr c (by simp [Op.operands])
    cases hce : e c <;> simp only [hce] at hv <;> try (cases hv; done)
    rename_i t
    rw [hce] at hc
    have hc' := ren_bool hc
    cases hv
    refine ⟨if t then e' a else e' b, ?_, fun w' => run_pick hc' w'⟩
    cases t
    · exact hr b (by simp [Op.operands])
    · exact hr a (by simp [Op.operands])
  case nilCheck x =>
    have hx := hr x (by simp [Op.operands])
    split at hv
    · rename_i a ha
      cases hv
      rw [ha] at hx
      obtain ⟨b, hb, hx'⟩ := ren_ptr hx
      exact ⟨.pointer (some b), by simp [ren, hb], fun w' => by simp only [execOp, hx']; rfl⟩
    · rename_i f first cap hf
      cases hv
      rw [hf] at hx
      have hx0 := hx
      simp only [ren, renF, Option.bind_eq_some_iff, Option.map_eq_some_iff] at hx
      obtain ⟨fn', hfn, f', hf', c', hc', hx'⟩ := hx
      cases hfn
      exact ⟨e' x, by rw [← hx0], fun w' => by simp only [execOp, ← hx']; rfl⟩
    · cases hv
  case makeInterface t x =>
    split at hv
    · rename_i hc
      cases hv
      have hx := hr x (by simp [Op.operands])
      refine ⟨.iface t (e' x), by simp [ren, hx], fun w' => ?_⟩
      simp only [execOp, Sem.run_bind, run_makeInterface _ _ _ hc, Result.andThen_ok, Sem.run_pure]
    · cases hv
  case makeFunc fn first cap =>
    have h1 := renArr_map (ρ := ρ) (e := e) (e' := e') first fun x hx => hr x (by simp [Op.operands, hx])
    have h2 := renArr_map (ρ := ρ) (e := e) (e' := e') cap fun x hx => hr x (by simp [Op.operands, hx])
    have key : ∀ fn', renF ρ fn = some fn' → fn' = fn → v = .func fn (first.map e) (cap.map e) → PureAt P ρ e' ⟨dst, .makeFunc fn first cap, type, pos, after, guard⟩ v := fun fn' q1 q2 q3 => by
      subst q3; subst q2
      exact ⟨.func fn' (first.map e') (cap.map e'), by simp only [ren, q1, h1, h2]; rfl, fun w' => by simp only [execOp, Instr.makeFunc]; rfl⟩
    cases fn <;> simp only at hv <;> first
      | (cases hv; done)
      | exact key _ rfl rfl (Option.some.inj hv).symm
  case extract x i =>
    have hx := hr x (by simp [Op.operands])
    cases hce : e x <;> simp only [hce] at hv <;> try (cases hv; done)
    rename_i vs
    rw [hce] at hx
    obtain ⟨vs', h1, h2⟩ := ren_tuple hx
    obtain ⟨v', h3, h4⟩ := renL_get i (renArr_iff.1 h1) v (by simpa using hv)
    have h5 : vs'[i]? = some v' := by simpa using h3
    refine ⟨v', h4, fun w' => ?_⟩
    simp only [execOp, h2, Instr.extract, h5]; rfl
  case field t x f =>
    have hx := hr x (by simp [Op.operands])
    split at hv
    · rename_i fields cs hu hce
      rw [hce] at hx
      obtain ⟨cs', h1, h2⟩ := ren_agg hx
      cases hf : fields[f]? with
      | none => simp [hf] at hv
      | some fd =>
        simp only [hf, Option.bind_some] at hv
        obtain ⟨v', h3, h4⟩ := apart_ok hv h1
        refine ⟨v', h3, fun w' => ?_⟩
        simp only [execOp, h2, Instr.field, Sem.run_bind, run_underlying hu, Result.andThen_ok, hf, asAgg, Sem.run_pure, h4]
    · cases hv
  case fieldAddr t x f =>
    have hx := hr x (by simp [Op.operands])
    split at hv
    · rename_i fields a hu hce
      rw [hce] at hx
      obtain ⟨b, h1, h2⟩ := ren_ptr hx
      cases hf : fields[f]? with
      | none => simp [hf] at hv
      | some fd =>
        simp only [hf, Option.bind_some] at hv
        split at hv
        · rename_i n hs
          cases hv
          refine ⟨.pointer (some (b.add fd.offset)), by simp [ren, renA_add h1], fun w' => ?_⟩
          simp [execOp, h2, Instr.fieldAt, run_underlying hu, hf, Instr.sureAddr, fieldPlace, run_sizeOf hs]
        · cases hv
    · cases hv
  case indexAddr t x i =>
    have hx := hr x (by simp [Op.operands])
    have hi := hr i (by simp [Op.operands])
    split at hv
    · rename_i el a n c k z hu hce hci
      rw [hce] at hx
      rw [hci] at hi
      obtain ⟨b, c', h1, _, h2⟩ := ren_slice hx
      have h3 := ren_int hi
      split at hv
      · rename_i s hs
        split at hv
        · rename_i hin
          cases hv
          refine ⟨.pointer (some (b.add (z.toNat * s))), by simp [ren, renA_add h1], fun w' => ?_⟩
          simp [execOp, h2, h3, Instr.indexAt, asIntOf, run_underlying hu, hin, run_sizeOf hs]
        · cases hv
      · cases hv
    · rename_i n el a k z hu hce hci
      rw [hce] at hx
      rw [hci] at hi
      obtain ⟨b, h1, h2⟩ := ren_ptr hx
      have h3 := ren_int hi
      split at hv
      · rename_i s hs
        split at hv
        · rename_i hin
          cases hv
          refine ⟨.pointer (some (b.add (z.toNat * s))), by simp [ren, renA_add h1], fun w' => ?_⟩
          simp [execOp, h2, h3, Instr.indexAt, asIntOf, run_underlying hu, hin, run_sizeOf hs, Instr.sureAddr]
        · cases hv
      · cases hv
    · cases hv
  case build t ps =>
    split at hv
    case h_2 => cases hv
    rename_i z0 hz0
    split at hv
    case isFalse => cases hv
    rename_i hzc
    cases hb : P.built t (ps.toList.map fun p => (p.1, e p.2)) with
    | none => simp [hb] at hv
    | some cells =>
      simp only [hb, Option.map_some, Option.some.injEq] at hv
      subst hv
      have hl : renL ρ ((ps.toList.map fun p => (p.1, e p.2)).map (·.2)) = some ((ps.toList.map fun p => (p.1, e' p.2)).map (·.2)) := by
        have := renArr_map (ρ := ρ) (e := e) (e' := e') (ps.toList.map (·.2)).toArray fun x hx => hr x (by simpa [Op.operands] using hx)
        simpa [renArr_iff, List.map_map, Function.comp_def] using this
      have hbuilt : ∃ out', P.built t (ps.toList.map fun p => (p.1, e' p.2)) = some out' ∧ renArr ρ cells = some out' := by
        unfold Program.built at hb ⊢
        cases hit : P.info? t with
        | none => simp [hit] at hb
        | some it =>
          cases hu : P.underlying t with
          | none => simp [hit, hu] at hb
          | some d =>
            cases hz : it.zero with
            | none => cases d <;> simp [hit, hu, hz] at hb
            | some z =>
              cases d <;> try (simp [hit, hu] at hb; done)
              case array n el =>
                cases hie : P.info? el with
                | none => simp [hit, hu, hz, hie] at hb
                | some ie =>
                  simp only [hit, hu, hz, hie] at hb ⊢
                  have : z0 = z := by simpa [hit, hz] using hz0.symm
                  subst this
                  exact fill_ren (by simp [List.map_map, Function.comp_def]) hl (ren_cells ρ z0 z0 (closed_ren ρ z0 hzc)) hb
              case struct fields =>
                cases hpl : fields.toList.mapM (fun f => (P.info? f.type).map fun i => (f.offset, i.size)) with
                | none => simp [hit, hu, hz, hpl] at hb
                | some places =>
                  simp only [hit, hu, hz, hpl] at hb ⊢
                  have : z0 = z := by simpa [hit, hz] using hz0.symm
                  subst this
                  exact fill_ren (by simp [List.map_map, Function.comp_def]) hl (ren_cells ρ z0 z0 (closed_ren ρ z0 hzc)) hb
      obtain ⟨out', h1, h2⟩ := hbuilt
      refine ⟨.agg out', by simp [ren, h2], fun w' => ?_⟩
      simp only [execOp, Sem.run_bind]
      rw [run_build w' t _ out' (by simpa using h1)]
      rfl
  case typeAssert x xt a ok =>
    have hx := hr x (by simp [Op.operands])
    split at hv
    · rename_i want t u hu hce
      rw [hce] at hx
      have hx0 := hx
      obtain ⟨u', h1, h2⟩ := ren_iface hx
      split at hv
      · rename_i i hi
        split at hv
        · rename_i hm
          cases hv
          refine ⟨if ok then .tuple #[.iface t u', .bool true] else .iface t u', ?_, fun w' => ?_⟩
          · cases ok <;> simp [ren, renArr, renL, h1]
          · simp [execOp, h2, Instr.typeAssert, run_underlying hu, typeInfo, hi, hm]
        · cases hv
      · cases hv
    · rename_i d t u hnot hu hce
      rw [hce] at hx
      obtain ⟨u', h1, h2⟩ := ren_iface hx
      split at hv
      · cases hv
      · rename_i hni
        split at hv
        · rename_i hta
          cases hv
          refine ⟨if ok then .tuple #[u', .bool true] else u', ?_, fun w' => ?_⟩
          · cases ok <;> simp [ren, renArr, renL, h1]
          · subst hta
            cases d <;> first
              | exact absurd rfl (hni _)
              | simp [execOp, h2, Instr.typeAssert, run_underlying hu]
        · cases hv
    · cases hv
  case binOp bop t x y yt =>
    have hx := hr x (by simp [Op.operands])
    have hy := hr y (by simp [Op.operands])
    have fin : ∀ (b : Bool), v = .bool b → (∀ w', (execOp e' ⟨dst, .binOp bop t x y yt, type, pos, after, guard⟩).run P w' = .ok (.value (.bool b)) w') → PureAt P ρ e' ⟨dst, .binOp bop t x y yt, type, pos, after, guard⟩ v := fun b q1 q2 => by
      subst q1; exact ⟨.bool b, by simp [ren], q2⟩
    split at hv <;> first | (cases hv; done) | skip
    · rename_i hu hce hcy
      rw [hce] at hx; rw [hcy] at hy
      obtain ⟨b, _, hx⟩ := ren_ptr hx
      exact fin _ (Option.some.inj hv).symm (nilcmp hx (Option.some.inj (by simpa [ren] using hy)).symm rfl (eq_eql (eqIn_ptr 9999 hu b)))
    · rename_i hu hce hcy
      rw [hce] at hx; rw [hcy] at hy
      obtain ⟨b, _, hx⟩ := ren_ptr hx
      exact fin _ (Option.some.inj hv).symm (nilcmp hx (Option.some.inj (by simpa [ren] using hy)).symm rfl (eq_neq (eqIn_ptr 9999 hu b)))
    · rename_i hu hce hcy
      rw [hce] at hx; rw [hcy] at hy
      obtain ⟨b, c', _, _, hx⟩ := ren_slice hx
      exact fin _ (Option.some.inj hv).symm (nilcmp hx (Option.some.inj (by simpa [ren] using hy)).symm rfl (eq_eql (eqIn_slice 9999 hu b _ c' _ _)))
    · rename_i hu hce hcy
      rw [hce] at hx; rw [hcy] at hy
      obtain ⟨b, c', _, _, hx⟩ := ren_slice hx
      exact fin _ (Option.some.inj hv).symm (nilcmp hx (Option.some.inj (by simpa [ren] using hy)).symm rfl (eq_neq (eqIn_slice 9999 hu b _ c' _ _)))
    · rename_i hu hce hcy
      rw [hce] at hx; rw [hcy] at hy
      obtain ⟨b, _, hx⟩ := ren_iface hx
      exact fin _ (Option.some.inj hv).symm (nilcmp hx (Option.some.inj (by simpa [ren] using hy)).symm rfl (eq_eql (eqIn_iface 9999 hu _ b)))
    · rename_i hu hce hcy
      rw [hce] at hx; rw [hcy] at hy
      obtain ⟨b, _, hx⟩ := ren_iface hx
      exact fin _ (Option.some.inj hv).symm (nilcmp hx (Option.some.inj (by simpa [ren] using hy)).symm rfl (eq_neq (eqIn_iface 9999 hu _ b)))
    · rename_i hu hce hcy
      rw [hce] at hx; rw [hcy] at hy
      simp only [ren, Option.bind_eq_some_iff, Option.map_eq_some_iff] at hx
      obtain ⟨fn', _, f', _, c', _, hx⟩ := hx
      exact fin _ (Option.some.inj hv).symm (nilcmp hx.symm (Option.some.inj (by simpa [ren] using hy)).symm rfl (eq_eql (eqIn_func 9999 hu fn' f' c')))
    · rename_i hu hce hcy
      rw [hce] at hx; rw [hcy] at hy
      simp only [ren, Option.bind_eq_some_iff, Option.map_eq_some_iff] at hx
      obtain ⟨fn', _, f', _, c', _, hx⟩ := hx
      exact fin _ (Option.some.inj hv).symm (nilcmp hx.symm (Option.some.inj (by simpa [ren] using hy)).symm rfl (eq_neq (eqIn_func 9999 hu fn' f' c')))
  case slice t x lo hi mx =>
    have hx := hr x (by simp [Op.operands])
    have hlo : ∀ y, lo = some y → ren ρ (e y) = some (e' y) := fun y q => hr y (by simp [Op.operands, q])
    have hhi : ∀ y, hi = some y → ren ρ (e y) = some (e' y) := fun y q => hr y (by simp [Op.operands, q])
    have hmx : ∀ y, mx = some y → ren ρ (e y) = some (e' y) := fun y q => hr y (by simp [Op.operands, q])
    split at hv
    · rename_i el a n c hu hce
      rw [hce] at hx
      split at hv
      · rename_i s l u ho hs hl hh
        obtain ⟨b, h1, h2⟩ := ren_slice_closed H ho hx
        have hl' := numO_ren hl hlo
        have hh' := numO_ren hh hhi
        have fin : ∀ m : Int, ((mx = none ∧ m = c) ∨ (hi ≠ none ∧ numO e' c mx = some m)) → 0 ≤ l → l ≤ u → u ≤ m → m ≤ c →
            v = .slice (some (if m.toNat = l.toNat then a else a.add (l.toNat * s))) (u - l).toNat (m.toNat - l.toNat) → PureAt P ρ e' ⟨dst, .slice t x lo hi mx, type, pos, after, guard⟩ v := by
          intro m hm q0 q1 q2 q3 q4
          subst q4
          refine ⟨.slice (some (if m.toNat = l.toNat then b else b.add (l.toNat * s))) (u - l).toNat (m.toNat - l.toNat), ?_, fun w' => ?_⟩
          · split
            · exact ren_slice_mk H ho h1
            · exact ren_slice_mk H (by rw [add_block]; exact ho) (renA_add h1 _)
          · have e1 : (u - l).toNat = u.toNat - l.toNat := by omega
            simp only [execOp, h2, Instr.sliceAt, Sem.run_bind, run_underlying hu, Result.andThen_ok, Instr.slice, run_bounds hl' hh' hm q0 q1 q2 q3, run_sizeOf hs, Sem.run_pure, Option.map_some, e1]
            split <;> rfl
        split at hv
        · split at hv
          · rename_i hin
            refine fin c (.inl ⟨rfl, rfl⟩) hin.1 hin.2.1 hin.2.2 (Int.le_refl _) ?_
            simpa using (Option.some.inj hv).symm
          · cases hv
        · rename_i m
          split at hv
          · rename_i m' y hm
            split at hv
            · rename_i hin
              exact fin m' (.inr ⟨by simp, numO_ren hm hmx⟩) hin.1 hin.2.1 hin.2.2.1 hin.2.2.2 (Option.some.inj hv).symm
            · cases hv
          · cases hv
      · cases hv
    · rename_i n el a hu hce
      rw [hce] at hx
      obtain ⟨b, h1, h2⟩ := ren_ptr hx
      split at hv
      · rename_i s l u hs hl hh
        have hl' := numO_ren hl hlo
        have hh' := numO_ren hh hhi
        split at hv
        · rename_i hin
          obtain ⟨q0, q1, q2, ho⟩ := hin
          cases hv
          refine ⟨.slice (some (if n = l.toNat then b else b.add (l.toNat * s))) (u - l).toNat (n - l.toNat), ?_, fun w' => ?_⟩
          · split
            · exact ren_slice_mk H ho h1
            · exact ren_slice_mk H (by rw [add_block]; exact ho) (renA_add h1 _)
          · have e1 : (u - l).toNat = u.toNat - l.toNat := by omega
            have hb := run_bounds (P := P) (isS := false) (mx := none) (m := n) hl' hh' (.inl ⟨rfl, rfl⟩) q0 q1 q2 (Int.le_refl _)
            simp only [Option.map_none] at hb
            simp only [execOp, h2, Instr.sliceAt, Sem.run_bind, run_underlying hu, Result.andThen_ok, Instr.sureAddr, hb, run_sizeOf hs, Sem.run_pure, Option.map_none, e1, Int.toNat_natCast]
        · cases hv
      · cases hv
    · cases hv
  case call c =>
    obtain ⟨callee, args, ts⟩ := c
    cases callee <;> simp only at hv <;> try (cases hv; done)
    rename_i b
    have one : ∀ x, args.toList = [x] → args = #[x] := fun x q => by cases args; simp at q; simp [q]
    split at hv
    · rename_i x el harg hu
      have ha := one x harg
      subst ha
      have hx := hr x (by simp [Op.operands, Call.operands])
      obtain ⟨t0, ht0, hu0⟩ := Option.bind_eq_some_iff.1 hu
      split at hv
      · rename_i a n c hce
        cases hv
        rw [hce] at hx
        obtain ⟨b', c', _, _, h2⟩ := ren_slice hx
        refine ⟨.int .i64 n, by simp [ren], fun w' => ?_⟩
        simp [execOp, resolve, invoke, Go.builtin, Builtin.len_, ht0, h2, run_underlying hu0, goInt]
      · cases hv
    · rename_i x el harg hu
      have ha := one x harg
      subst ha
      have hx := hr x (by simp [Op.operands, Call.operands])
      obtain ⟨t0, ht0, hu0⟩ := Option.bind_eq_some_iff.1 hu
      split at hv
      · rename_i a n c hce
        split at hv
        · rename_i ho
          cases hv
          rw [hce] at hx
          obtain ⟨b', _, h2⟩ := ren_slice_closed H ho hx
          refine ⟨.int .i64 c, by simp [ren], fun w' => ?_⟩
          simp [execOp, resolve, invoke, Go.builtin, Builtin.cap_, ht0, h2, run_underlying hu0, goInt]
        · cases hv
      · cases hv
    · cases hv
end
end Go.AE
