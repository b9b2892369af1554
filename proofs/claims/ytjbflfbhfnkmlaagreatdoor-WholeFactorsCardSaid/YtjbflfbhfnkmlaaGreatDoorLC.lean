import Derived.Test.YtjbflfbhfnkmlaaGreatDoorLB
import Derived.Defers
import Derived.OrdersHeld
set_option linter.unusedVariables false
set_option linter.unusedSimpArgs false
namespace Go.AE
open Go
inductive AR1 where
  | val (v : Value) (h : AH)
  | enter (f : FuncId) (args : Array Value)
  | defer (d : Deferred)
  | recover
  | panic (v : Value)
  | round (l : Nat) (f : FuncId) (tmps : Array Value) (assign body : Code)
def hasBody (P : Program) (f : FuncId) : Bool :=
  match P.funcs[f]? with
  | some fn => fn.body.isSome && !(fn.name == "runtime.NumGoroutine")
  | none => false
def acallv (P : Program) (h : AH) (f : Value) (args : Array Value) : Option AR1 :=
  match f with
  | .func (.func g) first cap => if hasBody P g then some (.enter g (first ++ args ++ cap)) else none
  | .func (.yield l) first _ => match h.get l with
    | some (.loop r) => if (first ++ args).size = r.params.size then some (.round l r.fn ((r.params.zip (first ++ args)).foldl (fun tmps (t, a) => tmps.setIfInBounds t a) r.tmps) r.assign r.body) else none
    | _ => none
  | _ => none
def pv (o : Option (Value × AH)) : Option AR1 := o.map fun r => .val r.1 r.2
def eqOp : BinOp → Option Bool
  | .eql => some true
  | .neq => some false
  | _ => none
def aeff (P : Program) (h : AH) (e : Operand → Value) : Op → Option AR1
  | .load t x => match e x with
    | .pointer (some a) => (aload P h t a).map fun v => .val v h
    | _ => none
  | .store t x y => match e x with
    | .pointer (some a) => (astore P h t a (e y)).map fun h' => .val undef h'
    | _ => none
  | .alloc t => (azero P t).bind fun z => if closed z then some (.val (aalloc h t z).1 (aalloc h t z).2) else none
  | .box t x => some (.val (aalloc h t (e x)).1 (aalloc h t (e x)).2)
  | .buildSlice t len ps => pv (abuildSlice P h t len (ps.toList.map fun p => (p.1, e p.2)))
  | .makeSlice t l c => pv (amakeSlice P h t (e l) (e c))
  | .range t x => match P.underlying t, e x with
    | some .string, .string s => some (.val (.pointer (some ⟨h.next, 0, none⟩)) (h.push (.iter s 0)))
    | _, _ => if (mtype P t).isSome then pv (arangeMap h (e x)) else none
  | .next x b => if b then pv (anext h (e x)) else pv (anextMap h (e x))
  | .slice t x lo hi mx => match e x with
    | .slice (some a) n c => pv (aslq P h t (.slice (some a) n c) (numO e 0 lo) (numO e n hi) mx.isSome)
    | _ => none
  | .entry x => (aentry h (e x)).map fun v => .val v h
  | .makeMap t hint => if (mtype P t).isSome then pv (amakeMap h (hint.map e)) else none
  | .lookup t x k ok => (alookup P h t (e x) (e k) ok).map fun v => .val v h
  | .mapUpdate t m k x | .insert t m k x => (amapUpdate P h t (e m) (e k) (e x)).map fun h' => .val undef h'
  | .convert s d x => match pv (abytes P h s d (e x)) with
    | some r => some r
    | none => (aptrConv P h s d (e x)).map fun v => .val v h
  | .binOp op t x y _ => (eqOp op).bind fun b => if aptrSame P t (e x) (e y) then some (.val (.bool b) h) else none
  | .panic x => match e x with
    | .iface t v => some (.panic (.iface t v))
    | _ => none
  | .defer c => match c.callee with
    | .value f => match e f with
      | .func fn first cap => some (.defer { target := .fn fn cap, args := first ++ c.args.map e })
      | _ => none
    | _ => none
  | .call c => match c.callee with
    | .value f => match acallv P h (e f) (c.args.map e) with
      | some r => some r
      | none => pv (aextern P h (e f) (c.args.toList.map e))
    | .invoke r m => match e r with
      | .iface t v => if closed v then match pureRun P (method (P.types.size + Made.depth) t v m) with
          | some (f, rc) => if closed rc && hasBody P f then some (.enter f (#[rc] ++ c.args.map e)) else none
          | none => none
        else none
      | _ => none
    | .builtin b => match b, c.argTypes.toList, c.args.toList with
      | .recover, _, _ => some .recover
      | .append, [t, u], [s, x] => pv (aappend P h t u (e s) (e x))
      | .copy, [t, _], [d, s] => pv (acopy P h t (e d) (e s))
      | .clear, [t], [x] => pv (aclear P h t (e x))
      | .unsafeSliceData, _, [x] => (asliceData h (e x)).map fun v => .val v h
      | .unsafeString, [pt, _], [p, n] => pv (astring P h pt (e p) (e n))
      | .delete, [t, _], [m, k] => if closed (e k) then (adelete P h t (e m) (e k)).map fun h' => .val (.tuple #[]) h' else none
      | .len, [t], [x] => if (mtype P t).isSome then (amapOf h (e x)).map fun q => .val (.int .i64 q.2.1.length) h else match P.underlying t, e x with
        | some (.slice _), .chan (some _) => some (.val (.int .i64 0) h)
        | _, _ => none
      | _, _, _ => none
  | _ => none
def notSelect : Op → Bool
  | .select .. => false
  | _ => true
def aop (P : Program) (G : Nat) (h : AH) (e : Operand → Value) (o : Oper) : Option AR1 :=
  if o.op.operands.all (okOpd G) then
    match aptr P h e o.op with
    | some v => some (.val v h)
    | none => match aeff P h e o.op with
      | some r => some r
      | none => if notSelect o.op && o.op.operands.all (fun x => closed (e x)) then match pureRun P (execOp e o) with
          | some (.value v) => if closed v then some (.val v h) else none
          | _ => none
        else none
  else none
section
variable {P : Program} {G : Nat} {ρ : Rho} {h : AH} {w : World} {e e' : Operand → Value}
def OpSim (P : Program) (G : Nat) (ρ : Rho) (h : AH) (w : World) (e' : Operand → Value) (o : Oper) : AR1 → Prop
  | .val v h' => OpAt P G ρ h w e' o v h'
  | .enter f args => hasBody P f = true ∧ ∃ args', renArr ρ args = some args' ∧ (execOp e' o).run P w = .ok (.enter f args') w
  | .defer d => ∃ d', renD ρ d = some d' ∧ (execOp e' o).run P w = .ok (.defer d') w
  | .recover => (execOp e' o).run P w = .ok .recover w
  | .panic v => ∃ v', ren ρ v = some v' ∧ (execOp e' o).run P w = .halt (.panic v') w
  | .round l f tm as bo => ∃ l' tm', ρ.blk l = some l' ∧ renArr ρ tm = some tm' ∧ (execOp e' o).run P w = .ok (.round l' f tm' as bo) w
theorem run_callFunc {g : FuncId} (hb : hasBody P g = true) (args : Array Value) (w : World) : (callFunc g args).run P w = .ok (.enter g args) w := by
  unfold hasBody at hb
  cases hf : P.funcs[g]? with
  | none => simp [hf] at hb
  | some fn =>
    simp only [hf, Bool.and_eq_true, Bool.not_eq_true'] at hb
    have h1 : ¬ fn.name = "runtime.NumGoroutine" := by simpa using hb.2
    have h2 : ¬ fn.body = none := by
      have := hb.1
      cases q : fn.body <;> simp_all
    simp [callFunc, hf, h1, h2]
theorem renArr_append {a b a' b' : Array Value} (h1 : renArr ρ a = some a') (h2 : renArr ρ b = some b') : renArr ρ (a ++ b) = some (a' ++ b') := by
  rw [renArr_iff] at *
  simp only [Array.toList_append]
  exact renL_append.2 ⟨_, _, h1, h2, rfl⟩
theorem RunAt.opAt {s : Sem Value} {r : Value × AH} {o : Oper} (hr : RunAt P G ρ h w s r) (ho : (execOp e' o).run P w = (s.run P w).andThen fun v w' => .ok (.value v) w') : OpAt P G ρ h w e' o r.1 r.2 := by
  obtain ⟨ρ', v', w', h1, h2, h3, h4⟩ := hr
  exact ⟨ρ', v', w', h1, h2, h3, .inl (by rw [ho, h4]; rfl)⟩
theorem pv_some {o : Option (Value × AH)} {r : AR1} (h : pv o = some r) : ∃ x, o = some x ∧ r = .val x.1 x.2 := by
  unfold pv at h
  obtain ⟨x, h1, h2⟩ := Option.map_eq_some_iff.1 h
  exact ⟨x, h1, h2.symm⟩
theorem foldl_ren {ps : List (Tmp × Value)} : ∀ {ps' : List (Tmp × Value)} {a a' : Array Value}, ps'.map (·.1) = ps.map (·.1) → renL ρ (ps.map (·.2)) = some (ps'.map (·.2)) → renArr ρ a = some a' →
    renArr ρ (ps.foldl (fun tmps (t, a) => tmps.setIfInBounds t a) a) = some (ps'.foldl (fun tmps (t, a) => tmps.setIfInBounds t a) a') := by
  induction ps with
  | nil => intro ps' a a' h1 _ h3; cases ps' <;> simp at h1; exact h3
  | cons p ps ih =>
    intro ps' a a' h1 h2 h3
    cases ps' with
    | nil => simp at h1
    | cons p' ps' =>
      simp only [List.map_cons, List.cons.injEq] at h1
      simp only [List.map_cons] at h2
      obtain ⟨v', l', e1, e2, e3⟩ := renL_cons.1 h2
      injection e3 with e3 e4
      simp only [List.foldl_cons]
      rw [h1.1]
      exact ih h1.2 (e4 ▸ e2) (renArr_set (e3 ▸ e1) _ h3)
theorem callv_ok (H : WR G ρ h w) {f f' : Value} {args args' : Array Value} {r : AR1} (ha : acallv P h f args = some r) (hf : ren ρ f = some f') (hargs : renArr ρ args = some args') {o : Oper}
    (ho : (execOp e' o).run P w = (do let d ← Deferred.ofValue f' args'; invoke d.target d.args : Sem Next).run P w) : OpSim P G ρ h w e' o r := by
  unfold acallv at ha
  split at ha
  · rename_i g first cap
    split at ha
    case isFalse => cases ha
    rename_i hb
    cases ha
    simp only [ren, renF, Option.bind_eq_some_iff, Option.map_eq_some_iff] at hf
    obtain ⟨fn', hfn, first', h1, cap', h2, rfl⟩ := hf
    cases hfn
    refine ⟨hb, first' ++ args' ++ cap', renArr_append (renArr_append h1 hargs) h2, ?_⟩
    rw [ho]
    simp [Deferred.ofValue, invoke, run_callFunc hb]
  · rename_i l first cap
    split at ha
    case h_2 => cases ha
    rename_i lp hg
    split at ha
    case isFalse => cases ha
    rename_i hsz
    cases ha
    simp only [ren, renF, Option.bind_eq_some_iff, Option.map_eq_some_iff] at hf
    obtain ⟨fn', ⟨l', hl, rfl⟩, first', h1, cap', h2, rfl⟩ := hf
    obtain ⟨b, x, q1, q2, q3⟩ := H.obj _ _ hg
    rw [hl] at q1; cases q1
    cases x <;> simp only [ObjR] at q3
    rename_i lp'
    obtain ⟨_, _, r3, r4, r5, r6, r7, _⟩ := q3
    have hcat := renArr_append h1 hargs
    have hcs := renArr_size hcat
    have hcs2 := hcs
    have hsz2 := hsz
    simp only [Array.size_append] at hcs2 hsz2
    refine ⟨l', (lp'.params.zip (first' ++ args')).foldl (fun tmps (t, a) => tmps.setIfInBounds t a) lp'.tmps, hl, ?_, ?_⟩
    · rw [← Array.foldl_toList, ← Array.foldl_toList]
      refine foldl_ren ?_ ?_ r4
      · rw [r5]
        simp only [Array.toList_zip]
        rw [List.map_fst_zip (by simp; omega), List.map_fst_zip (by simp; omega)]
      · rw [r5]
        simp only [Array.toList_zip]
        rw [List.map_snd_zip (by simp; omega), List.map_snd_zip (by simp; omega)]
        exact renArr_iff.1 hcat
    · rw [ho]
      have hgo : (getObj l').run P w = .ok (.loop lp') w := by simp [getObj, Sem.run, q2]
      have hne : ¬ (first' ++ args').size ≠ lp'.params.size := by rw [hcs, r5]; simpa using hsz
      simp only [Deferred.ofValue, invoke, Sem.run_bind, Sem.run_pure, Result.andThen_ok, Instr.yield, Instr.getLoop, hgo, hne, if_false, r3, r6, r7]
  · cases ha
theorem head_app (x : Value) (ys : Array Value) : (#[x] ++ ys)[0]? = some x := by
  obtain ⟨l⟩ := ys
  simp
theorem tail_app (x : Value) (ys : Array Value) : (#[x] ++ ys).extract 1 (#[x] ++ ys).size = ys := by
  obtain ⟨l⟩ := ys
  apply Array.ext'
  simp
theorem aeff_ok (H : WR G ρ h w) (o : Oper) (hr : ∀ x ∈ o.op.operands, ren ρ (e x) = some (e' x)) {r : AR1} (hv : aeff P h e o.op = some r) : OpSim P G ρ h w e' o r := by
  obtain ⟨dst, op, type, pos, after, guard⟩ := o
  simp only at hr hv
  cases op <;> simp only [aeff] at hv <;> try (cases hv; done)
  case load t x =>
    have hx := hr x (by simp [Op.operands])
    split at hv
    case h_2 => cases hv
    rename_i a hce
    rw [hce] at hx
    obtain ⟨b, h1, h2⟩ := ren_ptr hx
    obtain ⟨v, hl, rfl⟩ := Option.map_eq_some_iff.1 hv
    obtain ⟨v', h3, h4⟩ := load_ok H hl h1
    refine ⟨ρ, v', w, H, Ext.refl _ _ _, h3, .inl ?_⟩
    simp only [execOp, h2, Instr.loadAt, Instr.sureAddr, Sem.run_bind, Sem.run_pure, Result.andThen_ok, h4 w fun _ _ => rfl]
  case store t x y =>
    have hx := hr x (by simp [Op.operands])
    have hy := hr y (by simp [Op.operands])
    split at hv
    case h_2 => cases hv
    rename_i a hce
    rw [hce] at hx
    obtain ⟨b, h1, h2⟩ := ren_ptr hx
    obtain ⟨h', hl, rfl⟩ := Option.map_eq_some_iff.1 hv
    obtain ⟨w', h3, h4, h5⟩ := store_ok H hl h1 hy
    refine ⟨ρ, undef, w', h4, h5, ren_undef ρ, .inr ⟨?_, rfl⟩⟩
    simp only [execOp, h2, Instr.storeAt, Instr.sureAddr, Sem.run_bind, Sem.run_pure, Result.andThen_ok, h3]
  case alloc t =>
    obtain ⟨z, hz, hv⟩ := Option.bind_eq_some_iff.1 hv
    split at hv
    case isFalse => cases hv
    rename_i hc
    cases hv
    refine box_ok H (closed_ren ρ z hc) t ?_
    simp only [execOp, Instr.alloc, Sem.run_bind, run_zero hz, Result.andThen_ok, run_newVar, Sem.run_pure]
  case box t x =>
    cases hv
    refine box_ok H (hr x (by simp [Op.operands])) t ?_
    simp only [execOp, Instr.box, Sem.run_bind, Result.andThen_ok, run_newVar, Sem.run_pure]
  case buildSlice t len ps =>
    obtain ⟨q, hq, rfl⟩ := pv_some hv
    have hl : renL ρ ((ps.toList.map fun p => (p.1, e p.2)).map (·.2)) = some ((ps.toList.map fun p => (p.1, e' p.2)).map (·.2)) := by
      have := renArr_map (ρ := ρ) (e := e) (e' := e') (ps.toList.map (·.2)).toArray fun x hx => hr x (by simpa [Op.operands] using hx)
      simpa [renArr_iff, List.map_map, Function.comp_def] using this
    refine (buildSlice_ok H hq (ps' := ps.toList.map fun p => (p.1, e' p.2)) (by simp [List.map_map, Function.comp_def]) hl).opAt ?_
    simp only [execOp, Sem.run_bind]
    have : (ps.toList.map fun p => (p.1, e' p.2)).toArray = ps.map fun (i, x) => (i, e' x) := by
      apply Array.ext'; simp
    rw [this]
    rfl
  case makeSlice t l c =>
    obtain ⟨q, hq, rfl⟩ := pv_some hv
    have hl := hr l (by simp [Op.operands])
    have hc := hr c (by simp [Op.operands])
    have hq0 := hq
    unfold amakeSlice at hq0
    split at hq0
    case h_2 => cases hq0
    rename_i el kl l0 kc c0 _ hle hce
    rw [hle] at hl hq
    rw [hce] at hc hq
    refine (makeSlice_ok H hq).opAt ?_
    simp only [execOp, Sem.run_bind, ren_int hl, ren_int hc]
    rfl
  case range t x =>
    have hx := hr x (by simp [Op.operands])
    split at hv
    · rename_i s hu hce
      cases hv
      rw [hce] at hx
      exact range_ok H hu (t := t) (x := x) rfl (ren_string hx)
    · split at hv
      case isFalse => cases hv
      rename_i hmt
      obtain ⟨q, hq, rfl⟩ := pv_some hv
      refine (rangeMap_ok H hq hmt hx).opAt ?_
      simp only [execOp, Sem.run_bind]
      rfl
  case next x b =>
    split at hv
    · rename_i hb
      subst hb
      obtain ⟨q, hq, rfl⟩ := pv_some hv
      exact next_ok H hq (hr x (by simp [Op.operands])) rfl rfl
    · rename_i hb
      obtain rfl : b = false := by simpa using hb
      obtain ⟨q, hq, rfl⟩ := pv_some hv
      refine (nextMap_ok H hq (hr x (by simp [Op.operands])) type).opAt ?_
      simp only [execOp, Sem.run_bind]
      rfl
  case slice t x lo hi mx =>
    have hx := hr x (by simp [Op.operands])
    split at hv
    case h_2 => cases hv
    rename_i a n c hce
    obtain ⟨q, hq, rfl⟩ := pv_some hv
    have hmx : mx = none := by
      cases mx with
      | none => rfl
      | some y =>
        unfold aslq at hq
        split at hq
        case h_2 => cases hq
        split at hq
        case h_2 => cases hq
        split at hq
        case isFalse => cases hq
        rename_i hc
        cases hc.2.2.1
    subst hmx
    rw [hce] at hx
    refine (slq_ok (e := e) (e' := e') (lo := lo) (hi := hi) H rfl hq hx (fun y q => hr y (by simp [Op.operands, q])) (fun y q => hr y (by simp [Op.operands, q]))).opAt ?_
    simp only [execOp, Sem.run_bind]
    rfl
  case entry x =>
    obtain ⟨v, hl, rfl⟩ := Option.map_eq_some_iff.1 hv
    obtain ⟨v', h3, h4⟩ := entry_ok (P := P) H hl (hr x (by simp [Op.operands]))
    refine ⟨ρ, v', w, H, Ext.refl _ _ _, h3, .inl ?_⟩
    simp only [execOp, Sem.run_bind, h4, Result.andThen_ok, Sem.run_pure]
  case makeMap t hint =>
    split at hv
    case isFalse => cases hv
    rename_i hmt
    obtain ⟨q, hq, rfl⟩ := pv_some hv
    refine (makeMap_ok H hq hmt (hint' := hint.map e') (fun v q => ?_) (fun q => ?_)).opAt ?_
    · cases hint with
      | none => cases q
      | some y =>
        simp only [Option.map_some, Option.some.injEq] at q
        exact ⟨e' y, rfl, by rw [← q]; exact hr y (by simp [Op.operands])⟩
    · cases hint with
      | none => rfl
      | some y => cases q
    · simp only [execOp, Sem.run_bind]
      rfl
  case lookup t x k ok =>
    obtain ⟨v, hl, rfl⟩ := Option.map_eq_some_iff.1 hv
    have hx := hr x (by simp [Op.operands])
    have hk := hr k (by simp [Op.operands])
    have hkc : closed (e k) = true := by
      unfold alookup at hl
      split at hl
      case h_2 => cases hl
      split at hl
      case isFalse => cases hl
      rename_i hko
      unfold kok at hko
      simp only [Bool.and_eq_true] at hko
      exact hko.2
    rw [closed_ren ρ _ hkc] at hk
    obtain ⟨v', h3, h4⟩ := lookup_ok (P := P) H hl hx
    refine ⟨ρ, v', w, H, Ext.refl _ _ _, h3, .inl ?_⟩
    simp only [execOp, Sem.run_bind, ← Option.some.inj hk, h4, Result.andThen_ok, Sem.run_pure]
  case mapUpdate t m k x =>
    obtain ⟨h', hl, rfl⟩ := Option.map_eq_some_iff.1 hv
    have hm := hr m (by simp [Op.operands])
    have hk := hr k (by simp [Op.operands])
    have hx := hr x (by simp [Op.operands])
    have hkc : closed (e k) = true := by
      unfold amapUpdate at hl
      split at hl
      case h_2 => cases hl
      split at hl
      case isFalse => cases hl
      rename_i hko
      unfold kok at hko
      simp only [Bool.and_eq_true] at hko
      exact hko.2
    rw [closed_ren ρ _ hkc] at hk
    obtain ⟨ρ', w', h3, h4, h5⟩ := mapUpdate_ok (P := P) H hl hm hx
    refine ⟨ρ', undef, w', h3, h4, ren_undef ρ', .inr ⟨?_, rfl⟩⟩
    simp only [execOp, Sem.run_bind, ← Option.some.inj hk, h5, Result.andThen_ok, Sem.run_pure]
  case insert t m k x =>
    obtain ⟨h', hl, rfl⟩ := Option.map_eq_some_iff.1 hv
    have hm := hr m (by simp [Op.operands])
    have hk := hr k (by simp [Op.operands])
    have hx := hr x (by simp [Op.operands])
    have hkc : closed (e k) = true := by
      unfold amapUpdate at hl
      split at hl
      case h_2 => cases hl
      split at hl
      case isFalse => cases hl
      rename_i hko
      unfold kok at hko
      simp only [Bool.and_eq_true] at hko
      exact hko.2
    rw [closed_ren ρ _ hkc] at hk
    obtain ⟨ρ', w', h3, h4, h5⟩ := mapUpdate_ok (P := P) H hl hm hx
    refine ⟨ρ', undef, w', h3, h4, ren_undef ρ', .inr ⟨?_, rfl⟩⟩
    simp only [execOp, Sem.run_bind, ← Option.some.inj hk, h5, Result.andThen_ok, Sem.run_pure]
  case convert s d x =>
    split at hv
    · rename_i r0 hc
      cases hv
      obtain ⟨q, hq, rfl⟩ := pv_some hc
      refine (bytes_ok H hq (hr x (by simp [Op.operands]))).opAt ?_
      simp only [execOp, Sem.run_bind]
      rfl
    · obtain ⟨v, hc, rfl⟩ := Option.map_eq_some_iff.1 hv
      obtain ⟨h1, h2⟩ := ptrConv_ok (P := P) H hc (hr x (by simp [Op.operands]))
      refine ⟨ρ, _, w, H, Ext.refl _ _ _, h1, .inl ?_⟩
      simp only [execOp, Sem.run_bind, h2, Result.andThen_ok, Sem.run_pure]
  case binOp op t x y yt =>
    obtain ⟨b, hb, hv⟩ := Option.bind_eq_some_iff.1 hv
    split at hv
    case isFalse => cases hv
    rename_i hs
    cases hv
    have hx := hr x (by simp [Op.operands])
    have hy := hr y (by simp [Op.operands])
    obtain ⟨h1, h2⟩ := ptrSame_ok (P := P) hs hx hy w
    obtain ⟨a, c, hxe, hye⟩ : ∃ a c, e' x = .pointer a ∧ e' y = .pointer c := by
      unfold aptrSame at hs
      split at hs
      case h_2 => cases hs
      rename_i el a c _ hxa hya
      rw [hxa] at hx; rw [hya] at hy
      obtain ⟨a', _, ha⟩ := ren_ptr hx
      obtain ⟨c', _, hc⟩ := ren_ptr hy
      exact ⟨_, _, ha, hc⟩
    have hg : (eqGuard op t x y (e' x) (e' y)) = pure () := by
      rw [hxe, hye]
      cases op <;> simp [eqGuard]
    refine ⟨ρ, .bool b, w, H, Ext.refl _ _ _, by simp [ren], .inl ?_⟩
    cases op <;> simp only [eqOp] at hb <;> try (cases hb; done)
    all_goals
      cases hb
      simp only [execOp, hg, Sem.run_bind, Sem.run_pure, Result.andThen_ok, h1, h2]
  case panic x =>
    have hx := hr x (by simp [Op.operands])
    split at hv
    case h_2 => cases hv
    rename_i t v hce
    cases hv
    rw [hce] at hx
    have hx0 := hx
    obtain ⟨v', h1, h2⟩ := ren_iface hx
    refine ⟨.iface t v', by rw [hx0, h2], ?_⟩
    simp [execOp, h2, Instr.panic]
  case defer c =>
    obtain ⟨callee, args, ts⟩ := c
    cases callee <;> simp only at hv <;> try (cases hv; done)
    rename_i f
    have hf := hr f (by simp [Op.operands, Call.operands])
    have hargs := renArr_map (ρ := ρ) (e := e) (e' := e') args fun x hx => hr x (by simp [Op.operands, Call.operands, hx])
    split at hv
    case h_2 => cases hv
    rename_i fn first cap hce
    cases hv
    rw [hce] at hf
    simp only [ren, Option.bind_eq_some_iff, Option.map_eq_some_iff] at hf
    obtain ⟨fn', hfn, first', h1, cap', h2, hfe⟩ := hf
    refine ⟨⟨.fn fn' cap', first' ++ args.map e'⟩, ?_, ?_⟩
    · simp [renD, renT, hfn, h2, renArr_append h1 hargs]
    · simp [execOp, resolve, ← hfe, Deferred.ofValue]
  case call c =>
    obtain ⟨callee, args, ts⟩ := c
    have hargs := renArr_map (ρ := ρ) (e := e) (e' := e') args fun x hx => hr x (by simp [Op.operands, Call.operands, hx])
    cases callee <;> simp only at hv
    · rename_i f
      have hf := hr f (by simp [Op.operands, Call.operands])
      split at hv
      · rename_i r0 hcv
        cases hv
        exact callv_ok H hcv hf hargs (by simp only [execOp, resolve, Sem.run_bind])
      · obtain ⟨q, hq, rfl⟩ := pv_some hv
        have ha2 : renL ρ (args.toList.map e) = some (args.toList.map e') := by
          have := renArr_iff.1 hargs
          simpa using this
        obtain ⟨g, hfe, ρ', v', w', g1, g2, g3, g4⟩ := extern_ok H hq hf ha2
        refine ⟨ρ', v', w', g1, g2, g3, .inl ?_⟩
        have he : (args.toList.map e').toArray = args.map e' := by apply Array.ext'; simp
        rw [he] at g4
        simp [execOp, resolve, hfe, Deferred.ofValue, invoke, g4]
    · rename_i r0 m
      have hx := hr r0 (by simp [Op.operands, Call.operands])
      split at hv
      case h_2 => cases hv
      rename_i t v hce
      split at hv
      case isFalse => cases hv
      rename_i hcl
      split at hv
      case h_2 => cases hv
      rename_i f rc hm
      split at hv
      case isFalse => cases hv
      rename_i hc
      simp only [Bool.and_eq_true] at hc
      cases hv
      rw [hce] at hx
      obtain ⟨v', h1, h2⟩ := ren_iface hx
      rw [closed_ren ρ v hcl] at h1
      cases h1
      have hrc : renArr ρ #[rc] = some #[rc] := by simp [renArr, renL, closed_ren ρ rc hc.1]
      refine ⟨hc.2, #[rc] ++ args.map e', renArr_append hrc hargs, ?_⟩
      have hmr := pureRun_run hm
      have e1 := head_app (Value.iface t v) (args.map e')
      have e2 := tail_app (Value.iface t v) (args.map e')
      simp only [execOp, resolve, h2, Sem.run_bind, Sem.run_pure, Result.andThen_ok, invoke, e1, e2, callMethod, run_program, hmr, run_callFunc hc.2]
    · rename_i b
      have two : ∀ {α : Type} (a : Array α) (x y : α), a.toList = [x, y] → a = #[x, y] := fun a x y q => by cases a; simp at q; simp [q]
      have one : ∀ {α : Type} (a : Array α) (x : α), a.toList = [x] → a = #[x] := fun a x q => by cases a; simp at q; simp [q]
      split at hv
      · cases hv
        simp [OpSim, execOp, resolve, invoke, Go.builtin]
      · rename_i t u s x q1 q2
        obtain ⟨q, hq, rfl⟩ := pv_some hv
        have e1 := two ts t u q1
        have e2 := two args s x q2
        subst e1; subst e2
        have hs := hr s (by simp [Op.operands, Call.operands])
        have hx := hr x (by simp [Op.operands, Call.operands])
        obtain ⟨ρ', v', w', g1, g2, g3, g4⟩ := append_ok (ty := type) H hq hs hx
        refine ⟨ρ', v', w', g1, g2, g3, .inl ?_⟩
        simp [execOp, resolve, invoke, Go.builtin, g4]
      · rename_i t u d s q1 q2
        obtain ⟨q, hq, rfl⟩ := pv_some hv
        have e1 := two ts t u q1
        have e2 := two args d s q2
        subst e1; subst e2
        have hs := hr s (by simp [Op.operands, Call.operands])
        have hd := hr d (by simp [Op.operands, Call.operands])
        refine (copy_ok (u := u) (ty := type) H hq hd hs).opAt ?_
        simp [execOp, resolve, invoke, Go.builtin]
      · rename_i t x q1 q2
        obtain ⟨q, hq, rfl⟩ := pv_some hv
        have e1 := one ts t q1
        have e2 := one args x q2
        subst e1; subst e2
        have hx := hr x (by simp [Op.operands, Call.operands])
        refine (clear_ok (ty := type) H hq hx).opAt ?_
        simp [execOp, resolve, invoke, Go.builtin]
      · rename_i x q1
        obtain ⟨v, hl, rfl⟩ := Option.map_eq_some_iff.1 hv
        have e2 := one args x q1
        subst e2
        have hx := hr x (by simp [Op.operands, Call.operands])
        obtain ⟨s1, s2⟩ := sliceData_ok (P := P) H hl hx ts type
        refine ⟨ρ, _, w, H, Ext.refl _ _ _, s1, .inl ?_⟩
        simp [execOp, resolve, invoke, Go.builtin, s2]
      · rename_i t u p n q1 q2
        obtain ⟨q, hq, rfl⟩ := pv_some hv
        have e1 := two ts t u q1
        have e2 := two args p n q2
        subst e1; subst e2
        have hp := hr p (by simp [Op.operands, Call.operands])
        have hn := hr n (by simp [Op.operands, Call.operands])
        refine (string_ok (it := u) (ty := type) H hq hp hn).opAt ?_
        simp [execOp, resolve, invoke, Go.builtin]
      · rename_i t u m k q1 q2
        split at hv
        case isFalse => cases hv
        rename_i hkc
        obtain ⟨h', hl, rfl⟩ := Option.map_eq_some_iff.1 hv
        have e1 := two ts t u q1
        have e2 := two args m k q2
        subst e1; subst e2
        have hm := hr m (by simp [Op.operands, Call.operands])
        have hk := hr k (by simp [Op.operands, Call.operands])
        rw [closed_ren ρ _ hkc] at hk
        refine (delete_ok (u := u) (ty := type) H hl hm).opAt ?_
        simp [execOp, resolve, invoke, Go.builtin, ← Option.some.inj hk]
      · rename_i t x q1 q2
        have e1 := one ts t q1
        have e2 := one args x q2
        subst e1; subst e2
        have hx := hr x (by simp [Op.operands, Call.operands])
        split at hv
        · rename_i hmt
          obtain ⟨⟨r, es, ver⟩, hq, rfl⟩ := Option.map_eq_some_iff.1 hv
          refine ⟨ρ, .int .i64 es.length, w, H, Ext.refl _ _ _, by simp [ren], .inl ?_⟩
          simp [execOp, resolve, invoke, Go.builtin, lenMap_ok (ty := type) H hq hmt hx]
        · split at hv
          case h_2 => cases hv
          rename_i el v hu hce
          cases hv
          rw [hce] at hx
          simp only [ren] at hx
          obtain ⟨a, c, hx'⟩ := opq_form hx
          refine ⟨ρ, .int .i64 0, w, H, Ext.refl _ _ _, by simp [ren], .inl ?_⟩
          simp [execOp, resolve, invoke, Go.builtin, Builtin.len_, run_underlying hu, hx', goInt]
      · cases hv
theorem aop_ok (H : WR G ρ h w) {a b : Act} (ht : renArr ρ a.tmps = some b.tmps) (o : Oper) {r : AR1} (hv : aop P G h a.eval o = some r) : OpSim P G ρ h w b.eval o r := by
  unfold aop at hv
  split at hv
  case isFalse => cases hv
  rename_i hok
  have hr : ∀ x ∈ o.op.operands, ren ρ (a.eval x) = some (b.eval x) := fun x hx => ev_ren H ht (by
    have := Array.all_eq_true_iff_forall_mem.1 hok x hx
    exact this)
  split at hv
  · rename_i v hp
    cases hv
    exact (aptr_ok H o hr hp).opAt H
  · split at hv
    · rename_i r' he
      cases hv
      exact aeff_ok H o hr he
    · by_cases hc : (notSelect o.op && o.op.operands.all (fun x => closed (a.eval x))) = true
      case neg => rw [if_neg hc] at hv; cases hv
      rw [if_pos hc] at hv
      simp only [Bool.and_eq_true] at hc
      split at hv
      case h_2 => cases hv
      rename_i v hp
      split at hv
      case isFalse => cases hv
      rename_i hcv
      cases hv
      have hs : ∀ cs b, o.op ≠ .select cs b := fun cs b q => by rw [q] at hc; simp [notSelect] at hc
      have := closed_op (P := P) hs hr (fun x hx => Array.all_eq_true_iff_forall_mem.1 hc.2 x hx) hp
      exact PureAt.opAt H ⟨v, closed_ren ρ v hcv, this⟩
end
end Go.AE
namespace Go.AE
open Go
def renI (ρ : Rho) : Item → Option Item
  | .code c => some (.code c)
  | .inBlock i => some (.inBlock i)
  | .inLoop c => some (.inLoop c)
  | .inScope c => some (.inScope c)
  | .inRegion ops l => some (.inRegion ops l)
  | .inRangeFunc l => (ρ.blk l).map .inRangeFunc
  | .endRangeFunc l => (ρ.blk l).map .endRangeFunc
  | .beginRound => some .beginRound
  | .call .. => none
  | .extern .. => none
def renIs (ρ : Rho) : List Item → Option (List Item)
  | [] => some []
  | i :: l => (renI ρ i).bind fun i' => (renIs ρ l).map fun l' => i' :: l'
def renP (ρ : Rho) : List PanicEntry → Option (List PanicEntry)
  | [] => some []
  | p :: l => (ren ρ p.v).bind fun v => (renP ρ l).map fun l' => ⟨v, p.recovered, p.goexit⟩ :: l'
def renM (ρ : Rho) : FrameMode → Option FrameMode
  | .run => some .run
  | .returning => some .returning
  | .panicking c => (renP ρ c).map .panicking
structure FrR (ρ : Rho) (a b : Frame) : Prop where
  fn : b.fn = a.fn
  tmps : renArr ρ a.tmps = some b.tmps
  todo : renIs ρ a.todo = some b.todo
  defers : renDs ρ a.defers = some b.defers
  mode : renM ρ a.mode = some b.mode
  kind : b.kind = a.kind
  round : (a.roundOf = none ∧ b.roundOf = none) ∨ ∃ l l', a.roundOf = some l ∧ b.roundOf = some l' ∧ ρ.blk l = some l'
theorem renI_mono {ρ σ : Rho} (h : ρ.le σ) {x y : Item} (e : renI ρ x = some y) : renI σ x = some y := by
  cases x <;> simp only [renI, Option.map_eq_some_iff] at * <;> try exact e
  · obtain ⟨b, hb, e⟩ := e
    exact ⟨b, (h _ _ hb).1, e⟩
  · obtain ⟨b, hb, e⟩ := e
    exact ⟨b, (h _ _ hb).1, e⟩
theorem renIs_cons {ρ : Rho} {x : Item} {l r : List Item} : renIs ρ (x :: l) = some r ↔ ∃ x' l', renI ρ x = some x' ∧ renIs ρ l = some l' ∧ r = x' :: l' := by
  simp only [renIs, Option.bind_eq_some_iff, Option.map_eq_some_iff]
  constructor
  · rintro ⟨a, h1, b, h2, rfl⟩; exact ⟨a, b, h1, h2, rfl⟩
  · rintro ⟨a, b, h1, h2, rfl⟩; exact ⟨a, h1, b, h2, rfl⟩
theorem renIs_mono {ρ σ : Rho} (h : ρ.le σ) : ∀ {x y : List Item}, renIs ρ x = some y → renIs σ x = some y
  | [], y, e => by simp only [renIs] at *; exact e
  | x :: l, y, e => by
    obtain ⟨x', l', h1, h2, rfl⟩ := renIs_cons.1 e
    exact renIs_cons.2 ⟨x', l', renI_mono h h1, renIs_mono h h2, rfl⟩
theorem renP_mono {ρ σ : Rho} (h : ρ.le σ) : ∀ {x y : List PanicEntry}, renP ρ x = some y → renP σ x = some y
  | [], y, e => by simp only [renP] at *; exact e
  | x :: l, y, e => by
    simp only [renP, Option.bind_eq_some_iff, Option.map_eq_some_iff] at *
    obtain ⟨v, h1, l', h2, e⟩ := e
    exact ⟨v, ren_mono h _ _ h1, l', renP_mono h h2, e⟩
theorem renM_mono {ρ σ : Rho} (h : ρ.le σ) {x y : FrameMode} (e : renM ρ x = some y) : renM σ x = some y := by
  cases x <;> simp only [renM, Option.map_eq_some_iff] at * <;> try exact e
  obtain ⟨c, h1, e⟩ := e
  exact ⟨c, renP_mono h h1, e⟩
theorem FrR.mono {ρ σ : Rho} (h : ρ.le σ) {a b : Frame} (e : FrR ρ a b) : FrR σ a b where
  fn := e.fn
  tmps := renArr_mono h _ _ e.tmps
  todo := renIs_mono h e.todo
  defers := renDs_mono h e.defers
  mode := renM_mono h e.mode
  kind := e.kind
  round := e.round.imp id fun ⟨l, l', h1, h2, h3⟩ => ⟨l, l', h1, h2, (h _ _ h3).1⟩
def FrRs (ρ : Rho) : List Frame → List Frame → Prop
  | [], [] => True
  | a :: l, b :: m => FrR ρ a b ∧ FrRs ρ l m
  | _, _ => False
theorem FrRs.mono {ρ σ : Rho} (h : ρ.le σ) : ∀ {a b : List Frame}, FrRs ρ a b → FrRs σ a b
  | [], [], e => e
  | _a :: _l, _b :: _m, e => ⟨FrR.mono h e.1, FrRs.mono h e.2⟩
  | [], _ :: _, e | _ :: _, [], e => e
theorem exitTo_ren {ρ : Rho} {id : Nat} : ∀ {k k' r : List Item}, renIs ρ k = some k' → exitTo id k = some r → ∃ r', exitTo id k' = some r' ∧ renIs ρ r = some r'
  | [], k', r, _, h2 => by simp [exitTo] at h2
  | x :: k, k', r, h1, h2 => by
    obtain ⟨x', l', q1, q2, rfl⟩ := renIs_cons.1 h1
    cases x <;> simp only [renI, Option.map_eq_some_iff] at q1 <;> simp only [exitTo] at h2
    all_goals first
      | (cases q1; done)
      | skip
    case inBlock i =>
      cases q1
      simp only [exitTo]
      split
      · rename_i hi; rw [if_pos hi] at h2; cases h2; exact ⟨_, rfl, q2⟩
      · rename_i hi; rw [if_neg hi] at h2; exact exitTo_ren q2 h2
    case inRangeFunc l => obtain ⟨b, _, rfl⟩ := q1; simp only [exitTo]; exact exitTo_ren q2 h2
    case endRangeFunc l => obtain ⟨b, _, rfl⟩ := q1; simp only [exitTo]; exact exitTo_ren q2 h2
    all_goals (cases q1; simp only [exitTo]; exact exitTo_ren q2 h2)
theorem gotoIn_ren {ρ : Rho} {id : Nat} : ∀ {k k' r : List Item}, renIs ρ k = some k' → gotoIn id k = some r → ∃ r', gotoIn id k' = some r' ∧ renIs ρ r = some r'
  | [], k', r, _, h2 => by simp [gotoIn] at h2
  | x :: k, k', r, h1, h2 => by
    obtain ⟨x', l', q1, q2, rfl⟩ := renIs_cons.1 h1
    cases x <;> simp only [renI, Option.map_eq_some_iff] at q1 <;> simp only [gotoIn] at h2
    all_goals first
      | (cases q1; done)
      | skip
    case inScope c =>
      cases q1
      simp only [gotoIn]
      split
      · rename_i rest hf
        rw [hf] at h2
        cases h2
        exact ⟨_, rfl, renIs_cons.2 ⟨_, _, rfl, renIs_cons.2 ⟨_, _, rfl, q2, rfl⟩, rfl⟩⟩
      · rename_i hf; rw [hf] at h2; exact gotoIn_ren q2 h2
    case inRangeFunc l => obtain ⟨b, _, rfl⟩ := q1; simp only [gotoIn]; exact gotoIn_ren q2 h2
    case endRangeFunc l => obtain ⟨b, _, rfl⟩ := q1; simp only [gotoIn]; exact gotoIn_ren q2 h2
    all_goals (cases q1; simp only [gotoIn]; exact gotoIn_ren q2 h2)
theorem exitTo_none {ρ : Rho} {id : Nat} : ∀ {k k' : List Item}, renIs ρ k = some k' → exitTo id k = none → exitTo id k' = none
  | [], k', h1, _ => by simp [renIs] at h1; subst h1; rfl
  | x :: k, k', h1, h2 => by
    obtain ⟨x', l', q1, q2, rfl⟩ := renIs_cons.1 h1
    cases x <;> simp only [renI, Option.map_eq_some_iff] at q1 <;> simp only [exitTo] at h2
    all_goals first
      | (cases q1; done)
      | skip
    case inBlock i =>
      cases q1
      simp only [exitTo]
      split
      · rename_i hi; rw [if_pos hi] at h2; cases h2
      · rename_i hi; rw [if_neg hi] at h2; exact exitTo_none q2 h2
    case inRangeFunc l => obtain ⟨b, _, rfl⟩ := q1; simp only [exitTo]; exact exitTo_none q2 h2
    case endRangeFunc l => obtain ⟨b, _, rfl⟩ := q1; simp only [exitTo]; exact exitTo_none q2 h2
    all_goals (cases q1; simp only [exitTo]; exact exitTo_none q2 h2)
theorem gotoIn_none {ρ : Rho} {id : Nat} : ∀ {k k' : List Item}, renIs ρ k = some k' → gotoIn id k = none → gotoIn id k' = none
  | [], k', h1, _ => by simp [renIs] at h1; subst h1; rfl
  | x :: k, k', h1, h2 => by
    obtain ⟨x', l', q1, q2, rfl⟩ := renIs_cons.1 h1
    cases x <;> simp only [renI, Option.map_eq_some_iff] at q1 <;> simp only [gotoIn] at h2
    all_goals first
      | (cases q1; done)
      | skip
    case inScope c =>
      cases q1
      simp only [gotoIn]
      split
      · rename_i rest hf; rw [hf] at h2; cases h2
      · rename_i hf; rw [hf] at h2; exact gotoIn_none q2 h2
    case inRangeFunc l => obtain ⟨b, _, rfl⟩ := q1; simp only [gotoIn]; exact gotoIn_none q2 h2
    case endRangeFunc l => obtain ⟨b, _, rfl⟩ := q1; simp only [gotoIn]; exact gotoIn_none q2 h2
    all_goals (cases q1; simp only [gotoIn]; exact gotoIn_none q2 h2)
def ctl (ev : Operand → Value) : List Item → Option (List Item)
  | .code .skip :: k | .code (.label _) :: k | .inBlock _ :: k | .inScope _ :: k => some k
  | .code (.seq a b) :: k => some (.code a :: .code b :: k)
  | .code (.cond c x y) :: k => match ev c with
    | .bool t => some (.code (if t then x else y) :: k)
    | _ => none
  | .code (.block id body) :: k => some (.code body :: .inBlock id :: k)
  | .code (.loop body) :: k | .inLoop body :: k => some (.code body :: .inLoop body :: k)
  | .code (.scope body) :: k => some (.code body :: .inScope body :: k)
  | .code (.exit id) :: k => exitTo id k
  | .code (.goto l) :: k => gotoIn l k
  | .code (.region _ ops false) :: k => some (.inRegion ops (List.range ops.size) :: k)
  | .inRegion _ [] :: k => some k
  | _ => none
section
variable {P : Program} {G : Nat} {ρ : Rho} {h : AH} {w : World} {cs : List Frame}
theorem step_ctl {fr : Frame} {k : List Item} (hm : fr.mode = .run) (hk : ctl fr.eval fr.todo = some k) : step P (lone fr cs w) = .next (lone { fr with todo := k } cs w) := by
  refine step_lone_go ?_
  unfold ctl at hk
  split at hk <;> rename_i ht <;> first
    | (cases hk; done)
    | (cases hk; simp [stepG, hm, stepG.exec, ht]; done)
    | skip
  · split at hk
    · rename_i hc
      cases hk
      simp [stepG, hm, stepG.exec, ht, hc]
    · cases hk
  · simp [stepG, hm, stepG.exec, ht, hk]
  · simp [stepG, hm, stepG.exec, ht, hk]
theorem ctl_ren {ev ev' : Operand → Value} {t t' k : List Item} (hev : ∀ c x y k, t = .code (.cond c x y) :: k → ren ρ (ev c) = some (ev' c)) (ht : renIs ρ t = some t') (hk : ctl ev t = some k) : ∃ k', ctl ev' t' = some k' ∧ renIs ρ k = some k' := by
  unfold ctl at hk
  split at hk <;> first
    | (cases hk; done)
    | skip
  case h_6 =>
    obtain ⟨x', l', q1, q2, rfl⟩ := renIs_cons.1 ht
    cases q1
    have := hev _ _ _ _ rfl
    split at hk
    · rename_i b hb
      cases hk
      rw [hb] at this
      have hb' := ren_bool this
      simp only [ctl, hb']
      exact ⟨_, rfl, renIs_cons.2 ⟨_, _, rfl, q2, rfl⟩⟩
    · cases hk
  case h_11 =>
    obtain ⟨x', l', q1, q2, rfl⟩ := renIs_cons.1 ht
    cases q1
    exact exitTo_ren q2 hk
  case h_12 =>
    obtain ⟨x', l', q1, q2, rfl⟩ := renIs_cons.1 ht
    cases q1
    exact gotoIn_ren q2 hk
  all_goals
    obtain ⟨x', l', q1, q2, rfl⟩ := renIs_cons.1 ht
    cases q1
    cases hk
    first
      | exact ⟨_, rfl, q2⟩
      | exact ⟨_, rfl, renIs_cons.2 ⟨_, _, rfl, q2, rfl⟩⟩
      | exact ⟨_, rfl, renIs_cons.2 ⟨_, _, rfl, renIs_cons.2 ⟨_, _, rfl, q2, rfl⟩, rfl⟩⟩
end
end Go.AE
namespace Go.AE
open Go
structure AS where
  fr : Frame
  cs : List Frame
  h : AH
def okCond (G : Nat) : List Item → Bool
  | .code (.cond c _ _) :: _ => okOpd G c
  | _ => true
def ares1 (P : Program) (h : AH) (tm : Array Value) : ResultVar → Option Value
  | .tmp t => some (tm.getD t undef)
  | .cell a t => match tm.getD a undef with
    | .pointer (some a) => aload P h t a
    | _ => none
def aresL (P : Program) (h : AH) (tm : Array Value) : List ResultVar → Option (List Value)
  | [] => some []
  | r :: l => (ares1 P h tm r).bind fun v => (aresL P h tm l).map fun vs => v :: vs
def one (vs : List Value) : Value := match vs with
  | [v] => v
  | vs => .tuple vs.toArray
def aresults (P : Program) (h : AH) (fn : Func) (tm : Array Value) : Option Value := (aresL P h tm fn.results.toList).map one
def settleF (c : Frame) : Option Frame :=
  match c.mode with
  | .panicking ({ recovered := true, .. } :: older) => if older.all (fun p => !p.goexit) then some { c with mode := .returning } else none
  | _ => some c
def areturn (fr : Frame) (cs : List Frame) (h : AH) (v : Value) : Option AS :=
  match cs with
  | [] => none
  | c :: rest => match fr.kind with
    | .normal => some ⟨c.finish v, rest, h⟩
    | .deferred => (settleF c).map fun c' => ⟨c', rest, h⟩
    | _ => none
def aleave (fr : Frame) (cs : List Frame) (h : AH) (jump : Option Code) : Option AS :=
  match fr.roundOf with
  | none => match jump with
    | none | some .ret => some ⟨{ fr with mode := .returning }, cs, h⟩
    | _ => none
  | some l => match h.get l with
    | some (.loop r) => areturn fr cs (h.put l (some (.loop { r with state := if jump.isNone then .ready else .done, pending := jump }))) (.bool jump.isNone)
    | _ => none
def arecover (fr : Frame) (cs : List Frame) : Option (Value × List Frame) :=
  match fr.kind, cs with
  | .normal, _ => some (.nilIface, cs)
  | .deferred, c :: rest => match c.mode with
    | .panicking ({ v, recovered := false, goexit := false } :: older) => some (v, { c with mode := .panicking ({ v, recovered := true } :: older) } :: rest)
    | _ => some (.nilIface, cs)
  | _, _ => none
def aopstep (P : Program) (hk : FuncId → Array Value → AH → Option (Value × AH)) (fr : Frame) (cs : List Frame) (h : AH) : AR1 → Option AS
  | .val v h' => some ⟨fr.finish v, cs, h'⟩
  | .enter f args => match hk f args h with
    | some (v, h') => some ⟨fr.finish v, cs, h'⟩
    | none => some ⟨Frame.enter P f args .normal, fr :: cs, h⟩
  | .defer d => if fr.roundOf.isNone then some ⟨{ fr with defers := d :: fr.defers }.finish undef, cs, h⟩ else none
  | .recover => if fr.roundOf.isNone then (arecover fr cs).map fun r => ⟨fr.finish r.1, r.2, h⟩ else none
  | .panic v => some ⟨fr.raise [{ v, recovered := false }], cs, h⟩
  | .round l f tm as bo => some ⟨Frame.round l f tm as bo .normal, fr :: cs, h⟩
def aunwind (P : Program) (fr : Frame) (cs : List Frame) (h : AH) : Option AS :=
  match fr.defers with
  | d :: ds => match d.target with
    | .collected b => match h.get b with
      | some (.defd (some cl)) => some ⟨{ fr with defers := cl ++ ds }, cs, h.put b (some (.defd none))⟩
      | _ => none
    | .fn (.func f) cap => if hasBody P f then some ⟨Frame.enter P f (d.args ++ cap) .deferred, { fr with defers := ds } :: cs, h⟩ else none
    | _ => none
  | [] => match P.funcs[fr.fn]? with
    | none => none
    | some fn => match fr.mode with
      | .run => none
      | .panicking chain => match cs with
        | c :: rest => some ⟨c.raise chain, rest, h⟩
        | [] => none
      | .returning => (aresults P h fn fr.tmps).bind fun v => areturn fr cs h v
def isDefer : Op → Bool
  | .defer _ => true
  | _ => false
def astep (P : Program) (G : Nat) (hk : FuncId → Array Value → AH → Option (Value × AH)) (draw : Array Oper → Array Value → AH → Option (Array Value × AH)) (s : AS) : Option AS :=
  match s.fr.mode with
  | .run => match ctl ({ tmps := s.fr.tmps, defers := [] } : Act).eval s.fr.todo with
    | some k => if okCond G s.fr.todo then some ⟨{ s.fr with todo := k }, s.cs, s.h⟩ else none
    | none => match s.fr.todo with
      | .inRegion ops (i :: _) :: _ => match ops[i]? with
        | some o => if Region.wanted o (yielded ops s.fr.tmps) then if s.fr.roundOf.isSome && isDefer o.op then none else (aop P G s.h ({ tmps := s.fr.tmps, defers := [] } : Act).eval o).bind (aopstep P hk s.fr s.cs s.h) else some ⟨s.fr.finish undef, s.cs, s.h⟩
        | none => none
      | .code .ret :: _ => aleave s.fr s.cs s.h (some .ret)
      | [] => aleave s.fr s.cs s.h none
      | .code (.exit id) :: _ => aleave s.fr s.cs s.h (some (.exit id))
      | .code (.goto l) :: _ => aleave s.fr s.cs s.h (some (.goto l))
      | .code (.region _ ops true) :: k => (draw ops s.fr.tmps s.h).map fun r => ⟨{ s.fr with tmps := r.1, todo := k }, s.cs, r.2⟩
      | .code (.rangeFunc f params assign body) :: k => match s.fr.roundOf, okOpd G f, ({ tmps := s.fr.tmps, defers := [] } : Act).eval f with
        | none, true, .func (.func g) first cap => if hasBody P g then
            let h1 := s.h.push (.defd (some []))
            let h2 := h1.push (.loop { state := .ready, pending := none, fn := s.fr.fn, tmps := s.fr.tmps, params, assign, body, defers := s.h.next })
            some ⟨Frame.enter P g (first ++ #[.func (.yield h1.next) #[] #[]] ++ cap) .normal, { s.fr with todo := .inRangeFunc h1.next :: k, defers := { target := .collected s.h.next, args := #[] } :: s.fr.defers } :: s.cs, h2⟩
          else none
        | _, _, _ => none
      | .beginRound :: _ => match s.fr.roundOf with
        | some l => match s.h.get l with
          | some (.loop r) => if r.state == .ready then some ⟨s.fr.finish undef, s.cs, s.h.put l (some (.loop { r with state := .busy }))⟩ else none
          | _ => none
        | none => none
      | .endRangeFunc l :: k => match s.h.get l with
        | some (.loop r) => if r.state == .busy then none else some ⟨{ s.fr with todo := (r.pending.map Item.code).toList ++ k }, s.cs, s.h.put l (some (.loop { r with state := .exhausted }))⟩
        | _ => none
      | _ => none
  | _ => aunwind P s.fr s.cs s.h
section
variable {P : Program} {G : Nat} {ρ : Rho} {h : AH} {w : World} {cs : List Frame}
theorem finish_ren {a b : Frame} (hf : FrR ρ a b) {v v' : Value} (hv : ren ρ v = some v') : FrR ρ (a.finish v) (b.finish v') := by
  obtain ⟨fn, tmps, todo, defers, mode, kind, roundOf⟩ := a
  obtain ⟨fn', tmps', todo', defers', mode', kind', roundOf'⟩ := b
  obtain ⟨h1, h2, h3, h4, h5, h6, h7⟩ := hf
  simp only at h1 h2 h3 h4 h5 h6 h7
  cases todo with
  | nil => simp [renIs] at h3; subst h3; exact ⟨h1, h2, by simp [Frame.finish, renIs], h4, h5, h6, h7⟩
  | cons x k =>
    have h30 := h3
    obtain ⟨x', k', q1, q2, rfl⟩ := renIs_cons.1 h3
    cases x <;> simp only [renI, Option.map_eq_some_iff] at q1 <;> try (cases q1; done)
    case inRegion ops l =>
      cases q1
      cases l with
      | nil => exact ⟨h1, h2, h30, h4, h5, h6, h7⟩
      | cons i rest =>
        refine ⟨h1, ?_, renIs_cons.2 ⟨_, _, rfl, q2, rfl⟩, h4, h5, h6, h7⟩
        simp only [Frame.finish]
        cases (ops[i]?).bind (·.dst) with
        | none => exact h2
        | some d => exact renArr_set hv d h2
    case inRangeFunc l =>
      obtain ⟨b, hb, rfl⟩ := q1
      exact ⟨h1, h2, renIs_cons.2 ⟨.endRangeFunc b, _, by simp [renI, hb], q2, rfl⟩, h4, h5, h6, h7⟩
    case endRangeFunc l => obtain ⟨b, hb, rfl⟩ := q1; exact ⟨h1, h2, h30, h4, h5, h6, h7⟩
    case beginRound => cases q1; exact ⟨h1, h2, q2, h4, h5, h6, h7⟩
    all_goals (cases q1; exact ⟨h1, h2, h30, h4, h5, h6, h7⟩)
theorem enter_ren {args args' : Array Value} (ha : renArr ρ args = some args') (f : FuncId) (k : CallKind) : FrR ρ (Frame.enter P f args k) (Frame.enter P f args' k) := by
  have hs := renArr_size ha
  refine ⟨rfl, ?_, by simp [Frame.enter, renIs, renI], by simp [Frame.enter, renDs], by simp [Frame.enter, renM], rfl, .inl ⟨rfl, rfl⟩⟩
  simp only [Frame.enter, hs]
  refine renArr_append ha ?_
  rw [renArr_iff]
  simpa using renL_replicate (ren_undef ρ) _
theorem ren_bool_inv {v : Value} {b : Bool} (hv : ren ρ v = some (.bool b)) : v = .bool b := by
  cases v with
  | bool c => simp [ren] at hv; rw [hv]
  | pointer a => cases a <;> simp [ren] at hv
  | slice a n c => cases a <;> simp [ren, Option.bind_eq_some_iff] at hv
  | map r => cases r <;> simp [ren] at hv
  | chan r =>
    cases r with
    | none => simp [ren] at hv
    | some v =>
      simp only [ren] at hv
      obtain ⟨a, c, q⟩ := opq_form hv
      cases q
  | _ => simp [ren, Option.bind_eq_some_iff] at hv
theorem yielded_ren {tm tm' : Array Value} (ht : renArr ρ tm = some tm') (ops : Array Oper) : yielded ops tm' = yielded ops tm := by
  funext j
  unfold yielded
  cases (ops[j]?).bind (·.dst) with
  | none => rfl
  | some d =>
    simp only [Option.bind_some]
    have hs := renArr_size ht
    cases q : tm[d]? with
    | none =>
      have : tm'[d]? = none := by
        simp at q ⊢; omega
      rw [this]
    | some v =>
      obtain ⟨v', h1, h2⟩ := renL_get d (renArr_iff.1 ht) v (by simpa using q)
      have h3 : tm'[d]? = some v' := by simpa using h1
      rw [h3]
      cases v with
      | bool b => rw [ren_bool h2]
      | _ =>
        cases v' with
        | bool b => have := ren_bool_inv h2; cases this
        | _ => rfl
theorem eval_eq (fr : Frame) (ds : List Deferred) : fr.eval = ({ tmps := fr.tmps, defers := ds } : Act).eval := by
  funext x
  cases x <;> rfl
theorem stepG_op' {fr : Frame} {ops : Array Oper} {i : Nat} {rest : List Nat} {k : List Item} {o : Oper} (hm : fr.mode = .run) (ht : fr.todo = .inRegion ops (i :: rest) :: k) (ho : ops[i]? = some o) (hw : Region.wanted o (yielded ops fr.tmps) = true)
    (hr : fr.roundOf = none ∨ ∀ c, o.op ≠ .defer c) : stepG P true { frame := fr, callers := cs, status := .running, dying := none } w = stepG.apply P true fr cs none (execOp fr.eval o) w := by
  have hop : fr.oper? = some o := by simp [Frame.oper?, ht, ho]
  simp only [stepG, hm, stepG.exec, ht, ho, Option.map_some, hw, Option.getD_some, if_true, stepG.oper, hop]
  split
  · rename_i l c hro hc
    rcases hr with hr | hr
    · rw [hr] at hro; cases hro
    · exact absurd hc (hr c)
  · rfl
end
end Go.AE
namespace Go.AE
open Go
structure SR (G : Nat) (ρ : Rho) (s : AS) (fr : Frame) (cs : List Frame) (w : World) : Prop where
  fr : FrR ρ s.fr fr
  cs : FrRs ρ s.cs cs
  w : WR G ρ s.h w
def StepTo (P : Program) (G : Nat) (ρ : Rho) (s s' : AS) (fr : Frame) (cs cs0 : List Frame) (w : World) : Prop :=
  ∃ ρ' fr' cs' w', SR G ρ' s' fr' cs' w' ∧ Ext ρ s.h w ρ' s'.h w' ∧ Steps P (lone fr (cs ++ cs0) w) (lone fr' (cs' ++ cs0) w')
def DrawOK (P : Program) (G : Nat) (draw : Array Oper → Array Value → AH → Option (Array Value × AH)) : Prop :=
  ∀ ops tm h tm' h', draw ops tm h = some (tm', h') → ∀ (ρ : Rho) (fr : Frame) (cs : List Frame) (w : World) (k : List Item) (id : Nat), WR G ρ h w → renArr ρ tm = some fr.tmps → fr.mode = .run →
    fr.todo = .code (.region id ops true) :: k → ∃ ρ' tmr w', WR G ρ' h' w' ∧ Ext ρ h w ρ' h' w' ∧ renArr ρ' tm' = some tmr ∧ Steps P (lone fr cs w) (lone { fr with tmps := tmr, todo := k } cs w')
def NestOK (P : Program) (G : Nat) (nest : FuncId → Array Value → AH → Option (Value × AH)) : Prop :=
  ∀ f args h v h', nest f args h = some (v, h') → ∀ (ρ : Rho) (w : World) (args' : Array Value), WR G ρ h w → renArr ρ args = some args' →
    Calls P f args' w fun e w' => ∃ ρ' v', e = .returned v' ∧ WR G ρ' h' w' ∧ Ext ρ h w ρ' h' w' ∧ ren ρ' v = some v'
section
variable {P : Program} {G : Nat} {ρ : Rho} {h : AH} {w : World} {cs cs0 : List Frame}
theorem renM_run {a b : Frame} (hf : FrR ρ a b) (hm : a.mode = .run) : b.mode = .run := by
  have := hf.mode
  rw [hm] at this
  simpa [renM] using this.symm
theorem FrRs.cons_inv {a : Frame} {l m : List Frame} (h : FrRs ρ (a :: l) m) : ∃ b m', m = b :: m' ∧ FrR ρ a b ∧ FrRs ρ l m' := by
  cases m with
  | nil => exact h.elim
  | cons b m' => exact ⟨b, m', rfl, h.1, h.2⟩
theorem FrR.withTodo {a b : Frame} (hf : FrR ρ a b) {k k' : List Item} (hk : renIs ρ k = some k') : FrR ρ { a with todo := k } { b with todo := k' } := ⟨hf.fn, hf.tmps, hk, hf.defers, hf.mode, hf.kind, hf.round⟩
theorem FrR.withMode {a b : Frame} (hf : FrR ρ a b) {k k' : FrameMode} (hk : renM ρ k = some k') : FrR ρ { a with mode := k } { b with mode := k' } := ⟨hf.fn, hf.tmps, hf.todo, hf.defers, hk, hf.kind, hf.round⟩
theorem FrR.withDefers {a b : Frame} (hf : FrR ρ a b) {k k' : List Deferred} (hk : renDs ρ k = some k') : FrR ρ { a with defers := k } { b with defers := k' } := ⟨hf.fn, hf.tmps, hf.todo, hk, hf.mode, hf.kind, hf.round⟩
theorem raise_ren {a b : Frame} (hf : FrR ρ a b) {c c' : List PanicEntry} (hc : renP ρ c = some c') : FrR ρ (a.raise c) (b.raise c') := by
  have happ : ∀ (x y x' y' : List PanicEntry), renP ρ x = some x' → renP ρ y = some y' → renP ρ (x ++ y) = some (x' ++ y') := by
    intro x
    induction x with
    | nil => intro y x' y' h1 h2; simp [renP] at h1; subst h1; exact h2
    | cons p x ih =>
      intro y x' y' h1 h2
      simp only [renP, List.cons_append, Option.bind_eq_some_iff, Option.map_eq_some_iff] at h1 ⊢
      obtain ⟨v, q1, l, q2, rfl⟩ := h1
      exact ⟨v, q1, l ++ y', ih y l y' q2 h2, rfl⟩
  have hm := hf.mode
  unfold Frame.raise
  cases hma : a.mode with
  | run => rw [hma] at hm; simp [renM] at hm; rw [← hm]; exact hf.withMode (by simp [renM, hc])
  | returning => rw [hma] at hm; simp [renM] at hm; rw [← hm]; exact hf.withMode (by simp [renM, hc])
  | panicking ch =>
    rw [hma] at hm
    simp only [renM, Option.map_eq_some_iff] at hm
    obtain ⟨ch', h1, h2⟩ := hm
    rw [← h2]
    exact hf.withMode (by simp [renM, happ _ _ _ _ hc h1])
theorem dropWhile_nil {α : Type} (p : α → Bool) : ∀ l : List α, (∀ x ∈ l, p x = true) → l.dropWhile p = []
  | [], _ => rfl
  | x :: l, h => by
    rw [List.dropWhile_cons, h x (by simp)]
    exact dropWhile_nil p l fun y hy => h y (by simp [hy])
theorem settle_ren {c c' : Frame} {d : Frame} (hf : FrR ρ c d) (hs : settleF c = some c') : FrR ρ c' (match d.mode with
        | .panicking ({ recovered := true, .. } :: older) =>
          match older.dropWhile (!·.goexit) with
          | [] => { d with mode := .returning }
          | rest => { d with mode := .panicking rest }
        | _ => d) := by
  have hm := hf.mode
  unfold settleF at hs
  split at hs
  · rename_i p older hcm
    split at hs
    case isFalse => cases hs
    rename_i hall
    cases hs
    rw [hcm] at hm
    simp only [renM, renP, Option.map_eq_some_iff, Option.bind_eq_some_iff] at hm
    obtain ⟨ch', ⟨v', _, l', hl', rfl⟩, h2⟩ := hm
    rw [← h2]
    have : l'.dropWhile (!·.goexit) = [] := by
      refine dropWhile_nil _ _ ?_
      have key : ∀ (x x' : List PanicEntry), renP ρ x = some x' → x.all (fun p => !p.goexit) = true → ∀ q ∈ x', (!q.goexit) = true := by
        intro x
        induction x with
        | nil => intro x' h1 _; simp [renP] at h1; subst h1; simp
        | cons p x ih =>
          intro x' h1 h2
          simp only [renP, Option.bind_eq_some_iff, Option.map_eq_some_iff] at h1
          obtain ⟨v, q1, l, q2, rfl⟩ := h1
          simp only [List.all_cons, Bool.and_eq_true] at h2
          intro q hq
          rcases List.mem_cons.1 hq with rfl | hq
          · exact h2.1
          · exact ih l q2 h2.2 q hq
      exact key older l' hl' hall
    simp only [this]
    exact hf.withMode (by simp [renM])
  · rename_i hno
    cases hs
    have : ∀ v' g l', d.mode ≠ .panicking (⟨v', true, g⟩ :: l') := by
      intro v' g l' q
      rw [q] at hm
      cases hcm : c.mode with
      | run => rw [hcm] at hm; simp [renM] at hm
      | returning => rw [hcm] at hm; simp [renM] at hm
      | panicking ch =>
        rw [hcm] at hm
        simp only [renM, Option.map_eq_some_iff] at hm
        obtain ⟨ch', h1, h2⟩ := hm
        cases h2
        cases ch with
        | nil => simp [renP] at h1
        | cons p ch =>
          simp only [renP, Option.bind_eq_some_iff, Option.map_eq_some_iff] at h1
          obtain ⟨v, q1, l, q2, q3⟩ := h1
          injection q3 with q3 q4
          cases p with
          | mk pv pr pg =>
            simp only [PanicEntry.mk.injEq] at q3
            obtain ⟨_, rfl, rfl⟩ := q3
            exact hno pv pg ch hcm
    split
    · rename_i v' g l' q
      exact absurd q (this _ _ _)
    · exact hf
theorem return_ok {a : Frame} {acs : List Frame} {h' : AH} {s' : AS} {fr : Frame} {v v' : Value} {w' : World} (hk : fr.kind = a.kind) (hcs : FrRs ρ acs cs) (hw : WR G ρ h' w') (ha : areturn a acs h' v = some s') (hv : ren ρ v = some v') :
    s'.h = h' ∧ ∃ fr' cs', SR G ρ s' fr' cs' w' ∧ ∀ (main : Bool) (cs0 : List Frame), doReturn P main fr (cs ++ cs0) none v' w' = .go { frame := fr', callers := cs' ++ cs0, status := .running, dying := none } w' := by
  unfold areturn at ha
  split at ha
  · cases ha
  rename_i c rest
  obtain ⟨d, m, rfl, hf, hr⟩ := hcs.cons_inv
  split at ha
  · rename_i hkn
    cases ha
    refine ⟨rfl, d.finish v', m, ⟨finish_ren hf hv, hr, hw⟩, fun main cs0 => ?_⟩
    simp [doReturn, hk, hkn]
  · rename_i hkd
    obtain ⟨c', hs, he⟩ := Option.map_eq_some_iff.1 ha
    cases he
    refine ⟨rfl, _, m, ⟨settle_ren hf hs, hr, hw⟩, fun main cs0 => ?_⟩
    simp only [doReturn, hk, hkd, List.cons_append]
    rfl
  · cases ha
end
end Go.AE
namespace Go.AE
open Go
section
variable {P : Program} {G : Nat} {ρ : Rho} {h : AH} {w : World} {cs cs0 : List Frame}
theorem opstep_ok {s s' : AS} {fr : Frame} {ops : Array Oper} {i : Nat} {rest : List Nat} {k : List Item} {o : Oper} {r : AR1} {hk : FuncId → Array Value → AH → Option (Value × AH)} (hhk : NestOK P G hk) (H : SR G ρ s fr cs w) (hm : fr.mode = .run) (ht : fr.todo = .inRegion ops (i :: rest) :: k)
    (ho : ops[i]? = some o) (hw : Region.wanted o (yielded ops fr.tmps) = true) (hro : fr.roundOf = none ∨ ∀ c, o.op ≠ .defer c) (hr : aop P G s.h ({ tmps := s.fr.tmps, defers := [] } : Act).eval o = some r) (hs : aopstep P hk s.fr s.cs s.h r = some s') : StepTo P G ρ s s' fr cs cs0 w := by
  have hsim := aop_ok H.w (a := { tmps := s.fr.tmps, defers := [] }) (b := { tmps := fr.tmps, defers := [] }) H.fr.tmps o hr
  rw [← eval_eq fr []] at hsim
  have hstep := stepG_op' (P := P) (cs := cs ++ cs0) (w := w) hm ht ho hw hro
  obtain ⟨fn, tmps, todo, defers, mode, kind, roundOf⟩ := fr
  simp only at ht hm
  subst ht
  subst hm
  cases r with
  | val v h' =>
    obtain ⟨ρ', v', w', h1, h2, h3, h4⟩ := hsim
    cases hs
    have hf := finish_ren (H.fr.mono h2.le) h3
    refine ⟨ρ', _, cs, w', ⟨hf, H.cs.mono h2.le, h1⟩, h2, .one (step_lone_go ?_)⟩
    rw [hstep]
    rcases h4 with h4 | ⟨h4, rfl⟩ <;> simp [stepG.apply, h4]
  | enter f args =>
    obtain ⟨hb, args', h1, h2⟩ := hsim
    simp only [aopstep] at hs
    split at hs
    · rename_i v h' hq
      cases hs
      obtain ⟨e, w', fr', ⟨ρ', v', rfl, c2, c3, c4⟩, c5, c6, c7⟩ := hhk f args s.h v h' hq ρ w args' H.w h1 (⟨fn, tmps, .inRegion ops (i :: rest) :: k, defers, .run, kind, roundOf⟩ :: (cs ++ cs0))
      refine ⟨ρ', _, cs, w', ⟨finish_ren (H.fr.mono c3.le) c4, H.cs.mono c3.le, c2⟩, c3, .head (step_lone_go (by rw [hstep]; simp [stepG.apply, h2])) (c5.trans (.one (step_leave_returned c7)))⟩
    · cases hs
      refine ⟨ρ, _, _ :: cs, w, ⟨enter_ren h1 f .normal, ⟨H.fr, H.cs⟩, H.w⟩, Ext.refl _ _ _, .one (step_lone_go ?_)⟩
      rw [hstep]
      simp [stepG.apply, h2]
  | defer d =>
    obtain ⟨d', h1, h2⟩ := hsim
    simp only [aopstep] at hs
    split at hs
    case isFalse => cases hs
    rename_i hrn
    cases hs
    have hd : renDs ρ (d :: s.fr.defers) = some (d' :: defers) := by
      have := H.fr.defers
      simp only at this
      simp [renDs, h1, this]
    have hf := finish_ren (H.fr.withDefers hd) (ren_undef ρ)
    refine ⟨ρ, _, cs, w, ⟨hf, H.cs, H.w⟩, Ext.refl _ _ _, .one (step_lone_go ?_)⟩
    rw [hstep]
    simp [stepG.apply, h2]
  | recover =>
    simp only [OpSim] at hsim
    simp only [aopstep] at hs
    split at hs
    case isFalse => cases hs
    rename_i hrn
    obtain ⟨q, hq, rfl⟩ := Option.map_eq_some_iff.1 hs
    have hrn' : roundOf = none := by
      rcases H.fr.round with ⟨_, h2⟩ | ⟨l, l', h1, _⟩
      · exact h2
      · rw [h1] at hrn; cases hrn
    subst hrn'
    have hk := H.fr.kind
    simp only at hk
    have nofind : ∀ v, (tryRecover ⟨fn, tmps, .inRegion ops (i :: rest) :: k, defers, .run, kind, none⟩ (cs ++ cs0)) = none → q = (.nilIface, s.cs) → StepTo P G ρ s ⟨s.fr.finish q.1, q.2, s.h⟩ ⟨fn, tmps, .inRegion ops (i :: rest) :: k, defers, .run, kind, none⟩ cs cs0 w ∧ v = v := fun (v : Nat) ht hq => by
      subst hq
      refine ⟨⟨ρ, _, cs, w, ⟨finish_ren H.fr (v := .nilIface) (v' := .nilIface) (by simp [ren]), H.cs, H.w⟩, Ext.refl _ _ _, .one (step_lone_go ?_)⟩, rfl⟩
      rw [hstep]
      simp only [stepG.apply, Sem.runT_eq, if_true, hsim, GStep.bare_after]
      rw [ht]
      rfl
    unfold arecover at hq
    split at hq
    · rename_i hkn
      cases hq
      exact (nofind 0 (by rw [hkn] at hk; simp [tryRecover, hk]) rfl).1
    · rename_i c crest hkd hcs
      have hcr := H.cs
      rw [hcs] at hcr
      obtain ⟨d, m, rfl, hf, hr⟩ := hcr.cons_inv
      have hmd := hf.mode
      rw [hkd] at hk
      split at hq
      · rename_i v older hcm
        cases hq
        rw [hcm] at hmd
        simp only [renM, renP, Option.map_eq_some_iff, Option.bind_eq_some_iff] at hmd
        obtain ⟨ch', ⟨v', hv, l', hl, rfl⟩, h2⟩ := hmd
        refine ⟨ρ, _, { d with mode := .panicking ({ v := v', recovered := true } :: l') } :: m, w, ⟨finish_ren H.fr hv, ⟨hf.withMode (by simp [renM, renP, hv, hl]), hr⟩, H.w⟩, Ext.refl _ _ _, .one (step_lone_go ?_)⟩
        rw [hstep]
        simp only [stepG.apply, Sem.runT_eq, if_true, hsim, GStep.bare_after]
        simp [tryRecover, hk, ← h2]
      · rename_i hno
        cases hq
        refine (nofind 0 ?_ (by rw [hcs])).1
        have : ∀ v' l', d.mode ≠ .panicking (⟨v', false, false⟩ :: l') := by
          intro v' l' q
          rw [q] at hmd
          cases hcm : c.mode with
          | run => rw [hcm] at hmd; simp [renM] at hmd
          | returning => rw [hcm] at hmd; simp [renM] at hmd
          | panicking ch =>
            rw [hcm] at hmd
            simp only [renM, Option.map_eq_some_iff] at hmd
            obtain ⟨ch', h1, h2⟩ := hmd
            cases h2
            cases ch with
            | nil => simp [renP] at h1
            | cons p ch =>
              simp only [renP, Option.bind_eq_some_iff, Option.map_eq_some_iff] at h1
              obtain ⟨v, q1, l, q2, q3⟩ := h1
              injection q3 with q3 q4
              cases p with
              | mk pv pr pg =>
                simp only [PanicEntry.mk.injEq] at q3
                obtain ⟨_, rfl, rfl⟩ := q3
                exact hno pv ch hcm
        simp only [tryRecover, hk, List.cons_append]
    · cases hq
  | panic v =>
    obtain ⟨v', h1, h2⟩ := hsim
    cases hs
    refine ⟨ρ, _, cs, w, ⟨raise_ren H.fr (c := [⟨v, false, false⟩]) (c' := [⟨v', false, false⟩]) (by simp [renP, h1]), H.cs, H.w⟩, Ext.refl _ _ _, .one (step_lone_go ?_)⟩
    rw [hstep]
    simp [stepG.apply, h2]
  | round l f tm as bo =>
    obtain ⟨l', tm', h1, h2, h3⟩ := hsim
    cases hs
    have hfr : FrR ρ (Frame.round l f tm as bo .normal) (Frame.round l' f tm' as bo .normal) := ⟨rfl, h2, by simp [Frame.round, renIs, renI], by simp [Frame.round, renDs], by simp [Frame.round, renM], rfl, .inr ⟨l, l', rfl, rfl, h1⟩⟩
    refine ⟨ρ, _, _ :: cs, w, ⟨hfr, ⟨H.fr, H.cs⟩, H.w⟩, Ext.refl _ _ _, .one (step_lone_go ?_)⟩
    rw [hstep]
    simp [stepG.apply, h3]
theorem run_aload {ρ : Rho} {h : AH} (H : WR G ρ h w) {t : TypeId} {a b : Addr} {v : Value} (hv : aload P h t a = some v) (hb : renA ρ a = some b) : ∃ v', ren ρ v = some v' ∧ (loadVar t b).run P w = .ok v' w := by
  obtain ⟨v', h1, h2⟩ := load_ok H hv hb
  exact ⟨v', h1, h2 w fun _ _ => rfl⟩
theorem ares_ok {ρ : Rho} {h : AH} (H : WR G ρ h w) {tm tm' : Array Value} (ht : renArr ρ tm = some tm') : ∀ {l : List ResultVar} {vs : List Value}, aresL P h tm l = some vs →
    ∃ vs', renL ρ vs = some vs' ∧ (l.mapM fun | .tmp t => pure (tm'.getD t undef) | .cell a t => do loadVar t (← asAddr (tm'.getD a undef)) : Sem (List Value)).run P w = .ok vs' w
  | [], vs, q => by simp [aresL] at q; subst q; exact ⟨[], by simp [renL], by simp⟩
  | r :: l, vs, q => by
    simp only [aresL, Option.bind_eq_some_iff, Option.map_eq_some_iff] at q
    obtain ⟨v, hv, vs0, hvs, rfl⟩ := q
    obtain ⟨vs', h1, h2⟩ := ares_ok H ht hvs
    cases r with
    | tmp t =>
      simp only [ares1, Option.some.injEq] at hv
      subst hv
      refine ⟨_ :: vs', renL_cons.2 ⟨_, _, renArr_getD ht t, h1, rfl⟩, ?_⟩
      simp only [List.mapM_cons, Sem.run_bind, Sem.run_pure, Result.andThen_ok]
      erw [h2]
      rfl
    | cell a t =>
      simp only [ares1] at hv
      split at hv
      case h_2 => cases hv
      rename_i ad hce
      have hx := renArr_getD ht a
      rw [hce] at hx
      obtain ⟨b, hb, hx'⟩ := ren_ptr hx
      obtain ⟨v', h3, h4⟩ := run_aload H hv hb
      refine ⟨v' :: vs', renL_cons.2 ⟨_, _, h3, h1, rfl⟩, ?_⟩
      simp only [List.mapM_cons, Sem.run_bind, hx', asAddr, Sem.run_pure, Result.andThen_ok, h4]
      erw [h2]
      rfl
theorem results_ok {ρ : Rho} {h : AH} (H : WR G ρ h w) {fn : Func} {tm tm' : Array Value} (ht : renArr ρ tm = some tm') {v : Value} (hv : aresults P h fn tm = some v) : ∃ v', ren ρ v = some v' ∧ (results fn tm').run P w = .ok v' w := by
  obtain ⟨vs, hvs, rfl⟩ := Option.map_eq_some_iff.1 hv
  obtain ⟨vs', h1, h2⟩ := ares_ok H ht hvs
  have hlen := renL_length h1
  refine ⟨one vs', ?_, ?_⟩
  · unfold one
    split
    · rename_i v0
      obtain ⟨v', l', q1, q2, rfl⟩ := renL_cons.1 h1
      simp [renL] at q2; subst q2
      exact q1
    · rename_i hno
      have : renArr ρ vs.toArray = some vs'.toArray := renArr_iff.2 (by simpa using h1)
      split
      · rename_i v0
        exfalso
        cases vs with
        | nil => simp at hlen
        | cons x xs => cases xs with
          | nil => exact hno x rfl
          | cons y ys => simp at hlen
      · simp [ren, this]
  · have hrun : (fn.results.mapM (fun | .tmp t => pure (tm'.getD t undef) | .cell a t => do loadVar t (← asAddr (tm'.getD a undef))) : Sem (Array Value)).run P w = .ok vs'.toArray w := by
      rw [← Array.toArray_toList (xs := fn.results), List.mapM_toArray, Sem.run_map]
      erw [h2]
      rfl
    unfold results
    rw [Sem.run_bind]
    erw [hrun]
    simp only [Result.andThen_ok, Sem.run_pure]
    congr 1
    unfold one
    split
    · rename_i hsz
      split
      · simp
      · rename_i hno
        exfalso
        cases vs' with
        | nil => simp at hsz
        | cons x xs => cases xs with
          | nil => exact hno x rfl
          | cons y ys => simp at hsz
    · rename_i hsz
      split
      · simp at hsz
      · rfl
end
end Go.AE
namespace Go.AE
open Go
section
variable {P : Program} {G : Nat} {ρ : Rho} {h : AH} {w : World} {cs cs0 : List Frame}
theorem leave_ok {s s' : AS} {fr : Frame} (H : SR G ρ s fr cs w) (_hm : fr.mode = .run) {jump : Option Code} (ha : aleave s.fr s.cs s.h jump = some s')
    (hex : ∀ w, stepG P true { frame := fr, callers := cs ++ cs0, status := .running, dying := none } w =
      (match fr.roundOf with
      | none => if jump matches none | some .ret then GStep.go { frame := { fr with mode := .returning }, callers := cs ++ cs0, status := .running, dying := none } w else .ended (.stuck "exit, goto: no such block or label" (fr.pos P)) w
      | some l =>
        let (r, es) := (Instr.endRound l jump).runT P w #[]
        GStep.after (seen P fr.fn es) <| match r with
        | .ok v w => doReturn P true fr (cs ++ cs0) none v w
        | .halt _ w => .ended (.stuck "range over a function: no such loop" (fr.pos P)) w)) : StepTo P G ρ s s' fr cs cs0 w := by
  unfold aleave at ha
  rcases H.fr.round with ⟨h1, h2⟩ | ⟨l, l', h1, h2, h3⟩
  · rw [h1] at ha
    simp only at ha
    split at ha
    all_goals first | (cases ha; done) | skip
    all_goals
      cases ha
      refine ⟨ρ, { fr with mode := .returning }, cs, w, ⟨⟨H.fr.fn, H.fr.tmps, H.fr.todo, H.fr.defers, by simp [renM], H.fr.kind, .inl ⟨rfl, h2⟩⟩, H.cs, H.w⟩, Ext.refl _ _ _, .one (step_lone_go ?_)⟩
      rw [hex, h2]
      simp
  · rw [h1] at ha
    simp only at ha
    split at ha
    case h_2 => cases ha
    rename_i r hg
    obtain ⟨b, x, q1, q2, q3⟩ := H.w.obj _ _ hg
    rw [h3] at q1; cases q1
    cases x <;> simp only [ObjR] at q3
    rename_i r'
    obtain ⟨r1, r2, r3, r4, r5, r6, r7, r8⟩ := q3
    have hset := H.w.set (w' := { w with heap := w.heap.setIfInBounds l' (.loop { r' with state := if jump.isNone then .ready else .done, pending := jump }) }) (o' := .loop { r with state := if jump.isNone then .ready else .done, pending := jump }) hg h3 rfl
      (by simp only [ObjR]; exact ⟨trivial, trivial, r3, r4, r5, r6, r7, r8⟩)
    have hext := Ext.set (w' := { w with heap := w.heap.setIfInBounds l' (.loop { r' with state := if jump.isNone then .ready else .done, pending := jump }) }) (x' := .loop { r' with state := if jump.isNone then .ready else .done, pending := jump }) (o' := .loop { r with state := if jump.isNone then .ready else .done, pending := jump }) H.w hg rfl h3 rfl rfl rfl rfl
    obtain ⟨e1, fr', cs', hsr, hret⟩ := return_ok (P := P) (fr := fr) H.fr.kind H.cs hset ha (v' := .bool jump.isNone) (by simp [ren])
    refine ⟨ρ, fr', cs', _, hsr, by rw [e1]; exact hext, .one (step_lone_go ?_)⟩
    rw [hex, h2]
    have hgo : (getObj l').run P w = .ok (.loop r') w := by simp [getObj, Sem.run, q2]
    have hrun : (Instr.endRound l' jump).run P w = .ok (.bool jump.isNone) { w with heap := w.heap.setIfInBounds l' (.loop { r' with state := if jump.isNone then .ready else .done, pending := jump }) } := by
      simp only [Instr.endRound, Instr.getLoop, Sem.run_bind, hgo, Result.andThen_ok, Sem.run_pure]
      simp [setObj, Sem.run, q2]
    simp only [Sem.runT_eq, hrun, GStep.bare_after, hret]
    try rfl
theorem unwind_ok {s s' : AS} {fr : Frame} (H : SR G ρ s fr cs w) (hm : fr.mode ≠ .run) (ha : aunwind P s.fr s.cs s.h = some s') : StepTo P G ρ s s' fr cs cs0 w := by
  have hst : ∀ w, stepG P true { frame := fr, callers := cs ++ cs0, status := .running, dying := none } w = unwind P true fr (cs ++ cs0) none w := fun w => by
    simp only [stepG]
  unfold aunwind at ha
  have hdf := H.fr.defers
  split at ha
  · rename_i d ds hds
    rw [hds] at hdf
    simp only [renDs, Option.bind_eq_some_iff, Option.map_eq_some_iff] at hdf
    obtain ⟨d', hd, ds', hds', hdf⟩ := hdf
    simp only [renD, Option.bind_eq_some_iff, Option.map_eq_some_iff] at hd
    obtain ⟨t', ht, args', hargs, rfl⟩ := hd
    split at ha
    · rename_i blk htg
      rw [htg] at ht
      simp only [renT, Option.map_eq_some_iff] at ht
      obtain ⟨b, hb, rfl⟩ := ht
      split at ha
      case h_2 => cases ha
      rename_i cl hg
      cases ha
      obtain ⟨b', x, q1, q2, q3⟩ := H.w.obj _ _ hg
      rw [hb] at q1; cases q1
      cases x <;> simp only [ObjR] at q3
      rename_i calls
      cases calls with
      | none => simp only at q3
      | some cl' =>
        simp only at q3
        have hset := H.w.set (w' := { w with heap := w.heap.setIfInBounds b (.deferred none) }) (o' := .defd none) hg hb rfl (by simp only [ObjR])
        have hext := Ext.set (w' := { w with heap := w.heap.setIfInBounds b (.deferred none) }) (x' := .deferred none) (o' := .defd none) H.w hg rfl hb rfl rfl rfl rfl
        have happ : ∀ (x y x' y' : List Deferred), renDs ρ x = some x' → renDs ρ y = some y' → renDs ρ (x ++ y) = some (x' ++ y') := by
          intro x
          induction x with
          | nil => intro y x' y' h1 h2; simp [renDs] at h1; subst h1; exact h2
          | cons p x ih =>
            intro y x' y' h1 h2
            simp only [renDs, List.cons_append, Option.bind_eq_some_iff, Option.map_eq_some_iff] at h1 ⊢
            obtain ⟨v, q1, l, q2, rfl⟩ := h1
            exact ⟨v, q1, l ++ y', ih y l y' q2 h2, rfl⟩
        refine ⟨ρ, { fr with defers := cl' ++ ds' }, cs, _, ⟨H.fr.withDefers (happ _ _ _ _ q3 hds'), H.cs, hset⟩, hext, .one (step_lone_go ?_)⟩
        rw [hst]
        have hrun : (Instr.takeDeferred b).run P w = .ok cl' { w with heap := w.heap.setIfInBounds b (.deferred none) } := by
          simp [Instr.takeDeferred, getObj, setObj, Sem.run, q2]
        simp [unwind, ← hdf, hrun]
    · rename_i f cap htg
      rw [htg] at ht
      simp only [renT, renF, Option.bind_eq_some_iff, Option.map_eq_some_iff] at ht
      obtain ⟨fn', hfn, cap', hcap, rfl⟩ := ht
      cases hfn
      split at ha
      case isFalse => cases ha
      rename_i hb
      cases ha
      have hcat := renArr_append hargs hcap
      refine ⟨ρ, _, { fr with defers := ds' } :: cs, w, ⟨enter_ren hcat f .deferred, ⟨H.fr.withDefers hds', H.cs⟩, H.w⟩, Ext.refl _ _ _, .one ?_⟩
      have hinv : (invoke (.fn (.func f) cap') args').run P w = .ok (.enter f (args' ++ cap')) w := by simp [invoke, run_callFunc hb]
      exact step_defer hm hdf.symm rfl hinv
    · cases ha
  · rename_i hds
    rw [hds] at hdf
    simp [renDs] at hdf
    split at ha
    · cases ha
    rename_i fn hfn
    have hfn' : P.funcs[fr.fn]? = some fn := by rw [H.fr.fn]; exact hfn
    have hmd := H.fr.mode
    split at ha
    · cases ha
    · rename_i chain hmc
      rw [hmc] at hmd
      simp only [renM, Option.map_eq_some_iff] at hmd
      obtain ⟨ch', hch, hmd⟩ := hmd
      split at ha
      case h_2 => cases ha
      rename_i c rest hcs
      cases ha
      have hcr := H.cs
      rw [hcs] at hcr
      obtain ⟨d, m, rfl, hf, hr⟩ := hcr.cons_inv
      refine ⟨ρ, d.raise ch', m, w, ⟨raise_ren hf hch, hr, H.w⟩, Ext.refl _ _ _, .one (step_lone_go ?_)⟩
      rw [hst]
      simp [unwind, hdf, ← hmd, Frame.catches, hfn']
    · rename_i hmc
      rw [hmc] at hmd
      simp only [renM, Option.some.injEq] at hmd
      obtain ⟨v, hv, ha⟩ := Option.bind_eq_some_iff.1 ha
      obtain ⟨v', h1, h2⟩ := results_ok H.w H.fr.tmps hv
      obtain ⟨e1, fr', cs', hsr, hret⟩ := return_ok (P := P) (fr := fr) H.fr.kind H.cs H.w ha h1
      refine ⟨ρ, fr', cs', w, hsr, by rw [e1]; exact Ext.refl _ _ _, .one (step_lone_go ?_)⟩
      rw [hst]
      simp only [unwind, hdf, ← hmd, hfn', Sem.runT_eq, h2, GStep.bare_after, hret]
      rfl
end
end Go.AE
namespace Go.AE
open Go
section
variable {P : Program} {G : Nat} {ρ : Rho} {h : AH} {w : World} {cs cs0 : List Frame}
theorem notDefer {o : Oper} (h : isDefer o.op = false) : ∀ c, o.op ≠ .defer c := fun c q => by rw [q] at h; cases h
theorem rangeFunc_ok {s s' : AS} {fr : Frame} (H : SR G ρ s fr cs w) (hm : fr.mode = .run) {f : Operand} {params : Array Tmp} {assign body : Code} {k k' : List Item} (hta : s.fr.todo = .code (.rangeFunc f params assign body) :: k) (ht : fr.todo = .code (.rangeFunc f params assign body) :: k') (hk : renIs ρ k = some k')
    {g : FuncId} {first cap : Array Value} (hro : s.fr.roundOf = none) (hok : okOpd G f = true) (hf : ({ tmps := s.fr.tmps, defers := [] } : Act).eval f = .func (.func g) first cap) (hb : hasBody P g = true)
    (hs : s' = ⟨Frame.enter P g (first ++ #[.func (.yield (s.h.push (.defd (some []))).next) #[] #[]] ++ cap) .normal, { s.fr with todo := .inRangeFunc (s.h.push (.defd (some []))).next :: k, defers := { target := .collected s.h.next, args := #[] } :: s.fr.defers } :: s.cs,
      (s.h.push (.defd (some []))).push (.loop { state := .ready, pending := none, fn := s.fr.fn, tmps := s.fr.tmps, params, assign, body, defers := s.h.next })⟩) : StepTo P G ρ s s' fr cs cs0 w := by
  subst hs
  have hro' : fr.roundOf = none := by
    rcases H.fr.round with ⟨_, h2⟩ | ⟨l, l', h1, _⟩
    · exact h2
    · rw [hro] at h1; cases h1
  have hev := ev_ren H.w (a := { tmps := s.fr.tmps, defers := [] }) (b := { tmps := fr.tmps, defers := [] }) H.fr.tmps hok
  rw [hf, ← eval_eq fr []] at hev
  simp only [ren, renF, Option.bind_eq_some_iff, Option.map_eq_some_iff] at hev
  obtain ⟨fn', hfn, first', hfirst, cap', hcap, hev⟩ := hev
  cases hfn

  let ρ1 := ρ.bind s.h.next w.heap.size none
  let h1 := s.h.push (.defd (some []))
  let w1 : World := { w with heap := w.heap.push (.deferred (some [])) }
  have W1 : WR G ρ1 h1 w1 := H.w.alloc _ _ none rfl (by simp [ObjR, renDs])
  have E1 : Ext ρ s.h w ρ1 h1 w1 := Ext.alloc H.w _ (.deferred (some [])) none rfl rfl rfl rfl
  let lp : Loop := { state := .ready, pending := none, fn := fr.fn, tmps := fr.tmps, params, assign, body, defers := w.heap.size }
  let w2 : World := { w1 with heap := w1.heap.push (.loop lp) }
  let ρ2 := ρ1.bind h1.next w1.heap.size none
  have hle2 : ρ1.le ρ2 := Rho.le_bind (W1.fresh _ (Nat.le_refl _)) _ _
  have W2 : WR G ρ2 (h1.push (.loop { state := .ready, pending := none, fn := s.fr.fn, tmps := s.fr.tmps, params, assign, body, defers := s.h.next })) w2 := by
    refine W1.alloc _ _ none rfl ?_
    simp only [ObjR]
    refine ⟨rfl, rfl, H.fr.fn, renArr_mono (Rho.le_trans E1.le hle2) _ _ H.fr.tmps, rfl, rfl, rfl, ?_⟩
    exact (hle2 s.h.next w.heap.size (by simp [ρ1, Rho.bind])).1
  have E2 : Ext ρ1 h1 w1 ρ2 (h1.push (.loop { state := .ready, pending := none, fn := s.fr.fn, tmps := s.fr.tmps, params, assign, body, defers := s.h.next })) w2 := Ext.alloc W1 _ (.loop lp) none rfl rfl rfl rfl
  have E := E1.trans E2
  have hl : ρ2.blk h1.next = some w1.heap.size := by simp [ρ2, Rho.bind]
  have hd : ρ2.blk s.h.next = some w.heap.size := (hle2 _ _ (by simp [ρ1, Rho.bind])).1
  have hargs : renArr ρ2 (first ++ #[.func (.yield h1.next) #[] #[]] ++ cap) = some (first' ++ #[.func (.yield w1.heap.size) #[] #[]] ++ cap') := by
    refine renArr_append (renArr_append (renArr_mono E.le _ _ hfirst) ?_) (renArr_mono E.le _ _ hcap)
    simp [renArr, renL, ren, renF, hl]
  have hcaller : FrR ρ2 { s.fr with todo := .inRangeFunc h1.next :: k, defers := { target := .collected s.h.next, args := #[] } :: s.fr.defers } { fr with todo := .inRangeFunc w1.heap.size :: k', defers := { target := .collected w.heap.size, args := #[] } :: fr.defers } := by
    have hdd := renDs_mono E.le H.fr.defers
    refine ⟨H.fr.fn, renArr_mono E.le _ _ H.fr.tmps, ?_, ?_, renM_mono E.le H.fr.mode, H.fr.kind, .inl ⟨hro, hro'⟩⟩
    · exact renIs_cons.2 ⟨_, _, by simp [renI, hl], renIs_mono E.le hk, rfl⟩
    · simp [renDs, renD, renT, hd, renArr, renL, hdd]
  refine ⟨ρ2, _, _ :: cs, w2, ⟨enter_ren hargs g .normal, ⟨hcaller, H.cs.mono E.le⟩, W2⟩, E, .one (step_lone_go ?_)⟩
  have hrun : (Instr.enterLoop fr.fn fr.tmps params assign body fr.roundOf).run P w = .ok (w1.heap.size, [{ target := .collected w.heap.size, args := #[] }]) w2 := by
    rw [hro']
    simp [Instr.enterLoop, w1, w2, lp]
  simp only [stepG, hm, stepG.exec, ht, Sem.runT_eq, hrun, GStep.bare_after]
  have hrun2 : ∀ fr2 : Frame, fr2.eval f = .func (.func g) first' cap' → (do let d ← resolve fr2.eval { callee := .value f, args := #[.const (.func (.yield w1.heap.size) #[] #[])], argTypes := #[] } 0; invoke d.target d.args : Sem Next).run P w2 = .ok (.enter g (first' ++ #[.func (.yield w1.heap.size) #[] #[]] ++ cap')) w2 := fun fr2 hf2 => by
    have hc : ∀ v : Value, fr2.eval (.const v) = v := fun _ => rfl
    simp only [resolve, List.map_toArray, List.map_cons, List.map_nil, hf2, hc, Deferred.ofValue, Sem.run_bind, Sem.run_pure, Result.andThen_ok, invoke, run_callFunc hb]
  have hr3 := hrun2 { fr with todo := .inRangeFunc w1.heap.size :: k', defers := [{ target := .collected w.heap.size, args := #[] }] ++ fr.defers } (by
    have : ({ fr with todo := .inRangeFunc w1.heap.size :: k', defers := [{ target := .collected w.heap.size, args := #[] }] ++ fr.defers } : Frame).eval f = fr.eval f := by cases f <;> rfl
    rw [this, ← hev])
  simp only [stepG.apply, Sem.runT_eq, if_true, hm] at hr3 ⊢
  rw [hr3]
  simp only [GStep.bare_after]
  rfl
theorem astep_ok {hk : FuncId → Array Value → AH → Option (Value × AH)} (hhk : NestOK P G hk) {draw : Array Oper → Array Value → AH → Option (Array Value × AH)} (hdraw : DrawOK P G draw) {s s' : AS} {fr : Frame} (H : SR G ρ s fr cs w) (hs : astep P G hk draw s = some s') : StepTo P G ρ s s' fr cs cs0 w := by
  unfold astep at hs
  split at hs
  case h_2 =>
    rename_i hno
    refine unwind_ok H (fun q => hno ?_) hs
    have hmd := H.fr.mode
    rw [q] at hmd
    cases hmm : s.fr.mode with
    | run => rfl
    | returning => rw [hmm] at hmd; simp [renM] at hmd
    | panicking c => rw [hmm] at hmd; simp [renM] at hmd
  rename_i hma
  have hm := renM_run H.fr hma
  split at hs
  ·
    rename_i k hk
    split at hs
    case isFalse => cases hs
    rename_i hok
    cases hs
    obtain ⟨k', h1, h2⟩ := ctl_ren (ρ := ρ) (ev' := fr.eval) (fun c x y k0 q => by
      rw [q] at hok
      rw [eval_eq fr []]
      exact ev_ren H.w H.fr.tmps hok) H.fr.todo hk
    exact ⟨ρ, { fr with todo := k' }, cs, w, ⟨H.fr.withTodo h2, H.cs, H.w⟩, Ext.refl _ _ _, .one (step_ctl hm h1)⟩
  · rename_i hctl
    have htd := H.fr.todo
    split at hs
    ·
      rename_i ops i rest k hta
      rw [hta] at htd
      obtain ⟨x', k', q1, q2, ht⟩ := renIs_cons.1 htd
      cases q1
      split at hs
      case h_2 => cases hs
      rename_i o ho
      have hy := yielded_ren H.fr.tmps ops
      split at hs
      · rename_i hw
        split at hs
        · cases hs
        rename_i hdf
        obtain ⟨r, hr, hs⟩ := Option.bind_eq_some_iff.1 hs
        refine opstep_ok hhk H hm ht ho (by rw [hy]; exact hw) ?_ hr hs
        rcases H.fr.round with ⟨_, h2⟩ | ⟨l, l', h1, _⟩
        · exact .inl h2
        · refine .inr (notDefer ?_)
          rw [h1] at hdf
          simpa using hdf
      · rename_i hw
        cases hs
        refine ⟨ρ, fr.finish undef, cs, w, ⟨finish_ren H.fr (ren_undef ρ), H.cs, H.w⟩, Ext.refl _ _ _, .one (step_lone_go ?_)⟩
        have hw' : Region.wanted o (yielded ops fr.tmps) = false := by rw [hy]; simpa using hw
        simp [stepG, hm, stepG.exec, ht, ho, hw']
    · rename_i k hta
      rw [hta] at htd
      obtain ⟨x', k', q1, q2, ht⟩ := renIs_cons.1 htd
      cases q1
      exact leave_ok H hm hs fun w => by simp only [stepG, hm, stepG.exec, ht]; rfl
    · rename_i hta
      rw [hta] at htd
      simp [renIs] at htd
      exact leave_ok H hm hs fun w => by simp only [stepG, hm, stepG.exec, htd]; rfl
    · rename_i id k hta
      rw [hta] at htd
      obtain ⟨x', k', q1, q2, ht⟩ := renIs_cons.1 htd
      cases q1
      have hn : exitTo id k' = none := exitTo_none q2 (by rw [hta] at hctl; exact hctl)
      exact leave_ok H hm hs fun w => by simp only [stepG, hm, stepG.exec, ht, hn, Option.elim_none]; rfl
    · rename_i l k hta
      rw [hta] at htd
      obtain ⟨x', k', q1, q2, ht⟩ := renIs_cons.1 htd
      cases q1
      have hn : gotoIn l k' = none := gotoIn_none q2 (by rw [hta] at hctl; exact hctl)
      exact leave_ok H hm hs fun w => by simp only [stepG, hm, stepG.exec, ht, hn, Option.elim_none]; rfl
    · rename_i id ops k hta
      rw [hta] at htd
      obtain ⟨x', k', q1, q2, ht⟩ := renIs_cons.1 htd
      cases q1
      obtain ⟨r, hr, rfl⟩ := Option.map_eq_some_iff.1 hs
      obtain ⟨ρ', tmr, w', h1, h2, h3, h4⟩ := hdraw ops s.fr.tmps s.h r.1 r.2 hr ρ fr (cs ++ cs0) w k' id H.w H.fr.tmps hm ht
      have hf := H.fr.mono h2.le
      exact ⟨ρ', { fr with tmps := tmr, todo := k' }, cs, w', ⟨⟨hf.fn, h3, renIs_mono h2.le q2, hf.defers, hf.mode, hf.kind, hf.round⟩, H.cs.mono h2.le, h1⟩, h2, h4⟩
    · rename_i f params assign body k hta
      rw [hta] at htd
      obtain ⟨x', k', q1, q2, ht⟩ := renIs_cons.1 htd
      cases q1
      split at hs
      case h_2 => cases hs
      rename_i g first cap hro hok hf
      split at hs
      case isFalse => cases hs
      rename_i hb
      exact rangeFunc_ok H hm hta ht q2 hro hok hf hb (Option.some.inj hs).symm
    · rename_i k hta
      rw [hta] at htd
      obtain ⟨x', k', q1, q2, ht⟩ := renIs_cons.1 htd
      cases q1
      split at hs
      case h_2 => cases hs
      rename_i l hro
      split at hs
      case h_2 => cases hs
      rename_i r hg
      split at hs
      case isFalse => cases hs
      rename_i hst
      cases hs
      rcases H.fr.round with ⟨h1, _⟩ | ⟨l0, l', h1, h2, h3⟩
      · rw [hro] at h1; cases h1
      rw [hro] at h1; cases h1
      obtain ⟨b, x, p1, p2, p3⟩ := H.w.obj _ _ hg
      rw [h3] at p1; cases p1
      cases x <;> simp only [ObjR] at p3
      rename_i r'
      obtain ⟨r1, r2, r3, r4, r5, r6, r7, r8⟩ := p3
      have hset := H.w.set (w' := { w with heap := w.heap.setIfInBounds l' (.loop { r' with state := .busy }) }) (o' := .loop { r with state := .busy }) hg h3 rfl (by simp only [ObjR]; exact ⟨trivial, r2, r3, r4, r5, r6, r7, r8⟩)
      have hext := Ext.set (w' := { w with heap := w.heap.setIfInBounds l' (.loop { r' with state := .busy }) }) (x' := .loop { r' with state := .busy }) (o' := .loop { r with state := .busy }) H.w hg rfl h3 rfl rfl rfl rfl
      refine ⟨ρ, fr.finish undef, cs, _, ⟨finish_ren H.fr (ren_undef ρ), H.cs, hset⟩, hext, .one (step_lone_go ?_)⟩
      have hgo : (getObj l').run P w = .ok (.loop r') w := by simp [getObj, Sem.run, p2]
      have hready : r'.state = .ready := by rw [r1]; simpa using hst
      have hrun : (do fr.roundOf.elim (stuck "beginRound: no round") Instr.beginRound; pure .skip : Sem Next).run P w = .ok .skip { w with heap := w.heap.setIfInBounds l' (.loop { r' with state := .busy }) } := by
        rw [h2]
        simp only [Option.elim_some, Instr.beginRound, Instr.getLoop, Sem.run_bind, hgo, Result.andThen_ok, Sem.run_pure, hready]
        simp [setObj, Sem.run, p2]
      simp only [stepG, hm, stepG.exec, ht]
      simp only [stepG.apply, Sem.runT_eq, if_true, hrun, GStep.bare_after]
      rfl
    · rename_i l k hta
      rw [hta] at htd
      obtain ⟨x', k', q1, q2, ht⟩ := renIs_cons.1 htd
      simp only [renI, Option.map_eq_some_iff] at q1
      obtain ⟨l', h3, rfl⟩ := q1
      split at hs
      case h_2 => cases hs
      rename_i r hg
      split at hs
      · cases hs
      rename_i hst
      cases hs
      obtain ⟨b, x, p1, p2, p3⟩ := H.w.obj _ _ hg
      rw [h3] at p1; cases p1
      cases x <;> simp only [ObjR] at p3
      rename_i r'
      obtain ⟨r1, r2, r3, r4, r5, r6, r7, r8⟩ := p3
      have hset := H.w.set (w' := { w with heap := w.heap.setIfInBounds l' (.loop { r' with state := .exhausted }) }) (o' := .loop { r with state := .exhausted }) hg h3 rfl (by simp only [ObjR]; exact ⟨trivial, r2, r3, r4, r5, r6, r7, r8⟩)
      have hext := Ext.set (w' := { w with heap := w.heap.setIfInBounds l' (.loop { r' with state := .exhausted }) }) (x' := .loop { r' with state := .exhausted }) (o' := .loop { r with state := .exhausted }) H.w hg rfl h3 rfl rfl rfl rfl
      have htodo : renIs ρ ((r.pending.map Item.code).toList ++ k) = some ((r'.pending.map Item.code).toList ++ k') := by
        rw [r2]
        cases r.pending with
        | none => exact q2
        | some c => exact renIs_cons.2 ⟨_, _, rfl, q2, rfl⟩
      refine ⟨ρ, { fr with todo := (r'.pending.map Item.code).toList ++ k' }, cs, _, ⟨H.fr.withTodo htodo, H.cs, hset⟩, hext, .one (step_lone_go ?_)⟩
      have hgo : (getObj l').run P w = .ok (.loop r') w := by simp [getObj, Sem.run, p2]
      have hbusy : (r'.state == .busy) = false := by rw [r1]; simpa using hst
      have hrun : (Instr.endLoop l').run P w = .ok r'.pending { w with heap := w.heap.setIfInBounds l' (.loop { r' with state := .exhausted }) } := by
        simp only [Instr.endLoop, Instr.getLoop, Sem.run_bind, hgo, Result.andThen_ok, Sem.run_pure, hbusy]
        simp [setObj, Sem.run, p2]
      simp only [stepG, hm, stepG.exec, ht, Sem.runT_eq, hrun, GStep.bare_after]
      rfl
    · cases hs
end
end Go.AE
namespace Go.AE
open Go
mutual
def veq : Value → Value → Bool
  | .bool a, .bool b => a == b
  | .int k n, .int k' n' => decide (k = k') && decide (n = n')
  | .string a, .string b => decide (a.data.toList = b.data.toList)
  | .pointer a, .pointer b => decide (a = b)
  | .slice a n c, .slice b m d => decide (a = b) && (n.beq m && c.beq d)
  | .map a, .map b => decide (a = b)
  | .chan a, .chan b => decide (a = b)
  | .func f x y, .func g z u => decide (f = g) && (veqA x z && veqA y u)
  | .nilFunc, .nilFunc => true
  | .iface t v, .iface u x => t.beq u && veq v x
  | .nilIface, .nilIface => true
  | .agg x, .agg y => veqA x y
  | .tuple x, .tuple y => veqA x y
  | _, _ => false
def veqA : Array Value → Array Value → Bool
  | ⟨x⟩, ⟨y⟩ => veqL x y
def veqL : List Value → List Value → Bool
  | [], [] => true
  | v :: l, u :: m => veq v u && veqL l m
  | _, _ => false
end
mutual
theorem veq_sound : ∀ a b, veq a b = true → a = b
  | .bool a, .bool b, h => by simp [veq] at h; rw [h]
  | .int k n, .int k' n', h => by simp [veq] at h; rw [h.1, h.2]
  | .string a, .string b, h => by
    simp only [veq, decide_eq_true_eq] at h
    congr 1
    cases a; cases b
    simp at h
    rw [h]
  | .pointer a, .pointer b, h => by simp [veq] at h; rw [h]
  | .slice a n c, .slice b m d, h => by simp [veq] at h; rw [h.1, h.2.1, h.2.2]
  | .map a, .map b, h => by simp [veq] at h; rw [h]
  | .func f x y, .func g z u, h => by
    simp only [veq, Bool.and_eq_true, decide_eq_true_eq] at h
    rw [h.1, veqA_sound x z h.2.1, veqA_sound y u h.2.2]
  | .nilFunc, .nilFunc, _ => rfl
  | .iface t v, .iface u x, h => by
    simp only [veq, Bool.and_eq_true] at h
    rw [Nat.eq_of_beq_eq_true h.1, veq_sound v x h.2]
  | .nilIface, .nilIface, _ => rfl
  | .agg x, .agg y, h => by
    simp only [veq] at h
    rw [veqA_sound x y h]
  | .tuple x, .tuple y, h => by
    simp only [veq] at h
    rw [veqA_sound x y h]
  | .bool _, .int .., h | .bool _, .float .., h | .bool _, .complex .., h | .bool _, .string .., h | .bool _, .pointer .., h | .bool _, .slice .., h | .bool _, .map .., h | .bool _, .chan .., h | .bool _, .func .., h | .bool _, .nilFunc, h | .bool _, .iface .., h | .bool _, .nilIface, h | .bool _, .agg .., h | .bool _, .tuple .., h => by simp [veq] at h
  | .int .., .bool .., h | .int .., .float .., h | .int .., .complex .., h | .int .., .string .., h | .int .., .pointer .., h | .int .., .slice .., h | .int .., .map .., h | .int .., .chan .., h | .int .., .func .., h | .int .., .nilFunc, h | .int .., .iface .., h | .int .., .nilIface, h | .int .., .agg .., h | .int .., .tuple .., h => by simp [veq] at h
  | .float .., _, h => by simp [veq] at h
  | .complex .., _, h => by simp [veq] at h
  | .chan a, .chan b, h => by simp [veq] at h; rw [h]
  | .chan .., .bool .., h | .chan .., .int .., h | .chan .., .float .., h | .chan .., .complex .., h | .chan .., .string .., h | .chan .., .pointer .., h | .chan .., .slice .., h | .chan .., .map .., h | .chan .., .func .., h | .chan .., .nilFunc, h | .chan .., .iface .., h | .chan .., .nilIface, h | .chan .., .agg .., h | .chan .., .tuple .., h => by simp [veq] at h
  | .string .., .bool .., h | .string .., .int .., h | .string .., .float .., h | .string .., .complex .., h | .string .., .pointer .., h | .string .., .slice .., h | .string .., .map .., h | .string .., .chan .., h | .string .., .func .., h | .string .., .nilFunc, h | .string .., .iface .., h | .string .., .nilIface, h | .string .., .agg .., h | .string .., .tuple .., h => by simp [veq] at h
  | .pointer .., .bool .., h | .pointer .., .int .., h | .pointer .., .float .., h | .pointer .., .complex .., h | .pointer .., .string .., h | .pointer .., .slice .., h | .pointer .., .map .., h | .pointer .., .chan .., h | .pointer .., .func .., h | .pointer .., .nilFunc, h | .pointer .., .iface .., h | .pointer .., .nilIface, h | .pointer .., .agg .., h | .pointer .., .tuple .., h => by simp [veq] at h
  | .slice .., .bool .., h | .slice .., .int .., h | .slice .., .float .., h | .slice .., .complex .., h | .slice .., .string .., h | .slice .., .pointer .., h | .slice .., .map .., h | .slice .., .chan .., h | .slice .., .func .., h | .slice .., .nilFunc, h | .slice .., .iface .., h | .slice .., .nilIface, h | .slice .., .agg .., h | .slice .., .tuple .., h => by simp [veq] at h
  | .map .., .bool .., h | .map .., .int .., h | .map .., .float .., h | .map .., .complex .., h | .map .., .string .., h | .map .., .pointer .., h | .map .., .slice .., h | .map .., .chan .., h | .map .., .func .., h | .map .., .nilFunc, h | .map .., .iface .., h | .map .., .nilIface, h | .map .., .agg .., h | .map .., .tuple .., h => by simp [veq] at h
  | .func .., .bool .., h | .func .., .int .., h | .func .., .float .., h | .func .., .complex .., h | .func .., .string .., h | .func .., .pointer .., h | .func .., .slice .., h | .func .., .map .., h | .func .., .chan .., h | .func .., .nilFunc, h | .func .., .iface .., h | .func .., .nilIface, h | .func .., .agg .., h | .func .., .tuple .., h => by simp [veq] at h
  | .nilFunc, .bool .., h | .nilFunc, .int .., h | .nilFunc, .float .., h | .nilFunc, .complex .., h | .nilFunc, .string .., h | .nilFunc, .pointer .., h | .nilFunc, .slice .., h | .nilFunc, .map .., h | .nilFunc, .chan .., h | .nilFunc, .func .., h | .nilFunc, .iface .., h | .nilFunc, .nilIface, h | .nilFunc, .agg .., h | .nilFunc, .tuple .., h => by simp [veq] at h
  | .iface .., .bool .., h | .iface .., .int .., h | .iface .., .float .., h | .iface .., .complex .., h | .iface .., .string .., h | .iface .., .pointer .., h | .iface .., .slice .., h | .iface .., .map .., h | .iface .., .chan .., h | .iface .., .func .., h | .iface .., .nilFunc, h | .iface .., .nilIface, h | .iface .., .agg .., h | .iface .., .tuple .., h => by simp [veq] at h
  | .nilIface, .bool .., h | .nilIface, .int .., h | .nilIface, .float .., h | .nilIface, .complex .., h | .nilIface, .string .., h | .nilIface, .pointer .., h | .nilIface, .slice .., h | .nilIface, .map .., h | .nilIface, .chan .., h | .nilIface, .func .., h | .nilIface, .nilFunc, h | .nilIface, .iface .., h | .nilIface, .agg .., h | .nilIface, .tuple .., h => by simp [veq] at h
  | .agg .., .bool .., h | .agg .., .int .., h | .agg .., .float .., h | .agg .., .complex .., h | .agg .., .string .., h | .agg .., .pointer .., h | .agg .., .slice .., h | .agg .., .map .., h | .agg .., .chan .., h | .agg .., .func .., h | .agg .., .nilFunc, h | .agg .., .iface .., h | .agg .., .nilIface, h | .agg .., .tuple .., h => by simp [veq] at h
  | .tuple .., .bool .., h | .tuple .., .int .., h | .tuple .., .float .., h | .tuple .., .complex .., h | .tuple .., .string .., h | .tuple .., .pointer .., h | .tuple .., .slice .., h | .tuple .., .map .., h | .tuple .., .chan .., h | .tuple .., .func .., h | .tuple .., .nilFunc, h | .tuple .., .iface .., h | .tuple .., .nilIface, h | .tuple .., .agg .., h => by simp [veq] at h
theorem veqA_sound : ∀ a b, veqA a b = true → a = b
  | ⟨x⟩, ⟨y⟩, h => by
    simp only [veqA] at h
    rw [veqL_sound x y h]
theorem veqL_sound : ∀ a b, veqL a b = true → a = b
  | [], [], _ => rfl
  | v :: l, u :: m, h => by
    simp only [veqL, Bool.and_eq_true] at h
    rw [veq_sound v u h.1, veqL_sound l m h.2]
  | [], _ :: _, h | _ :: _, [], h => by simp [veqL] at h
end
def aoeq : AObj → AObj → Bool
  | .cells c t o r, .cells c' t' o' r' => veqL c c' && (t.beq t' && (decide (o = o') && r == r'))
  | .iter s p, .iter s' p' => decide (s.data.toList = s'.data.toList) && p.beq p'
  | .defd none, .defd none => true
  | .mp es v, .mp es' v' => veqL (es.map (·.1)) (es'.map (·.1)) && (veqL (es.map (·.2)) (es'.map (·.2)) && v.beq v')
  | .mit (some m) v ks, .mit (some m') v' ks' => m.beq m' && (v.beq v' && veqL ks ks')
  | .mit none v ks, .mit none v' ks' => v.beq v' && veqL ks ks'
  | _, _ => false
theorem pairs_eq : ∀ {es es' : List (Value × Value)}, es.map (·.1) = es'.map (·.1) → es.map (·.2) = es'.map (·.2) → es = es'
  | [], [], _, _ => rfl
  | x :: es, y :: es', h1, h2 => by
    simp only [List.map_cons, List.cons.injEq] at h1 h2
    rw [pairs_eq h1.2 h2.2, Prod.ext h1.1 h2.1]
  | [], _ :: _, h, _ | _ :: _, [], h, _ => by simp at h
theorem aoeq_sound : ∀ a b, aoeq a b = true → a = b := by
  intro a b h
  unfold aoeq at h
  split at h
  · simp only [Bool.and_eq_true, decide_eq_true_eq, beq_iff_eq] at h
    rw [veqL_sound _ _ h.1, Nat.eq_of_beq_eq_true h.2.1, h.2.2.1, h.2.2.2]
  · rename_i s p s' p'
    simp only [Bool.and_eq_true, decide_eq_true_eq] at h
    have : s = s' := by
      cases s; cases s'
      simp at h
      rw [h.1]
    rw [this, Nat.eq_of_beq_eq_true h.2]
  · rfl
  · simp only [Bool.and_eq_true] at h
    rw [pairs_eq (veqL_sound _ _ h.1) (veqL_sound _ _ h.2.1), Nat.eq_of_beq_eq_true h.2.2]
  · simp only [Bool.and_eq_true] at h
    rw [Nat.eq_of_beq_eq_true h.1, Nat.eq_of_beq_eq_true h.2.1, veqL_sound _ _ h.2.2]
  · simp only [Bool.and_eq_true] at h
    rw [Nat.eq_of_beq_eq_true h.1, veqL_sound _ _ h.2]
  · cases h
def ooeq : Option AObj → Option AObj → Bool
  | none, none => true
  | some a, some b => aoeq a b
  | _, _ => false
theorem ooeq_sound : ∀ a b, ooeq a b = true → a = b
  | none, none, _ => rfl
  | some a, some b, h => by rw [aoeq_sound a b h]
  | none, some _, h | some _, none, h => by simp [ooeq] at h
def teq : T AObj → T AObj → Bool
  | .lf, .lf => true
  | .nd l o r, .nd l' o' r' => ooeq o o' && (teq l l' && teq r r')
  | _, _ => false
theorem teq_sound : ∀ a b, teq a b = true → a = b
  | .lf, .lf, _ => rfl
  | .nd l o r, .nd l' o' r', h => by
    simp only [teq, Bool.and_eq_true] at h
    rw [ooeq_sound _ _ h.1, teq_sound l l' h.2.1, teq_sound r r' h.2.2]
  | .lf, .nd .., h | .nd .., .lf, h => by simp [teq] at h
end Go.AE
namespace Go.AE
open Go
def waits (ops : Array Oper) (listed : Array Bool) (i : Nat) : Nat → List Oper → Array Bool → Array Bool
  | _, [], acc => acc
  | j, o :: rest, acc => waits ops listed i (j + 1) rest (acc.push (!listed.getD j true && o.after.any fun e => Region.binds .any e && (e.on == i || acc.getD e.on false)))
def okTake (ops : Array Oper) (listed : Array Bool) (wt : Array Bool) (i : Nat) : Bool :=
  match ops[i]? with
  | none => false
  | some oi => (List.range ops.size).all fun j => j == i || (listed.getD j true || match ops[j]? with
      | some oj => if wt.getD j false then oj.after.any (fun e => Region.binds .any e && (e.on == i || (!listed.getD e.on true && wt.getD e.on false))) else oi.apart ops oj
      | none => true)
structure Held where
  a : Addr
  n : Nat
  l : List Value
  wt : Array Bool
def heldOk (h : AH) (j : Nat) (g : Held) : Bool :=
  g.wt.getD j false || match acells h g.a g.n with
    | some l => veqL l g.l
    | none => false
def apureV (P : Program) (G : Nat) (h : AH) (e : Operand → Value) (o : Oper) : Option Value :=
  if o.op.operands.all (okOpd G) then
    match aptr P h e o.op with
    | some v => some v
    | none => if notSelect o.op && o.op.operands.all (fun x => closed (e x)) then match pureRun P (execOp e o) with
        | some (.value v) => if closed v then some v else none
        | _ => none
      else none
  else none
def aloadV (P : Program) (G : Nat) (h : AH) (e : Operand → Value) (o : Oper) : Option (Value × Addr × Nat × List Value) :=
  match o.op with
  | .load t x => if okOpd G x then match e x with
      | .pointer (some a) => match aload P h t a, acells h a (loadN P t) with
        | some v, some l => some (v, a, loadN P t, l)
        | _, _ => none
      | _ => none
    else none
  | _ => none
def putA (ops : Array Oper) (i : Nat) (tm : Array Value) (v : Value) : Array Value :=
  match (ops[i]?).bind (·.dst) with
  | some d => tm.setIfInBounds d v
  | none => tm
abbrev evA (tm : Array Value) : Operand → Value := ({ tmps := tm, defers := [] } : Act).eval
def pick (P : Program) (G : Nat) (ops : Array Oper) (listed : Array Bool) (tm : Array Value) (h : AH) : List Nat → Option (Nat × Value × List Held)
  | [] => none
  | i :: rest =>
    match ops[i]? with
    | none => none
    | some o =>
      let wt := waits ops listed i 0 ops.toList #[]
      let r : Option (Value × List Held) :=
        if Region.wanted o (yielded ops tm) then
          match apureV P G h (evA tm) o with
          | some v => some (v, [])
          | none => match aloadV P G h (evA tm) o with
            | some (v, a, n, l) => some (v, [⟨a, n, l, wt⟩])
            | none => none
        else some (undef, [])
      match r with
      | some (v, gs) => if okTake ops listed wt i then some (i, v, gs) else pick P G ops listed tm h rest
      | none => pick P G ops listed tm h rest
def perform (P : Program) (G : Nat) (nest : FuncId → Array Value → AH → Option (Value × AH)) (base : Nat) (o : Oper) (i : Nat) (tm : Array Value) (h : AH) : Option (Value × AH) :=
  match o.op with
  | .alloc t => (azero P t).bind fun z => if closed z && ((h.get (base + i)).isNone && Nat.blt (base + i) h.next) then some (.pointer (some ⟨base + i, 0, none⟩), h.put (base + i) (some (.cells z.cells.toList t none false))) else none
  | _ => match aop P G h (evA tm) o with
    | some (.val v h') => some (v, h')
    | some (.enter f args) => nest f args h
    | _ => none
def same (r s : Array Value × AH) : Bool := veqA r.1 s.1 && (r.2.next.beq s.2.next && teq r.2.m s.2.m)
def branches (P : Program) (G : Nat) (nest : FuncId → Array Value → AH → Option (Value × AH)) (base : Nat) (ops : Array Oper) (rec_ : Nat → List Held → Array Value → AH → Option (Array Value × AH)) (gs : List Held) (tm : Array Value) (h : AH) : List Nat → Option (Array Value × AH)
  | [] => none
  | i :: rest =>
    match ops[i]? with
    | none => none
    | some o =>
      if Region.wanted o (yielded ops tm) then
        match perform P G nest base o i tm h with
        | some (v, h') => if gs.all (heldOk h' i) then
            match rec_ i (gs.filter fun g => !g.wt.getD i false) (putA ops i tm v) h' with
            | some r => match rest with
              | [] => some r
              | _ => match branches P G nest base ops rec_ gs tm h rest with
                | some s => if same r s then some r else none
                | none => none
            | none => none
          else none
        | none => none
      else none
def adraw (P : Program) (G : Nat) (nest : FuncId → Array Value → AH → Option (Value × AH)) (base : Nat) (ops : Array Oper) : Nat → Array Bool → List Held → Array Value → AH → Option (Array Value × AH)
  | 0, listed, _, tm, h => if (Region.ready .any ops listed).isEmpty then some (tm, h) else none
  | f + 1, listed, gs, tm, h =>
    match Region.ready .any ops listed with
    | [] => some (tm, h)
    | r :: rs => match pick P G ops listed tm h (r :: rs) with
      | some (i, v, g) => adraw P G nest base ops f (listed.setIfInBounds i true) (g ++ gs) (putA ops i tm v) h
      | none => branches P G nest base ops (fun i gs tm h => adraw P G nest base ops f (listed.setIfInBounds i true) gs tm h) gs tm h (r :: rs)
def hasAlloc (ops : Array Oper) : Bool := ops.any fun o => match o.op with | .alloc _ => true | _ => false
def adrawAll (P : Program) (G : Nat) (nest : FuncId → Array Value → AH → Option (Value × AH)) (ops : Array Oper) (tm : Array Value) (h : AH) : Option (Array Value × AH) :=
  if Region.noSelect ops && !(ops.any fun o => isDefer o.op) then
    adraw P G nest h.next ops ops.size (Array.replicate ops.size false) [] tm (if hasAlloc ops then { h with next := h.next + ops.size } else h)
  else none
def afinal (P : Program) (s : AS) : Option (Value × AH) :=
  match s.cs, s.fr.mode, s.fr.defers, P.funcs[s.fr.fn]? with
  | [], .returning, [], some fn => match s.fr.kind with
    | .normal => (aresults P s.h fn s.fr.tmps).map fun v => (v, s.h)
    | _ => none
  | _, _, _, _ => none
def iter (step : AS → Option AS) : Nat → AS → Option AS
  | 0, s => some s
  | n + 1, s => match step s with
    | some s' => iter step n s'
    | none => some s
end Go.AE
namespace Go.AE
open Go
section
variable {P : Program} {ops : Array Oper} {Q : Exit → Act → World → Prop} {md : Region.Mode}
abbrev Watch := (World → Prop) × (Nat → Bool)
def wpX (P : Program) (md : Region.Mode) (ops : Array Oper) (Q : Exit → Act → World → Prop) : List Watch → Nat → Array Bool → Act → World → Prop
  | _, 0, listed, a, w => Region.ready md ops listed = [] ∧ Q .normal a w
  | Γ, fuel + 1, listed, a, w =>
    (Region.ready md ops listed = [] → Q .normal a w) ∧
    ∀ i ∈ Region.ready md ops listed, wpOp P ops Q i (fun a' w' => (∀ g ∈ Γ, g.2 i = true → g.1 w') ∧ wpX P md ops Q (Γ.filter (·.2 i)) fuel (listed.setIfInBounds i true) a' w') a w
theorem wpAny_of_X : ∀ (fuel : Nat) (Γ : List Watch) (listed : Array Bool) (a : Act) (w : World), wpX P md ops Q Γ fuel listed a w → wpAny P md ops Q fuel listed a w
  | 0, _, _, _, _, h => h
  | fuel + 1, _, _, _, _, h => ⟨h.1, fun i hi => wpOp_mono (fun a' w' h' => wpAny_of_X fuel _ _ a' w' h'.2) (h.2 i hi)⟩
theorem wpX_imp : ∀ (fuel : Nat) (Γ Γ' : List Watch) (listed : Array Bool) (a : Act) (w : World), (∀ g ∈ Γ', g ∈ Γ ∨ ∀ w, g.1 w) → wpX P md ops Q Γ fuel listed a w → wpX P md ops Q Γ' fuel listed a w
  | 0, _, _, _, _, _, _, h => h
  | fuel + 1, Γ, Γ', _, _, _, hs, h => ⟨h.1, fun i hi => wpOp_mono (fun a' w' h' => ⟨fun g hg hgi => (hs g hg).elim (fun q => h'.1 g q hgi) (fun q => q w'),
      wpX_imp fuel _ _ _ a' w' (fun g hg => by
        obtain ⟨h1, h2⟩ := List.mem_filter.1 hg
        exact (hs g h1).imp (fun q => List.mem_filter.2 ⟨q, h2⟩) id) h'.2⟩) (h.2 i hi)⟩
theorem wpX_first {S : World → Prop} {nb : Nat → Bool} {i : Nat} {oi : Oper} {v : Value} (hi : ops[i]? = some oi) (hsel : ∀ (j : Nat) (o : Oper) cs b, ops[j]? = some o → o.op ≠ .select cs b)
    (hQ : ∀ c a w, Q (.panic c) (a.put oi.dst v) w → Q (.panic c) a w) :
    ∀ (fuel : Nat) (Γ : List Watch) (listed : Array Bool) (a : Act) (w : World),
      (∀ j oj, ops[j]? = some oj → j ≠ i → listed.getD j true = false → nb j = true → oi.apart ops oj = true) →
      (∀ j oj, ops[j]? = some oj → j ≠ i → listed.getD j true = false → nb j = false → ∃ e ∈ oj.after, Region.binds md e = true ∧ (e.on = i ∨ (listed.getD e.on true = false ∧ nb e.on = false))) →
      i ∈ Region.ready md ops listed → YieldsIf P ops S oi v a → S w → (∀ g ∈ Γ, g.1 w) →
      wpX P md ops Q ((S, nb) :: Γ) fuel (listed.setIfInBounds i true) (a.put oi.dst v) w → wpX P md ops Q Γ (fuel + 1) listed a w := by
  intro fuel
  induction fuel with
  | zero =>
    intro Γ listed a w _ _ hr hy hS hΓ H
    refine ⟨fun h => (by rw [h] at hr; cases hr), fun j hj => ?_⟩
    by_cases hji : j = i
    · subst hji
      exact hy.wpOp hi hS ⟨fun g hg _ => hΓ g hg, wpX_imp _ _ _ _ _ _ (fun g hg => .inl (List.mem_cons_of_mem _ (List.mem_filter.1 hg).1)) H⟩
    · have := ready_mono hj hji
      rw [H.1] at this
      cases this
  | succ fuel ih =>
    intro Γ listed a w hap hcl hr hy hS hΓ H
    refine ⟨fun h => (by rw [h] at hr; cases hr), fun j hj => ?_⟩
    by_cases hji : j = i
    · subst hji
      exact hy.wpOp hi hS ⟨fun g hg _ => hΓ g hg, wpX_imp _ _ _ _ _ _ (fun g hg => .inl (List.mem_cons_of_mem _ (List.mem_filter.1 hg).1)) H⟩
    · have h1 := H.2 j (ready_mono hj hji)
      obtain ⟨hjun, oj, hoj, hall⟩ := mem_ready.1 hj
      have hnb : nb j = true := by
        cases q : nb j with
        | true => rfl
        | false =>
          exfalso
          obtain ⟨e, he, hb, hx⟩ := hcl j oj hoj hji hjun q
          have hl := hall e he hb
          rcases hx with rfl | ⟨hx, _⟩
          · have h0 := (mem_ready.1 hr).1
            rcases Nat.lt_or_ge e.on listed.size with h' | h'
            · simp [h'] at hl h0; rw [h0] at hl; cases hl
            · simp [Array.getElem?_eq_none h'] at hl
          · rcases Nat.lt_or_ge e.on listed.size with h' | h'
            · simp [h'] at hl hx; rw [hx] at hl; cases hl
            · simp [Array.getElem?_eq_none h'] at hl
      have h2 := wpOp_putIf hoj (hap j oj hoj hji hjun hnb) (fun cs b => hsel i oi cs b hi) (fun cs b => hsel j oj cs b hoj) hQ hy h1
      have un : ∀ k, (listed.setIfInBounds j true).getD k true = false → listed.getD k true = false := fun k hun => by
        by_cases hjk : j = k
        · subst hjk; exact hjun
        · rw [getD_set_ne true hjk] at hun; exact hun
      have hcl' : ∀ k ok, ops[k]? = some ok → k ≠ i → (listed.setIfInBounds j true).getD k true = false → nb k = false →
          ∃ e ∈ ok.after, Region.binds md e = true ∧ (e.on = i ∨ ((listed.setIfInBounds j true).getD e.on true = false ∧ nb e.on = false)) := fun k ok hk hki hun hnk => by
        obtain ⟨e, he, hb, hx⟩ := hcl k ok hk hki (un k hun) hnk
        refine ⟨e, he, hb, hx.imp id fun ⟨p, q⟩ => ⟨?_, q⟩⟩
        have : j ≠ e.on := fun q' => by rw [← q', hnb] at q; cases q
        rw [getD_set_ne true this]; exact p
      have hfl : ((S, nb) :: Γ).filter (fun g : Watch => g.2 j) = (S, nb) :: Γ.filter (fun g : Watch => g.2 j) := by
        simp [hnb]
      rw [hfl] at h2
      refine wpOp_mono (fun a' w' h3 => ⟨fun g hg hgi => h3.2.1 g (List.mem_cons_of_mem _ hg) hgi, ih (Γ.filter (fun g : Watch => g.2 j)) (listed.setIfInBounds j true) a' w' (fun k ok hk hki hun hn => hap k ok hk hki (un k hun) hn) hcl' (ready_mono hr (Ne.symm hji)) h3.1 (h3.2.1 (S, nb) (List.mem_cons_self ..) hnb)
        (fun g hg => h3.2.1 g (List.mem_cons_of_mem _ (List.mem_filter.1 hg).1) (List.mem_filter.1 hg).2) ?_⟩) h2
      rw [Array.setIfInBounds_comm _ _ hji]
      exact h3.2.2
end
end Go.AE
namespace Go.AE
open Go
section
variable {P : Program} {G : Nat} {ρ : Rho} {h : AH} {w : World}
theorem WR.allocAt {w' : World} (H : WR G ρ h w) (r : Nat) (hr : r < h.next) (hn : ρ.blk r = none) (hg : h.get r = none) (o : AObj) (x : Obj) (c : Option Nat) (hw : w'.heap = w.heap.push x)
    (hx : ObjR (ρ.bind r w.heap.size c) r o x) : WR G (ρ.bind r w.heap.size c) (h.put r (some o)) w' := by
  have hle := Rho.le_bind hn w.heap.size c
  refine ⟨fun i p e => ?_, fun i hi => ?_, fun i j p q b e1 e2 b1 b2 => ?_, fun g hgG => ?_, H.gp⟩
  · rw [AH.get_put] at e
    by_cases hi : i = r
    · subst hi
      simp at e; subst e
      exact ⟨w.heap.size, x, by simp [Rho.bind], by rw [hw]; simp, hx⟩
    · rw [if_neg hi] at e
      obtain ⟨b, y, h1, h2, h3⟩ := H.obj i p e
      refine ⟨b, y, (hle _ _ h1).1, ?_, h3.mono hle h1⟩
      have hb := (Array.getElem?_eq_some_iff.1 h2).1
      rw [hw, Array.getElem?_push, if_neg (Nat.ne_of_lt hb), h2]
  · have hi' : h.next ≤ i := hi
    have h2 : i ≠ r := by omega
    simp only [Rho.bind, h2, if_false]
    exact H.fresh i hi'
  · rw [AH.get_put] at e1 e2
    have old : ∀ k s, h.get k = some s → (ρ.bind r w.heap.size c).blk k = some b → k ≠ r → b < w.heap.size := fun k s hs hb hk => by
      simp only [Rho.bind, hk, if_false] at hb
      exact H.lt hs hb
    by_cases hi : i = r <;> by_cases hj : j = r
    · rw [hi, hj]
    · exfalso
      rw [if_neg hj] at e2
      have := old j q e2 b2 hj
      simp only [Rho.bind, hi, if_true] at b1
      injection b1 with b1
      omega
    · exfalso
      rw [if_neg hi] at e1
      have := old i p e1 b1 hi
      simp only [Rho.bind, hj, if_true] at b2
      injection b2 with b2
      omega
    · rw [if_neg hi] at e1
      rw [if_neg hj] at e2
      simp only [Rho.bind, hi, hj, if_false] at b1 b2
      exact H.inj i j p q b e1 e2 b1 b2
  · have hgr : g ≠ r := by
      rintro rfl
      rw [(H.glob g hgG).1] at hn
      cases hn
    simp only [Rho.bind, hgr, if_false]
    exact H.glob g hgG
theorem Ext.allocAt {w' : World} (_H : WR G ρ h w) (r base : Nat) (hr : r < h.next) (hb : base ≤ r) (hn : ρ.blk r = none) (o : AObj) (x : Obj) (c : Option Nat) (hw : w'.heap = w.heap.push x) (ht : w'.tape = w.tape) (ho : w'.os = w.os) (hu : w'.output = w.output) :
    Ext ρ { h with next := base } w (ρ.bind r w.heap.size c) (h.put r (some o)) w' where
  le := Rho.le_bind hn _ _
  low := fun i hi => by have hi' : i < base := hi
                        have : i ≠ r := by omega
                        simp [Rho.bind, this]
  next := by simp; omega
  size := by rw [hw]; simp
  pres := fun b hb' _ => by rw [hw, Array.getElem?_push, if_neg (Nat.ne_of_lt hb')]
  shrink := fun b hb' ⟨i, p, e, q, s⟩ => by
    rw [AH.get_put] at e
    by_cases hi : i = r
    · simp only [Rho.bind, hi, if_true] at s
      injection s with s
      omega
    · rw [if_neg hi] at e
      simp only [Rho.bind, hi, if_false] at s
      exact ⟨i, p, e, q, s⟩
  tape := ht
  os := ho
  output := hu
theorem Ext.cast {ρ0 : Rho} {h0 : AH} {w0 : World} (E : Ext ρ0 h0 w0 ρ h w) {n : Nat} (hn : h0.next ≤ n) : Ext ρ0 h0 w0 ρ { h with next := n } w :=
  ⟨E.le, E.low, hn, E.size, E.pres, E.shrink, E.tape, E.os, E.output⟩
def HeldR (ρ : Rho) (g : Held) (W : Watch) : Prop :=
  W.2 = (fun j => !g.wt.getD j false) ∧ ∃ b l', renA ρ g.a = some b ∧ renL ρ g.l = some l' ∧ W.1 = fun w => ∀ j v, l'[j]? = some v → w.cell? (b.add j) = some v
def HeldsR (ρ : Rho) : List Held → List Watch → Prop
  | [], [] => True
  | g :: gs, W :: Γ => HeldR ρ g W ∧ HeldsR ρ gs Γ
  | _, _ => False
theorem HeldsR.mono {ρ σ : Rho} (hle : ρ.le σ) : ∀ {gs : List Held} {Γ : List Watch}, HeldsR ρ gs Γ → HeldsR σ gs Γ
  | [], [], _ => trivial
  | _g :: _gs, _W :: _Γ, ⟨⟨h1, b, l', h2, h3, h4⟩, hr⟩ => ⟨⟨h1, b, l', renA_mono hle h2, renL_mono hle _ _ h3, h4⟩, HeldsR.mono hle hr⟩
  | [], _ :: _, x | _ :: _, [], x => x
theorem held_after {ρ' : Rho} {h' : AH} {w' : World} (W' : WR G ρ' h' w') (hle : ρ.le ρ') (i : Nat) : ∀ {gs : List Held} {Γ : List Watch}, HeldsR ρ gs Γ → gs.all (heldOk h' i) = true →
    (∀ g ∈ Γ, g.2 i = true → g.1 w') ∧ HeldsR ρ' (gs.filter fun g => !g.wt.getD i false) (Γ.filter fun g => g.2 i)
  | [], [], _, _ => ⟨by simp, by simp [HeldsR]⟩
  | g :: gs, W :: Γ, ⟨⟨h1, b, l', h2, h3, h4⟩, hr⟩, hall => by
    simp only [List.all_cons, Bool.and_eq_true] at hall
    obtain ⟨i1, i2⟩ := held_after W' hle i hr hall.2
    have hW2 : W.2 i = !g.wt.getD i false := by rw [h1]
    have hg := hall.1
    unfold heldOk at hg
    refine ⟨fun V hV hVi => ?_, ?_⟩
    · rcases List.mem_cons.1 hV with rfl | hV
      · rw [hW2] at hVi
        simp only [Bool.not_eq_true'] at hVi
        rw [hVi, Bool.false_or] at hg
        split at hg
        · rename_i l hl
          have := veqL_sound _ _ hg
          subst this
          obtain ⟨l2, r1, r2, r3⟩ := cells_ok W' hl (renA_mono hle h2)
          rw [renL_mono hle _ _ h3] at r1
          cases r1
          rw [h4]
          exact r3
        · cases hg
      · exact i1 V hV hVi
    · simp only [List.filter_cons, hW2]
      by_cases q : g.wt.getD i false = true
      · simp only [q, Bool.not_true, Bool.false_eq_true, if_false]; exact i2
      · simp only [Bool.not_eq_true] at q
        simp only [q, Bool.not_false, if_true]
        exact ⟨⟨h1, b, l', renA_mono hle h2, renL_mono hle _ _ h3, h4⟩, i2⟩
  | [], _ :: _, x, _ | _ :: _, [], x, _ => x.elim
theorem putA_ren {ops : Array Oper} {i : Nat} {o : Oper} (ho : ops[i]? = some o) {tm : Array Value} {a : Act} (ht : renArr ρ tm = some a.tmps) {v v' : Value} (hv : ren ρ v = some v') : renArr ρ (putA ops i tm v) = some (a.put o.dst v').tmps := by
  unfold putA
  rw [ho, Option.bind_some]
  cases o.dst with
  | none => exact ht
  | some d => exact renArr_set hv d ht
theorem evA_eq (a : Act) : a.eval = evA a.tmps := by
  funext x
  cases x <;> rfl
theorem perform_ok {nest : FuncId → Array Value → AH → Option (Value × AH)} (hnest : NestOK P G nest) {base : Nat} {ops : Array Oper} {o : Oper} {i : Nat} {tm : Array Value} {v : Value} {h' : AH} (hp : perform P G nest base o i tm h = some (v, h'))
    (H : WR G ρ h w) {a : Act} (ht : renArr ρ tm = some a.tmps) (ho : ops[i]? = some o) (hw : Region.wanted o (yielded ops a.tmps) = true) (hb : (∃ t, o.op = .alloc t) → ρ.blk (base + i) = none) (hbn : base ≤ h.next) {Q : Exit → Act → World → Prop} {K : Act → World → Prop}
    (hK : ∀ ρ' v' w', WR G ρ' h' w' → Ext ρ { h with next := base } w ρ' h' w' → (∀ k, k ≠ i → base + k < h.next → ρ'.blk (base + k) = ρ.blk (base + k)) → h.next ≤ h'.next → ren ρ' v = some v' → K (a.put o.dst v') w') : wpOp P ops Q i K a w := by
  unfold wpOp
  simp only [ho, hw, if_true]
  refine .inl ?_
  unfold Oper.wp
  have hcast : ∀ {ρ' : Rho} {h2 : AH} {w' : World}, Ext ρ h w ρ' h2 w' → Ext ρ { h with next := base } w ρ' h2 w' := fun E =>
    ⟨E.le, fun j hj => E.low j (Nat.lt_of_lt_of_le hj hbn), Nat.le_trans hbn E.next, E.size, E.pres, E.shrink, E.tape, E.os, E.output⟩
  have gen : (match aop P G h (evA tm) o with
    | some (.val v h') => some (v, h')
    | some (.enter f args) => nest f args h
    | _ => none) = some (v, h') → o.upon P a K Q ((execOp a.eval o).run P w) := by
    intro hp
    split at hp
    · rename_i v0 h0 hop
      cases hp
      have hsim := aop_ok H (a := { tmps := tm, defers := [] }) (b := { tmps := a.tmps, defers := [] }) ht o hop
      obtain ⟨ρ', v', w', h1, h2, h3, h4⟩ := hsim
      have he : ({ tmps := a.tmps, defers := [] } : Act).eval = a.eval := (evA_eq a).symm
      rw [he] at h4
      have := hK ρ' v' w' h1 (hcast h2) (fun k _ hk => h2.low _ hk) h2.next h3
      rcases h4 with h4 | ⟨h4, rfl⟩
      · rw [h4]; exact this
      · rw [h4]; exact this
    · rename_i f args hop
      have hsim := aop_ok H (a := { tmps := tm, defers := [] }) (b := { tmps := a.tmps, defers := [] }) ht o hop
      obtain ⟨hbd, args', h1, h2⟩ := hsim
      have he : ({ tmps := a.tmps, defers := [] } : Act).eval = a.eval := (evA_eq a).symm
      rw [he] at h2
      rw [h2]
      refine Calls.mono (hnest f args h v h' hp ρ w args' H h1) fun e w' hx => ?_
      obtain ⟨ρ', v', rfl, h3, h4, h5⟩ := hx
      exact hK ρ' v' w' h3 (hcast h4) (fun k _ hk => h4.low _ hk) h4.next h5
    · cases hp
  unfold perform at hp
  split at hp
  · rename_i t hop
    replace hb := hb ⟨t, hop⟩
    obtain ⟨z, hz, hp⟩ := Option.bind_eq_some_iff.1 hp
    split at hp
    case isFalse => cases hp
    rename_i hc
    simp only [Bool.and_eq_true] at hc
    obtain ⟨hc1, hc2, hc3⟩ := hc
    cases hp
    have hr : base + i < h.next := Nat.blt_eq ▸ hc3
    have hg : h.get (base + i) = none := by
      cases q : h.get (base + i) with
      | none => rfl
      | some x => rw [q] at hc2; cases hc2
    have hcl := closed_ren ρ z hc1
    have hrun : (execOp a.eval o).run P w = .ok (.value (.pointer (some ⟨w.heap.size, 0, none⟩))) { w with heap := w.heap.push (.cells z.cells t) } := by
      simp only [execOp, hop, Instr.alloc, Sem.run_bind, run_zero hz, Result.andThen_ok, run_newVar, Sem.run_pure]
    have hle := Rho.le_bind hb w.heap.size none
    have hobj : ObjR (ρ.bind (base + i) w.heap.size none) (base + i) (.cells z.cells.toList t none false) (.cells z.cells t) := by
      simp only [ObjR]
      exact ⟨.inr trivial, ⟨z.cells.toList, [], by simp, renL_mono hle _ _ (renArr_iff.1 (ren_cells ρ z z hcl)), fun _ => rfl⟩, .inr (.inl trivial), fun _ => by simp [Rho.bind], fun sz q => by cases q⟩
    rw [hrun]
    refine hK _ (.pointer (some ⟨w.heap.size, 0, none⟩)) _ (H.allocAt (base + i) hr hb hg _ _ none rfl hobj) (Ext.allocAt H (base + i) base hr (by omega) hb _ _ none rfl rfl rfl rfl) (fun k hk _ => ?_) (by simp) (by simp [ren, ren_new])
    have : base + k ≠ base + i := by omega
    simp only [Rho.bind, this, if_false]
  · exact gen hp
end
end Go.AE
