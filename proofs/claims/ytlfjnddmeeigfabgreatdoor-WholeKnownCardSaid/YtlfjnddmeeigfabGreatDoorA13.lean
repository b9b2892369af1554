import Derived.Test.YtlfjnddmeeigfabGreatDoorA12
namespace Go.AE
open Go

inductive AR1 where
  | val (v : Value) (h : AH)
  | enter (f : FuncId) (args : Array Value)
  | defer (d : Deferred)
  | recover
  | panic (v : Value)
  | round (l : Nat) (f : FuncId) (tmps : Array Value) (assign body : Code)

def hasBody (P : Program) (f : FuncId) : Bool :=
  match P.funcs[f]? with
  | some fn => fn.body.isSome && !(fn.name == "runtime.NumGoroutine")
  | none => false

/-- A call of a function value. -/
def acallv (P : Program) (h : AH) (f : Value) (args : Array Value) : Option AR1 :=
  match f with
  | .func (.func g) first cap => if hasBody P g then some (.enter g (first ++ args ++ cap)) else none
  | .func (.yield l) first _ => match h.get l with
    | some (.loop r) => if (first ++ args).size = r.params.size then some (.round l r.fn ((r.params.zip (first ++ args)).foldl (fun tmps (t, a) => tmps.setIfInBounds t a) r.tmps) r.assign r.body) else none
    | _ => none
  | _ => none

def pv (o : Option (Value × AH)) : Option AR1 := o.map fun r => .val r.1 r.2

/-- Operations that call, defer, panic or turn memory. -/
def aeff (P : Program) (h : AH) (e : Operand → Value) : Op → Option AR1
  | .load t x => match e x with
    | .pointer (some a) => (aload P h t a).map fun v => .val v h
    | _ => none
  | .store t x y => match e x with
    | .pointer (some a) => (astore P h t a (e y)).map fun h' => .val undef h'
    | _ => none
  | .alloc t => (azero P t).bind fun z => if closed z then some (.val (aalloc h t z).1 (aalloc h t z).2) else none
  | .box t x => some (.val (aalloc h t (e x)).1 (aalloc h t (e x)).2)
  | .buildSlice t len ps => pv (abuildSlice P h t len (ps.toList.map fun p => (p.1, e p.2)))
  | .makeSlice t l c => pv (amakeSlice P h t (e l) (e c))
  | .range t x => match P.underlying t, e x with
    | some .string, .string s => some (.val (.pointer (some ⟨h.next, 0, none⟩)) (h.push (.iter s 0)))
    | _, _ => none
  | .next x true => pv (anext h (e x))
  | .convert s d x => pv (abytes P h s d (e x))
  | .panic x => match e x with
    | .iface t v => some (.panic (.iface t v))
    | _ => none
  | .defer c => match c.callee with
    | .value f => match e f with
      | .func fn first cap => some (.defer { target := .fn fn cap, args := first ++ c.args.map e })
      | _ => none
    | _ => none
  | .call c => match c.callee with
    | .value f => acallv P h (e f) (c.args.map e)
    | .invoke r m => match e r with
      | .iface t v => if closed v then match pureRun P (method (P.types.size + Made.depth) t v m) with
          | some (f, rc) => if closed rc && hasBody P f then some (.enter f (#[rc] ++ c.args.map e)) else none
          | none => none
        else none
      | _ => none
    | .builtin b => match b, c.argTypes.toList, c.args.toList with
      | .recover, _, _ => some .recover
      | .append, [t, u], [s, x] => pv (aappend P h t u (e s) (e x))
      | .copy, [t, _], [d, s] => pv (acopy P h t (e d) (e s))
      | .clear, [t], [x] => pv (aclear P h t (e x))
      | _, _, _ => none
  | _ => none

def notSelect : Op → Bool
  | .select .. => false
  | _ => true

def aop (P : Program) (G : Nat) (h : AH) (e : Operand → Value) (o : Oper) : Option AR1 :=
  if o.op.operands.all (okOpd G) then
    match aptr P h e o.op with
    | some v => some (.val v h)
    | none => match aeff P h e o.op with
      | some r => some r
      | none => if notSelect o.op && o.op.operands.all (fun x => closed (e x)) then match pureRun P (execOp e o) with
          | some (.value v) => if closed v then some (.val v h) else none
          | _ => none
        else none
  else none

section
variable {P : Program} {G : Nat} {ρ : Rho} {h : AH} {w : World} {e e' : Operand → Value}

def OpSim (P : Program) (G : Nat) (ρ : Rho) (h : AH) (w : World) (e' : Operand → Value) (o : Oper) : AR1 → Prop
  | .val v h' => OpAt P G ρ h w e' o v h'
  | .enter f args => hasBody P f = true ∧ ∃ args', renArr ρ args = some args' ∧ (execOp e' o).run P w = .ok (.enter f args') w
  | .defer d => ∃ d', renD ρ d = some d' ∧ (execOp e' o).run P w = .ok (.defer d') w
  | .recover => (execOp e' o).run P w = .ok .recover w
  | .panic v => ∃ v', ren ρ v = some v' ∧ (execOp e' o).run P w = .halt (.panic v') w
  | .round l f tm as bo => ∃ l' tm', ρ.blk l = some l' ∧ renArr ρ tm = some tm' ∧ (execOp e' o).run P w = .ok (.round l' f tm' as bo) w

theorem run_callFunc {g : FuncId} (hb : hasBody P g = true) (args : Array Value) (w : World) : (callFunc g args).run P w = .ok (.enter g args) w := by
  unfold hasBody at hb
  cases hf : P.funcs[g]? with
  | none => simp [hf] at hb
  | some fn =>
    simp only [hf, Bool.and_eq_true, Bool.not_eq_true'] at hb
    have h1 : ¬ fn.name = "runtime.NumGoroutine" := by simpa using hb.2
    have h2 : ¬ fn.body = none := by
      have := hb.1
      cases q : fn.body <;> simp_all
    simp [callFunc, hf, h1, h2]

theorem renArr_append {a b a' b' : Array Value} (h1 : renArr ρ a = some a') (h2 : renArr ρ b = some b') : renArr ρ (a ++ b) = some (a' ++ b') := by
  rw [renArr_iff] at *
  simp only [Array.toList_append]
  exact renL_append.2 ⟨_, _, h1, h2, rfl⟩

theorem RunAt.opAt {s : Sem Value} {r : Value × AH} {o : Oper} (hr : RunAt P G ρ h w s r) (ho : (execOp e' o).run P w = (s.run P w).andThen fun v w' => .ok (.value v) w') : OpAt P G ρ h w e' o r.1 r.2 := by
  obtain ⟨ρ', v', w', h1, h2, h3, h4⟩ := hr
  exact ⟨ρ', v', w', h1, h2, h3, .inl (by rw [ho, h4]; rfl)⟩

theorem pv_some {o : Option (Value × AH)} {r : AR1} (h : pv o = some r) : ∃ x, o = some x ∧ r = .val x.1 x.2 := by
  unfold pv at h
  obtain ⟨x, h1, h2⟩ := Option.map_eq_some_iff.1 h
  exact ⟨x, h1, h2.symm⟩

theorem foldl_ren {ps : List (Tmp × Value)} : ∀ {ps' : List (Tmp × Value)} {a a' : Array Value}, ps'.map (·.1) = ps.map (·.1) → renL ρ (ps.map (·.2)) = some (ps'.map (·.2)) → renArr ρ a = some a' →
    renArr ρ (ps.foldl (fun tmps (t, a) => tmps.setIfInBounds t a) a) = some (ps'.foldl (fun tmps (t, a) => tmps.setIfInBounds t a) a') := by
  induction ps with
  | nil => intro ps' a a' h1 _ h3; cases ps' <;> simp at h1; exact h3
  | cons p ps ih =>
    intro ps' a a' h1 h2 h3
    cases ps' with
    | nil => simp at h1
    | cons p' ps' =>
      simp only [List.map_cons, List.cons.injEq] at h1
      simp only [List.map_cons] at h2
      obtain ⟨v', l', e1, e2, e3⟩ := renL_cons.1 h2
      injection e3 with e3 e4
      simp only [List.foldl_cons]
      rw [h1.1]
      exact ih h1.2 (e4 ▸ e2) (renArr_set (e3 ▸ e1) _ h3)

theorem callv_ok (H : WR G ρ h w) {f f' : Value} {args args' : Array Value} {r : AR1} (ha : acallv P h f args = some r) (hf : ren ρ f = some f') (hargs : renArr ρ args = some args') {o : Oper}
    (ho : (execOp e' o).run P w = (do let d ← Deferred.ofValue f' args'; invoke d.target d.args : Sem Next).run P w) : OpSim P G ρ h w e' o r := by
  unfold acallv at ha
  split at ha
  · rename_i g first cap
    split at ha
    case isFalse => cases ha
    rename_i hb
    cases ha
    simp only [ren, renF, Option.bind_eq_some_iff, Option.map_eq_some_iff] at hf
    obtain ⟨fn', hfn, first', h1, cap', h2, rfl⟩ := hf
    cases hfn
    refine ⟨hb, first' ++ args' ++ cap', renArr_append (renArr_append h1 hargs) h2, ?_⟩
    rw [ho]
    simp [Deferred.ofValue, invoke, run_callFunc hb]
  · rename_i l first cap
    split at ha
    case h_2 => cases ha
    rename_i lp hg
    split at ha
    case isFalse => cases ha
    rename_i hsz
    cases ha
    simp only [ren, renF, Option.bind_eq_some_iff, Option.map_eq_some_iff] at hf
    obtain ⟨fn', ⟨l', hl, rfl⟩, first', h1, cap', h2, rfl⟩ := hf
    obtain ⟨b, x, q1, q2, q3⟩ := H.obj _ _ hg
    rw [hl] at q1; cases q1
    cases x <;> simp only [ObjR] at q3
    rename_i lp'
    obtain ⟨_, _, r3, r4, r5, r6, r7, _⟩ := q3
    have hcat := renArr_append h1 hargs
    have hcs := renArr_size hcat
    have hcs2 := hcs
    have hsz2 := hsz
    simp only [Array.size_append] at hcs2 hsz2
    refine ⟨l', (lp'.params.zip (first' ++ args')).foldl (fun tmps (t, a) => tmps.setIfInBounds t a) lp'.tmps, hl, ?_, ?_⟩
    · rw [← Array.foldl_toList, ← Array.foldl_toList]
      refine foldl_ren ?_ ?_ r4
      · rw [r5]
        simp only [Array.toList_zip]
        rw [List.map_fst_zip (by simp; omega), List.map_fst_zip (by simp; omega)]
      · rw [r5]
        simp only [Array.toList_zip]
        rw [List.map_snd_zip (by simp; omega), List.map_snd_zip (by simp; omega)]
        exact renArr_iff.1 hcat
    · rw [ho]
      have hgo : (getObj l').run P w = .ok (.loop lp') w := by simp [getObj, Sem.run, q2]
      have hne : ¬ (first' ++ args').size ≠ lp'.params.size := by rw [hcs, r5]; simpa using hsz
      simp only [Deferred.ofValue, invoke, Sem.run_bind, Sem.run_pure, Result.andThen_ok, Instr.yield, Instr.getLoop, hgo, hne, if_false, r3, r6, r7]
  · cases ha

theorem head_app (x : Value) (ys : Array Value) : (#[x] ++ ys)[0]? = some x := by
  obtain ⟨l⟩ := ys
  simp
theorem tail_app (x : Value) (ys : Array Value) : (#[x] ++ ys).extract 1 (#[x] ++ ys).size = ys := by
  obtain ⟨l⟩ := ys
  apply Array.ext'
  simp

theorem box_run {t : TypeId} {v : Value} (w : World) : (do pure (Value.pointer (some (← newVar t v))) : Sem Value).run P w = .ok (.pointer (some ⟨w.heap.size, 0, none⟩)) { w with heap := w.heap.push (.cells v.cells t) } := by
  rw [Sem.run_bind, run_newVar]; rfl

theorem aeff_ok (H : WR G ρ h w) (o : Oper) (hr : ∀ x ∈ o.op.operands, ren ρ (e x) = some (e' x)) {r : AR1} (hv : aeff P h e o.op = some r) : OpSim P G ρ h w e' o r := by
  obtain ⟨dst, op, type, pos, after, guard⟩ := o
  simp only at hr hv
  cases op <;> simp only [aeff] at hv <;> try (cases hv; done)
  case load t x =>
    have hx := hr x (by simp [Op.operands])
    split at hv
    case h_2 => cases hv
    rename_i a hce
    rw [hce] at hx
    obtain ⟨b, h1, h2⟩ := ren_ptr hx
    obtain ⟨v, hl, rfl⟩ := Option.map_eq_some_iff.1 hv
    obtain ⟨v', h3, h4⟩ := load_ok H hl h1
    refine ⟨ρ, v', w, H, Ext.refl _ _ _, h3, .inl ?_⟩
    simp only [execOp, h2, Instr.loadAt, Instr.sureAddr, Sem.run_bind, Sem.run_pure, Result.andThen_ok, h4 w fun _ _ => rfl]
  case store t x y =>
    have hx := hr x (by simp [Op.operands])
    have hy := hr y (by simp [Op.operands])
    split at hv
    case h_2 => cases hv
    rename_i a hce
    rw [hce] at hx
    obtain ⟨b, h1, h2⟩ := ren_ptr hx
    obtain ⟨h', hl, rfl⟩ := Option.map_eq_some_iff.1 hv
    obtain ⟨w', h3, h4, h5⟩ := store_ok H hl h1 hy
    refine ⟨ρ, undef, w', h4, h5, ren_undef ρ, .inr ⟨?_, rfl⟩⟩
    simp only [execOp, h2, Instr.storeAt, Instr.sureAddr, Sem.run_bind, Sem.run_pure, Result.andThen_ok, h3]
  case alloc t =>
    obtain ⟨z, hz, hv⟩ := Option.bind_eq_some_iff.1 hv
    split at hv
    case isFalse => cases hv
    rename_i hc
    cases hv
    refine box_ok H (closed_ren ρ z hc) t ?_
    simp only [execOp, Instr.alloc, Sem.run_bind, run_zero hz, Result.andThen_ok, run_newVar, Sem.run_pure]
  case box t x =>
    cases hv
    refine box_ok H (hr x (by simp [Op.operands])) t ?_
    simp only [execOp, Instr.box, Sem.run_bind, Result.andThen_ok, run_newVar, Sem.run_pure]
  case buildSlice t len ps =>
    obtain ⟨q, hq, rfl⟩ := pv_some hv
    have hl : renL ρ ((ps.toList.map fun p => (p.1, e p.2)).map (·.2)) = some ((ps.toList.map fun p => (p.1, e' p.2)).map (·.2)) := by
      have := renArr_map (ρ := ρ) (e := e) (e' := e') (ps.toList.map (·.2)).toArray fun x hx => hr x (by simpa [Op.operands] using hx)
      simpa [renArr_iff, List.map_map, Function.comp_def] using this
    refine (buildSlice_ok H hq (ps' := ps.toList.map fun p => (p.1, e' p.2)) (by simp [List.map_map, Function.comp_def]) hl).opAt ?_
    simp only [execOp, Sem.run_bind]
    have : (ps.toList.map fun p => (p.1, e' p.2)).toArray = ps.map fun (i, x) => (i, e' x) := by
      apply Array.ext'; simp
    rw [this]
    rfl
  case makeSlice t l c =>
    obtain ⟨q, hq, rfl⟩ := pv_some hv
    have hl := hr l (by simp [Op.operands])
    have hc := hr c (by simp [Op.operands])
    have hq0 := hq
    unfold amakeSlice at hq0
    split at hq0
    case h_2 => cases hq0
    rename_i el kl l0 kc c0 _ hle hce
    rw [hle] at hl hq
    rw [hce] at hc hq
    refine (makeSlice_ok H hq).opAt ?_
    simp only [execOp, Sem.run_bind, ren_int hl, ren_int hc]
    rfl
  case range t x =>
    have hx := hr x (by simp [Op.operands])
    split at hv
    case h_2 => cases hv
    rename_i s hu hce
    cases hv
    rw [hce] at hx
    exact range_ok H hu (t := t) (x := x) rfl (ren_string hx)
  case next x b =>
    cases b <;> simp only at hv <;> try (cases hv; done)
    obtain ⟨q, hq, rfl⟩ := pv_some hv
    exact next_ok H hq (hr x (by simp [Op.operands])) rfl rfl
  case convert s d x =>
    obtain ⟨q, hq, rfl⟩ := pv_some hv
    refine (bytes_ok H hq (hr x (by simp [Op.operands]))).opAt ?_
    simp only [execOp, Sem.run_bind]
    rfl
  case panic x =>
    have hx := hr x (by simp [Op.operands])
    split at hv
    case h_2 => cases hv
    rename_i t v hce
    cases hv
    rw [hce] at hx
    have hx0 := hx
    obtain ⟨v', h1, h2⟩ := ren_iface hx
    refine ⟨.iface t v', by rw [hx0, h2], ?_⟩
    simp [execOp, h2, Instr.panic]
  case defer c =>
    obtain ⟨callee, args, ts⟩ := c
    cases callee <;> simp only at hv <;> try (cases hv; done)
    rename_i f
    have hf := hr f (by simp [Op.operands, Call.operands])
    have hargs := renArr_map (ρ := ρ) (e := e) (e' := e') args fun x hx => hr x (by simp [Op.operands, Call.operands, hx])
    split at hv
    case h_2 => cases hv
    rename_i fn first cap hce
    cases hv
    rw [hce] at hf
    simp only [ren, Option.bind_eq_some_iff, Option.map_eq_some_iff] at hf
    obtain ⟨fn', hfn, first', h1, cap', h2, hfe⟩ := hf
    refine ⟨⟨.fn fn' cap', first' ++ args.map e'⟩, ?_, ?_⟩
    · simp [renD, renT, hfn, h2, renArr_append h1 hargs]
    · simp [execOp, resolve, ← hfe, Deferred.ofValue]
  case call c =>
    obtain ⟨callee, args, ts⟩ := c
    have hargs := renArr_map (ρ := ρ) (e := e) (e' := e') args fun x hx => hr x (by simp [Op.operands, Call.operands, hx])
    cases callee <;> simp only at hv
    · rename_i f
      exact callv_ok H hv (hr f (by simp [Op.operands, Call.operands])) hargs (by simp only [execOp, resolve, Sem.run_bind])
    · rename_i r0 m
      have hx := hr r0 (by simp [Op.operands, Call.operands])
      split at hv
      case h_2 => cases hv
      rename_i t v hce
      split at hv
      case isFalse => cases hv
      rename_i hcl
      split at hv
      case h_2 => cases hv
      rename_i f rc hm
      split at hv
      case isFalse => cases hv
      rename_i hc
      simp only [Bool.and_eq_true] at hc
      cases hv
      rw [hce] at hx
      obtain ⟨v', h1, h2⟩ := ren_iface hx
      rw [closed_ren ρ v hcl] at h1
      cases h1
      have hrc : renArr ρ #[rc] = some #[rc] := by simp [renArr, renL, closed_ren ρ rc hc.1]
      refine ⟨hc.2, #[rc] ++ args.map e', renArr_append hrc hargs, ?_⟩
      have hmr := pureRun_run hm
      have e1 := head_app (Value.iface t v) (args.map e')
      have e2 := tail_app (Value.iface t v) (args.map e')
      simp only [execOp, resolve, h2, Sem.run_bind, Sem.run_pure, Result.andThen_ok, invoke, e1, e2, callMethod, run_program, hmr, run_callFunc hc.2]
    · rename_i b
      have two : ∀ {α : Type} (a : Array α) (x y : α), a.toList = [x, y] → a = #[x, y] := fun a x y q => by cases a; simp at q; simp [q]
      have one : ∀ {α : Type} (a : Array α) (x : α), a.toList = [x] → a = #[x] := fun a x q => by cases a; simp at q; simp [q]
      split at hv
      · cases hv
        simp [OpSim, execOp, resolve, invoke, Go.builtin]
      · rename_i t u s x q1 q2
        obtain ⟨q, hq, rfl⟩ := pv_some hv
        have e1 := two ts t u q1
        have e2 := two args s x q2
        subst e1; subst e2
        have hs := hr s (by simp [Op.operands, Call.operands])
        have hx := hr x (by simp [Op.operands, Call.operands])
        obtain ⟨ρ', v', w', g1, g2, g3, g4⟩ := append_ok (ty := type) H hq hs hx
        refine ⟨ρ', v', w', g1, g2, g3, .inl ?_⟩
        simp [execOp, resolve, invoke, Go.builtin, g4]
      · rename_i t u d s q1 q2
        obtain ⟨q, hq, rfl⟩ := pv_some hv
        have e1 := two ts t u q1
        have e2 := two args d s q2
        subst e1; subst e2
        have hs := hr s (by simp [Op.operands, Call.operands])
        have hd := hr d (by simp [Op.operands, Call.operands])
        refine (copy_ok (u := u) (ty := type) H hq hd hs).opAt ?_
        simp [execOp, resolve, invoke, Go.builtin]
      · rename_i t x q1 q2
        obtain ⟨q, hq, rfl⟩ := pv_some hv
        have e1 := one ts t q1
        have e2 := one args x q2
        subst e1; subst e2
        have hx := hr x (by simp [Op.operands, Call.operands])
        refine (clear_ok (ty := type) H hq hx).opAt ?_
        simp [execOp, resolve, invoke, Go.builtin]
      · cases hv

theorem aop_ok (H : WR G ρ h w) {a b : Act} (ht : renArr ρ a.tmps = some b.tmps) (o : Oper) {r : AR1} (hv : aop P G h a.eval o = some r) : OpSim P G ρ h w b.eval o r := by
  unfold aop at hv
  split at hv
  case isFalse => cases hv
  rename_i hok
  have hr : ∀ x ∈ o.op.operands, ren ρ (a.eval x) = some (b.eval x) := fun x hx => ev_ren H ht (by
    have := Array.all_eq_true_iff_forall_mem.1 hok x hx
    exact this)
  split at hv
  · rename_i v hp
    cases hv
    exact (aptr_ok H o hr hp).opAt H
  · split at hv
    · rename_i r' he
      cases hv
      exact aeff_ok H o hr he
    · by_cases hc : (notSelect o.op && o.op.operands.all (fun x => closed (a.eval x))) = true
      case neg => rw [if_neg hc] at hv; cases hv
      rw [if_pos hc] at hv
      simp only [Bool.and_eq_true] at hc
      split at hv
      case h_2 => cases hv
      rename_i v hp
      split at hv
      case isFalse => cases hv
      rename_i hcv
      cases hv
      have hs : ∀ cs b, o.op ≠ .select cs b := fun cs b q => by rw [q] at hc; simp [notSelect] at hc
      have := closed_op (P := P) hs hr (fun x hx => Array.all_eq_true_iff_forall_mem.1 hc.2 x hx) hp
      exact PureAt.opAt H ⟨v, closed_ren ρ v hcv, this⟩
end
end Go.AE
