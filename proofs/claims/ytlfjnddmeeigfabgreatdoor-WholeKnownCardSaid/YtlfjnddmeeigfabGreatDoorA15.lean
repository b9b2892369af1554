import Derived.Test.YtlfjnddmeeigfabGreatDoorA14
namespace Go.AE
open Go

structure AS where
  fr : Frame
  cs : List Frame
  h : AH

def okCond (G : Nat) : List Item → Bool
  | .code (.cond c _ _) :: _ => okOpd G c
  | _ => true

/-- The results of a function, out of the abstract frame. -/
def ares1 (P : Program) (h : AH) (tm : Array Value) : ResultVar → Option Value
  | .tmp t => some (tm.getD t undef)
  | .cell a t => match tm.getD a undef with
    | .pointer (some a) => aload P h t a
    | _ => none
def aresL (P : Program) (h : AH) (tm : Array Value) : List ResultVar → Option (List Value)
  | [] => some []
  | r :: l => (ares1 P h tm r).bind fun v => (aresL P h tm l).map fun vs => v :: vs
def one (vs : List Value) : Value := match vs with
  | [v] => v
  | vs => .tuple vs.toArray
def aresults (P : Program) (h : AH) (fn : Func) (tm : Array Value) : Option Value := (aresL P h tm fn.results.toList).map one

/-- How a deferred call's return leaves the frame below. -/
def settleF (c : Frame) : Option Frame :=
  match c.mode with
  | .panicking ({ recovered := true, .. } :: older) => if older.all (fun p => !p.goexit) then some { c with mode := .returning } else none
  | _ => some c

/-- A frame returns v to those that wait. -/
def areturn (fr : Frame) (cs : List Frame) (h : AH) (v : Value) : Option AS :=
  match cs with
  | [] => none
  | c :: rest => match fr.kind with
    | .normal => some ⟨c.finish v, rest, h⟩
    | .deferred => (settleF c).map fun c' => ⟨c', rest, h⟩
    | _ => none

/-- A frame that is done leaves: at its end, by return, or (a round of a range over a function) by a jump. -/
def aleave (fr : Frame) (cs : List Frame) (h : AH) (jump : Option Code) : Option AS :=
  match fr.roundOf with
  | none => match jump with
    | none | some .ret => some ⟨{ fr with mode := .returning }, cs, h⟩
    | _ => none
  | some l => match h.get l with
    | some (.loop r) => areturn fr cs (h.put l (some (.loop { r with state := if jump.isNone then .ready else .done, pending := jump }))) (.bool jump.isNone)
    | _ => none

def arecover (fr : Frame) (cs : List Frame) : Option (Value × List Frame) :=
  match fr.kind, cs with
  | .normal, _ => some (.nilIface, cs)
  | .deferred, c :: rest => match c.mode with
    | .panicking ({ v, recovered := false, goexit := false } :: older) => some (v, { c with mode := .panicking ({ v, recovered := true } :: older) } :: rest)
    | _ => some (.nilIface, cs)
  | _, _ => none

def aopstep (P : Program) (hk : FuncId → Array Value → AH → Option (Value × AH)) (fr : Frame) (cs : List Frame) (h : AH) : AR1 → Option AS
  | .val v h' => some ⟨fr.finish v, cs, h'⟩
  | .enter f args => match hk f args h with
    | some (v, h') => some ⟨fr.finish v, cs, h'⟩
    | none => some ⟨Frame.enter P f args .normal, fr :: cs, h⟩
  | .defer d => if fr.roundOf.isNone then some ⟨{ fr with defers := d :: fr.defers }.finish undef, cs, h⟩ else none
  | .recover => if fr.roundOf.isNone then (arecover fr cs).map fun r => ⟨fr.finish r.1, r.2, h⟩ else none
  | .panic v => some ⟨fr.raise [{ v, recovered := false }], cs, h⟩
  | .round l f tm as bo => some ⟨Frame.round l f tm as bo .normal, fr :: cs, h⟩

def aunwind (P : Program) (fr : Frame) (cs : List Frame) (h : AH) : Option AS :=
  match fr.defers with
  | d :: ds => match d.target with
    | .collected b => match h.get b with
      | some (.defd (some cl)) => some ⟨{ fr with defers := cl ++ ds }, cs, h.put b (some (.defd none))⟩
      | _ => none
    | .fn (.func f) cap => if hasBody P f then some ⟨Frame.enter P f (d.args ++ cap) .deferred, { fr with defers := ds } :: cs, h⟩ else none
    | _ => none
  | [] => match P.funcs[fr.fn]? with
    | none => none
    | some fn => match fr.mode with
      | .run => none
      | .panicking chain => match cs with
        | c :: rest => some ⟨c.raise chain, rest, h⟩
        | [] => none
      | .returning => (aresults P h fn fr.tmps).bind fun v => areturn fr cs h v

def isDefer : Op → Bool
  | .defer _ => true
  | _ => false

/-- One step; 'nest': a call inside a region that draws its order. -/
def astep (P : Program) (G : Nat) (hk : FuncId → Array Value → AH → Option (Value × AH)) (draw : Array Oper → Array Value → AH → Option (Array Value × AH)) (s : AS) : Option AS :=
  match s.fr.mode with
  | .run => match ctl ({ tmps := s.fr.tmps, defers := [] } : Act).eval s.fr.todo with
    | some k => if okCond G s.fr.todo then some ⟨{ s.fr with todo := k }, s.cs, s.h⟩ else none
    | none => match s.fr.todo with
      | .inRegion ops (i :: _) :: _ => match ops[i]? with
        | some o => if Region.wanted o (yielded ops s.fr.tmps) then if s.fr.roundOf.isSome && isDefer o.op then none else (aop P G s.h ({ tmps := s.fr.tmps, defers := [] } : Act).eval o).bind (aopstep P hk s.fr s.cs s.h) else some ⟨s.fr.finish undef, s.cs, s.h⟩
        | none => none
      | .code .ret :: _ => aleave s.fr s.cs s.h (some .ret)
      | [] => aleave s.fr s.cs s.h none
      | .code (.exit id) :: _ => aleave s.fr s.cs s.h (some (.exit id))
      | .code (.goto l) :: _ => aleave s.fr s.cs s.h (some (.goto l))
      | .code (.region _ ops true) :: k => (draw ops s.fr.tmps s.h).map fun r => ⟨{ s.fr with tmps := r.1, todo := k }, s.cs, r.2⟩
      | .code (.rangeFunc f params assign body) :: k => match s.fr.roundOf, okOpd G f, ({ tmps := s.fr.tmps, defers := [] } : Act).eval f with
        | none, true, .func (.func g) first cap => if hasBody P g then
            let h1 := s.h.push (.defd (some []))
            let h2 := h1.push (.loop { state := .ready, pending := none, fn := s.fr.fn, tmps := s.fr.tmps, params, assign, body, defers := s.h.next })
            some ⟨Frame.enter P g (first ++ #[.func (.yield h1.next) #[] #[]] ++ cap) .normal, { s.fr with todo := .inRangeFunc h1.next :: k, defers := { target := .collected s.h.next, args := #[] } :: s.fr.defers } :: s.cs, h2⟩
          else none
        | _, _, _ => none
      | .beginRound :: _ => match s.fr.roundOf with
        | some l => match s.h.get l with
          | some (.loop r) => if r.state == .ready then some ⟨s.fr.finish undef, s.cs, s.h.put l (some (.loop { r with state := .busy }))⟩ else none
          | _ => none
        | none => none
      | .endRangeFunc l :: k => match s.h.get l with
        | some (.loop r) => if r.state == .busy then none else some ⟨{ s.fr with todo := (r.pending.map Item.code).toList ++ k }, s.cs, s.h.put l (some (.loop { r with state := .exhausted }))⟩
        | _ => none
      | _ => none
  | _ => aunwind P s.fr s.cs s.h

section
variable {P : Program} {G : Nat} {ρ : Rho} {h : AH} {w : World} {cs : List Frame}

theorem finish_ren {a b : Frame} (hf : FrR ρ a b) {v v' : Value} (hv : ren ρ v = some v') : FrR ρ (a.finish v) (b.finish v') := by
  obtain ⟨fn, tmps, todo, defers, mode, kind, roundOf⟩ := a
  obtain ⟨fn', tmps', todo', defers', mode', kind', roundOf'⟩ := b
  obtain ⟨h1, h2, h3, h4, h5, h6, h7⟩ := hf
  simp only at h1 h2 h3 h4 h5 h6 h7
  cases todo with
  | nil => simp [renIs] at h3; subst h3; exact ⟨h1, h2, by simp [Frame.finish, renIs], h4, h5, h6, h7⟩
  | cons x k =>
    have h30 := h3
    obtain ⟨x', k', q1, q2, rfl⟩ := renIs_cons.1 h3
    cases x <;> simp only [renI, Option.map_eq_some_iff] at q1 <;> try (cases q1; done)
    case inRegion ops l =>
      cases q1
      cases l with
      | nil => exact ⟨h1, h2, h30, h4, h5, h6, h7⟩
      | cons i rest =>
        refine ⟨h1, ?_, renIs_cons.2 ⟨_, _, rfl, q2, rfl⟩, h4, h5, h6, h7⟩
        simp only [Frame.finish]
        cases (ops[i]?).bind (·.dst) with
        | none => exact h2
        | some d => exact renArr_set hv d h2
    case inRangeFunc l =>
      obtain ⟨b, hb, rfl⟩ := q1
      exact ⟨h1, h2, renIs_cons.2 ⟨.endRangeFunc b, _, by simp [renI, hb], q2, rfl⟩, h4, h5, h6, h7⟩
    case endRangeFunc l => obtain ⟨b, hb, rfl⟩ := q1; exact ⟨h1, h2, h30, h4, h5, h6, h7⟩
    case beginRound => cases q1; exact ⟨h1, h2, q2, h4, h5, h6, h7⟩
    all_goals (cases q1; exact ⟨h1, h2, h30, h4, h5, h6, h7⟩)

theorem enter_ren {args args' : Array Value} (ha : renArr ρ args = some args') (f : FuncId) (k : CallKind) : FrR ρ (Frame.enter P f args k) (Frame.enter P f args' k) := by
  have hs := renArr_size ha
  refine ⟨rfl, ?_, by simp [Frame.enter, renIs, renI], by simp [Frame.enter, renDs], by simp [Frame.enter, renM], rfl, .inl ⟨rfl, rfl⟩⟩
  simp only [Frame.enter, hs]
  refine renArr_append ha ?_
  rw [renArr_iff]
  simpa using renL_replicate (ren_undef ρ) _

theorem ren_bool_inv {v : Value} {b : Bool} (hv : ren ρ v = some (.bool b)) : v = .bool b := by
  cases v with
  | bool c => simp [ren] at hv; rw [hv]
  | pointer a => cases a <;> simp [ren] at hv
  | slice a n c => cases a <;> simp [ren, Option.bind_eq_some_iff] at hv
  | map r => cases r <;> simp [ren] at hv
  | chan r => cases r <;> simp [ren] at hv
  | _ => simp [ren, Option.bind_eq_some_iff] at hv

theorem yielded_ren {tm tm' : Array Value} (ht : renArr ρ tm = some tm') (ops : Array Oper) : yielded ops tm' = yielded ops tm := by
  funext j
  unfold yielded
  cases (ops[j]?).bind (·.dst) with
  | none => rfl
  | some d =>
    simp only [Option.bind_some]
    have hs := renArr_size ht
    cases q : tm[d]? with
    | none =>
      have : tm'[d]? = none := by
        simp at q ⊢; omega
      rw [this]
    | some v =>
      obtain ⟨v', h1, h2⟩ := renL_get d (renArr_iff.1 ht) v (by simpa using q)
      have h3 : tm'[d]? = some v' := by simpa using h1
      rw [h3]
      cases v with
      | bool b => rw [ren_bool h2]
      | _ =>
        cases v' with
        | bool b => have := ren_bool_inv h2; cases this
        | _ => rfl

theorem eval_eq (fr : Frame) (ds : List Deferred) : fr.eval = ({ tmps := fr.tmps, defers := ds } : Act).eval := by
  funext x
  cases x <;> rfl

/-- The machine at an operation that is wanted. -/
theorem stepG_op' {fr : Frame} {ops : Array Oper} {i : Nat} {rest : List Nat} {k : List Item} {o : Oper} (hm : fr.mode = .run) (ht : fr.todo = .inRegion ops (i :: rest) :: k) (ho : ops[i]? = some o) (hw : Region.wanted o (yielded ops fr.tmps) = true)
    (hr : fr.roundOf = none ∨ ∀ c, o.op ≠ .defer c) : stepG P true { frame := fr, callers := cs, status := .running, dying := none } w = stepG.apply P true fr cs none (execOp fr.eval o) w := by
  have hop : fr.oper? = some o := by simp [Frame.oper?, ht, ho]
  simp only [stepG, hm, stepG.exec, ht, ho, Option.map_some, hw, Option.getD_some, if_true, stepG.oper, hop]
  split
  · rename_i l c hro hc
    rcases hr with hr | hr
    · rw [hr] at hro; cases hro
    · exact absurd hc (hr c)
  · rfl

theorem kind_normal {fr : Frame} {ops : Array Oper} {l : List Nat} {k : List Item} (ht : fr.todo = .inRegion ops l :: k) : (match fr.todo with | .call _ true _ _ :: _ => CallKind.wrapped | _ => .normal) = .normal := by
  rw [ht]
end
end Go.AE
