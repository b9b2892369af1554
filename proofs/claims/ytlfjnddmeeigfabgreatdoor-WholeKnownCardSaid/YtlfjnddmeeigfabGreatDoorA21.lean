import Derived.Test.YtlfjnddmeeigfabGreatDoorA20
namespace Go.AE
open Go

/-- Who waits, directly or not, for i. -/
def waits (ops : Array Oper) (listed : Array Bool) (i : Nat) : Nat → List Oper → Array Bool → Array Bool
  | _, [], acc => acc
  | j, o :: rest, acc => waits ops listed i (j + 1) rest (acc.push (!listed.getD j true && o.after.any fun e => Region.binds .any e && (e.on == i || acc.getD e.on false)))

/-- i may be taken first: 'wt' tells of nobody that he waits who does not, and nobody else touches i's temporaries. -/
def okTake (ops : Array Oper) (listed : Array Bool) (wt : Array Bool) (i : Nat) : Bool :=
  match ops[i]? with
  | none => false
  | some oi => (List.range ops.size).all fun j => j == i || (listed.getD j true || match ops[j]? with
      | some oj => if wt.getD j false then oj.after.any (fun e => Region.binds .any e && (e.on == i || (!listed.getD e.on true && wt.getD e.on false))) else oi.apart ops oj
      | none => true)

/-- Cells that a load has taken early: nobody who may come before it may turn them. -/
structure Held where
  a : Addr
  n : Nat
  l : List Value
  wt : Array Bool

def heldOk (h : AH) (j : Nat) (g : Held) : Bool :=
  g.wt.getD j false || match acells h g.a g.n with
    | some l => veqL l g.l
    | none => false

/-- A value that comes of the operands alone. -/
def apureV (P : Program) (G : Nat) (h : AH) (e : Operand → Value) (o : Oper) : Option Value :=
  if o.op.operands.all (okOpd G) then
    match aptr P h e o.op with
    | some v => some v
    | none => if notSelect o.op && o.op.operands.all (fun x => closed (e x)) then match pureRun P (execOp e o) with
        | some (.value v) => if closed v then some v else none
        | _ => none
      else none
  else none

def aloadV (P : Program) (G : Nat) (h : AH) (e : Operand → Value) (o : Oper) : Option (Value × Addr × Nat × List Value) :=
  match o.op with
  | .load t x => if okOpd G x then match e x with
      | .pointer (some a) => match aload P h t a, acells h a (loadN P t) with
        | some v, some l => some (v, a, loadN P t, l)
        | _, _ => none
      | _ => none
    else none
  | _ => none

def putA (ops : Array Oper) (i : Nat) (tm : Array Value) (v : Value) : Array Value :=
  match (ops[i]?).bind (·.dst) with
  | some d => tm.setIfInBounds d v
  | none => tm

abbrev evA (tm : Array Value) : Operand → Value := ({ tmps := tm, defers := [] } : Act).eval

/-- An operation that may be taken first. -/
def pick (P : Program) (G : Nat) (ops : Array Oper) (listed : Array Bool) (tm : Array Value) (h : AH) : List Nat → Option (Nat × Value × List Held)
  | [] => none
  | i :: rest =>
    match ops[i]? with
    | none => none
    | some o =>
      let wt := waits ops listed i 0 ops.toList #[]
      let r : Option (Value × List Held) :=
        if Region.wanted o (yielded ops tm) then
          match apureV P G h (evA tm) o with
          | some v => some (v, [])
          | none => match aloadV P G h (evA tm) o with
            | some (v, a, n, l) => some (v, [⟨a, n, l, wt⟩])
            | none => none
        else some (undef, [])
      match r with
      | some (v, gs) => if okTake ops listed wt i then some (i, v, gs) else pick P G ops listed tm h rest
      | none => pick P G ops listed tm h rest

/-- An operation is carried out. 'base': the numbers kept for what the region's own operations allot. -/
def perform (P : Program) (G : Nat) (nest : FuncId → Array Value → AH → Option (Value × AH)) (base : Nat) (o : Oper) (i : Nat) (tm : Array Value) (h : AH) : Option (Value × AH) :=
  match o.op with
  | .alloc t => (azero P t).bind fun z => if closed z && ((h.get (base + i)).isNone && Nat.blt (base + i) h.next) then some (.pointer (some ⟨base + i, 0, none⟩), h.put (base + i) (some (.cells z.cells.toList t none false))) else none
  | _ => match aop P G h (evA tm) o with
    | some (.val v h') => some (v, h')
    | some (.enter f args) => nest f args h
    | _ => none

def same (r s : Array Value × AH) : Bool := veqA r.1 s.1 && (r.2.next.beq s.2.next && teq r.2.m s.2.m)

/-- Whoever of these comes next, the end is the same. -/
def branches (P : Program) (G : Nat) (nest : FuncId → Array Value → AH → Option (Value × AH)) (base : Nat) (ops : Array Oper) (rec_ : Nat → List Held → Array Value → AH → Option (Array Value × AH)) (gs : List Held) (tm : Array Value) (h : AH) : List Nat → Option (Array Value × AH)
  | [] => none
  | i :: rest =>
    match ops[i]? with
    | none => none
    | some o =>
      if Region.wanted o (yielded ops tm) then
        match perform P G nest base o i tm h with
        | some (v, h') => if gs.all (heldOk h' i) then
            match rec_ i (gs.filter fun g => !g.wt.getD i false) (putA ops i tm v) h' with
            | some r => match rest with
              | [] => some r
              | _ => match branches P G nest base ops rec_ gs tm h rest with
                | some s => if same r s then some r else none
                | none => none
            | none => none
          else none
        | none => none
      else none

def adraw (P : Program) (G : Nat) (nest : FuncId → Array Value → AH → Option (Value × AH)) (base : Nat) (ops : Array Oper) : Nat → Array Bool → List Held → Array Value → AH → Option (Array Value × AH)
  | 0, listed, _, tm, h => if (Region.ready .any ops listed).isEmpty then some (tm, h) else none
  | f + 1, listed, gs, tm, h =>
    match Region.ready .any ops listed with
    | [] => some (tm, h)
    | r :: rs => match pick P G ops listed tm h (r :: rs) with
      | some (i, v, g) => adraw P G nest base ops f (listed.setIfInBounds i true) (g ++ gs) (putA ops i tm v) h
      | none => branches P G nest base ops (fun i gs tm h => adraw P G nest base ops f (listed.setIfInBounds i true) gs tm h) gs tm h (r :: rs)

def hasAlloc (ops : Array Oper) : Bool := ops.any fun o => match o.op with | .alloc _ => true | _ => false

def adrawAll (P : Program) (G : Nat) (nest : FuncId → Array Value → AH → Option (Value × AH)) (ops : Array Oper) (tm : Array Value) (h : AH) : Option (Array Value × AH) :=
  if Region.noSelect ops && !(ops.any fun o => isDefer o.op) then
    adraw P G nest h.next ops ops.size (Array.replicate ops.size false) [] tm (if hasAlloc ops then { h with next := h.next + ops.size } else h)
  else none

/-- A state in which the last frame hands its result over. -/
def afinal (P : Program) (s : AS) : Option (Value × AH) :=
  match s.cs, s.fr.mode, s.fr.defers, P.funcs[s.fr.fn]? with
  | [], .returning, [], some fn => match s.fr.kind with
    | .normal => (aresults P s.h fn s.fr.tmps).map fun v => (v, s.h)
    | _ => none
  | _, _, _, _ => none

def iter (step : AS → Option AS) : Nat → AS → Option AS
  | 0, s => some s
  | n + 1, s => match step s with
    | some s' => iter step n s'
    | none => some s

def acallF (P : Program) (G : Nat) (hk : FuncId → Array Value → AH → Option (Value × AH)) (draw : Array Oper → Array Value → AH → Option (Array Value × AH)) (n : Nat) (f : FuncId) (args : Array Value) (h : AH) : Option (Value × AH) :=
  if hasBody P f then (iter (astep P G hk draw) n ⟨Frame.enter P f args .normal, [], h⟩).bind (fun s => if Nat.beq s.fr.fn f then afinal P s else none) else none

/-- A call, with calls inside of regions that draw, 'd' deep. -/
def acall (P : Program) (G : Nat) (hk : FuncId → Array Value → AH → Option (Value × AH)) (n : Nat) : Nat → FuncId → Array Value → AH → Option (Value × AH)
  | 0 => fun _ _ _ => none
  | d + 1 => fun f args h => match hk f args h with
    | some r => some r
    | none => acallF P G hk (adrawAll P G (acall P G hk n d)) n f args h
end Go.AE
