import Derived.Test.YtjbflfbhfnkmlaaGreatDoorLD
set_option linter.unusedVariables false
set_option linter.unusedSimpArgs false
namespace Go.AE
open Go
def CSp (P : Program) (G : Nat) (f : FuncId) (args : Array Value) (h : AH) (v : Value) (h' : AH) : Prop :=
  ∀ (ρ : Rho) (w : World) (args' : Array Value), WR G ρ h w → renArr ρ args = some args' →
    Calls P f args' w fun e w' => ∃ ρ' v', e = .returned v' ∧ WR G ρ' h' w' ∧ Ext ρ h w ρ' h' w' ∧ ren ρ' v = some v'
def Gets (P : Program) (G : Nat) (s s' : AS) : Prop :=
  ∀ (ρ : Rho) (fr : Frame) (cs cs0 : List Frame) (w : World), SR G ρ s fr cs w → StepTo P G ρ s s' fr cs cs0 w
section
variable {P : Program} {G : Nat}
theorem Gets.refl (s : AS) : Gets P G s s := fun _ _ _ _ _ H => StepTo.refl H
theorem Gets.trans {s s' s'' : AS} (a : Gets P G s s') (b : Gets P G s' s'') : Gets P G s s'' := by
  intro ρ fr cs cs0 w H
  obtain ⟨ρ1, fr1, cs1, w1, H1, E1, S1⟩ := a ρ fr cs cs0 w H
  obtain ⟨ρ2, fr2, cs2, w2, H2, E2, S2⟩ := b ρ1 fr1 cs1 cs0 w1 H1
  exact ⟨ρ2, fr2, cs2, w2, H2, E1.trans E2, S1.trans S2⟩
def noHook : FuncId → Array Value → AH → Option (Value × AH) := fun _ _ _ => none
theorem noHook_ok : NestOK P G noHook := fun _ _ _ _ _ h => by cases h
open Classical in
noncomputable def hookAt (f : FuncId) (args : Array Value) (h : AH) (v : Value) (h' : AH) : FuncId → Array Value → AH → Option (Value × AH) :=
  fun f1 a1 h1 => if f1 = f ∧ a1 = args ∧ h1 = h then some (v, h') else none
theorem hookAt_ok {f : FuncId} {args : Array Value} {h h' : AH} {v : Value} (H : CSp P G f args h v h') : NestOK P G (hookAt f args h v h') := by
  intro f1 a1 h1 v1 h1' e ρ w args' hw ha
  unfold hookAt at e
  split at e
  · rename_i q
    obtain ⟨rfl, rfl, rfl⟩ := q
    cases e
    exact H ρ w args' hw ha
  · cases e
def curOp (s : AS) : Option Oper :=
  match s.fr.mode with
  | .run => match s.fr.todo with
    | .inRegion ops (i :: _) :: _ => match ops[i]? with
      | some o => if Region.wanted o (yielded ops s.fr.tmps) then (if s.fr.roundOf.isSome && isDefer o.op then none else some o) else none
      | none => none
    | _ => none
  | _ => none
theorem astep_op {s : AS} {o : Oper} {r : AR1} (hc : curOp s = some o) (hr : aop P G s.h ({ tmps := s.fr.tmps, defers := [] } : Act).eval o = some r)
    (hk : FuncId → Array Value → AH → Option (Value × AH)) (draw : Array Oper → Array Value → AH → Option (Array Value × AH)) :
    astep P G hk draw s = aopstep P hk s.fr s.cs s.h r := by
  unfold curOp at hc
  split at hc
  case h_2 => cases hc
  rename_i hm
  split at hc
  case h_2 => cases hc
  rename_i ops i rest k ht
  split at hc
  case h_2 => cases hc
  rename_i o' ho
  split at hc
  case isFalse => cases hc
  rename_i hw
  split at hc
  · cases hc
  rename_i hd
  cases hc
  unfold astep
  simp only [hm, ht, ho, hw, if_true, hd, hr, Option.bind_some]
  rfl
def nDraw : Array Oper → Array Value → AH → Option (Array Value × AH) := fun _ _ _ => none
theorem nDraw_ok : DrawOK P G nDraw := fun _ _ _ _ _ h => by cases h
theorem reach_op {s s' : AS} {o : Oper} {r : AR1} (hc : curOp s = some o) (hr : aop P G s.h ({ tmps := s.fr.tmps, defers := [] } : Act).eval o = some r)
    (hs : aopstep P noHook s.fr s.cs s.h r = some s') : Gets P G s s' := fun _ _ _ _ _ H =>
  astep_ok (noHook_ok (P := P) (G := G)) (nDraw_ok (P := P) (G := G)) H (by rw [astep_op hc hr]; exact hs)
theorem reach_call {s : AS} {o : Oper} {f : FuncId} {args : Array Value} {v : Value} {h' : AH} (hc : curOp s = some o) (hr : aop P G s.h ({ tmps := s.fr.tmps, defers := [] } : Act).eval o = some (.enter f args))
    (H : CSp P G f args s.h v h') : Gets P G s ⟨s.fr.finish v, s.cs, h'⟩ := fun _ _ _ _ _ HR =>
  astep_ok (hookAt_ok H) (nDraw_ok (P := P) (G := G)) HR (by rw [astep_op hc hr]; simp [aopstep, hookAt])
theorem reach_iter {hk : FuncId → Array Value → AH → Option (Value × AH)} (hhk : NestOK P G hk) {draw : Array Oper → Array Value → AH → Option (Array Value × AH)} (hdraw : DrawOK P G draw) {n : Nat} {s s' : AS} (hi : iter (astep P G hk draw) n s = some s') : Gets P G s s' :=
  fun _ _ _ _ _ H => iter_ok hhk hdraw n H hi
theorem spec_of_reach {f : FuncId} {args : Array Value} {h h' : AH} {v : Value} {s : AS} (hr : Gets P G ⟨Frame.enter P f args .normal, [], h⟩ s) (hf : afinal P s = some (v, h')) (hfn : s.fr.fn = f) : CSp P G f args h v h' :=
  fun ρ w _ hw ha => calls_of_segs hw ha (fun cs0 => hr ρ _ [] cs0 w ⟨enter_ren ha f .normal, trivial, hw⟩) hf hfn
def pushAll (h : AH) : List AObj → AH
  | [] => h
  | o :: l => pushAll (h.push o) l
def putAll (h : AH) : List (Nat × Option AObj) → AH
  | [] => h
  | x :: l => putAll (h.put x.1 x.2) l
def FSp (P : Program) (G : Nat) (f : FuncId) (args : Array Value) (n : Nat) (reads : List (Nat × AObj)) (v : Value) (writes : List (Nat × Option AObj)) (news : List AObj) : Prop :=
  ∀ H : AH, H.next = n → (∀ p ∈ reads, H.get p.1 = some p.2) → CSp P G f args H v (pushAll (putAll H writes) news)
section
variable {P : Program}
theorem pureRun_underlying {β : Type} {t : TypeId} {d : TypeDesc} (hu : P.underlying t = some d) (K : TypeDesc → Sem β) : pureRun P (Go.underlying t >>= K) = pureRun P (K d) := by
  have : ∀ p : Program, p = P → (match p.underlying t with | some d => (pure d : Sem TypeDesc) | none => stuck "no such type") = pure d := by
    rintro p rfl
    rw [hu]
  show pureRun P (Sem.bind (Sem.bind (.program .pure) fun p => match p.underlying t with | some d => (pure d : Sem TypeDesc) | none => stuck "no such type") K) = _
  simp only [Sem.bind, pureRun, this P rfl]
  rfl
theorem pureRun_bind {P : Program} {α β : Type} : ∀ {s : Sem α} {a : α} (k : α → Sem β), pureRun P s = some a → pureRun P (s >>= k) = pureRun P (k a)
  | .pure b, a, k, h => by simp [pureRun] at h; subst h; rfl
  | .program f, a, k, h => by
    simp only [pureRun] at h
    exact pureRun_bind (s := f P) k h
  | .mark m f, a, k, h => by
    simp only [pureRun] at h
    exact pureRun_bind (s := f) k h
  | .load .., _, _, h | .store .., _, _, h | .new .., _, _, h | .shape .., _, _, h | .freeze .., _, _, h | .frozen .., _, _, h | .getObj .., _, _, h | .setObj .., _, _, h | .choose .., _, _, h | .sys .., _, _, h | .halt _, _, _, h => by simp [pureRun] at h
theorem pureRun_sizeOf {P : Program} {t : TypeId} {n : Nat} (h : sizeT P t = some n) : pureRun P (sizeOf t) = some n := by
  unfold sizeT at h
  obtain ⟨i, hi, rfl⟩ := Option.map_eq_some_iff.1 h
  have : pureRun P (typeInfo t) = some i := by
    have : ∀ p : Program, p = P → (match p.info? t with | some d => (pure d : Sem TypeInfo) | none => stuck "no such type") = pure i := by
      rintro p rfl
      rw [hi]
    show pureRun P (Sem.bind (.program .pure) fun p => match p.info? t with | some d => (pure d : Sem TypeInfo) | none => stuck "no such type") = _
    simp only [Sem.bind, pureRun, this P rfl]
    rfl
  unfold sizeOf
  rw [pureRun_bind _ this]
  rfl
def intsK (k : IntKind) : List Value → List Value → Bool
  | [], [] => true
  | .int k1 _ :: l, .int k2 _ :: m => decide (k1 = k) && (decide (k2 = k) && intsK k l m)
  | _, _ => false
def eqInts : List Value → List Value → Bool
  | .int _ a :: l, .int _ b :: m => (a == b) && eqInts l m
  | _, _ => true
theorem pureRun_part {P : Program} {el : TypeId} {k : IntKind} (hel : P.underlying el = some (.int k)) {xs : List Value} {i : Nat} {v : Value} (h : xs[i]? = some v) : pureRun P (part el ⟨xs⟩ i) = some v := by
  unfold part
  have : pureRun P (isAgg el) = some false := by
    unfold isAgg
    rw [pureRun_underlying hel]
    rfl
  rw [pureRun_bind _ this]
  simp [h, pureRun, pure]
theorem equalIn_int {P : Program} {d : Nat} {el : TypeId} {k : IntKind} (hel : P.underlying el = some (.int k)) (a b : Int) : pureRun P (Op.equalIn (d + 1) el (.int k a) (.int k b)) = some (a == b) := by
  unfold Op.equalIn
  rw [pureRun_underlying hel]
  simp [pureRun, pure]
theorem pureRun_partS {P : Program} {el : TypeId} (hel : P.underlying el = some .string) {xs : List Value} {i : Nat} {v : Value} (h : xs[i]? = some v) : pureRun P (part el ⟨xs⟩ i) = some v := by
  unfold part
  have : pureRun P (isAgg el) = some false := by
    unfold isAgg
    rw [pureRun_underlying hel]
    rfl
  rw [pureRun_bind _ this]
  simp [h, pureRun, pure]
theorem equalIn_str {P : Program} {d : Nat} {el : TypeId} (hel : P.underlying el = some .string) (a b : ByteArray) : pureRun P (Op.equalIn (d + 1) el (.string a) (.string b)) = some (a == b) := by
  unfold Op.equalIn
  rw [pureRun_underlying hel]
  simp [pureRun, pure]
theorem equalIn_struct {P : Program} {d : Nat} {t : TypeId} {fs : Array Field} {f g : Field} {a b c e : ByteArray} (hu : P.underlying t = some (.struct fs)) (hfs : fs = #[f, g]) (hst : P.stoodInHeld t = false) (hf : P.underlying f.type = some .string) (hg : P.underlying g.type = some .string) (nf : f.name ≠ "_") (ng : g.name ≠ "_") (of : f.offset = 0) (og : g.offset = 1) :
    pureRun P (Op.equalIn (d + 2) t (.agg ⟨[.string a, .string b]⟩) (.agg ⟨[.string c, .string e]⟩)) = some ((a == c) && (b == e)) := by
  subst hfs
  unfold Op.equalIn
  rw [pureRun_underlying hu]
  simp only []
  have hp : pureRun P program = some P := rfl
  rw [pureRun_bind _ hp]
  simp only [hst, Bool.false_eq_true, if_false]
  have p1 : pureRun P (part f.type ⟨[.string a, .string b]⟩ f.offset) = some (.string a) := by rw [of]; exact pureRun_partS hf rfl
  have p2 : pureRun P (part f.type ⟨[.string c, .string e]⟩ f.offset) = some (.string c) := by rw [of]; exact pureRun_partS hf rfl
  have p3 : pureRun P (part g.type ⟨[.string a, .string b]⟩ g.offset) = some (.string b) := by rw [og]; exact pureRun_partS hg rfl
  have p4 : pureRun P (part g.type ⟨[.string c, .string e]⟩ g.offset) = some (.string e) := by rw [og]; exact pureRun_partS hg rfl
  rw [← Array.forIn_toList]
  simp only [List.forIn_cons, List.forIn_nil, nf, ng, ne_eq, not_false_eq_true, if_true, bind_assoc]
  rw [pureRun_bind _ p1, pureRun_bind _ p2, pureRun_bind _ (equalIn_str hf a c)]
  cases a == c
  · rfl
  · simp only [Bool.not_true, Bool.false_eq_true, if_false, pure_bind, bind_assoc]
    rw [pureRun_bind _ p3, pureRun_bind _ p4, pureRun_bind _ (equalIn_str hg b e)]
    cases b == e <;> rfl
def isEqOp : BinOp → Bool
  | .eql | .neq => true
  | _ => false
def eqQ : BinOp → Bool → Bool
  | .neq, z => !z
  | _, z => z
def isStrT : Option TypeDesc → Bool
  | some .string => true
  | _ => false
theorem isStrT_eq {d : Option TypeDesc} (h : isStrT d = true) : d = some .string := by
  unfold isStrT at h
  split at h
  · rfl
  · cases h
def stIn2 (P : Program) (t : TypeId) : Bool :=
  match P.underlying t with
  | some (.struct ⟨[f, g]⟩) => decide (P.stoodInHeld t = false ∧ f.name ≠ "_" ∧ g.name ≠ "_" ∧ f.offset = 0 ∧ g.offset = 1 ∧ isStrT (P.underlying f.type) = true ∧ isStrT (P.underlying g.type) = true)
  | _ => false
def stIn (P : Program) (t : TypeId) : Bool :=
  match P.underlying t with
  | some (.struct ⟨[f]⟩) => decide (P.stoodInHeld t = false ∧ f.name ≠ "_" ∧ f.offset = 0 ∧ sizeT P f.type = some 2) && stIn2 P f.type
  | _ => stIn2 P t
theorem isAgg_of_stIn2 {P : Program} {t : TypeId} (h : stIn2 P t = true) : pureRun P (isAgg t) = some true := by
  unfold stIn2 at h
  split at h
  · rename_i f g hu
    unfold isAgg
    rw [pureRun_underlying hu]
    rfl
  · cases h
theorem equalIn_stIn2 {P : Program} {d : Nat} {t : TypeId} {a b c e : ByteArray} (h : stIn2 P t = true) :
    pureRun P (Op.equalIn (d + 2) t (.agg ⟨[.string a, .string b]⟩) (.agg ⟨[.string c, .string e]⟩)) = some ((a == c) && (b == e)) := by
  unfold stIn2 at h
  split at h
  · rename_i f g hu
    obtain ⟨h1, h2, h3, h4, h5, h6, h7⟩ := of_decide_eq_true h
    exact equalIn_struct hu rfl h1 (isStrT_eq h6) (isStrT_eq h7) h2 h3 h4 h5
  · cases h
theorem pureRun_partA {P : Program} {el : TypeId} (ha : pureRun P (isAgg el) = some true) (hs : sizeT P el = some 2) {a b : Value} : pureRun P (part el ⟨[a, b]⟩ 0) = some (.agg ⟨[a, b]⟩) := by
  unfold part
  rw [pureRun_bind _ ha]
  simp only [if_true]
  rw [pureRun_bind _ (pureRun_sizeOf hs)]
  simp [pureRun, pure]
theorem equalIn_struct1 {P : Program} {d : Nat} {t : TypeId} {f : Field} {a b c e : Value} {r : Bool} (hu : P.underlying t = some (.struct ⟨[f]⟩)) (hst : P.stoodInHeld t = false) (nf : f.name ≠ "_") (of : f.offset = 0) (ha : pureRun P (isAgg f.type) = some true) (hs : sizeT P f.type = some 2)
    (hin : pureRun P (Op.equalIn (d + 1) f.type (.agg ⟨[a, b]⟩) (.agg ⟨[c, e]⟩)) = some r) :
    pureRun P (Op.equalIn (d + 2) t (.agg ⟨[a, b]⟩) (.agg ⟨[c, e]⟩)) = some r := by
  unfold Op.equalIn
  rw [pureRun_underlying hu]
  simp only []
  have hp : pureRun P program = some P := rfl
  rw [pureRun_bind _ hp]
  simp only [hst, Bool.false_eq_true, if_false]
  have p1 : pureRun P (part f.type ⟨[a, b]⟩ f.offset) = some (.agg ⟨[a, b]⟩) := by rw [of]; exact pureRun_partA ha hs
  have p2 : pureRun P (part f.type ⟨[c, e]⟩ f.offset) = some (.agg ⟨[c, e]⟩) := by rw [of]; exact pureRun_partA ha hs
  rw [← Array.forIn_toList]
  simp only [List.forIn_cons, List.forIn_nil, nf, ne_eq, not_false_eq_true, if_true, bind_assoc]
  rw [pureRun_bind _ p1, pureRun_bind _ p2, pureRun_bind _ hin]
  cases r <;> rfl
theorem equalIn_stIn {P : Program} {d : Nat} {t : TypeId} {a b c e : ByteArray} (h : stIn P t = true) :
    pureRun P (Op.equalIn (d + 3) t (.agg ⟨[.string a, .string b]⟩) (.agg ⟨[.string c, .string e]⟩)) = some ((a == c) && (b == e)) := by
  unfold stIn at h
  split at h
  · rename_i f hu
    simp only [Bool.and_eq_true] at h
    obtain ⟨h1, h8⟩ := h
    obtain ⟨h1, h2, h3, h4⟩ := of_decide_eq_true h1
    exact equalIn_struct1 (d := d + 1) hu h1 h2 h3 (isAgg_of_stIn2 h8) h4 (equalIn_stIn2 h8)
  · exact equalIn_stIn2 (d := d + 1) h
theorem intsK_drop {k : IntKind} : ∀ {xs ys : List Value} (i : Nat), intsK k xs ys = true → i < xs.length → ∃ a b, xs[i]? = some (.int k a) ∧ ys[i]? = some (.int k b) ∧ eqInts (xs.drop i) (ys.drop i) = ((a == b) && eqInts (xs.drop (i + 1)) (ys.drop (i + 1)))
  | [], [], i, _, h => by simp at h
  | [], _ :: _, _, h, _ => by simp [intsK] at h
  | v :: _, [], _, h, _ => by cases v <;> simp [intsK] at h
  | v :: l, w :: m, i, h, hi => by
    cases v <;> cases w <;> simp [intsK] at h
    obtain ⟨rfl, rfl, h⟩ := h
    cases i with
    | zero => exact ⟨_, _, rfl, rfl, rfl⟩
    | succ i => exact intsK_drop (xs := l) (ys := m) i h (by simpa using hi)
theorem equalIn_array {P : Program} {d : Nat} {t el : TypeId} {len : Nat} {xs ys : List Value} {k : IntKind} (hu : P.underlying t = some (.array len el)) (hel : P.underlying el = some (.int k)) (hs : sizeT P el = some 1) (hl : xs.length = len) (hk : intsK k xs ys = true) :
    pureRun P (Op.equalIn (d + 2) t (.agg ⟨xs⟩) (.agg ⟨ys⟩)) = some (eqInts xs ys) := by
  unfold Op.equalIn
  rw [pureRun_underlying hu]
  simp only []
  rw [pureRun_bind _ (pureRun_sizeOf hs)]
  have key : ∀ (m i : Nat), m + i = len → ∃ r : Option Bool × Unit, pureRun P (forIn (List.range' i m) ((none : Option Bool), ()) fun i __s => do
            let __do_lift ← part el { toList := xs } (i * 1)
            let __do_lift_1 ← part el { toList := ys } (i * 1)
            let __do_lift ← Op.equalIn (d + 1) el __do_lift __do_lift_1
            if (!__do_lift) = true then pure (ForInStep.done (some false, ())) else pure (ForInStep.yield (none, ()))) = some r ∧ r.1.getD true = eqInts (xs.drop i) (ys.drop i) := by
    intro m
    induction m with
    | zero =>
      intro i hi
      refine ⟨(none, ()), rfl, ?_⟩
      rw [List.drop_eq_nil_of_le (by omega)]
      simp [eqInts]
    | succ m ih =>
      intro i hi
      obtain ⟨a, b, h1, h2, h3⟩ := intsK_drop i hk (by omega)
      rw [List.range'_succ, List.forIn_cons]
      simp only [Nat.mul_one, bind_assoc]
      rw [pureRun_bind _ (pureRun_part hel h1), pureRun_bind _ (pureRun_part hel h2), pureRun_bind _ (equalIn_int hel a b), h3]
      cases hab : (a == b) with
      | false => exact ⟨_, rfl, rfl⟩
      | true =>
        obtain ⟨r, h4, h5⟩ := ih (i + 1) (by omega)
        simp only [Nat.mul_one] at h4
        exact ⟨r, h4, by simpa using h5⟩
  obtain ⟨r, h4, h5⟩ := key len 0 (by omega)
  rw [Std.Legacy.Range.forIn_eq_forIn_range']
  simp only [Std.Legacy.Range.size, Nat.sub_zero, Nat.add_sub_cancel, Nat.div_one]
  rw [pureRun_bind _ h4]
  rw [List.drop_zero, List.drop_zero] at h5
  rcases hr : r.1 with _ | v
  · simp [hr] at h5
    simp [pureRun, pure, h5]
  · simp [hr] at h5
    simp [pureRun, pure, h5]
end
inductive Ans where
  | rw (v : Value)
  | rwI (n : Int)
  | rwB (b : Bool)
  | idx (off : Nat)
  | ld (v : Value)
  | ldn (l : List Value)
  | st (c : List Value)
  | slc (off len cap : Nat)
  | sslc (s : ByteArray)
  | sidx (b : UInt8)
  | div (n : Int)
  | mks (len cap : Nat) (c : List Value)
  | cat (s : ByteArray)
  | cpy (k : Nat) (c : List Value)
  | nxtE
  | nxtC (c w pos : Nat)
  | appI (len : Nat) (c : List Value)
  | appG (len : Nat) (c : List Value)
  | appF (len : Nat) (c : List Value)
  | app0
  | slo (len : Nat)
  | eqA (b : Bool)
  | eqS (b : Bool)
  | b2s (s : ByteArray)
def sop (P : Program) (G : Nat) (h : AH) (e : Operand → Value) (o : Oper) (a : Ans) : Option (AR1 × Prop) :=
  if o.op.operands.all (okOpd G) then
    match a with
    | .rw v => match aop P G h e o with
      | some (.val v0 h0) => some (.val v h0, v0 = v)
      | _ => none
    | .rwI n => match aop P G h e o with
      | some (.val (.int k n0) h0) => some (.val (.int k n) h0, n0 = n)
      | _ => none
    | .rwB b => match aop P G h e o with
      | some (.val (.bool c) h0) => some (.val (.bool b) h0, c = b)
      | _ => none
    | .idx off => match o.op with
      | .indexAddr t x i => match P.underlying t, e x, e i with
        | some (.slice el), .slice (some ⟨ab, ao, none⟩) n _, .int _ k => match sizeT P el with
          | some s => some (.val (.pointer (some ⟨ab, off, none⟩)) h, 0 ≤ k ∧ k < n ∧ ao + k.toNat * s = off)
          | none => none
        | some (.array n el), .pointer (some ⟨ab, ao, none⟩), .int _ k => match sizeT P el with
          | some s => some (.val (.pointer (some ⟨ab, off, none⟩)) h, 0 ≤ k ∧ k < n ∧ ao + k.toNat * s = off)
          | none => none
        | _, _, _ => none
      | _ => none
    | .ld v => match o.op with
      | .load t x => match e x with
        | .pointer (some ⟨ab, ao, none⟩) => match aggT P t, h.get ab with
          | some false, some (.cells c _ _ _) => some (.val v h, c[ao]? = some v)
          | some false, some (.win o c) => some (.val v h, o ≤ ao ∧ c[ao - o]? = some v)
          | _, _ => none
        | _ => none
      | _ => none
    | .ldn l => match o.op with
      | .load t x => match e x with
        | .pointer (some ⟨ab, ao, none⟩) => match aggT P t, sizeT P t, h.get ab with
          | some true, some n, some (.cells c _ _ _) => some (.val (.agg ⟨l⟩) h, ao + n ≤ c.length ∧ (c.drop ao).take n = l)
          | _, _, _ => none
        | _ => none
      | _ => none
    | .st c' => match o.op with
      | .store t x y => match e x with
        | .pointer (some a) => match h.get a.block with
          | some (.cells c el op ro) => let vs := (e y).cells.toList
            if sizeT P t = some vs.length ∧ ro = false ∧ vs.all (·.oneCell') then some (.val undef (h.put a.block (some (.cells c' el op ro))), a.off + vs.length ≤ c.length ∧ lspl c a.off vs = c') else none
          | _ => none
        | _ => none
      | _ => none
    | .slc off len cap => match o.op with
      | .slice t x lo hi mx => match P.underlying t, e x with
        | some (.slice el), .slice (some ⟨ab, ao, none⟩) n c => match h.opn ab, sizeT P el, numO e 0 lo, numO e n hi with
          | some none, some s, some l, some u => match mx with
            | none => some (.val (.slice (some ⟨ab, off, none⟩) len cap) h, 0 ≤ l ∧ l ≤ u ∧ u ≤ c ∧ (if c = l.toNat then ao else ao + l.toNat * s) = off ∧ (u - l).toNat = len ∧ c - l.toNat = cap)
            | some m => match numO e c (some m), hi with
              | some m, some _ => some (.val (.slice (some ⟨ab, off, none⟩) len cap) h, 0 ≤ l ∧ l ≤ u ∧ u ≤ m ∧ m ≤ c ∧ (if m.toNat = l.toNat then ao else ao + l.toNat * s) = off ∧ (u - l).toNat = len ∧ m.toNat - l.toNat = cap)
              | _, _ => none
          | _, _, _, _ => none
        | _, _ => none
      | _ => none
    | .mks len cap c' => match o.op with
      | .makeSlice t l c => match P.underlying t, e l, e c with
        | some (.slice el), .int _ l, .int _ c => match P.info? el with
          | some i => match i.zero with
            | some z => some (.val (.slice (some ⟨h.next, 0, none⟩) len cap) (h.push (.cells c' el none false)),
                (0 ≤ l ∧ l ≤ c ∧ (i.bytes : Int) * c ≤ 281474976710656 ∧ c ≤ 9223372036854775807) ∧ closedL c' = true ∧ (madeCells z.cells (c.toNat * i.size)).toList = c' ∧ l.toNat = len ∧ c.toNat = cap)
            | none => none
          | none => none
        | _, _, _ => none
      | _ => none
    | .div n => match o.op with
      | .binOp b _ x y _ => match b, e x, e y with
        | .quo, .int k a, .int k' d => if k = k' then some (.val (.int k n) h, d ≠ 0 ∧ k.wrap (a.tdiv d) = n) else none
        | .rem, .int k a, .int k' d => if k = k' then some (.val (.int k n) h, d ≠ 0 ∧ a.tmod d = n) else none
        | _, _, _ => none
      | _ => none
    | .cat s => match o.op with
      | .binOp .add _ x y _ => match e x, e y with
        | .string a, .string b => some (.val (.string s) h, ((a.size + b.size : Nat) : Int) ≤ 9223372036854775807 ∧ a ++ b = s)
        | _, _ => none
      | _ => none
    | .sidx b => match o.op with
      | .index t x i => match P.underlying t, e x, e i with
        | some .string, .string s, .int _ k => some (.val (.int .u8 b.toNat) h, 0 ≤ k ∧ s[k.toNat]? = some b)
        | _, _, _ => none
      | _ => none
    | .sslc r => match o.op with
      | .slice t x lo hi none => match P.underlying t, e x with
        | some .string, .string s => match numO e 0 lo, numO e s.size hi with
          | some l, some u => some (.val (.string r) h, 0 ≤ l ∧ l ≤ u ∧ u ≤ s.size ∧ s.extract l.toNat u.toNat = r)
          | _, _ => none
        | _, _ => none
      | _ => none
    | .cpy k c' => match o.op with
      | .call ⟨.builtin .copy, args, ts⟩ => match ts.toList, args.toList with
        | [t, _], [d, x] => match P.underlying t, e d, e x with
          | some (.slice el), .slice (some ⟨db, dof, none⟩) dLen _, .slice (some ⟨sb, sof, none⟩) m _ => match sizeT P el, h.get db, h.get sb with
            | some 1, some (.cells cs el' op false), some (.cells ss _ _ _) => some (.val (.int .i64 k) (h.put db (some (.cells c' el' op false))),
                sof + m ≤ ss.length ∧ Nat.min m dLen = k ∧ dof + k ≤ cs.length ∧ (((ss.drop sof).take m).take k).all (·.oneCell') = true ∧ lspl cs dof (((ss.drop sof).take m).take k) = c')
            | _, _, _ => none
          | _, _, _ => none
        | _, _ => none
      | _ => none
    | .nxtE => match o.op with
      | .next x true => match e x with
        | .pointer (some ⟨r, 0, _⟩) => match h.get r with
          | some (.iter s pos) => some (.val (.tuple #[.bool false]) h, ¬ pos < s.size)
          | _ => none
        | _ => none
      | _ => none
    | .nxtC c w p => match o.op with
      | .next x true => match e x with
        | .pointer (some ⟨r, 0, _⟩) => match h.get r with
          | some (.iter s pos) => some (.val (.tuple #[.bool true, .int .i64 pos, .int .i32 c]) (h.put r (some (.iter s p))), pos < s.size ∧ Utf8.decode s pos = (c, w) ∧ pos + w = p)
          | _ => none
        | _ => none
      | _ => none
    | .b2s r => match o.op with
      | .convert src dst x => match P.underlying src, P.underlying dst, e x with
        | some (.slice el), some .string, .slice (some ⟨ab, ao, none⟩) n _ => match P.underlying el, h.get ab with
          | some (.int .u8), some (.cells c _ _ _) => some (.val (.string r) h, ao + n ≤ c.length ∧ (intsOf ((c.drop ao).take n)).map (fun ns => (⟨(ns.map fun n => UInt8.ofNat n.toNat).toArray⟩ : ByteArray)) = some r)
          | _, _ => none
        | _, _, _ => none
      | _ => none
    | .appI l' c' => match o.op with
      | .call ⟨.builtin .append, args, ts⟩ => match ts.toList, args.toList with
        | [t, u], [d, x] => match P.underlying t, P.underlying u with
          | some (.slice el), some du => match srcT du, P.info? el, e d with
            | true, some i, .slice (some ⟨db, dof, none⟩) len c => match i.zero, asrc h i.size (e x), h.get db with
              | some z, some (n, news), some (.cells cs el' none false) =>
                if closed z ∧ z.cells.size = i.size ∧ 0 < i.size ∧ news.all (·.oneCell') then
                  some (.val (.slice (some ⟨db, dof, none⟩) l' c) (h.put db (some (.cells c' el' none false))), len + n = l' ∧ l' * i.bytes ≤ 140737488355328 ∧ l' ≤ c ∧ c ≤ 9223372036854775807 ∧ dof + len * i.size + news.length ≤ cs.length ∧ lspl cs (dof + len * i.size) news = c')
                else none
              | _, _, _ => none
            | _, _, _ => none
          | _, _ => none
        | _, _ => none
      | _ => none
    | .appG l' c' => match o.op with
      | .call ⟨.builtin .append, args, ts⟩ => match ts.toList, args.toList with
        | [t, u], [d, x] => match P.underlying t, P.underlying u with
          | some (.slice el), some du => match srcT du, P.info? el, e d with
            | true, some i, .slice (some ⟨db, 0, none⟩) len 0 => match i.zero, asrc h i.size (e x), h.get db with
              | some z, some (n, news), some (.cells cs el' (some sz) false) =>
                if closed z ∧ z.cells.size = i.size ∧ 0 < i.size ∧ sz = i.size ∧ el' = el ∧ news.all (·.oneCell') then
                  some (.val (.slice (some ⟨h.next, 0, none⟩) l' 0) ((h.put db none).push (.cells c' el (some i.size) false)), len + n = l' ∧ l' * i.bytes ≤ 140737488355328 ∧ l' ≤ 9223372036854775807 ∧ cs.length = len * i.size ∧ cs ++ news = c')
                else none
              | _, _, _ => none
            | _, _, _ => none
          | _, _ => none
        | _, _ => none
      | _ => none
    | .appF l' c' => match o.op with
      | .call ⟨.builtin .append, args, ts⟩ => match ts.toList, args.toList with
        | [t, u], [d, x] => match P.underlying t, P.underlying u with
          | some (.slice el), some du => match srcT du, P.info? el, e d, e x with
            | true, some i, .slice (some ⟨db, 0, none⟩) len cp, .slice (some ⟨xb, 0, none⟩) n _ => match i.zero, h.get db, h.get xb with
              | some z, some (.cells cs _ none _), some (.cells ds _ _ _) =>
                if closed z ∧ z.cells.size = i.size ∧ 0 < i.size then
                  some (.val (.slice (some ⟨h.next, 0, none⟩) l' 0) (h.push (.cells c' el (some i.size) false)), len + n = l' ∧ l' * i.bytes ≤ 140737488355328 ∧ l' ≤ 9223372036854775807 ∧ cp < l' ∧ len * i.size ≤ cs.length ∧ n * i.size ≤ ds.length ∧ cs.take (len * i.size) ++ ds.take (n * i.size) = c')
                else none
              | _, _, _ => none
            | _, _, _, _ => none
          | _, _ => none
        | _, _ => none
      | _ => none
    | .app0 => match o.op with
      | .call ⟨.builtin .append, args, ts⟩ => match ts.toList, args.toList with
        | [t, u], [d, x] => match P.underlying t, P.underlying u with
          | some (.slice el), some du => match srcT du, P.info? el, e d, e x with
            | true, some i, .slice (some ⟨db, 0, none⟩) len cp, .slice (some ⟨xb, 0, none⟩) n _ => match i.zero, h.get db, h.get xb with
              | some z, some (.cells cs el' none false), some (.cells _ _ _ _) =>
                if closed z ∧ z.cells.size = i.size ∧ 0 < i.size then
                  some (.val (.slice (some ⟨db, 0, none⟩) len cp) (h.put db (some (.cells cs el' none false))), n = 0 ∧ len * i.bytes ≤ 140737488355328 ∧ len ≤ 9223372036854775807 ∧ len ≤ cp ∧ len * i.size ≤ cs.length)
                else none
              | _, _, _ => none
            | _, _, _, _ => none
          | _, _ => none
        | _, _ => none
      | _ => none
    | .eqA b => match o.op with
      | .binOp .eql t x y _ => match P.underlying t, e x, e y with
        | some (.array len el), .agg ⟨xs⟩, .agg ⟨ys⟩ => match P.underlying el with
          | some (.int k) => if sizeT P el = some 1 ∧ xs.length = len ∧ intsK k xs ys = true ∧ P.eqGuardType P.depth t = false ∧ closedL xs = true ∧ closedL ys = true ∧ (aptr P h e o.op).isNone = true ∧ (aeff P h e o.op).isNone = true then
              some (.val (.bool b) h, eqInts xs ys = b)
            else none
          | _ => none
        | _, _, _ => none
      | _ => none
    | .eqS b => match o.op with
      | .binOp q t x y _ => match e x, e y with
        | .agg ⟨[.string s1, .string s2]⟩, .agg ⟨[.string t1, .string t2]⟩ =>
          if isEqOp q = true ∧ stIn P t = true ∧ P.eqGuardType P.depth t = false ∧ (aptr P h e o.op).isNone = true ∧ (aeff P h e o.op).isNone = true then
            some (.val (.bool b) h, eqQ q ((s1 == t1) && (s2 == t2)) = b)
          else none
        | _, _ => none
      | _ => none
    | .slo len => match o.op with
      | .slice t x none hi none => match P.underlying t, e x with
        | some (.slice el), .slice (some ⟨ab, ao, none⟩) n 0 => match h.get ab, sizeT P el, numO e n hi with
          | some (.cells cs _ (some sz) _), some s, some u => if sz = s ∧ 0 < s then some (.val (.slice (some ⟨ab, ao, none⟩) len 0) h, 0 ≤ u ∧ u.toNat * s ≤ cs.length ∧ u.toNat = len) else none
          | _, _, _ => none
        | _, _ => none
      | _ => none
  else none
theorem add_eq {a : Addr} (hs : a.spot = none) (n : Nat) : a.add n = ⟨a.block, a.off + n, none⟩ := by
  obtain ⟨b, o, s⟩ := a
  simp only at hs
  subst hs
  unfold Addr.add
  split <;> simp_all
theorem add_mk (b o n : Nat) : (⟨b, o, none⟩ : Addr).add n = ⟨b, o + n, none⟩ := add_eq rfl n
theorem sop_ok {h : AH} {e : Operand → Value} {o : Oper} {a : Ans} {r : AR1} {p : Prop} (hs : sop P G h e o a = some (r, p)) (hp : p) : aop P G h e o = some r := by
  unfold sop at hs
  split at hs
  case isFalse => cases hs
  rename_i hok
  cases a with
  | rw v =>
    simp only at hs
    split at hs
    case h_2 => cases hs
    rename_i v0 h0 hq
    cases hs
    rw [hq, hp]
  | rwI n =>
    simp only at hs
    split at hs
    case h_2 => cases hs
    rename_i k n0 h0 hq
    cases hs
    rw [hq, hp]
  | rwB b =>
    simp only at hs
    split at hs
    case h_2 => cases hs
    rename_i c h0 hq
    cases hs
    rw [hq, hp]
  | idx off =>
    simp only at hs
    split at hs
    case h_2 => cases hs
    rename_i t x i ho
    split at hs
    case h_3 => cases hs
    · rename_i el ab ao n _ _ k hu hx hi
      split at hs
      case h_2 => cases hs
      rename_i sz hsz
      cases hs
      obtain ⟨h1, h2, h3⟩ := hp
      unfold aop
      rw [if_pos hok]
      simp only [ho, aptr, hu, hx, hi, hsz, if_pos (And.intro h1 h2), add_mk, h3]
    · rename_i n el ab ao _ k hu hx hi
      split at hs
      case h_2 => cases hs
      rename_i sz hsz
      cases hs
      obtain ⟨h1, h2, h3⟩ := hp
      unfold aop
      rw [if_pos hok]
      simp only [ho, aptr, hu, hx, hi, hsz, if_pos (And.intro h1 h2), add_mk, h3]
  | ld v =>
    simp only at hs
    split at hs
    case h_2 => cases hs
    rename_i t x ho
    split at hs
    case h_2 => cases hs
    rename_i ab ao hx
    split at hs
    case h_3 => cases hs
    case h_2 =>
      rename_i o' c hag hg
      cases hs
      unfold aop
      rw [if_pos hok]
      have hlt : ao - o' + 1 ≤ c.length := (List.getElem?_eq_some_iff.1 hp.2).1
      have hc : acells h ⟨ab, ao, none⟩ 1 = some [v] := by
        unfold acells
        simp only [hg, if_pos (And.intro hp.1 hlt)]
        have := (List.getElem?_eq_some_iff.1 hp.2).2
        rw [List.drop_eq_getElem_cons (by omega), this]
        rfl
      simp only [ho, aptr, aeff, hx, aload, hag, hc, Option.bind_some]
      rfl
    rename_i c el op ro hag hg
    cases hs
    unfold aop
    rw [if_pos hok]
    have hlt : ao + 1 ≤ c.length := (List.getElem?_eq_some_iff.1 hp).1
    have hc : acells h ⟨ab, ao, none⟩ 1 = some [v] := by
      unfold acells
      simp only [hg, if_pos hlt]
      have := (List.getElem?_eq_some_iff.1 hp).2
      rw [List.drop_eq_getElem_cons (by omega), this]
      rfl
    simp only [ho, aptr, aeff, hx, aload, hag, hc, Option.bind_some]
    rfl
  | ldn l =>
    simp only at hs
    split at hs
    case h_2 => cases hs
    rename_i t x ho
    split at hs
    case h_2 => cases hs
    rename_i ab ao hx
    split at hs
    case h_2 => cases hs
    rename_i n c el op ro hag hsz hg
    cases hs
    obtain ⟨h2, h3⟩ := hp
    unfold aop
    rw [if_pos hok]
    have hc : acells h ⟨ab, ao, none⟩ n = some l := by
      unfold acells
      simp only [hg, if_pos h2, h3]
    simp only [ho, aptr, aeff, hx, aload, hag, hsz, hc, Option.map_some]
  | st c' =>
    simp only at hs
    split at hs
    case h_2 => cases hs
    rename_i t x y ho
    split at hs
    case h_2 => cases hs
    rename_i a hx
    split at hs
    case h_2 => cases hs
    rename_i c el op ro hg
    split at hs
    case isFalse => cases hs
    rename_i hq
    cases hs
    obtain ⟨h1, h2⟩ := hp
    unfold aop
    rw [if_pos hok]
    simp only [ho, aptr, aeff, hx, astore, hg, hq.1, hq.2.1, hq.2.2, h1, and_self, if_true, h2, Option.map_some]
  | slc off len cap =>
    simp only at hs
    split at hs
    case h_2 => cases hs
    rename_i t x lo hi mx ho
    split at hs
    case h_2 => cases hs
    rename_i el ab ao n c hu hx
    split at hs
    case h_2 => cases hs
    rename_i s l u hop hsz hl hh
    have key : ∀ (q : Prop) [Decidable q] (m : Nat), (if q then ao else ao + m) = off → (if q then (⟨ab, ao, none⟩ : Addr) else Addr.add ⟨ab, ao, none⟩ m) = ⟨ab, off, none⟩ := by
      intro q _ m h2
      split <;> rename_i hq
      · rw [if_pos hq] at h2; rw [h2]
      · rw [if_neg hq] at h2; rw [add_mk, h2]
    split at hs
    · cases hs
      obtain ⟨h1, h2, h2', h3, h4, h5⟩ := hp
      unfold aop
      rw [if_pos hok]
      simp only [ho, aptr, hu, hx, hop, hsz, hl, hh, if_pos (And.intro h1 (And.intro h2 h2')), key _ _ h3, h4, h5]
    · rename_i m
      split at hs
      case h_2 => cases hs
      rename_i mv _ hm
      cases hs
      obtain ⟨h1, h2, h2', h2'', h3, h4, h5⟩ := hp
      unfold aop
      rw [if_pos hok]
      simp only [ho, aptr, hu, hx, hop, hsz, hl, hh, hm, if_pos (And.intro h1 (And.intro h2 (And.intro h2' h2''))), key _ _ h3, h4, h5]
  | mks len cap c' =>
    simp only at hs
    split at hs
    case h_2 => cases hs
    rename_i t l c ho
    split at hs
    case h_2 => cases hs
    rename_i el _ ln _ cp hu hl hc
    split at hs
    case h_2 => cases hs
    rename_i i hi
    split at hs
    case h_2 => cases hs
    rename_i z hz
    cases hs
    obtain ⟨h1, h2, h3, h4, h5⟩ := hp
    unfold aop
    rw [if_pos hok]
    have hcl : closedArr (madeCells z.cells (cp.toNat * i.size)) = true := by
      have : madeCells z.cells (cp.toNat * i.size) = ⟨c'⟩ := Array.ext' h3
      rw [this]; exact h2
    simp only [ho, aptr, aeff, amakeSlice, hu, hl, hc, hi, hz, pv]
    rw [if_pos ⟨h1.1, h1.2.1, h1.2.2.1, h1.2.2.2, hcl⟩]
    rw [h3, h4, h5]
    rfl
  | div n =>
    simp only at hs
    split at hs
    case h_2 => cases hs
    rename_i b t x y t2 ho
    have hcl : o.op.operands.all (fun z => closed (e z)) = true → ∀ v, closed v = true → pureRun P (execOp e o) = some (.value v) → aptr P h e o.op = none → aeff P h e o.op = none → aop P G h e o = some (.val v h) := by
      intro h1 v h2 h3 h4 h5
      unfold aop
      rw [if_pos hok, h4, h5]
      simp only
      rw [if_pos (by simp [notSelect, ho] at h1 ⊢; exact h1), h3]
      simp only [h2, if_true]
    split at hs
    case h_3 => cases hs
    · rename_i k a k' d hx hy
      split at hs
      case isFalse => cases hs
      rename_i hkk
      subst hkk
      cases hs
      obtain ⟨h1, h2⟩ := hp
      refine hcl (by simp [ho, Op.operands, hx, hy, closed]) _ rfl ?_ (by simp [ho, aptr]) (by simp [ho, aeff, eqOp])
      simp [execOp, ho, hx, hy, eqGuard, binOp, Op.intDiv, h1, h2]
      rfl
    · rename_i k a k' d hx hy
      split at hs
      case isFalse => cases hs
      rename_i hkk
      subst hkk
      cases hs
      obtain ⟨h1, h2⟩ := hp
      refine hcl (by simp [ho, Op.operands, hx, hy, closed]) _ rfl ?_ (by simp [ho, aptr]) (by simp [ho, aeff, eqOp])
      simp [execOp, ho, hx, hy, eqGuard, binOp, Op.intDiv, h1, h2]
      rfl
  | cat s =>
    simp only at hs
    split at hs
    case h_2 => cases hs
    rename_i t x y t2 ho
    split at hs
    case h_2 => cases hs
    rename_i a b hx hy
    cases hs
    obtain ⟨h1, h2⟩ := hp
    unfold aop
    rw [if_pos hok, show aptr P h e o.op = none by simp [ho, aptr], show aeff P h e o.op = none by simp [ho, aeff, eqOp]]
    simp only
    rw [if_pos (by simp [notSelect, ho, Op.operands, hx, hy, closed])]
    have h3 : ¬ ((a.size + b.size : Nat) : Int) > IntKind.i64.max := by
      have : IntKind.i64.max = 9223372036854775807 := by decide
      rw [this]; omega
    have : pureRun P (execOp e o) = some (.value (.string s)) := by
      simp only [execOp, ho, hx, hy, eqGuard, binOp, Op.stringOp]
      rw [if_neg h3, h2]
      rfl
    rw [this]
    rfl
  | sidx b =>
    simp only at hs
    split at hs
    case h_2 => cases hs
    rename_i t x i ho
    split at hs
    case h_2 => cases hs
    rename_i s _ k hu hx hi
    cases hs
    obtain ⟨h1, h2⟩ := hp
    unfold aop
    rw [if_pos hok, show aptr P h e o.op = none by simp [ho, aptr], show aeff P h e o.op = none by simp [ho, aeff, eqOp]]
    simp only
    rw [if_pos (by simp [notSelect, ho, Op.operands, hx, hi, closed])]
    have : pureRun P (execOp e o) = some (.value (.int .u8 b.toNat)) := by
      simp only [execOp, ho, hx, hi, Instr.index, asIntOf, bind_assoc, pure_bind]
      rw [pureRun_underlying hu]
      simp only [if_pos h1, h2, pure_bind]
      rfl
    rw [this]
    rfl
  | sslc r =>
    simp only at hs
    split at hs
    case h_2 => cases hs
    rename_i t x lo hi ho
    split at hs
    case h_2 => cases hs
    rename_i s hu hx
    split at hs
    case h_2 => cases hs
    rename_i l u hl hh
    cases hs
    obtain ⟨h1, h2, h3, h4⟩ := hp
    unfold aop
    rw [if_pos hok, show aptr P h e o.op = none by simp [ho, aptr, hu, hx], show aeff P h e o.op = none by simp [ho, aeff, hx]]
    simp only
    have hcl : ∀ (d z : Int) (q : Option Operand), numO e d q = some z → ∀ y, q = some y → closed (e y) = true ∧ ∃ k, e y = .int k z := by
      rintro d z q hq y rfl
      simp only [numO] at hq
      split at hq
      · rename_i k n hy
        cases hq
        rw [hy]
        exact ⟨rfl, _, rfl⟩
      · cases hq
    rw [if_pos (by
      simp only [notSelect, ho, Op.operands, Bool.true_and]
      rw [Array.all_eq_true_iff_forall_mem]
      intro y hy
      simp at hy
      rcases hy with rfl | hy | hy
      · rw [hx]; rfl
      · exact (hcl _ _ _ hl y hy).1
      · exact (hcl _ _ _ hh y hy).1)]
    have hb : ∀ (y : Operand) (k : IntKind) (z : Int) (m : Nat) (c : BoundsCode), e y = .int k z → 0 ≤ z → z ≤ m → Instr.sliceBound (e y) m c = pure z.toNat := by
      intro y k z m c hy g1 g2
      simp only [Instr.sliceBound, hy, asIntOf, pure_bind, if_pos (And.intro g1 g2)]
    have hlo : (lo = none ∧ l = 0) ∨ ∃ y, lo = some y := by
      cases lo with
      | none => simp only [numO] at hl; cases hl; exact .inl ⟨rfl, rfl⟩
      | some y => exact .inr ⟨y, rfl⟩
    have hhi : (hi = none ∧ u = s.size) ∨ ∃ y, hi = some y := by
      cases hi with
      | none => simp only [numO] at hh; cases hh; exact .inl ⟨rfl, rfl⟩
      | some y => exact .inr ⟨y, rfl⟩
    have hsb : Instr.sliceBounds false s.size s.size (lo.map e) (hi.map e) none = pure (l.toNat, u.toNat, s.size) := by
      have e1 : (u.toNat : Int) = u := Int.toNat_of_nonneg (by omega)
      rcases hhi with ⟨rfl, rfl⟩ | ⟨y, rfl⟩
      · rcases hlo with ⟨rfl, rfl⟩ | ⟨z, rfl⟩
        · rfl
        · obtain ⟨_, k, hk⟩ := hcl _ _ _ hl z rfl
          simp only [Instr.sliceBounds, Option.map_none, Option.map_some, pure_bind, hb z k l _ _ hk h1 h2]
          rfl
      · obtain ⟨_, k2, hk2⟩ := hcl _ _ _ hh y rfl
        rcases hlo with ⟨rfl, rfl⟩ | ⟨z, rfl⟩
        · simp only [Instr.sliceBounds, Option.map_none, Option.map_some, pure_bind, hb y k2 u _ _ hk2 (by omega) h3]
          rfl
        · obtain ⟨_, k, hk⟩ := hcl _ _ _ hl z rfl
          simp only [Instr.sliceBounds, Option.map_some, pure_bind, hb y k2 u _ _ hk2 (by omega) h3, hb z k l u.toNat _ hk h1 (by omega)]
    have : pureRun P (execOp e o) = some (.value (.string r)) := by
      simp only [execOp, ho, hx, Instr.sliceAt, bind_assoc]
      rw [pureRun_underlying hu]
      simp only [Option.map_none, Instr.slice, bind_assoc]
      rw [pureRun_underlying hu]
      simp only [Option.isSome_none, Bool.false_eq_true, if_false, pure_bind, hsb, h4]
      rfl
    rw [this]
    rfl
  | cpy k c' =>
    simp only at hs
    split at hs
    case h_2 => cases hs
    rename_i args ts ho
    split at hs
    case h_2 => cases hs
    rename_i t u d x hts hargs
    split at hs
    case h_2 => cases hs
    rename_i el db dof dLen _ sb sof m _ hu hd hx
    split at hs
    case h_2 => cases hs
    rename_i cs el' op ss _ _ _ hsz hgd hgs
    cases hs
    obtain ⟨h1, h2, h3, h4, h5⟩ := hp
    unfold aop
    rw [if_pos hok]
    have hac : acells h ⟨sb, sof, none⟩ m = some ((ss.drop sof).take m) := by
      unfold acells
      simp only [hgs, if_pos h1]
    have hlen : (((ss.drop sof).take m).take k).length = k := by
      simp only [List.length_take, List.length_drop]
      have : k ≤ m := by rw [← h2]; exact Nat.min_le_left ..
      omega
    have hsr : asrc h 1 (e x) = some (m, (ss.drop sof).take m) := by
      rw [hx]
      simp only [asrc, Nat.mul_one, hac, Option.map_some]
    have hcp : acopy P h t (e d) (e x) = some (.int .i64 k, h.put db (some (.cells c' el' op false))) := by
      unfold acopy
      simp only [hu, hsz, hd, hsr, hgd, h2, Nat.mul_one]
      rw [if_pos ⟨by rw [hlen]; exact h3, trivial, h4⟩, h5]
    simp only [ho, aptr, aeff, hts, hargs, hcp, pv, Option.map_some]
  | nxtE =>
    simp only at hs
    split at hs
    case h_2 => cases hs
    rename_i x ho
    split at hs
    case h_2 => cases hs
    rename_i r _ hx
    split at hs
    case h_2 => cases hs
    rename_i s pos hg
    cases hs
    unfold aop
    rw [if_pos hok]
    simp only [ho, aptr, aeff, hx, anext, hg, if_neg hp, pv, Option.map_some, if_true]
  | nxtC c w p =>
    simp only at hs
    split at hs
    case h_2 => cases hs
    rename_i x ho
    split at hs
    case h_2 => cases hs
    rename_i r _ hx
    split at hs
    case h_2 => cases hs
    rename_i s pos hg
    cases hs
    obtain ⟨h1, h2, h3⟩ := hp
    unfold aop
    rw [if_pos hok]
    simp only [ho, aptr, aeff, hx, anext, hg, if_pos h1, h2, h3, pv, Option.map_some, if_true]
  | b2s r =>
    simp only at hs
    split at hs
    case h_2 => cases hs
    rename_i src dst x ho
    split at hs
    case h_2 => cases hs
    rename_i el ab ao n _ hu1 hu2 hx
    split at hs
    case h_2 => cases hs
    rename_i c _ _ _ hu3 hg
    cases hs
    obtain ⟨h1, h2⟩ := hp
    unfold aop
    rw [if_pos hok]
    have hc : acells h ⟨ab, ao, none⟩ n = some ((c.drop ao).take n) := by
      unfold acells
      simp only [hg, if_pos h1]
    obtain ⟨ns, h3, h4⟩ := Option.map_eq_some_iff.1 h2
    simp only [ho, aptr, aeff, abytes, hu1, hu2, hx, hu3, hc, h3, Option.map_some, pv, h4]
  | appI l' c' =>
    simp only at hs
    split at hs
    case h_2 => cases hs
    rename_i args ts ho
    split at hs
    case h_2 => cases hs
    rename_i t u d x hts hargs
    split at hs
    case h_2 => cases hs
    rename_i el du hu1 hu2
    split at hs
    case h_2 => cases hs
    rename_i i db dof len c hst hi hd
    split at hs
    case h_2 => cases hs
    rename_i z n news cs el' hz hsrc hg
    split at hs
    case isFalse => cases hs
    rename_i hq
    cases hs
    obtain ⟨h1, h2, h3, h4, h5, h6⟩ := hp
    unfold aop
    rw [if_pos hok]
    simp only [ho, aptr, aeff, hts, hargs, aappend, hu1, hu2, hst, hi, hz, hsrc, hd, hg]
    rw [if_pos ⟨hq.1, hq.2.1, hq.2.2.1⟩, if_pos ⟨by rw [h1]; exact h2, by omega⟩, if_pos (by omega), if_pos ⟨h5, trivial, hq.2.2.2, trivial⟩, h6, h1]
    rfl
  | appG l' c' =>
    simp only at hs
    split at hs
    case h_2 => cases hs
    rename_i args ts ho
    split at hs
    case h_2 => cases hs
    rename_i t u d x hts hargs
    split at hs
    case h_2 => cases hs
    rename_i el du hu1 hu2
    split at hs
    case h_2 => cases hs
    rename_i i db len hst hi hd
    split at hs
    case h_2 => cases hs
    rename_i z n news cs el' sz hz hsrc hg
    split at hs
    case isFalse => cases hs
    rename_i hq
    cases hs
    obtain ⟨h1, h2, h3, h4, h5⟩ := hp
    unfold aop
    rw [if_pos hok]
    simp only [ho, aptr, aeff, hts, hargs, aappend, hu1, hu2, hst, hi, hz, hsrc, hd, hg]
    rw [if_pos ⟨hq.1, hq.2.1, hq.2.2.1⟩, if_pos ⟨by rw [h1]; exact h2, by omega⟩, if_neg (show ¬ bigC ≤ 0 by decide), if_pos ⟨trivial, trivial, hq.2.2.2.1, hq.2.2.2.2.1, trivial, h4, hq.2.2.2.2.2⟩, h5, h1]
    rfl
  | slo len =>
    simp only at hs
    split at hs
    case h_2 => cases hs
    rename_i t x hi ho
    split at hs
    case h_2 => cases hs
    rename_i el ab ao n hu hx
    split at hs
    case h_2 => cases hs
    rename_i cs el' sz ro s u hg hsz hhi
    split at hs
    case isFalse => cases hs
    rename_i hq
    cases hs
    obtain ⟨h1, h2, h3⟩ := hp
    obtain ⟨rfl, hq2⟩ := hq
    have hopn : h.opn ab = some (some sz) := by unfold AH.opn; rw [hg]
    have hoc : h.ocap ab = some (sz, cs.length) := by unfold AH.ocap; rw [hg]
    have hlo : numO e 0 none = some 0 := rfl
    have hz : aslo cs.length ⟨ab, ao, none⟩ 0 sz 0 u none = some (.slice (some ⟨ab, ao, none⟩) len 0) := by
      unfold aslo
      simp only
      rw [if_neg (show ¬ bigC ≤ 0 by decide), if_pos ⟨Int.le_refl _, h1, by rw [Nat.zero_add]; exact h2, .inr trivial, by decide⟩]
      have : (u - 0).toNat = len := by rw [Int.sub_zero]; exact h3
      rw [this]
      simp [Addr.add]
    unfold aop
    rw [if_pos hok]
    simp only [ho, aptr, hu, hx, hopn, hsz, hlo, hhi, hoc, Option.map_none, hz]
    rw [if_pos ⟨trivial, hq2, by intro q; cases q⟩]

  | appF l' c' =>
    simp only at hs
    split at hs
    case h_2 => cases hs
    rename_i args ts ho
    split at hs
    case h_2 => cases hs
    rename_i t u d x hts hargs
    split at hs
    case h_2 => cases hs
    rename_i el du hu1 hu2
    split at hs
    case h_2 => cases hs
    rename_i i db len cp xb n q hst hi hd hx
    split at hs
    case h_2 => cases hs
    rename_i z cs q1 q2 ds q3 q4 q5 hz hg hgx
    split at hs
    case isFalse => cases hs
    rename_i hq
    cases hs
    obtain ⟨h1, h2, h3, h4, h5, h6, h7⟩ := hp
    have ha : acells h ⟨xb, 0, none⟩ (n * i.size) = some (ds.take (n * i.size)) := by
      unfold acells
      simp only [hgx, Nat.zero_add, if_pos h6, List.drop_zero]
    have hb : acells h ⟨db, 0, none⟩ (len * i.size) = some (cs.take (len * i.size)) := by
      unfold acells
      simp only [hg, Nat.zero_add, if_pos h5, List.drop_zero]
    unfold aop
    rw [if_pos hok]
    simp only [ho, aptr, aeff, hts, hargs, aappend, hu1, hu2, hst, hi, hz, asrc, hd, hx, ha, Option.map_some, hg]
    rw [if_pos ⟨hq.1, hq.2.1, hq.2.2⟩, if_pos ⟨by rw [h1]; exact h2, by omega⟩, if_neg (by omega), hb]
    simp only [h7, h1]
    rfl
  | app0 =>
    simp only at hs
    split at hs
    case h_2 => cases hs
    rename_i args ts ho
    split at hs
    case h_2 => cases hs
    rename_i t u d x hts hargs
    split at hs
    case h_2 => cases hs
    rename_i el du hu1 hu2
    split at hs
    case h_2 => cases hs
    rename_i i db len cp xb n q hst hi hd hx
    split at hs
    case h_2 => cases hs
    rename_i z cs q1 ds q3 q4 q5 hz hg hgx
    split at hs
    case isFalse => cases hs
    rename_i hq
    cases hs
    obtain ⟨h1, h2, h3, h4, h5⟩ := hp
    subst h1
    have ha : acells h ⟨xb, 0, none⟩ (0 * i.size) = some [] := by
      unfold acells
      simp only [hgx, Nat.zero_mul, Nat.zero_add, Nat.zero_le, if_true, List.drop_zero, List.take_zero]
    have hl : lspl cs (0 + len * i.size) [] = cs := by simp [lspl]
    unfold aop
    rw [if_pos hok]
    simp only [ho, aptr, aeff, hts, hargs, aappend, hu1, hu2, hst, hi, hz, asrc, hd, hx, ha, Option.map_some, hg]
    rw [if_pos ⟨hq.1, hq.2.1, hq.2.2⟩, if_pos ⟨h2, by omega⟩, if_pos (by omega), if_pos ⟨by simpa using h5, trivial, rfl, trivial⟩, hl]
    rfl

  | eqA b =>
    simp only at hs
    split at hs
    case h_2 => cases hs
    rename_i t x y r ho
    split at hs
    case h_2 => cases hs
    rename_i len el xs ys hu hx hy
    split at hs
    case h_2 => cases hs
    rename_i k hel
    split at hs
    case isFalse => cases hs
    rename_i hq
    cases hs
    obtain ⟨h1, h2, h3, h4, h5, h6, h7, h8⟩ := hq
    unfold aop
    rw [if_pos hok]
    rw [Option.isNone_iff_eq_none.1 h7, Option.isNone_iff_eq_none.1 h8]
    have hcl : (notSelect o.op && o.op.operands.all (fun x => closed (e x))) = true := by
      rw [ho]
      simp [notSelect, Op.operands, hx, hy, closed]
      exact ⟨h5, h6⟩
    have hpr : pureRun P (execOp e o) = some (.value (.bool b)) := by
      subst hp
      have hg : pureRun P (eqGuard .eql t x y (.agg ⟨xs⟩) (.agg ⟨ys⟩)) = some () := by
        unfold eqGuard
        simp [pureRun, bind, Sem.bind, pure, program, h4]
      have he : pureRun P (binOp .eql t (.agg ⟨xs⟩) (.agg ⟨ys⟩)) = some (.bool (eqInts xs ys)) := by
        unfold binOp Op.equal
        simp only []
        rw [show Op.maxDepth = 9998 + 2 from rfl, pureRun_bind _ (equalIn_array (d := 9998) hu hel h1 h2 h3)]
        rfl
      unfold execOp
      rw [ho]
      simp only [hx, hy]
      have hb := pureRun_bind (P := P) (fun _ => binOp .eql t (.agg ⟨xs⟩) (.agg ⟨ys⟩)) hg
      rw [he] at hb
      exact pureRun_bind (P := P) (fun z => pure (Next.value z)) hb
    simp only [hcl, if_true, hpr]
    rfl

  | eqS b =>
    simp only at hs
    split at hs
    case h_2 => cases hs
    rename_i q t x y r ho
    split at hs
    case h_2 => cases hs
    rename_i s1 s2 t1 t2 hx hy
    split at hs
    case isFalse => cases hs
    rename_i hq
    cases hs
    obtain ⟨h0, h1, h8, h9, h10⟩ := hq
    unfold aop
    rw [if_pos hok]
    rw [Option.isNone_iff_eq_none.1 h9, Option.isNone_iff_eq_none.1 h10]
    have hcl : (notSelect o.op && o.op.operands.all (fun x => closed (e x))) = true := by
      rw [ho]
      simp [notSelect, Op.operands, hx, hy, closed, closedArr, closedL]
    have hpr : pureRun P (execOp e o) = some (.value (.bool b)) := by
      have hg : pureRun P (eqGuard q t x y (.agg ⟨[.string s1, .string s2]⟩) (.agg ⟨[.string t1, .string t2]⟩)) = some () := by
        unfold eqGuard
        cases q <;> simp [pureRun, bind, Sem.bind, pure, program, h8]
      have hE := equalIn_stIn (d := 9997) (a := s1) (b := s2) (c := t1) (e := t2) h1
      have he : pureRun P (binOp q t (.agg ⟨[.string s1, .string s2]⟩) (.agg ⟨[.string t1, .string t2]⟩)) = some (.bool b) := by
        cases q <;> first | (exfalso; revert h0; decide) | skip
        · unfold binOp Op.equal
          simp only []
          rw [show Op.maxDepth = 9997 + 3 from rfl, pureRun_bind _ hE, ← hp]
          rfl
        · unfold binOp Op.equal
          simp only []
          rw [show Op.maxDepth = 9997 + 3 from rfl, pureRun_bind _ hE, ← hp]
          rfl
      unfold execOp
      rw [ho]
      simp only [hx, hy]
      have hb := pureRun_bind (P := P) (fun _ => binOp q t (.agg ⟨[.string s1, .string s2]⟩) (.agg ⟨[.string t1, .string t2]⟩)) hg
      rw [he] at hb
      exact pureRun_bind (P := P) (fun z => pure (Next.value z)) hb
    simp only [hcl, if_true, hpr]
    rfl
end
end Go.AE
namespace Go.AE
open Go
def Rho.comp (ρ : Rho) (τ : Nat → Nat) : Rho := ⟨fun i => ρ.blk (τ i), fun i => ρ.cap (τ i), fun i => ρ.st (τ i)⟩
def mvA (τ : Nat → Nat) (a : Addr) : Addr := ⟨τ a.block, a.off, a.spot⟩
def mvF (τ : Nat → Nat) : Fn → Fn
  | .yield l => .yield (τ l)
  | f => f
mutual
def mv (τ : Nat → Nat) : Value → Value
  | .bool b => .bool b
  | .int k n => .int k n
  | .float k b => .float k b
  | .complex k a b => .complex k a b
  | .string s => .string s
  | .pointer none => .pointer none
  | .pointer (some a) => .pointer (some (mvA τ a))
  | .slice none n c => .slice none n c
  | .slice (some a) n c => .slice (some (mvA τ a)) n c
  | .map none => .map none
  | .map (some r) => .map (some (τ r))
  | .chan none => .chan none
  | .chan (some r) => .chan (some (τ r))
  | .func fn first cap => .func (mvF τ fn) (mvArr τ first) (mvArr τ cap)
  | .nilFunc => .nilFunc
  | .iface t v => .iface t (mv τ v)
  | .nilIface => .nilIface
  | .agg cs => .agg (mvArr τ cs)
  | .tuple cs => .tuple (mvArr τ cs)
def mvArr (τ : Nat → Nat) : Array Value → Array Value
  | ⟨l⟩ => ⟨mvL τ l⟩
def mvL (τ : Nat → Nat) : List Value → List Value
  | [] => []
  | v :: l => mv τ v :: mvL τ l
end
mutual
def good (ok : Nat → Bool) : Value → Bool
  | .bool _ | .int _ _ | .float _ _ | .complex _ _ _ | .string _ | .pointer none | .slice none _ _ | .map none | .chan none | .nilFunc | .nilIface => true
  | .pointer (some a) | .slice (some a) _ _ => ok a.block
  | .map (some r) => ok r
  | .chan (some _) => false
  | .func fn first cap => (match fn with | .yield l => ok l | _ => true) && (goodArr ok first && goodArr ok cap)
  | .iface _ v => good ok v
  | .agg cs | .tuple cs => goodArr ok cs
def goodArr (ok : Nat → Bool) : Array Value → Bool
  | ⟨l⟩ => goodL ok l
def goodL (ok : Nat → Bool) : List Value → Bool
  | [] => true
  | v :: l => good ok v && goodL ok l
end
theorem renA_comp (ρ : Rho) (τ : Nat → Nat) (a : Addr) : renA (ρ.comp τ) a = renA ρ (mvA τ a) := rfl
theorem renF_comp (ρ : Rho) (τ : Nat → Nat) (f : Fn) : renF (ρ.comp τ) f = renF ρ (mvF τ f) := by cases f <;> rfl
mutual
theorem ren_comp (ρ : Rho) (τ : Nat → Nat) : ∀ v, ren (ρ.comp τ) v = ren ρ (mv τ v)
  | .bool _ | .int _ _ | .float _ _ | .complex _ _ _ | .string _ | .pointer none | .slice none _ _ | .map none | .chan none | .nilFunc | .nilIface => by simp only [ren, mv]
  | .pointer (some a) => by simp only [ren, mv, renA_comp]
  | .slice (some a) n c => by simp only [ren, mv, renA_comp]; rfl
  | .map (some r) => by simp only [ren, mv]; rfl
  | .chan (some r) => by simp only [ren, mv]; rfl
  | .func fn first cap => by simp only [ren, mv, renF_comp, renArr_comp ρ τ first, renArr_comp ρ τ cap]
  | .iface t v => by simp only [ren, mv, ren_comp ρ τ v]
  | .agg cs => by simp only [ren, mv, renArr_comp ρ τ cs]
  | .tuple cs => by simp only [ren, mv, renArr_comp ρ τ cs]
theorem renArr_comp (ρ : Rho) (τ : Nat → Nat) : ∀ v, renArr (ρ.comp τ) v = renArr ρ (mvArr τ v)
  | ⟨l⟩ => by simp only [renArr, mvArr, renL_comp ρ τ l]
theorem renL_comp (ρ : Rho) (τ : Nat → Nat) : ∀ v, renL (ρ.comp τ) v = renL ρ (mvL τ v)
  | [] => by simp only [renL, mvL]
  | v :: l => by simp only [renL, mvL, ren_comp ρ τ v, renL_comp ρ τ l]
end
section
variable {ρ ρ' : Rho} {τ : Nat → Nat} {ok : Nat → Bool}
theorem renA_mv (h : ∀ i b, ok i = true → ρ.blk i = some b → ρ'.blk (τ i) = some b ∧ ρ'.cap (τ i) = ρ.cap i) {a b : Addr} (hk : ok a.block = true) (e : renA ρ a = some b) : renA ρ' (mvA τ a) = some b := by
  unfold renA at *
  split at e
  · rename_i b' h1 h2
    simp only [mvA, h1, (h _ _ hk h2).1]
    exact e
  · cases e
theorem renF_mv (h : ∀ i b, ok i = true → ρ.blk i = some b → ρ'.blk (τ i) = some b ∧ ρ'.cap (τ i) = ρ.cap i) {f g : Fn} (hk : (match f with | .yield l => ok l | _ => true) = true) (e : renF ρ f = some g) : renF ρ' (mvF τ f) = some g := by
  cases f <;> simp only [renF, mvF] at * <;> try exact e
  rename_i l
  obtain ⟨b, hb, rfl⟩ := Option.map_eq_some_iff.1 e
  simp [(h _ _ hk hb).1]
mutual
theorem ren_mv (h : ∀ i b, ok i = true → ρ.blk i = some b → ρ'.blk (τ i) = some b ∧ ρ'.cap (τ i) = ρ.cap i) : ∀ (v v' : Value), good ok v = true → ren ρ v = some v' → ren ρ' (mv τ v) = some v'
  | .bool _, _, _, e | .int _ _, _, _, e | .float _ _, _, _, e | .complex _ _ _, _, _, e | .string _, _, _, e | .pointer none, _, _, e | .slice none _ _, _, _, e | .map none, _, _, e | .chan none, _, _, e | .nilFunc, _, _, e | .nilIface, _, _, e => by
    simp only [ren, mv] at *; exact e
  | .chan (some _), _, hg, e => by simp [good] at hg
  | .pointer (some a), v', g, e => by
    simp only [ren, mv, good] at *
    obtain ⟨b, hb, rfl⟩ := Option.map_eq_some_iff.1 e
    simp [renA_mv h g hb]
  | .slice (some a) n c, v', g, e => by
    simp only [ren, mv, good] at *
    obtain ⟨b, hb, e⟩ := Option.bind_eq_some_iff.1 e
    rw [renA_mv h g hb]
    have hblk : ρ.blk a.block = some b.block := by
      unfold renA at hb
      split at hb
      · rename_i b' _ h2; cases hb; exact h2
      · cases hb
    have hc : renC ρ' (mvA τ a).block c = renC ρ a.block c := by
      unfold renC
      simp only [mvA, (h _ _ g hblk).2]
    simp only [Option.bind_some, hc]
    exact e
  | .map (some r), v', g, e => by
    simp only [ren, mv, good] at *
    obtain ⟨b, hb, rfl⟩ := Option.map_eq_some_iff.1 e
    simp [(h _ _ g hb).1]
  | .func fn first cap, v', g, e => by
    simp only [ren, mv, good, Bool.and_eq_true] at *
    obtain ⟨f', h1, e⟩ := Option.bind_eq_some_iff.1 e
    obtain ⟨a', h2, e⟩ := Option.bind_eq_some_iff.1 e
    obtain ⟨c', h3, rfl⟩ := Option.map_eq_some_iff.1 e
    simp [renF_mv h g.1 h1, renArr_mv h first a' g.2.1 h2, renArr_mv h cap c' g.2.2 h3]
  | .iface t v, v', g, e => by
    simp only [ren, mv, good] at *
    obtain ⟨b, hb, rfl⟩ := Option.map_eq_some_iff.1 e
    simp [ren_mv h v b g hb]
  | .agg cs, v', g, e => by
    simp only [ren, mv, good] at *
    obtain ⟨b, hb, rfl⟩ := Option.map_eq_some_iff.1 e
    simp [renArr_mv h cs b g hb]
  | .tuple cs, v', g, e => by
    simp only [ren, mv, good] at *
    obtain ⟨b, hb, rfl⟩ := Option.map_eq_some_iff.1 e
    simp [renArr_mv h cs b g hb]
theorem renArr_mv (h : ∀ i b, ok i = true → ρ.blk i = some b → ρ'.blk (τ i) = some b ∧ ρ'.cap (τ i) = ρ.cap i) : ∀ (v v' : Array Value), goodArr ok v = true → renArr ρ v = some v' → renArr ρ' (mvArr τ v) = some v'
  | ⟨l⟩, v', g, e => by
    simp only [renArr, mvArr, goodArr] at *
    obtain ⟨b, hb, rfl⟩ := Option.map_eq_some_iff.1 e
    simp [renL_mv h l b g hb]
theorem renL_mv (h : ∀ i b, ok i = true → ρ.blk i = some b → ρ'.blk (τ i) = some b ∧ ρ'.cap (τ i) = ρ.cap i) : ∀ (v v' : List Value), goodL ok v = true → renL ρ v = some v' → renL ρ' (mvL τ v) = some v'
  | [], v', _, e => by simp only [renL, mvL] at *; exact e
  | v :: l, v', g, e => by
    simp only [renL, mvL, goodL, Bool.and_eq_true] at *
    obtain ⟨b, hb, e⟩ := Option.bind_eq_some_iff.1 e
    obtain ⟨c, hc, rfl⟩ := Option.map_eq_some_iff.1 e
    simp [ren_mv h v b g.1 hb, renL_mv h l c g.2 hc]
end
end
def mvO (τ : Nat → Nat) : AObj → AObj
  | .cells c t o ro => .cells (mvL τ c) t o ro
  | o => o
def goodO (ok : Nat → Bool) : AObj → Bool
  | .cells c _ _ _ => goodL ok c
  | .iter _ _ => true
  | .win _ _ => true
  | _ => false
def plainO : AObj → Bool
  | .cells _ _ _ _ | .iter _ _ | .win _ _ => true
  | _ => false
theorem mvO_ro (τ : Nat → Nat) (o : AObj) : (mvO τ o).ro = o.ro := by cases o <;> rfl
theorem ObjR_comp {ρ : Rho} {τ : Nat → Nat} {i : Nat} {o : AObj} {x : Obj} (hp : plainO o = true) (h : ObjR ρ (τ i) (mvO τ o) x) : ObjR (ρ.comp τ) i o x := by
  cases o with
  | cells c t opn ro =>
    cases x <;> simp only [ObjR, mvO] at * <;> try exact h
    obtain ⟨h1, ⟨c', tail, h2, h3, h4⟩, h5, h6, h7⟩ := h
    exact ⟨h1, ⟨c', tail, h2, by rw [renL_comp]; exact h3, h4⟩, h5, h6, h7⟩
  | iter s p => cases x <;> simp only [ObjR, mvO] at * <;> exact h
  | loop l => cases hp
  | defd ds => cases hp
  | mp es v => cases hp
  | mit m v ks => cases hp
  | win off c => cases x <;> simp only [ObjR, mvO] at * <;> exact h
theorem ObjR_mv {ρ ρ' : Rho} {τ : Nat → Nat} {ok : Nat → Bool} (h : ∀ i b, ok i = true → ρ.blk i = some b → ρ'.blk (τ i) = some b ∧ ρ'.cap (τ i) = ρ.cap i) {i b : Nat} (hi : ok i = true) (hb : ρ.blk i = some b) {o : AObj} {x : Obj} (hg : goodO ok o = true) (e : ObjR ρ i o x) : ObjR ρ' (τ i) (mvO τ o) x := by
  cases o with
  | cells c t opn ro =>
    cases x <;> simp only [ObjR, mvO, goodO] at * <;> try exact e
    obtain ⟨h1, ⟨c', tail, h2, h3, h4⟩, h5, h6, h7⟩ := e
    exact ⟨h1, ⟨c', tail, h2, renL_mv h _ _ hg h3, h4⟩, h5, by rw [(h _ _ hi hb).2]; exact h6, by rw [(h _ _ hi hb).2]; exact h7⟩
  | iter s p => cases x <;> simp only [ObjR, mvO] at * <;> exact e
  | loop l => cases hg
  | defd ds => cases hg
  | mp es v => cases hg
  | mit m v ks => cases hg
  | win off c =>
    cases x <;> simp only [ObjR, mvO] at * <;> try exact e
    exact ⟨e.1, e.2.1, by rw [(h _ _ hi hb).2]; exact e.2.2⟩
theorem pushAll_next : ∀ (l : List AObj) (h : AH), (pushAll h l).next = h.next + l.length
  | [], _ => rfl
  | o :: l, h => by
    have hn : (h.push o).next = h.next + 1 := rfl
    have hl : (o :: l).length = l.length + 1 := rfl
    rw [pushAll, pushAll_next l, hn, hl]; omega
theorem putAll_next : ∀ (l : List (Nat × Option AObj)) (h : AH), (putAll h l).next = h.next
  | [], _ => rfl
  | o :: l, h => by rw [putAll, putAll_next l]; rfl
theorem pushAll_get : ∀ (l : List AObj) (h : AH) (k : Nat), (pushAll h l).get k = if h.next ≤ k ∧ k < h.next + l.length then l[k - h.next]? else h.get k
  | [], h, k => by
    rw [if_neg (by simp)]; rfl
  | o :: l, h, k => by
    have hn : (h.push o).next = h.next + 1 := rfl
    have hl : (o :: l).length = l.length + 1 := rfl
    rw [pushAll, pushAll_get l, hn, hl, AH.get_push]
    by_cases h1 : k = h.next
    · subst h1
      have a : ¬ (h.next + 1 ≤ h.next ∧ h.next < h.next + 1 + l.length) := by omega
      have b : h.next ≤ h.next ∧ h.next < h.next + (l.length + 1) := by omega
      rw [if_neg a, if_pos rfl, if_pos b]
      simp
    · by_cases h2 : h.next + 1 ≤ k ∧ k < h.next + 1 + l.length
      · have b : h.next ≤ k ∧ k < h.next + (l.length + 1) := by omega
        rw [if_pos h2, if_pos b]
        have : k - h.next = (k - (h.next + 1)) + 1 := by omega
        rw [this, List.getElem?_cons_succ]
      · have b : ¬ (h.next ≤ k ∧ k < h.next + (l.length + 1)) := by omega
        rw [if_neg h2, if_neg b, if_neg h1]
theorem putAll_out : ∀ (l : List (Nat × Option AObj)) (h : AH) (k : Nat), (∀ x ∈ l, x.1 ≠ k) → (putAll h l).get k = h.get k
  | [], _, _, _ => rfl
  | x :: l, h, k, hn => by
    rw [putAll, putAll_out l _ k fun y hy => hn y (List.mem_cons_of_mem _ hy), AH.get_put, if_neg]
    exact fun q => hn x (List.mem_cons_self ..) q.symm
theorem putAll_in : ∀ (l : List (Nat × Option AObj)) (h : AH) (k : Nat) (o : Option AObj), (k, o) ∈ l → (∀ x ∈ l, x.1 = k → x.2 = o) → (putAll h l).get k = o
  | x :: l, h, k, o, hm, hu => by
    rw [putAll]
    by_cases hl : ∃ y ∈ l, y.1 = k
    · obtain ⟨y, hy, hk⟩ := hl
      have := hu y (List.mem_cons_of_mem _ hy) hk
      obtain ⟨a, b⟩ := y
      simp only at hk this
      subst hk; subst this
      exact putAll_in l _ _ _ hy fun z hz => hu z (List.mem_cons_of_mem _ hz)
    · have hl' : ∀ y ∈ l, y.1 ≠ k := fun y hy q => hl ⟨y, hy, q⟩
      rw [putAll_out l _ k hl', AH.get_put]
      rcases List.mem_cons.1 hm with rfl | hm
      · simp
      · exact absurd rfl (hl' _ hm)
def tau' (nc : Nat) (τ : Nat → Nat) (keep : List Nat) (n i : Nat) : Nat := if Nat.blt i nc then τ i else n + keep.idxOf i
def okI (nc : Nat) (keep : List Nat) (i : Nat) : Bool := Nat.blt i nc || keep.contains i
theorem blt_true {a b : Nat} (h : a < b) : Nat.blt a b = true := by simpa [Nat.blt_eq] using h
theorem blt_false {a b : Nat} (h : ¬ a < b) : Nat.blt a b = false := by
  cases q : Nat.blt a b
  · rfl
  · rw [Nat.blt_eq] at q; exact absurd q h
theorem fspec_of_spec {P : Program} {G : Nat} {f : FuncId} {args : Array Value} {nc : Nat} {L : List (Nat × AObj)} {v : Value} {hf : AH} (S : CSp P G f args (mkH nc L) v hf) (τ : Nat → Nat) (keep : List Nat) (n : Nat)
    (hG : G ≤ nc) (hGn : G ≤ n) (hg : ∀ g, g < G → τ g = g) (hge : ∀ i, nc ≤ i → n ≤ τ i)
    (hL : ∀ x ∈ L, plainO x.2 = true ∧ x.1 < nc ∧ τ x.1 < n) (hinj : ∀ x ∈ L, ∀ y ∈ L, τ x.1 = τ y.1 → x.1 = y.1)
    (hv : good (okI nc keep) v = true) (hw : ∀ x ∈ L, ∀ o, hf.get x.1 = some o → goodO (okI nc keep) o = true)
    (hk : keep.Nodup) (hkn : ∀ i ∈ keep, nc ≤ i ∧ ∃ o, hf.get i = some o ∧ goodO (okI nc keep) o = true ∧ o.ro = false) :
    FSp P G f (mvArr τ args) n (L.map fun x => (τ x.1, mvO τ x.2)) (mv (tau' nc τ keep n) v) (L.map fun x => (τ x.1, (hf.get x.1).map (mvO (tau' nc τ keep n)))) (keep.filterMap fun i => (hf.get i).map (mvO (tau' nc τ keep n))) := by
  intro H hn hr ρ w args' HW ha
  subst hn
  have hcget : ∀ i o, (mkH nc L).get i = some o → (i, o) ∈ L := fun i o e => by
    rcases mkH_get L _ i o e with q | q
    · exact q
    · simp [AH.get, T.get] at q
  have hHget : ∀ x ∈ L, H.get (τ x.1) = some (mvO τ x.2) := fun x hx => hr _ (List.mem_map.2 ⟨x, hx, rfl⟩)
  have hcn : (mkH nc L).next = nc := mkH_next nc L _ rfl
  have W1 : WR G (ρ.comp τ) (mkH nc L) w := by
    refine ⟨fun i o e => ?_, fun i hi => ?_, fun i j o p b e1 e2 h1 h2 => ?_, fun g q => ?_, by rw [hcn]; exact hG⟩
    · have hm := hcget i o e
      obtain ⟨b, x, h1, h2, h3⟩ := HW.obj _ _ (hHget _ hm)
      exact ⟨b, x, h1, h2, ObjR_comp (hL _ hm).1 h3⟩
    · rw [hcn] at hi
      exact HW.fresh _ (hge i hi)
    · have m1 := hcget i o e1
      have m2 := hcget j p e2
      exact hinj _ m1 _ m2 (HW.inj _ _ _ _ b (hHget _ m1) (hHget _ m2) h1 h2)
    · simp only [Rho.comp, hg g q]; exact HW.glob g q
  refine (S (ρ.comp τ) w args' W1 (by rw [renArr_comp]; exact ha)).mono ?_
  rintro e w' ⟨ρf, v', rfl, W2, E, hv'⟩

  let ρ' : Rho := ⟨fun k => if k < H.next then ρ.blk k else (keep[k - H.next]?).bind ρf.blk, fun k => if k < H.next then ρ.cap k else (keep[k - H.next]?).bind ρf.cap, ρ.st⟩
  have hlt : ∀ k, k < H.next → ρ'.blk k = ρ.blk k ∧ ρ'.cap k = ρ.cap k := fun k q => by simp [ρ', q]
  have hkp : ∀ j i, keep[j]? = some i → ρ'.blk (H.next + j) = ρf.blk i ∧ ρ'.cap (H.next + j) = ρf.cap i := fun j i q => by
    have : ¬ H.next + j < H.next := by omega
    simp [ρ', q, this]
  have hle : ρ.le ρ' := fun k b hb => by
    obtain ⟨h1, h2⟩ := hlt k (HW.next_gt hb)
    exact ⟨h1.trans hb, h2, rfl⟩
  have hlow : ∀ i, i < nc → ρf.blk i = ρ.blk (τ i) := fun i hi => E.low i (by rw [hcn]; exact hi)
  have hcap : ∀ i b, i < nc → ρ.blk (τ i) = some b → ρf.cap i = ρ.cap (τ i) := fun i b _ hb => (E.le i b hb).2.1
  have hmv : ∀ i b, okI nc keep i = true → ρf.blk i = some b → ρ'.blk (tau' nc τ keep H.next i) = some b ∧ ρ'.cap (tau' nc τ keep H.next i) = ρf.cap i := by
    intro i b hi hb
    by_cases q : i < nc
    · have hb' : ρ.blk (τ i) = some b := by rw [← hlow i q]; exact hb
      obtain ⟨h1, h2⟩ := hlt _ (HW.next_gt hb')
      simp only [tau', blt_true q, if_true]
      exact ⟨h1.trans hb', h2.trans (hcap i b q hb').symm⟩
    · have hm : i ∈ keep := by
        simp only [okI, blt_false q, Bool.false_or] at hi
        simpa using hi
      have hidx : keep[keep.idxOf i]? = some i := by
        rw [List.getElem?_eq_getElem (List.idxOf_lt_length_of_mem hm), List.getElem_idxOf]
      obtain ⟨h1, h2⟩ := hkp _ _ hidx
      simp only [tau', blt_false q, Bool.false_eq_true, if_false]
      exact ⟨h1.trans hb, h2⟩

  have hnews : keep.filterMap (fun i => (hf.get i).map (mvO (tau' nc τ keep H.next))) = keep.map fun i => mvO (tau' nc τ keep H.next) ((hf.get i).getD (.iter ByteArray.empty 0)) := by
    have : ∀ l : List Nat, (∀ i ∈ l, ∃ o, hf.get i = some o) → l.filterMap (fun i => (hf.get i).map (mvO (tau' nc τ keep H.next))) = l.map fun i => mvO (tau' nc τ keep H.next) ((hf.get i).getD (.iter ByteArray.empty 0)) := by
      intro l
      induction l with
      | nil => intro _; rfl
      | cons i l ih =>
        intro hl
        obtain ⟨o, ho⟩ := hl i (List.mem_cons_self ..)
        simp only [List.filterMap_cons, ho, Option.map_some, List.map_cons, Option.getD_some]
        rw [ih fun j hj => hl j (List.mem_cons_of_mem _ hj)]
    exact this keep fun i hi => let ⟨_, o, ho, _⟩ := hkn i hi; ⟨o, ho⟩
  rw [hnews]
  generalize hF : pushAll (putAll H (L.map fun x => (τ x.1, (hf.get x.1).map (mvO (tau' nc τ keep H.next))))) (keep.map fun i => mvO (tau' nc τ keep H.next) ((hf.get i).getD (.iter ByteArray.empty 0))) = F
  have hFn : F.next = H.next + keep.length := by rw [← hF, pushAll_next, putAll_next]; simp

  have hFget : ∀ k o, F.get k = some o → (k < H.next ∧ ((∃ x ∈ L, τ x.1 = k ∧ ∃ o2, hf.get x.1 = some o2 ∧ o = mvO (tau' nc τ keep H.next) o2) ∨ ((∀ x ∈ L, τ x.1 ≠ k) ∧ H.get k = some o))) ∨
      (∃ j i o2, k = H.next + j ∧ keep[j]? = some i ∧ hf.get i = some o2 ∧ o = mvO (tau' nc τ keep H.next) o2) := by
    intro k o e
    rw [← hF, pushAll_get, putAll_next] at e
    split at e
    · rename_i q
      right
      have hj : k - H.next < keep.length := by simp at q; omega
      refine ⟨k - H.next, keep[k - H.next], ((hf.get keep[k - H.next]).getD (.iter ByteArray.empty 0)), by omega, List.getElem?_eq_getElem hj, ?_, ?_⟩
      · obtain ⟨_, o2, ho2, _⟩ := hkn keep[k - H.next] (List.getElem_mem hj)
        rw [ho2]; rfl
      · rw [List.getElem?_map, List.getElem?_eq_getElem hj] at e
        simpa using e.symm
    · rename_i q
      left
      by_cases hx : ∃ x ∈ L, τ x.1 = k
      · obtain ⟨x, hx, rfl⟩ := hx
        refine ⟨(hL x hx).2.2, .inl ⟨x, hx, rfl, ?_⟩⟩
        rw [putAll_in _ _ _ ((hf.get x.1).map (mvO (tau' nc τ keep H.next))) (List.mem_map.2 ⟨x, hx, rfl⟩) fun z hz hzk => by
          obtain ⟨y, hy, rfl⟩ := List.mem_map.1 hz
          simp only at hzk ⊢
          rw [hinj y hy x hx hzk]] at e
        obtain ⟨o2, h1, h2⟩ := Option.map_eq_some_iff.1 e
        exact ⟨o2, h1, h2.symm⟩
      · have hx' : ∀ x ∈ L, τ x.1 ≠ k := fun x h1 h2 => hx ⟨x, h1, h2⟩
        rw [putAll_out _ _ _ fun z hz => by obtain ⟨y, hy, rfl⟩ := List.mem_map.1 hz; exact hx' y hy] at e
        obtain ⟨b, x, h1, _⟩ := HW.obj _ _ e
        exact ⟨HW.next_gt h1, .inr ⟨hx', e⟩⟩
  have hset : ∀ b, Wset (ρ.comp τ) (mkH nc L) b → ∃ x ∈ L, H.get (τ x.1) = some (mvO τ x.2) ∧ (mvO τ x.2).ro = false ∧ ρ.blk (τ x.1) = some b ∧ x.1 < nc := by
    rintro b ⟨i, o, h1, h2, h3⟩
    have hm := hcget i o h1
    exact ⟨(i, o), hm, hHget _ hm, by rw [mvO_ro]; exact h2, h3, (hL _ hm).2.1⟩
  refine ⟨ρ', v', rfl, ⟨?_, ?_, ?_, ?_, ?_⟩, ⟨hle, ?_, ?_, E.size, ?_, ?_, E.tape, E.os, E.output⟩, ren_mv hmv _ _ hv hv'⟩
  ·
    intro k o e
    rcases hFget k o e with ⟨hk1, ⟨x, hx, rfl, o2, h1, rfl⟩ | ⟨hno, h1⟩⟩ | ⟨j, i, o2, rfl, h1, h2, rfl⟩
    · obtain ⟨b, y, q1, q2, q3⟩ := W2.obj _ _ h1
      have hi : okI nc keep x.1 = true := by simp [okI, blt_true (hL x hx).2.1]
      have ht : tau' nc τ keep H.next x.1 = τ x.1 := by simp [tau', blt_true (hL x hx).2.1]
      refine ⟨b, y, ?_, q2, ?_⟩
      · rw [← ht]; exact (hmv _ _ hi q1).1
      · have := ObjR_mv hmv hi q1 (hw x hx o2 h1) q3
        rw [ht] at this
        exact this
    · obtain ⟨b, y, q1, q2, q3⟩ := HW.obj _ _ h1
      refine ⟨b, y, (hle _ _ q1).1, ?_, ObjR.mono hle q1 q3⟩
      rw [E.pres b (HW.lt h1 q1) fun hW => ?_]
      · exact q2
      · obtain ⟨x, hx, g1, _, g3, _⟩ := hset b hW
        exact hno x hx (HW.inj _ _ _ _ b g1 h1 g3 q1)
    · obtain ⟨b, y, q1, q2, q3⟩ := W2.obj _ _ h2
      have hm : i ∈ keep := List.mem_of_getElem? h1
      have hi : okI nc keep i = true := by simp [okI, hm]
      have hidx : keep.idxOf i = j := by
        obtain ⟨hj, rfl⟩ := List.getElem?_eq_some_iff.1 h1
        exact hk.idxOf_getElem j hj
      have ht : tau' nc τ keep H.next i = H.next + j := by
        have := (hkn i hm).1
        simp [tau', blt_false (Nat.not_lt.2 this), hidx]
      obtain ⟨_, o3, g1, g2, _⟩ := hkn i hm
      rw [h2] at g1; cases g1
      refine ⟨b, y, (hkp j i h1).1.trans q1, q2, ?_⟩
      have := ObjR_mv hmv hi q1 g2 q3
      rw [ht] at this
      exact this
  ·
    intro k hk1
    rw [hFn] at hk1
    have h1 : ¬ k < H.next := by omega
    have h2 : keep[k - H.next]? = none := List.getElem?_eq_none (by omega)
    simp [ρ', h1, h2]
  ·
    have hold : ∀ (k : Nat) (o : AObj), F.get k = some o → k < H.next → ∃ o0, H.get k = some o0 := by
      intro k o e hk1
      rcases hFget k o e with ⟨_, ⟨x, hx, rfl, _⟩ | ⟨_, h1⟩⟩ | ⟨j, i, o2, rfl, _⟩
      · exact ⟨_, hHget x hx⟩
      · exact ⟨_, h1⟩
      · omega
    have hmix : ∀ (k : Nat) (o : AObj) (j i : Nat) (o2 : AObj) (b : Nat), F.get k = some o → k < H.next → keep[j]? = some i → hf.get i = some o2 → ρ'.blk k = some b → ρf.blk i = some b → False := by
      intro k o j i o2 b e hk1 h1 h2 hb1 hb2
      obtain ⟨o0, ho0⟩ := hold k o e hk1
      rw [(hlt k hk1).1] at hb1
      have hbs := HW.lt ho0 hb1
      have hm : i ∈ keep := List.mem_of_getElem? h1
      obtain ⟨hnc, o3, g1, _, g3⟩ := hkn i hm
      rw [h2] at g1; cases g1
      obtain ⟨x, hx, q1, _, q3, q4⟩ := hset b (E.shrink b hbs ⟨i, o2, h2, g3, hb2⟩)
      have hkx : τ x.1 = k := HW.inj _ _ _ _ b q1 ho0 q3 hb1
      rcases hFget k o e with ⟨_, ⟨y, hy, hyk, o4, h4, _⟩ | ⟨hno, _⟩⟩ | ⟨j, i, o2, rfl, _⟩
      · have hyx : y.1 = x.1 := hinj y hy x hx (hyk.trans hkx.symm)
        rw [hyx] at h4
        have : x.1 = i := W2.inj _ _ _ _ b h4 h2 (by rw [hlow _ q4]; exact q3) hb2
        omega
      · exact hno x hx hkx
      · omega
    intro k1 k2 o1 o2 b e1 e2 hb1 hb2
    by_cases q1 : k1 < H.next <;> by_cases q2 : k2 < H.next
    · obtain ⟨_, p1⟩ := hold k1 o1 e1 q1
      obtain ⟨_, p2⟩ := hold k2 o2 e2 q2
      rw [(hlt _ q1).1] at hb1
      rw [(hlt _ q2).1] at hb2
      exact HW.inj _ _ _ _ b p1 p2 hb1 hb2
    · rcases hFget k2 o2 e2 with ⟨h, _⟩ | ⟨j, i, o3, rfl, h1, h2, _⟩
      · exact absurd h q2
      · rw [(hkp j i h1).1] at hb2
        exact (hmix k1 o1 j i o3 b e1 q1 h1 h2 hb1 hb2).elim
    · rcases hFget k1 o1 e1 with ⟨h, _⟩ | ⟨j, i, o3, rfl, h1, h2, _⟩
      · exact absurd h q1
      · rw [(hkp j i h1).1] at hb1
        exact (hmix k2 o2 j i o3 b e2 q2 h1 h2 hb2 hb1).elim
    · rcases hFget k1 o1 e1 with ⟨h, _⟩ | ⟨j, i, o3, rfl, h1, h2, _⟩
      · exact absurd h q1
      rcases hFget k2 o2 e2 with ⟨h, _⟩ | ⟨j', i', o3', rfl, h1', h2', _⟩
      · exact absurd h q2
      rw [(hkp j i h1).1] at hb1
      rw [(hkp j' i' h1').1] at hb2
      have : i = i' := W2.inj _ _ _ _ b h2 h2' hb1 hb2
      subst this
      obtain ⟨g1, g2⟩ := List.getElem?_eq_some_iff.1 h1
      obtain ⟨g3, g4⟩ := List.getElem?_eq_some_iff.1 h1'
      have a1 := hk.idxOf_getElem j g1
      have a2 := hk.idxOf_getElem j' g3
      rw [g2] at a1
      rw [g4] at a2
      omega
  · intro g q
    obtain ⟨h1, h2⟩ := hlt g (by omega)
    exact ⟨h1.trans (HW.glob g q).1, h2.trans (HW.glob g q).2⟩
  · rw [hFn]; omega
  · exact fun i hi => (hlt i hi).1
  · rw [hFn]; omega
  · intro b hb hn
    refine E.pres b hb fun hW => hn ?_
    obtain ⟨x, hx, q1, q2, q3, _⟩ := hset b hW
    exact ⟨_, _, q1, q2, q3⟩
  · rintro b hb ⟨k, o, e, hro, hbk⟩
    have back : Wset (ρ.comp τ) (mkH nc L) b → Wset ρ H b := fun hW => by
      obtain ⟨x, hx, q1, q2, q3, _⟩ := hset b hW
      exact ⟨_, _, q1, q2, q3⟩
    rcases hFget k o e with ⟨hk1, ⟨x, hx, rfl, o2, h1, rfl⟩ | ⟨hno, h1⟩⟩ | ⟨j, i, o2, rfl, h1, h2, rfl⟩
    · rw [(hlt _ hk1).1] at hbk
      rw [mvO_ro] at hro
      exact back (E.shrink b hb ⟨x.1, o2, h1, hro, by rw [hlow _ (hL x hx).2.1]; exact hbk⟩)
    · rw [(hlt _ hk1).1] at hbk
      exact ⟨k, o, h1, hro, hbk⟩
    · rw [(hkp j i h1).1] at hbk
      rw [mvO_ro] at hro
      exact back (E.shrink b hb ⟨i, o2, h2, hro, hbk⟩)
end Go.AE
namespace Go.AE
open Go
section
variable {P : Program} {G : Nat}
theorem SR.sub {ρ : Rho} {s : AS} {fr : Frame} {cs : List Frame} {w : World} (H : SR G ρ s fr cs w) {h' : AH} (hn : h'.next = s.h.next) (hs : ∀ i o, h'.get i = some o → s.h.get i = some o) : SR G ρ ⟨s.fr, s.cs, h'⟩ fr cs w :=
  ⟨H.fr, H.cs, H.w.sub hn hs⟩
theorem mkH_sub {s : AS} {l : List (Nat × AObj)} (hids : (l.map (·.1)).map s.h.get = l.map fun x => some x.2) : ∀ i o, (mkH s.h.next l).get i = some o → s.h.get i = some o := fun i o e => by
  rcases mkH_get l _ i o e with q | q
  · obtain ⟨j, hj, e⟩ := List.mem_iff_getElem.1 q
    have := congrArg (fun (m : List (Option AObj)) => m[j]?) hids
    simp [List.getElem?_eq_getElem hj, e] at this
    exact this
  · simp [AH.get, T.get] at q
theorem reach_look {s s' : AS} {fr1 : Frame} {cs1 : List Frame} {next : Nat} {l : List (Nat × AObj)} (hr : Gets P G s s') (hl : look (l.map (·.1)) s' = (fr1, cs1, next, l.map fun x => some x.2)) : Gets P G s ⟨fr1, cs1, mkH next l⟩ := by
  intro ρ fr cs cs0 w H
  obtain ⟨ρ2, fb, cb, wb, H2, E2, S2⟩ := hr ρ fr cs cs0 w H
  simp only [look, Prod.mk.injEq] at hl
  obtain ⟨rfl, rfl, rfl, hids⟩ := hl
  exact ⟨ρ2, fb, cb, wb, H2.sub (mkH_next _ l _ rfl) (mkH_sub hids), E2.sub (mkH_next _ l _ rfl) (mkH_sub hids), S2⟩
def fin (P : Program) (ids : List Nat) (s : AS) : Option (Value × FuncId × Nat × List (Option AObj)) :=
  (afinal P s).map fun r => (r.1, s.fr.fn, r.2.next, ids.map r.2.get)
theorem CSp.sub {f : FuncId} {args : Array Value} {h h' : AH} {v : Value} (S : CSp P G f args h v h') {h2 : AH} (hn : h2.next = h'.next) (hs : ∀ i o, h2.get i = some o → h'.get i = some o) : CSp P G f args h v h2 :=
  fun ρ w args' hw ha => (S ρ w args' hw ha).mono fun _ _ ⟨ρ', v', h1, h3, h4, h5⟩ => ⟨ρ', v', h1, h3.sub hn hs, h4.sub hn hs, h5⟩
theorem spec_of_fin {f : FuncId} {args : Array Value} {h : AH} {v : Value} {s : AS} {next : Nat} {l : List (Nat × AObj)} (hr : Gets P G ⟨Frame.enter P f args .normal, [], h⟩ s) (hf : fin P (l.map (·.1)) s = some (v, f, next, l.map fun x => some x.2)) : CSp P G f args h v (mkH next l) := by
  obtain ⟨⟨v1, h1⟩, e1, e2⟩ := Option.map_eq_some_iff.1 hf
  simp only [Prod.mk.injEq] at e2
  obtain ⟨rfl, hfn, rfl, hids⟩ := e2
  exact (spec_of_reach hr e1 hfn).sub (mkH_next _ l _ rfl) (mkH_sub (s := ⟨s.fr, s.cs, h1⟩) hids)
end
section
variable {P : Program} {G : Nat}
def plainI : Item → Bool
  | .code _ | .inBlock _ | .inLoop _ | .inScope _ | .inRegion _ _ => true
  | _ => false
theorem renIs_plain (ρ : Rho) : ∀ l : List Item, l.all plainI = true → renIs ρ l = some l
  | [], _ => rfl
  | x :: l, h => by
    simp only [List.all_cons, Bool.and_eq_true] at h
    refine renIs_cons.2 ⟨x, l, ?_, renIs_plain ρ l h.2, rfl⟩
    cases x <;> first | rfl | (simp [plainI] at h)
theorem gets_move {s0 : AS} {fr : Frame} {nx1 nx2 : Nat} {l1 l2 : List (Nat × AObj)} (τ : Nat → Nat) (hr : Gets P G s0 ⟨{ fr with tmps := mvArr τ fr.tmps }, [], mkH nx1 l1⟩)
    (hd : fr.defers = []) (hm : fr.mode = .run) (hro : fr.roundOf = none) (ht : fr.todo.all plainI = true)
    (h0 : s0.h.next ≤ nx2) (hG : G ≤ s0.h.next) (hlow : ∀ i, i < s0.h.next → τ i = i) (hge : ∀ i, nx2 ≤ i → nx1 ≤ τ i)
    (hl : ∀ x ∈ l2, plainO x.2 = true ∧ (mkH nx1 l1).get (τ x.1) = some (mvO τ x.2)) (hinj : ∀ x ∈ l2, ∀ y ∈ l2, τ x.1 = τ y.1 → x.1 = y.1) : Gets P G s0 ⟨fr, [], mkH nx2 l2⟩ := by
  intro ρ fr0 cs cs0 w H
  obtain ⟨ρ1, fr1, cs1, w1, H1, E1, S1⟩ := hr ρ fr0 cs cs0 w H
  have hn1 : (mkH nx1 l1).next = nx1 := mkH_next nx1 l1 _ rfl
  have hn2 : (mkH nx2 l2).next = nx2 := mkH_next nx2 l2 _ rfl
  have hget : ∀ i o, (mkH nx2 l2).get i = some o → (i, o) ∈ l2 := fun i o e => by
    rcases mkH_get l2 _ i o e with q | q
    · exact q
    · simp [AH.get, T.get] at q
  have hcs : cs1 = [] := by
    have := H1.cs
    cases cs1 with
    | nil => rfl
    | cons a b => cases this
  subst hcs
  have hfr := H1.fr
  refine ⟨ρ1.comp τ, fr1, [], w1, ⟨⟨hfr.fn, ?_, ?_, ?_, ?_, hfr.kind, ?_⟩, trivial, ⟨?_, ?_, ?_, ?_, ?_⟩⟩, ⟨?_, ?_, ?_, E1.size, E1.pres, ?_, E1.tape, E1.os, E1.output⟩, S1⟩
  · rw [renArr_comp]; exact hfr.tmps
  · have h1 := hfr.todo
    rw [renIs_plain _ _ ht] at h1 ⊢
    exact h1
  · have h1 := hfr.defers
    simp only [hd, renDs] at h1 ⊢
    exact h1
  · have h1 := hfr.mode
    simp only [hm, renM] at h1 ⊢
    exact h1
  · have h1 := hfr.round
    simp only [hro] at h1 ⊢
    rcases h1 with h1 | ⟨l, l', h2, _⟩
    · exact .inl h1
    · cases h2
  · intro i o e
    have hm' := hget i o e
    obtain ⟨hp, hg⟩ := hl _ hm'
    obtain ⟨b, x, q1, q2, q3⟩ := H1.w.obj _ _ hg
    exact ⟨b, x, q1, q2, ObjR_comp hp q3⟩
  · intro i hi
    simp only at hi
    rw [hn2] at hi
    exact H1.w.fresh _ (by simp only [hn1]; exact hge i hi)
  · intro i j o p b e1 e2 h1 h2
    have m1 := hget i o e1
    have m2 := hget j p e2
    exact hinj _ m1 _ m2 (H1.w.inj _ _ _ _ b (hl _ m1).2 (hl _ m2).2 h1 h2)
  · intro g q
    simp only [Rho.comp, hlow g (Nat.lt_of_lt_of_le q hG)]
    exact H1.w.glob g q
  · simp only [hn2]; omega
  · intro i b hb
    have hi := H.w.next_gt hb
    simp only [Rho.comp, hlow i hi]
    exact E1.le i b hb
  · intro i hi
    simp only [Rho.comp, hlow i hi]
    exact E1.low i hi
  · simp only [hn2]; exact h0
  · rintro b hb ⟨i, o, e, hro, hbk⟩
    have hm' := hget i o e
    exact E1.shrink b hb ⟨τ i, mvO τ o, (hl _ hm').2, by rw [mvO_ro]; exact hro, hbk⟩
end
def ns (k : IntKind) (xs : List Nat) : List Value := xs.map fun (x : Nat) => Value.int k x
theorem ns_closed (k : IntKind) : ∀ xs : List Nat, closedL (ns k xs) = true
  | [] => rfl
  | x :: xs => by
    have := ns_closed k xs
    simpa [ns, closedL, closed] using this
theorem wrap_i64 {x : Int} (h1 : -9223372036854775808 ≤ x) (h2 : x < 9223372036854775808) : IntKind.wrap .i64 x = x := by
  simp [IntKind.wrap, IntKind.signed, IntKind.bits]
  omega
theorem wrap_u64 {x : Int} (h1 : 0 ≤ x) (h2 : x < 18446744073709551616) : IntKind.wrap .u64 x = x := by
  simp [IntKind.wrap, IntKind.signed, IntKind.bits]
  omega
theorem wrap_u8 {x : Int} (h1 : 0 ≤ x) (h2 : x < 256) : IntKind.wrap .u8 x = x := by
  simp [IntKind.wrap, IntKind.signed, IntKind.bits]
  omega
theorem wrap_i32 {x : Int} (h1 : -2147483648 ≤ x) (h2 : x < 2147483648) : IntKind.wrap .i32 x = x := by
  simp [IntKind.wrap, IntKind.signed, IntKind.bits]
  omega
end Go.AE
namespace Go.AE
open Go
mutual
theorem closed_mv (τ : Nat → Nat) : ∀ v, closed v = true → mv τ v = v
  | .bool _, _ | .int _ _, _ | .float _ _, _ | .complex _ _ _, _ | .string _, _ | .pointer none, _ | .slice none _ _, _ | .map none, _ | .chan none, _ | .nilFunc, _ | .nilIface, _ => by simp only [mv]
  | .pointer (some _), h | .slice (some _) _ _, h | .map (some _), h | .chan (some _), h => by simp [closed] at h
  | .func fn first cap, h => by
    simp only [closed, Bool.and_eq_true] at h
    have h1 := closedArr_mv τ first h.2.1
    have h2 := closedArr_mv τ cap h.2.2
    cases fn <;> simp_all [mv, mvF]
  | .iface t v, h => by
    simp only [closed] at h
    simp [mv, closed_mv τ v h]
  | .agg cs, h => by
    simp only [closed] at h
    simp [mv, closedArr_mv τ cs h]
  | .tuple cs, h => by
    simp only [closed] at h
    simp [mv, closedArr_mv τ cs h]
theorem closedArr_mv (τ : Nat → Nat) : ∀ v, closedArr v = true → mvArr τ v = v
  | ⟨l⟩, h => by
    simp only [closedArr] at h
    simp [mvArr, closedL_mv τ l h]
theorem closedL_mv (τ : Nat → Nat) : ∀ v, closedL v = true → mvL τ v = v
  | [], _ => by simp [mvL]
  | v :: l, h => by
    simp only [closedL, Bool.and_eq_true] at h
    simp [mvL, closed_mv τ v h.1, closedL_mv τ l h.2]
end
mutual
theorem closed_good (ok : Nat → Bool) : ∀ v, closed v = true → good ok v = true
  | .bool _, _ | .int _ _, _ | .float _ _, _ | .complex _ _ _, _ | .string _, _ | .pointer none, _ | .slice none _ _, _ | .map none, _ | .chan none, _ | .nilFunc, _ | .nilIface, _ => by simp only [good]
  | .pointer (some _), h | .slice (some _) _ _, h | .map (some _), h | .chan (some _), h => by simp [closed] at h
  | .func fn first cap, h => by
    simp only [closed, Bool.and_eq_true] at h
    have h1 := closedArr_good ok first h.2.1
    have h2 := closedArr_good ok cap h.2.2
    cases fn <;> simp_all [good]
  | .iface t v, h => by
    simp only [closed] at h
    simp [good, closed_good ok v h]
  | .agg cs, h => by
    simp only [closed] at h
    simp [good, closedArr_good ok cs h]
  | .tuple cs, h => by
    simp only [closed] at h
    simp [good, closedArr_good ok cs h]
theorem closedArr_good (ok : Nat → Bool) : ∀ v, closedArr v = true → goodArr ok v = true
  | ⟨l⟩, h => by
    simp only [closedArr] at h
    simp [goodArr, closedL_good ok l h]
theorem closedL_good (ok : Nat → Bool) : ∀ v, closedL v = true → goodL ok v = true
  | [], _ => by simp [goodL]
  | v :: l, h => by
    simp only [closedL, Bool.and_eq_true] at h
    simp [goodL, closed_good ok v h.1, closedL_good ok l h.2]
end
def flat : AObj → Bool
  | .cells c _ _ _ => closedL c
  | .iter _ _ => true
  | .win _ _ => true
  | _ => false
theorem flat_mv (τ : Nat → Nat) {o : AObj} (h : flat o = true) : mvO τ o = o := by
  cases o <;> simp only [mvO]
  rw [closedL_mv τ _ h]
theorem flat_good (ok : Nat → Bool) {o : AObj} (h : flat o = true) : goodO ok o = true := by
  cases o <;> simp only [goodO] <;> first | exact closedL_good ok _ h | (simp [flat] at h)
theorem flat_plain {o : AObj} (h : flat o = true) : plainO o = true := by
  cases o <;> first | rfl | (simp [flat] at h)
def canonFrom : Nat → List AObj → List (Nat × AObj)
  | _, [] => []
  | g, o :: l => (g, o) :: canonFrom (g + 1) l
def tauL (G : Nat) (bs : List Nat) (n i : Nat) : Nat := if Nat.blt i G then i else match bs[i - G]? with
  | some b => b
  | none => n + i
theorem canon_mem : ∀ (os : List AObj) (g : Nat) (x : Nat × AObj), x ∈ canonFrom g os ↔ ∃ i, os[i]? = some x.2 ∧ x.1 = g + i
  | [], g, x => by simp [canonFrom]
  | o :: l, g, x => by
    rw [canonFrom, List.mem_cons, canon_mem l]
    constructor
    · rintro (rfl | ⟨i, h1, h2⟩)
      · exact ⟨0, by simp, by simp⟩
      · exact ⟨i + 1, by simpa using h1, by omega⟩
    · rintro ⟨i, h1, h2⟩
      cases i with
      | zero => left; obtain ⟨a, b⟩ := x; simp at h1 h2; simp [h1, h2]
      | succ i => right; exact ⟨i, by simpa using h1, by omega⟩
theorem canon_map {α : Type} : ∀ (os : List AObj) (g : Nat) (F : Nat → AObj → α), (canonFrom g os).map (fun x => F x.1 x.2) = os.zipIdx.map fun x => F (g + x.2) x.1 := by
  intro os
  induction os with
  | nil => intro g F; rfl
  | cons o l ih =>
    intro g F
    rw [canonFrom, List.map_cons, ih, List.zipIdx_cons, List.map_cons]
    simp only [Nat.add_zero, Nat.zero_add]
    congr 1
    rw [show (1 : Nat) = 0 + 1 from rfl, List.zipIdx_succ, List.map_map]
    congr 1
    funext x
    simp only [Function.comp]
    congr 1
    omega
theorem FSp.cast {P : Program} {G : Nat} {f : FuncId} {args args' : Array Value} {n : Nat} {r r' : List (Nat × AObj)} {v v' : Value} {w w' : List (Nat × Option AObj)} {q q' : List AObj} (S : FSp P G f args n r v w q) (h1 : args = args') (h2 : r = r') (h3 : v = v') (h4 : w = w') (h5 : q = q') : FSp P G f args' n r' v' w' q' := by
  subst h1; subst h2; subst h3; subst h4; subst h5; exact S
theorem fsp_flat {P : Program} {G : Nat} {f : FuncId} {args args' : Array Value} {v v' : Value} {hf : AH} (bs : List Nat) (os ps : List AObj) (keep : List Nat) (qs : List AObj) (n : Nat)
    (S : CSp P G f args (mkH (G + bs.length) (canonFrom G os)) v hf) (hos : os.length = bs.length) (hps : (List.range bs.length).map (fun i => hf.get (G + i)) = ps.map some) (hqs : keep.map hf.get = qs.map some)
    (hnd : bs.Nodup) (hb : ∀ b ∈ bs, G ≤ b ∧ b < n) (hGn : G ≤ n) (fo : os.all flat = true) (fp : ps.all flat = true) (fq : qs.all (fun o => flat o && !o.ro) = true) (hk : keep.Nodup) (hkn : ∀ i ∈ keep, G + bs.length ≤ i)
    (hv : good (okI (G + bs.length) keep) v = true) (ea : mvArr (tauL G bs n) args = args') (ev : mv (tau' (G + bs.length) (tauL G bs n) keep n) v = v') :
    FSp P G f args' n (bs.zip os) v' (bs.zip (ps.map some)) qs := by
  have hpl : ps.length = bs.length := by
    have := congrArg List.length hps
    simpa using this.symm
  have hpg : ∀ i, i < bs.length → hf.get (G + i) = ps[i]? := fun i hi => by
    have h1 := congrArg (fun l : List (Option AObj) => l[i]?) hps
    simp only [List.getElem?_map] at h1
    rw [List.getElem?_range hi] at h1
    simp only [Option.map_some] at h1
    rw [List.getElem?_eq_getElem (by omega)] at h1 ⊢
    simpa using h1
  have hqg : ∀ i ∈ keep, ∃ o, hf.get i = some o ∧ o ∈ qs := fun i hi => by
    have : hf.get i ∈ keep.map hf.get := List.mem_map.2 ⟨i, hi, rfl⟩
    rw [hqs] at this
    obtain ⟨o, h1, h2⟩ := List.mem_map.1 this
    exact ⟨o, h2.symm, h1⟩
  have hfo : ∀ o ∈ os, flat o = true := fun o ho => List.all_eq_true.1 fo o ho
  have hfp : ∀ o ∈ ps, flat o = true := fun o ho => List.all_eq_true.1 fp o ho
  have hfq : ∀ o ∈ qs, flat o = true ∧ o.ro = false := fun o ho => by
    have := List.all_eq_true.1 fq o ho
    simpa using this
  have htau : ∀ i, i < bs.length → tauL G bs n (G + i) = bs.getD i 0 := fun i hi => by
    have h1 : ¬ G + i < G := by omega
    have h2 : G + i - G = i := by omega
    simp only [tauL, blt_false h1, Bool.false_eq_true, if_false, h2, List.getElem?_eq_getElem hi, List.getD, Option.getD_some]
  have hmem : ∀ x ∈ canonFrom G os, ∃ i, i < bs.length ∧ os[i]? = some x.2 ∧ x.1 = G + i ∧ tauL G bs n x.1 = bs.getD i 0 := fun x hx => by
    obtain ⟨i, h1, h2⟩ := (canon_mem os G x).1 hx
    have hi : i < bs.length := by rw [← hos]; exact (List.getElem?_eq_some_iff.1 h1).1
    exact ⟨i, hi, h1, h2, by rw [h2, htau i hi]⟩
  have hbm : ∀ i, i < bs.length → bs.getD i 0 ∈ bs := fun i hi => by
    simp only [List.getD, List.getElem?_eq_getElem hi, Option.getD_some]
    exact List.getElem_mem hi
  have R := fspec_of_spec (nc := G + bs.length) (L := canonFrom G os) S (tauL G bs n) keep n (by omega) hGn (fun g hg => by simp [tauL, blt_true hg])
    (fun i hi => by
      have h1 : ¬ i < G := by omega
      have h2 : bs[i - G]? = none := List.getElem?_eq_none (by omega)
      simp only [tauL, blt_false h1, Bool.false_eq_true, if_false, h2]
      omega)
    (fun x hx => by
      obtain ⟨i, hi, h1, h2, h3⟩ := hmem x hx
      exact ⟨flat_plain (hfo _ (List.mem_of_getElem? h1)), by omega, by rw [h3]; exact (hb _ (hbm i hi)).2⟩)
    (fun x hx y hy e => by
      obtain ⟨i, hi, _, h2, h3⟩ := hmem x hx
      obtain ⟨j, hj, _, h4, h5⟩ := hmem y hy
      rw [h3, h5] at e
      simp only [List.getD, List.getElem?_eq_getElem hi, List.getElem?_eq_getElem hj, Option.getD_some] at e
      have a1 := hnd.idxOf_getElem i hi
      have a2 := hnd.idxOf_getElem j hj
      rw [e] at a1
      omega)
    hv
    (fun x hx o ho => by
      obtain ⟨i, hi, _, h2, _⟩ := hmem x hx
      rw [h2, hpg i hi] at ho
      exact flat_good _ (hfp o (List.mem_of_getElem? ho)))
    hk
    (fun i hi => by
      obtain ⟨o, h1, h2⟩ := hqg i hi
      exact ⟨hkn i hi, o, h1, flat_good _ (hfq o h2).1, (hfq o h2).2⟩)
  refine R.cast ea ?_ ev ?_ ?_
  · rw [canon_map os G fun a b => (tauL G bs n a, mvO (tauL G bs n) b)]
    refine List.ext_getElem? fun i => ?_
    rcases Nat.lt_or_ge i bs.length with hi | hi
    · have ho : i < os.length := by omega
      simp only [List.getElem?_map, List.getElem?_zipIdx, List.getElem?_eq_getElem ho, Option.map_some, Nat.zero_add, htau i hi, flat_mv _ (hfo _ (List.getElem_mem ho))]
      rw [List.getElem?_eq_getElem (by simp; omega)]
      simp [List.getD, List.getElem?_eq_getElem hi]
    · rw [List.getElem?_eq_none (by simp; omega), List.getElem?_eq_none (by simp; omega)]
  · rw [canon_map os G fun a b => (tauL G bs n a, (hf.get a).map (mvO (tau' (G + bs.length) (tauL G bs n) keep n)))]
    refine List.ext_getElem? fun i => ?_
    rcases Nat.lt_or_ge i bs.length with hi | hi
    · have ho : i < os.length := by omega
      have hp : i < ps.length := by omega
      simp only [List.getElem?_map, List.getElem?_zipIdx, List.getElem?_eq_getElem ho, Option.map_some, Nat.zero_add, htau i hi, hpg i hi, List.getElem?_eq_getElem hp, flat_mv _ (hfp _ (List.getElem_mem hp))]
      rw [List.getElem?_eq_getElem (by simp; omega)]
      simp [List.getD, List.getElem?_eq_getElem hi]
    · rw [List.getElem?_eq_none (by simp; omega), List.getElem?_eq_none (by simp; omega)]
  · have : ∀ (l : List Nat) (q : List AObj), l.map hf.get = q.map some → (∀ o ∈ q, flat o = true) → l.filterMap (fun i => (hf.get i).map (mvO (tau' (G + bs.length) (tauL G bs n) keep n))) = q := by
      intro l
      induction l with
      | nil => intro q h _; cases q <;> simp at h; rfl
      | cons i l ih =>
        intro q h hq
        cases q with
        | nil => simp at h
        | cons o q =>
          simp only [List.map_cons, List.cons.injEq] at h
          simp only [List.filterMap_cons, h.1, Option.map_some, flat_mv _ (hq o (List.mem_cons_self ..))]
          rw [ih q h.2 fun o ho => hq o (List.mem_cons_of_mem _ ho)]
    exact this keep qs hqs fun o ho => (hfq o ho).1
end Go.AE
