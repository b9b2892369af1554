import Derived.Test.YthghfccdllafbaaGreatDoorAB
import Derived.Maps.RangeRun
namespace Go.AE
open Go

/-! ### maps -/

/-- How a key is compared with the keys of a map. -/
def ktest (P : Program) (kt : TypeId) (k : Value) (ks : List Value) : Option (Value → Option Bool) :=
  match P.underlying kt with
  | none => none
  | some d => if ks.all (fun x => (Instr.sameNow d k x).isSome) then some (Instr.sameNow d k)
    else if ks.all (fun x => (Instr.sameNow d k x).isNone && (pureRun P (Op.equal kt k x)).isSome) then some (fun x => pureRun P (Op.equal kt k x)) else none

/-- The entry that is met, with what is before and behind it; 'some none': there is none. -/
def asplit (q : Value → Option Bool) : List (Value × Value) → Option (Option (List (Value × Value) × (Value × Value) × List (Value × Value)))
  | [] => some none
  | e :: es => match q e.1, asplit q es with
    | some true, some none => some (some ([], e, es))
    | some false, some none => some none
    | some false, some (some (a, x, b)) => some (some (e :: a, x, b))
    | _, _ => none

def fnd (q : Value → Option Bool) : List MapEntry → Nat → Option (Nat × Value)
  | [], _ => none
  | e :: es, i => match q e.key with
    | some true => some (i, e.val)
    | _ => fnd q es (i + 1)

theorem asplit_none {q : Value → Option Bool} : ∀ {es : List (Value × Value)}, asplit q es = some none → ∀ e ∈ es, q e.1 = some false
  | [], _, e, he => by simp at he
  | x :: es, h, e, he => by
    unfold asplit at h
    split at h <;> try (simp at h; done)
    rename_i h1 h2
    rcases List.mem_cons.1 he with rfl | he
    · exact h1
    · exact asplit_none h2 e he

theorem asplit_some {q : Value → Option Bool} : ∀ {es a b : List (Value × Value)} {x : Value × Value}, asplit q es = some (some (a, x, b)) → es = a ++ x :: b ∧ q x.1 = some true ∧ ∀ e ∈ a ++ b, q e.1 = some false
  | [], a, b, x, h => by simp [asplit] at h
  | e :: es, a, b, x, h => by
    unfold asplit at h
    split at h
    · rename_i h1 h2
      simp only [Option.some.injEq, Prod.mk.injEq] at h
      obtain ⟨rfl, rfl, rfl⟩ := h
      exact ⟨rfl, h1, fun y hy => asplit_none h2 y (by simpa using hy)⟩
    · simp at h
    · rename_i a0 x0 b0 h1 h2
      simp only [Option.some.injEq, Prod.mk.injEq] at h
      obtain ⟨rfl, rfl, rfl⟩ := h
      obtain ⟨g1, g2, g3⟩ := asplit_some h2
      refine ⟨by rw [g1]; rfl, g2, fun y hy => ?_⟩
      rcases List.mem_cons.1 hy with rfl | hy
      · exact h1
      · exact g3 y hy
    · simp at h

theorem findNow_fnd {d : TypeDesc} {k : Value} : ∀ (es : List MapEntry) (i : Nat), (∀ e ∈ es, (Instr.sameNow d k e.key).isSome = true) → Instr.findNow d k es i = some (fnd (Instr.sameNow d k) es i)
  | [], _, _ => rfl
  | e :: es, i, h => by
    have h1 := h e (by simp)
    unfold Instr.findNow fnd
    cases q : Instr.sameNow d k e.key with
    | none => rw [q] at h1; cases h1
    | some b => cases b with
      | true => rfl
      | false => exact findNow_fnd es (i + 1) fun x hx => h x (by simp [hx])

theorem findAsking_fnd {P : Program} {kt : TypeId} {k : Value} (w : World) : ∀ (es : List MapEntry) (i : Nat), (∀ e ∈ es, (pureRun P (Op.equal kt k e.key)).isSome = true) →
    (Instr.findAsking kt k es i).run P w = .ok (fnd (fun x => pureRun P (Op.equal kt k x)) es i) w
  | [], _, _ => rfl
  | e :: es, i, h => by
    have h1 := h e (by simp)
    unfold Instr.findAsking fnd
    cases q : pureRun P (Op.equal kt k e.key) with
    | none => rw [q] at h1; cases h1
    | some b =>
      have hr := pureRun_run q w
      rw [Sem.run_bind, hr, Result.andThen_ok]
      cases b with
      | true => rfl
      | false => exact findAsking_fnd w es (i + 1) fun x hx => h x (by simp [hx])

theorem findKey_fnd {P : Program} {kt : TypeId} {k : Value} {ks : List Value} {q : Value → Option Bool} (hq : ktest P kt k ks = some q) {es : List MapEntry} (hes : ∀ e ∈ es, e.key ∈ ks) (w : World) :
    (Instr.findKey kt k es).run P w = .ok (fnd q es 0) w := by
  unfold ktest at hq
  split at hq
  · cases hq
  rename_i d hd
  split at hq
  · rename_i hall
    cases hq
    have hh : ∀ e ∈ es, (Instr.sameNow d k e.key).isSome = true := fun e he => List.all_eq_true.1 hall _ (hes e he)
    simp [Instr.findKey, run_underlying hd, findNow_fnd es 0 hh]
  · split at hq
    case isFalse => cases hq
    rename_i hall
    cases hq
    have hh : ∀ e ∈ es, Instr.sameNow d k e.key = none ∧ (pureRun P (Op.equal kt k e.key)).isSome = true := fun e he => by
      have := List.all_eq_true.1 hall _ (hes e he)
      simp only [Bool.and_eq_true, Option.isNone_iff_eq_none] at this
      exact this
    cases es with
    | nil => simp [Instr.findKey, run_underlying hd, Instr.findNow, fnd]
    | cons e es =>
      have h0 := (hh e (by simp)).1
      have := findAsking_fnd (P := P) (kt := kt) (k := k) w (e :: es) 0 fun x hx => (hh x hx).2
      simp only [Instr.findKey, Sem.run_bind, run_underlying hd, Result.andThen_ok, Instr.findNow, h0, this]

theorem fnd_none {q : Value → Option Bool} : ∀ {es : List MapEntry} {i : Nat}, (∀ e ∈ es, q e.key ≠ some true) → fnd q es i = none
  | [], _, _ => rfl
  | e :: es, i, h => by
    unfold fnd
    split
    · rename_i h1; exact absurd h1 (h e (by simp))
    · exact fnd_none fun x hx => h x (by simp [hx])

theorem fnd_some {q : Value → Option Bool} : ∀ {es : List MapEntry} {i : Nat}, (∃ e ∈ es, q e.key = some true) → ∃ pre e post, es = pre ++ e :: post ∧ q e.key = some true ∧ fnd q es i = some (i + pre.length, e.val)
  | [], _, ⟨e, he, _⟩ => by simp at he
  | e :: es, i, ⟨x, hx, hqx⟩ => by
    unfold fnd
    by_cases h : q e.key = some true
    · rw [h]
      exact ⟨[], e, es, rfl, h, rfl⟩
    · have : ∃ e ∈ es, q e.key = some true := by
        rcases List.mem_cons.1 hx with rfl | hx
        · exact absurd hqx h
        · exact ⟨x, hx, hqx⟩
      obtain ⟨pre, y, post, h1, h2, h3⟩ := fnd_some (i := i + 1) this
      refine ⟨e :: pre, y, post, by rw [h1]; rfl, h2, ?_⟩
      split
      · rename_i q1; exact absurd q1 h
      · rw [h3]; congr 2; simp; omega

/-- What the entry of a map is as a pair. -/
abbrev prs (l : List MapEntry) : List (Value × Value) := l.map fun e => (e.key, e.val)

/-- A key that is found, or is not. -/
theorem find_ok {P : Program} {ρ : Rho} {kt : TypeId} {k : Value} {es : List (Value × Value)} {q : Value → Option Bool} (hq : ktest P kt k (es.map (·.1)) = some q) {vs : List Value} (hv : renL ρ (es.map (·.2)) = some vs) {ents : List MapEntry}
    (hp : ((es.map (·.1)).zip vs).Perm (prs ents)) (w : World) :
    (asplit q es = some none → (Instr.findKey kt k ents).run P w = .ok none w) ∧
    (∀ a x b, asplit q es = some (some (a, x, b)) → ∃ va x' vb pre e post, vs = va ++ x' :: vb ∧ renL ρ (a.map (·.2)) = some va ∧ ren ρ x.2 = some x' ∧ renL ρ (b.map (·.2)) = some vb ∧
      ents = pre ++ e :: post ∧ e.key = x.1 ∧ e.val = x' ∧ (Instr.findKey kt k ents).run P w = .ok (some (pre.length, x')) w ∧ (((a ++ b).map (·.1)).zip (va ++ vb)).Perm (prs (pre ++ post))) := by
  have hlen := renL_length hv
  have hkeys : ∀ e ∈ ents, e.key ∈ es.map (·.1) := fun e he => by
    have h1 : (e.key, e.val) ∈ (es.map (·.1)).zip vs := hp.mem_iff.2 (List.mem_map.2 ⟨e, he, rfl⟩)
    exact (List.of_mem_zip h1).1
  have hrun := findKey_fnd hq hkeys w
  refine ⟨fun h => ?_, fun a x b h => ?_⟩
  · have h1 := asplit_none h
    rw [hrun, fnd_none]
    intro e he
    obtain ⟨p, hp1, hp2⟩ := List.mem_map.1 (hkeys e he)
    rw [← hp2, h1 p hp1]; simp
  · obtain ⟨rfl, g2, g3⟩ := asplit_some h
    simp only [List.map_append, List.map_cons] at hv
    obtain ⟨va, vb0, r1, r2, rfl⟩ := renL_append.1 hv
    obtain ⟨x', vb, r3, r4, rfl⟩ := renL_cons.1 r2
    have hla := renL_length r1
    have hzip : ((a ++ x :: b).map (·.1)).zip (va ++ x' :: vb) = (a.map (·.1)).zip va ++ (x.1, x') :: (b.map (·.1)).zip vb := by
      rw [List.map_append, List.zip_append (by simpa using hla.symm)]
      rfl
    have hzip2 : ((a ++ b).map (·.1)).zip (va ++ vb) = (a.map (·.1)).zip va ++ (b.map (·.1)).zip vb := by
      rw [List.map_append, List.zip_append (by simpa using hla.symm)]
    rw [hzip] at hp
    have hex : ∃ e ∈ ents, q e.key = some true := by
      have : (x.1, x') ∈ prs ents := hp.mem_iff.1 (by simp)
      obtain ⟨e, he, heq⟩ := List.mem_map.1 this
      exact ⟨e, he, by have : e.key = x.1 := congrArg Prod.fst heq
                       rw [this]; exact g2⟩
    obtain ⟨pre, e, post, h1, h2, h3⟩ := fnd_some (i := 0) hex
    subst h1
    have hm : (e.key, e.val) ∈ (a.map (·.1)).zip va ++ (x.1, x') :: (b.map (·.1)).zip vb := hp.mem_iff.2 (by simp [prs])
    have hother : ∀ p ∈ (a.map (·.1)).zip va ++ (b.map (·.1)).zip vb, q p.1 = some false := fun p hp' => by
      have : p.1 ∈ (a ++ b).map (·.1) := by
        rw [List.map_append]
        rcases List.mem_append.1 hp' with hp' | hp'
        · exact List.mem_append_left _ (List.of_mem_zip (show (p.1, p.2) ∈ _ from hp')).1
        · exact List.mem_append_right _ (List.of_mem_zip (show (p.1, p.2) ∈ _ from hp')).1
      obtain ⟨y, hy, hyq⟩ := List.mem_map.1 this
      rw [← hyq]; exact g3 y hy
    have hex2 : (e.key, e.val) = (x.1, x') := by
      rcases List.mem_append.1 hm with hm | hm
      · have := hother _ (List.mem_append_left _ hm)
        rw [h2] at this; cases this
      · rcases List.mem_cons.1 hm with hm | hm
        · exact hm
        · have := hother _ (List.mem_append_right _ hm)
          rw [h2] at this; cases this
    have he1 : e.key = x.1 := congrArg Prod.fst hex2
    have he2 : e.val = x' := congrArg Prod.snd hex2
    refine ⟨va, x', vb, pre, e, post, rfl, r1, r3, r4, rfl, he1, he2, ?_, ?_⟩
    · rw [hrun, h3, he2, Nat.zero_add]
    · rw [hzip2]
      have h5 : ((x.1, x') :: ((a.map (·.1)).zip va ++ (b.map (·.1)).zip vb)).Perm ((x.1, x') :: prs (pre ++ post)) := by
        refine (List.perm_middle.symm.trans hp).trans ?_
        simp only [prs, List.map_append, List.map_cons, hex2]
        exact List.perm_middle
      exact h5.cons_inv

/-- A key may be asked for. -/
def kok (P : Program) (kt : TypeId) (k : Value) (empty : Bool) : Bool := (pureRun P (Instr.checkKey empty 10000 kt k)).isSome && closed k

theorem kok_run {P : Program} {kt : TypeId} {k : Value} {e : Bool} (h : kok P kt k e = true) (w : World) : (Instr.checkKey e 10000 kt k).run P w = .ok () w := by
  unfold kok at h
  simp only [Bool.and_eq_true] at h
  obtain ⟨u, hu⟩ := Option.isSome_iff_exists.1 h.1
  exact pureRun_run hu w

/-- A map's entries, as they are known. -/
def amapOf (h : AH) : Value → Option (Nat × List (Value × Value) × Nat)
  | .map (some r) => match h.get r with
    | some (.mp es v) => some (r, es, v)
    | _ => none
  | _ => none

def mtype (P : Program) (t : TypeId) : Option (TypeId × TypeId) := match P.underlying t with
  | some (.map k e) => some (k, e)
  | _ => none

def amakeMap (h : AH) (hint : Option Value) : Option (Value × AH) :=
  match hint with
  | none | some (.int _ _) => some (.map (some (h.next + 1)), h.bump.push (.mp [] h.next))
  | _ => none

def alookup (P : Program) (h : AH) (t : TypeId) (x k : Value) (ok : Bool) : Option Value :=
  match mtype P t, amapOf h x with
  | some (kt, et), some (_, es, _) =>
    if kok P kt k es.isEmpty then
      match ktest P kt k (es.map (·.1)) with
      | some q => match asplit q es with
        | some (some (_, y, _)) => some (if ok then .tuple #[y.2, .bool true] else y.2)
        | some none => (azero P et).bind fun z => if closed z then some (if ok then .tuple #[z, .bool false] else z) else none
        | none => none
      | none => none
    else none
  | _, _ => none

mutual
/-- Keys that are the same in every bit. -/
def kbits : Value → Value → Bool
  | .bool a, .bool b => a == b
  | .int j a, .int k b => decide (j = k) && decide (a = b)
  | .string a, .string b => decide (a.data.toList = b.data.toList)
  | .agg a, .agg b => kbitsA a b
  | _, _ => false
def kbitsA : Array Value → Array Value → Bool
  | ⟨a⟩, ⟨b⟩ => kbitsL a b
def kbitsL : List Value → List Value → Bool
  | [], [] => true
  | x :: xs, y :: ys => kbits x y && kbitsL xs ys
  | _, _ => false
end

def amapUpdate (P : Program) (h : AH) (t : TypeId) (m k x : Value) : Option AH :=
  match mtype P t, amapOf h m with
  | some (kt, _), some (r, es, v) =>
    if kok P kt k false then
      match ktest P kt k (es.map (·.1)) with
      | some q => match asplit q es with
        | some (some (a, y, b)) => if kbits y.1 k && Instr.sameBits 10000 y.1 k then some (h.put r (some (.mp (a ++ (y.1, x) :: b) v))) else none
        | some none => if kbits k k && es.all (fun y => !kbits y.1 k) then some (h.put r (some (.mp ((k, x) :: es) h.next))).bump else none
        | none => none
      | none => none
    else none
  | _, _ => none

def adelete (P : Program) (h : AH) (t : TypeId) (m k : Value) : Option AH :=
  match mtype P t, amapOf h m with
  | some (kt, _), some (r, es, v) =>
    if kok P kt k es.isEmpty then
      match ktest P kt k (es.map (·.1)) with
      | some q => match asplit q es with
        | some (some (a, _, b)) => some (h.put r (some (.mp (a ++ b) v)))
        | some none => some h
        | none => none
      | none => none
    else none
  | _, _ => none

def arangeMap (h : AH) : Value → Option (Value × AH)
  | .map none => some (.pointer (some ⟨h.next, 0, none⟩), h.push (.mit none 0 []))
  | .map (some r) => match h.get r with
    | some (.mp _ v) => some (.pointer (some ⟨h.next, 0, none⟩), h.push (.mit (some r) v []))
    | _ => none
  | _ => none

/-- The entries that an iterator may still meet. -/
def aleft (ks : List Value) (es : List (Value × Value)) : List (Value × Value) := es.filter fun e => !ks.any (kbits e.1)

end Go.AE
namespace Go.AE
open Go

section
variable {P : Program} {G : Nat} {ρ : Rho} {h : AH} {w : World} {e e' : Operand → Value}

mutual
theorem kbits_sound : ∀ a b, kbits a b = true → a = b
  | .bool a, .bool b, h => by simp [kbits] at h; rw [h]
  | .int j a, .int k b, h => by simp [kbits] at h; rw [h.1, h.2]
  | .string a, .string b, h => by
    simp only [kbits, decide_eq_true_eq] at h
    congr 1
    cases a; cases b
    simp at h
    rw [h]
  | .agg a, .agg b, h => by
    simp only [kbits] at h
    rw [kbitsA_sound a b h]
  | .bool _, .int .., h | .bool _, .float .., h | .bool _, .complex .., h | .bool _, .string .., h | .bool _, .pointer .., h | .bool _, .slice .., h | .bool _, .map .., h | .bool _, .chan .., h | .bool _, .func .., h | .bool _, .nilFunc, h | .bool _, .iface .., h | .bool _, .nilIface, h | .bool _, .agg .., h | .bool _, .tuple .., h => by simp [kbits] at h
  | .int .., .bool .., h | .int .., .float .., h | .int .., .complex .., h | .int .., .string .., h | .int .., .pointer .., h | .int .., .slice .., h | .int .., .map .., h | .int .., .chan .., h | .int .., .func .., h | .int .., .nilFunc, h | .int .., .iface .., h | .int .., .nilIface, h | .int .., .agg .., h | .int .., .tuple .., h => by simp [kbits] at h
  | .string .., .bool .., h | .string .., .int .., h | .string .., .float .., h | .string .., .complex .., h | .string .., .pointer .., h | .string .., .slice .., h | .string .., .map .., h | .string .., .chan .., h | .string .., .func .., h | .string .., .nilFunc, h | .string .., .iface .., h | .string .., .nilIface, h | .string .., .agg .., h | .string .., .tuple .., h => by simp [kbits] at h
  | .agg .., .bool .., h | .agg .., .int .., h | .agg .., .float .., h | .agg .., .complex .., h | .agg .., .string .., h | .agg .., .pointer .., h | .agg .., .slice .., h | .agg .., .map .., h | .agg .., .chan .., h | .agg .., .func .., h | .agg .., .nilFunc, h | .agg .., .iface .., h | .agg .., .nilIface, h | .agg .., .tuple .., h => by simp [kbits] at h
  | .float .., _, h | .complex .., _, h | .pointer .., _, h | .slice .., _, h | .map .., _, h | .chan .., _, h | .func .., _, h | .nilFunc, _, h | .iface .., _, h | .nilIface, _, h | .tuple .., _, h => by simp [kbits] at h
theorem kbitsA_sound : ∀ a b, kbitsA a b = true → a = b
  | ⟨x⟩, ⟨y⟩, h => by
    simp only [kbitsA] at h
    rw [kbitsL_sound x y h]
theorem kbitsL_sound : ∀ a b, kbitsL a b = true → a = b
  | [], [], _ => rfl
  | v :: l, u :: m, h => by
    simp only [kbitsL, Bool.and_eq_true] at h
    rw [kbits_sound v u h.1, kbitsL_sound l m h.2]
  | [], _ :: _, h | _ :: _, [], h => by simp [kbitsL] at h
end

mutual
theorem kbits_closed : ∀ a, kbits a a = true → closed a = true
  | .bool _, _ | .int _ _, _ | .string _, _ => rfl
  | .agg a, h => by
    simp only [kbits] at h
    simp only [closed]
    exact kbitsA_closed a h
  | .float .., h | .complex .., h | .pointer .., h | .slice .., h | .map .., h | .chan .., h | .func .., h | .nilFunc, h | .iface .., h | .nilIface, h | .tuple .., h => by simp [kbits] at h
theorem kbitsA_closed : ∀ a, kbitsA a a = true → closedArr a = true
  | ⟨x⟩, h => by
    simp only [kbitsA] at h
    simp only [closedArr]
    exact kbitsL_closed x h
theorem kbitsL_closed : ∀ a, kbitsL a a = true → closedL a = true
  | [], _ => rfl
  | v :: l, h => by
    simp only [kbitsL, Bool.and_eq_true] at h
    simp only [closedL, kbits_closed v h.1, kbitsL_closed l h.2, Bool.and_self]
end

theorem any_kbits {k : Value} (hk : kbits k k = true) {ks : List Value} : ks.any (kbits k) = true ↔ k ∈ ks := by
  rw [List.any_eq_true]
  constructor
  · rintro ⟨x, hx, q⟩; rw [kbits_sound _ _ q]; exact hx
  · intro hx; exact ⟨k, hx, hk⟩

theorem zip_left : ∀ {es : List (Value × Value)} {vs : List Value}, renL ρ (es.map (·.2)) = some vs → ∀ p ∈ (es.map (·.1)).zip vs, ∃ x ∈ es, p.1 = x.1 ∧ ren ρ x.2 = some p.2
  | [], vs, _, p, hp => by simp at hp
  | x :: es, vs, hv, p, hp => by
    simp only [List.map_cons] at hv hp
    obtain ⟨v', l', h1, h2, rfl⟩ := renL_cons.1 hv
    rcases List.mem_cons.1 hp with rfl | hp
    · exact ⟨x, by simp, rfl, h1⟩
    · obtain ⟨y, hy, q⟩ := zip_left h2 p hp
      exact ⟨y, by simp [hy], q⟩
theorem zip_right : ∀ {es : List (Value × Value)} {vs : List Value}, renL ρ (es.map (·.2)) = some vs → ∀ x ∈ es, ∃ v', (x.1, v') ∈ (es.map (·.1)).zip vs ∧ ren ρ x.2 = some v'
  | [], vs, _, x, hx => by simp at hx
  | y :: es, vs, hv, x, hx => by
    simp only [List.map_cons] at hv ⊢
    obtain ⟨v', l', h1, h2, rfl⟩ := renL_cons.1 hv
    rcases List.mem_cons.1 hx with rfl | hx
    · exact ⟨v', by simp, h1⟩
    · obtain ⟨u, hu, q⟩ := zip_right h2 x hx
      exact ⟨u, by simp [hu], q⟩

/-- A map, as it is known and as it is. -/
theorem amap_ok (H : WR G ρ h w) {x x' : Value} {r v : Nat} {es : List (Value × Value)} (hm : amapOf h x = some (r, es, v)) (hx : ren ρ x = some x') :
    h.get r = some (.mp es v) ∧ ∃ b ents, ρ.blk r = some b ∧ x' = .map (some b) ∧ w.heap[b]? = some (.map ents (ρ.st v).2) ∧ (∃ vs, renL ρ (es.map (·.2)) = some vs ∧ ((es.map (·.1)).zip vs).Perm (prs ents.toList)) ∧
      (∃ b0, ρ.blk v = some b0) ∧ StOK (ρ.st v).1 (ρ.st v).2 ∧ ∀ e ∈ ents.toList, (e.key, e.born) ∈ (ρ.st v).1 := by
  unfold amapOf at hm
  split at hm
  case h_2 => cases hm
  rename_i r0
  split at hm
  case h_2 => cases hm
  rename_i es0 v0 hg
  cases hm
  refine ⟨hg, ?_⟩
  simp only [ren, Option.map_eq_some_iff] at hx
  obtain ⟨b, hb, rfl⟩ := hx
  obtain ⟨b', y, q1, q2, q3⟩ := H.obj _ _ hg
  rw [hb] at q1; cases q1
  cases y <;> simp only [ObjR] at q3
  rename_i ents clock
  obtain ⟨h1, h2, rfl, h4, h5⟩ := q3
  exact ⟨b, ents, hb, rfl, q2, h1, h2, h4, h5⟩

theorem mtype_ok {t k el : TypeId} (h : mtype P t = some (k, el)) : P.underlying t = some (.map k el) := by
  unfold mtype at h
  split at h
  · rename_i h1; cases h; exact h1
  · cases h

theorem empty_eq {es : List (Value × Value)} {vs : List Value} (hv : renL ρ (es.map (·.2)) = some vs) {ents : Array MapEntry} (hp : ((es.map (·.1)).zip vs).Perm (prs ents.toList)) : ents.isEmpty = es.isEmpty ∧ ents.size = es.length := by
  have hl := hp.length_eq
  have hl2 := renL_length hv
  simp only [List.length_zip, List.length_map, prs] at hl hl2
  have : ents.size = es.length := by
    have e1 : ents.toList.length = ents.size := by simp
    omega
  refine ⟨?_, this⟩
  cases es with
  | nil => simp at this; simp [this]
  | cons x es => simp [Array.isEmpty, this]

theorem gobj_map {b : Nat} {ents : Array MapEntry} {c : Nat} (hb : w.heap[b]? = some (.map ents c)) : (getObj b).run P w = .ok (.map ents c) w := by simp [getObj, Sem.run, hb]
theorem sobj_map {b : Nat} {ents : Array MapEntry} {c : Nat} (hb : w.heap[b]? = some (.map ents c)) (o : Obj) : (setObj b o).run P w = .ok () { w with heap := w.heap.setIfInBounds b o } := by simp [setObj, Sem.run, hb]

theorem makeMap_ok (H : WR G ρ h w) {t : TypeId} {hint : Option Value} {r : Value × AH} (ha : amakeMap h hint = some r) (ht : (mtype P t).isSome = true) {hint' : Option Value} (hh : ∀ v, hint = some v → ∃ v', hint' = some v' ∧ ren ρ v = some v') (hn : hint = none → hint' = none) :
    RunAt P G ρ h w (Instr.makeMap t hint') r := by
  have key : RunAt P G ρ h w (do pure (.map (some (← newObj (.map #[] 0)))) : Sem Value) (.map (some (h.next + 1)), h.bump.push (.mp [] h.next)) := by
    have W1 := H.ver ([], 0)
    have E1 := Ext.ver H ([], 0)
    have hfresh := W1.fresh h.bump.next (Nat.le_refl _)
    have hst : (ρ.bindS h.next ([], 0)).st h.next = ([], 0) := by simp [Rho.bindS]
    have hbl : (ρ.bindS h.next ([], 0)).blk h.next = some 0 := by simp [Rho.bindS]
    have hne : h.next ≠ h.next + 1 := by omega
    refine ⟨(ρ.bindS h.next ([], 0)).bind h.bump.next w.heap.size none, .map (some w.heap.size), { w with heap := w.heap.push (.map #[] 0) }, ?_, ?_, ?_, ?_⟩
    · refine W1.alloc _ (.map #[] 0) none rfl ?_
      simp only [ObjR]
      refine ⟨⟨[], by simp [renL], by simp⟩, ⟨0, by simp [Rho.bind, hbl]⟩, by simp [Rho.bind, hst], by simp [Rho.bind, hst, StOK], by simp⟩
    · exact E1.trans (Ext.alloc W1 _ _ none rfl rfl rfl rfl)
    · simp [ren, Rho.bind]
    · simp [newObj, Sem.run]
  obtain ⟨⟨kt, et⟩, hkt⟩ := Option.isSome_iff_exists.1 ht
  have hu := mtype_ok hkt
  unfold amakeMap at ha
  split at ha
  · cases ha
    rw [hn rfl]
    exact key
  · rename_i k n
    cases ha
    obtain ⟨v', hv', hr⟩ := hh _ rfl
    have := ren_int hr
    subst this
    rw [hv']
    obtain ⟨ρ', v', w', k1, k2, k3, k4⟩ := key
    refine ⟨ρ', v', w', k1, k2, k3, ?_⟩
    have hai : (asInt (.int k n)).run P w = .ok n w := by simp [asInt, asIntOf]
    simp only [Instr.makeMap, Sem.run_bind, run_underlying hu, Result.andThen_ok, hai]
    simpa [Sem.run_bind] using k4
  · cases ha

theorem lookup_ok (H : WR G ρ h w) {t : TypeId} {x k x' : Value} {ok : Bool} {v : Value} (ha : alookup P h t x k ok = some v) (hx : ren ρ x = some x') : ∃ v', ren ρ v = some v' ∧ (Instr.lookup t x' k ok).run P w = .ok v' w := by
  unfold alookup at ha
  split at ha
  case h_2 => cases ha
  rename_i kt et r es ver hmt hmo
  have hu := mtype_ok hmt
  obtain ⟨hg, b, ents, hb, rfl, hw, ⟨vs, h1, h2⟩, _, _, _⟩ := amap_ok H hmo hx
  split at ha
  case isFalse => cases ha
  rename_i hk
  split at ha
  case h_2 => cases ha
  rename_i q hq
  obtain ⟨f1, f2⟩ := find_ok hq h1 h2 w
  have hck := kok_run hk w
  rw [← (empty_eq h1 h2).1] at hck
  split at ha
  · rename_i a y b0 hs
    cases ha
    obtain ⟨va, y', vb, pre, e, post, _, _, g3, _, g5, g6, g7, g8, _⟩ := f2 _ _ _ hs
    refine ⟨if ok then .tuple #[y', .bool true] else y', by cases ok <;> simp [ren, renArr, renL, g3], ?_⟩
    simp only [Instr.lookup, Sem.run_bind, run_underlying hu, Result.andThen_ok, gobj_map hw, hck, g8, Sem.run_pure]
  · rename_i hs
    obtain ⟨z, hz, ha⟩ := Option.bind_eq_some_iff.1 ha
    split at ha
    case isFalse => cases ha
    rename_i hc
    cases ha
    have hzr := closed_ren ρ z hc
    refine ⟨if ok then .tuple #[z, .bool false] else z, by cases ok <;> simp [ren, renArr, renL, hzr], ?_⟩
    simp only [Instr.lookup, Sem.run_bind, run_underlying hu, Result.andThen_ok, gobj_map hw, hck, f1 hs, run_zero hz, Sem.run_pure]
  · cases ha

theorem mod_mid {e : MapEntry} {post : List MapEntry} (f : MapEntry → MapEntry) : ∀ (pre : List MapEntry), (pre ++ e :: post).modify pre.length f = pre ++ f e :: post
  | [] => rfl
  | a :: l => by simp [mod_mid f l]
theorem modify_mid {pre post : List MapEntry} {e : MapEntry} {ents : Array MapEntry} (h : ents.toList = pre ++ e :: post) (f : MapEntry → MapEntry) : (ents.modify pre.length f).toList = pre ++ f e :: post := by
  rw [Array.toList_modify, h, mod_mid]

theorem mem_mid {pre post : List MapEntry} {e x : MapEntry} (h : x ∈ pre ++ post) : x ∈ pre ++ e :: post := by
  rcases List.mem_append.1 h with h | h
  · exact List.mem_append_left _ h
  · exact List.mem_append_right _ (List.mem_cons_of_mem _ h)

theorem mapUpdate_ok (H : WR G ρ h w) {t : TypeId} {m k x m' x' : Value} {h' : AH} (ha : amapUpdate P h t m k x = some h') (hm : ren ρ m = some m') (hx : ren ρ x = some x') :
    ∃ ρ' w', WR G ρ' h' w' ∧ Ext ρ h w ρ' h' w' ∧ (Instr.mapUpdate t m' k x').run P w = .ok () w' := by
  unfold amapUpdate at ha
  split at ha
  case h_2 => cases ha
  rename_i kt et r es ver hmt hmo
  have hu := mtype_ok hmt
  obtain ⟨hg, b, ents, hb, rfl, hw, ⟨vs, h1, h2⟩, ⟨b0, hver⟩, hst, hent⟩ := amap_ok H hmo hm
  split at ha
  case isFalse => cases ha
  rename_i hk
  split at ha
  case h_2 => cases ha
  rename_i q hq
  obtain ⟨f1, f2⟩ := find_ok hq h1 h2 w
  have hck := kok_run hk w
  split at ha
  · rename_i a y c hs
    split at ha
    case isFalse => cases ha
    rename_i hkb
    simp only [Bool.and_eq_true] at hkb
    have hyk := kbits_sound _ _ hkb.1
    cases ha
    obtain ⟨va, y', vb, pre, e, post, rfl, g1, g3, g4, g5, g6, g7, g8, g9⟩ := f2 _ _ _ hs
    have hee : ents[pre.length]? = some e := by
      have : ents.toList[pre.length]? = some e := by rw [g5]; simp
      simpa using this
    have hmod := modify_mid g5 (fun e => { e with key := k, val := x' })
    have hrun : (Instr.mapUpdate t (.map (some b)) k x').run P w = .ok () { w with heap := w.heap.setIfInBounds b (.map (ents.modify pre.length fun e => { e with key := k, val := x' }) (ρ.st ver).2) } := by
      have hstay : ((Instr.keyThatStays e.key k).run P w) = .ok k w := by simp [Instr.keyThatStays, g6, hkb.2]
      simp only [Instr.mapUpdate, Sem.run_bind, run_underlying hu, Result.andThen_ok, gobj_map hw, hck, g8, hee, Option.map_some, Option.getD_some, hstay, sobj_map hw]
    refine ⟨ρ, _, ?_, ?_, hrun⟩
    rotate_left
    · exact Ext.set H hg rfl hb rfl rfl rfl rfl
    refine H.set hg hb rfl ?_
    simp only [ObjR]
    refine ⟨⟨va ++ x' :: vb, ?_, ?_⟩, ⟨b0, hver⟩, trivial, hst, ?_⟩
    · simp only [List.map_append, List.map_cons]
      exact renL_append.2 ⟨_, _, g1, renL_cons.2 ⟨_, _, hx, g4, rfl⟩, rfl⟩
    · have hla := renL_length g1
      have z1 : ((a ++ (y.1, x) :: c).map (·.1)).zip (va ++ x' :: vb) = (a.map (·.1)).zip va ++ (y.1, x') :: (c.map (·.1)).zip vb := by
        rw [List.map_append, List.zip_append (by simpa using hla.symm)]
        rfl
      have z2 : ((a ++ c).map (·.1)).zip (va ++ vb) = (a.map (·.1)).zip va ++ (c.map (·.1)).zip vb := by
        rw [List.map_append, List.zip_append (by simpa using hla.symm)]
      rw [z1, hmod]
      rw [z2] at g9
      have e1 : prs (pre ++ { e with key := k, val := x' } :: post) = prs pre ++ (y.1, x') :: prs post := by simp [prs, hyk]
      have e2 : prs (pre ++ post) = prs pre ++ prs post := by simp [prs]
      rw [e2] at g9
      rw [show (List.map (fun e => (e.key, e.val)) (pre ++ { e with key := k, val := x' } :: post)) = prs pre ++ (y.1, x') :: prs post from e1]
      exact (List.perm_middle.trans (List.Perm.cons _ g9)).trans List.perm_middle.symm
    · intro z hz
      rw [hmod] at hz
      rcases List.mem_append.1 hz with hz | hz
      · exact hent z (by rw [g5]; exact List.mem_append_left _ hz)
      · rcases List.mem_cons.1 hz with rfl | hz
        · have := hent e (by rw [g5]; simp)
          rw [g6, hyk] at this
          exact this
        · exact hent z (by rw [g5]; exact List.mem_append_right _ (List.mem_cons_of_mem _ hz))
  · rename_i hs
    split at ha
    case isFalse => cases ha
    rename_i hnew
    simp only [Bool.and_eq_true, List.all_eq_true, Bool.not_eq_true'] at hnew
    cases ha
    have hkn : ∀ z ∈ ents.toList, z.key ≠ k := fun z hz hzk => by
      have : (z.key, z.val) ∈ (es.map (·.1)).zip vs := h2.mem_iff.2 (List.mem_map.2 ⟨z, hz, rfl⟩)
      obtain ⟨y, hy, q1, _⟩ := zip_left h1 _ this
      have := hnew.2 y hy
      simp only at q1
      rw [← q1, hzk, hnew.1] at this
      cases this
    let s : List (Value × Nat) × Nat := ((k, (ρ.st ver).2) :: ents.toList.map (fun e => (e.key, e.born)), (ρ.st ver).2 + 1)
    have W1 := H.ver s
    have E1 := Ext.ver H s
    have hle := E1.le
    have hg' : h.bump.get r = some (.mp es ver) := hg
    have hb' := (hle _ _ hb).1
    have hst1 : (ρ.bindS h.next s).st h.next = s := by simp [Rho.bindS]
    have hrun : (Instr.mapUpdate t (.map (some b)) k x').run P w = .ok () { w with heap := w.heap.setIfInBounds b (.map (ents.push { key := k, val := x', born := (ρ.st ver).2 }) ((ρ.st ver).2 + 1)) } := by
      simp only [Instr.mapUpdate, Sem.run_bind, run_underlying hu, Result.andThen_ok, gobj_map hw, hck, f1 hs, sobj_map hw]
    refine ⟨ρ.bindS h.next s, _, ?_, ?_, hrun⟩
    rotate_left
    · exact E1.trans (Ext.set W1 hg' rfl hb' rfl rfl rfl rfl)
    refine W1.set hg' hb' rfl ?_
    simp only [ObjR, hst1]
    refine ⟨⟨x' :: vs, ?_, ?_⟩, ⟨0, by simp [Rho.bindS]⟩, rfl, ⟨?_, ?_⟩, ?_⟩
    · exact renL_cons.2 ⟨_, _, ren_mono hle _ _ hx, renL_mono hle _ _ h1, rfl⟩
    · simp only [List.map_cons, List.zip_cons_cons, Array.toList_push, List.map_append, List.map_nil]
      exact (List.Perm.cons _ h2).trans (List.perm_append_singleton _ _).symm
    · have hold : ∀ p ∈ ents.toList.map (fun e => (e.key, e.born)), ∃ z ∈ ents.toList, p = (z.key, z.born) := fun p hp => by
        obtain ⟨z, hz, q⟩ := List.mem_map.1 hp
        exact ⟨z, hz, q.symm⟩
      intro p hp q hq
      rcases List.mem_cons.1 hp with rfl | hp <;> rcases List.mem_cons.1 hq with rfl | hq
      · simp
      · obtain ⟨z, hz, rfl⟩ := hold q hq
        have := hst.2 _ (hent z hz)
        simp only at this ⊢
        exact ⟨fun q => by omega, fun q => absurd q.symm (hkn z hz)⟩
      · obtain ⟨z, hz, rfl⟩ := hold p hp
        have := hst.2 _ (hent z hz)
        simp only at this ⊢
        exact ⟨fun q => by omega, fun q => absurd q (hkn z hz)⟩
      · obtain ⟨z, hz, rfl⟩ := hold p hp
        obtain ⟨u, hu', rfl⟩ := hold q hq
        exact hst.1 _ (hent z hz) _ (hent u hu')
    · intro p hp
      rcases List.mem_cons.1 hp with rfl | hp
      · simp
      · obtain ⟨z, hz, rfl⟩ := List.mem_map.1 hp
        have := hst.2 _ (hent z hz)
        simp only at this ⊢
        omega
    · intro z hz
      simp only [Array.toList_push, List.mem_append, List.mem_singleton] at hz
      rcases hz with hz | rfl
      · exact List.mem_cons_of_mem _ (List.mem_map.2 ⟨z, hz, rfl⟩)
      · exact List.mem_cons_self ..
  · cases ha

theorem erase_mid {pre post : List MapEntry} {e : MapEntry} {ents : Array MapEntry} (h : ents.toList = pre ++ e :: post) : (ents.eraseIdxIfInBounds pre.length).toList = pre ++ post := by
  have hlt : pre.length < ents.size := by
    have : ents.toList.length = ents.size := by simp
    rw [h] at this; simp at this; omega
  unfold Array.eraseIdxIfInBounds
  rw [dif_pos hlt, Array.toList_eraseIdx, h]
  have key : ∀ (l : List MapEntry), (l ++ e :: post).eraseIdx l.length = l ++ post := by
    intro l
    induction l with
    | nil => rfl
    | cons a l ih => simp [ih]
  exact key pre

theorem delete_ok (H : WR G ρ h w) {t u ty : TypeId} {m k m' : Value} {h' : AH} (ha : adelete P h t m k = some h') (hm : ren ρ m = some m') :
    RunAt P G ρ h w (Builtin.delete_ #[t, u] ty #[m', k]) (.tuple #[], h') := by
  unfold adelete at ha
  split at ha
  case h_2 => cases ha
  rename_i kt et r es ver hmt hmo
  have hu := mtype_ok hmt
  obtain ⟨hg, b, ents, hb, rfl, hw, ⟨vs, h1, h2⟩, ⟨b0, hver⟩, hst, hent⟩ := amap_ok H hmo hm
  split at ha
  case isFalse => cases ha
  rename_i hk
  split at ha
  case h_2 => cases ha
  rename_i q hq
  obtain ⟨f1, f2⟩ := find_ok hq h1 h2 w
  have hck := kok_run hk w
  rw [← (empty_eq h1 h2).1] at hck
  split at ha
  · rename_i a y c hs
    cases ha
    obtain ⟨va, y', vb, pre, e, post, rfl, g1, g3, g4, g5, g6, g7, g8, g9⟩ := f2 _ _ _ hs
    have hmod := erase_mid g5
    have hrun : (Builtin.delete_ #[t, u] ty #[.map (some b), k]).run P w = .ok (.tuple #[]) { w with heap := w.heap.setIfInBounds b (.map (ents.eraseIdxIfInBounds pre.length) (ρ.st ver).2) } := by
      simp only [Builtin.delete_, List.getElem?_toArray, List.getElem?_cons_zero, List.getElem?_cons_succ, Sem.run_bind, run_underlying hu, Result.andThen_ok, gobj_map hw, hck, g8, sobj_map hw, Sem.run_pure]
    refine ⟨ρ, .tuple #[], _, ?_, ?_, by simp [ren, renArr, renL], hrun⟩
    rotate_left
    · exact Ext.set H hg rfl hb rfl rfl rfl rfl
    refine H.set hg hb rfl ?_
    simp only [ObjR]
    refine ⟨⟨va ++ vb, ?_, ?_⟩, ⟨b0, hver⟩, trivial, hst, ?_⟩
    · simp only [List.map_append]
      exact renL_append.2 ⟨_, _, g1, g4, rfl⟩
    · rw [hmod]; exact g9
    · intro z hz
      rw [hmod] at hz
      exact hent z (by rw [g5]; exact mem_mid hz)
  · rename_i hs
    cases ha
    have hset : w.heap.setIfInBounds b (.map ents (ρ.st ver).2) = w.heap := setIf_self hw
    have hrun : (Builtin.delete_ #[t, u] ty #[.map (some b), k]).run P w = .ok (.tuple #[]) w := by
      simp only [Builtin.delete_, List.getElem?_toArray, List.getElem?_cons_zero, List.getElem?_cons_succ, Sem.run_bind, run_underlying hu, Result.andThen_ok, gobj_map hw, hck, f1 hs, sobj_map hw, Sem.run_pure, hset]
    exact ⟨ρ, .tuple #[], w, H, Ext.refl _ _ _, by simp [ren, renArr, renL], hrun⟩
  · cases ha

theorem rangeMap_ok (H : WR G ρ h w) {t : TypeId} {x x' : Value} {r : Value × AH} (ha : arangeMap h x = some r) (ht : (mtype P t).isSome = true) (hx : ren ρ x = some x') : RunAt P G ρ h w (Instr.range t x') r := by
  obtain ⟨⟨kt, et⟩, hkt⟩ := Option.isSome_iff_exists.1 ht
  have hu := mtype_ok hkt
  unfold arangeMap at ha
  split at ha
  · cases ha
    simp [ren] at hx; subst hx
    refine ⟨ρ.bind h.next w.heap.size none, .pointer (some ⟨w.heap.size, 0, none⟩), { w with heap := w.heap.push (.mapIter none 0 #[] 0) }, H.alloc _ _ none rfl (by simp [ObjR]), Ext.alloc H _ _ none rfl rfl rfl rfl, by simp [ren, ren_new], ?_⟩
    simp [Instr.range, run_underlying hu]
  · rename_i r0
    split at ha
    case h_2 => cases ha
    rename_i es ver hg
    cases ha
    obtain ⟨_, b, ents, hb, rfl, hw, _, ⟨b0, hver⟩, _, _⟩ := amap_ok H (x := .map (some r0)) (r := r0) (es := es) (v := ver) (by simp [amapOf, hg]) hx
    have hfresh := H.fresh h.next (Nat.le_refl _)
    have hle := Rho.le_bind hfresh w.heap.size none
    refine ⟨ρ.bind h.next w.heap.size none, .pointer (some ⟨w.heap.size, 0, none⟩), { w with heap := w.heap.push (.mapIter (some b) (ρ.st ver).2 #[] (ρ.st ver).2) }, H.alloc _ _ none rfl ?_, Ext.alloc H _ _ none rfl rfl rfl rfl, by simp [ren, ren_new], ?_⟩
    · simp only [ObjR]
      exact ⟨⟨b, (hle _ _ hb).1, rfl⟩, ⟨b0, (hle _ _ hver).1⟩, rfl, trivial, by simp, by simp⟩
    · simp [Instr.range, run_underlying hu, gobj_map hw]
  · cases ha

/-- All that an iterator may say next. -/
def anexts (h : AH) (v : Value) : Option (List (Value × AH)) :=
  match v with
  | .pointer (some ⟨r, 0, _⟩) => match h.get r with
    | some (.mit none _ _) => some [(.tuple #[.bool false], h)]
    | some (.mit (some m) ver ks) => match h.get m with
      | some (.mp es ver') =>
        if ver.beq ver' && es.all (fun e => kbits e.1 e.1) then
          match aleft ks es with
          | [] => some [(.tuple #[.bool false], h)]
          | l => some (l.map fun e => (.tuple #[.bool true, e.1, e.2], h.put r (some (.mit (some m) ver (e.1 :: ks)))))
        else none
      | _ => none
    | _ => none
  | _ => none

theorem next_any (H : WR G ρ h w) {v v' : Value} {l : List (Value × AH)} (hn : anexts h v = some l) (hv : ren ρ v = some v') (ty : TypeId) :
    ∃ r ∈ l, RunAt P G ρ h w (Instr.next v' false ty) r := by
  unfold anexts at hn
  split at hn
  case h_2 => cases hn
  rename_i r0 sp
  obtain ⟨b, hb, rfl⟩ := ren_ptr hv
  obtain ⟨hs, hbf, hblk⟩ := renA_form hb
  simp only at hs hbf hblk
  rw [hbf]
  split at hn
  case h_3 => cases hn
  · rename_i v0 ks0 hg
    cases hn
    obtain ⟨b', y, q1, q2, q3⟩ := H.obj _ _ hg
    rw [hblk] at q1; cases q1
    cases y <;> simp only [ObjR] at q3
    subst q3
    refine ⟨_, List.mem_singleton.2 rfl, ρ, .tuple #[.bool false], w, H, Ext.refl _ _ _, by simp [ren, renArr, renL], ?_⟩
    simp [Instr.next, getObj, Sem.run, q2]
  · rename_i m ver ks hg
    split at hn
    case h_2 => cases hn
    rename_i es ver' hgm
    split at hn
    case isFalse => cases hn
    rename_i hcond
    simp only [Bool.and_eq_true, List.all_eq_true] at hcond
    obtain ⟨hvv, hself⟩ := hcond
    have hvv := Nat.eq_of_beq_eq_true hvv
    subst hvv
    obtain ⟨b', y, q1, q2, q3⟩ := H.obj _ _ hg
    rw [hblk] at q1; cases q1
    cases y <;> simp only [ObjR] at q3
    rename_i mm since seen last
    obtain ⟨⟨bm, hbm, rfl⟩, ⟨b0, hver⟩, rfl, rfl, hseen, hback⟩ := q3
    obtain ⟨bm', z, p1, p2, p3⟩ := H.obj _ _ hgm
    rw [hbm] at p1; cases p1
    cases z <;> simp only [ObjR] at p3
    rename_i ents clock
    obtain ⟨⟨vs, h1, h2⟩, _, rfl, hst, hent⟩ := p3
    have hold : ∀ x ∈ ents.toList, x.born < (ρ.st ver).2 := fun x hx => hst.2 _ (hent x hx)
    have hks : ∀ e ∈ ents.toList, (seen.contains e.born = true ↔ e.key ∈ ks) := fun e he => by
      rw [← hseen e.key e.born (hent e he)]
      simp
    have hleftM : ∀ e, e ∈ (leftOf ents seen).toList ↔ e ∈ ents.toList ∧ seen.contains e.born = false := fun e => by simp [leftOf]
    have habs : ∀ e ∈ (leftOf ents seen).toList, ∃ x ∈ aleft ks es, e.key = x.1 ∧ ren ρ x.2 = some e.val := fun e he => by
      obtain ⟨he1, he2⟩ := (hleftM e).1 he
      have hz : (e.key, e.val) ∈ (es.map (·.1)).zip vs := h2.mem_iff.2 (List.mem_map.2 ⟨e, he1, rfl⟩)
      obtain ⟨x, hx, k1, k2⟩ := zip_left h1 _ hz
      refine ⟨x, List.mem_filter.2 ⟨hx, ?_⟩, k1, k2⟩
      simp only [Bool.not_eq_true']
      cases q : ks.any (kbits x.1) with
      | false => rfl
      | true =>
        have := (any_kbits (hself x hx)).1 q
        rw [← k1] at this
        have := (hks e he1).2 this
        rw [he2] at this; cases this
    rcases run_next_at (P := P) w ty b.block bm (ρ.st ver).2 (ρ.st ver).2 seen ents (ρ.st ver).2 q2 p2 hold (Nat.le_refl _) with ⟨hz, hrun⟩ | ⟨e, he, w1, hw1, hrun⟩
    · have hnil : aleft ks es = [] := by
        cases hal : aleft ks es with
        | nil => rfl
        | cons x l0 =>
          exfalso
          have hx : x ∈ aleft ks es := by rw [hal]; simp
          obtain ⟨hx1, hx2⟩ := List.mem_filter.1 hx
          simp only [Bool.not_eq_true'] at hx2
          obtain ⟨v', k1, k2⟩ := zip_right h1 x hx1
          obtain ⟨e, he, k3⟩ := List.mem_map.1 (h2.mem_iff.1 k1)
          have hk : e.key = x.1 := congrArg Prod.fst k3
          have hnk : ¬ e.key ∈ ks := fun q => by
            rw [hk] at q
            rw [(any_kbits (hself x hx1)).2 q] at hx2; cases hx2
          have hc : seen.contains e.born = false := by
            cases q : seen.contains e.born with
            | false => rfl
            | true => exact absurd ((hks e he).1 q) hnk
          have : e ∈ (leftOf ents seen).toList := (hleftM e).2 ⟨he, hc⟩
          have hs0 : (leftOf ents seen).toList.length = 0 := by simpa using hz
          rw [List.eq_nil_of_length_eq_zero hs0] at this
          cases this
      rw [hnil] at hn
      cases hn
      exact ⟨_, List.mem_singleton.2 rfl, ρ, .tuple #[.bool false], w, H, Ext.refl _ _ _, by simp [ren, renArr, renL], hrun⟩
    · obtain ⟨x, hx, hk, hxv⟩ := habs e he
      have hlist : l = (aleft ks es).map fun e => (.tuple #[.bool true, e.1, e.2], h.put r0 (some (.mit (some m) ver (e.1 :: ks)))) := by
        cases hal : aleft ks es with
        | nil => rw [hal] at hx; cases hx
        | cons y l0 => rw [hal] at hn; simpa using hn.symm
      subst hlist
      have hx1 := (List.mem_filter.1 hx).1
      have hkc : ren ρ e.key = some e.key := by
        have : kbits e.key e.key = true := by rw [hk]; exact hself x hx1
        exact closed_ren ρ _ (kbits_closed _ this)
      refine ⟨_, List.mem_map.2 ⟨x, hx, rfl⟩, ρ, .tuple #[.bool true, e.key, e.val], _, ?_, ?_, ?_, hrun⟩
      · have he1 := ((hleftM e).1 he).1
        have hW : WR G ρ h w1 := hw1.elim (fun q => q ▸ H) (fun q => q ▸ H.drawn _)
        refine hW.set hg hblk rfl ?_
        simp only [ObjR]
        refine ⟨⟨bm, hbm, rfl⟩, ⟨b0, hver⟩, trivial, trivial, fun k n hkn => ?_, fun k0 r1 hk0 => ?_⟩
        · have h5 := hseen k n hkn
          have h6 := hst.1 _ hkn _ (hent e he1)
          simp only at h6
          simp only [Array.toList_push, List.mem_append, List.mem_cons, List.not_mem_nil, or_false, h5, h6, ← hk]
          exact Or.comm
        · cases hk0
          refine ⟨e.born, by simp, ?_⟩
          rw [← hk]; exact hent e he1
      · have hE : Ext ρ h w ρ h w1 := hw1.elim (fun q => q ▸ Ext.refl _ _ _) (fun q => q ▸ Ext.drawn _ _ _ _)
        have hW : WR G ρ h w1 := hw1.elim (fun q => q ▸ H) (fun q => q ▸ H.drawn _)
        exact hE.trans (Ext.set hW hg rfl hblk rfl rfl rfl rfl)
      · simp [ren, renArr, renL, hxv, ← hk, hkc]

def anextMap (h : AH) (v : Value) : Option (Value × AH) := match anexts h v with
  | some [r] => some r
  | _ => none

theorem nextMap_ok (H : WR G ρ h w) {v v' : Value} {r : Value × AH} (hn : anextMap h v = some r) (hv : ren ρ v = some v') (ty : TypeId) : RunAt P G ρ h w (Instr.next v' false ty) r := by
  unfold anextMap at hn
  split at hn
  · rename_i r0 hl
    cases hn
    obtain ⟨r1, hr, hrun⟩ := next_any (P := P) H hl hv ty
    rw [List.mem_singleton.1 hr] at hrun
    exact hrun
  · cases hn

/-- The round's key and value. -/
def aentry (h : AH) (v : Value) : Option Value :=
  match v with
  | .pointer (some ⟨r, 0, _⟩) => match h.get r with
    | some (.mit (some m) ver (k :: _)) => match h.get m with
      | some (.mp es ver') => if ver.beq ver' && kbits k k then
          match asplit (fun x => some (kbits x k)) es with
          | some (some (_, y, _)) => some (.tuple #[y.1, y.2])
          | _ => none
        else none
      | _ => none
    | _ => none
  | _ => none

theorem entry_ok (H : WR G ρ h w) {v v' x : Value} (hn : aentry h v = some x) (hv : ren ρ v = some v') : ∃ x', ren ρ x = some x' ∧ (Instr.entry v').run P w = .ok x' w := by
  unfold aentry at hn
  split at hn
  case h_2 => cases hn
  rename_i r0 sp
  obtain ⟨b, hb, rfl⟩ := ren_ptr hv
  obtain ⟨hs, hbf, hblk⟩ := renA_form hb
  simp only at hs hbf hblk
  rw [hbf]
  split at hn
  case h_2 => cases hn
  rename_i m ver k ks hg
  split at hn
  case h_2 => cases hn
  rename_i es ver' hgm
  split at hn
  case isFalse => cases hn
  rename_i hcond
  simp only [Bool.and_eq_true] at hcond
  obtain ⟨hvv, hself⟩ := hcond
  have hvv := Nat.eq_of_beq_eq_true hvv
  subst hvv
  split at hn
  case h_2 => cases hn
  rename_i a y c hs2
  cases hn
  obtain ⟨rfl, g2, g3⟩ := asplit_some hs2
  simp only [Option.some.injEq] at g2
  have hyk := kbits_sound _ _ g2
  obtain ⟨b', z, q1, q2, q3⟩ := H.obj _ _ hg
  rw [hblk] at q1; cases q1
  cases z <;> simp only [ObjR] at q3
  rename_i mm since seen last
  obtain ⟨⟨bm, hbm, rfl⟩, ⟨b0, hver⟩, rfl, rfl, hseen, hback⟩ := q3
  obtain ⟨bm', u, p1, p2, p3⟩ := H.obj _ _ hgm
  rw [hbm] at p1; cases p1
  cases u <;> simp only [ObjR] at p3
  rename_i ents clock
  obtain ⟨⟨vs, h1, h2⟩, _, rfl, hst, hent⟩ := p3
  obtain ⟨n, hn1, hn2⟩ := hback k ks rfl
  obtain ⟨v1, k1, k2⟩ := zip_right h1 y (by simp)
  obtain ⟨e, he, k3⟩ := List.mem_map.1 (h2.mem_iff.1 k1)
  have hk : e.key = y.1 := congrArg Prod.fst k3
  have hv1 : e.val = v1 := congrArg Prod.snd k3
  have hborn : e.born = n := by
    have := (hst.1 _ (hent e he) _ hn2).2 (by simp only; rw [hk, hyk])
    exact this
  have hfind : ents.find? (·.born == n) = some e := by
    have h0 : (ents.find? (·.born == n)).isSome = true := by
      rw [Array.find?_isSome]
      exact ⟨e, by simpa using he, by simp [hborn]⟩
    obtain ⟨e2, he2⟩ := Option.isSome_iff_exists.1 h0
    have hm2 : e2 ∈ ents.toList := by simpa using Array.mem_of_find?_eq_some he2
    have hb2 : e2.born = n := by simpa using Array.find?_some he2
    have hkey : e2.key = e.key := (hst.1 _ (hent e2 hm2) _ (hent e he)).1 (by simp only; rw [hb2, hborn])
    have hz2 : (e2.key, e2.val) ∈ (List.map (·.1) (a ++ y :: c)).zip vs := h2.mem_iff.2 (List.mem_map.2 ⟨e2, hm2, rfl⟩)
    simp only [List.map_append, List.map_cons] at h1
    obtain ⟨va, vb0, r1, r2, rfl⟩ := renL_append.1 h1
    obtain ⟨y', vb, r3, r4, rfl⟩ := renL_cons.1 r2
    have hla := renL_length r1
    have hzip : ((a ++ y :: c).map (·.1)).zip (va ++ y' :: vb) = (a.map (·.1)).zip va ++ (y.1, y') :: (c.map (·.1)).zip vb := by
      rw [List.map_append, List.zip_append (by simpa using hla.symm)]
      rfl
    have only : ∀ p ∈ (a ++ y :: c).map (·.1) |>.zip (va ++ y' :: vb), p.1 = y.1 → p = (y.1, y') := fun p hp hp1 => by
      rw [hzip] at hp
      have bad : p.1 ∈ (a ++ c).map (·.1) → False := fun hb => by
        obtain ⟨u, hu, q⟩ := List.mem_map.1 hb
        have := g3 u hu
        simp only [Option.some.injEq] at this
        rw [q, hp1, hyk, hself] at this
        cases this
      rw [List.map_append] at bad
      rcases List.mem_append.1 hp with hp | hp
      · exact (bad (List.mem_append_left _ (List.of_mem_zip (show (p.1, p.2) ∈ _ from hp)).1)).elim
      · rcases List.mem_cons.1 hp with hp | hp
        · exact hp
        · exact (bad (List.mem_append_right _ (List.of_mem_zip (show (p.1, p.2) ∈ _ from hp)).1)).elim
    have e2p := only _ hz2 (by simp only; rw [hkey, hk])
    have hz1 : (e.key, e.val) ∈ (List.map (·.1) (a ++ y :: c)).zip (va ++ y' :: vb) := h2.mem_iff.2 (List.mem_map.2 ⟨e, he, rfl⟩)
    have e1p := only _ hz1 hk
    rw [he2]
    congr 1
    have : e2.val = e.val := by
      have q1 := congrArg Prod.snd e2p
      have q2 := congrArg Prod.snd e1p
      simp only at q1 q2
      rw [q1, q2]
    cases e2; cases e
    simp only at hkey this hb2 hborn
    simp [hkey, this, hb2, hborn]
  refine ⟨.tuple #[e.key, e.val], ?_, ?_⟩
  · have hyc : ren ρ y.1 = some y.1 := closed_ren ρ _ (kbits_closed _ (by rw [hyk]; exact hself))
    simp [ren, renArr, renL, hyc, k2, hk, hv1]
  · simp only [Instr.entry, getObj, Sem.run_bind, Sem.run, q2, p2, hn1, Result.andThen_ok, bne_self_eq_false, Bool.false_eq_true, if_false, hfind]
    rfl

theorem lenMap_ok (H : WR G ρ h w) {t ty : TypeId} {x x' : Value} {r v : Nat} {es : List (Value × Value)} (hm : amapOf h x = some (r, es, v)) (ht : (mtype P t).isSome = true) (hx : ren ρ x = some x') :
    (Builtin.len_ #[t] ty #[x']).run P w = .ok (.int .i64 es.length) w := by
  obtain ⟨⟨kt, et⟩, hkt⟩ := Option.isSome_iff_exists.1 ht
  have hu := mtype_ok hkt
  obtain ⟨_, b, ents, hb, rfl, hw, ⟨vs, h1, h2⟩, _⟩ := amap_ok H hm hx
  simp [Builtin.len_, run_underlying hu, gobj_map hw, (empty_eq h1 h2).2, goInt]

/-- A slice of no elements behind the last element that is known. -/
def aslq (P : Program) (h : AH) (t : TypeId) (x : Value) (l u : Option Int) (mx : Bool) : Option (Value × AH) :=
  match P.underlying t, x, l, u with
  | some (.slice el), .slice (some a) _ c, some l, some u => match h.ocap a.block, sizeT P el with
    | some (sz, L), some s => if sz = s ∧ 0 < s ∧ mx = false ∧ c < bigC ∧ 0 ≤ l ∧ l = u ∧ (c + u.toNat) * s ≤ L then some (.chan (some h.next), h.bump) else none
    | _, _ => none
  | _, _, _, _ => none

theorem slq_ok (H : WR G ρ h w) {t : TypeId} {x x' : Value} {n c : Nat} {a : Addr} {lo hi : Option Operand} {r : Value × AH} (hce : x = .slice (some a) n c) (ha : aslq P h t x (numO e 0 lo) (numO e n hi) false = some r) (hx : ren ρ x = some x')
    (hlo : ∀ y, lo = some y → ren ρ (e y) = some (e' y)) (hhi : ∀ y, hi = some y → ren ρ (e y) = some (e' y)) : RunAt P G ρ h w (Instr.sliceAt t x' (lo.map e') (hi.map e') none) r := by
  subst hce
  unfold aslq at ha
  split at ha
  case h_2 => cases ha
  rename_i el a0 n0 c0 l u hu hq hl hh
  cases hq
  split at ha
  case h_2 => cases ha
  rename_i sz L s hoc hs
  split at ha
  case isFalse => cases ha
  rename_i hcond
  obtain ⟨rfl, hspos, _, hcb, q0, rfl, q2⟩ := hcond
  cases ha
  obtain ⟨b, c', h1, h2, rfl⟩ := ren_slice hx
  obtain ⟨C, hC, hLC⟩ := open_cap H hoc h1
  have hcu : c + l.toNat ≤ C := by
    have : (c + l.toNat) * sz ≤ C * sz := Nat.le_trans q2 hLC
    exact Nat.le_of_mul_le_mul_right this hspos
  rw [renC_rel hC hcb (by omega)] at h2
  cases h2
  have hl' := numO_ren hl hlo
  have hh' := numO_ren hh hhi
  have hb := run_bounds (P := P) (isS := true) (mx := none) (c := C - c) (m := ((C - c : Nat) : Int)) hl' hh' (.inl ⟨rfl, rfl⟩) q0 (Int.le_refl _) (by omega) (Int.le_refl _)
  simp only [Option.map_none] at hb
  let b2 : Addr := if C - c = l.toNat then b else b.add (l.toNat * sz)
  let s : List (Value × Nat) × Nat := ([(.slice (some b2) 0 (C - c - l.toNat), 0)], 0)
  refine ⟨ρ.bindS h.next s, .slice (some b2) 0 (C - c - l.toNat), w, H.ver s, Ext.ver H s, ?_, ?_⟩
  · simp only [ren, opq, Rho.bindS, if_true, s]
  · simp only [Instr.sliceAt, Sem.run_bind, run_underlying hu, Result.andThen_ok, Instr.slice, hb, run_sizeOf hs, Sem.run_pure, Option.map_some, Nat.sub_self, Int.toNat_natCast, b2]
    split <;> rfl
end
end Go.AE
namespace Go.AE
open Go

inductive AR1 where
  | val (v : Value) (h : AH)
  | enter (f : FuncId) (args : Array Value)
  | defer (d : Deferred)
  | recover
  | panic (v : Value)
  | round (l : Nat) (f : FuncId) (tmps : Array Value) (assign body : Code)

def hasBody (P : Program) (f : FuncId) : Bool :=
  match P.funcs[f]? with
  | some fn => fn.body.isSome && !(fn.name == "runtime.NumGoroutine")
  | none => false

/-- A call of a function value. -/
def acallv (P : Program) (h : AH) (f : Value) (args : Array Value) : Option AR1 :=
  match f with
  | .func (.func g) first cap => if hasBody P g then some (.enter g (first ++ args ++ cap)) else none
  | .func (.yield l) first _ => match h.get l with
    | some (.loop r) => if (first ++ args).size = r.params.size then some (.round l r.fn ((r.params.zip (first ++ args)).foldl (fun tmps (t, a) => tmps.setIfInBounds t a) r.tmps) r.assign r.body) else none
    | _ => none
  | _ => none

def pv (o : Option (Value × AH)) : Option AR1 := o.map fun r => .val r.1 r.2

/-- Operations that call, defer, panic or turn memory. -/
def aeff (P : Program) (h : AH) (e : Operand → Value) : Op → Option AR1
  | .load t x => match e x with
    | .pointer (some a) => (aload P h t a).map fun v => .val v h
    | _ => none
  | .store t x y => match e x with
    | .pointer (some a) => (astore P h t a (e y)).map fun h' => .val undef h'
    | _ => none
  | .alloc t => (azero P t).bind fun z => if closed z then some (.val (aalloc h t z).1 (aalloc h t z).2) else none
  | .box t x => some (.val (aalloc h t (e x)).1 (aalloc h t (e x)).2)
  | .buildSlice t len ps => pv (abuildSlice P h t len (ps.toList.map fun p => (p.1, e p.2)))
  | .makeSlice t l c => pv (amakeSlice P h t (e l) (e c))
  | .range t x => match P.underlying t, e x with
    | some .string, .string s => some (.val (.pointer (some ⟨h.next, 0, none⟩)) (h.push (.iter s 0)))
    | _, _ => if (mtype P t).isSome then pv (arangeMap h (e x)) else none
  | .next x b => if b then pv (anext h (e x)) else pv (anextMap h (e x))
  | .slice t x lo hi mx => match e x with
    | .slice (some a) n c => pv (aslq P h t (.slice (some a) n c) (numO e 0 lo) (numO e n hi) mx.isSome)
    | _ => none
  | .entry x => (aentry h (e x)).map fun v => .val v h
  | .makeMap t hint => if (mtype P t).isSome then pv (amakeMap h (hint.map e)) else none
  | .lookup t x k ok => (alookup P h t (e x) (e k) ok).map fun v => .val v h
  | .mapUpdate t m k x => (amapUpdate P h t (e m) (e k) (e x)).map fun h' => .val undef h'
  | .convert s d x => pv (abytes P h s d (e x))
  | .panic x => match e x with
    | .iface t v => some (.panic (.iface t v))
    | _ => none
  | .defer c => match c.callee with
    | .value f => match e f with
      | .func fn first cap => some (.defer { target := .fn fn cap, args := first ++ c.args.map e })
      | _ => none
    | _ => none
  | .call c => match c.callee with
    | .value f => acallv P h (e f) (c.args.map e)
    | .invoke r m => match e r with
      | .iface t v => if closed v then match pureRun P (method (P.types.size + Made.depth) t v m) with
          | some (f, rc) => if closed rc && hasBody P f then some (.enter f (#[rc] ++ c.args.map e)) else none
          | none => none
        else none
      | _ => none
    | .builtin b => match b, c.argTypes.toList, c.args.toList with
      | .recover, _, _ => some .recover
      | .append, [t, u], [s, x] => pv (aappend P h t u (e s) (e x))
      | .copy, [t, _], [d, s] => pv (acopy P h t (e d) (e s))
      | .clear, [t], [x] => pv (aclear P h t (e x))
      | .delete, [t, _], [m, k] => if closed (e k) then (adelete P h t (e m) (e k)).map fun h' => .val (.tuple #[]) h' else none
      | .len, [t], [x] => if (mtype P t).isSome then (amapOf h (e x)).map fun q => .val (.int .i64 q.2.1.length) h else match P.underlying t, e x with
        | some (.slice _), .chan (some _) => some (.val (.int .i64 0) h)
        | _, _ => none
      | _, _, _ => none
  | _ => none

def notSelect : Op → Bool
  | .select .. => false
  | _ => true

def aop (P : Program) (G : Nat) (h : AH) (e : Operand → Value) (o : Oper) : Option AR1 :=
  if o.op.operands.all (okOpd G) then
    match aptr P h e o.op with
    | some v => some (.val v h)
    | none => match aeff P h e o.op with
      | some r => some r
      | none => if notSelect o.op && o.op.operands.all (fun x => closed (e x)) then match pureRun P (execOp e o) with
          | some (.value v) => if closed v then some (.val v h) else none
          | _ => none
        else none
  else none

section
variable {P : Program} {G : Nat} {ρ : Rho} {h : AH} {w : World} {e e' : Operand → Value}

def OpSim (P : Program) (G : Nat) (ρ : Rho) (h : AH) (w : World) (e' : Operand → Value) (o : Oper) : AR1 → Prop
  | .val v h' => OpAt P G ρ h w e' o v h'
  | .enter f args => hasBody P f = true ∧ ∃ args', renArr ρ args = some args' ∧ (execOp e' o).run P w = .ok (.enter f args') w
  | .defer d => ∃ d', renD ρ d = some d' ∧ (execOp e' o).run P w = .ok (.defer d') w
  | .recover => (execOp e' o).run P w = .ok .recover w
  | .panic v => ∃ v', ren ρ v = some v' ∧ (execOp e' o).run P w = .halt (.panic v') w
  | .round l f tm as bo => ∃ l' tm', ρ.blk l = some l' ∧ renArr ρ tm = some tm' ∧ (execOp e' o).run P w = .ok (.round l' f tm' as bo) w

theorem run_callFunc {g : FuncId} (hb : hasBody P g = true) (args : Array Value) (w : World) : (callFunc g args).run P w = .ok (.enter g args) w := by
  unfold hasBody at hb
  cases hf : P.funcs[g]? with
  | none => simp [hf] at hb
  | some fn =>
    simp only [hf, Bool.and_eq_true, Bool.not_eq_true'] at hb
    have h1 : ¬ fn.name = "runtime.NumGoroutine" := by simpa using hb.2
    have h2 : ¬ fn.body = none := by
      have := hb.1
      cases q : fn.body <;> simp_all
    simp [callFunc, hf, h1, h2]

theorem renArr_append {a b a' b' : Array Value} (h1 : renArr ρ a = some a') (h2 : renArr ρ b = some b') : renArr ρ (a ++ b) = some (a' ++ b') := by
  rw [renArr_iff] at *
  simp only [Array.toList_append]
  exact renL_append.2 ⟨_, _, h1, h2, rfl⟩

theorem RunAt.opAt {s : Sem Value} {r : Value × AH} {o : Oper} (hr : RunAt P G ρ h w s r) (ho : (execOp e' o).run P w = (s.run P w).andThen fun v w' => .ok (.value v) w') : OpAt P G ρ h w e' o r.1 r.2 := by
  obtain ⟨ρ', v', w', h1, h2, h3, h4⟩ := hr
  exact ⟨ρ', v', w', h1, h2, h3, .inl (by rw [ho, h4]; rfl)⟩

theorem pv_some {o : Option (Value × AH)} {r : AR1} (h : pv o = some r) : ∃ x, o = some x ∧ r = .val x.1 x.2 := by
  unfold pv at h
  obtain ⟨x, h1, h2⟩ := Option.map_eq_some_iff.1 h
  exact ⟨x, h1, h2.symm⟩

theorem foldl_ren {ps : List (Tmp × Value)} : ∀ {ps' : List (Tmp × Value)} {a a' : Array Value}, ps'.map (·.1) = ps.map (·.1) → renL ρ (ps.map (·.2)) = some (ps'.map (·.2)) → renArr ρ a = some a' →
    renArr ρ (ps.foldl (fun tmps (t, a) => tmps.setIfInBounds t a) a) = some (ps'.foldl (fun tmps (t, a) => tmps.setIfInBounds t a) a') := by
  induction ps with
  | nil => intro ps' a a' h1 _ h3; cases ps' <;> simp at h1; exact h3
  | cons p ps ih =>
    intro ps' a a' h1 h2 h3
    cases ps' with
    | nil => simp at h1
    | cons p' ps' =>
      simp only [List.map_cons, List.cons.injEq] at h1
      simp only [List.map_cons] at h2
      obtain ⟨v', l', e1, e2, e3⟩ := renL_cons.1 h2
      injection e3 with e3 e4
      simp only [List.foldl_cons]
      rw [h1.1]
      exact ih h1.2 (e4 ▸ e2) (renArr_set (e3 ▸ e1) _ h3)

theorem callv_ok (H : WR G ρ h w) {f f' : Value} {args args' : Array Value} {r : AR1} (ha : acallv P h f args = some r) (hf : ren ρ f = some f') (hargs : renArr ρ args = some args') {o : Oper}
    (ho : (execOp e' o).run P w = (do let d ← Deferred.ofValue f' args'; invoke d.target d.args : Sem Next).run P w) : OpSim P G ρ h w e' o r := by
  unfold acallv at ha
  split at ha
  · rename_i g first cap
    split at ha
    case isFalse => cases ha
    rename_i hb
    cases ha
    simp only [ren, renF, Option.bind_eq_some_iff, Option.map_eq_some_iff] at hf
    obtain ⟨fn', hfn, first', h1, cap', h2, rfl⟩ := hf
    cases hfn
    refine ⟨hb, first' ++ args' ++ cap', renArr_append (renArr_append h1 hargs) h2, ?_⟩
    rw [ho]
    simp [Deferred.ofValue, invoke, run_callFunc hb]
  · rename_i l first cap
    split at ha
    case h_2 => cases ha
    rename_i lp hg
    split at ha
    case isFalse => cases ha
    rename_i hsz
    cases ha
    simp only [ren, renF, Option.bind_eq_some_iff, Option.map_eq_some_iff] at hf
    obtain ⟨fn', ⟨l', hl, rfl⟩, first', h1, cap', h2, rfl⟩ := hf
    obtain ⟨b, x, q1, q2, q3⟩ := H.obj _ _ hg
    rw [hl] at q1; cases q1
    cases x <;> simp only [ObjR] at q3
    rename_i lp'
    obtain ⟨_, _, r3, r4, r5, r6, r7, _⟩ := q3
    have hcat := renArr_append h1 hargs
    have hcs := renArr_size hcat
    have hcs2 := hcs
    have hsz2 := hsz
    simp only [Array.size_append] at hcs2 hsz2
    refine ⟨l', (lp'.params.zip (first' ++ args')).foldl (fun tmps (t, a) => tmps.setIfInBounds t a) lp'.tmps, hl, ?_, ?_⟩
    · rw [← Array.foldl_toList, ← Array.foldl_toList]
      refine foldl_ren ?_ ?_ r4
      · rw [r5]
        simp only [Array.toList_zip]
        rw [List.map_fst_zip (by simp; omega), List.map_fst_zip (by simp; omega)]
      · rw [r5]
        simp only [Array.toList_zip]
        rw [List.map_snd_zip (by simp; omega), List.map_snd_zip (by simp; omega)]
        exact renArr_iff.1 hcat
    · rw [ho]
      have hgo : (getObj l').run P w = .ok (.loop lp') w := by simp [getObj, Sem.run, q2]
      have hne : ¬ (first' ++ args').size ≠ lp'.params.size := by rw [hcs, r5]; simpa using hsz
      simp only [Deferred.ofValue, invoke, Sem.run_bind, Sem.run_pure, Result.andThen_ok, Instr.yield, Instr.getLoop, hgo, hne, if_false, r3, r6, r7]
  · cases ha

theorem head_app (x : Value) (ys : Array Value) : (#[x] ++ ys)[0]? = some x := by
  obtain ⟨l⟩ := ys
  simp
theorem tail_app (x : Value) (ys : Array Value) : (#[x] ++ ys).extract 1 (#[x] ++ ys).size = ys := by
  obtain ⟨l⟩ := ys
  apply Array.ext'
  simp

theorem box_run {t : TypeId} {v : Value} (w : World) : (do pure (Value.pointer (some (← newVar t v))) : Sem Value).run P w = .ok (.pointer (some ⟨w.heap.size, 0, none⟩)) { w with heap := w.heap.push (.cells v.cells t) } := by
  rw [Sem.run_bind, run_newVar]; rfl

theorem aeff_ok (H : WR G ρ h w) (o : Oper) (hr : ∀ x ∈ o.op.operands, ren ρ (e x) = some (e' x)) {r : AR1} (hv : aeff P h e o.op = some r) : OpSim P G ρ h w e' o r := by
  obtain ⟨dst, op, type, pos, after, guard⟩ := o
  simp only at hr hv
  cases op <;> simp only [aeff] at hv <;> try (cases hv; done)
  case load t x =>
    have hx := hr x (by simp [Op.operands])
    split at hv
    case h_2 => cases hv
    rename_i a hce
    rw [hce] at hx
    obtain ⟨b, h1, h2⟩ := ren_ptr hx
    obtain ⟨v, hl, rfl⟩ := Option.map_eq_some_iff.1 hv
    obtain ⟨v', h3, h4⟩ := load_ok H hl h1
    refine ⟨ρ, v', w, H, Ext.refl _ _ _, h3, .inl ?_⟩
    simp only [execOp, h2, Instr.loadAt, Instr.sureAddr, Sem.run_bind, Sem.run_pure, Result.andThen_ok, h4 w fun _ _ => rfl]
  case store t x y =>
    have hx := hr x (by simp [Op.operands])
    have hy := hr y (by simp [Op.operands])
    split at hv
    case h_2 => cases hv
    rename_i a hce
    rw [hce] at hx
    obtain ⟨b, h1, h2⟩ := ren_ptr hx
    obtain ⟨h', hl, rfl⟩ := Option.map_eq_some_iff.1 hv
    obtain ⟨w', h3, h4, h5⟩ := store_ok H hl h1 hy
    refine ⟨ρ, undef, w', h4, h5, ren_undef ρ, .inr ⟨?_, rfl⟩⟩
    simp only [execOp, h2, Instr.storeAt, Instr.sureAddr, Sem.run_bind, Sem.run_pure, Result.andThen_ok, h3]
  case alloc t =>
    obtain ⟨z, hz, hv⟩ := Option.bind_eq_some_iff.1 hv
    split at hv
    case isFalse => cases hv
    rename_i hc
    cases hv
    refine box_ok H (closed_ren ρ z hc) t ?_
    simp only [execOp, Instr.alloc, Sem.run_bind, run_zero hz, Result.andThen_ok, run_newVar, Sem.run_pure]
  case box t x =>
    cases hv
    refine box_ok H (hr x (by simp [Op.operands])) t ?_
    simp only [execOp, Instr.box, Sem.run_bind, Result.andThen_ok, run_newVar, Sem.run_pure]
  case buildSlice t len ps =>
    obtain ⟨q, hq, rfl⟩ := pv_some hv
    have hl : renL ρ ((ps.toList.map fun p => (p.1, e p.2)).map (·.2)) = some ((ps.toList.map fun p => (p.1, e' p.2)).map (·.2)) := by
      have := renArr_map (ρ := ρ) (e := e) (e' := e') (ps.toList.map (·.2)).toArray fun x hx => hr x (by simpa [Op.operands] using hx)
      simpa [renArr_iff, List.map_map, Function.comp_def] using this
    refine (buildSlice_ok H hq (ps' := ps.toList.map fun p => (p.1, e' p.2)) (by simp [List.map_map, Function.comp_def]) hl).opAt ?_
    simp only [execOp, Sem.run_bind]
    have : (ps.toList.map fun p => (p.1, e' p.2)).toArray = ps.map fun (i, x) => (i, e' x) := by
      apply Array.ext'; simp
    rw [this]
    rfl
  case makeSlice t l c =>
    obtain ⟨q, hq, rfl⟩ := pv_some hv
    have hl := hr l (by simp [Op.operands])
    have hc := hr c (by simp [Op.operands])
    have hq0 := hq
    unfold amakeSlice at hq0
    split at hq0
    case h_2 => cases hq0
    rename_i el kl l0 kc c0 _ hle hce
    rw [hle] at hl hq
    rw [hce] at hc hq
    refine (makeSlice_ok H hq).opAt ?_
    simp only [execOp, Sem.run_bind, ren_int hl, ren_int hc]
    rfl
  case range t x =>
    have hx := hr x (by simp [Op.operands])
    split at hv
    · rename_i s hu hce
      cases hv
      rw [hce] at hx
      exact range_ok H hu (t := t) (x := x) rfl (ren_string hx)
    · split at hv
      case isFalse => cases hv
      rename_i hmt
      obtain ⟨q, hq, rfl⟩ := pv_some hv
      refine (rangeMap_ok H hq hmt hx).opAt ?_
      simp only [execOp, Sem.run_bind]
      rfl
  case next x b =>
    split at hv
    · rename_i hb
      subst hb
      obtain ⟨q, hq, rfl⟩ := pv_some hv
      exact next_ok H hq (hr x (by simp [Op.operands])) rfl rfl
    · rename_i hb
      obtain rfl : b = false := by simpa using hb
      obtain ⟨q, hq, rfl⟩ := pv_some hv
      refine (nextMap_ok H hq (hr x (by simp [Op.operands])) type).opAt ?_
      simp only [execOp, Sem.run_bind]
      rfl
  case slice t x lo hi mx =>
    have hx := hr x (by simp [Op.operands])
    split at hv
    case h_2 => cases hv
    rename_i a n c hce
    obtain ⟨q, hq, rfl⟩ := pv_some hv
    have hmx : mx = none := by
      cases mx with
      | none => rfl
      | some y =>
        unfold aslq at hq
        split at hq
        case h_2 => cases hq
        split at hq
        case h_2 => cases hq
        split at hq
        case isFalse => cases hq
        rename_i hc
        cases hc.2.2.1
    subst hmx
    rw [hce] at hx
    refine (slq_ok (e := e) (e' := e') (lo := lo) (hi := hi) H rfl hq hx (fun y q => hr y (by simp [Op.operands, q])) (fun y q => hr y (by simp [Op.operands, q]))).opAt ?_
    simp only [execOp, Sem.run_bind]
    rfl
  case entry x =>
    obtain ⟨v, hl, rfl⟩ := Option.map_eq_some_iff.1 hv
    obtain ⟨v', h3, h4⟩ := entry_ok (P := P) H hl (hr x (by simp [Op.operands]))
    refine ⟨ρ, v', w, H, Ext.refl _ _ _, h3, .inl ?_⟩
    simp only [execOp, Sem.run_bind, h4, Result.andThen_ok, Sem.run_pure]
  case makeMap t hint =>
    split at hv
    case isFalse => cases hv
    rename_i hmt
    obtain ⟨q, hq, rfl⟩ := pv_some hv
    refine (makeMap_ok H hq hmt (hint' := hint.map e') (fun v q => ?_) (fun q => ?_)).opAt ?_
    · cases hint with
      | none => cases q
      | some y =>
        simp only [Option.map_some, Option.some.injEq] at q
        exact ⟨e' y, rfl, by rw [← q]; exact hr y (by simp [Op.operands])⟩
    · cases hint with
      | none => rfl
      | some y => cases q
    · simp only [execOp, Sem.run_bind]
      rfl
  case lookup t x k ok =>
    obtain ⟨v, hl, rfl⟩ := Option.map_eq_some_iff.1 hv
    have hx := hr x (by simp [Op.operands])
    have hk := hr k (by simp [Op.operands])
    have hkc : closed (e k) = true := by
      unfold alookup at hl
      split at hl
      case h_2 => cases hl
      split at hl
      case isFalse => cases hl
      rename_i hko
      unfold kok at hko
      simp only [Bool.and_eq_true] at hko
      exact hko.2
    rw [closed_ren ρ _ hkc] at hk
    obtain ⟨v', h3, h4⟩ := lookup_ok (P := P) H hl hx
    refine ⟨ρ, v', w, H, Ext.refl _ _ _, h3, .inl ?_⟩
    simp only [execOp, Sem.run_bind, ← Option.some.inj hk, h4, Result.andThen_ok, Sem.run_pure]
  case mapUpdate t m k x =>
    obtain ⟨h', hl, rfl⟩ := Option.map_eq_some_iff.1 hv
    have hm := hr m (by simp [Op.operands])
    have hk := hr k (by simp [Op.operands])
    have hx := hr x (by simp [Op.operands])
    have hkc : closed (e k) = true := by
      unfold amapUpdate at hl
      split at hl
      case h_2 => cases hl
      split at hl
      case isFalse => cases hl
      rename_i hko
      unfold kok at hko
      simp only [Bool.and_eq_true] at hko
      exact hko.2
    rw [closed_ren ρ _ hkc] at hk
    obtain ⟨ρ', w', h3, h4, h5⟩ := mapUpdate_ok (P := P) H hl hm hx
    refine ⟨ρ', undef, w', h3, h4, ren_undef ρ', .inr ⟨?_, rfl⟩⟩
    simp only [execOp, Sem.run_bind, ← Option.some.inj hk, h5, Result.andThen_ok, Sem.run_pure]
  case convert s d x =>
    obtain ⟨q, hq, rfl⟩ := pv_some hv
    refine (bytes_ok H hq (hr x (by simp [Op.operands]))).opAt ?_
    simp only [execOp, Sem.run_bind]
    rfl
  case panic x =>
    have hx := hr x (by simp [Op.operands])
    split at hv
    case h_2 => cases hv
    rename_i t v hce
    cases hv
    rw [hce] at hx
    have hx0 := hx
    obtain ⟨v', h1, h2⟩ := ren_iface hx
    refine ⟨.iface t v', by rw [hx0, h2], ?_⟩
    simp [execOp, h2, Instr.panic]
  case defer c =>
    obtain ⟨callee, args, ts⟩ := c
    cases callee <;> simp only at hv <;> try (cases hv; done)
    rename_i f
    have hf := hr f (by simp [Op.operands, Call.operands])
    have hargs := renArr_map (ρ := ρ) (e := e) (e' := e') args fun x hx => hr x (by simp [Op.operands, Call.operands, hx])
    split at hv
    case h_2 => cases hv
    rename_i fn first cap hce
    cases hv
    rw [hce] at hf
    simp only [ren, Option.bind_eq_some_iff, Option.map_eq_some_iff] at hf
    obtain ⟨fn', hfn, first', h1, cap', h2, hfe⟩ := hf
    refine ⟨⟨.fn fn' cap', first' ++ args.map e'⟩, ?_, ?_⟩
    · simp [renD, renT, hfn, h2, renArr_append h1 hargs]
    · simp [execOp, resolve, ← hfe, Deferred.ofValue]
  case call c =>
    obtain ⟨callee, args, ts⟩ := c
    have hargs := renArr_map (ρ := ρ) (e := e) (e' := e') args fun x hx => hr x (by simp [Op.operands, Call.operands, hx])
    cases callee <;> simp only at hv
    · rename_i f
      exact callv_ok H hv (hr f (by simp [Op.operands, Call.operands])) hargs (by simp only [execOp, resolve, Sem.run_bind])
    · rename_i r0 m
      have hx := hr r0 (by simp [Op.operands, Call.operands])
      split at hv
      case h_2 => cases hv
      rename_i t v hce
      split at hv
      case isFalse => cases hv
      rename_i hcl
      split at hv
      case h_2 => cases hv
      rename_i f rc hm
      split at hv
      case isFalse => cases hv
      rename_i hc
      simp only [Bool.and_eq_true] at hc
      cases hv
      rw [hce] at hx
      obtain ⟨v', h1, h2⟩ := ren_iface hx
      rw [closed_ren ρ v hcl] at h1
      cases h1
      have hrc : renArr ρ #[rc] = some #[rc] := by simp [renArr, renL, closed_ren ρ rc hc.1]
      refine ⟨hc.2, #[rc] ++ args.map e', renArr_append hrc hargs, ?_⟩
      have hmr := pureRun_run hm
      have e1 := head_app (Value.iface t v) (args.map e')
      have e2 := tail_app (Value.iface t v) (args.map e')
      simp only [execOp, resolve, h2, Sem.run_bind, Sem.run_pure, Result.andThen_ok, invoke, e1, e2, callMethod, run_program, hmr, run_callFunc hc.2]
    · rename_i b
      have two : ∀ {α : Type} (a : Array α) (x y : α), a.toList = [x, y] → a = #[x, y] := fun a x y q => by cases a; simp at q; simp [q]
      have one : ∀ {α : Type} (a : Array α) (x : α), a.toList = [x] → a = #[x] := fun a x q => by cases a; simp at q; simp [q]
      split at hv
      · cases hv
        simp [OpSim, execOp, resolve, invoke, Go.builtin]
      · rename_i t u s x q1 q2
        obtain ⟨q, hq, rfl⟩ := pv_some hv
        have e1 := two ts t u q1
        have e2 := two args s x q2
        subst e1; subst e2
        have hs := hr s (by simp [Op.operands, Call.operands])
        have hx := hr x (by simp [Op.operands, Call.operands])
        obtain ⟨ρ', v', w', g1, g2, g3, g4⟩ := append_ok (ty := type) H hq hs hx
        refine ⟨ρ', v', w', g1, g2, g3, .inl ?_⟩
        simp [execOp, resolve, invoke, Go.builtin, g4]
      · rename_i t u d s q1 q2
        obtain ⟨q, hq, rfl⟩ := pv_some hv
        have e1 := two ts t u q1
        have e2 := two args d s q2
        subst e1; subst e2
        have hs := hr s (by simp [Op.operands, Call.operands])
        have hd := hr d (by simp [Op.operands, Call.operands])
        refine (copy_ok (u := u) (ty := type) H hq hd hs).opAt ?_
        simp [execOp, resolve, invoke, Go.builtin]
      · rename_i t x q1 q2
        obtain ⟨q, hq, rfl⟩ := pv_some hv
        have e1 := one ts t q1
        have e2 := one args x q2
        subst e1; subst e2
        have hx := hr x (by simp [Op.operands, Call.operands])
        refine (clear_ok (ty := type) H hq hx).opAt ?_
        simp [execOp, resolve, invoke, Go.builtin]
      · rename_i t u m k q1 q2
        split at hv
        case isFalse => cases hv
        rename_i hkc
        obtain ⟨h', hl, rfl⟩ := Option.map_eq_some_iff.1 hv
        have e1 := two ts t u q1
        have e2 := two args m k q2
        subst e1; subst e2
        have hm := hr m (by simp [Op.operands, Call.operands])
        have hk := hr k (by simp [Op.operands, Call.operands])
        rw [closed_ren ρ _ hkc] at hk
        refine (delete_ok (u := u) (ty := type) H hl hm).opAt ?_
        simp [execOp, resolve, invoke, Go.builtin, ← Option.some.inj hk]
      · rename_i t x q1 q2
        have e1 := one ts t q1
        have e2 := one args x q2
        subst e1; subst e2
        have hx := hr x (by simp [Op.operands, Call.operands])
        split at hv
        · rename_i hmt
          obtain ⟨⟨r, es, ver⟩, hq, rfl⟩ := Option.map_eq_some_iff.1 hv
          refine ⟨ρ, .int .i64 es.length, w, H, Ext.refl _ _ _, by simp [ren], .inl ?_⟩
          simp [execOp, resolve, invoke, Go.builtin, lenMap_ok (ty := type) H hq hmt hx]
        · split at hv
          case h_2 => cases hv
          rename_i el v hu hce
          cases hv
          rw [hce] at hx
          simp only [ren] at hx
          obtain ⟨a, c, hx'⟩ := opq_form hx
          refine ⟨ρ, .int .i64 0, w, H, Ext.refl _ _ _, by simp [ren], .inl ?_⟩
          simp [execOp, resolve, invoke, Go.builtin, Builtin.len_, run_underlying hu, hx', goInt]
      · cases hv

theorem aop_ok (H : WR G ρ h w) {a b : Act} (ht : renArr ρ a.tmps = some b.tmps) (o : Oper) {r : AR1} (hv : aop P G h a.eval o = some r) : OpSim P G ρ h w b.eval o r := by
  unfold aop at hv
  split at hv
  case isFalse => cases hv
  rename_i hok
  have hr : ∀ x ∈ o.op.operands, ren ρ (a.eval x) = some (b.eval x) := fun x hx => ev_ren H ht (by
    have := Array.all_eq_true_iff_forall_mem.1 hok x hx
    exact this)
  split at hv
  · rename_i v hp
    cases hv
    exact (aptr_ok H o hr hp).opAt H
  · split at hv
    · rename_i r' he
      cases hv
      exact aeff_ok H o hr he
    · by_cases hc : (notSelect o.op && o.op.operands.all (fun x => closed (a.eval x))) = true
      case neg => rw [if_neg hc] at hv; cases hv
      rw [if_pos hc] at hv
      simp only [Bool.and_eq_true] at hc
      split at hv
      case h_2 => cases hv
      rename_i v hp
      split at hv
      case isFalse => cases hv
      rename_i hcv
      cases hv
      have hs : ∀ cs b, o.op ≠ .select cs b := fun cs b q => by rw [q] at hc; simp [notSelect] at hc
      have := closed_op (P := P) hs hr (fun x hx => Array.all_eq_true_iff_forall_mem.1 hc.2 x hx) hp
      exact PureAt.opAt H ⟨v, closed_ren ρ v hcv, this⟩
end
end Go.AE
