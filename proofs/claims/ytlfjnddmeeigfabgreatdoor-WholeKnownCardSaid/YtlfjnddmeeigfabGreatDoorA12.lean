import Derived.Test.YtlfjnddmeeigfabGreatDoorA11
import Derived.Laws.BytesString
import Derived.Laws.BytesArg
namespace Go.AE
open Go

/-! copy -/
def acopy (P : Program) (h : AH) (t : TypeId) (dst src : Value) : Option (Value × AH) :=
  match P.underlying t with
  | some (.slice el) => match sizeT P el, dst with
    | some sz, .slice (some a) dLen _ => match asrc h sz src, h.get a.block with
      | some (m, news), some (.cells cs el' o ro) =>
        let vs := news.take (Nat.min m dLen * sz)
        if a.off + vs.length ≤ cs.length ∧ ro = false ∧ vs.all (·.oneCell') then some (.int .i64 (Nat.min m dLen), h.put a.block (some (.cells (lspl cs a.off vs) el' o ro))) else none
      | _, _ => none
    | some sz, .slice none dLen _ => match asrc h sz src with
      | some (m, _) => some (.int .i64 (Nat.min m dLen), h)
      | none => none
    | _, _ => none
  | _ => none

def aclear (P : Program) (h : AH) (t : TypeId) (x : Value) : Option (Value × AH) :=
  match P.underlying t with
  | some (.slice el) => match azero P el, x with
    | some z, .slice (some a) (n + 1) _ => match h.get a.block with
      | some (.cells cs el' o ro) =>
        let vs := (Builtin.zeroCells z.cells (n + 1)).toList
        if a.off + vs.length ≤ cs.length ∧ ro = false ∧ vs.all (·.oneCell') ∧ closedL vs then some (.tuple #[], h.put a.block (some (.cells (lspl cs a.off vs) el' o ro))) else none
      | _ => none
    | some _, .slice _ 0 _ => some (.tuple #[], h)
    | _, _ => none
  | _ => none

def abuildSlice (P : Program) (h : AH) (t : TypeId) (len : Nat) (parts : List (Nat × Value)) : Option (Value × AH) :=
  match P.underlying t with
  | some (.slice el) => match sizeT P el, azero P el with
    | some sz, some z =>
      let base : Array Value := (Array.range (len * sz)).map (z.cells[· % z.cells.size]!)
      if len * sz ≤ 2 ^ 24 ∧ len * sz ≠ 0 ∧ closedArr base then
        match Instr.fill (fun i => some (i * sz, sz)) base parts with
        | some cells => some (.slice (some ⟨h.next, 0, none⟩) len len, h.push (.cells cells.toList el none false))
        | none => none
      else none
    | _, _ => none
  | _ => none

def amakeSlice (P : Program) (h : AH) (t : TypeId) (l c : Value) : Option (Value × AH) :=
  match P.underlying t, l, c with
  | some (.slice el), .int _ l, .int _ c => match P.info? el with
    | some i => match i.zero with
      | some z =>
        if 0 ≤ l ∧ l ≤ c ∧ (i.bytes : Int) * c ≤ 281474976710656 ∧ c ≤ 9223372036854775807 ∧ closedArr (madeCells z.cells (c.toNat * i.size)) then
          some (.slice (some ⟨h.next, 0, none⟩) l.toNat c.toNat, h.push (.cells (madeCells z.cells (c.toNat * i.size)).toList el none false))
        else none
      | none => none
    | none => none
  | _, _, _ => none

def u8? : Value → Option Int
  | .int .u8 n => some n
  | _ => none
def intsOf : List Value → Option (List Int)
  | [] => some []
  | v :: l => (u8? v).bind fun n => (intsOf l).map (n :: ·)

def abytes (P : Program) (h : AH) (src dst : TypeId) (x : Value) : Option (Value × AH) :=
  match P.underlying src, P.underlying dst, x with
  | some (.slice e), some .string, .slice (some a) n _ => match P.underlying e with
    | some (.int .u8) => match acells h a n with
      | some l => (intsOf l).map fun ns => (.string ⟨(ns.map fun n => UInt8.ofNat n.toNat).toArray⟩, h)
      | none => none
    | _ => none
  | some _, some (.slice e), .string s => match P.underlying e with
    | some (.int .u8) => if (s.size : Int) ≤ 9223372036854775807 then some (.slice (some ⟨h.next, 0, none⟩) s.size 0, h.push (.cells (s.data.toList.map fun b => .int .u8 b.toNat) e (some 1) false)) else none
    | _ => none
  | _, _, _ => none

section
variable {P : Program} {G : Nat} {ρ : Rho} {h : AH} {w : World} {e e' : Operand → Value}

def RunAt (P : Program) (G : Nat) (ρ : Rho) (h : AH) (w : World) (s : Sem Value) (r : Value × AH) : Prop :=
  ∃ ρ' v' w', WR G ρ' r.2 w' ∧ Ext ρ h w ρ' r.2 w' ∧ ren ρ' r.1 = some v' ∧ s.run P w = .ok v' w'

theorem copy_ok (H : WR G ρ h w) {t u ty : TypeId} {dst src d' s' : Value} {r : Value × AH} (ha : acopy P h t dst src = some r) (hd : ren ρ dst = some d') (hs : ren ρ src = some s') : RunAt P G ρ h w (Builtin.copy_ #[t, u] ty #[d', s']) r := by
  unfold acopy at ha
  split at ha
  case h_2 => cases ha
  rename_i el ht
  split at ha
  case h_3 => cases ha
  · rename_i sz a dLen c hsz
    split at ha
    case h_2 => cases ha
    rename_i m news cs el' o ro hsrc hg
    dsimp only at ha
    split at ha
    case isFalse => cases ha
    rename_i hcond
    obtain ⟨k1, rfl, k3⟩ := hcond
    cases ha
    obtain ⟨news', r1, r2, r3, r4⟩ := src_ok (P := P) H hsrc hs
    obtain ⟨b, c', q1, _, rfl⟩ := ren_slice hd
    obtain ⟨w', s1, s2, s3⟩ := stores_ok P H hg q1 (renL_take (Nat.min m dLen * sz) r1) k1 k3
    refine ⟨ρ, .int .i64 (Nat.min m dLen), w', s2, s3, by simp [ren], ?_⟩
    have h4 := r4 (Nat.min m dLen) (Nat.min_le_left _ _) w rfl
    simp only [Builtin.copy_, List.getElem?_toArray]
    simp only [List.getElem?_cons_zero, List.getElem?_cons_succ, Sem.run_bind, run_underlying ht, Result.andThen_ok, r3, run_sizeOf hsz, h4, s1]
    rfl
  · rename_i sz dLen c hsz
    split at ha
    case h_2 => cases ha
    rename_i m news hsrc
    cases ha
    obtain ⟨news', r1, r2, r3, r4⟩ := src_ok (P := P) H hsrc hs
    simp [ren] at hd; subst hd
    refine ⟨ρ, .int .i64 (Nat.min m dLen), w, H, Ext.refl _ _ _, by simp [ren], ?_⟩
    have h4 := r4 (Nat.min m dLen) (Nat.min_le_left _ _) w rfl
    simp only [Builtin.copy_, List.getElem?_toArray, List.getElem?_cons_zero, List.getElem?_cons_succ, Sem.run_bind, run_underlying ht, Result.andThen_ok, r3, run_sizeOf hsz, h4]
    rfl

theorem clear_ok (H : WR G ρ h w) {t ty : TypeId} {x x' : Value} {r : Value × AH} (ha : aclear P h t x = some r) (hx : ren ρ x = some x') : RunAt P G ρ h w (Builtin.clear_ #[t] ty #[x']) r := by
  unfold aclear at ha
  split at ha
  case h_2 => cases ha
  rename_i el ht
  split at ha
  case h_3 => cases ha
  · rename_i z a n c hz
    split at ha
    case h_2 => cases ha
    rename_i cs el' o ro hg
    dsimp only at ha
    split at ha
    case isFalse => cases ha
    rename_i hcond
    obtain ⟨k1, rfl, k3, k4⟩ := hcond
    cases ha
    obtain ⟨b, c', q1, _, rfl⟩ := ren_slice hx
    obtain ⟨w', s1, s2, s3⟩ := stores_ok P H hg q1 (closedL_ren ρ _ k4) k1 k3
    refine ⟨ρ, .tuple #[], w', s2, s3, by simp [ren, renArr, renL], ?_⟩
    simp [Builtin.clear_, run_underlying ht, run_zero hz, s1]
  · rename_i z a c hz
    cases ha
    cases a with
    | none =>
      simp [ren] at hx; subst hx
      exact ⟨ρ, .tuple #[], w, H, Ext.refl _ _ _, by simp [ren, renArr, renL], by simp [Builtin.clear_, run_underlying ht]⟩
    | some a =>
      obtain ⟨b, c', q1, _, rfl⟩ := ren_slice hx
      exact ⟨ρ, .tuple #[], w, H, Ext.refl _ _ _, by simp [ren, renArr, renL], by simp [Builtin.clear_, run_underlying ht]⟩

theorem newSlice_ok (H : WR G ρ h w) {cells cells' : Array Value} (hc : renArr ρ cells = some cells') (el : TypeId) (n c : Nat) {s : Sem Value} (hs : s.run P w = .ok (.slice (some ⟨w.heap.size, 0, none⟩) n c) (w.alloc (.cells cells' el))) :
    RunAt P G ρ h w s (.slice (some ⟨h.next, 0, none⟩) n c, h.push (.cells cells.toList el none false)) := by
  obtain ⟨h1, h2⟩ := push_row H hc el
  refine ⟨_, _, _, h1, h2, ?_, hs⟩
  simp only [ren, ren_new, Option.bind_some, renC]
  simp [Rho.bind]

theorem buildSlice_ok (H : WR G ρ h w) {t : TypeId} {len : Nat} {ps ps' : List (Nat × Value)} {r : Value × AH} (ha : abuildSlice P h t len ps = some r) (h1 : ps'.map (·.1) = ps.map (·.1)) (h2 : renL ρ (ps.map (·.2)) = some (ps'.map (·.2))) :
    RunAt P G ρ h w (Instr.buildSlice t len ps'.toArray) r := by
  unfold abuildSlice at ha
  split at ha
  case h_2 => cases ha
  rename_i el ht
  split at ha
  case h_2 => cases ha
  rename_i sz z hsz hz
  dsimp only at ha
  split at ha
  case isFalse => cases ha
  rename_i hcond
  obtain ⟨k1, k2, k3⟩ := hcond
  split at ha
  case h_2 => cases ha
  rename_i cells hf
  cases ha
  obtain ⟨out', f1, f2⟩ := fill_ren h1 h2 (closedArr_ren ρ _ k3) hf
  refine newSlice_ok H f2 el len len ?_
  have k1' : ¬ (len * sz > 2 ^ 24) := by omega
  simp only [Instr.buildSlice, Sem.run_bind, run_underlying ht, run_sizeOf hsz, Result.andThen_ok, k1', if_false, k2, run_zero hz, Sem.run_pure, f1]
  simp [newRow]

theorem makeSlice_ok (H : WR G ρ h w) {t : TypeId} {l c : Value} {r : Value × AH} (ha : amakeSlice P h t l c = some r) : RunAt P G ρ h w (Instr.makeSlice t l c) r := by
  unfold amakeSlice at ha
  split at ha
  case h_2 => cases ha
  rename_i el kl l kc c ht
  split at ha
  case h_2 => cases ha
  rename_i i hi
  split at ha
  case h_2 => cases ha
  rename_i z hz
  split at ha
  case isFalse => cases ha
  rename_i hcond
  obtain ⟨k1, k2, k3, k4, k5⟩ := hcond
  cases ha
  exact newSlice_ok H (closedArr_ren ρ _ k5) el _ _ (run_make w t el i z ht hi hz kl kc l c k1 k2 k3 k4)

theorem u8?_spec {v : Value} {n : Int} (q : u8? v = some n) : v = .int .u8 n := by
  unfold u8? at q
  split at q
  · cases q; rfl
  · cases q

theorem intsOf_spec : ∀ {l : List Value} {ns : List Int}, intsOf l = some ns → l = ns.map (Value.int .u8)
  | [], ns, q => by simp [intsOf] at q; subst q; rfl
  | v :: l, ns, q => by
    simp only [intsOf, Option.bind_eq_some_iff, Option.map_eq_some_iff] at q
    obtain ⟨n, h1, ms, hm, rfl⟩ := q
    simp [intsOf_spec hm, u8?_spec h1]

theorem ints_ren (ns : List Int) : renL ρ (ns.map (Value.int .u8)) = some (ns.map (Value.int .u8)) := by
  induction ns with
  | nil => simp [renL]
  | cons n ns ih => simp only [List.map_cons]; exact renL_cons.2 ⟨_, _, by simp [ren], ih, rfl⟩

theorem bytes_ok (H : WR G ρ h w) {src dst : TypeId} {x x' : Value} {r : Value × AH} (ha : abytes P h src dst x = some r) (hx : ren ρ x = some x') : RunAt P G ρ h w (convert src dst x') r := by
  unfold abytes at ha
  split at ha
  · rename_i el a n c hs hd
    split at ha
    case h_2 => cases ha
    rename_i he
    split at ha
    case h_2 => cases ha
    rename_i l hl
    obtain ⟨ns, hns, rfl⟩ := Option.map_eq_some_iff.1 ha
    obtain ⟨b, c', q1, _, rfl⟩ := ren_slice hx
    obtain ⟨l', r1, r2, r3⟩ := cells_ok H hl q1
    have hl' := intsOf_spec hns
    subst hl'
    rw [ints_ren] at r1
    cases r1
    have hload := run_loadCells_list (P := P) w b (ns.map (Value.int .u8)) r3
    rw [r2] at hload
    refine ⟨ρ, .string ⟨(ns.map fun n => UInt8.ofNat n.toNat).toArray⟩, w, H, Ext.refl _ _ _, by simp [ren], ?_⟩
    rw [run_convert_bytes_string w src dst el _ n c' hs he hd, run_bytesToString w b n c' ns hload, foldl_push_bytes]
    simp [ByteArray.empty, ByteArray.emptyWithCapacity]
    try rfl
  · rename_i d el s hs hd
    split at ha
    case h_2 => cases ha
    rename_i he
    split at ha
    case isFalse => cases ha
    cases ha
    simp [ren] at hx; subst hx
    let C := grownCap w s.size 0 el
    have hge : s.size ≤ C := grownCap_ge w s.size 0 el
    let elems : List Value := s.data.toList.map fun b => .int .u8 b.toNat
    let tail : List Value := List.replicate (C - s.size) (.int .u8 0)
    let w' : World := { w with heap := w.heap.push (.cells (elems ++ tail).toArray el (C, C + 1)), drawn := w.drawn + 1 }
    have hel : elems.length = s.size := by simp [elems]
    have hsz : (elems ++ tail).toArray.size = C := by simp only [List.size_toArray, List.length_append, hel, tail, List.length_replicate]; omega
    obtain ⟨g1, g2⟩ := push_open H (map_int_closed s.data.toList) el (elems ++ tail).toArray tail rfl 1 C (by omega) (C, C + 1) (.inr (by omega)) w' rfl rfl rfl rfl
    refine ⟨_, _, _, g1, g2, ren_open _ _ _ _ _, ?_⟩
    have hcap : (Question.appendCap s.size 0 el).cut (w.tape w.drawn (.appendCap s.size 0 el)) = C := rfl
    have harr : (Array.map (fun b : UInt8 => Value.int IntKind.u8 b.toNat) s.data ++ Array.replicate (C - s.size) (Value.int .u8 0)) = (elems ++ tail).toArray := by
      apply Array.ext'; simp [elems, tail]
    simp only [convert, Sem.run_bind, run_underlying hs, run_underlying hd, run_underlying he, Result.andThen_ok, Conv.stringToBytes, run_choose, Question.forced, Bool.false_eq_true, if_false, hcap, newRow, run_newObj, Sem.run_pure]
    rw [harr]
    have hshape : ∀ w1 : World, w1.heap = w.heap.push (.cells (elems ++ tail).toArray el (0, 0)) → (markStringish ⟨w.heap.size, 0, none⟩).run P w1 = .ok () (w1.freeze ⟨w.heap.size, C, none⟩ 1) := fun w1 hw1 => by
      have : w1.shape? w.heap.size = some (el, C) := by
        simp only [World.shape?, hw1, Array.getElem?_push_size, hsz]
      simp [markStringish, this]
    rw [hshape _ rfl]
    simp only [Result.andThen_ok]
    congr 1
    simp only [World.freeze, Nat.one_ne_zero, if_false, w']
    congr 1
    apply Array.ext_getElem?
    intro i
    rw [Array.getElem?_modify]
    by_cases hi : w.heap.size = i
    · subst hi; simp
    · rw [Array.getElem?_push, Array.getElem?_push]
      have : ¬ i = w.heap.size := fun q => hi q.symm
      simp [hi, this]
  · cases ha
end
end Go.AE
