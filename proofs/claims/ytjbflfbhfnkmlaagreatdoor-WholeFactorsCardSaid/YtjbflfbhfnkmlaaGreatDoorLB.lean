import Derived.Test.YtjbflfbhfnkmlaaGreatDoorLA
import Derived.Laws.MakeOwn
import Derived.Laws.BytesString
import Derived.Laws.BytesArg
import Derived.Maps.RangeRun
import Derived.Laws.Externs
import Derived.Lib.UnsafeStr
import Derived.Lib.Builder
import Derived.KernelRfl
set_option linter.unusedVariables false
set_option linter.unusedSimpArgs false
namespace Go.AE
open Go
def aappend (P : Program) (h : AH) (t u : TypeId) (s x : Value) : Option (Value × AH) :=
  match P.underlying t, P.underlying u with
  | some (.slice el), some d => match srcT d, P.info? el with
    | true, some i => match i.zero, asrc h i.size x with
      | some z, some (n, news) =>
        if closed z ∧ z.cells.size = i.size ∧ 0 < i.size then
          match s with
          | .slice none 0 0 =>
            if n = 0 then some (.slice none 0 0, h)
            else if n * i.bytes ≤ 140737488355328 ∧ n ≤ 9223372036854775807 then some (.slice (some ⟨h.next, 0, none⟩) n 0, h.push (.cells news el (some i.size) false)) else none
          | .slice (some a) len c =>
            if (len + n) * i.bytes ≤ 140737488355328 ∧ len + n ≤ 9223372036854775807 then
              match h.get a.block with
              | some (.cells cs el' none ro) =>
                if len + n ≤ c then
                  if a.off + len * i.size + news.length ≤ cs.length ∧ ro = false ∧ news.all (·.oneCell') ∧ a.spot = none then
                    some (.slice (some a) (len + n) c, h.put a.block (some (.cells (lspl cs (a.off + len * i.size) news) el' none ro)))
                  else none
                else match acells h a (len * i.size) with
                  | some olds => some (.slice (some ⟨h.next, 0, none⟩) (len + n) 0, h.push (.cells (olds ++ news) el (some i.size) false))
                  | none => none
              | some (.cells cs el' (some sz) ro) =>
                if bigC ≤ c then
                  if len + n ≤ c - bigC then
                    if a.off + len * i.size + news.length ≤ cs.length ∧ ro = false ∧ news.all (·.oneCell') ∧ a.spot = none then
                      some (.slice (some a) (len + n) c, h.put a.block (some (.cells (lspl cs (a.off + len * i.size) news) el' (some sz) ro)))
                    else none
                  else match acells h a (len * i.size) with
                    | some olds => some (.slice (some ⟨h.next, 0, none⟩) (len + n) 0, h.push (.cells (olds ++ news) el (some i.size) false))
                    | none => none
                else if a.off = 0 ∧ c = 0 ∧ sz = i.size ∧ el' = el ∧ ro = false ∧ cs.length = len * i.size ∧ news.all (·.oneCell') then
                  some (.slice (some ⟨h.next, 0, none⟩) (len + n) 0, (h.put a.block none).push (.cells (cs ++ news) el (some i.size) false))
                else none
              | _ => none
            else none
          | _ => none
        else none
      | _, _ => none
    | _, _ => none
  | _, _ => none
section
variable {P : Program} {G : Nat} {ρ : Rho} {h : AH} {w : World} {e e' : Operand → Value}
theorem grownCap_ge (w : World) (need old : Nat) (el : TypeId) : need ≤ grownCap w need old el := by
  simp only [grownCap, Question.cut]; omega
theorem zeroCells_size (z : Array Value) (n : Nat) : (Builtin.zeroCells z n).size = n * z.size := by simp [Builtin.zeroCells]
theorem grow_ok (H : WR G ρ h w) {el : TypeId} {i : TypeInfo} {z : Value} (hz : z.cells.size = i.size) {need old : Nat} {cells cells' : List Value} (hc : renL ρ cells = some cells') (hlen : cells'.length = need * i.size) :
    WR G (ρ.bind h.next w.heap.size (some (grownCap w need old el))) (h.push (.cells cells el (some i.size) false)) (w.drew.alloc (.cells (cells'.toArray ++ Builtin.zeroCells z.cells (grownCap w need old el - need)) el)) ∧
    Ext ρ h w (ρ.bind h.next w.heap.size (some (grownCap w need old el))) (h.push (.cells cells el (some i.size) false)) (w.drew.alloc (.cells (cells'.toArray ++ Builtin.zeroCells z.cells (grownCap w need old el - need)) el)) := by
  refine push_open H hc el _ (Builtin.zeroCells z.cells (grownCap w need old el - need)).toList (by simp) i.size _ ?_ (0, 0) (.inl rfl) _ rfl rfl rfl rfl
  have hge := grownCap_ge w need old el
  rw [Array.size_append, zeroCells_size, hz]
  simp only [List.size_toArray, hlen]
  rw [← Nat.add_mul]
  congr 1
  omega
theorem ren_open (ρ : Rho) (i b n C : Nat) : ren (ρ.bind i b (some C)) (.slice (some ⟨i, 0, none⟩) n 0) = some (.slice (some ⟨b, 0, none⟩) n C) := by
  have h0 : renC (ρ.bind i b (some C)) i 0 = some C := by
    rw [renC_rel (C := C) (by simp [Rho.bind]) (by decide) (Nat.zero_le _)]; rfl
  simp only [ren, ren_new, Option.bind_some, h0]
  rfl
theorem add_form {a : Addr} (hs : a.spot = none) (j : Nat) : a.add j = ⟨a.block, a.off + j, none⟩ := by
  obtain ⟨b, o, s⟩ := a
  simp only at hs
  subst hs
  exact Addr.add_lit b o j
def AppAt (P : Program) (G : Nat) (ρ : Rho) (h : AH) (w : World) (ts : Array TypeId) (ty : TypeId) (s' x' : Value) (r : Value × AH) : Prop :=
  ∃ ρ' v' w', WR G ρ' r.2 w' ∧ Ext ρ h w ρ' r.2 w' ∧ ren ρ' r.1 = some v' ∧ (Builtin.append_ ts ty #[s', x']).run P w = .ok v' w'
theorem append_ok (H : WR G ρ h w) {t u ty : TypeId} {s x s' x' : Value} {r : Value × AH} (ha : aappend P h t u s x = some r) (hs : ren ρ s = some s') (hx : ren ρ x = some x') : AppAt P G ρ h w #[t, u] ty s' x' r := by
  unfold aappend at ha
  split at ha
  case h_2 => cases ha
  rename_i el d ht hu
  split at ha
  case h_2 => cases ha
  rename_i i hd hi
  split at ha
  case h_2 => cases ha
  rename_i z n news hiz hsrc
  split at ha
  case isFalse => cases ha
  rename_i hzz
  obtain ⟨hzc, hzs, hsz⟩ := hzz
  obtain ⟨news', r1, r2, r3, r4⟩ := src_ok H hsrc hx
  have hsT : sizeT P el = some i.size := by simp [sizeT, hi]
  have hfull : ∀ w' : World, w'.heap = w.heap → (Builtin.firstCells i.size n x').run P w' = .ok news'.toArray w' := fun w' hw' => by
    have := r4 n (Nat.le_refl _) w' hw'
    rwa [← r2, List.take_length] at this
  split at ha
  ·
    simp [ren] at hs; subst hs
    split at ha
    · rename_i hn; subst hn
      cases ha
      have := r4 0 (Nat.le_refl _) w rfl
      exact ⟨ρ, .slice none 0 0, w, H, Ext.refl _ _ _, by simp [ren], run_append_in_nil ht hu hd hsT r3 (by simpa using this) (Nat.le_refl _)⟩
    · rename_i hn
      split at ha
      case isFalse => cases ha
      rename_i hb
      cases ha
      have hrun := run_append_new (ty := ty) (w := w) (base := none) (sLen := 0) (sCap := 0) (olds := []) ht hu hd hi hiz rfl r3 (by simp [Builtin.firstCells]) (hfull w.drew rfl) (by omega) (by omega) (by simpa using hb.1)
      obtain ⟨g1, g2⟩ := grow_ok (el := el) (old := 0) (z := z) H hzs r1 (need := n) r2
      refine ⟨_, _, _, g1, g2, ren_open _ _ _ _ _, ?_⟩
      rw [hrun]
      simp
  · rename_i a len c
    split at ha
    case isFalse => cases ha
    rename_i hb
    obtain ⟨b, c', q1, q2, rfl⟩ := ren_slice hs
    obtain ⟨hsp, hbf, hblk⟩ := renA_form q1
    split at ha
    · rename_i cs el' ro hg
      have hop : h.opn a.block = some none := by simp [AH.opn, hg]
      have hc' := renC_closed H hop q2
      subst hc'
      split at ha
      · rename_i hle
        split at ha
        case isFalse => cases ha
        rename_i hcond
        obtain ⟨k1, rfl, k3, k4⟩ := hcond
        cases ha
        have hadd := renA_add q1 (len * i.size)
        have hab : (a.add (len * i.size)).block = a.block := add_block _ _
        have hao : (a.add (len * i.size)).off = a.off + len * i.size := by rw [add_form k4]
        obtain ⟨w', s1, s2, s3⟩ := stores_ok P H (a := a.add (len * i.size)) (by rw [hab]; exact hg) hadd r1 (by rw [hao]; exact k1) k3
        rw [hab, hao] at s2 s3
        refine ⟨ρ, .slice (some b) (len + n) c', w', s2, s3, ren_slice_mk H hop q1, ?_⟩
        rw [run_append_in ht hu hd hsT r3 (hfull w rfl) hle, s1]
        rfl
      · rename_i hnle
        split at ha
        case h_2 => cases ha
        rename_i olds hol
        cases ha
        obtain ⟨olds', o1, o2, o3⟩ := cells_ok H hol q1
        have hfo : (Builtin.firstCells i.size len (.slice (some b) len c')).run P w.drew = .ok olds'.toArray w.drew := run_firstCells_some w.drew i.size len b len c' olds' o2 (by simpa using o3)
        have hrun := run_append_new (ty := ty) (w := w) (base := some b) (sLen := len) (sCap := c') ht hu hd hi hiz rfl r3 hfo (hfull w.drew rfl) (by omega) hb.2 hb.1
        have hcat : renL ρ (olds ++ news) = some (olds' ++ news') := renL_append.2 ⟨_, _, o1, r1, rfl⟩
        obtain ⟨g1, g2⟩ := grow_ok (el := el) (old := c') (z := z) H hzs hcat (need := len + n) (by rw [List.length_append, o2, r2, Nat.add_mul])
        refine ⟨_, _, _, g1, g2, ren_open _ _ _ _ _, ?_⟩
        rw [hrun]
        simp
    · rename_i cs el' sz ro hg
      split at ha
      ·
        rename_i hbig
        obtain ⟨k, rfl⟩ : ∃ k, c = bigC + k := ⟨c - bigC, by omega⟩
        obtain ⟨C, hC, _⟩ := open_cap H (sz := sz) (L := cs.length) (by simp [AH.ocap, hg]) q1
        have q2k := q2
        rw [renC_abs hC] at q2k
        obtain rfl : k = c' := Option.some.inj q2k
        rw [Nat.add_sub_cancel_left] at ha
        split at ha
        · rename_i hle
          split at ha
          case isFalse => cases ha
          rename_i hcond
          obtain ⟨k1, rfl, k3, k4⟩ := hcond
          cases ha
          have hadd := renA_add q1 (len * i.size)
          have hab : (a.add (len * i.size)).block = a.block := add_block _ _
          have hao : (a.add (len * i.size)).off = a.off + len * i.size := by rw [add_form k4]
          obtain ⟨w', s1, s2, s3⟩ := stores_ok P H (a := a.add (len * i.size)) (by rw [hab]; exact hg) hadd r1 (by rw [hao]; exact k1) k3
          rw [hab, hao] at s2 s3
          refine ⟨ρ, .slice (some b) (len + n) k, w', s2, s3, by simp only [ren, q1, q2, Option.bind_some, Option.map_some], ?_⟩
          rw [run_append_in ht hu hd hsT r3 (hfull w rfl) hle, s1]
          rfl
        · rename_i hnle
          split at ha
          case h_2 => cases ha
          rename_i olds hol
          cases ha
          obtain ⟨olds', o1, o2, o3⟩ := cells_ok H hol q1
          have hfo : (Builtin.firstCells i.size len (.slice (some b) len k)).run P w.drew = .ok olds'.toArray w.drew := run_firstCells_some w.drew i.size len b len k olds' o2 (by simpa using o3)
          have hrun := run_append_new (ty := ty) (w := w) (base := some b) (sLen := len) (sCap := k) ht hu hd hi hiz rfl r3 hfo (hfull w.drew rfl) (by omega) hb.2 hb.1
          have hcat : renL ρ (olds ++ news) = some (olds' ++ news') := renL_append.2 ⟨_, _, o1, r1, rfl⟩
          obtain ⟨g1, g2⟩ := grow_ok (el := el) (old := k) (z := z) H hzs hcat (need := len + n) (by rw [List.length_append, o2, r2, Nat.add_mul])
          refine ⟨_, _, _, g1, g2, ren_open _ _ _ _ _, ?_⟩
          rw [hrun]
          simp
      split at ha
      case isFalse => cases ha
      rename_i hcond
      obtain ⟨k1, rfl, rfl, rfl, rfl, k6, k7⟩ := hcond
      cases ha
      obtain ⟨b', y, p1, p2, p3⟩ := H.obj _ _ hg
      rw [hblk] at p1; cases p1
      cases y <;> simp only [ObjR] at p3
      rename_i arr t' fz
      obtain ⟨p30, ⟨c1, tail, p4, p5, _⟩, p6, _, p7⟩ := p3
      obtain rfl := p30.resolve_left (by simp)
      obtain ⟨C, hC, hsize⟩ := p7 _ rfl
      have hcC : c' = C := by
        rw [renC_rel hC (by decide) (Nat.zero_le _)] at q2; simpa using q2.symm
      subst hcC
      have hc1 := renL_length p5
      have hal : arr.size = c1.length + tail.length := by
        have := congrArg List.length p4
        simpa using this
      have hcat : renL ρ (cs ++ news) = some (c1 ++ news') := renL_append.2 ⟨_, _, p5, r1, rfl⟩
      by_cases hle : len + n ≤ c'
      ·
        have hmul : (len + n) * i.size ≤ c' * i.size := Nat.mul_le_mul_right _ hle
        rw [Nat.add_mul] at hmul
        have hbd : b.off = 0 := by rw [hbf]; exact k1
        have hbsp : b.spot = none := by rw [hbf]
        have hbs : b = ⟨b.block, 0, none⟩ := by
          obtain ⟨b1, b2, b3⟩ := b
          simp only at hbd hbsp
          rw [hbd, hbsp]
        have hadd : b.add (len * i.size) = ⟨b.block, len * i.size, none⟩ := by rw [add_form hbsp, hbd, Nat.zero_add]
        have hst := run_stores P news' (len * i.size) 0 arr w p2 (by omega) (p6.resolve_left (by simp)) (renL_all (fun v v' => oneCell_ren v v') r1 k7)
        have hrun := run_append_in (ty := ty) (w := w) (base := b) (sLen := len) (sCap := c') ht hu hd hsT r3 (hfull w rfl) hle
        rw [hadd, hst] at hrun
        refine ⟨ρ.bind h.next b.block (some c'), .slice (some b) (len + n) c', { w with heap := w.heap.setIfInBounds b.block (.cells (spl arr (len * i.size + 0) news') t' fz) }, ?_, ?_, ?_, hrun⟩
        · refine H.move hg hblk rfl ?_
          have hle' := Rho.le_bind (H.fresh h.next (Nat.le_refl _)) b.block (some c')
          simp only [ObjR]
          refine ⟨.inr trivial, ⟨c1 ++ news', tail.drop news'.length, ?_, renL_mono hle' _ _ hcat, fun q => by cases q⟩, by simpa [spl_size] using p6, fun q => (by cases q), fun s q => ⟨c', by simp [Rho.bind], by cases q; simpa [spl_size] using hsize⟩⟩
          rw [spl_toList, p4, Nat.add_zero]
          have hk : len * i.size = c1.length := by omega
          rw [hk]
          have key : ∀ (vs tl : List Value) (pre : List Value), vs.length ≤ tl.length → lspl (pre ++ tl) pre.length vs = pre ++ vs ++ tl.drop vs.length := by
            intro vs
            induction vs with
            | nil => intro tl pre _; simp [lspl]
            | cons v vs ih =>
              intro tl pre hl
              cases tl with
              | nil => simp at hl
              | cons x tl =>
                simp only [lspl]
                have e1 : (pre ++ x :: tl).set pre.length v = (pre ++ [v]) ++ tl := by simp
                rw [e1]
                have := ih tl (pre ++ [v]) (by simpa using hl)
                rw [List.length_append] at this
                simp only [List.length_cons, List.length_nil, Nat.zero_add] at this
                rw [this]
                simp
          exact key news' tail c1 (by omega)
        · exact Ext.move H hg rfl hblk rfl rfl rfl rfl
        · rw [hbs]; exact ren_open _ _ _ _ _
      ·
        have hdrop := H.drop a.block
        have hfo : (Builtin.firstCells i.size len (.slice (some b) len c')).run P w.drew = .ok c1.toArray w.drew := by
          refine run_firstCells_some w.drew i.size len b len c' c1 (by omega) fun j v hv => ?_
          have hbd : b.off = 0 := by rw [hbf]; exact k1
          have hbsp : b.spot = none := by rw [hbf]
          have hj := (List.getElem?_eq_some_iff.1 hv).1
          have : arr[j]? = some v := by
            have : arr.toList[j]? = some v := by rw [p4, List.getElem?_append_left hj]; exact hv
            simpa using this
          rw [add_form hbsp, hbd, Nat.zero_add]
          have hcell : (w.drew).heap[b.block]? = some (.cells arr t' fz) := p2
          simp [World.cell?, hcell, this]
        have hrun := run_append_new (ty := ty) (w := w) (base := some b) (sLen := len) (sCap := c') ht hu hd hi hiz rfl r3 hfo (hfull w.drew rfl) (by omega) hb.2 hb.1
        obtain ⟨g1, g2⟩ := grow_ok (el := t') (old := c') (z := z) hdrop hzs hcat (need := len + n) (by rw [List.length_append, hc1, k6, r2, Nat.add_mul])
        refine ⟨_, _, _, g1, (Ext.drop ρ h w a.block).trans g2, ren_open _ _ _ _ _, ?_⟩
        rw [hrun]
        simp
    · cases ha
  · cases ha
end
end Go.AE
namespace Go.AE
open Go
def acopy (P : Program) (h : AH) (t : TypeId) (dst src : Value) : Option (Value × AH) :=
  match P.underlying t with
  | some (.slice el) => match sizeT P el, dst with
    | some sz, .slice (some a) dLen _ => match asrc h sz src, h.get a.block with
      | some (m, news), some (.cells cs el' o ro) =>
        let vs := news.take (Nat.min m dLen * sz)
        if a.off + vs.length ≤ cs.length ∧ ro = false ∧ vs.all (·.oneCell') then some (.int .i64 (Nat.min m dLen), h.put a.block (some (.cells (lspl cs a.off vs) el' o ro))) else none
      | _, _ => none
    | some sz, .slice none dLen _ => match asrc h sz src with
      | some (m, _) => some (.int .i64 (Nat.min m dLen), h)
      | none => none
    | _, _ => none
  | _ => none
def aclear (P : Program) (h : AH) (t : TypeId) (x : Value) : Option (Value × AH) :=
  match P.underlying t with
  | some (.slice el) => match azero P el, x with
    | some z, .slice (some a) (n + 1) _ => match h.get a.block with
      | some (.cells cs el' o ro) =>
        let vs := (Builtin.zeroCells z.cells (n + 1)).toList
        if a.off + vs.length ≤ cs.length ∧ ro = false ∧ vs.all (·.oneCell') ∧ closedL vs then some (.tuple #[], h.put a.block (some (.cells (lspl cs a.off vs) el' o ro))) else none
      | _ => none
    | some _, .slice _ 0 _ => some (.tuple #[], h)
    | _, _ => none
  | _ => none
def abuildSlice (P : Program) (h : AH) (t : TypeId) (len : Nat) (parts : List (Nat × Value)) : Option (Value × AH) :=
  match P.underlying t with
  | some (.slice el) => match sizeT P el, azero P el with
    | some sz, some z =>
      let base : Array Value := (Array.range (len * sz)).map (z.cells[· % z.cells.size]!)
      if len * sz ≤ 2 ^ 24 ∧ len * sz ≠ 0 ∧ closedArr base then
        match Instr.fill (fun i => some (i * sz, sz)) base parts with
        | some cells => some (.slice (some ⟨h.next, 0, none⟩) len len, h.push (.cells cells.toList el none false))
        | none => none
      else none
    | _, _ => none
  | _ => none
def amakeSlice (P : Program) (h : AH) (t : TypeId) (l c : Value) : Option (Value × AH) :=
  match P.underlying t, l, c with
  | some (.slice el), .int _ l, .int _ c => match P.info? el with
    | some i => match i.zero with
      | some z =>
        if 0 ≤ l ∧ l ≤ c ∧ (i.bytes : Int) * c ≤ 281474976710656 ∧ c ≤ 9223372036854775807 ∧ closedArr (madeCells z.cells (c.toNat * i.size)) then
          some (.slice (some ⟨h.next, 0, none⟩) l.toNat c.toNat, h.push (.cells (madeCells z.cells (c.toNat * i.size)).toList el none false))
        else none
      | none => none
    | none => none
  | _, _, _ => none
def u8? : Value → Option Int
  | .int .u8 n => some n
  | _ => none
def intsOf : List Value → Option (List Int)
  | [] => some []
  | v :: l => (u8? v).bind fun n => (intsOf l).map (n :: ·)
def abytes (P : Program) (h : AH) (src dst : TypeId) (x : Value) : Option (Value × AH) :=
  match P.underlying src, P.underlying dst, x with
  | some (.slice e), some .string, .slice (some a) n _ => match P.underlying e with
    | some (.int .u8) => match acells h a n with
      | some l => (intsOf l).map fun ns => (.string ⟨(ns.map fun n => UInt8.ofNat n.toNat).toArray⟩, h)
      | none => none
    | _ => none
  | some (.slice e), some .string, .chan (some _) => match P.underlying e with
    | some (.int .u8) => some (.string ⟨#[]⟩, h)
    | _ => none
  | some _, some (.slice e), .string s => match P.underlying e with
    | some (.int .u8) => if (s.size : Int) ≤ 9223372036854775807 then some (.slice (some ⟨h.next, 0, none⟩) s.size 0, h.push (.cells (s.data.toList.map fun b => .int .u8 b.toNat) e (some 1) false)) else none
    | _ => none
  | _, _, _ => none
section
variable {P : Program} {G : Nat} {ρ : Rho} {h : AH} {w : World} {e e' : Operand → Value}
def RunAt (P : Program) (G : Nat) (ρ : Rho) (h : AH) (w : World) (s : Sem Value) (r : Value × AH) : Prop :=
  ∃ ρ' v' w', WR G ρ' r.2 w' ∧ Ext ρ h w ρ' r.2 w' ∧ ren ρ' r.1 = some v' ∧ s.run P w = .ok v' w'
theorem copy_ok (H : WR G ρ h w) {t u ty : TypeId} {dst src d' s' : Value} {r : Value × AH} (ha : acopy P h t dst src = some r) (hd : ren ρ dst = some d') (hs : ren ρ src = some s') : RunAt P G ρ h w (Builtin.copy_ #[t, u] ty #[d', s']) r := by
  unfold acopy at ha
  split at ha
  case h_2 => cases ha
  rename_i el ht
  split at ha
  case h_3 => cases ha
  · rename_i sz a dLen c hsz
    split at ha
    case h_2 => cases ha
    rename_i m news cs el' o ro hsrc hg
    dsimp only at ha
    split at ha
    case isFalse => cases ha
    rename_i hcond
    obtain ⟨k1, rfl, k3⟩ := hcond
    cases ha
    obtain ⟨news', r1, r2, r3, r4⟩ := src_ok (P := P) H hsrc hs
    obtain ⟨b, c', q1, _, rfl⟩ := ren_slice hd
    obtain ⟨w', s1, s2, s3⟩ := stores_ok P H hg q1 (renL_take (Nat.min m dLen * sz) r1) k1 k3
    refine ⟨ρ, .int .i64 (Nat.min m dLen), w', s2, s3, by simp [ren], ?_⟩
    have h4 := r4 (Nat.min m dLen) (Nat.min_le_left _ _) w rfl
    simp only [Builtin.copy_, List.getElem?_toArray]
    simp only [List.getElem?_cons_zero, List.getElem?_cons_succ, Sem.run_bind, run_underlying ht, Result.andThen_ok, r3, run_sizeOf hsz, h4, s1]
    rfl
  · rename_i sz dLen c hsz
    split at ha
    case h_2 => cases ha
    rename_i m news hsrc
    cases ha
    obtain ⟨news', r1, r2, r3, r4⟩ := src_ok (P := P) H hsrc hs
    simp [ren] at hd; subst hd
    refine ⟨ρ, .int .i64 (Nat.min m dLen), w, H, Ext.refl _ _ _, by simp [ren], ?_⟩
    have h4 := r4 (Nat.min m dLen) (Nat.min_le_left _ _) w rfl
    simp only [Builtin.copy_, List.getElem?_toArray, List.getElem?_cons_zero, List.getElem?_cons_succ, Sem.run_bind, run_underlying ht, Result.andThen_ok, r3, run_sizeOf hsz, h4]
    rfl
theorem clear_ok (H : WR G ρ h w) {t ty : TypeId} {x x' : Value} {r : Value × AH} (ha : aclear P h t x = some r) (hx : ren ρ x = some x') : RunAt P G ρ h w (Builtin.clear_ #[t] ty #[x']) r := by
  unfold aclear at ha
  split at ha
  case h_2 => cases ha
  rename_i el ht
  split at ha
  case h_3 => cases ha
  · rename_i z a n c hz
    split at ha
    case h_2 => cases ha
    rename_i cs el' o ro hg
    dsimp only at ha
    split at ha
    case isFalse => cases ha
    rename_i hcond
    obtain ⟨k1, rfl, k3, k4⟩ := hcond
    cases ha
    obtain ⟨b, c', q1, _, rfl⟩ := ren_slice hx
    obtain ⟨w', s1, s2, s3⟩ := stores_ok P H hg q1 (closedL_ren ρ _ k4) k1 k3
    refine ⟨ρ, .tuple #[], w', s2, s3, by simp [ren, renArr, renL], ?_⟩
    simp [Builtin.clear_, run_underlying ht, run_zero hz, s1]
  · rename_i z a c hz
    cases ha
    cases a with
    | none =>
      simp [ren] at hx; subst hx
      exact ⟨ρ, .tuple #[], w, H, Ext.refl _ _ _, by simp [ren, renArr, renL], by simp [Builtin.clear_, run_underlying ht]⟩
    | some a =>
      obtain ⟨b, c', q1, _, rfl⟩ := ren_slice hx
      exact ⟨ρ, .tuple #[], w, H, Ext.refl _ _ _, by simp [ren, renArr, renL], by simp [Builtin.clear_, run_underlying ht]⟩
theorem newSlice_ok (H : WR G ρ h w) {cells cells' : Array Value} (hc : renArr ρ cells = some cells') (el : TypeId) (n c : Nat) {s : Sem Value} (hs : s.run P w = .ok (.slice (some ⟨w.heap.size, 0, none⟩) n c) (w.alloc (.cells cells' el))) :
    RunAt P G ρ h w s (.slice (some ⟨h.next, 0, none⟩) n c, h.push (.cells cells.toList el none false)) := by
  obtain ⟨h1, h2⟩ := push_row H hc el
  refine ⟨_, _, _, h1, h2, ?_, hs⟩
  simp only [ren, ren_new, Option.bind_some, renC]
  simp [Rho.bind]
theorem buildSlice_ok (H : WR G ρ h w) {t : TypeId} {len : Nat} {ps ps' : List (Nat × Value)} {r : Value × AH} (ha : abuildSlice P h t len ps = some r) (h1 : ps'.map (·.1) = ps.map (·.1)) (h2 : renL ρ (ps.map (·.2)) = some (ps'.map (·.2))) :
    RunAt P G ρ h w (Instr.buildSlice t len ps'.toArray) r := by
  unfold abuildSlice at ha
  split at ha
  case h_2 => cases ha
  rename_i el ht
  split at ha
  case h_2 => cases ha
  rename_i sz z hsz hz
  dsimp only at ha
  split at ha
  case isFalse => cases ha
  rename_i hcond
  obtain ⟨k1, k2, k3⟩ := hcond
  split at ha
  case h_2 => cases ha
  rename_i cells hf
  cases ha
  obtain ⟨out', f1, f2⟩ := fill_ren h1 h2 (closedArr_ren ρ _ k3) hf
  refine newSlice_ok H f2 el len len ?_
  have k1' : ¬ (len * sz > 2 ^ 24) := by omega
  simp only [Instr.buildSlice, Sem.run_bind, run_underlying ht, run_sizeOf hsz, Result.andThen_ok, k1', if_false, k2, run_zero hz, Sem.run_pure, f1]
  simp [newRow]
theorem makeSlice_ok (H : WR G ρ h w) {t : TypeId} {l c : Value} {r : Value × AH} (ha : amakeSlice P h t l c = some r) : RunAt P G ρ h w (Instr.makeSlice t l c) r := by
  unfold amakeSlice at ha
  split at ha
  case h_2 => cases ha
  rename_i el kl l kc c ht
  split at ha
  case h_2 => cases ha
  rename_i i hi
  split at ha
  case h_2 => cases ha
  rename_i z hz
  split at ha
  case isFalse => cases ha
  rename_i hcond
  obtain ⟨k1, k2, k3, k4, k5⟩ := hcond
  cases ha
  exact newSlice_ok H (closedArr_ren ρ _ k5) el _ _ (run_make w t el i z ht hi hz kl kc l c k1 k2 k3 k4)
theorem u8?_spec {v : Value} {n : Int} (q : u8? v = some n) : v = .int .u8 n := by
  unfold u8? at q
  split at q
  · cases q; rfl
  · cases q
theorem intsOf_spec : ∀ {l : List Value} {ns : List Int}, intsOf l = some ns → l = ns.map (Value.int .u8)
  | [], ns, q => by simp [intsOf] at q; subst q; rfl
  | v :: l, ns, q => by
    simp only [intsOf, Option.bind_eq_some_iff, Option.map_eq_some_iff] at q
    obtain ⟨n, h1, ms, hm, rfl⟩ := q
    simp [intsOf_spec hm, u8?_spec h1]
theorem ints_ren (ns : List Int) : renL ρ (ns.map (Value.int .u8)) = some (ns.map (Value.int .u8)) := by
  induction ns with
  | nil => simp [renL]
  | cons n ns ih => simp only [List.map_cons]; exact renL_cons.2 ⟨_, _, by simp [ren], ih, rfl⟩
theorem bytes_ok (H : WR G ρ h w) {src dst : TypeId} {x x' : Value} {r : Value × AH} (ha : abytes P h src dst x = some r) (hx : ren ρ x = some x') : RunAt P G ρ h w (convert src dst x') r := by
  unfold abytes at ha
  split at ha
  · rename_i el a n c hs hd
    split at ha
    case h_2 => cases ha
    rename_i he
    split at ha
    case h_2 => cases ha
    rename_i l hl
    obtain ⟨ns, hns, rfl⟩ := Option.map_eq_some_iff.1 ha
    obtain ⟨b, c', q1, _, rfl⟩ := ren_slice hx
    obtain ⟨l', r1, r2, r3⟩ := cells_ok H hl q1
    have hl' := intsOf_spec hns
    subst hl'
    rw [ints_ren] at r1
    cases r1
    have hload := run_loadCells_list (P := P) w b (ns.map (Value.int .u8)) r3
    rw [r2] at hload
    refine ⟨ρ, .string ⟨(ns.map fun n => UInt8.ofNat n.toNat).toArray⟩, w, H, Ext.refl _ _ _, by simp [ren], ?_⟩
    rw [run_convert_bytes_string w src dst el _ n c' hs he hd, run_bytesToString w b n c' ns hload, foldl_push_bytes]
    simp [ByteArray.empty, ByteArray.emptyWithCapacity]
    try rfl
  · rename_i el v hs hd
    split at ha
    case h_2 => cases ha
    rename_i he
    cases ha
    simp only [ren] at hx
    obtain ⟨a, c, rfl⟩ := opq_form hx
    refine ⟨ρ, .string ⟨#[]⟩, w, H, Ext.refl _ _ _, by simp [ren], ?_⟩
    have hload : (loadCells a 0).run P w = .ok ([].map (Value.int .u8)).toArray w := by simp [loadCells, loadCellsFrom]
    rw [run_convert_bytes_string w src dst el _ 0 c hs he hd, run_bytesToString w a 0 c [] hload]
    rfl
  · rename_i d el s hs hd
    split at ha
    case h_2 => cases ha
    rename_i he
    split at ha
    case isFalse => cases ha
    cases ha
    simp [ren] at hx; subst hx
    let C := grownCap w s.size 0 el
    have hge : s.size ≤ C := grownCap_ge w s.size 0 el
    let elems : List Value := s.data.toList.map fun b => .int .u8 b.toNat
    let tail : List Value := List.replicate (C - s.size) (.int .u8 0)
    let w' : World := { w with heap := w.heap.push (.cells (elems ++ tail).toArray el (C, C + 1)), drawn := w.drawn + 1 }
    have hel : elems.length = s.size := by simp [elems]
    have hsz : (elems ++ tail).toArray.size = C := by simp only [List.size_toArray, List.length_append, hel, tail, List.length_replicate]; omega
    obtain ⟨g1, g2⟩ := push_open H (map_int_closed s.data.toList) el (elems ++ tail).toArray tail rfl 1 C (by omega) (C, C + 1) (.inr (by omega)) w' rfl rfl rfl rfl
    refine ⟨_, _, _, g1, g2, ren_open _ _ _ _ _, ?_⟩
    have hcap : (Question.appendCap s.size 0 el).cut (w.tape w.drawn (.appendCap s.size 0 el)) = C := rfl
    have harr : (Array.map (fun b : UInt8 => Value.int IntKind.u8 b.toNat) s.data ++ Array.replicate (C - s.size) (Value.int .u8 0)) = (elems ++ tail).toArray := by
      apply Array.ext'; simp [elems, tail]
    simp only [convert, Sem.run_bind, run_underlying hs, run_underlying hd, run_underlying he, Result.andThen_ok, Conv.stringToBytes, run_choose, Question.forced, Bool.false_eq_true, if_false, hcap, newRow, run_newObj, Sem.run_pure]
    rw [harr]
    have hshape : ∀ w1 : World, w1.heap = w.heap.push (.cells (elems ++ tail).toArray el (0, 0)) → (markStringish ⟨w.heap.size, 0, none⟩).run P w1 = .ok () (w1.freeze ⟨w.heap.size, C, none⟩ 1) := fun w1 hw1 => by
      have : w1.shape? w.heap.size = some (el, C) := by
        simp only [World.shape?, hw1, Array.getElem?_push_size, hsz]
      simp [markStringish, this]
    rw [hshape _ rfl]
    simp only [Result.andThen_ok]
    congr 1
    simp only [World.freeze, Nat.one_ne_zero, if_false, w']
    congr 1
    apply Array.ext_getElem?
    intro i
    rw [Array.getElem?_modify]
    by_cases hi : w.heap.size = i
    · subst hi; simp
    · rw [Array.getElem?_push, Array.getElem?_push]
      have : ¬ i = w.heap.size := fun q => hi q.symm
      simp [hi, this]
  · cases ha
end
end Go.AE
namespace Go.AE
open Go
def ktest (P : Program) (kt : TypeId) (k : Value) (ks : List Value) : Option (Value → Option Bool) :=
  match P.underlying kt with
  | none => none
  | some d => if ks.all (fun x => (Instr.sameNow d k x).isSome) then some (Instr.sameNow d k)
    else if ks.all (fun x => (Instr.sameNow d k x).isNone && (pureRun P (Op.equal kt k x)).isSome) then some (fun x => pureRun P (Op.equal kt k x)) else none
def asplit (q : Value → Option Bool) : List (Value × Value) → Option (Option (List (Value × Value) × (Value × Value) × List (Value × Value)))
  | [] => some none
  | e :: es => match q e.1, asplit q es with
    | some true, some none => some (some ([], e, es))
    | some false, some none => some none
    | some false, some (some (a, x, b)) => some (some (e :: a, x, b))
    | _, _ => none
def fnd (q : Value → Option Bool) : List MapEntry → Nat → Option (Nat × Value)
  | [], _ => none
  | e :: es, i => match q e.key with
    | some true => some (i, e.val)
    | _ => fnd q es (i + 1)
theorem asplit_none {q : Value → Option Bool} : ∀ {es : List (Value × Value)}, asplit q es = some none → ∀ e ∈ es, q e.1 = some false
  | [], _, e, he => by simp at he
  | x :: es, h, e, he => by
    unfold asplit at h
    split at h <;> try (simp at h; done)
    rename_i h1 h2
    rcases List.mem_cons.1 he with rfl | he
    · exact h1
    · exact asplit_none h2 e he
theorem asplit_some {q : Value → Option Bool} : ∀ {es a b : List (Value × Value)} {x : Value × Value}, asplit q es = some (some (a, x, b)) → es = a ++ x :: b ∧ q x.1 = some true ∧ ∀ e ∈ a ++ b, q e.1 = some false
  | [], a, b, x, h => by simp [asplit] at h
  | e :: es, a, b, x, h => by
    unfold asplit at h
    split at h
    · rename_i h1 h2
      simp only [Option.some.injEq, Prod.mk.injEq] at h
      obtain ⟨rfl, rfl, rfl⟩ := h
      exact ⟨rfl, h1, fun y hy => asplit_none h2 y (by simpa using hy)⟩
    · simp at h
    · rename_i a0 x0 b0 h1 h2
      simp only [Option.some.injEq, Prod.mk.injEq] at h
      obtain ⟨rfl, rfl, rfl⟩ := h
      obtain ⟨g1, g2, g3⟩ := asplit_some h2
      refine ⟨by rw [g1]; rfl, g2, fun y hy => ?_⟩
      rcases List.mem_cons.1 hy with rfl | hy
      · exact h1
      · exact g3 y hy
    · simp at h
theorem findNow_fnd {d : TypeDesc} {k : Value} : ∀ (es : List MapEntry) (i : Nat), (∀ e ∈ es, (Instr.sameNow d k e.key).isSome = true) → Instr.findNow d k es i = some (fnd (Instr.sameNow d k) es i)
  | [], _, _ => rfl
  | e :: es, i, h => by
    have h1 := h e (by simp)
    unfold Instr.findNow fnd
    cases q : Instr.sameNow d k e.key with
    | none => rw [q] at h1; cases h1
    | some b => cases b with
      | true => rfl
      | false => exact findNow_fnd es (i + 1) fun x hx => h x (by simp [hx])
theorem findAsking_fnd {P : Program} {kt : TypeId} {k : Value} (w : World) : ∀ (es : List MapEntry) (i : Nat), (∀ e ∈ es, (pureRun P (Op.equal kt k e.key)).isSome = true) →
    (Instr.findAsking kt k es i).run P w = .ok (fnd (fun x => pureRun P (Op.equal kt k x)) es i) w
  | [], _, _ => rfl
  | e :: es, i, h => by
    have h1 := h e (by simp)
    unfold Instr.findAsking fnd
    cases q : pureRun P (Op.equal kt k e.key) with
    | none => rw [q] at h1; cases h1
    | some b =>
      have hr := pureRun_run q w
      rw [Sem.run_bind, hr, Result.andThen_ok]
      cases b with
      | true => rfl
      | false => exact findAsking_fnd w es (i + 1) fun x hx => h x (by simp [hx])
theorem findKey_fnd {P : Program} {kt : TypeId} {k : Value} {ks : List Value} {q : Value → Option Bool} (hq : ktest P kt k ks = some q) {es : List MapEntry} (hes : ∀ e ∈ es, e.key ∈ ks) (w : World) :
    (Instr.findKey kt k es).run P w = .ok (fnd q es 0) w := by
  unfold ktest at hq
  split at hq
  · cases hq
  rename_i d hd
  split at hq
  · rename_i hall
    cases hq
    have hh : ∀ e ∈ es, (Instr.sameNow d k e.key).isSome = true := fun e he => List.all_eq_true.1 hall _ (hes e he)
    simp [Instr.findKey, run_underlying hd, findNow_fnd es 0 hh]
  · split at hq
    case isFalse => cases hq
    rename_i hall
    cases hq
    have hh : ∀ e ∈ es, Instr.sameNow d k e.key = none ∧ (pureRun P (Op.equal kt k e.key)).isSome = true := fun e he => by
      have := List.all_eq_true.1 hall _ (hes e he)
      simp only [Bool.and_eq_true, Option.isNone_iff_eq_none] at this
      exact this
    cases es with
    | nil => simp [Instr.findKey, run_underlying hd, Instr.findNow, fnd]
    | cons e es =>
      have h0 := (hh e (by simp)).1
      have := findAsking_fnd (P := P) (kt := kt) (k := k) w (e :: es) 0 fun x hx => (hh x hx).2
      simp only [Instr.findKey, Sem.run_bind, run_underlying hd, Result.andThen_ok, Instr.findNow, h0, this]
theorem fnd_none {q : Value → Option Bool} : ∀ {es : List MapEntry} {i : Nat}, (∀ e ∈ es, q e.key ≠ some true) → fnd q es i = none
  | [], _, _ => rfl
  | e :: es, i, h => by
    unfold fnd
    split
    · rename_i h1; exact absurd h1 (h e (by simp))
    · exact fnd_none fun x hx => h x (by simp [hx])
theorem fnd_some {q : Value → Option Bool} : ∀ {es : List MapEntry} {i : Nat}, (∃ e ∈ es, q e.key = some true) → ∃ pre e post, es = pre ++ e :: post ∧ q e.key = some true ∧ fnd q es i = some (i + pre.length, e.val)
  | [], _, ⟨e, he, _⟩ => by simp at he
  | e :: es, i, ⟨x, hx, hqx⟩ => by
    unfold fnd
    by_cases h : q e.key = some true
    · rw [h]
      exact ⟨[], e, es, rfl, h, rfl⟩
    · have : ∃ e ∈ es, q e.key = some true := by
        rcases List.mem_cons.1 hx with rfl | hx
        · exact absurd hqx h
        · exact ⟨x, hx, hqx⟩
      obtain ⟨pre, y, post, h1, h2, h3⟩ := fnd_some (i := i + 1) this
      refine ⟨e :: pre, y, post, by rw [h1]; rfl, h2, ?_⟩
      split
      · rename_i q1; exact absurd q1 h
      · rw [h3]; congr 2; simp; omega
abbrev prs (l : List MapEntry) : List (Value × Value) := l.map fun e => (e.key, e.val)
theorem find_ok {P : Program} {ρ : Rho} {kt : TypeId} {k : Value} {es : List (Value × Value)} {q : Value → Option Bool} (hq : ktest P kt k (es.map (·.1)) = some q) {vs : List Value} (hv : renL ρ (es.map (·.2)) = some vs) {ents : List MapEntry}
    (hp : ((es.map (·.1)).zip vs).Perm (prs ents)) (w : World) :
    (asplit q es = some none → (Instr.findKey kt k ents).run P w = .ok none w) ∧
    (∀ a x b, asplit q es = some (some (a, x, b)) → ∃ va x' vb pre e post, vs = va ++ x' :: vb ∧ renL ρ (a.map (·.2)) = some va ∧ ren ρ x.2 = some x' ∧ renL ρ (b.map (·.2)) = some vb ∧
      ents = pre ++ e :: post ∧ e.key = x.1 ∧ e.val = x' ∧ (Instr.findKey kt k ents).run P w = .ok (some (pre.length, x')) w ∧ (((a ++ b).map (·.1)).zip (va ++ vb)).Perm (prs (pre ++ post))) := by
  have hlen := renL_length hv
  have hkeys : ∀ e ∈ ents, e.key ∈ es.map (·.1) := fun e he => by
    have h1 : (e.key, e.val) ∈ (es.map (·.1)).zip vs := hp.mem_iff.2 (List.mem_map.2 ⟨e, he, rfl⟩)
    exact (List.of_mem_zip h1).1
  have hrun := findKey_fnd hq hkeys w
  refine ⟨fun h => ?_, fun a x b h => ?_⟩
  · have h1 := asplit_none h
    rw [hrun, fnd_none]
    intro e he
    obtain ⟨p, hp1, hp2⟩ := List.mem_map.1 (hkeys e he)
    rw [← hp2, h1 p hp1]; simp
  · obtain ⟨rfl, g2, g3⟩ := asplit_some h
    simp only [List.map_append, List.map_cons] at hv
    obtain ⟨va, vb0, r1, r2, rfl⟩ := renL_append.1 hv
    obtain ⟨x', vb, r3, r4, rfl⟩ := renL_cons.1 r2
    have hla := renL_length r1
    have hzip : ((a ++ x :: b).map (·.1)).zip (va ++ x' :: vb) = (a.map (·.1)).zip va ++ (x.1, x') :: (b.map (·.1)).zip vb := by
      rw [List.map_append, List.zip_append (by simpa using hla.symm)]
      rfl
    have hzip2 : ((a ++ b).map (·.1)).zip (va ++ vb) = (a.map (·.1)).zip va ++ (b.map (·.1)).zip vb := by
      rw [List.map_append, List.zip_append (by simpa using hla.symm)]
    rw [hzip] at hp
    have hex : ∃ e ∈ ents, q e.key = some true := by
      have : (x.1, x') ∈ prs ents := hp.mem_iff.1 (by simp)
      obtain ⟨e, he, heq⟩ := List.mem_map.1 this
      exact ⟨e, he, by have : e.key = x.1 := congrArg Prod.fst heq
                       rw [this]; exact g2⟩
    obtain ⟨pre, e, post, h1, h2, h3⟩ := fnd_some (i := 0) hex
    subst h1
    have hm : (e.key, e.val) ∈ (a.map (·.1)).zip va ++ (x.1, x') :: (b.map (·.1)).zip vb := hp.mem_iff.2 (by simp [prs])
    have hother : ∀ p ∈ (a.map (·.1)).zip va ++ (b.map (·.1)).zip vb, q p.1 = some false := fun p hp' => by
      have : p.1 ∈ (a ++ b).map (·.1) := by
        rw [List.map_append]
        rcases List.mem_append.1 hp' with hp' | hp'
        · exact List.mem_append_left _ (List.of_mem_zip (show (p.1, p.2) ∈ _ from hp')).1
        · exact List.mem_append_right _ (List.of_mem_zip (show (p.1, p.2) ∈ _ from hp')).1
      obtain ⟨y, hy, hyq⟩ := List.mem_map.1 this
      rw [← hyq]; exact g3 y hy
    have hex2 : (e.key, e.val) = (x.1, x') := by
      rcases List.mem_append.1 hm with hm | hm
      · have := hother _ (List.mem_append_left _ hm)
        rw [h2] at this; cases this
      · rcases List.mem_cons.1 hm with hm | hm
        · exact hm
        · have := hother _ (List.mem_append_right _ hm)
          rw [h2] at this; cases this
    have he1 : e.key = x.1 := congrArg Prod.fst hex2
    have he2 : e.val = x' := congrArg Prod.snd hex2
    refine ⟨va, x', vb, pre, e, post, rfl, r1, r3, r4, rfl, he1, he2, ?_, ?_⟩
    · rw [hrun, h3, he2, Nat.zero_add]
    · rw [hzip2]
      have h5 : ((x.1, x') :: ((a.map (·.1)).zip va ++ (b.map (·.1)).zip vb)).Perm ((x.1, x') :: prs (pre ++ post)) := by
        refine (List.perm_middle.symm.trans hp).trans ?_
        simp only [prs, List.map_append, List.map_cons, hex2]
        exact List.perm_middle
      exact h5.cons_inv
def kok (P : Program) (kt : TypeId) (k : Value) (empty : Bool) : Bool := (pureRun P (Instr.checkKey empty 10000 kt k)).isSome && closed k
theorem kok_run {P : Program} {kt : TypeId} {k : Value} {e : Bool} (h : kok P kt k e = true) (w : World) : (Instr.checkKey e 10000 kt k).run P w = .ok () w := by
  unfold kok at h
  simp only [Bool.and_eq_true] at h
  obtain ⟨u, hu⟩ := Option.isSome_iff_exists.1 h.1
  exact pureRun_run hu w
def amapOf (h : AH) : Value → Option (Nat × List (Value × Value) × Nat)
  | .map (some r) => match h.get r with
    | some (.mp es v) => some (r, es, v)
    | _ => none
  | _ => none
def mtype (P : Program) (t : TypeId) : Option (TypeId × TypeId) := match P.underlying t with
  | some (.map k e) => some (k, e)
  | _ => none
def amakeMap (h : AH) (hint : Option Value) : Option (Value × AH) :=
  match hint with
  | none | some (.int _ _) => some (.map (some (h.next + 1)), h.bump.push (.mp [] h.next))
  | _ => none
def alookup (P : Program) (h : AH) (t : TypeId) (x k : Value) (ok : Bool) : Option Value :=
  match mtype P t, amapOf h x with
  | some (kt, et), some (_, es, _) =>
    if kok P kt k es.isEmpty then
      match ktest P kt k (es.map (·.1)) with
      | some q => match asplit q es with
        | some (some (_, y, _)) => some (if ok then .tuple #[y.2, .bool true] else y.2)
        | some none => (azero P et).bind fun z => if closed z then some (if ok then .tuple #[z, .bool false] else z) else none
        | none => none
      | none => none
    else none
  | _, _ => none
mutual
def kbits : Value → Value → Bool
  | .bool a, .bool b => a == b
  | .int j a, .int k b => decide (j = k) && decide (a = b)
  | .string a, .string b => decide (a.data.toList = b.data.toList)
  | .agg a, .agg b => kbitsA a b
  | _, _ => false
def kbitsA : Array Value → Array Value → Bool
  | ⟨a⟩, ⟨b⟩ => kbitsL a b
def kbitsL : List Value → List Value → Bool
  | [], [] => true
  | x :: xs, y :: ys => kbits x y && kbitsL xs ys
  | _, _ => false
end
def amapUpdate (P : Program) (h : AH) (t : TypeId) (m k x : Value) : Option AH :=
  match mtype P t, amapOf h m with
  | some (kt, _), some (r, es, v) =>
    if kok P kt k false then
      match ktest P kt k (es.map (·.1)) with
      | some q => match asplit q es with
        | some (some (a, y, b)) => if kbits y.1 k && Instr.sameBits 10000 y.1 k then some (h.put r (some (.mp (a ++ (y.1, x) :: b) v))) else none
        | some none => if kbits k k && es.all (fun y => !kbits y.1 k) then some (h.put r (some (.mp ((k, x) :: es) h.next))).bump else none
        | none => none
      | none => none
    else none
  | _, _ => none
def adelete (P : Program) (h : AH) (t : TypeId) (m k : Value) : Option AH :=
  match mtype P t, amapOf h m with
  | some (kt, _), some (r, es, v) =>
    if kok P kt k es.isEmpty then
      match ktest P kt k (es.map (·.1)) with
      | some q => match asplit q es with
        | some (some (a, _, b)) => some (h.put r (some (.mp (a ++ b) v)))
        | some none => some h
        | none => none
      | none => none
    else none
  | _, _ => none
def arangeMap (h : AH) : Value → Option (Value × AH)
  | .map none => some (.pointer (some ⟨h.next, 0, none⟩), h.push (.mit none 0 []))
  | .map (some r) => match h.get r with
    | some (.mp _ v) => some (.pointer (some ⟨h.next, 0, none⟩), h.push (.mit (some r) v []))
    | _ => none
  | _ => none
def aleft (ks : List Value) (es : List (Value × Value)) : List (Value × Value) := es.filter fun e => !ks.any (kbits e.1)
end Go.AE
namespace Go.AE
open Go
section
variable {P : Program} {G : Nat} {ρ : Rho} {h : AH} {w : World} {e e' : Operand → Value}
mutual
theorem kbits_sound : ∀ a b, kbits a b = true → a = b
  | .bool a, .bool b, h => by simp [kbits] at h; rw [h]
  | .int j a, .int k b, h => by simp [kbits] at h; rw [h.1, h.2]
  | .string a, .string b, h => by
    simp only [kbits, decide_eq_true_eq] at h
    congr 1
    cases a; cases b
    simp at h
    rw [h]
  | .agg a, .agg b, h => by
    simp only [kbits] at h
    rw [kbitsA_sound a b h]
  | .bool _, .int .., h | .bool _, .float .., h | .bool _, .complex .., h | .bool _, .string .., h | .bool _, .pointer .., h | .bool _, .slice .., h | .bool _, .map .., h | .bool _, .chan .., h | .bool _, .func .., h | .bool _, .nilFunc, h | .bool _, .iface .., h | .bool _, .nilIface, h | .bool _, .agg .., h | .bool _, .tuple .., h => by simp [kbits] at h
  | .int .., .bool .., h | .int .., .float .., h | .int .., .complex .., h | .int .., .string .., h | .int .., .pointer .., h | .int .., .slice .., h | .int .., .map .., h | .int .., .chan .., h | .int .., .func .., h | .int .., .nilFunc, h | .int .., .iface .., h | .int .., .nilIface, h | .int .., .agg .., h | .int .., .tuple .., h => by simp [kbits] at h
  | .string .., .bool .., h | .string .., .int .., h | .string .., .float .., h | .string .., .complex .., h | .string .., .pointer .., h | .string .., .slice .., h | .string .., .map .., h | .string .., .chan .., h | .string .., .func .., h | .string .., .nilFunc, h | .string .., .iface .., h | .string .., .nilIface, h | .string .., .agg .., h | .string .., .tuple .., h => by simp [kbits] at h
  | .agg .., .bool .., h | .agg .., .int .., h | .agg .., .float .., h | .agg .., .complex .., h | .agg .., .string .., h | .agg .., .pointer .., h | .agg .., .slice .., h | .agg .., .map .., h | .agg .., .chan .., h | .agg .., .func .., h | .agg .., .nilFunc, h | .agg .., .iface .., h | .agg .., .nilIface, h | .agg .., .tuple .., h => by simp [kbits] at h
  | .float .., _, h | .complex .., _, h | .pointer .., _, h | .slice .., _, h | .map .., _, h | .chan .., _, h | .func .., _, h | .nilFunc, _, h | .iface .., _, h | .nilIface, _, h | .tuple .., _, h => by simp [kbits] at h
theorem kbitsA_sound : ∀ a b, kbitsA a b = true → a = b
  | ⟨x⟩, ⟨y⟩, h => by
    simp only [kbitsA] at h
    rw [kbitsL_sound x y h]
theorem kbitsL_sound : ∀ a b, kbitsL a b = true → a = b
  | [], [], _ => rfl
  | v :: l, u :: m, h => by
    simp only [kbitsL, Bool.and_eq_true] at h
    rw [kbits_sound v u h.1, kbitsL_sound l m h.2]
  | [], _ :: _, h | _ :: _, [], h => by simp [kbitsL] at h
end
mutual
theorem kbits_closed : ∀ a, kbits a a = true → closed a = true
  | .bool _, _ | .int _ _, _ | .string _, _ => rfl
  | .agg a, h => by
    simp only [kbits] at h
    simp only [closed]
    exact kbitsA_closed a h
  | .float .., h | .complex .., h | .pointer .., h | .slice .., h | .map .., h | .chan .., h | .func .., h | .nilFunc, h | .iface .., h | .nilIface, h | .tuple .., h => by simp [kbits] at h
theorem kbitsA_closed : ∀ a, kbitsA a a = true → closedArr a = true
  | ⟨x⟩, h => by
    simp only [kbitsA] at h
    simp only [closedArr]
    exact kbitsL_closed x h
theorem kbitsL_closed : ∀ a, kbitsL a a = true → closedL a = true
  | [], _ => rfl
  | v :: l, h => by
    simp only [kbitsL, Bool.and_eq_true] at h
    simp only [closedL, kbits_closed v h.1, kbitsL_closed l h.2, Bool.and_self]
end
theorem any_kbits {k : Value} (hk : kbits k k = true) {ks : List Value} : ks.any (kbits k) = true ↔ k ∈ ks := by
  rw [List.any_eq_true]
  constructor
  · rintro ⟨x, hx, q⟩; rw [kbits_sound _ _ q]; exact hx
  · intro hx; exact ⟨k, hx, hk⟩
theorem zip_left : ∀ {es : List (Value × Value)} {vs : List Value}, renL ρ (es.map (·.2)) = some vs → ∀ p ∈ (es.map (·.1)).zip vs, ∃ x ∈ es, p.1 = x.1 ∧ ren ρ x.2 = some p.2
  | [], vs, _, p, hp => by simp at hp
  | x :: es, vs, hv, p, hp => by
    simp only [List.map_cons] at hv hp
    obtain ⟨v', l', h1, h2, rfl⟩ := renL_cons.1 hv
    rcases List.mem_cons.1 hp with rfl | hp
    · exact ⟨x, by simp, rfl, h1⟩
    · obtain ⟨y, hy, q⟩ := zip_left h2 p hp
      exact ⟨y, by simp [hy], q⟩
theorem zip_right : ∀ {es : List (Value × Value)} {vs : List Value}, renL ρ (es.map (·.2)) = some vs → ∀ x ∈ es, ∃ v', (x.1, v') ∈ (es.map (·.1)).zip vs ∧ ren ρ x.2 = some v'
  | [], vs, _, x, hx => by simp at hx
  | y :: es, vs, hv, x, hx => by
    simp only [List.map_cons] at hv ⊢
    obtain ⟨v', l', h1, h2, rfl⟩ := renL_cons.1 hv
    rcases List.mem_cons.1 hx with rfl | hx
    · exact ⟨v', by simp, h1⟩
    · obtain ⟨u, hu, q⟩ := zip_right h2 x hx
      exact ⟨u, by simp [hu], q⟩
theorem amap_ok (H : WR G ρ h w) {x x' : Value} {r v : Nat} {es : List (Value × Value)} (hm : amapOf h x = some (r, es, v)) (hx : ren ρ x = some x') :
    h.get r = some (.mp es v) ∧ ∃ b ents, ρ.blk r = some b ∧ x' = .map (some b) ∧ w.heap[b]? = some (.map ents (ρ.st v).2) ∧ (∃ vs, renL ρ (es.map (·.2)) = some vs ∧ ((es.map (·.1)).zip vs).Perm (prs ents.toList)) ∧
      (∃ b0, ρ.blk v = some b0) ∧ StOK (ρ.st v).1 (ρ.st v).2 ∧ ∀ e ∈ ents.toList, (e.key, e.born) ∈ (ρ.st v).1 := by
  unfold amapOf at hm
  split at hm
  case h_2 => cases hm
  rename_i r0
  split at hm
  case h_2 => cases hm
  rename_i es0 v0 hg
  cases hm
  refine ⟨hg, ?_⟩
  simp only [ren, Option.map_eq_some_iff] at hx
  obtain ⟨b, hb, rfl⟩ := hx
  obtain ⟨b', y, q1, q2, q3⟩ := H.obj _ _ hg
  rw [hb] at q1; cases q1
  cases y <;> simp only [ObjR] at q3
  rename_i ents clock
  obtain ⟨h1, h2, rfl, h4, h5⟩ := q3
  exact ⟨b, ents, hb, rfl, q2, h1, h2, h4, h5⟩
theorem mtype_ok {t k el : TypeId} (h : mtype P t = some (k, el)) : P.underlying t = some (.map k el) := by
  unfold mtype at h
  split at h
  · rename_i h1; cases h; exact h1
  · cases h
theorem empty_eq {es : List (Value × Value)} {vs : List Value} (hv : renL ρ (es.map (·.2)) = some vs) {ents : Array MapEntry} (hp : ((es.map (·.1)).zip vs).Perm (prs ents.toList)) : ents.isEmpty = es.isEmpty ∧ ents.size = es.length := by
  have hl := hp.length_eq
  have hl2 := renL_length hv
  simp only [List.length_zip, List.length_map, prs] at hl hl2
  have : ents.size = es.length := by
    have e1 : ents.toList.length = ents.size := by simp
    omega
  refine ⟨?_, this⟩
  cases es with
  | nil => simp at this; simp [this]
  | cons x es => simp [Array.isEmpty, this]
theorem gobj_map {b : Nat} {ents : Array MapEntry} {c : Nat} (hb : w.heap[b]? = some (.map ents c)) : (getObj b).run P w = .ok (.map ents c) w := by simp [getObj, Sem.run, hb]
theorem sobj_map {b : Nat} {ents : Array MapEntry} {c : Nat} (hb : w.heap[b]? = some (.map ents c)) (o : Obj) : (setObj b o).run P w = .ok () { w with heap := w.heap.setIfInBounds b o } := by simp [setObj, Sem.run, hb]
theorem makeMap_ok (H : WR G ρ h w) {t : TypeId} {hint : Option Value} {r : Value × AH} (ha : amakeMap h hint = some r) (ht : (mtype P t).isSome = true) {hint' : Option Value} (hh : ∀ v, hint = some v → ∃ v', hint' = some v' ∧ ren ρ v = some v') (hn : hint = none → hint' = none) :
    RunAt P G ρ h w (Instr.makeMap t hint') r := by
  have key : RunAt P G ρ h w (do pure (.map (some (← newObj (.map #[] 0)))) : Sem Value) (.map (some (h.next + 1)), h.bump.push (.mp [] h.next)) := by
    have W1 := H.ver ([], 0)
    have E1 := Ext.ver H ([], 0)
    have hfresh := W1.fresh h.bump.next (Nat.le_refl _)
    have hst : (ρ.bindS h.next ([], 0)).st h.next = ([], 0) := by simp [Rho.bindS]
    have hbl : (ρ.bindS h.next ([], 0)).blk h.next = some 0 := by simp [Rho.bindS]
    have hne : h.next ≠ h.next + 1 := by omega
    refine ⟨(ρ.bindS h.next ([], 0)).bind h.bump.next w.heap.size none, .map (some w.heap.size), { w with heap := w.heap.push (.map #[] 0) }, ?_, ?_, ?_, ?_⟩
    · refine W1.alloc _ (.map #[] 0) none rfl ?_
      simp only [ObjR]
      refine ⟨⟨[], by simp [renL], by simp⟩, ⟨0, by simp [Rho.bind, hbl]⟩, by simp [Rho.bind, hst], by simp [Rho.bind, hst, StOK], by simp⟩
    · exact E1.trans (Ext.alloc W1 _ _ none rfl rfl rfl rfl)
    · simp [ren, Rho.bind]
    · simp [newObj, Sem.run]
  obtain ⟨⟨kt, et⟩, hkt⟩ := Option.isSome_iff_exists.1 ht
  have hu := mtype_ok hkt
  unfold amakeMap at ha
  split at ha
  · cases ha
    rw [hn rfl]
    exact key
  · rename_i k n
    cases ha
    obtain ⟨v', hv', hr⟩ := hh _ rfl
    have := ren_int hr
    subst this
    rw [hv']
    obtain ⟨ρ', v', w', k1, k2, k3, k4⟩ := key
    refine ⟨ρ', v', w', k1, k2, k3, ?_⟩
    have hai : (asInt (.int k n)).run P w = .ok n w := by simp [asInt, asIntOf]
    simp only [Instr.makeMap, Sem.run_bind, run_underlying hu, Result.andThen_ok, hai]
    simpa [Sem.run_bind] using k4
  · cases ha
theorem lookup_ok (H : WR G ρ h w) {t : TypeId} {x k x' : Value} {ok : Bool} {v : Value} (ha : alookup P h t x k ok = some v) (hx : ren ρ x = some x') : ∃ v', ren ρ v = some v' ∧ (Instr.lookup t x' k ok).run P w = .ok v' w := by
  unfold alookup at ha
  split at ha
  case h_2 => cases ha
  rename_i kt et r es ver hmt hmo
  have hu := mtype_ok hmt
  obtain ⟨hg, b, ents, hb, rfl, hw, ⟨vs, h1, h2⟩, _, _, _⟩ := amap_ok H hmo hx
  split at ha
  case isFalse => cases ha
  rename_i hk
  split at ha
  case h_2 => cases ha
  rename_i q hq
  obtain ⟨f1, f2⟩ := find_ok hq h1 h2 w
  have hck := kok_run hk w
  rw [← (empty_eq h1 h2).1] at hck
  split at ha
  · rename_i a y b0 hs
    cases ha
    obtain ⟨va, y', vb, pre, e, post, _, _, g3, _, g5, g6, g7, g8, _⟩ := f2 _ _ _ hs
    refine ⟨if ok then .tuple #[y', .bool true] else y', by cases ok <;> simp [ren, renArr, renL, g3], ?_⟩
    simp only [Instr.lookup, Sem.run_bind, run_underlying hu, Result.andThen_ok, gobj_map hw, hck, g8, Sem.run_pure]
  · rename_i hs
    obtain ⟨z, hz, ha⟩ := Option.bind_eq_some_iff.1 ha
    split at ha
    case isFalse => cases ha
    rename_i hc
    cases ha
    have hzr := closed_ren ρ z hc
    refine ⟨if ok then .tuple #[z, .bool false] else z, by cases ok <;> simp [ren, renArr, renL, hzr], ?_⟩
    simp only [Instr.lookup, Sem.run_bind, run_underlying hu, Result.andThen_ok, gobj_map hw, hck, f1 hs, run_zero hz, Sem.run_pure]
  · cases ha
theorem mod_mid {e : MapEntry} {post : List MapEntry} (f : MapEntry → MapEntry) : ∀ (pre : List MapEntry), (pre ++ e :: post).modify pre.length f = pre ++ f e :: post
  | [] => rfl
  | a :: l => by simp [mod_mid f l]
theorem modify_mid {pre post : List MapEntry} {e : MapEntry} {ents : Array MapEntry} (h : ents.toList = pre ++ e :: post) (f : MapEntry → MapEntry) : (ents.modify pre.length f).toList = pre ++ f e :: post := by
  rw [Array.toList_modify, h, mod_mid]
theorem mem_mid {pre post : List MapEntry} {e x : MapEntry} (h : x ∈ pre ++ post) : x ∈ pre ++ e :: post := by
  rcases List.mem_append.1 h with h | h
  · exact List.mem_append_left _ h
  · exact List.mem_append_right _ (List.mem_cons_of_mem _ h)
theorem mapUpdate_ok (H : WR G ρ h w) {t : TypeId} {m k x m' x' : Value} {h' : AH} (ha : amapUpdate P h t m k x = some h') (hm : ren ρ m = some m') (hx : ren ρ x = some x') :
    ∃ ρ' w', WR G ρ' h' w' ∧ Ext ρ h w ρ' h' w' ∧ (Instr.mapUpdate t m' k x').run P w = .ok () w' := by
  unfold amapUpdate at ha
  split at ha
  case h_2 => cases ha
  rename_i kt et r es ver hmt hmo
  have hu := mtype_ok hmt
  obtain ⟨hg, b, ents, hb, rfl, hw, ⟨vs, h1, h2⟩, ⟨b0, hver⟩, hst, hent⟩ := amap_ok H hmo hm
  split at ha
  case isFalse => cases ha
  rename_i hk
  split at ha
  case h_2 => cases ha
  rename_i q hq
  obtain ⟨f1, f2⟩ := find_ok hq h1 h2 w
  have hck := kok_run hk w
  split at ha
  · rename_i a y c hs
    split at ha
    case isFalse => cases ha
    rename_i hkb
    simp only [Bool.and_eq_true] at hkb
    have hyk := kbits_sound _ _ hkb.1
    cases ha
    obtain ⟨va, y', vb, pre, e, post, rfl, g1, g3, g4, g5, g6, g7, g8, g9⟩ := f2 _ _ _ hs
    have hee : ents[pre.length]? = some e := by
      have : ents.toList[pre.length]? = some e := by rw [g5]; simp
      simpa using this
    have hmod := modify_mid g5 (fun e => { e with key := k, val := x' })
    have hrun : (Instr.mapUpdate t (.map (some b)) k x').run P w = .ok () { w with heap := w.heap.setIfInBounds b (.map (ents.modify pre.length fun e => { e with key := k, val := x' }) (ρ.st ver).2) } := by
      have hstay : ((Instr.keyThatStays e.key k).run P w) = .ok k w := by simp [Instr.keyThatStays, g6, hkb.2]
      simp only [Instr.mapUpdate, Sem.run_bind, run_underlying hu, Result.andThen_ok, gobj_map hw, hck, g8, hee, Option.map_some, Option.getD_some, hstay, sobj_map hw]
    refine ⟨ρ, _, ?_, ?_, hrun⟩
    rotate_left
    · exact Ext.set H hg rfl hb rfl rfl rfl rfl
    refine H.set hg hb rfl ?_
    simp only [ObjR]
    refine ⟨⟨va ++ x' :: vb, ?_, ?_⟩, ⟨b0, hver⟩, trivial, hst, ?_⟩
    · simp only [List.map_append, List.map_cons]
      exact renL_append.2 ⟨_, _, g1, renL_cons.2 ⟨_, _, hx, g4, rfl⟩, rfl⟩
    · have hla := renL_length g1
      have z1 : ((a ++ (y.1, x) :: c).map (·.1)).zip (va ++ x' :: vb) = (a.map (·.1)).zip va ++ (y.1, x') :: (c.map (·.1)).zip vb := by
        rw [List.map_append, List.zip_append (by simpa using hla.symm)]
        rfl
      have z2 : ((a ++ c).map (·.1)).zip (va ++ vb) = (a.map (·.1)).zip va ++ (c.map (·.1)).zip vb := by
        rw [List.map_append, List.zip_append (by simpa using hla.symm)]
      rw [z1, hmod]
      rw [z2] at g9
      have e1 : prs (pre ++ { e with key := k, val := x' } :: post) = prs pre ++ (y.1, x') :: prs post := by simp [prs, hyk]
      have e2 : prs (pre ++ post) = prs pre ++ prs post := by simp [prs]
      rw [e2] at g9
      rw [show (List.map (fun e => (e.key, e.val)) (pre ++ { e with key := k, val := x' } :: post)) = prs pre ++ (y.1, x') :: prs post from e1]
      exact (List.perm_middle.trans (List.Perm.cons _ g9)).trans List.perm_middle.symm
    · intro z hz
      rw [hmod] at hz
      rcases List.mem_append.1 hz with hz | hz
      · exact hent z (by rw [g5]; exact List.mem_append_left _ hz)
      · rcases List.mem_cons.1 hz with rfl | hz
        · have := hent e (by rw [g5]; simp)
          rw [g6, hyk] at this
          exact this
        · exact hent z (by rw [g5]; exact List.mem_append_right _ (List.mem_cons_of_mem _ hz))
  · rename_i hs
    split at ha
    case isFalse => cases ha
    rename_i hnew
    simp only [Bool.and_eq_true, List.all_eq_true, Bool.not_eq_true'] at hnew
    cases ha
    have hkn : ∀ z ∈ ents.toList, z.key ≠ k := fun z hz hzk => by
      have : (z.key, z.val) ∈ (es.map (·.1)).zip vs := h2.mem_iff.2 (List.mem_map.2 ⟨z, hz, rfl⟩)
      obtain ⟨y, hy, q1, _⟩ := zip_left h1 _ this
      have := hnew.2 y hy
      simp only at q1
      rw [← q1, hzk, hnew.1] at this
      cases this
    let s : List (Value × Nat) × Nat := ((k, (ρ.st ver).2) :: ents.toList.map (fun e => (e.key, e.born)), (ρ.st ver).2 + 1)
    have W1 := H.ver s
    have E1 := Ext.ver H s
    have hle := E1.le
    have hg' : h.bump.get r = some (.mp es ver) := hg
    have hb' := (hle _ _ hb).1
    have hst1 : (ρ.bindS h.next s).st h.next = s := by simp [Rho.bindS]
    have hrun : (Instr.mapUpdate t (.map (some b)) k x').run P w = .ok () { w with heap := w.heap.setIfInBounds b (.map (ents.push { key := k, val := x', born := (ρ.st ver).2 }) ((ρ.st ver).2 + 1)) } := by
      simp only [Instr.mapUpdate, Sem.run_bind, run_underlying hu, Result.andThen_ok, gobj_map hw, hck, f1 hs, sobj_map hw]
    refine ⟨ρ.bindS h.next s, _, ?_, ?_, hrun⟩
    rotate_left
    · exact E1.trans (Ext.set W1 hg' rfl hb' rfl rfl rfl rfl)
    refine W1.set hg' hb' rfl ?_
    simp only [ObjR, hst1]
    refine ⟨⟨x' :: vs, ?_, ?_⟩, ⟨0, by simp [Rho.bindS]⟩, rfl, ⟨?_, ?_⟩, ?_⟩
    · exact renL_cons.2 ⟨_, _, ren_mono hle _ _ hx, renL_mono hle _ _ h1, rfl⟩
    · simp only [List.map_cons, List.zip_cons_cons, Array.toList_push, List.map_append, List.map_nil]
      exact (List.Perm.cons _ h2).trans (List.perm_append_singleton _ _).symm
    · have hold : ∀ p ∈ ents.toList.map (fun e => (e.key, e.born)), ∃ z ∈ ents.toList, p = (z.key, z.born) := fun p hp => by
        obtain ⟨z, hz, q⟩ := List.mem_map.1 hp
        exact ⟨z, hz, q.symm⟩
      intro p hp q hq
      rcases List.mem_cons.1 hp with rfl | hp <;> rcases List.mem_cons.1 hq with rfl | hq
      · simp
      · obtain ⟨z, hz, rfl⟩ := hold q hq
        have := hst.2 _ (hent z hz)
        simp only at this ⊢
        exact ⟨fun q => by omega, fun q => absurd q.symm (hkn z hz)⟩
      · obtain ⟨z, hz, rfl⟩ := hold p hp
        have := hst.2 _ (hent z hz)
        simp only at this ⊢
        exact ⟨fun q => by omega, fun q => absurd q (hkn z hz)⟩
      · obtain ⟨z, hz, rfl⟩ := hold p hp
        obtain ⟨u, hu', rfl⟩ := hold q hq
        exact hst.1 _ (hent z hz) _ (hent u hu')
    · intro p hp
      rcases List.mem_cons.1 hp with rfl | hp
      · simp
      · obtain ⟨z, hz, rfl⟩ := List.mem_map.1 hp
        have := hst.2 _ (hent z hz)
        simp only at this ⊢
        omega
    · intro z hz
      simp only [Array.toList_push, List.mem_append, List.mem_singleton] at hz
      rcases hz with hz | rfl
      · exact List.mem_cons_of_mem _ (List.mem_map.2 ⟨z, hz, rfl⟩)
      · exact List.mem_cons_self ..
  · cases ha
theorem erase_mid {pre post : List MapEntry} {e : MapEntry} {ents : Array MapEntry} (h : ents.toList = pre ++ e :: post) : (ents.eraseIdxIfInBounds pre.length).toList = pre ++ post := by
  have hlt : pre.length < ents.size := by
    have : ents.toList.length = ents.size := by simp
    rw [h] at this; simp at this; omega
  unfold Array.eraseIdxIfInBounds
  rw [dif_pos hlt, Array.toList_eraseIdx, h]
  have key : ∀ (l : List MapEntry), (l ++ e :: post).eraseIdx l.length = l ++ post := by
    intro l
    induction l with
    | nil => rfl
    | cons a l ih => simp [ih]
  exact key pre
theorem delete_ok (H : WR G ρ h w) {t u ty : TypeId} {m k m' : Value} {h' : AH} (ha : adelete P h t m k = some h') (hm : ren ρ m = some m') :
    RunAt P G ρ h w (Builtin.delete_ #[t, u] ty #[m', k]) (.tuple #[], h') := by
  unfold adelete at ha
  split at ha
  case h_2 => cases ha
  rename_i kt et r es ver hmt hmo
  have hu := mtype_ok hmt
  obtain ⟨hg, b, ents, hb, rfl, hw, ⟨vs, h1, h2⟩, ⟨b0, hver⟩, hst, hent⟩ := amap_ok H hmo hm
  split at ha
  case isFalse => cases ha
  rename_i hk
  split at ha
  case h_2 => cases ha
  rename_i q hq
  obtain ⟨f1, f2⟩ := find_ok hq h1 h2 w
  have hck := kok_run hk w
  rw [← (empty_eq h1 h2).1] at hck
  split at ha
  · rename_i a y c hs
    cases ha
    obtain ⟨va, y', vb, pre, e, post, rfl, g1, g3, g4, g5, g6, g7, g8, g9⟩ := f2 _ _ _ hs
    have hmod := erase_mid g5
    have hrun : (Builtin.delete_ #[t, u] ty #[.map (some b), k]).run P w = .ok (.tuple #[]) { w with heap := w.heap.setIfInBounds b (.map (ents.eraseIdxIfInBounds pre.length) (ρ.st ver).2) } := by
      simp only [Builtin.delete_, List.getElem?_toArray, List.getElem?_cons_zero, List.getElem?_cons_succ, Sem.run_bind, run_underlying hu, Result.andThen_ok, gobj_map hw, hck, g8, sobj_map hw, Sem.run_pure]
    refine ⟨ρ, .tuple #[], _, ?_, ?_, by simp [ren, renArr, renL], hrun⟩
    rotate_left
    · exact Ext.set H hg rfl hb rfl rfl rfl rfl
    refine H.set hg hb rfl ?_
    simp only [ObjR]
    refine ⟨⟨va ++ vb, ?_, ?_⟩, ⟨b0, hver⟩, trivial, hst, ?_⟩
    · simp only [List.map_append]
      exact renL_append.2 ⟨_, _, g1, g4, rfl⟩
    · rw [hmod]; exact g9
    · intro z hz
      rw [hmod] at hz
      exact hent z (by rw [g5]; exact mem_mid hz)
  · rename_i hs
    cases ha
    have hset : w.heap.setIfInBounds b (.map ents (ρ.st ver).2) = w.heap := setIf_self hw
    have hrun : (Builtin.delete_ #[t, u] ty #[.map (some b), k]).run P w = .ok (.tuple #[]) w := by
      simp only [Builtin.delete_, List.getElem?_toArray, List.getElem?_cons_zero, List.getElem?_cons_succ, Sem.run_bind, run_underlying hu, Result.andThen_ok, gobj_map hw, hck, f1 hs, sobj_map hw, Sem.run_pure, hset]
    exact ⟨ρ, .tuple #[], w, H, Ext.refl _ _ _, by simp [ren, renArr, renL], hrun⟩
  · cases ha
theorem rangeMap_ok (H : WR G ρ h w) {t : TypeId} {x x' : Value} {r : Value × AH} (ha : arangeMap h x = some r) (ht : (mtype P t).isSome = true) (hx : ren ρ x = some x') : RunAt P G ρ h w (Instr.range t x') r := by
  obtain ⟨⟨kt, et⟩, hkt⟩ := Option.isSome_iff_exists.1 ht
  have hu := mtype_ok hkt
  unfold arangeMap at ha
  split at ha
  · cases ha
    simp [ren] at hx; subst hx
    refine ⟨ρ.bind h.next w.heap.size none, .pointer (some ⟨w.heap.size, 0, none⟩), { w with heap := w.heap.push (.mapIter none 0 #[] 0) }, H.alloc _ _ none rfl (by simp [ObjR]), Ext.alloc H _ _ none rfl rfl rfl rfl, by simp [ren, ren_new], ?_⟩
    simp [Instr.range, run_underlying hu]
  · rename_i r0
    split at ha
    case h_2 => cases ha
    rename_i es ver hg
    cases ha
    obtain ⟨_, b, ents, hb, rfl, hw, _, ⟨b0, hver⟩, _, _⟩ := amap_ok H (x := .map (some r0)) (r := r0) (es := es) (v := ver) (by simp [amapOf, hg]) hx
    have hfresh := H.fresh h.next (Nat.le_refl _)
    have hle := Rho.le_bind hfresh w.heap.size none
    refine ⟨ρ.bind h.next w.heap.size none, .pointer (some ⟨w.heap.size, 0, none⟩), { w with heap := w.heap.push (.mapIter (some b) (ρ.st ver).2 #[] (ρ.st ver).2) }, H.alloc _ _ none rfl ?_, Ext.alloc H _ _ none rfl rfl rfl rfl, by simp [ren, ren_new], ?_⟩
    · simp only [ObjR]
      exact ⟨⟨b, (hle _ _ hb).1, rfl⟩, ⟨b0, (hle _ _ hver).1⟩, rfl, trivial, by simp, by simp⟩
    · simp [Instr.range, run_underlying hu, gobj_map hw]
  · cases ha
def anexts (h : AH) (v : Value) : Option (List (Value × AH)) :=
  match v with
  | .pointer (some ⟨r, 0, _⟩) => match h.get r with
    | some (.mit none _ _) => some [(.tuple #[.bool false], h)]
    | some (.mit (some m) ver ks) => match h.get m with
      | some (.mp es ver') =>
        if ver.beq ver' && es.all (fun e => kbits e.1 e.1) then
          match aleft ks es with
          | [] => some [(.tuple #[.bool false], h)]
          | l => some (l.map fun e => (.tuple #[.bool true, e.1, e.2], h.put r (some (.mit (some m) ver (e.1 :: ks)))))
        else none
      | _ => none
    | _ => none
  | _ => none
theorem next_any (H : WR G ρ h w) {v v' : Value} {l : List (Value × AH)} (hn : anexts h v = some l) (hv : ren ρ v = some v') (ty : TypeId) :
    ∃ r ∈ l, RunAt P G ρ h w (Instr.next v' false ty) r := by
  unfold anexts at hn
  split at hn
  case h_2 => cases hn
  rename_i r0 sp
  obtain ⟨b, hb, rfl⟩ := ren_ptr hv
  obtain ⟨hs, hbf, hblk⟩ := renA_form hb
  simp only at hs hbf hblk
  rw [hbf]
  split at hn
  case h_3 => cases hn
  · rename_i v0 ks0 hg
    cases hn
    obtain ⟨b', y, q1, q2, q3⟩ := H.obj _ _ hg
    rw [hblk] at q1; cases q1
    cases y <;> simp only [ObjR] at q3
    subst q3
    refine ⟨_, List.mem_singleton.2 rfl, ρ, .tuple #[.bool false], w, H, Ext.refl _ _ _, by simp [ren, renArr, renL], ?_⟩
    simp [Instr.next, getObj, Sem.run, q2]
  · rename_i m ver ks hg
    split at hn
    case h_2 => cases hn
    rename_i es ver' hgm
    split at hn
    case isFalse => cases hn
    rename_i hcond
    simp only [Bool.and_eq_true, List.all_eq_true] at hcond
    obtain ⟨hvv, hself⟩ := hcond
    have hvv := Nat.eq_of_beq_eq_true hvv
    subst hvv
    obtain ⟨b', y, q1, q2, q3⟩ := H.obj _ _ hg
    rw [hblk] at q1; cases q1
    cases y <;> simp only [ObjR] at q3
    rename_i mm since seen last
    obtain ⟨⟨bm, hbm, rfl⟩, ⟨b0, hver⟩, rfl, rfl, hseen, hback⟩ := q3
    obtain ⟨bm', z, p1, p2, p3⟩ := H.obj _ _ hgm
    rw [hbm] at p1; cases p1
    cases z <;> simp only [ObjR] at p3
    rename_i ents clock
    obtain ⟨⟨vs, h1, h2⟩, _, rfl, hst, hent⟩ := p3
    have hold : ∀ x ∈ ents.toList, x.born < (ρ.st ver).2 := fun x hx => hst.2 _ (hent x hx)
    have hks : ∀ e ∈ ents.toList, (seen.contains e.born = true ↔ e.key ∈ ks) := fun e he => by
      rw [← hseen e.key e.born (hent e he)]
      simp
    have hleftM : ∀ e, e ∈ (leftOf ents seen).toList ↔ e ∈ ents.toList ∧ seen.contains e.born = false := fun e => by simp [leftOf]
    have habs : ∀ e ∈ (leftOf ents seen).toList, ∃ x ∈ aleft ks es, e.key = x.1 ∧ ren ρ x.2 = some e.val := fun e he => by
      obtain ⟨he1, he2⟩ := (hleftM e).1 he
      have hz : (e.key, e.val) ∈ (es.map (·.1)).zip vs := h2.mem_iff.2 (List.mem_map.2 ⟨e, he1, rfl⟩)
      obtain ⟨x, hx, k1, k2⟩ := zip_left h1 _ hz
      refine ⟨x, List.mem_filter.2 ⟨hx, ?_⟩, k1, k2⟩
      simp only [Bool.not_eq_true']
      cases q : ks.any (kbits x.1) with
      | false => rfl
      | true =>
        have := (any_kbits (hself x hx)).1 q
        rw [← k1] at this
        have := (hks e he1).2 this
        rw [he2] at this; cases this
    rcases run_next_at (P := P) w ty b.block bm (ρ.st ver).2 (ρ.st ver).2 seen ents (ρ.st ver).2 q2 p2 hold (Nat.le_refl _) with ⟨hz, hrun⟩ | ⟨e, he, w1, hw1, hrun⟩
    · have hnil : aleft ks es = [] := by
        cases hal : aleft ks es with
        | nil => rfl
        | cons x l0 =>
          exfalso
          have hx : x ∈ aleft ks es := by rw [hal]; simp
          obtain ⟨hx1, hx2⟩ := List.mem_filter.1 hx
          simp only [Bool.not_eq_true'] at hx2
          obtain ⟨v', k1, k2⟩ := zip_right h1 x hx1
          obtain ⟨e, he, k3⟩ := List.mem_map.1 (h2.mem_iff.1 k1)
          have hk : e.key = x.1 := congrArg Prod.fst k3
          have hnk : ¬ e.key ∈ ks := fun q => by
            rw [hk] at q
            rw [(any_kbits (hself x hx1)).2 q] at hx2; cases hx2
          have hc : seen.contains e.born = false := by
            cases q : seen.contains e.born with
            | false => rfl
            | true => exact absurd ((hks e he).1 q) hnk
          have : e ∈ (leftOf ents seen).toList := (hleftM e).2 ⟨he, hc⟩
          have hs0 : (leftOf ents seen).toList.length = 0 := by simpa using hz
          rw [List.eq_nil_of_length_eq_zero hs0] at this
          cases this
      rw [hnil] at hn
      cases hn
      exact ⟨_, List.mem_singleton.2 rfl, ρ, .tuple #[.bool false], w, H, Ext.refl _ _ _, by simp [ren, renArr, renL], hrun⟩
    · obtain ⟨x, hx, hk, hxv⟩ := habs e he
      have hlist : l = (aleft ks es).map fun e => (.tuple #[.bool true, e.1, e.2], h.put r0 (some (.mit (some m) ver (e.1 :: ks)))) := by
        cases hal : aleft ks es with
        | nil => rw [hal] at hx; cases hx
        | cons y l0 => rw [hal] at hn; simpa using hn.symm
      subst hlist
      have hx1 := (List.mem_filter.1 hx).1
      have hkc : ren ρ e.key = some e.key := by
        have : kbits e.key e.key = true := by rw [hk]; exact hself x hx1
        exact closed_ren ρ _ (kbits_closed _ this)
      refine ⟨_, List.mem_map.2 ⟨x, hx, rfl⟩, ρ, .tuple #[.bool true, e.key, e.val], _, ?_, ?_, ?_, hrun⟩
      · have he1 := ((hleftM e).1 he).1
        have hW : WR G ρ h w1 := hw1.elim (fun q => q ▸ H) (fun q => q ▸ H.drawn _)
        refine hW.set hg hblk rfl ?_
        simp only [ObjR]
        refine ⟨⟨bm, hbm, rfl⟩, ⟨b0, hver⟩, trivial, trivial, fun k n hkn => ?_, fun k0 r1 hk0 => ?_⟩
        · have h5 := hseen k n hkn
          have h6 := hst.1 _ hkn _ (hent e he1)
          simp only at h6
          simp only [Array.toList_push, List.mem_append, List.mem_cons, List.not_mem_nil, or_false, h5, h6, ← hk]
          exact Or.comm
        · cases hk0
          refine ⟨e.born, by simp, ?_⟩
          rw [← hk]; exact hent e he1
      · have hE : Ext ρ h w ρ h w1 := hw1.elim (fun q => q ▸ Ext.refl _ _ _) (fun q => q ▸ Ext.drawn _ _ _ _)
        have hW : WR G ρ h w1 := hw1.elim (fun q => q ▸ H) (fun q => q ▸ H.drawn _)
        exact hE.trans (Ext.set hW hg rfl hblk rfl rfl rfl rfl)
      · simp [ren, renArr, renL, hxv, ← hk, hkc]
def anextMap (h : AH) (v : Value) : Option (Value × AH) := match anexts h v with
  | some [r] => some r
  | _ => none
theorem nextMap_ok (H : WR G ρ h w) {v v' : Value} {r : Value × AH} (hn : anextMap h v = some r) (hv : ren ρ v = some v') (ty : TypeId) : RunAt P G ρ h w (Instr.next v' false ty) r := by
  unfold anextMap at hn
  split at hn
  · rename_i r0 hl
    cases hn
    obtain ⟨r1, hr, hrun⟩ := next_any (P := P) H hl hv ty
    rw [List.mem_singleton.1 hr] at hrun
    exact hrun
  · cases hn
def aentry (h : AH) (v : Value) : Option Value :=
  match v with
  | .pointer (some ⟨r, 0, _⟩) => match h.get r with
    | some (.mit (some m) ver (k :: _)) => match h.get m with
      | some (.mp es ver') => if ver.beq ver' && kbits k k then
          match asplit (fun x => some (kbits x k)) es with
          | some (some (_, y, _)) => some (.tuple #[y.1, y.2])
          | _ => none
        else none
      | _ => none
    | _ => none
  | _ => none
theorem entry_ok (H : WR G ρ h w) {v v' x : Value} (hn : aentry h v = some x) (hv : ren ρ v = some v') : ∃ x', ren ρ x = some x' ∧ (Instr.entry v').run P w = .ok x' w := by
  unfold aentry at hn
  split at hn
  case h_2 => cases hn
  rename_i r0 sp
  obtain ⟨b, hb, rfl⟩ := ren_ptr hv
  obtain ⟨hs, hbf, hblk⟩ := renA_form hb
  simp only at hs hbf hblk
  rw [hbf]
  split at hn
  case h_2 => cases hn
  rename_i m ver k ks hg
  split at hn
  case h_2 => cases hn
  rename_i es ver' hgm
  split at hn
  case isFalse => cases hn
  rename_i hcond
  simp only [Bool.and_eq_true] at hcond
  obtain ⟨hvv, hself⟩ := hcond
  have hvv := Nat.eq_of_beq_eq_true hvv
  subst hvv
  split at hn
  case h_2 => cases hn
  rename_i a y c hs2
  cases hn
  obtain ⟨rfl, g2, g3⟩ := asplit_some hs2
  simp only [Option.some.injEq] at g2
  have hyk := kbits_sound _ _ g2
  obtain ⟨b', z, q1, q2, q3⟩ := H.obj _ _ hg
  rw [hblk] at q1; cases q1
  cases z <;> simp only [ObjR] at q3
  rename_i mm since seen last
  obtain ⟨⟨bm, hbm, rfl⟩, ⟨b0, hver⟩, rfl, rfl, hseen, hback⟩ := q3
  obtain ⟨bm', u, p1, p2, p3⟩ := H.obj _ _ hgm
  rw [hbm] at p1; cases p1
  cases u <;> simp only [ObjR] at p3
  rename_i ents clock
  obtain ⟨⟨vs, h1, h2⟩, _, rfl, hst, hent⟩ := p3
  obtain ⟨n, hn1, hn2⟩ := hback k ks rfl
  obtain ⟨v1, k1, k2⟩ := zip_right h1 y (by simp)
  obtain ⟨e, he, k3⟩ := List.mem_map.1 (h2.mem_iff.1 k1)
  have hk : e.key = y.1 := congrArg Prod.fst k3
  have hv1 : e.val = v1 := congrArg Prod.snd k3
  have hborn : e.born = n := by
    have := (hst.1 _ (hent e he) _ hn2).2 (by simp only; rw [hk, hyk])
    exact this
  have hfind : ents.find? (·.born == n) = some e := by
    have h0 : (ents.find? (·.born == n)).isSome = true := by
      rw [Array.find?_isSome]
      exact ⟨e, by simpa using he, by simp [hborn]⟩
    obtain ⟨e2, he2⟩ := Option.isSome_iff_exists.1 h0
    have hm2 : e2 ∈ ents.toList := by simpa using Array.mem_of_find?_eq_some he2
    have hb2 : e2.born = n := by simpa using Array.find?_some he2
    have hkey : e2.key = e.key := (hst.1 _ (hent e2 hm2) _ (hent e he)).1 (by simp only; rw [hb2, hborn])
    have hz2 : (e2.key, e2.val) ∈ (List.map (·.1) (a ++ y :: c)).zip vs := h2.mem_iff.2 (List.mem_map.2 ⟨e2, hm2, rfl⟩)
    simp only [List.map_append, List.map_cons] at h1
    obtain ⟨va, vb0, r1, r2, rfl⟩ := renL_append.1 h1
    obtain ⟨y', vb, r3, r4, rfl⟩ := renL_cons.1 r2
    have hla := renL_length r1
    have hzip : ((a ++ y :: c).map (·.1)).zip (va ++ y' :: vb) = (a.map (·.1)).zip va ++ (y.1, y') :: (c.map (·.1)).zip vb := by
      rw [List.map_append, List.zip_append (by simpa using hla.symm)]
      rfl
    have only : ∀ p ∈ (a ++ y :: c).map (·.1) |>.zip (va ++ y' :: vb), p.1 = y.1 → p = (y.1, y') := fun p hp hp1 => by
      rw [hzip] at hp
      have bad : p.1 ∈ (a ++ c).map (·.1) → False := fun hb => by
        obtain ⟨u, hu, q⟩ := List.mem_map.1 hb
        have := g3 u hu
        simp only [Option.some.injEq] at this
        rw [q, hp1, hyk, hself] at this
        cases this
      rw [List.map_append] at bad
      rcases List.mem_append.1 hp with hp | hp
      · exact (bad (List.mem_append_left _ (List.of_mem_zip (show (p.1, p.2) ∈ _ from hp)).1)).elim
      · rcases List.mem_cons.1 hp with hp | hp
        · exact hp
        · exact (bad (List.mem_append_right _ (List.of_mem_zip (show (p.1, p.2) ∈ _ from hp)).1)).elim
    have e2p := only _ hz2 (by simp only; rw [hkey, hk])
    have hz1 : (e.key, e.val) ∈ (List.map (·.1) (a ++ y :: c)).zip (va ++ y' :: vb) := h2.mem_iff.2 (List.mem_map.2 ⟨e, he, rfl⟩)
    have e1p := only _ hz1 hk
    rw [he2]
    congr 1
    have : e2.val = e.val := by
      have q1 := congrArg Prod.snd e2p
      have q2 := congrArg Prod.snd e1p
      simp only at q1 q2
      rw [q1, q2]
    cases e2; cases e
    simp only at hkey this hb2 hborn
    simp [hkey, this, hb2, hborn]
  refine ⟨.tuple #[e.key, e.val], ?_, ?_⟩
  · have hyc : ren ρ y.1 = some y.1 := closed_ren ρ _ (kbits_closed _ (by rw [hyk]; exact hself))
    simp [ren, renArr, renL, hyc, k2, hk, hv1]
  · simp only [Instr.entry, getObj, Sem.run_bind, Sem.run, q2, p2, hn1, Result.andThen_ok, bne_self_eq_false, Bool.false_eq_true, if_false, hfind]
    rfl
theorem lenMap_ok (H : WR G ρ h w) {t ty : TypeId} {x x' : Value} {r v : Nat} {es : List (Value × Value)} (hm : amapOf h x = some (r, es, v)) (ht : (mtype P t).isSome = true) (hx : ren ρ x = some x') :
    (Builtin.len_ #[t] ty #[x']).run P w = .ok (.int .i64 es.length) w := by
  obtain ⟨⟨kt, et⟩, hkt⟩ := Option.isSome_iff_exists.1 ht
  have hu := mtype_ok hkt
  obtain ⟨_, b, ents, hb, rfl, hw, ⟨vs, h1, h2⟩, _⟩ := amap_ok H hm hx
  simp [Builtin.len_, run_underlying hu, gobj_map hw, (empty_eq h1 h2).2, goInt]
def aslq (P : Program) (h : AH) (t : TypeId) (x : Value) (l u : Option Int) (mx : Bool) : Option (Value × AH) :=
  match P.underlying t, x, l, u with
  | some (.slice el), .slice (some a) _ c, some l, some u => match h.ocap a.block, sizeT P el with
    | some (sz, L), some s => if sz = s ∧ 0 < s ∧ mx = false ∧ c < bigC ∧ 0 ≤ l ∧ l = u ∧ (c + u.toNat) * s ≤ L then some (.chan (some h.next), h.bump) else none
    | _, _ => none
  | _, _, _, _ => none
theorem slq_ok (H : WR G ρ h w) {t : TypeId} {x x' : Value} {n c : Nat} {a : Addr} {lo hi : Option Operand} {r : Value × AH} (hce : x = .slice (some a) n c) (ha : aslq P h t x (numO e 0 lo) (numO e n hi) false = some r) (hx : ren ρ x = some x')
    (hlo : ∀ y, lo = some y → ren ρ (e y) = some (e' y)) (hhi : ∀ y, hi = some y → ren ρ (e y) = some (e' y)) : RunAt P G ρ h w (Instr.sliceAt t x' (lo.map e') (hi.map e') none) r := by
  subst hce
  unfold aslq at ha
  split at ha
  case h_2 => cases ha
  rename_i el a0 n0 c0 l u hu hq hl hh
  cases hq
  split at ha
  case h_2 => cases ha
  rename_i sz L s hoc hs
  split at ha
  case isFalse => cases ha
  rename_i hcond
  obtain ⟨rfl, hspos, _, hcb, q0, rfl, q2⟩ := hcond
  cases ha
  obtain ⟨b, c', h1, h2, rfl⟩ := ren_slice hx
  obtain ⟨C, hC, hLC⟩ := open_cap H hoc h1
  have hcu : c + l.toNat ≤ C := by
    have : (c + l.toNat) * sz ≤ C * sz := Nat.le_trans q2 hLC
    exact Nat.le_of_mul_le_mul_right this hspos
  rw [renC_rel hC hcb (by omega)] at h2
  cases h2
  have hl' := numO_ren hl hlo
  have hh' := numO_ren hh hhi
  have hb := run_bounds (P := P) (isS := true) (mx := none) (c := C - c) (m := ((C - c : Nat) : Int)) hl' hh' (.inl ⟨rfl, rfl⟩) q0 (Int.le_refl _) (by omega) (Int.le_refl _)
  simp only [Option.map_none] at hb
  let b2 : Addr := if C - c = l.toNat then b else b.add (l.toNat * sz)
  let s : List (Value × Nat) × Nat := ([(.slice (some b2) 0 (C - c - l.toNat), 0)], 0)
  refine ⟨ρ.bindS h.next s, .slice (some b2) 0 (C - c - l.toNat), w, H.ver s, Ext.ver H s, ?_, ?_⟩
  · simp only [ren, opq, Rho.bindS, if_true, s]
  · simp only [Instr.sliceAt, Sem.run_bind, run_underlying hu, Result.andThen_ok, Instr.slice, hb, run_sizeOf hs, Sem.run_pure, Option.map_some, Nat.sub_self, Int.toNat_natCast, b2]
    split <;> rfl
end
end Go.AE
namespace Go.AE
open Go
def aptrConv (P : Program) (h : AH) (src dst : TypeId) (x : Value) : Option Value :=
  match P.underlying src, P.underlying dst, x with
  | some (.pointer t), some .unsafePointer, .pointer (some a) => match a.spot, h.get a.block, P.info? t with
    | none, some (.cells c _ _ _), some i => if i.size ≠ 0 ∧ a.off < c.length then some (.pointer (some a)) else none
    | _, _, _ => none
  | some .unsafePointer, some (.pointer u), .pointer (some a) => match a.spot, h.get a.block, P.info? u with
    | none, some (.cells c t none false), some _ => if liesAt P P.depth t (c.length / P.cellsOf t) a.off u 1 then some (.pointer (some a)) else none
    | _, _, _ => none
  | _, _, _ => none
def aptrSame (P : Program) (t : TypeId) (x y : Value) : Bool :=
  match P.underlying t, x, y with
  | some (.pointer e), .pointer (some a), .pointer (some b) => (P.info? e).isSome && decide (a = b) && a.spot.isNone
  | _, _, _ => false
def noEscape (P : Program) (g : FuncId) : Bool :=
  match P.funcs[g]? with
  | some fn => fn.body.isNone && (decide (fn.name = "internal/abi.NoEscape") && (Extern.allNextRows.lookup fn.origin).isNone)
  | none => false
def noZero (P : Program) (g : FuncId) : Option TypeId :=
  match P.funcs[g]? with
  | some fn => if fn.body.isNone && (decide (fn.name = "internal/bytealg.MakeNoZero") && (Extern.allNextRows.lookup fn.origin).isNone) then fn.resultTypes[0]? else none
  | none => none
def aextern (P : Program) (h : AH) (f : Value) (args : List Value) : Option (Value × AH) :=
  match f, args with
  | .func (.func g) ⟨[]⟩ ⟨[]⟩, [x] =>
    if noEscape P g then some (x, h)
    else match noZero P g, x with
      | some t, .int .i64 n => match P.underlying t with
        | some (.slice el) => if 0 ≤ n ∧ n ≤ 281474976710656 then some (.slice (some ⟨h.next, 0, none⟩) n.toNat 0, h.push (.cells [] el (some 1) false)) else none
        | _ => none
      | _, _ => none
  | _, _ => none
def asliceData (h : AH) (x : Value) : Option Value :=
  match x with
  | .slice (some a) _ c => match h.get a.block with
    | some (.cells _ _ none _) => if c ≠ 0 then some (.pointer (some a)) else none
    | some (.cells cs _ (some sz) _) => if bigC ≤ c then (if c - bigC ≠ 0 then some (.pointer (some a)) else none) else if c * sz < cs.length then some (.pointer (some a)) else none
    | _ => none
  | _ => none
def astring (P : Program) (h : AH) (pt : TypeId) (p n : Value) : Option (Value × AH) :=
  match P.underlying pt, p, n with
  | some (.pointer e), .pointer (some a), .int .i64 k =>
    match h.get a.block with
    | some (.cells cs e' o false) =>
      if P.cellsOf e = 1 ∧ e' = e ∧ a.off = 0 ∧ a.spot = none ∧ 0 < k ∧ k ≤ 9223372036854775807 ∧ k.toNat ≤ cs.length then
        (intsOf (cs.take k.toNat)).bind fun ns => if ns.all (fun n => decide (0 ≤ n) && decide (n < 256)) then
          some (.string ⟨(ns.map fun n => UInt8.ofNat n.toNat).toArray⟩, h.put a.block (some (.cells cs e' o true))) else none
      else none
    | _ => none
  | _, _, _ => none
section
variable {P : Program} {G : Nat} {ρ : Rho} {h : AH} {w : World} {e e' : Operand → Value}
theorem shape_of (H : WR G ρ h w) {a b : Addr} {c : List Value} {t : TypeId} {o : Option Nat} {ro : Bool} (hg : h.get a.block = some (.cells c t o ro)) (hb : renA ρ a = some b) :
    ∃ arr t' fz, w.heap[b.block]? = some (.cells arr t' fz) ∧ w.shape? b.block = some (t', arr.size) ∧ (ro = true ∨ t' = t) ∧ c.length ≤ arr.size ∧ (o = none → arr.size = c.length) ∧ b = ⟨b.block, a.off, none⟩ ∧ a.spot = none := by
  obtain ⟨hs, hbf, hblk⟩ := renA_form hb
  obtain ⟨b', x, q1, q2, q3⟩ := H.obj _ _ hg
  rw [hblk] at q1; cases q1
  cases x <;> simp only [ObjR] at q3
  rename_i arr t' fz
  obtain ⟨ht, ⟨c', tail, r1, r2, r3⟩, _⟩ := q3
  have hl := congrArg List.length r1
  have hc := renL_length r2
  simp at hl
  refine ⟨arr, t', fz, q2, by simp [World.shape?, q2], ht, by omega, fun ho => ?_, hbf, hs⟩
  rw [r3 ho] at hl
  simp at hl
  omega
theorem ptrConv_ok (H : WR G ρ h w) {src dst : TypeId} {x x' v : Value} (ha : aptrConv P h src dst x = some v) (hx : ren ρ x = some x') : ren ρ v = some x' ∧ (convert src dst x').run P w = .ok x' w := by
  unfold aptrConv at ha
  split at ha
  case h_3 => cases ha
  · rename_i t a hs hd
    split at ha
    case h_2 => cases ha
    rename_i c t0 o ro i _ hg hi
    split at ha
    case isFalse => cases ha
    rename_i hc
    cases ha
    refine ⟨hx, ?_⟩
    obtain ⟨b, hb, rfl⟩ := ren_ptr hx
    obtain ⟨arr, t', fz, _, h2, _, h4, _, h6, _⟩ := shape_of H hg hb
    exact Lib.run_to_unsafe w b hs hd hi hc.1 h2 (by rw [h6]; exact Nat.lt_of_lt_of_le hc.2 h4)
  · rename_i u a hs hd
    split at ha
    case h_2 => cases ha
    rename_i c t i _ hg hi
    split at ha
    case isFalse => cases ha
    rename_i hc
    cases ha
    refine ⟨hx, ?_⟩
    obtain ⟨b, hb, rfl⟩ := ren_ptr hx
    obtain ⟨arr, t', fz, _, h2, h3, _, h5, h6, _⟩ := shape_of H hg hb
    obtain rfl := h3.resolve_left (by simp)
    have h5 := h5 rfl
    exact Lib.run_from_unsafe w b hs hd hi h2 (by rw [h6, h5]; exact hc)
theorem ptrSame_ok {t : TypeId} {x y x' y' : Value} (ha : aptrSame P t x y = true) (hx : ren ρ x = some x') (hy : ren ρ y = some y') (w : World) :
    (binOp .eql t x' y').run P w = .ok (.bool true) w ∧ (binOp .neq t x' y').run P w = .ok (.bool false) w := by
  unfold aptrSame at ha
  split at ha
  case h_2 => cases ha
  rename_i el a b hu
  simp only [Bool.and_eq_true, decide_eq_true_eq] at ha
  obtain ⟨⟨hi, rfl⟩, _⟩ := ha
  obtain ⟨j, hj⟩ := Option.isSome_iff_exists.1 hi
  obtain ⟨b1, hb1, rfl⟩ := ren_ptr hx
  rw [hx] at hy
  cases hy
  have h : ∀ d : Nat, (Op.equalIn (d + 1) t (.pointer (some b1)) (.pointer (some b1))).run P w = .ok true w := fun d => by
    simp [Op.equalIn, run_underlying hu, sizeOf, typeInfo, hj, run_sameAddr_same]
  constructor
  · simp only [binOp]
    simp [Op.equal, Op.maxDepth, h 9999]
  · simp only [binOp]
    simp [Op.equal, Op.maxDepth, h 9999]
theorem find_noEscape {fn : Func} (h : fn.name = "internal/abi.NoEscape") : Extern.find fn = some Extern.AbiNoEscape.same := by
  have h1 : Extern.allGenericRows.lookup "internal/abi.NoEscape" = none := by kernel_rfl
  have h2 : Extern.allTypedRows.lookup "internal/abi.NoEscape" = none := by kernel_rfl
  have h3 : Extern.allRows.lookup "internal/abi.NoEscape" = some Extern.AbiNoEscape.same := by kernel_rfl
  simp only [Extern.find, h, h1, h2, h3]
  rfl
theorem find_noZero {fn : Func} (h : fn.name = "internal/bytealg.MakeNoZero") : Extern.find fn = some (Extern.BytealgMakeNoZero.makeNoZero fn.params fn.resultTypes) := by
  have h1 : Extern.allGenericRows.lookup "internal/bytealg.MakeNoZero" = none := by kernel_rfl
  have h2 : Extern.allTypedRows.lookup "internal/bytealg.MakeNoZero" = some Extern.BytealgMakeNoZero.makeNoZero := by kernel_rfl
  simp only [Extern.find, h, h1, h2]
  rfl
theorem findNext_none {fn : Func} (h : Extern.allNextRows.lookup fn.name = none) (h' : Extern.allNextRows.lookup fn.origin = none) : Extern.findNext fn = none := by
  simp only [Extern.findNext, h, h']
  rfl
theorem digits_size : ∀ (n t : Nat) (acc : Array Value), (Extern.BytealgMakeNoZero.digits n t acc).size = acc.size + n
  | 0, _, _ => rfl
  | n + 1, t, acc => by
    simp only [Extern.BytealgMakeNoZero.digits]
    rw [digits_size n]
    simp
    omega
theorem noEscape_run {g : FuncId} (h : noEscape P g = true) (x : Value) (w : World) : (callFunc g #[x]).run P w = .ok (.value x) w := by
  unfold noEscape at h
  cases hf : P.funcs[g]? with
  | none => simp [hf] at h
  | some fn =>
    simp only [hf, Bool.and_eq_true, decide_eq_true_eq] at h
    obtain ⟨hb, hn, hl⟩ := h
    have h1 : ¬ fn.name = "runtime.NumGoroutine" := by rw [hn]; decide
    have hb := Option.isNone_iff_eq_none.1 hb
    have h2 : Extern.findNext fn = none := findNext_none (by rw [hn]; kernel_rfl) (by simpa using hl)
    have h3 : Extern.AbiNoEscape.same #[x] = pure x := rfl
    simp [callFunc, hf, h1, hb, h2, find_noEscape hn, h3]
theorem extern_ok (H : WR G ρ h w) {f f' : Value} {args args' : List Value} {r : Value × AH} (ha : aextern P h f args = some r) (hf : ren ρ f = some f') (hargs : renL ρ args = some args') :
    ∃ g, f' = .func (.func g) ⟨[]⟩ ⟨[]⟩ ∧ ∃ ρ' v' w', WR G ρ' r.2 w' ∧ Ext ρ h w ρ' r.2 w' ∧ ren ρ' r.1 = some v' ∧ (callFunc g args'.toArray).run P w = .ok (.value v') w' := by
  unfold aextern at ha
  split at ha
  case h_2 => cases ha
  rename_i g x
  have hf' : f' = .func (.func g) ⟨[]⟩ ⟨[]⟩ := by
    simp [ren, renF, renArr, renL] at hf
    exact hf.symm
  refine ⟨g, hf', ?_⟩
  obtain ⟨x', l', hx, hl, rfl⟩ := renL_cons.1 hargs
  simp only [renL, Option.some.injEq] at hl
  subst hl
  split at ha
  · rename_i hn
    cases ha
    exact ⟨ρ, x', w, H, Ext.refl _ _ _, hx, noEscape_run hn x' w⟩
  · split at ha
    case h_2 => cases ha
    rename_i t n hz
    split at ha
    case h_2 => cases ha
    rename_i el hu
    split at ha
    case isFalse => cases ha
    rename_i hn
    cases ha
    simp only [ren, Option.some.injEq] at hx
    subst hx
    obtain ⟨m, rfl⟩ := Int.eq_ofNat_of_zero_le hn.1
    have hm : m ≤ 281474976710656 := by omega
    unfold noZero at hz
    cases hf : P.funcs[g]? with
    | none => simp [hf] at hz
    | some fn =>
      simp only [hf] at hz
      split at hz
      case isFalse => cases hz
      rename_i hb
      simp only [Bool.and_eq_true, decide_eq_true_eq] at hb
      obtain ⟨hb, hnm, hl⟩ := hb
      have h1 : ¬ fn.name = "runtime.NumGoroutine" := by rw [hnm]; decide
      have hb := Option.isNone_iff_eq_none.1 hb
      have h2 : Extern.findNext fn = none := findNext_none (by rw [hnm]; kernel_rfl) (by simpa using hl)
      let bs := (Question.extern "internal/bytealg.MakeNoZero.bytes" 0).cut (w.tape (w.drawn + 1) (.extern "internal/bytealg.MakeNoZero.bytes" 0))
      let C := grownCap w m 0 el
      let arr := Extern.BytealgMakeNoZero.digits C bs #[]
      have hsz : arr.size = C := by rw [digits_size]; simp
      obtain ⟨g1, g2⟩ := push_open H (cells := []) (cells' := []) rfl el arr arr.toList rfl 1 C (by omega) (0, 0) (.inl rfl) (w.drew.drew.alloc (.cells arr el)) rfl rfl rfl rfl
      refine ⟨_, _, _, g1, g2, ren_open _ _ _ _ _, ?_⟩
      have hrun : (Extern.BytealgMakeNoZero.makeNoZero fn.params fn.resultTypes #[.int .i64 m]).run P w = .ok (.slice (some ⟨w.heap.size, 0, none⟩) m C) (w.drew.drew.alloc (.cells arr el)) := by
        have k1 : ¬ (m : Int) < 0 := by omega
        have k2 : ¬ (281474976710656 : Int) < (m : Int) := by omega
        have hdef : Extern.BytealgMakeNoZero.makeNoZero fn.params fn.resultTypes #[.int .i64 (m : Int)] =
          (do
            let some t := fn.resultTypes[0]? | stuck "bytealg.MakeNoZero: no result type"
            let .slice elem ← underlying t | stuck "bytealg.MakeNoZero: slice type expected"
            if (m : Int) < 0 || (m : Int) > 2 ^ 48 then runtimePanic (.error "makeslice: len out of range")
            let cap ← choose (.appendCap (m : Int).toNat 0 elem)
            askRoom cap
            let bytes ← choose (.extern "internal/bytealg.MakeNoZero.bytes" 0)
            let a ← newRow elem (Extern.BytealgMakeNoZero.digits cap bytes #[])
            pure (.slice (some a) (m : Int).toNat cap)) := rfl
        rw [hdef]
        simp [hz, run_underlying hu, k1, k2, Question.forced, newRow, arr, C, bs, grownCap]
      simp [callFunc, hf, h1, hb, h2, find_noZero hnm, hrun]
theorem sliceData_ok (H : WR G ρ h w) {x x' v : Value} (ha : asliceData h x = some v) (hx : ren ρ x = some x') (ts : Array TypeId) (ty : TypeId) :
    ren ρ v = some (match x' with | .slice (some a) _ _ => .pointer (some a) | y => y) ∧ (Builtin.unsafeSliceData_ ts ty #[x']).run P w = .ok (match x' with | .slice (some a) _ _ => .pointer (some a) | y => y) w := by
  unfold asliceData at ha
  split at ha
  case h_2 => cases ha
  rename_i a n c
  obtain ⟨b, c', q1, q2, rfl⟩ := ren_slice hx
  split at ha
  · rename_i cs t ro hg
    split at ha
    case isFalse => cases ha
    rename_i hc
    cases ha
    have hc' : c' = c := by
      have : h.opn a.block = some none := by simp [AH.opn, hg]
      exact renC_closed H this q2
    subst hc'
    exact ⟨by simp [ren, q1], Lib.run_unsafeSliceData_row w ts ty b n c' hc⟩
  · rename_i cs t sz ro hg
    obtain ⟨arr, C, hC, hsz, hle⟩ : ∃ (arr : Array Value) (C : Nat), ρ.cap a.block = some C ∧ arr.size = C * sz ∧ cs.length ≤ arr.size := by
      obtain ⟨b', y, p1, p2, p3⟩ := H.obj _ _ hg
      cases y <;> simp only [ObjR] at p3
      rename_i arr t' fz
      obtain ⟨_, ⟨l, tail, r1, r2, _⟩, _, _, r5⟩ := p3
      obtain ⟨C, hC, hs⟩ := r5 sz rfl
      have hl := congrArg List.length r1
      have hc := renL_length r2
      simp at hl
      exact ⟨arr, C, hC, hs, by omega⟩
    have hne : c' ≠ 0 ∧ v = .pointer (some a) := by
      split at ha
      · rename_i hb
        split at ha
        case isFalse => cases ha
        rename_i hk
        cases ha
        refine ⟨?_, rfl⟩
        rw [renC, hC] at q2
        simp only [hb, if_true, Option.some.injEq] at q2
        omega
      · rename_i hb
        split at ha
        case isFalse => cases ha
        rename_i hk
        cases ha
        refine ⟨?_, rfl⟩
        rw [renC, hC] at q2
        simp only [hb, if_false] at q2
        split at q2
        case isFalse => cases q2
        simp only [Option.some.injEq] at q2
        rintro rfl
        have : C = c := by omega
        subst this
        omega
    obtain ⟨hne, rfl⟩ := hne
    exact ⟨by simp [ren, q1], Lib.run_unsafeSliceData_row w ts ty b n c' hne⟩
  · cases ha
theorem freeze_set {b : Nat} {a : Addr} (hb : a.block = b) {n : Nat} (h0 : n ≠ 0) {c : Array Value} {t : TypeId} {fz : Nat × Nat} (hh : w.heap[b]? = some (.cells c t fz)) :
    ∃ fz', (w.freeze a n).heap = w.heap.setIfInBounds b (.cells c t fz') ∧ (w.freeze a n).tape = w.tape ∧ (w.freeze a n).os = w.os ∧ (w.freeze a n).output = w.output := by
  obtain ⟨lo, hi⟩ := fz
  refine ⟨if lo == hi then (a.off, a.off + n) else (min lo a.off, max hi (a.off + n)), ?_, by simp [World.freeze, h0], by simp [World.freeze, h0], by simp [World.freeze, h0]⟩
  simp only [World.freeze, h0, if_false, hb]
  apply Array.ext_getElem?
  intro i
  rw [Array.getElem?_modify, Array.getElem?_setIfInBounds]
  by_cases hi : b = i
  · subst hi
    obtain ⟨hlt, hh'⟩ := Array.getElem?_eq_some_iff.1 hh
    simp [hh', hlt]
  · simp [hi]
theorem string_ok (H : WR G ρ h w) {pt it ty : TypeId} {p p' n n' : Value} {r : Value × AH} (ha : astring P h pt p n = some r) (hp : ren ρ p = some p') (hn : ren ρ n = some n') :
    RunAt P G ρ h w (Builtin.unsafeString_ #[pt, it] ty #[p', n']) r := by
  unfold astring at ha
  split at ha
  case h_2 => cases ha
  rename_i el a k hu
  split at ha
  case h_2 => cases ha
  rename_i cs e0 o hg
  split at ha
  case isFalse => cases ha
  rename_i hc
  obtain ⟨hcell, rfl, hoff, hspot, hk0, hk63, hkl⟩ := hc
  obtain ⟨ns, hns, ha⟩ := Option.bind_eq_some_iff.1 ha
  split at ha
  case isFalse => cases ha
  rename_i hall
  cases ha
  obtain ⟨b, hb, rfl⟩ := ren_ptr hp
  simp only [ren, Option.some.injEq] at hn
  subst hn
  obtain ⟨m, rfl⟩ := Int.eq_ofNat_of_zero_le (Int.le_of_lt hk0)
  simp only [Int.toNat_natCast] at hns hkl
  obtain ⟨hs, hbf, hblk⟩ := renA_form hb
  obtain ⟨b', y, q1, q2, q3⟩ := H.obj _ _ hg
  rw [hblk] at q1; cases q1
  cases y <;> simp only [ObjR] at q3
  rename_i arr t' fz
  obtain ⟨ht, ⟨c', tail, r1, r2, r3⟩, _, r4, r5⟩ := q3
  obtain rfl := ht.resolve_left (by simp)
  have hl := congrArg List.length r1
  have hcl := renL_length r2
  simp at hl
  have hbe : b = ⟨b.block, 0, none⟩ := by rw [hbf, hoff]
  let l : List UInt8 := ns.map fun n => UInt8.ofNat n.toNat
  have htk := intsOf_spec hns
  have hnl : ns.length = m := by
    have := congrArg List.length htk
    simp at this
    omega
  have hll : l.length = m := by simp [l, hnl]
  have hc'k : c'.take m = ns.map (Value.int .u8) := by
    have := renL_take (n := m) r2
    rw [htk, ints_ren] at this
    exact (Option.some.inj this).symm
  have hcells : ∀ j x, l[j]? = some x → w.cell? ((⟨b.block, 0, none⟩ : Addr).add j) = some (.int .u8 x.toNat) := fun j x hx => by
    simp only [l, List.getElem?_map, Option.map_eq_some_iff] at hx
    obtain ⟨k, hk, rfl⟩ := hx
    have hj : j < m := by
      obtain ⟨q, _⟩ := List.getElem?_eq_some_iff.1 hk
      omega
    have hk2 := List.all_eq_true.1 hall k (List.mem_of_getElem? hk)
    simp only [Bool.and_eq_true, decide_eq_true_eq] at hk2
    have hcj : c'[j]? = some (.int .u8 k) := by
      have h1 : (c'.take m)[j]? = some (.int .u8 k) := by rw [hc'k]; simp [hk]
      rwa [List.getElem?_take_of_lt hj] at h1
    have harr : arr[j]? = some (.int .u8 k) := by
      rw [← Array.getElem?_toList, r1, List.getElem?_append_left (by omega)]
      exact hcj
    have hkn : ((UInt8.ofNat k.toNat).toNat : Int) = k := by
      rw [UInt8.toNat_ofNat']
      omega
    rw [hkn, Addr.add_lit]
    simp [World.cell?, q2, harr]
  have hrun := Lib.run_unsafeString_row (P := P) w pt it ty t' hu hcell b.block arr.size (by simp [World.shape?, q2]) l (by intro q; rw [q] at hll; simp at hll; omega) (by omega) (by omega) hcells
  rw [hll, ← hbe] at hrun
  obtain ⟨fz', f1, f2, f3, f4⟩ := freeze_set (w := w) (a := b) rfl (n := m) (by omega) q2
  refine ⟨ρ, .string ⟨l.toArray⟩, w.freeze b m, H.set hg hblk f1 ?_, Ext.set H hg rfl hblk f1 f2 f3 f4, rfl, hrun⟩
  simp only [ObjR]
  exact ⟨.inl trivial, ⟨c', tail, r1, r2, r3⟩, .inl trivial, r4, r5⟩
end
end Go.AE
