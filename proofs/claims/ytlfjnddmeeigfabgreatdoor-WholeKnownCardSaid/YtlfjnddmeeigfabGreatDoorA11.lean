import Derived.Test.YtlfjnddmeeigfabGreatDoorA10
import Derived.Laws.MakeOwn
namespace Go.AE
open Go

def aappend (P : Program) (h : AH) (t u : TypeId) (s x : Value) : Option (Value × AH) :=
  match P.underlying t, P.underlying u with
  | some (.slice el), some d => match srcT d, P.info? el with
    | true, some i => match i.zero, asrc h i.size x with
      | some z, some (n, news) =>
        if closed z ∧ z.cells.size = i.size ∧ 0 < i.size then
          match s with
          | .slice none 0 0 =>
            if n = 0 then some (.slice none 0 0, h)
            else if n * i.bytes ≤ 140737488355328 ∧ n ≤ 9223372036854775807 then some (.slice (some ⟨h.next, 0, none⟩) n 0, h.push (.cells news el (some i.size) false)) else none
          | .slice (some a) len c =>
            if (len + n) * i.bytes ≤ 140737488355328 ∧ len + n ≤ 9223372036854775807 then
              match h.get a.block with
              | some (.cells cs el' none ro) =>
                if len + n ≤ c then
                  if a.off + len * i.size + news.length ≤ cs.length ∧ ro = false ∧ news.all (·.oneCell') ∧ a.spot = none then
                    some (.slice (some a) (len + n) c, h.put a.block (some (.cells (lspl cs (a.off + len * i.size) news) el' none ro)))
                  else none
                else match acells h a (len * i.size) with
                  | some olds => some (.slice (some ⟨h.next, 0, none⟩) (len + n) 0, h.push (.cells (olds ++ news) el (some i.size) false))
                  | none => none
              | some (.cells cs el' (some sz) ro) =>
                if a.off = 0 ∧ c = 0 ∧ sz = i.size ∧ el' = el ∧ ro = false ∧ cs.length = len * i.size ∧ news.all (·.oneCell') then
                  some (.slice (some ⟨h.next, 0, none⟩) (len + n) 0, (h.put a.block none).push (.cells (cs ++ news) el (some i.size) false))
                else none
              | _ => none
            else none
          | _ => none
        else none
      | _, _ => none
    | _, _ => none
  | _, _ => none

section
variable {P : Program} {G : Nat} {ρ : Rho} {h : AH} {w : World} {e e' : Operand → Value}

theorem grownCap_ge (w : World) (need old : Nat) (el : TypeId) : need ≤ grownCap w need old el := by
  simp only [grownCap, Question.cut]; omega

theorem zeroCells_size (z : Array Value) (n : Nat) : (Builtin.zeroCells z n).size = n * z.size := by simp [Builtin.zeroCells]

/-- A new, greater array. -/
theorem grow_ok (H : WR G ρ h w) {el : TypeId} {i : TypeInfo} {z : Value} (hz : z.cells.size = i.size) {need old : Nat} {cells cells' : List Value} (hc : renL ρ cells = some cells') (hlen : cells'.length = need * i.size) :
    WR G (ρ.bind h.next w.heap.size (some (grownCap w need old el))) (h.push (.cells cells el (some i.size) false)) (w.drew.alloc (.cells (cells'.toArray ++ Builtin.zeroCells z.cells (grownCap w need old el - need)) el)) ∧
    Ext ρ h w (ρ.bind h.next w.heap.size (some (grownCap w need old el))) (h.push (.cells cells el (some i.size) false)) (w.drew.alloc (.cells (cells'.toArray ++ Builtin.zeroCells z.cells (grownCap w need old el - need)) el)) := by
  refine push_open H hc el _ (Builtin.zeroCells z.cells (grownCap w need old el - need)).toList (by simp) i.size _ ?_ (0, 0) (.inl rfl) _ rfl rfl rfl rfl
  have hge := grownCap_ge w need old el
  rw [Array.size_append, zeroCells_size, hz]
  simp only [List.size_toArray, hlen]
  rw [← Nat.add_mul]
  congr 1
  omega

theorem ren_open (ρ : Rho) (i b n C : Nat) : ren (ρ.bind i b (some C)) (.slice (some ⟨i, 0, none⟩) n 0) = some (.slice (some ⟨b, 0, none⟩) n C) := by
  simp only [ren, ren_new, Option.bind_some, renC]
  simp [Rho.bind]

theorem add_form {a : Addr} (hs : a.spot = none) (j : Nat) : a.add j = ⟨a.block, a.off + j, none⟩ := by
  obtain ⟨b, o, s⟩ := a
  simp only at hs
  subst hs
  exact Addr.add_lit b o j

def AppAt (P : Program) (G : Nat) (ρ : Rho) (h : AH) (w : World) (ts : Array TypeId) (ty : TypeId) (s' x' : Value) (r : Value × AH) : Prop :=
  ∃ ρ' v' w', WR G ρ' r.2 w' ∧ Ext ρ h w ρ' r.2 w' ∧ ren ρ' r.1 = some v' ∧ (Builtin.append_ ts ty #[s', x']).run P w = .ok v' w'

theorem append_ok (H : WR G ρ h w) {t u ty : TypeId} {s x s' x' : Value} {r : Value × AH} (ha : aappend P h t u s x = some r) (hs : ren ρ s = some s') (hx : ren ρ x = some x') : AppAt P G ρ h w #[t, u] ty s' x' r := by
  unfold aappend at ha
  split at ha
  case h_2 => cases ha
  rename_i el d ht hu
  split at ha
  case h_2 => cases ha
  rename_i i hd hi
  split at ha
  case h_2 => cases ha
  rename_i z n news hiz hsrc
  split at ha
  case isFalse => cases ha
  rename_i hzz
  obtain ⟨hzc, hzs, hsz⟩ := hzz
  obtain ⟨news', r1, r2, r3, r4⟩ := src_ok H hsrc hx
  have hsT : sizeT P el = some i.size := by simp [sizeT, hi]
  have hfull : ∀ w' : World, w'.heap = w.heap → (Builtin.firstCells i.size n x').run P w' = .ok news'.toArray w' := fun w' hw' => by
    have := r4 n (Nat.le_refl _) w' hw'
    rwa [← r2, List.take_length] at this
  split at ha
  · -- nil
    simp [ren] at hs; subst hs
    split at ha
    · rename_i hn; subst hn
      cases ha
      have := r4 0 (Nat.le_refl _) w rfl
      exact ⟨ρ, .slice none 0 0, w, H, Ext.refl _ _ _, by simp [ren], run_append_in_nil ht hu hd hsT r3 (by simpa using this) (Nat.le_refl _)⟩
    · rename_i hn
      split at ha
      case isFalse => cases ha
      rename_i hb
      cases ha
      have hrun := run_append_new (ty := ty) (w := w) (base := none) (sLen := 0) (sCap := 0) (olds := []) ht hu hd hi hiz rfl r3 (by simp [Builtin.firstCells]) (hfull w.drew rfl) (by omega) (by omega) (by simpa using hb.1)
      obtain ⟨g1, g2⟩ := grow_ok (el := el) (old := 0) (z := z) H hzs r1 (need := n) r2
      refine ⟨_, _, _, g1, g2, ren_open _ _ _ _ _, ?_⟩
      rw [hrun]
      simp
  · rename_i a len c
    split at ha
    case isFalse => cases ha
    rename_i hb
    obtain ⟨b, c', q1, q2, rfl⟩ := ren_slice hs
    obtain ⟨hsp, hbf, hblk⟩ := renA_form q1
    split at ha
    · rename_i cs el' ro hg
      have hop : h.opn a.block = some none := by simp [AH.opn, hg]
      have hc' := renC_closed H hop q2
      subst hc'
      split at ha
      · rename_i hle
        split at ha
        case isFalse => cases ha
        rename_i hcond
        obtain ⟨k1, rfl, k3, k4⟩ := hcond
        cases ha
        have hadd := renA_add q1 (len * i.size)
        have hab : (a.add (len * i.size)).block = a.block := add_block _ _
        have hao : (a.add (len * i.size)).off = a.off + len * i.size := by rw [add_form k4]
        obtain ⟨w', s1, s2, s3⟩ := stores_ok P H (a := a.add (len * i.size)) (by rw [hab]; exact hg) hadd r1 (by rw [hao]; exact k1) k3
        rw [hab, hao] at s2 s3
        refine ⟨ρ, .slice (some b) (len + n) c', w', s2, s3, ren_slice_mk H hop q1, ?_⟩
        rw [run_append_in ht hu hd hsT r3 (hfull w rfl) hle, s1]
        rfl
      · rename_i hnle
        split at ha
        case h_2 => cases ha
        rename_i olds hol
        cases ha
        obtain ⟨olds', o1, o2, o3⟩ := cells_ok H hol q1
        have hfo : (Builtin.firstCells i.size len (.slice (some b) len c')).run P w.drew = .ok olds'.toArray w.drew := run_firstCells_some w.drew i.size len b len c' olds' o2 (by simpa using o3)
        have hrun := run_append_new (ty := ty) (w := w) (base := some b) (sLen := len) (sCap := c') ht hu hd hi hiz rfl r3 hfo (hfull w.drew rfl) (by omega) hb.2 hb.1
        have hcat : renL ρ (olds ++ news) = some (olds' ++ news') := renL_append.2 ⟨_, _, o1, r1, rfl⟩
        obtain ⟨g1, g2⟩ := grow_ok (el := el) (old := c') (z := z) H hzs hcat (need := len + n) (by rw [List.length_append, o2, r2, Nat.add_mul])
        refine ⟨_, _, _, g1, g2, ren_open _ _ _ _ _, ?_⟩
        rw [hrun]
        simp
    · rename_i cs el' sz ro hg
      split at ha
      case isFalse => cases ha
      rename_i hcond
      obtain ⟨k1, rfl, rfl, rfl, rfl, k6, k7⟩ := hcond
      cases ha
      obtain ⟨b', y, p1, p2, p3⟩ := H.obj _ _ hg
      rw [hblk] at p1; cases p1
      cases y <;> simp only [ObjR] at p3
      rename_i arr t' fz
      obtain ⟨p30, ⟨c1, tail, p4, p5, _⟩, p6, _, p7⟩ := p3
      obtain rfl := p30.resolve_left (by simp)
      obtain ⟨C, hC, hsize⟩ := p7 _ rfl
      have hcC : c' = C := by
        unfold renC at q2; rw [hC] at q2; simpa using q2.symm
      subst hcC
      have hc1 := renL_length p5
      have hal : arr.size = c1.length + tail.length := by
        have := congrArg List.length p4
        simpa using this
      have hcat : renL ρ (cs ++ news) = some (c1 ++ news') := renL_append.2 ⟨_, _, p5, r1, rfl⟩
      by_cases hle : len + n ≤ c'
      · -- in place
        have hmul : (len + n) * i.size ≤ c' * i.size := Nat.mul_le_mul_right _ hle
        rw [Nat.add_mul] at hmul
        have hbd : b.off = 0 := by rw [hbf]; exact k1
        have hbsp : b.spot = none := by rw [hbf]
        have hbs : b = ⟨b.block, 0, none⟩ := by
          obtain ⟨b1, b2, b3⟩ := b
          simp only at hbd hbsp
          rw [hbd, hbsp]
        have hadd : b.add (len * i.size) = ⟨b.block, len * i.size, none⟩ := by rw [add_form hbsp, hbd, Nat.zero_add]
        have hst := run_stores P news' (len * i.size) 0 arr w p2 (by omega) p6 (renL_all (fun v v' => oneCell_ren v v') r1 k7)
        have hrun := run_append_in (ty := ty) (w := w) (base := b) (sLen := len) (sCap := c') ht hu hd hsT r3 (hfull w rfl) hle
        rw [hadd, hst] at hrun
        refine ⟨ρ.bind h.next b.block (some c'), .slice (some b) (len + n) c', { w with heap := w.heap.setIfInBounds b.block (.cells (spl arr (len * i.size + 0) news') t' fz) }, ?_, ?_, ?_, hrun⟩
        · refine H.move hg hblk rfl ?_
          have hle' := Rho.le_bind (H.fresh h.next (Nat.le_refl _)) b.block (some c')
          simp only [ObjR]
          refine ⟨.inr trivial, ⟨c1 ++ news', tail.drop news'.length, ?_, renL_mono hle' _ _ hcat, fun q => by cases q⟩, by simpa [spl_size] using p6, fun q => (by cases q), fun s q => ⟨c', by simp [Rho.bind], by cases q; simpa [spl_size] using hsize⟩⟩
          rw [spl_toList, p4, Nat.add_zero]
          have hk : len * i.size = c1.length := by omega
          rw [hk]
          have key : ∀ (vs tl : List Value) (pre : List Value), vs.length ≤ tl.length → lspl (pre ++ tl) pre.length vs = pre ++ vs ++ tl.drop vs.length := by
            intro vs
            induction vs with
            | nil => intro tl pre _; simp [lspl]
            | cons v vs ih =>
              intro tl pre hl
              cases tl with
              | nil => simp at hl
              | cons x tl =>
                simp only [lspl]
                have e1 : (pre ++ x :: tl).set pre.length v = (pre ++ [v]) ++ tl := by simp
                rw [e1]
                have := ih tl (pre ++ [v]) (by simpa using hl)
                rw [List.length_append] at this
                simp only [List.length_cons, List.length_nil, Nat.zero_add] at this
                rw [this]
                simp
          exact key news' tail c1 (by omega)
        · exact Ext.move H hg rfl hblk rfl rfl rfl rfl
        · rw [hbs]; exact ren_open _ _ _ _ _
      · -- a new array
        have hdrop := H.drop a.block
        have hfo : (Builtin.firstCells i.size len (.slice (some b) len c')).run P w.drew = .ok c1.toArray w.drew := by
          refine run_firstCells_some w.drew i.size len b len c' c1 (by omega) fun j v hv => ?_
          have hbd : b.off = 0 := by rw [hbf]; exact k1
          have hbsp : b.spot = none := by rw [hbf]
          have hj := (List.getElem?_eq_some_iff.1 hv).1
          have : arr[j]? = some v := by
            have : arr.toList[j]? = some v := by rw [p4, List.getElem?_append_left hj]; exact hv
            simpa using this
          rw [add_form hbsp, hbd, Nat.zero_add]
          have hcell : (w.drew).heap[b.block]? = some (.cells arr t' fz) := p2
          simp [World.cell?, hcell, this]
        have hrun := run_append_new (ty := ty) (w := w) (base := some b) (sLen := len) (sCap := c') ht hu hd hi hiz rfl r3 hfo (hfull w.drew rfl) (by omega) hb.2 hb.1
        obtain ⟨g1, g2⟩ := grow_ok (el := t') (old := c') (z := z) hdrop hzs hcat (need := len + n) (by rw [List.length_append, hc1, k6, r2, Nat.add_mul])
        refine ⟨_, _, _, g1, (Ext.drop ρ h w a.block).trans g2, ren_open _ _ _ _ _, ?_⟩
        rw [hrun]
        simp
    · cases ha
  · cases ha
end
end Go.AE
