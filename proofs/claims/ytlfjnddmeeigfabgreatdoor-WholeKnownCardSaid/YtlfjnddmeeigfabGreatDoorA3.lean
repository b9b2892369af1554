import Derived.Test.YtlfjnddmeeigfabGreatDoorA2
import Derived.Laws.World
namespace Go.AE
open Go

/-- An object of the abstract heap. 'opn = some sz': more cells may follow (its real size is not known; an element takes sz cells). -/
inductive AObj where
  | cells (c : List Value) (elem : TypeId) (opn : Option Nat) (ro : Bool)
  | iter (s : ByteArray) (pos : Nat)
  | loop (l : Loop)
  | defd (ds : Option (List Deferred))

structure AH where
  next : Nat
  m : T AObj

def AH.get (h : AH) (i : Nat) : Option AObj := h.m.get i
def AH.put (h : AH) (i : Nat) (o : Option AObj) : AH := { h with m := T.set (i + 1) h.m i o }
def AH.push (h : AH) (o : AObj) : AH := { next := h.next + 1, m := T.set (h.next + 1) h.m h.next (some o) }

theorem AH.get_put (h : AH) (i k : Nat) (o : Option AObj) : (h.put i o).get k = if k = i then o else h.get k := T.get_set o _ _ _ _ (by omega)
theorem AH.get_push (h : AH) (k : Nat) (o : AObj) : (h.push o).get k = if k = h.next then some o else h.get k := T.get_set _ _ _ _ _ (by omega)
@[simp] theorem AH.next_put (h : AH) (i : Nat) (o : Option AObj) : (h.put i o).next = h.next := rfl
@[simp] theorem AH.next_push (h : AH) (o : AObj) : (h.push o).next = h.next + 1 := rfl

def renT (ρ : Rho) : Target → Option Target
  | .fn f c => (renF ρ f).bind fun f' => (renArr ρ c).map fun c' => .fn f' c'
  | .nil => some .nil
  | .builtin b a t c => some (.builtin b a t c)
  | .collected r => (ρ.blk r).map .collected
  | .coroexit _ => none
def renD (ρ : Rho) (d : Deferred) : Option Deferred := (renT ρ d.target).bind fun t => (renArr ρ d.args).map fun a => ⟨t, a⟩
def renDs (ρ : Rho) : List Deferred → Option (List Deferred)
  | [] => some []
  | d :: l => (renD ρ d).bind fun d' => (renDs ρ l).map fun l' => d' :: l'

theorem renT_mono {ρ σ : Rho} (h : ρ.le σ) {t u : Target} (e : renT ρ t = some u) : renT σ t = some u := by
  cases t <;> simp only [renT, Option.map_eq_some_iff, Option.bind_eq_some_iff] at * <;> try exact e
  · obtain ⟨f, hf, c, hc, e⟩ := e
    exact ⟨f, renF_mono h hf, c, renArr_mono h _ _ hc, e⟩
  · obtain ⟨b, hb, e⟩ := e
    exact ⟨b, (h _ _ hb).1, e⟩
theorem renD_mono {ρ σ : Rho} (h : ρ.le σ) {t u : Deferred} (e : renD ρ t = some u) : renD σ t = some u := by
  simp only [renD, Option.map_eq_some_iff, Option.bind_eq_some_iff] at *
  obtain ⟨f, hf, c, hc, e⟩ := e
  exact ⟨f, renT_mono h hf, c, renArr_mono h _ _ hc, e⟩
theorem renDs_mono {ρ σ : Rho} (h : ρ.le σ) : ∀ {t u : List Deferred}, renDs ρ t = some u → renDs σ t = some u
  | [], u, e => by simp only [renDs] at *; exact e
  | d :: l, u, e => by
    simp only [renDs, Option.map_eq_some_iff, Option.bind_eq_some_iff] at *
    obtain ⟨f, hf, c, hc, e⟩ := e
    exact ⟨f, renD_mono h hf, c, renDs_mono h hc, e⟩

/-- How an abstract object and a real one belong together; 'id': the abstract number. -/
def ObjR (ρ : Rho) (id : Nat) : AObj → Obj → Prop
  | .cells c t opn ro, .cells arr t' fz => (ro = true ∨ t' = t) ∧ (∃ c' tail, arr.toList = c' ++ tail ∧ renL ρ c = some c' ∧ (opn = none → tail = [])) ∧
      (fz = (0, 0) ∨ arr.size ≤ fz.1) ∧ (opn = none → ρ.cap id = none) ∧ (∀ sz, opn = some sz → ∃ C, ρ.cap id = some C ∧ arr.size = C * sz)
  | .iter s p, .stringIter s' p' => s' = s ∧ p' = p
  | .loop l, .loop l' => l'.state = l.state ∧ l'.pending = l.pending ∧ l'.fn = l.fn ∧ renArr ρ l.tmps = some l'.tmps ∧ l'.params = l.params ∧ l'.assign = l.assign ∧ l'.body = l.body ∧ ρ.blk l.defers = some l'.defers
  | .defd none, .deferred none => True
  | .defd (some ds), .deferred (some ds') => renDs ρ ds = some ds'
  | _, _ => False

theorem ObjR.mono {ρ σ : Rho} (h : ρ.le σ) {id b : Nat} (hid : ρ.blk id = some b) {o : AObj} {x : Obj} (e : ObjR ρ id o x) : ObjR σ id o x := by
  cases o with
  | cells c t opn ro =>
    cases x <;> simp only [ObjR] at * <;> try exact e
    obtain ⟨h1, ⟨c', tail, h2, h3, h4⟩, h5, h6, h7⟩ := e
    refine ⟨h1, ⟨c', tail, h2, renL_mono h _ _ h3, h4⟩, h5, fun q => by rw [(h _ _ hid).2]; exact h6 q, fun sz q => by rw [(h _ _ hid).2]; exact h7 sz q⟩
  | iter s p => cases x <;> simp only [ObjR] at * <;> exact e
  | loop l =>
    cases x <;> simp only [ObjR] at * <;> try exact e
    obtain ⟨h1, h2, h3, h4, h5, h6, h7, h8⟩ := e
    exact ⟨h1, h2, h3, renArr_mono h _ _ h4, h5, h6, h7, (h _ _ h8).1⟩
  | defd ds =>
    cases ds with
    | none =>
      cases x with
      | deferred d => cases d <;> simp only [ObjR] at *
      | _ => simp only [ObjR] at *
    | some ds =>
      cases x with
      | deferred d => cases d <;> simp only [ObjR] at * <;> first | exact e | exact renDs_mono h e
      | _ => simp only [ObjR] at * 

/-- The abstract heap and the world belong together. G: how many package-level variables there are. -/
structure WR (G : Nat) (ρ : Rho) (h : AH) (w : World) : Prop where
  obj : ∀ i o, h.get i = some o → ∃ b x, ρ.blk i = some b ∧ w.heap[b]? = some x ∧ ObjR ρ i o x
  fresh : ∀ i, h.next ≤ i → ρ.blk i = none
  inj : ∀ i j o p b, h.get i = some o → h.get j = some p → ρ.blk i = some b → ρ.blk j = some b → i = j
  glob : ∀ g, g < G → ρ.blk g = some g ∧ ρ.cap g = none
  gp : G ≤ h.next

def AObj.ro : AObj → Bool
  | .cells _ _ _ r => r
  | _ => false

/-- The real block b is one that the abstract heap may write. -/
def Wset (ρ : Rho) (h : AH) (b : Nat) : Prop := ∃ i o, h.get i = some o ∧ o.ro = false ∧ ρ.blk i = some b

/-- From (ρ, h, w) to (ρ', h', w'): the numbers that were given stay; what the abstract heap does not own stays as it was. -/
structure Ext (ρ : Rho) (h : AH) (w : World) (ρ' : Rho) (h' : AH) (w' : World) : Prop where
  le : ρ.le ρ'
  low : ∀ i, i < h.next → ρ'.blk i = ρ.blk i
  next : h.next ≤ h'.next
  size : w.heap.size ≤ w'.heap.size
  pres : ∀ b, b < w.heap.size → ¬ Wset ρ h b → w'.heap[b]? = w.heap[b]?
  shrink : ∀ b, b < w.heap.size → Wset ρ' h' b → Wset ρ h b
  tape : w'.tape = w.tape
  os : w'.os = w.os
  output : w'.output = w.output

theorem Ext.refl (ρ : Rho) (h : AH) (w : World) : Ext ρ h w ρ h w :=
  ⟨Rho.le_refl ρ, fun _ _ => rfl, Nat.le_refl _, Nat.le_refl _, fun _ _ _ => rfl, fun _ _ h => h, rfl, rfl, rfl⟩

theorem Ext.trans {ρ ρ' ρ'' : Rho} {h h' h'' : AH} {w w' w'' : World} (a : Ext ρ h w ρ' h' w') (b : Ext ρ' h' w' ρ'' h'' w'') : Ext ρ h w ρ'' h'' w'' where
  le := Rho.le_trans a.le b.le
  low := fun i hi => (b.low i (Nat.lt_of_lt_of_le hi a.next)).trans (a.low i hi)
  next := Nat.le_trans a.next b.next
  size := Nat.le_trans a.size b.size
  pres := fun k hk hn => (b.pres k (Nat.lt_of_lt_of_le hk a.size) (fun hw => hn (a.shrink k hk hw))).trans (a.pres k hk hn)
  shrink := fun k hk hw => a.shrink k hk (b.shrink k (Nat.lt_of_lt_of_le hk a.size) hw)
  tape := b.tape.trans a.tape
  os := b.os.trans a.os
  output := b.output.trans a.output

theorem WR.drawn {G : Nat} {ρ : Rho} {h : AH} {w : World} (H : WR G ρ h w) (n : Nat) : WR G ρ h { w with drawn := n } := ⟨H.obj, H.fresh, H.inj, H.glob, H.gp⟩
theorem Ext.drawn (ρ : Rho) (h : AH) (w : World) (n : Nat) : Ext ρ h w ρ h { w with drawn := n } :=
  ⟨Rho.le_refl ρ, fun _ _ => rfl, Nat.le_refl _, Nat.le_refl _, fun _ _ _ => rfl, fun _ _ h => h, rfl, rfl, rfl⟩

/-- The size of the heap is above every block that is meant. -/
theorem WR.lt {G : Nat} {ρ : Rho} {h : AH} {w : World} (H : WR G ρ h w) {i : Nat} {o : AObj} (e : h.get i = some o) {b : Nat} (hb : ρ.blk i = some b) : b < w.heap.size := by
  obtain ⟨b', x, h1, h2, _⟩ := H.obj i o e
  rw [hb] at h1; cases h1
  exact (Array.getElem?_eq_some_iff.1 h2).1

theorem WR.next_gt {G : Nat} {ρ : Rho} {h : AH} {w : World} (H : WR G ρ h w) {i b : Nat} (hb : ρ.blk i = some b) : i < h.next := by
  rcases Nat.lt_or_ge i h.next with q | q
  · exact q
  · rw [H.fresh i q] at hb; cases hb

def Rho.bind (ρ : Rho) (i b : Nat) (c : Option Nat) : Rho :=
  ⟨fun k => if k = i then some b else ρ.blk k, fun k => if k = i then c else ρ.cap k⟩

theorem Rho.le_bind {ρ : Rho} {i : Nat} (h : ρ.blk i = none) (b : Nat) (c : Option Nat) : ρ.le (ρ.bind i b c) := fun k b' hk => by
  have : k ≠ i := by rintro rfl; rw [h] at hk; cases hk
  simp [Rho.bind, this, hk]

/-- A new block. -/
theorem WR.alloc {G : Nat} {ρ : Rho} {h : AH} {w w' : World} (H : WR G ρ h w) (o : AObj) (x : Obj) (c : Option Nat) (hw : w'.heap = w.heap.push x)
    (hx : ObjR (ρ.bind h.next w.heap.size c) h.next o x) : WR G (ρ.bind h.next w.heap.size c) (h.push o) w' := by
  have hn := H.fresh h.next (Nat.le_refl _)
  have hle := Rho.le_bind hn w.heap.size c
  have hgp := H.gp
  refine ⟨fun i p e => ?_, fun i hi => ?_, fun i j p q b e1 e2 b1 b2 => ?_, fun g hg => ?_, by simp; omega⟩
  · rw [AH.get_push] at e
    by_cases hi : i = h.next
    · subst hi
      simp at e; subst e
      exact ⟨w.heap.size, x, by simp [Rho.bind], by rw [hw]; simp, hx⟩
    · rw [if_neg hi] at e
      obtain ⟨b, y, h1, h2, h3⟩ := H.obj i p e
      refine ⟨b, y, (hle _ _ h1).1, ?_, h3.mono hle h1⟩
      have hb := (Array.getElem?_eq_some_iff.1 h2).1
      rw [hw, Array.getElem?_push, if_neg (Nat.ne_of_lt hb), h2]
  · have h1 : h.next + 1 ≤ i := hi
    have h2 : i ≠ h.next := by omega
    simp only [Rho.bind, h2, if_false]
    exact H.fresh i (by omega)
  · rw [AH.get_push] at e1 e2
    have old : ∀ k r, h.get k = some r → (ρ.bind h.next w.heap.size c).blk k = some b → k ≠ h.next → b < w.heap.size := fun k r hr hb hk => by
      simp only [Rho.bind, hk, if_false] at hb
      exact H.lt hr hb
    by_cases hi : i = h.next <;> by_cases hj : j = h.next
    · rw [hi, hj]
    · exfalso
      rw [if_neg hj] at e2
      have := old j q e2 b2 hj
      simp only [Rho.bind, hi, if_true] at b1
      injection b1 with b1
      omega
    · exfalso
      rw [if_neg hi] at e1
      have := old i p e1 b1 hi
      simp only [Rho.bind, hj, if_true] at b2
      injection b2 with b2
      omega
    · rw [if_neg hi] at e1
      rw [if_neg hj] at e2
      simp only [Rho.bind, hi, hj, if_false] at b1 b2
      exact H.inj i j p q b e1 e2 b1 b2
  · have : g ≠ h.next := by omega
    simp only [Rho.bind, this, if_false]
    exact H.glob g hg

theorem Ext.alloc {G : Nat} {ρ : Rho} {h : AH} {w w' : World} (H : WR G ρ h w) (o : AObj) (x : Obj) (c : Option Nat) (hw : w'.heap = w.heap.push x) (ht : w'.tape = w.tape) (ho : w'.os = w.os) (hu : w'.output = w.output) :
    Ext ρ h w (ρ.bind h.next w.heap.size c) (h.push o) w' where
  le := Rho.le_bind (H.fresh _ (Nat.le_refl _)) _ _
  low := fun i hi => by have : i ≠ h.next := by omega
                        simp [Rho.bind, this]
  next := by simp
  size := by rw [hw]; simp
  pres := fun b hb _ => by rw [hw, Array.getElem?_push, if_neg (Nat.ne_of_lt hb)]
  shrink := fun b hb ⟨i, p, e, r, q⟩ => by
    rw [AH.get_push] at e
    by_cases hi : i = h.next
    · simp only [Rho.bind, hi, if_true] at q
      injection q with q
      omega
    · rw [if_neg hi] at e
      simp only [Rho.bind, hi, if_false] at q
      exact ⟨i, p, e, r, q⟩
  tape := ht
  os := ho
  output := hu

/-- A block that is turned. -/
theorem WR.set {G : Nat} {ρ : Rho} {h : AH} {w w' : World} (H : WR G ρ h w) {i b : Nat} {o o' : AObj} {x' : Obj} (e : h.get i = some o) (hb : ρ.blk i = some b)
    (hw : w'.heap = w.heap.setIfInBounds b x') (hx : ObjR ρ i o' x') : WR G ρ (h.put i (some o')) w' := by
  have hlt := H.lt e hb
  refine ⟨fun k p ek => ?_, H.fresh, fun k j p q c e1 e2 b1 b2 => ?_, H.glob, H.gp⟩
  · rw [AH.get_put] at ek
    by_cases hk : k = i
    · subst hk
      simp at ek; subst ek
      exact ⟨b, x', hb, by rw [hw]; simp [hlt], hx⟩
    · rw [if_neg hk] at ek
      obtain ⟨b', y, h1, h2, h3⟩ := H.obj k p ek
      refine ⟨b', y, h1, ?_, h3⟩
      have hne : b ≠ b' := by rintro rfl; exact hk (H.inj k i p o b ek e h1 hb)
      rw [hw, Array.getElem?_setIfInBounds_ne hne, h2]
  · have old : ∀ k r, (h.put i (some o')).get k = some r → ∃ s, h.get k = some s := fun k r hr => by
      rw [AH.get_put] at hr
      by_cases hk : k = i
      · exact ⟨o, hk ▸ e⟩
      · rw [if_neg hk] at hr; exact ⟨r, hr⟩
    obtain ⟨s, hs⟩ := old k p e1
    obtain ⟨s', hs'⟩ := old j q e2
    exact H.inj k j s s' c hs hs' b1 b2

theorem Ext.set {G : Nat} {ρ : Rho} {h : AH} {w w' : World} (_H : WR G ρ h w) {i b : Nat} {o o' : AObj} {x' : Obj} (e : h.get i = some o) (hro : o.ro = false) (hb : ρ.blk i = some b)
    (hw : w'.heap = w.heap.setIfInBounds b x') (ht : w'.tape = w.tape) (ho : w'.os = w.os) (hu : w'.output = w.output) : Ext ρ h w ρ (h.put i (some o')) w' where
  le := Rho.le_refl _
  low := fun _ _ => rfl
  next := by simp
  size := by rw [hw]; simp
  pres := fun c _ hn => by
    have : b ≠ c := by rintro rfl; exact hn ⟨i, o, e, hro, hb⟩
    rw [hw, Array.getElem?_setIfInBounds_ne this]
  shrink := fun c _ ⟨k, p, ek, r, q⟩ => by
    rw [AH.get_put] at ek
    by_cases hk : k = i
    · subst hk; exact ⟨k, o, e, hro, q⟩
    · rw [if_neg hk] at ek; exact ⟨k, p, ek, r, q⟩
  tape := ht
  os := ho
  output := hu

/-- An abstract object that is forgotten. -/
theorem WR.drop {G : Nat} {ρ : Rho} {h : AH} {w : World} (H : WR G ρ h w) (i : Nat) : WR G ρ (h.put i none) w := by
  have old : ∀ k r, (h.put i none).get k = some r → h.get k = some r := fun k r hr => by
    rw [AH.get_put] at hr
    by_cases hk : k = i
    · rw [if_pos hk] at hr; cases hr
    · rw [if_neg hk] at hr; exact hr
  exact ⟨fun k p ek => H.obj k p (old k p ek), H.fresh, fun k j p q c e1 e2 b1 b2 => H.inj k j p q c (old k p e1) (old j q e2) b1 b2, H.glob, H.gp⟩
theorem Ext.drop (ρ : Rho) (h : AH) (w : World) (i : Nat) : Ext ρ h w ρ (h.put i none) w where
  le := Rho.le_refl _
  low := fun _ _ => rfl
  next := by simp
  size := Nat.le_refl _
  pres := fun _ _ _ => rfl
  shrink := fun c _ ⟨k, p, ek, r, q⟩ => by
    rw [AH.get_put] at ek
    by_cases hk : k = i
    · rw [if_pos hk] at ek; cases ek
    · rw [if_neg hk] at ek; exact ⟨k, p, ek, r, q⟩
  tape := rfl
  os := rfl
  output := rfl

/-- A block that gets another abstract number, and new contents ('append' in place). -/
theorem WR.move {G : Nat} {ρ : Rho} {h : AH} {w w' : World} (H : WR G ρ h w) {i b : Nat} {o o' : AObj} {x' : Obj} {c : Option Nat} (e : h.get i = some o) (hb : ρ.blk i = some b)
    (hw : w'.heap = w.heap.setIfInBounds b x') (hx : ObjR (ρ.bind h.next b c) h.next o' x') : WR G (ρ.bind h.next b c) ((h.put i none).push o') w' := by
  have hn := H.fresh h.next (Nat.le_refl _)
  have hle := Rho.le_bind hn b c
  have hlt := H.lt e hb
  have hin : i < h.next := H.next_gt hb
  have old : ∀ k r, ((h.put i none).push o').get k = some r → k ≠ h.next → h.get k = some r ∧ k ≠ i := fun k r hr hk => by
    rw [AH.get_push, AH.next_put, if_neg hk, AH.get_put] at hr
    by_cases hki : k = i
    · rw [if_pos hki] at hr; cases hr
    · rw [if_neg hki] at hr; exact ⟨hr, hki⟩
  have hgp := H.gp
  refine ⟨fun k p ek => ?_, fun k hk => ?_, fun k j p q d e1 e2 b1 b2 => ?_, fun g hg => ?_, by simp; omega⟩
  · by_cases hk : k = h.next
    · subst hk
      rw [AH.get_push, AH.next_put, if_pos rfl] at ek
      cases ek
      exact ⟨b, x', by simp [Rho.bind], by rw [hw]; simp [hlt], hx⟩
    · obtain ⟨e0, hki⟩ := old k p ek hk
      obtain ⟨b', y, h1, h2, h3⟩ := H.obj k p e0
      refine ⟨b', y, (hle _ _ h1).1, ?_, h3.mono hle h1⟩
      have hne : b ≠ b' := by rintro rfl; exact hki (H.inj k i p o b e0 e h1 hb)
      rw [hw, Array.getElem?_setIfInBounds_ne hne, h2]
  · have h1 : h.next + 1 ≤ k := hk
    have h2 : k ≠ h.next := by omega
    simp only [Rho.bind, h2, if_false]
    exact H.fresh k (by omega)
  · by_cases hk : k = h.next <;> by_cases hj : j = h.next
    · rw [hk, hj]
    · exfalso
      obtain ⟨e0, hji⟩ := old j q e2 hj
      simp only [Rho.bind, hk, hj, if_true, if_false] at b1 b2
      cases b1
      exact hji (H.inj j i q o b e0 e b2 hb)
    · exfalso
      obtain ⟨e0, hki⟩ := old k p e1 hk
      simp only [Rho.bind, hk, hj, if_true, if_false] at b1 b2
      cases b2
      exact hki (H.inj k i p o b e0 e b1 hb)
    · obtain ⟨e0, _⟩ := old k p e1 hk
      obtain ⟨e3, _⟩ := old j q e2 hj
      simp only [Rho.bind, hk, hj, if_false] at b1 b2
      exact H.inj k j p q d e0 e3 b1 b2
  · have : g ≠ h.next := by omega
    simp only [Rho.bind, this, if_false]
    exact H.glob g hg

theorem Ext.move {G : Nat} {ρ : Rho} {h : AH} {w w' : World} (H : WR G ρ h w) {i b : Nat} {o o' : AObj} {x' : Obj} {c : Option Nat} (e : h.get i = some o) (hro : o.ro = false) (hb : ρ.blk i = some b)
    (hw : w'.heap = w.heap.setIfInBounds b x') (ht : w'.tape = w.tape) (ho : w'.os = w.os) (hu : w'.output = w.output) : Ext ρ h w (ρ.bind h.next b c) ((h.put i none).push o') w' where
  le := Rho.le_bind (H.fresh _ (Nat.le_refl _)) _ _
  low := fun k hk => by have : k ≠ h.next := by omega
                        simp [Rho.bind, this]
  next := by simp
  size := by rw [hw]; simp
  pres := fun d _ hn => by
    have : b ≠ d := by rintro rfl; exact hn ⟨i, o, e, hro, hb⟩
    rw [hw, Array.getElem?_setIfInBounds_ne this]
  shrink := fun d _ ⟨k, p, ek, r, q⟩ => by
    rw [AH.get_push, AH.next_put] at ek
    by_cases hk : k = h.next
    · simp only [Rho.bind, hk, if_true] at q
      cases q
      exact ⟨i, o, e, hro, hb⟩
    · rw [if_neg hk, AH.get_put] at ek
      simp only [Rho.bind, hk, if_false] at q
      by_cases hki : k = i
      · rw [if_pos hki] at ek; cases ek
      · rw [if_neg hki] at ek; exact ⟨k, p, ek, r, q⟩
  tape := ht
  os := ho
  output := hu
end Go.AE
