import Derived.Test.YtlfjnddmeeigfabGreatDoorA8
import Derived.Laws.RangeString
namespace Go.AE
open Go

def OpAt (P : Program) (G : Nat) (ρ : Rho) (h : AH) (w : World) (e' : Operand → Value) (o : Oper) (v : Value) (h' : AH) : Prop :=
  ∃ ρ' v' w', WR G ρ' h' w' ∧ Ext ρ h w ρ' h' w' ∧ ren ρ' v = some v' ∧ ((execOp e' o).run P w = .ok (.value v') w' ∨ ((execOp e' o).run P w = .ok .skip w' ∧ v' = undef))

section
variable {P : Program} {G : Nat} {ρ : Rho} {h : AH} {w : World} {e e' : Operand → Value}

theorem PureAt.opAt (H : WR G ρ h w) {o : Oper} {v : Value} (hp : PureAt P ρ e' o v) : OpAt P G ρ h w e' o v h :=
  let ⟨v', h1, h2⟩ := hp; ⟨ρ, v', w, H, Ext.refl _ _ _, h1, .inl (h2 w)⟩

/-- A new row of cells, of a known size. -/
theorem push_row (H : WR G ρ h w) {cells cells' : Array Value} (hc : renArr ρ cells = some cells') (t : TypeId) :
    WR G (ρ.bind h.next w.heap.size none) (h.push (.cells cells.toList t none false)) { w with heap := w.heap.push (.cells cells' t) } ∧
    Ext ρ h w (ρ.bind h.next w.heap.size none) (h.push (.cells cells.toList t none false)) { w with heap := w.heap.push (.cells cells' t) } := by
  have hle := Rho.le_bind (H.fresh h.next (Nat.le_refl _)) w.heap.size none
  refine ⟨H.alloc _ _ none rfl ?_, Ext.alloc H _ _ none rfl rfl rfl rfl⟩
  simp only [ObjR]
  exact ⟨.inr trivial, ⟨cells'.toList, [], by simp, renL_mono hle _ _ (renArr_iff.1 hc), fun _ => rfl⟩, .inl trivial, fun _ => by simp [Rho.bind], fun sz q => by cases q⟩

/-- A new row of cells with more cells behind those that are known; 'C': how many elements of sz cells it has. -/
theorem push_open (H : WR G ρ h w) {cells cells' : List Value} (hc : renL ρ cells = some cells') (t : TypeId) (arr : Array Value) (tail : List Value) (harr : arr.toList = cells' ++ tail) (sz C : Nat) (hC : arr.size = C * sz)
    (fz : Nat × Nat) (hz : fz = (0, 0) ∨ arr.size ≤ fz.1) (w' : World) (hw : w'.heap = w.heap.push (.cells arr t fz)) (ht : w'.tape = w.tape) (ho : w'.os = w.os) (hu : w'.output = w.output) :
    WR G (ρ.bind h.next w.heap.size (some C)) (h.push (.cells cells t (some sz) false)) w' ∧
    Ext ρ h w (ρ.bind h.next w.heap.size (some C)) (h.push (.cells cells t (some sz) false)) w' := by
  have hle := Rho.le_bind (H.fresh h.next (Nat.le_refl _)) w.heap.size (some C)
  refine ⟨H.alloc _ _ (some C) hw ?_, Ext.alloc H _ _ (some C) hw ht ho hu⟩
  simp only [ObjR]
  exact ⟨.inr trivial, ⟨cells', tail, harr, renL_mono hle _ _ hc, fun q => by cases q⟩, hz, fun q => (by cases q), fun s q => ⟨C, by simp [Rho.bind], by cases q; exact hC⟩⟩

theorem ren_new (ρ : Rho) (i b : Nat) (c : Option Nat) (off : Nat) : renA (ρ.bind i b c) ⟨i, off, none⟩ = some ⟨b, off, none⟩ := by simp [renA, Rho.bind]

/-! alloc, box -/
def azero (P : Program) (t : TypeId) : Option Value := (P.info? t).bind (·.zero)
theorem run_zero {t : TypeId} {z : Value} (hz : azero P t = some z) (w : World) : (zeroValue t).run P w = .ok z w := by
  obtain ⟨i, h1, h2⟩ := Option.bind_eq_some_iff.1 hz
  simp [zeroValue, typeInfo, h1, h2]

def aalloc (h : AH) (t : TypeId) (v : Value) : Value × AH := (.pointer (some ⟨h.next, 0, none⟩), h.push (.cells v.cells.toList t none false))

theorem run_newVar (t : TypeId) (v : Value) (w : World) : (newVar t v).run P w = .ok ⟨w.heap.size, 0, none⟩ { w with heap := w.heap.push (.cells v.cells t) } := by
  simp [newVar, newRow]

theorem box_ok (H : WR G ρ h w) {v v' : Value} (hv : ren ρ v = some v') (t : TypeId) {o : Oper}
    (hrun : (execOp e' o).run P w = .ok (.value (.pointer (some ⟨w.heap.size, 0, none⟩))) { w with heap := w.heap.push (.cells v'.cells t) }) : OpAt P G ρ h w e' o (aalloc h t v).1 (aalloc h t v).2 := by
  obtain ⟨h1, h2⟩ := push_row H (ren_cells ρ v v' hv) t
  exact ⟨_, .pointer (some ⟨w.heap.size, 0, none⟩), _, h1, h2, by simp [aalloc, ren, ren_new], .inl hrun⟩

/-! store -/
def astore (P : Program) (h : AH) (t : TypeId) (a : Addr) (v : Value) : Option AH :=
  match h.get a.block with
  | some (.cells c el o ro) =>
    let vs := v.cells.toList
    if sizeT P t = some vs.length ∧ a.off + vs.length ≤ c.length ∧ ro = false ∧ vs.all (·.oneCell') then some (h.put a.block (some (.cells (lspl c a.off vs) el o ro))) else none
  | _ => none

theorem renL_all {p : Value → Bool} (hp : ∀ v v', ren ρ v = some v' → p v = true → p v' = true) : ∀ {l l' : List Value}, renL ρ l = some l' → l.all p = true → ∀ v ∈ l', p v = true
  | [], l', h, _, v, hv => by simp [renL] at h; subst h; cases hv
  | x :: l, l', h, ha, v, hv => by
    obtain ⟨x', l'', h1, h2, rfl⟩ := renL_cons.1 h
    simp only [List.all_cons, Bool.and_eq_true] at ha
    rcases List.mem_cons.1 hv with rfl | hv
    · exact hp _ _ h1 ha.1
    · exact renL_all hp h2 ha.2 v hv

/-- Cells of one block are written. -/
theorem stores_ok (P : Program) (H : WR G ρ h w) {a b : Addr} {c : List Value} {el : TypeId} {o : Option Nat} (hg : h.get a.block = some (.cells c el o false)) (hb : renA ρ a = some b) {vs vs' : List Value} (hv : renL ρ vs = some vs') (hle : a.off + vs.length ≤ c.length)
    (h1 : vs.all (·.oneCell') = true) : ∃ w', (storeCells b vs').run P w = .ok () w' ∧ WR G ρ (h.put a.block (some (.cells (lspl c a.off vs) el o false))) w' ∧ Ext ρ h w ρ (h.put a.block (some (.cells (lspl c a.off vs) el o false))) w' := by
  obtain ⟨hs, hbf, hblk⟩ := renA_form hb
  obtain ⟨b', x, q1, q2, q3⟩ := H.obj _ _ hg
  rw [hblk] at q1; cases q1
  cases x <;> simp only [ObjR] at q3
  rename_i arr t' fz
  obtain ⟨ht, ⟨c', tail, r1, r2, r3⟩, r4, r5, r6⟩ := q3
  replace ht := ht.resolve_left (by simp)
  subst ht
  have hlen := renL_length hv
  have hclen := renL_length r2
  have hal : arr.size = c'.length + tail.length := by
    have := congrArg List.length r1
    simpa using this
  have hrun := run_stores P vs' a.off 0 arr w q2 (by omega) r4 (renL_all (fun v v' => oneCell_ren v v') hv h1)
  rw [← hbf] at hrun
  refine ⟨_, hrun, ?_, ?_⟩
  · refine H.set hg hblk rfl ?_
    simp only [ObjR]
    refine ⟨.inr trivial, ⟨lspl c' a.off vs', tail, ?_, lspl_ren _ hv r2, r3⟩, by simpa [spl_size] using r4, r5, by simpa [spl_size] using r6⟩
    simp only [Nat.add_zero]
    rw [spl_toList, r1, lspl_append _ _ _ _ (by omega)]
  · exact Ext.set H hg rfl hblk rfl rfl rfl rfl

theorem store_ok (H : WR G ρ h w) {t : TypeId} {a b : Addr} {v v' : Value} {h' : AH} (ha : astore P h t a v = some h') (hb : renA ρ a = some b) (hv : ren ρ v = some v') :
    ∃ w', (storeVar t b v').run P w = .ok () w' ∧ WR G ρ h' w' ∧ Ext ρ h w ρ h' w' := by
  unfold astore at ha
  split at ha
  case h_2 => cases ha
  rename_i c el o ro hg
  dsimp only at ha
  split at ha
  case isFalse => cases ha
  rename_i hcond
  obtain ⟨k1, k2, rfl, k4⟩ := hcond
  cases ha
  have hc := ren_cells ρ v v' hv
  obtain ⟨w', r1, r2, r3⟩ := stores_ok P H hg hb (renArr_iff.1 hc) k2 k4
  refine ⟨w', ?_, r2, r3⟩
  have hsz := renArr_size hc
  have hs : v'.cells.size = v.cells.toList.length := by simpa using hsz
  simp only [storeVar, Sem.run_bind, run_sizeOf k1, Result.andThen_ok, hs, ne_eq, not_true_eq_false, if_false]
  exact r1

/-! string iterators -/
theorem range_ok (H : WR G ρ h w) {t : TypeId} {s : ByteArray} (hu : P.underlying t = some .string) {o : Oper} {x : Operand} (ho : o.op = .range t x) (hx : e' x = .string s) :
    OpAt P G ρ h w e' o (.pointer (some ⟨h.next, 0, none⟩)) (h.push (.iter s 0)) := by
  refine ⟨ρ.bind h.next w.heap.size none, .pointer (some ⟨w.heap.size, 0, none⟩), { w with heap := w.heap.push (.stringIter s 0) }, H.alloc _ _ none rfl ⟨rfl, rfl⟩, Ext.alloc H _ _ none rfl rfl rfl rfl, by simp [ren, ren_new], .inl ?_⟩
  simp [execOp, ho, hx, Instr.range, run_underlying hu]

def anext (h : AH) (v : Value) : Option (Value × AH) :=
  match v with
  | .pointer (some ⟨r, 0, _⟩) => match h.get r with
    | some (.iter s pos) =>
      if pos < s.size then
        match Utf8.decode s pos with
        | (c, width) => some (.tuple #[.bool true, .int .i64 pos, .int .i32 c], h.put r (some (.iter s (pos + width))))
      else some (.tuple #[.bool false], h)
    | _ => none
  | _ => none

theorem next_ok (H : WR G ρ h w) {v v' : Value} {r : Value × AH} (hn : anext h v = some r) (hv : ren ρ v = some v') {o : Oper} {x : Operand} (ho : o.op = .next x true) (hx : e' x = v') : OpAt P G ρ h w e' o r.1 r.2 := by
  unfold anext at hn
  split at hn
  case h_2 => cases hn
  rename_i r0 sp
  obtain ⟨b, hb, hv'⟩ := ren_ptr hv
  obtain ⟨hs, hbf, hblk⟩ := renA_form hb
  simp only at hs hbf hblk
  split at hn
  case h_2 => cases hn
  rename_i s pos hg
  obtain ⟨b', y, q1, q2, q3⟩ := H.obj _ _ hg
  rw [hblk] at q1; cases q1
  cases y <;> simp only [ObjR] at q3
  obtain ⟨rfl, rfl⟩ := q3
  rename_i s pos
  have hgo : (getObj b.block).run P w = .ok (.stringIter s pos) w := by simp [getObj, Sem.run, q2]
  split at hn
  · rename_i hlt
    rw [hbf] at hv'
    have hrun : (execOp e' o).run P w = ((setObj b.block (.stringIter s (pos + (Utf8.decode s pos).2))).run P w).andThen fun _ w1 => .ok (.value (.tuple #[.bool true, .int .i64 pos, .int .i32 (Utf8.decode s pos).1])) w1 := by
      simp only [execOp, ho, hx, hv', Instr.next, Sem.run_bind, hgo, Result.andThen_ok, hlt, if_true]
      simp only [setObj, Sem.run, q2, Result.andThen_ok]
      rfl
    generalize Utf8.decode s pos = d at hn hrun
    obtain ⟨c, wd⟩ := d
    cases hn
    have hset : (setObj b.block (.stringIter s (pos + wd))).run P w = .ok () { w with heap := w.heap.setIfInBounds b.block (.stringIter s (pos + wd)) } := by simp [setObj, Sem.run, q2]
    rw [hset] at hrun
    exact ⟨ρ, .tuple #[.bool true, .int .i64 pos, .int .i32 c], { w with heap := w.heap.setIfInBounds b.block (.stringIter s (pos + wd)) }, H.set hg hblk rfl ⟨rfl, rfl⟩, Ext.set H hg rfl hblk rfl rfl rfl rfl, by simp [ren, renArr, renL], .inl hrun⟩
  · rename_i hlt
    cases hn
    refine ⟨ρ, .tuple #[.bool false], w, H, Ext.refl _ _ _, by simp [ren, renArr, renL], .inl ?_⟩
    rw [hbf] at hv'
    simp only [execOp, ho, hx, hv', Instr.next, Sem.run_bind, hgo, Result.andThen_ok, hlt, if_false]
    rfl
end
end Go.AE
