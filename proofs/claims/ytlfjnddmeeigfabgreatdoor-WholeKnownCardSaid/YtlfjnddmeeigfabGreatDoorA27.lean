import Derived.Test.YtlfjnddmeeigfabGreatDoorA26
namespace Go.AE
open Go

/-- A heap out of a list. -/
def mkH (next : Nat) (l : List (Nat × AObj)) : AH := l.foldl (fun h x => h.put x.1 (some x.2)) { next, m := .lf }

/-- What is looked at of a state. -/
def look (ids : List Nat) (s : AS) : Frame × List Frame × Nat × List (Option AObj) := (s.fr, s.cs, s.h.next, ids.map s.h.get)

theorem mkH_next (next : Nat) : ∀ (l : List (Nat × AObj)) (h : AH), h.next = next → (l.foldl (fun h x => h.put x.1 (some x.2)) h).next = next
  | [], _h, e => e
  | x :: l, h, e => mkH_next next l (h.put x.1 (some x.2)) e

theorem mkH_get : ∀ (l : List (Nat × AObj)) (h : AH) (i : Nat) (o : AObj), (l.foldl (fun h x => h.put x.1 (some x.2)) h).get i = some o → (i, o) ∈ l ∨ h.get i = some o
  | [], h, i, o, e => .inr e
  | x :: l, h, i, o, e => by
    rcases mkH_get l (h.put x.1 (some x.2)) i o e with q | q
    · exact .inl (List.mem_cons_of_mem _ q)
    · rw [AH.get_put] at q
      split at q
      · rename_i hi
        cases q
        exact .inl (by rw [hi]; exact List.mem_cons_self ..)
      · exact .inr q

section
variable {P : Program} {G : Nat} {ρ : Rho} {h : AH} {w : World} {cs cs0 : List Frame}

/-- A part of the heap is forgotten. -/
theorem WR.sub (H : WR G ρ h w) {h' : AH} (hn : h'.next = h.next) (hs : ∀ i o, h'.get i = some o → h.get i = some o) : WR G ρ h' w :=
  ⟨fun i o e => H.obj i o (hs i o e), fun i hi => H.fresh i (by omega), fun i j o p b e1 e2 => H.inj i j o p b (hs _ _ e1) (hs _ _ e2), H.glob, by rw [hn]; exact H.gp⟩

theorem Ext.sub {ρ0 : Rho} {h0 : AH} {w0 : World} (E : Ext ρ0 h0 w0 ρ h w) {h' : AH} (hn : h'.next = h.next) (hs : ∀ i o, h'.get i = some o → h.get i = some o) : Ext ρ0 h0 w0 ρ h' w :=
  ⟨E.le, E.low, by rw [hn]; exact E.next, E.size, E.pres, fun b hb hw => E.shrink b hb (let ⟨i, o, e1, e2, e3⟩ := hw; ⟨i, o, hs i o e1, e2, e3⟩), E.tape, E.os, E.output⟩

/-- A stretch of the run, of which the end is looked at. -/
theorem seg_ok {hk : FuncId → Array Value → AH → Option (Value × AH)} (hhk : NestOK P G hk) {draw : Array Oper → Array Value → AH → Option (Array Value × AH)} (hdraw : DrawOK P G draw) {n : Nat} {s : AS} {fr1 : Frame} {cs1 : List Frame} {next : Nat} {l : List (Nat × AObj)}
    (hi : (iter (astep P G hk draw) n s).map (look (l.map (·.1))) = some (fr1, cs1, next, l.map fun x => some x.2)) {ρ0 : Rho} {s0 : AS} {fr0 : Frame} {cr : List Frame} {w0 : World}
    (H : StepTo P G ρ0 s0 s fr0 cr cs0 w0) : StepTo P G ρ0 s0 ⟨fr1, cs1, mkH next l⟩ fr0 cr cs0 w0 := by
  obtain ⟨ρ1, fa, ca, wa, H1, E1, S1⟩ := H
  obtain ⟨s', hs, hl⟩ := Option.map_eq_some_iff.1 hi
  obtain ⟨ρ2, fb, cb, wb, H2, E2, S2⟩ := iter_ok (cs0 := cs0) hhk hdraw n H1 hs
  simp only [look, Prod.mk.injEq] at hl
  obtain ⟨rfl, rfl, rfl, hids⟩ := hl
  have hsub : ∀ i o, (mkH s'.h.next l).get i = some o → s'.h.get i = some o := fun i o e => by
    rcases mkH_get l _ i o e with q | q
    · obtain ⟨j, hj, e⟩ := List.mem_iff_getElem.1 q
      have := congrArg (fun (m : List (Option AObj)) => m[j]?) hids
      simp [List.getElem?_eq_getElem hj, e] at this
      exact this
    · simp [AH.get, T.get] at q
  have hnx : (mkH s'.h.next l).next = s'.h.next := mkH_next _ l _ rfl
  exact ⟨ρ2, fb, cb, wb, ⟨H2.fr, H2.cs, H2.w.sub hnx hsub⟩, (E1.trans E2).sub hnx hsub, S1.trans S2⟩

/-- A call out of its stretches. -/
theorem calls_of_segs {f : FuncId} {args args' : Array Value} {s : AS} {v : Value} {h' : AH} (_H : WR G ρ h w) (_ha : renArr ρ args = some args')
    (hs : ∀ cs0, StepTo P G ρ ⟨Frame.enter P f args .normal, [], h⟩ s (Frame.enter P f args' .normal) [] cs0 w) (hf : afinal P s = some (v, h')) (hfn : s.fr.fn = f) :
    Calls P f args' w fun e w' => ∃ ρ' v', e = .returned v' ∧ WR G ρ' h' w' ∧ Ext ρ h w ρ' h' w' ∧ ren ρ' v = some v' := by
  intro cs0
  obtain ⟨ρ', fr', cs', w', H', E', S'⟩ := hs cs0
  obtain ⟨rfl, rfl, v', h1, h2⟩ := final_ok H' hf
  refine ⟨.returned v', w', fr', ⟨ρ', v', rfl, H'.w, E', h1⟩, S', ?_, h2⟩
  rw [H'.fr.fn, hfn]

theorem start_ok {f : FuncId} {args args' : Array Value} (H : WR G ρ h w) (ha : renArr ρ args = some args') :
    StepTo P G ρ ⟨Frame.enter P f args .normal, [], h⟩ ⟨Frame.enter P f args .normal, [], h⟩ (Frame.enter P f args' .normal) [] cs0 w :=
  StepTo.refl ⟨enter_ren ha f .normal, trivial, H⟩
end
end Go.AE
