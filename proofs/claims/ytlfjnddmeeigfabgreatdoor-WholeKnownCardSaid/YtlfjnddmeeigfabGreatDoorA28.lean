import Derived.Test.YtlfjnddmeeigfabGreatDoorA27
namespace Go.AE
open Go

section
variable {P : Program} {G : Nat} {ρ : Rho} {h : AH} {w : World}

/-- The world grows by a block that the abstract heap knows nothing of. -/
theorem WR.grow (H : WR G ρ h w) (x : Obj) : WR G ρ h (w.alloc x) := by
  refine ⟨fun i o e => ?_, H.fresh, H.inj, H.glob, H.gp⟩
  obtain ⟨b, y, h1, h2, h3⟩ := H.obj i o e
  have hb := (Array.getElem?_eq_some_iff.1 h2).1
  exact ⟨b, y, h1, by simp only [World.alloc]; rw [Array.getElem?_push, if_neg (Nat.ne_of_lt hb), h2], h3⟩

theorem Ext.grow {ρ0 : Rho} {h0 : AH} {w0 : World} (E : Ext ρ0 h0 w0 ρ h w) (x : Obj) : Ext ρ0 h0 w0 ρ h (w.alloc x) :=
  ⟨E.le, E.low, E.next, by simp only [World.alloc, Array.size_push]; have := E.size; omega, fun b hb hn => by
    have hs := E.size
    simp only [World.alloc]
    rw [Array.getElem?_push, if_neg (by omega)]
    exact E.pres b hb hn, E.shrink, E.tape, E.os, E.output⟩

/-- A cell of a block that is known. -/
theorem cell_of (H : WR G ρ h w) {a b : Addr} {c : List Value} {el : TypeId} {o : Option Nat} {ro : Bool} (hg : h.get a.block = some (.cells c el o ro)) (hb : renA ρ a = some b) (hlt : a.off < c.length) : ∃ old, w.cell? b = some old ∧ w.frozen? b = false := by
  obtain ⟨hs, hbf, hblk⟩ := renA_form hb
  obtain ⟨b', x, q1, q2, q3⟩ := H.obj _ _ hg
  rw [hblk] at q1; cases q1
  cases x <;> simp only [ObjR] at q3
  rename_i arr t' fz
  obtain ⟨_, ⟨c', tail, r1, r2, _⟩, r4, _, _⟩ := q3
  have hlen := renL_length r2
  have hal : arr.size = c'.length + tail.length := by
    have := congrArg List.length r1
    simpa using this
  have hlt' : a.off < arr.size := by omega
  refine ⟨arr[a.off], ?_, ?_⟩
  · rw [hbf]
    simp [World.cell?, q2, hlt']
  · rw [hbf]
    obtain ⟨lo, hi⟩ := fz
    simp only [World.frozen?, q2]
    rcases r4 with r4 | r4
    · cases r4; simp
    · simp only at r4
      have : ¬ lo ≤ a.off := by omega
      simp [this]
end
end Go.AE
