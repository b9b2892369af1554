import Derived.Test.YtjbflfbhfnkmlaaGreatDoorLF
set_option linter.unusedVariables false
set_option linter.unusedSimpArgs false
namespace Go.AE
open Go
theorem pushAll_same : ∀ (l : List AObj) (a b : AH), a.next = b.next → (∀ i, a.get i = b.get i) → (pushAll a l).next = (pushAll b l).next ∧ ∀ i, (pushAll a l).get i = (pushAll b l).get i
  | [], _, _, h1, h2 => ⟨h1, h2⟩
  | o :: l, a, b, h1, h2 => pushAll_same l (a.push o) (b.push o) (by rw [AH.next_push, AH.next_push, h1]) (fun i => by rw [AH.get_push, AH.get_push, h1, h2])
theorem fsp_moreN {P : Program} {G : Nat} {f : FuncId} {args : Array Value} {n : Nat} {v : Value} {L gl : List (Nat × AObj)} {news : List AObj} (hsub : ∀ x ∈ L, x ∈ gl)
    (S : FSp P G f args n L v (L.map fun x => (x.1, some x.2)) news) : FSp P G f args n gl v (gl.map fun x => (x.1, some x.2)) news := by
  intro h hn hh ρ w args' HW hargs
  have hL : ∀ x ∈ L, h.get x.1 = some x.2 := fun x hx => hh x (hsub x hx)
  refine (S h hn hL ρ w args' HW hargs).mono ?_
  rintro e w' ⟨ρ', v', rfl, W', E', hr⟩
  have key := pushAll_same news (putAll h (gl.map fun x => (x.1, some x.2))) (putAll h (L.map fun x => (x.1, some x.2))) (by rw [(putAll_same hh 0).2, (putAll_same hL 0).2]) (fun i => by rw [(putAll_same hh i).1, (putAll_same hL i).1])
  exact ⟨ρ', v', rfl, W'.sub key.1 (fun i o e => by rw [← key.2 i]; exact e), E'.sub key.1 (fun i o e => by rw [← key.2 i]; exact e), hr⟩
end Go.AE
