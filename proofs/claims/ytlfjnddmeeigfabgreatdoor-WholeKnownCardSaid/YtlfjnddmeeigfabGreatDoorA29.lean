import Derived.Test.YtlfjnddmeeigfabGreatDoorA28
import Derived.OpenShut
import Derived.Conc.Holds
import Derived.Conc.LeavingOf
import Derived.LoneHanded
import Derived.Eval
import Derived.RunNT
import Derived.Lone
import Derived.Handed
namespace Go.AE
open Go

section
variable {P : Program} {w : World}

/-- The values that a listed table's datum spells. -/
def litV : DataW Unit → Value
  | .lit l => l.value
  | _ => undef

theorem trod_int {H : Type} {enc : TypeId × Value → H} {base : Nat} {spare : Nat → Bool} {held : Bool} {fuel : Nat} {t : TypeId} {k : IntKind} {cs : List Value} {x : DataW H × List MemPlace} (ht : P.underlying t = some (.int k))
    (h : DataW.trod enc P w base spare held fuel t cs = some x) : ∃ n, cs = [.int k n] ∧ x.1 = .lit (.int k n) := by
  cases fuel with
  | zero => simp [DataW.trod] at h
  | succ m =>
    unfold DataW.trod at h
    rw [ht] at h
    split at h <;> simp_all
    obtain ⟨⟨rfl, _⟩, rfl⟩ := h
    rfl

theorem drop_take_one {α : Type} : ∀ (cs : List α) (i : Nat) (v : α), (cs.drop i).take 1 = [v] → cs[i]? = some v
  | [], i, v, h => by simp at h
  | c :: cs, 0, v, h => by simp at h; simp [h]
  | c :: cs, i + 1, v, h => by
    have := drop_take_one cs i v (by simpa using h)
    simpa using this

/-- A table of integers: what it reads as tells its cells. -/
theorem table_cells {fuel : Nat} {t e : TypeId} {k : IntKind} {n : Nat} {cs : List Value} {ds : List (DataW Unit)} {p : List MemPlace} {base : Nat} {spare : Nat → Bool} {held : Bool} (ht : P.underlying t = some (.array n e)) (he : P.underlying e = some (.int k)) (hce : P.cellsOf e = 1) (hct : P.cellsOf t = n)
    (h : DataW.trod (fun _ => ()) P w base spare held fuel t cs = some (.agg ds, p)) : cs = ds.map litV := by
  obtain ⟨xs, m, _, hx, hlen, hxn, hget⟩ := DataW.trod_array ht h
  have hds : ds = xs.map (·.1) := by
    have := congrArg Prod.fst hx
    simpa using this
  subst hds
  rw [hct] at hlen
  refine List.ext_getElem? fun i => ?_
  rcases Nat.lt_or_ge i n with hi | hi
  · have h1 := hget i hi
    rw [hce, Nat.mul_one] at h1
    have hxi : xs[i]? = some xs[i] := List.getElem?_eq_getElem (by omega)
    rw [hxi] at h1
    obtain ⟨z, h2, h3⟩ := trod_int he h1
    rw [drop_take_one _ _ _ h2]
    simp [hxi, h3, litV, Lit.value]
  · rw [List.getElem?_eq_none (by omega), List.getElem?_eq_none (by simp; omega)]
end

section
variable {P : Program}

theorem runN_last : ∀ (n : Nat) (m m' : Machine), runN P n m = .next m' → runN P (n + 1) m = step P m'
  | 0, m, m', h => by
    simp only [runN] at h
    cases h
    simp only [runN]
    cases step P m <;> rfl
  | n + 1, m, m', h => by
    rw [runN] at h ⊢
    cases q : step P m with
    | next m1 => rw [q] at h; exact runN_last n m1 m' h
    | ended o w => rw [q] at h; cases h

/-- A call that returns, alone: a good run. -/
theorem good_of_calls {f : FuncId} {args : Array Value} {w : World} {Post : Value → World → Prop} (h : Calls P f args w fun e w' => ∃ v, e = .returned v ∧ Post v w') (hi : P.inits.idxOf? f = none) :
    ∃ M last o w' t', runNT P (M + 1) (Conc.solo (Conc.G (Frame.enter P f args .normal) []) w) #[] = (.ended o w', t') ∧ runN P M (Conc.solo (Conc.G (Frame.enter P f args .normal) []) w) = .next last ∧
      step P last = .ended o w' ∧ Conc.Good P Post last o w' t' := by
  obtain ⟨e, w', fr, ⟨v, rfl, hR⟩, hcomes, hfn, hleave⟩ := h []
  obtain ⟨n, hn⟩ := hcomes
  have hst : step P (lone fr [] w') = .ended (.done v) w' := step_leave_done hleave (by rw [hfn]; exact hi)
  have hn1 : runN P (n + 1) (lone (Frame.enter P f args .normal) [] w) = .ended (.done v) w' := by
    rw [runN_last n _ _ hn]
    exact hst
  refine ⟨n, lone fr [] w', .done v, w', (runNT P (n + 1) (lone (Frame.enter P f args .normal) [] w) #[]).2, Prod.ext (by rw [show Conc.solo (Conc.G (Frame.enter P f args .normal) []) w = lone (Frame.enter P f args .normal) [] w from rfl, runNT_fst, hn1]) rfl, hn, hst, v, rfl, hR, ?_, handedOver_of_lone hn, ⟨?_, rfl⟩, ?_⟩
  · intro said
    exact (no_race_of_lone (said := said) P n _ _ hn (by simp [lone]) rfl).2
  · intro g hg
    simp [lone] at hg
  · intro i g hg hi0
    exfalso
    have : i < 1 := by
      have := (Array.getElem?_eq_some_iff.1 hg).1
      simpa [lone] using this
    omega

/-- The row's condition with listed variables beside it. -/
theorem returnsInLeavingWide_of_change_and {H : Type} {enc : TypeId × Value → H} {a : Assume} {C : Checked} {os : Os} {f : FuncId} {fn : Func} {s : ChangeSpec} {conds : List PathCond} {apart fresh handsOn again : Bool} {X : World → Array Value → Prop}
    (hX : ∀ (w w' : World) (args : Array Value), w.heap = w'.heap → X w args → X w' args)
    (own : ownKnob C.prog.godebug = none) (started : os.Started) (noInit : C.prog.inits.idxOf? f = none) (hfn : C.prog.funcs[f]? = some fn)
    (witness : ∃ (w : World) (tape : Tape) (i : Input), w.os = os ∧ (w.forCall tape i).Shaped C.prog ∧ i.vars = [] ∧ Input.okWide C.prog (w.forCall tape i) .any w.heap.size f i ∧
      ((s.pre enc C.prog fn conds apart (w.forCall tape i).memory i.args ∧ X (w.forCall tape i).memory i.args) ∧ sizedMet enc C.prog fn (OpenSpec.ofChange s) apart (w.forCall tape i).memory i.args) ∧ a.holds C.prog (lone (Frame.enter C.prog f i.args .normal) [] (w.forCall tape i)))
    (contract : ∀ (W : World) (base : Nat) (args : Array Value) (ds gs : List (DataW H)) (before : List MemPlace),
      (∀ (j : Nat) t v, fn.params[j]? = some t → args[j]? = some v → Value.okWide C.prog W .any base t v) →
      DataW.Whole enc C.prog fn.params.toList s.vars apart W args.toList ds gs before → X W args → W.ShapedOpen C.prog →
      Calls C.prog f args W fun e W' => ∃ v, e = .returned v ∧ s.post enc C.prog fn apart fresh handsOn again W args v W') :
    ReturnsInLeavingWide a C os f .any (fun w args => (s.pre enc C.prog fn conds apart w args ∧ X w args) ∧ sizedMet enc C.prog fn (OpenSpec.ofChange s) apart w args) (s.post enc C.prog fn apart fresh handsOn again) := by
  refine returnsInLeavingWide_of_good own started witness ?_
  intro w tape i _ hsh _ hok hpre hholds
  obtain ⟨_, _, _, fn', hfn', _, _, _, _, hval⟩ := hok
  have e : fn' = fn := Option.some.inj (hfn'.symm.trans hfn)
  subst e
  obtain ⟨⟨⟨ds, gs, before, hw, hc⟩, hx⟩, hz⟩ := hpre
  have hw' := DataW.Whole.of_heap (w' := w.forCall tape i) (by rfl) hw
  obtain ⟨M, last, o, w', t', h1, h2, h3, h4⟩ := good_of_calls (contract (w.forCall tape i) w.heap.size i.args ds gs before hval hw' (hX _ _ _ (by rfl) hx) hsh) noInit
  exact ⟨M, last, o, w', t', h1, h2, h3, h4.mono fun v hp => ChangeSpec.post_blind hp⟩
end
end Go.AE
