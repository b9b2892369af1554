import Derived.Test.YtjbflfbhfnkmlaaGreatDoorLF
import Derived.Test.YtjbflfbhfnkmlaaGreatDoorLD
import Derived.Test.YtjbflfbhfnkmlaaGreatDoorPN1
import Derived.KernelRfl
import Derived.Test.YtjbflfbhfnkmlaaGreatDoorRows
set_option linter.unusedVariables false
set_option linter.unusedSimpArgs false
namespace Go.Proofs.YtjbflfbhfnkmlaaGreatDoor
open Go Go.AE
namespace Seg
def subC : List Nat → Code → Code
  | [], c => c
  | n :: p, c => match c with
    | .seq a b => match n with | 0 => subC p a | _ => subC p b
    | .cond _ a b => match n with | 0 => subC p a | _ => subC p b
    | .block _ a => subC p a
    | .loop a => subC p a
    | .scope a => subC p a
    | .rangeFunc _ _ a b => match n with | 0 => subC p a | _ => subC p b
    | c => c
def cd (f : Func) (p : List Nat) : Code := subC p (f.body.getD .skip)
def rg (f : Func) (p : List Nat) : Array Oper := match cd f p with
  | .region _ ops _ => ops
  | _ => #[]
def bts (l : List Nat) : ByteArray := ⟨(l.map UInt8.ofNat).toArray⟩
def J (j : List Value) (i : Nat) : Value := j.getD i undef
def jj (j : List Value) : Nat → Nat → List Value → List Value
  | _, 0, t => t
  | a, n + 1, t => J j a :: jj j (a + 1) n t
def FixJ (τ : Nat → Nat) (j : List Value) : Prop := mvL τ j = j
theorem mvL_getD (τ : Nat → Nat) : ∀ (l : List Value) (i : Nat), (mvL τ l).getD i undef = mv τ (l.getD i undef)
  | [], i => by cases i <;> rfl
  | v :: l, 0 => rfl
  | v :: l, i + 1 => mvL_getD τ l i
theorem J_mv (τ : Nat → Nat) {j : List Value} (h : FixJ τ j) (i : Nat) : mv τ (J j i) = J j i := by
  have := mvL_getD τ j i
  rw [show mvL τ j = j from h] at this
  exact this.symm
end Seg
abbrev cU (xs : List Nat) : AObj := .cells (ns .u32 xs) 121 none false
abbrev sl (b n c : Nat) : Value := .slice (some ⟨b, 0, none⟩) n c
abbrev pt (b : Nat) : Value := .pointer (some ⟨b, 0, none⟩)
noncomputable def gob1 : AObj := .cells (Lib.pow10Tab.map fun z => Value.int .u64 z) 0 none true
theorem gob1_flat : flat gob1 = true := by kernel_rfl
noncomputable abbrev hk0 : FuncId → Array Value → AH → Option (Value × AH) := noHook
noncomputable abbrev dr0 := adrawAll Tryz.prog 5 (noHook)
theorem hk0_ok : NestOK Tryz.prog 5 hk0 := noHook_ok
theorem hmix_ok : Tryz.prog.follows .mixedOrders = true := by kernel_rfl
theorem dr0_ok : DrawOK Tryz.prog 5 dr0 := draw_ok hmix_ok noHook_ok
theorem kr {α : Sort _} {a b : α} (h : a = b := by kernel_rfl) : a = b := h
noncomputable abbrev Ent (f : FuncId) (a : Array Value) (n : Nat) (l : List (Nat × AObj)) : AS := ⟨Frame.enter Tryz.prog f a .normal, [], mkH n l⟩
abbrev cI (xs : List Nat) (o : Option Nat) : AObj := .cells (ns .i64 xs) 3 o false
abbrev GT := Gets Tryz.prog 5
abbrev CT := CSp Tryz.prog 5
abbrev FT := FSp Tryz.prog 5
theorem sR {sc : List (Nat × Ev)} {s : AS} {fr1 : Frame} {next : Nat} {l : List (Nat × AObj)} {p : Prop}
    (h : (srun Tryz.prog 5 hk0 dr0 sc s).map (fun r => (Go.AE.look (l.map (·.1)) r.1, r.2)) = some ((fr1, [], next, l.map fun x => some x.2), p)) (hp : p) : GT s ⟨fr1, [], mkH next l⟩ := seg_reach hmix_ok hk0_ok dr0_ok h hp
theorem sF {sc : List (Nat × Ev)} {s : AS} {f : FuncId} {args : Array Value} {h0 : AH} {v : Value} {next : Nat} {l : List (Nat × AObj)} {p : Prop}
    (h : (srun Tryz.prog 5 hk0 dr0 sc s).bind (fun r => (Go.AE.fin Tryz.prog (l.map (·.1)) r.1).map fun q => (q, r.2)) = some ((v, f, next, l.map fun x => some x.2), p)) (hp : p) (hr : GT ⟨Frame.enter Tryz.prog f args .normal, [], h0⟩ s) : CT f args h0 v (mkH next l) := seg_fin hmix_ok hk0_ok dr0_ok h hp hr
end Go.Proofs.YtjbflfbhfnkmlaaGreatDoor
