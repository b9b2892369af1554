import Derived.Test.YtjbflfbhfnkmlaaGreatDoorLD
import Derived.KernelRfl
import Derived.Test.YtjbflfbhfnkmlaaGreatDoorRows
set_option linter.unusedVariables false
set_option linter.unusedSimpArgs false
namespace Go.Proofs.YtjbflfbhfnkmlaaGreatDoor.Cn
open Go Go.AE
namespace Seg
def subC : List Nat → Code → Code
  | [], c => c
  | n :: p, c => match c with
    | .seq a b => match n with | 0 => subC p a | _ => subC p b
    | .cond _ a b => match n with | 0 => subC p a | _ => subC p b
    | .block _ a => subC p a
    | .loop a => subC p a
    | .scope a => subC p a
    | .rangeFunc _ _ a b => match n with | 0 => subC p a | _ => subC p b
    | c => c
def cd (f : Func) (p : List Nat) : Code := subC p (f.body.getD .skip)
def rg (f : Func) (p : List Nat) : Array Oper := match cd f p with
  | .region _ ops _ => ops
  | _ => #[]
def bts (l : List Nat) : ByteArray := ⟨(l.map UInt8.ofNat).toArray⟩
def str (l : List Nat) : Value := .string (bts l)
def un (n : Nat) (l : List Value) : List Value := List.replicate n undef ++ l
def dvals : DataW Unit → List Value
  | .agg l => l.map fun | .lit l => l.value | _ => undef
  | _ => []
end Seg
open Seg
def errVal : Value := .iface 223 (.agg #[.pointer (some ⟨4, 156, none⟩)])
noncomputable def gob0 : AObj := .cells [errVal] 0 none true
noncomputable def gob1 : AObj := .cells (dvals Rows.laid_internal_strconv_uint64pow10) 0 none true
noncomputable def gob2 : AObj := .cells (dvals Rows.laid_math_bits_deBruijn32tab) 0 none true
noncomputable def gob3 : AObj := .cells (dvals Rows.laid_math_bits_deBruijn64tab) 0 none true
def errOk (h : AH) : Bool := match h.get 0 with
  | some (.cells [x] _ _ _) => veq x errVal
  | _ => false
noncomputable def asHook : FuncId → Array Value → AH → Option (Value × AH) := fun f args h =>
  bif Nat.beq f 144 then match args.toList with
    | [.iface t (.agg c), .iface t' (.pointer (some a))] => match c.toList with
      | [.int k n] => bif Nat.beq t 159 && (Nat.beq t' 161 && errOk h) then (astore Tryz.prog h 159 a (.agg #[.int k n])).map fun h' => (.bool true, h') else none
      | _ => none
    | _ => none
  else none
noncomputable def gl : List (Nat × AObj) := [(0, gob0), (1, gob1), (2, gob2), (3, gob3)]
noncomputable def h0 : AH := mkH 5 gl
end Go.Proofs.YtjbflfbhfnkmlaaGreatDoor.Cn
