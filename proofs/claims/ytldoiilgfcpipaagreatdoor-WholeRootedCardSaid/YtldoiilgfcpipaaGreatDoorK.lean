import Derived.Test.YtldoiilgfcpipaaGreatDoorLE
import Derived.Test.YtldoiilgfcpipaaGreatDoorLC
import Derived.Test.YtldoiilgfcpipaaGreatDoorPN1
import Derived.KernelRfl
import Derived.Test.YtldoiilgfcpipaaGreatDoorRows
set_option linter.unusedVariables false
set_option linter.unusedSimpArgs false
namespace Go.Proofs.YtldoiilgfcpipaaGreatDoor
open Go Go.AE
namespace Seg
def subC:List Nat→Code→Code
 |[],c=>c
 |n::p,c=>match c with
  | .seq a b=>match n with|0=>subC p a|_=>subC p b
  | .cond _ a b=>match n with|0=>subC p a|_=>subC p b
  | .block _ a=>subC p a
  | .loop a=>subC p a
  | .scope a=>subC p a
  | .rangeFunc _ _ a b=>match n with|0=>subC p a|_=>subC p b
  |c=>c
def cd(f:Func)(p:List Nat):Code:=subC p (f.body.getD .skip)
def rg(f:Func)(p:List Nat):Array Oper:=match cd f p with
 | .region _ ops _=>ops
 |_=> #[]
def bts(l:List Nat):ByteArray:=⟨(l.map UInt8.ofNat).toArray⟩
def J(j:List Value)(i:Nat):Value:=j.getD i undef
def FixJ(τ:Nat→Nat)(j:List Value):Prop:=mvL τ j=j
theorem mvL_getD(τ:Nat→Nat): ∀(l:List Value) (i:Nat),(mvL τ l).getD i undef=mv τ (l.getD i undef)
 |[],i=>by cases i<;>rfl
 |v::l,0=>rfl
 |v::l,i+1=>mvL_getD τ l i
theorem J_mv(τ:Nat→Nat){j:List Value}(h:FixJ τ j)(i:Nat):mv τ (J j i)=J j i:=by
 have:=mvL_getD τ j i
 rw[show mvL τ j=j from h]at this
 exact this.symm
end Seg
abbrev cU(xs:List Nat):AObj:=.cells (ns .u32 xs) 121 none false
abbrev sl(b n c:Nat):Value:=.slice (some ⟨b,0,none⟩) n c
abbrev pt(b:Nat):Value:=.pointer (some ⟨b,0,none⟩)
noncomputable def gob1:AObj:=.cells (Lib.pow10Tab.map fun z=>Value.int .u64 z) 0 none true
theorem gob1_flat:flat gob1=true:=by kernel_rfl
abbrev smallsB:ByteArray:=Seg.bts [48,48,48,49,48,50,48,51,48,52,48,53,48,54,48,55,48,56,48,57,49,48,49,49,49,50,49,51,49,52,49,53,49,54,49,55,49,56,49,57,50,48,50,49,50,50,50,51,50,52,50,53,50,54,50,55,50,56,50,57,51,48,51,49,51,50,51,51,51,52,51,53,51,54,51,55,51,56,51,57,52,48,52,49,52,50,52,51,52,52,52,53,52,54,52,55,52,56,52,57,53,48,53,49,53,50,53,51,53,52,53,53,53,54,53,55,53,56,53,57,54,48,54,49,54,50,54,51,54,52,54,53,54,54,54,55,54,56,54,57,55,48,55,49,55,50,55,51,55,52,55,53,55,54,55,55,55,56,55,57,56,48,56,49,56,50,56,51,56,52,56,53,56,54,56,55,56,56,56,57,57,48,57,49,57,50,57,51,57,52,57,53,57,54,57,55,57,56,57,57]
theorem smallsB_eq:smallsB=⟨((List.range 100).flatMap fun k=>[UInt8.ofNat (48+k/10),UInt8.ofNat (48+k%10)]).toArray⟩:=by kernel_rfl
theorem smalls_hiB{k:Nat}(h:k<100):smallsB[k*2]? =some (UInt8.ofNat (48+k/10)):=by rw[smallsB_eq];exact smalls_hi k h
theorem smalls_loB{k:Nat}(h:k<100):smallsB[k*2+1]? =some (UInt8.ofNat (48+k%10)):=by rw[smallsB_eq];exact smalls_lo k h
noncomputable abbrev hk0:FuncId→Array Value→AH→Option (Value×AH):=noHook
noncomputable abbrev dr0:=adrawAll Tryz.prog 5 (noHook)
theorem hk0_ok:NestOK Tryz.prog 5 hk0:=noHook_ok
theorem hmix_ok:Tryz.prog.follows .mixedOrders=true:=by kernel_rfl
theorem dr0_ok:DrawOK Tryz.prog 5 dr0:=draw_ok hmix_ok noHook_ok
abbrev GT:=Gets Tryz.prog 5
abbrev CT:=CSp Tryz.prog 5
abbrev FT:=FSp Tryz.prog 5
theorem sR{sc:List (Nat×Ev)}{s:AS}{fr1:Frame}{next:Nat}{l:List (Nat×AObj)}{p:Prop}
  (h:(srun Tryz.prog 5 hk0 dr0 sc s).map (fun r=>(Go.AE.look (l.map (·.1)) r.1,r.2))=some ((fr1,[],next,l.map fun x=>some x.2),p)) (hp:p):GT s ⟨fr1,[],mkH next l⟩:=seg_reach hmix_ok hk0_ok dr0_ok h hp
theorem sF{sc:List (Nat×Ev)}{s:AS}{f:FuncId}{args:Array Value}{h0:AH}{v:Value}{next:Nat}{l:List (Nat×AObj)}{p:Prop}
  (h:(srun Tryz.prog 5 hk0 dr0 sc s).bind (fun r=>(Go.AE.fin Tryz.prog (l.map (·.1)) r.1).map fun q=>(q,r.2))=some ((v,f,next,l.map fun x=>some x.2),p)) (hp:p) (hr:GT ⟨Frame.enter Tryz.prog f args .normal,[],h0⟩ s):CT f args h0 v (mkH next l):=seg_fin hmix_ok hk0_ok dr0_ok h hp hr
end Go.Proofs.YtldoiilgfcpipaaGreatDoor
