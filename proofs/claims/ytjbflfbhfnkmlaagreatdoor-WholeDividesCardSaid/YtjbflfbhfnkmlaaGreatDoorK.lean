import Derived.Test.YtjbflfbhfnkmlaaGreatDoorLE
import Derived.Test.YtjbflfbhfnkmlaaGreatDoorLC
import Derived.Test.YtjbflfbhfnkmlaaGreatDoorPN1
import Derived.KernelRfl
import Derived.Test.YtjbflfbhfnkmlaaGreatDoorRows
set_option linter.unusedVariables false
set_option linter.unusedSimpArgs false
namespace Go.Proofs.YtjbflfbhfnkmlaaGreatDoor
open Go Go.AE
namespace Seg
def Ru:List Nat→Code→Code
 |[],c=>c
 |n::p,c=>match c with
  | .seq a b=>match n with|0=>Ru p a|_=>Ru p b
  | .cond _ a b=>match n with|0=>Ru p a|_=>Ru p b
  | .block _ a=>Ru p a
  | .loop a=>Ru p a
  | .scope a=>Ru p a
  | .rangeFunc _ _ a b=>match n with|0=>Ru p a|_=>Ru p b
  |c=>c
def cd(f:Func)(p:List Nat):Code:=Ru p (f.body.getD .skip)
def rg(f:Func)(p:List Nat):Array Oper:=match cd f p with
 | .region _ ops _=>ops
 |_=> #[]
def bts(l:List Nat):ByteArray:=⟨(l.map UInt8.ofNat).toArray⟩
def J(j:List Value)(i:Nat):Value:=j.getD i undef
def jj(j:List Value):Nat→Nat→List Value→List Value
 |_,0,t=>t
 |a,n+1,t=>J j a::jj j (a+1) n t
def Cm(τ:Nat→Nat)(j:List Value):Prop:=Qr τ j=j
theorem mvL_getD(τ:Nat→Nat): ∀(l:List Value) (i:Nat),(Qr τ l).getD i undef=mv τ (l.getD i undef)
 |[],i=>by cases i<;>rfl
 |v::l,0=>rfl
 |v::l,i+1=>mvL_getD τ l i
theorem Ap(τ:Nat→Nat){j:List Value}(h:Cm τ j)(i:Nat):mv τ (J j i)=J j i:=by
 have:=mvL_getD τ j i
 rw[show Qr τ j=j from h]at this
 exact this.symm
end Seg
abbrev cU(xs:List Nat):AObj:=.cells (ns .u32 xs) 121 none false
abbrev sl(b n c:Nat):Value:=.slice (some ⟨b,0,none⟩) n c
abbrev pt(b:Nat):Value:=.pointer (some ⟨b,0,none⟩)
noncomputable def gob1:AObj:=.cells (Lib.pow10Tab.map fun z=>Value.int .u64 z) 0 none true
theorem Gk:Bj gob1=true:=by kernel_rfl
abbrev Bf:ByteArray:=Seg.bts [48,48,48,49,48,50,48,51,48,52,48,53,48,54,48,55,48,56,48,57,49,48,49,49,49,50,49,51,49,52,49,53,49,54,49,55,49,56,49,57,50,48,50,49,50,50,50,51,50,52,50,53,50,54,50,55,50,56,50,57,51,48,51,49,51,50,51,51,51,52,51,53,51,54,51,55,51,56,51,57,52,48,52,49,52,50,52,51,52,52,52,53,52,54,52,55,52,56,52,57,53,48,53,49,53,50,53,51,53,52,53,53,53,54,53,55,53,56,53,57,54,48,54,49,54,50,54,51,54,52,54,53,54,54,54,55,54,56,54,57,55,48,55,49,55,50,55,51,55,52,55,53,55,54,55,55,55,56,55,57,56,48,56,49,56,50,56,51,56,52,56,53,56,54,56,55,56,56,56,57,57,48,57,49,57,50,57,51,57,52,57,53,57,54,57,55,57,56,57,57]
theorem smallsB_eq:Bf=⟨((List.range 100).flatMap fun k=>[UInt8.ofNat (48+k/10),UInt8.ofNat (48+k%10)]).toArray⟩:=by kernel_rfl
theorem Bu{k:Nat}(h:k<100):Bf[k*2]? =some (UInt8.ofNat (48+k/10)):=by rw[smallsB_eq];exact smalls_hi k h
theorem Bv{k:Nat}(h:k<100):Bf[k*2+1]? =some (UInt8.ofNat (48+k%10)):=by rw[smallsB_eq];exact smalls_lo k h
noncomputable abbrev hk0:FuncId→Array Value→AH→Option (Value×AH):=Ub
noncomputable abbrev dr0:=Kh Tryz.prog 5 (Ub)
theorem hk0_ok:Dt Tryz.prog 5 hk0:=Kq
theorem hmix_ok:Tryz.prog.follows .mixedOrders=true:=by kernel_rfl
theorem dr0_ok:Ky Tryz.prog 5 dr0:=draw_ok hmix_ok Kq
theorem kr{α:Sort _}{a b:α}(h:a=b:=by kernel_rfl):a=b:=h
noncomputable abbrev Ca(f:FuncId)(a:Array Value)(n:Nat)(l:List (Nat×AObj)):AS:=⟨Frame.enter Tryz.prog f a .normal,[],Ac n l⟩
abbrev cI(xs:List Nat)(o:Option Nat):AObj:=.cells (ns .i64 xs) 3 o false
abbrev GT:=Gets Tryz.prog 5
abbrev CT:=CSp Tryz.prog 5
abbrev FT:=FSp Tryz.prog 5
theorem sR{sc:List (Nat×Ev)}{s:AS}{fr1:Frame}{next:Nat}{l:List (Nat×AObj)}{p:Prop}
  (h:(Aa5 Tryz.prog 5 hk0 dr0 sc s).map (fun r=>(Go.AE.look (l.map (·.1)) r.1,r.2))=some ((fr1,[],next,l.map fun x=>some x.2),p)) (hp:p):GT s ⟨fr1,[],Ac next l⟩:=seg_reach hmix_ok hk0_ok dr0_ok h hp
theorem sF{sc:List (Nat×Ev)}{s:AS}{f:FuncId}{args:Array Value}{h0:AH}{v:Value}{next:Nat}{l:List (Nat×AObj)}{p:Prop}
  (h:(Aa5 Tryz.prog 5 hk0 dr0 sc s).bind (fun r=>(Go.AE.fin Tryz.prog (l.map (·.1)) r.1).map fun q=>(q,r.2))=some ((v,f,next,l.map fun x=>some x.2),p)) (hp:p) (hr:GT ⟨Frame.enter Tryz.prog f args .normal,[],h0⟩ s):CT f args h0 v (Ac next l):=seg_fin hmix_ok hk0_ok dr0_ok h hp hr
end Go.Proofs.YtjbflfbhfnkmlaaGreatDoor
