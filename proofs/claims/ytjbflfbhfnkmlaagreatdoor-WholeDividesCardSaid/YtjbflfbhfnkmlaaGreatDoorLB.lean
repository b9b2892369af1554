import Derived.Test.YtjbflfbhfnkmlaaGreatDoorLA
import Derived.Laws.MakeOwn
import Derived.Laws.BytesString
import Derived.Laws.BytesArg
import Derived.Maps.RangeRun
import Derived.Laws.Externs
import Derived.Lib.UnsafeStr
import Derived.Lib.Builder
import Derived.KernelRfl
import Derived.Defers
set_option linter.unusedVariables false
set_option linter.unusedSimpArgs false
namespace Go.AE
open Go
def Ts(P:Program)(h:AH)(t u:TypeId)(s x:Value):Option (Value×AH):=
 match P.underlying t,P.underlying u with
 |some (.slice el),some d=>match srcT d,P.info? el with
  |true,some i=>match i.zero,asrc h i.size x with
   |some z,some (n,news)=>
    if Aj z∧z.cells.size=i.size∧0<i.size then
     match s with
     | .slice none 0 0=>
       if n=0 then some (.slice none 0 0,h)
       else if n*i.bytes≤140737488355328∧n≤9223372036854775807 then some (.slice (some ⟨h.next,0,none⟩) n 0,h.push (.cells news el (some i.size) false)) else none
     | .slice (some a) len c=>
       if (len+n)*i.bytes≤140737488355328∧len+n≤9223372036854775807 then
        match h.get a.block with
        |some (.cells cs el' none ro)=>
         if len+n≤c then
          if a.off+len*i.size+news.length≤cs.length∧ro=false∧news.all (·.oneCell')∧a.spot=none then
           some (.slice (some a) (len+n) c,h.put a.block (some (.cells (Bq cs (a.off+len*i.size) news) el' none ro)))
          else none
         else match Cg h a (len*i.size) with
          |some olds=>some (.slice (some ⟨h.next,0,none⟩) (len+n) 0,h.push (.cells (olds++news) el (some i.size) false))
          |none=>none
        |some (.cells cs el' (some sz) ro)=>
         if Lf≤c then
          if len+n≤c-Lf then
           if a.off+len*i.size+news.length≤cs.length∧ro=false∧news.all (·.oneCell')∧a.spot=none then
            some (.slice (some a) (len+n) c,h.put a.block (some (.cells (Bq cs (a.off+len*i.size) news) el' (some sz) ro)))
           else none
          else match Cg h a (len*i.size) with
           |some olds=>some (.slice (some ⟨h.next,0,none⟩) (len+n) 0,h.push (.cells (olds++news) el (some i.size) false))
           |none=>none
         else if a.off=0∧c=0∧sz=i.size∧el'=el∧ro=false∧cs.length=len*i.size∧news.all (·.oneCell') then
          some (.slice (some ⟨h.next,0,none⟩) (len+n) 0,(h.put a.block none).push (.cells (cs++news) el (some i.size) false))
         else none
        |_=>none
       else none
     |_=>none
    else none
   |_,_=>none
  |_,_=>none
 |_,_=>none
section
variable {P:Program} {G:Nat} {ρ:Rho} {h:AH} {w:World} {e e':Operand→Value}
theorem grownCap_ge(w:World)(need old:Nat)(el:TypeId):need≤grownCap w need old el:=by
 simp only[grownCap,Question.cut];omega
theorem zeroCells_size(z:Array Value)(n:Nat):(Builtin.zeroCells z n).size=n*z.size:=by simp[Builtin.zeroCells]
theorem grow_ok(H:WR G ρ h w){el:TypeId}{i:TypeInfo}{z:Value}(hz:z.cells.size=i.size){need old:Nat}{cells cells':List Value}(hc:Bb ρ cells=some cells')(hlen:cells'.length=need*i.size):
  WR G (ρ.bind h.next w.heap.size (some (grownCap w need old el))) (h.push (.cells cells el (some i.size) false)) (w.drew.alloc (.cells (cells'.toArray++Builtin.zeroCells z.cells (grownCap w need old el-need)) el))∧
  Ext ρ h w (ρ.bind h.next w.heap.size (some (grownCap w need old el))) (h.push (.cells cells el (some i.size) false)) (w.drew.alloc (.cells (cells'.toArray++Builtin.zeroCells z.cells (grownCap w need old el-need)) el)):=by
 refine push_open H hc el _ (Builtin.zeroCells z.cells (grownCap w need old el-need)).toList (by simp) i.size _ ?_ (0,0) (.inl rfl) _ rfl rfl rfl rfl
 have hge:=grownCap_ge w need old el
 rw[Array.size_append,zeroCells_size,hz]
 simp only[List.size_toArray,hlen]
 rw[←Nat.add_mul]
 congr 1
 omega
theorem Se(ρ:Rho)(i b n C:Nat):Ay (ρ.bind i b (some C)) (.slice (some ⟨i,0,none⟩) n 0)=some (.slice (some ⟨b,0,none⟩) n C):=by
 have h0:Ta (ρ.bind i b (some C)) i 0=some C:=by
  rw[Uf (C:=C) (by simp[Rho.bind]) (by decide) (Nat.zero_le _)];rfl
 simp only[Ay,Za,Option.bind_some,h0]
 rfl
theorem Yi{a:Addr}(hs:a.spot=none)(j:Nat):a.add j=⟨a.block,a.off+j,none⟩:=by
 obtain⟨b,o,s⟩:=a
 simp only at hs
 subst hs
 exact Addr.add_lit b o j
def AppAt(P:Program)(G:Nat)(ρ:Rho)(h:AH)(w:World)(ts:Array TypeId)(ty:TypeId)(s' x':Value)(r:Value×AH):Prop:=
 ∃ρ' v' w',WR G ρ' r.2 w'∧Ext ρ h w ρ' r.2 w'∧Ay ρ' r.1=some v'∧(Builtin.append_ ts ty #[s',x']).run P w=.ok v' w'
theorem append_ok(H:WR G ρ h w){t u ty:TypeId}{s x s' x':Value}{r:Value×AH}(ha:Ts P h t u s x=some r)(hs:Ay ρ s=some s')(hx:Ay ρ x=some x'):AppAt P G ρ h w #[t,u] ty s' x' r:=by
 unfold Ts at ha
 split at ha
 case h_2=>cases ha
 rename_i el d ht hu
 split at ha
 case h_2=>cases ha
 rename_i i hd hi
 split at ha
 case h_2=>cases ha
 rename_i z n news hiz hsrc
 split at ha
 case isFalse=>cases ha
 rename_i hzz
 obtain⟨hzc,hzs,hsz⟩:=hzz
 obtain⟨news',r1,r2,r3,r4⟩:=src_ok H hsrc hx
 have hsT:Er P el=some i.size:=by simp[Er,hi]
 have hfull: ∀w':World,w'.heap=w.heap→(Builtin.firstCells i.size n x').run P w'=.ok news'.toArray w':=fun w' hw'=>by
  have:=r4 n (Nat.le_refl _) w' hw'
  rwa [←r2,List.take_length]at this
 split at ha
 ·
  simp[Ay]at hs;subst hs
  split at ha
  ·rename_i hn;subst hn
   cases ha
   have:=r4 0 (Nat.le_refl _) w rfl
   exact⟨ρ,.slice none 0 0,w,H,Ext.refl _ _ _,by simp[Ay],Zc ht hu hd hsT r3 (by simpa using this) (Nat.le_refl _)⟩
  ·rename_i hn
   split at ha
   case isFalse=>cases ha
   rename_i hb
   cases ha
   have hrun:=Lb (ty:=ty) (w:=w) (base:=none) (sLen:=0) (sCap:=0) (olds:=[]) ht hu hd hi hiz rfl r3 (by simp[Builtin.firstCells]) (hfull w.drew rfl) (by omega) (by omega) (by simpa using hb.1)
   obtain⟨g1,g2⟩:=grow_ok (el:=el) (old:=0) (z:=z) H hzs r1 (need:=n) r2
   refine⟨_,_,_,g1,g2,Se _ _ _ _ _,?_⟩
   rw[hrun]
   simp
 ·rename_i a len c
  split at ha
  case isFalse=>cases ha
  rename_i hb
  obtain⟨b,c',q1,q2,rfl⟩:=De hs
  obtain⟨hsp,hbf,hblk⟩:=Sq q1
  split at ha
  ·rename_i cs el' ro hg
   have hop:h.opn a.block=some none:=by simp[AH.opn,hg]
   have hc':=renC_closed H hop q2
   subst hc'
   split at ha
   ·rename_i hle
    split at ha
    case isFalse=>cases ha
    rename_i hcond
    obtain⟨k1,rfl,k3,k4⟩:=hcond
    cases ha
    have hadd:=Mm q1 (len*i.size)
    have hab:(a.add (len*i.size)).block=a.block:=Nr _ _
    have hao:(a.add (len*i.size)).off=a.off+len*i.size:=by rw[Yi k4]
    obtain⟨w',s1,s2,s3⟩:=Su P H (a:=a.add (len*i.size)) (by rw[hab];exact hg) hadd r1 (by rw[hao];exact k1) k3
    rw[hab,hao]at s2 s3
    refine⟨ρ,.slice (some b) (len+n) c',w',s2,s3,Lh H hop q1,?_⟩
    rw[Ry ht hu hd hsT r3 (hfull w rfl) hle,s1]
    rfl
   ·rename_i hnle
    split at ha
    case h_2=>cases ha
    rename_i olds hol
    cases ha
    obtain⟨olds',o1,o2,o3⟩:=Kg H hol q1
    have hfo:(Builtin.firstCells i.size len (.slice (some b) len c')).run P w.drew=.ok olds'.toArray w.drew:=run_firstCells_some w.drew i.size len b len c' olds' o2 (by simpa using o3)
    have hrun:=Lb (ty:=ty) (w:=w) (base:=some b) (sLen:=len) (sCap:=c') ht hu hd hi hiz rfl r3 hfo (hfull w.drew rfl) (by omega) hb.2 hb.1
    have hcat:Bb ρ (olds++news)=some (olds'++news'):=Gq.2 ⟨_,_,o1,r1,rfl⟩
    obtain⟨g1,g2⟩:=grow_ok (el:=el) (old:=c') (z:=z) H hzs hcat (need:=len+n) (by rw[List.length_append,o2,r2,Nat.add_mul])
    refine⟨_,_,_,g1,g2,Se _ _ _ _ _,?_⟩
    rw[hrun]
    simp
  ·rename_i cs el' sz ro hg
   split at ha
   ·
    rename_i hbig
    obtain⟨k,rfl⟩: ∃k,c=Lf+k:=⟨c-Lf,by omega⟩
    obtain⟨C,hC,_⟩:=open_cap H (sz:=sz) (L:=cs.length) (by simp[AH.ocap,hg]) q1
    have q2k:=q2
    rw[Qq hC]at q2k
    obtain rfl:k=c':=Option.some.inj q2k
    rw[Nat.add_sub_cancel_left]at ha
    split at ha
    ·rename_i hle
     split at ha
     case isFalse=>cases ha
     rename_i hcond
     obtain⟨k1,rfl,k3,k4⟩:=hcond
     cases ha
     have hadd:=Mm q1 (len*i.size)
     have hab:(a.add (len*i.size)).block=a.block:=Nr _ _
     have hao:(a.add (len*i.size)).off=a.off+len*i.size:=by rw[Yi k4]
     obtain⟨w',s1,s2,s3⟩:=Su P H (a:=a.add (len*i.size)) (by rw[hab];exact hg) hadd r1 (by rw[hao];exact k1) k3
     rw[hab,hao]at s2 s3
     refine⟨ρ,.slice (some b) (len+n) k,w',s2,s3,by simp only[Ay,q1,q2,Option.bind_some,Option.map_some],?_⟩
     rw[Ry ht hu hd hsT r3 (hfull w rfl) hle,s1]
     rfl
    ·rename_i hnle
     split at ha
     case h_2=>cases ha
     rename_i olds hol
     cases ha
     obtain⟨olds',o1,o2,o3⟩:=Kg H hol q1
     have hfo:(Builtin.firstCells i.size len (.slice (some b) len k)).run P w.drew=.ok olds'.toArray w.drew:=run_firstCells_some w.drew i.size len b len k olds' o2 (by simpa using o3)
     have hrun:=Lb (ty:=ty) (w:=w) (base:=some b) (sLen:=len) (sCap:=k) ht hu hd hi hiz rfl r3 hfo (hfull w.drew rfl) (by omega) hb.2 hb.1
     have hcat:Bb ρ (olds++news)=some (olds'++news'):=Gq.2 ⟨_,_,o1,r1,rfl⟩
     obtain⟨g1,g2⟩:=grow_ok (el:=el) (old:=k) (z:=z) H hzs hcat (need:=len+n) (by rw[List.length_append,o2,r2,Nat.add_mul])
     refine⟨_,_,_,g1,g2,Se _ _ _ _ _,?_⟩
     rw[hrun]
     simp
   split at ha
   case isFalse=>cases ha
   rename_i hcond
   obtain⟨k1,rfl,rfl,rfl,rfl,k6,k7⟩:=hcond
   cases ha
   obtain⟨b',y,p1,p2,p3⟩:=H.obj _ _ hg
   rw[hblk]at p1;cases p1
   cases y<;>simp only[ObjR]at p3
   rename_i arr t' fz
   obtain⟨p30,⟨c1,tail,p4,p5,_⟩,p6,_,p7⟩:=p3
   obtain rfl:=p30.resolve_left (by simp)
   obtain⟨C,hC,hsize⟩:=p7 _ rfl
   have hcC:c'=C:=by
    rw[Uf hC (by decide) (Nat.zero_le _)]at q2;simpa using q2.symm
   subst hcC
   have hc1:=Dj p5
   have hal:arr.size=c1.length+tail.length:=by
    have:=congrArg List.length p4
    simpa using this
   have hcat:Bb ρ (cs++news)=some (c1++news'):=Gq.2 ⟨_,_,p5,r1,rfl⟩
   by_cases hle:len+n≤c'
   ·
    have hmul:(len+n)*i.size≤c'*i.size:=Nat.mul_le_mul_right _ hle
    rw[Nat.add_mul]at hmul
    have hbd:b.off=0:=by rw[hbf];exact k1
    have hbsp:b.spot=none:=by rw[hbf]
    have hbs:b=⟨b.block,0,none⟩:=by
     obtain⟨b1,b2,b3⟩:=b
     simp only at hbd hbsp
     rw[hbd,hbsp]
    have hadd:b.add (len*i.size)=⟨b.block,len*i.size,none⟩:=by rw[Yi hbsp,hbd,Nat.zero_add]
    have hst:=Xv P news' (len*i.size) 0 arr w p2 (by omega) (p6.resolve_left (by simp)) (renL_all (fun v v'=>oneCell_ren v v') r1 k7)
    have hrun:=Ry (ty:=ty) (w:=w) (base:=b) (sLen:=len) (sCap:=c') ht hu hd hsT r3 (hfull w rfl) hle
    rw[hadd,hst]at hrun
    refine⟨ρ.bind h.next b.block (some c'),.slice (some b) (len+n) c',{w with heap:=w.heap.setIfInBounds b.block (.cells (spl arr (len*i.size+0) news') t' fz)},?_,?_,?_,hrun⟩
    ·refine H.move hg hblk rfl ?_
     have hle':=Rho.le_bind (H.fresh h.next (Nat.le_refl _)) b.block (some c')
     simp only[ObjR]
     refine⟨.inr trivial,⟨c1++news',tail.drop news'.length,?_,Ec hle' _ _ hcat,fun q=>by cases q⟩,by simpa [Xz] using p6,fun q=>(by cases q),fun s q=>⟨c',by simp[Rho.bind],by cases q;simpa [Xz] using hsize⟩⟩
     rw[Tp,p4,Nat.add_zero]
     have hk:len*i.size=c1.length:=by omega
     rw[hk]
     have key: ∀(vs tl:List Value) (pre:List Value),vs.length≤tl.length→Bq (pre++tl) pre.length vs=pre++vs++tl.drop vs.length:=by
      intro vs
      induction vs with
      |nil=>intro tl pre _;simp[Bq]
      |cons v vs ih=>
       intro tl pre hl
       cases tl with
       |nil=>simp at hl
       |cons x tl=>
        simp only[Bq]
        have e1:(pre++x::tl).set pre.length v=(pre++[v])++tl:=by simp
        rw[e1]
        have:=ih tl (pre++[v]) (by simpa using hl)
        rw[List.length_append]at this
        simp only[List.length_cons,List.length_nil,Nat.zero_add]at this
        rw[this]
        simp
     exact key news' tail c1 (by omega)
    ·exact Ext.move H hg rfl hblk rfl rfl rfl rfl
    ·rw[hbs];exact Se _ _ _ _ _
   ·
    have hdrop:=H.drop a.block
    have hfo:(Builtin.firstCells i.size len (.slice (some b) len c')).run P w.drew=.ok c1.toArray w.drew:=by
     refine run_firstCells_some w.drew i.size len b len c' c1 (by omega) fun j v hv=> ?_
     have hbd:b.off=0:=by rw[hbf];exact k1
     have hbsp:b.spot=none:=by rw[hbf]
     have hj:=(List.getElem?_eq_some_iff.1 hv).1
     have:arr[j]? =some v:=by
      have:arr.toList[j]? =some v:=by rw[p4,List.getElem?_append_left hj];exact hv
      simpa using this
     rw[Yi hbsp,hbd,Nat.zero_add]
     have hcell:(w.drew).heap[b.block]? =some (.cells arr t' fz):=p2
     simp[World.cell?,hcell,this]
    have hrun:=Lb (ty:=ty) (w:=w) (base:=some b) (sLen:=len) (sCap:=c') ht hu hd hi hiz rfl r3 hfo (hfull w.drew rfl) (by omega) hb.2 hb.1
    obtain⟨g1,g2⟩:=grow_ok (el:=t') (old:=c') (z:=z) hdrop hzs hcat (need:=len+n) (by rw[List.length_append,hc1,k6,r2,Nat.add_mul])
    refine⟨_,_,_,g1,(Ext.drop ρ h w a.block).trans g2,Se _ _ _ _ _,?_⟩
    rw[hrun]
    simp
  ·cases ha
 ·cases ha
end
end Go.AE
namespace Go.AE
open Go
def acopy(P:Program)(h:AH)(t:TypeId)(dst src:Value):Option (Value×AH):=
 match P.underlying t with
 |some (.slice el)=>match Er P el,dst with
  |some sz,.slice (some a) dLen _=>match asrc h sz src,h.get a.block with
   |some (m,news),some (.cells cs el' o ro)=>
    let vs:=news.take (Nat.min m dLen*sz)
    if a.off+vs.length≤cs.length∧ro=false∧vs.all (·.oneCell') then some (.int .i64 (Nat.min m dLen),h.put a.block (some (.cells (Bq cs a.off vs) el' o ro))) else none
   |_,_=>none
  |some sz,.slice none dLen _=>match asrc h sz src with
   |some (m,_)=>some (.int .i64 (Nat.min m dLen),h)
   |none=>none
  |_,_=>none
 |_=>none
def aclear(P:Program)(h:AH)(t:TypeId)(x:Value):Option (Value×AH):=
 match P.underlying t with
 |some (.slice el)=>match azero P el,x with
  |some z,.slice (some a) (n+1) _=>match h.get a.block with
   |some (.cells cs el' o ro)=>
    let vs:=(Builtin.zeroCells z.cells (n+1)).toList
    if a.off+vs.length≤cs.length∧ro=false∧vs.all (·.oneCell')∧As vs then some (.tuple #[],h.put a.block (some (.cells (Bq cs a.off vs) el' o ro))) else none
   |_=>none
  |some _,.slice _ 0 _=>some (.tuple #[],h)
  |_,_=>none
 |_=>none
def Ui(P:Program)(h:AH)(t:TypeId)(len:Nat)(parts:List (Nat×Value)):Option (Value×AH):=
 match P.underlying t with
 |some (.slice el)=>match Er P el,azero P el with
  |some sz,some z=>
   let base:Array Value:=(Array.range (len*sz)).map (z.cells[· %z.cells.size]!)
   if len*sz≤2^24∧len*sz≠0∧Df base then
    match Instr.fill (fun i=>some (i*sz,sz)) base parts with
    |some cells=>some (.slice (some ⟨h.next,0,none⟩) len len,h.push (.cells cells.toList el none false))
    |none=>none
   else none
  |_,_=>none
 |_=>none
def Qa(P:Program)(h:AH)(t:TypeId)(l c:Value):Option (Value×AH):=
 match P.underlying t,l,c with
 |some (.slice el),.int _ l,.int _ c=>match P.info? el with
  |some i=>match i.zero with
   |some z=>
    if 0≤l∧l≤c∧(i.bytes:Int)*c≤281474976710656∧c≤9223372036854775807∧Df (madeCells z.cells (c.toNat*i.size)) then
     some (.slice (some ⟨h.next,0,none⟩) l.toNat c.toNat,h.push (.cells (madeCells z.cells (c.toNat*i.size)).toList el none false))
    else none
   |none=>none
  |none=>none
 |_,_,_=>none
def u8? :Value→Option Int
 | .int .u8 n=>some n
 |_=>none
def Dk:List Value→Option (List Int)
 |[]=>some []
 |v::l=>(u8? v).bind fun n=>(Dk l).map (n:: ·)
def abytes(P:Program)(h:AH)(src dst:TypeId)(x:Value):Option (Value×AH):=
 match P.underlying src,P.underlying dst,x with
 |some (.slice e),some .string,.slice (some a) n _=>match P.underlying e with
  |some (.int .u8)=>match Cg h a n with
   |some l=>(Dk l).map fun ns=>(.string ⟨(ns.map fun n=>UInt8.ofNat n.toNat).toArray⟩,h)
   |none=>none
  |_=>none
 |some (.slice e),some .string,.chan (some _)=>match P.underlying e with
  |some (.int .u8)=>some (.string ⟨#[]⟩,h)
  |_=>none
 |some _,some (.slice e),.string s=>match P.underlying e with
  |some (.int .u8)=>if (s.size:Int)≤9223372036854775807 then some (.slice (some ⟨h.next,0,none⟩) s.size 0,h.push (.cells (s.data.toList.map fun b=>.int .u8 b.toNat) e (some 1) false)) else none
  |_=>none
 |_,_,_=>none
section
variable {P:Program} {G:Nat} {ρ:Rho} {h:AH} {w:World} {e e':Operand→Value}
def RunAt(P:Program)(G:Nat)(ρ:Rho)(h:AH)(w:World)(s:Sem Value)(r:Value×AH):Prop:=
 ∃ρ' v' w',WR G ρ' r.2 w'∧Ext ρ h w ρ' r.2 w'∧Ay ρ' r.1=some v'∧s.run P w=.ok v' w'
theorem copy_ok(H:WR G ρ h w){t u ty:TypeId}{dst src d' s':Value}{r:Value×AH}(ha:acopy P h t dst src=some r)(hd:Ay ρ dst=some d')(hs:Ay ρ src=some s'):RunAt P G ρ h w (Builtin.copy_ #[t,u] ty #[d',s']) r:=by
 unfold acopy at ha
 split at ha
 case h_2=>cases ha
 rename_i el ht
 split at ha
 case h_3=>cases ha
 ·rename_i sz a dLen c hsz
  split at ha
  case h_2=>cases ha
  rename_i m news cs el' o ro hsrc hg
  dsimp only at ha
  split at ha
  case isFalse=>cases ha
  rename_i hcond
  obtain⟨k1,rfl,k3⟩:=hcond
  cases ha
  obtain⟨news',r1,r2,r3,r4⟩:=src_ok (P:=P) H hsrc hs
  obtain⟨b,c',q1,_,rfl⟩:=De hd
  obtain⟨w',s1,s2,s3⟩:=Su P H hg q1 (St (Nat.min m dLen*sz) r1) k1 k3
  refine⟨ρ,.int .i64 (Nat.min m dLen),w',s2,s3,by simp[Ay],?_⟩
  have h4:=r4 (Nat.min m dLen) (Nat.min_le_left _ _) w rfl
  simp only[Builtin.copy_,List.getElem?_toArray]
  simp only[List.getElem?_cons_zero,List.getElem?_cons_succ,Sem.run_bind,run_underlying ht,Result.andThen_ok,r3,Dc hsz,h4,s1]
  rfl
 ·rename_i sz dLen c hsz
  split at ha
  case h_2=>cases ha
  rename_i m news hsrc
  cases ha
  obtain⟨news',r1,r2,r3,r4⟩:=src_ok (P:=P) H hsrc hs
  simp[Ay]at hd;subst hd
  refine⟨ρ,.int .i64 (Nat.min m dLen),w,H,Ext.refl _ _ _,by simp[Ay],?_⟩
  have h4:=r4 (Nat.min m dLen) (Nat.min_le_left _ _) w rfl
  simp only[Builtin.copy_,List.getElem?_toArray,List.getElem?_cons_zero,List.getElem?_cons_succ,Sem.run_bind,run_underlying ht,Result.andThen_ok,r3,Dc hsz,h4]
  rfl
theorem clear_ok(H:WR G ρ h w){t ty:TypeId}{x x':Value}{r:Value×AH}(ha:aclear P h t x=some r)(hx:Ay ρ x=some x'):RunAt P G ρ h w (Builtin.clear_ #[t] ty #[x']) r:=by
 unfold aclear at ha
 split at ha
 case h_2=>cases ha
 rename_i el ht
 split at ha
 case h_3=>cases ha
 ·rename_i z a n c hz
  split at ha
  case h_2=>cases ha
  rename_i cs el' o ro hg
  dsimp only at ha
  split at ha
  case isFalse=>cases ha
  rename_i hcond
  obtain⟨k1,rfl,k3,k4⟩:=hcond
  cases ha
  obtain⟨b,c',q1,_,rfl⟩:=De hx
  obtain⟨w',s1,s2,s3⟩:=Su P H hg q1 (Ef ρ _ k4) k1 k3
  refine⟨ρ,.tuple #[],w',s2,s3,by simp[Ay,Ai,Bb],?_⟩
  simp[Builtin.clear_,run_underlying ht,Yo hz,s1]
 ·rename_i z a c hz
  cases ha
  cases a with
  |none=>
   simp[Ay]at hx;subst hx
   exact⟨ρ,.tuple #[],w,H,Ext.refl _ _ _,by simp[Ay,Ai,Bb],by simp[Builtin.clear_,run_underlying ht]⟩
  |some a=>
   obtain⟨b,c',q1,_,rfl⟩:=De hx
   exact⟨ρ,.tuple #[],w,H,Ext.refl _ _ _,by simp[Ay,Ai,Bb],by simp[Builtin.clear_,run_underlying ht]⟩
theorem newSlice_ok(H:WR G ρ h w){cells cells':Array Value}(hc:Ai ρ cells=some cells')(el:TypeId)(n c:Nat){s:Sem Value}(hs:s.run P w=.ok (.slice (some ⟨w.heap.size,0,none⟩) n c) (w.alloc (.cells cells' el))):
  RunAt P G ρ h w s (.slice (some ⟨h.next,0,none⟩) n c,h.push (.cells cells.toList el none false)):=by
 obtain⟨h1,h2⟩:=push_row H hc el
 refine⟨_,_,_,h1,h2,?_,hs⟩
 simp only[Ay,Za,Option.bind_some,Ta]
 simp[Rho.bind]
theorem buildSlice_ok(H:WR G ρ h w){t:TypeId}{len:Nat}{ps ps':List (Nat×Value)}{r:Value×AH}(ha:Ui P h t len ps=some r)(h1:ps'.map (·.1)=ps.map (·.1))(h2:Bb ρ (ps.map (·.2))=some (ps'.map (·.2))):
  RunAt P G ρ h w (Instr.buildSlice t len ps'.toArray) r:=by
 unfold Ui at ha
 split at ha
 case h_2=>cases ha
 rename_i el ht
 split at ha
 case h_2=>cases ha
 rename_i sz z hsz hz
 dsimp only at ha
 split at ha
 case isFalse=>cases ha
 rename_i hcond
 obtain⟨k1,k2,k3⟩:=hcond
 split at ha
 case h_2=>cases ha
 rename_i cells hf
 cases ha
 obtain⟨out',f1,f2⟩:=Yu h1 h2 (Ch ρ _ k3) hf
 refine newSlice_ok H f2 el len len ?_
 have k1': ¬(len*sz>2^24):=by omega
 simp only[Instr.buildSlice,Sem.run_bind,run_underlying ht,Dc hsz,Result.andThen_ok,k1',if_false,k2,Yo hz,Sem.run_pure,f1]
 simp[newRow]
theorem makeSlice_ok(H:WR G ρ h w){t:TypeId}{l c:Value}{r:Value×AH}(ha:Qa P h t l c=some r):RunAt P G ρ h w (Instr.makeSlice t l c) r:=by
 unfold Qa at ha
 split at ha
 case h_2=>cases ha
 rename_i el kl l kc c ht
 split at ha
 case h_2=>cases ha
 rename_i i hi
 split at ha
 case h_2=>cases ha
 rename_i z hz
 split at ha
 case isFalse=>cases ha
 rename_i hcond
 obtain⟨k1,k2,k3,k4,k5⟩:=hcond
 cases ha
 exact newSlice_ok H (Ch ρ _ k5) el _ _ (run_make w t el i z ht hi hz kl kc l c k1 k2 k3 k4)
theorem u8?_spec{v:Value}{n:Int}(q:u8? v=some n):v=.int .u8 n:=by
 unfold u8? at q
 split at q
 ·cases q;rfl
 ·cases q
theorem Ve: ∀{l:List Value} {ns:List Int},Dk l=some ns→l=ns.map (Value.int .u8)
 |[],ns,q=>by simp[Dk]at q;subst q;rfl
 |v::l,ns,q=>by
  simp only[Dk,Option.bind_eq_some_iff,Option.map_eq_some_iff]at q
  obtain⟨n,h1,ms,hm,rfl⟩:=q
  simp[Ve hm,u8?_spec h1]
theorem ints_ren(ns:List Int):Bb ρ (ns.map (Value.int .u8))=some (ns.map (Value.int .u8)):=by
 induction ns with
 |nil=>simp[Bb]
 |cons n ns ih=>simp only[List.map_cons];exact Cd.2 ⟨_,_,by simp[Ay],ih,rfl⟩
theorem bytes_ok(H:WR G ρ h w){src dst:TypeId}{x x':Value}{r:Value×AH}(ha:abytes P h src dst x=some r)(hx:Ay ρ x=some x'):RunAt P G ρ h w (convert src dst x') r:=by
 unfold abytes at ha
 split at ha
 ·rename_i el a n c hs hd
  split at ha
  case h_2=>cases ha
  rename_i he
  split at ha
  case h_2=>cases ha
  rename_i l hl
  obtain⟨ns,hns,rfl⟩:=Option.map_eq_some_iff.1 ha
  obtain⟨b,c',q1,_,rfl⟩:=De hx
  obtain⟨l',r1,r2,r3⟩:=Kg H hl q1
  have hl':=Ve hns
  subst hl'
  rw[ints_ren]at r1
  cases r1
  have hload:=run_loadCells_list (P:=P) w b (ns.map (Value.int .u8)) r3
  rw[r2]at hload
  refine⟨ρ,.string ⟨(ns.map fun n=>UInt8.ofNat n.toNat).toArray⟩,w,H,Ext.refl _ _ _,by simp[Ay],?_⟩
  rw[run_convert_bytes_string w src dst el _ n c' hs he hd,run_bytesToString w b n c' ns hload,foldl_push_bytes]
  simp[ByteArray.empty,ByteArray.emptyWithCapacity]
  try rfl
 ·rename_i el v hs hd
  split at ha
  case h_2=>cases ha
  rename_i he
  cases ha
  simp only[Ay]at hx
  obtain⟨a,c,rfl⟩:=Uw hx
  refine⟨ρ,.string ⟨#[]⟩,w,H,Ext.refl _ _ _,by simp[Ay],?_⟩
  have hload:(loadCells a 0).run P w=.ok ([].map (Value.int .u8)).toArray w:=by simp[loadCells,loadCellsFrom]
  rw[run_convert_bytes_string w src dst el _ 0 c hs he hd,run_bytesToString w a 0 c [] hload]
  rfl
 ·rename_i d el s hs hd
  split at ha
  case h_2=>cases ha
  rename_i he
  split at ha
  case isFalse=>cases ha
  cases ha
  simp[Ay]at hx;subst hx
  let C:=grownCap w s.size 0 el
  have hge:s.size≤C:=grownCap_ge w s.size 0 el
  let elems:List Value:=s.data.toList.map fun b=>.int .u8 b.toNat
  let tail:List Value:=List.replicate (C-s.size) (.int .u8 0)
  let w':World:={w with heap:=w.heap.push (.cells (elems++tail).toArray el (C,C+1)),drawn:=w.drawn+1}
  have hel:elems.length=s.size:=by simp[elems]
  have hsz:(elems++tail).toArray.size=C:=by simp only[List.size_toArray,List.length_append,hel,tail,List.length_replicate];omega
  obtain⟨g1,g2⟩:=push_open H (Vg s.data.toList) el (elems++tail).toArray tail rfl 1 C (by omega) (C,C+1) (.inr (by omega)) w' rfl rfl rfl rfl
  refine⟨_,_,_,g1,g2,Se _ _ _ _ _,?_⟩
  have hcap:(Question.appendCap s.size 0 el).cut (w.tape w.drawn (.appendCap s.size 0 el))=C:=rfl
  have harr:(Array.map (fun b:UInt8=>Value.int IntKind.u8 b.toNat) s.data++Array.replicate (C-s.size) (Value.int .u8 0))=(elems++tail).toArray:=by
   apply Array.ext';simp[elems,tail]
  simp only[convert,Sem.run_bind,run_underlying hs,run_underlying hd,run_underlying he,Result.andThen_ok,Conv.stringToBytes,run_choose,Question.forced,Bool.false_eq_true,if_false,hcap,newRow,run_newObj,Sem.run_pure]
  rw[harr]
  have hshape: ∀w1:World,w1.heap=w.heap.push (.cells (elems++tail).toArray el (0,0))→(markStringish ⟨w.heap.size,0,none⟩).run P w1=.ok () (w1.freeze ⟨w.heap.size,C,none⟩ 1):=fun w1 hw1=>by
   have:w1.shape? w.heap.size=some (el,C):=by
    simp only[World.shape?,hw1,Array.getElem?_push_size,hsz]
   simp[markStringish,this]
  rw[hshape _ rfl]
  simp only[Result.andThen_ok]
  congr 1
  simp only[World.freeze,Nat.one_ne_zero,if_false,w']
  congr 1
  apply Array.ext_getElem?
  intro i
  rw[Array.getElem?_modify]
  by_cases hi:w.heap.size=i
  ·subst hi;simp
  ·rw[Array.getElem?_push,Array.getElem?_push]
   have: ¬i=w.heap.size:=fun q=>hi q.symm
   simp[hi,this]
 ·cases ha
end
end Go.AE
namespace Go.AE
open Go
inductive AR1 where
 |val (v:Value) (h:AH)
 |enter (f:FuncId) (args:Array Value)
 |defer (d:Deferred)
 |recover
 |panic (v:Value)
 |round (l:Nat) (f:FuncId) (tmps:Array Value) (assign body:Code)
def Nj(P:Program)(f:FuncId):Bool:=
 match P.funcs[f]? with
 |some fn=>fn.body.isSome&& !(fn.name=="runtime.NumGoroutine")
 |none=>false
def acallv(P:Program)(h:AH)(f:Value)(args:Array Value):Option AR1:=
 match f with
 | .func (.func g) first cap=>if Nj P g then some (.enter g (first++args++cap)) else none
 | .func (.yield l) first _=>match h.get l with
   |some (.loop r)=>if (first++args).size=r.params.size then some (.round l r.fn ((r.params.zip (first++args)).foldl (fun tmps (t,a)=>tmps.setIfInBounds t a) r.tmps) r.assign r.body) else none
   |_=>none
 |_=>none
def pv(o:Option (Value×AH)):Option AR1:=o.map fun r=>.val r.1 r.2
def eqOp:BinOp→Option Bool
 | .eql=>some true
 | .neq=>some false
 |_=>none
def Lj(P:Program)(h:AH)(e:Operand→Value):Op→Option AR1
 | .load t x=>match e x with
   | .pointer (some a)=>(Vf P h t a).map fun v=>.val v h
   |_=>none
 | .store t x y=>match e x with
   | .pointer (some a)=>(Zt P h t a (e y)).map fun h'=>.val undef h'
   |_=>none
 | .alloc t=>(azero P t).bind fun z=>if Aj z then some (.val (Xi h t z).1 (Xi h t z).2) else none
 | .box t x=>some (.val (Xi h t (e x)).1 (Xi h t (e x)).2)
 | .buildSlice t len ps=>pv (Ui P h t len (ps.toList.map fun p=>(p.1,e p.2)))
 | .makeSlice t l c=>pv (Qa P h t (e l) (e c))
 | .range t x=>match P.underlying t,e x with
   |some .string,.string s=>some (.val (.pointer (some ⟨h.next,0,none⟩)) (h.push (.iter s 0)))
   |_,_=>none
 | .next x b=>if b then pv (anext h (e x)) else none
 | .convert s d x=>pv (abytes P h s d (e x))
 | .panic x=>match e x with
   | .iface t v=>some (.panic (.iface t v))
   |_=>none
 | .defer c=>match c.callee with
   | .value f=>match e f with
     | .func fn first cap=>some (.defer {target:=.fn fn cap,args:=first++c.args.map e})
     |_=>none
   |_=>none
 | .call c=>match c.callee with
   | .value f=>acallv P h (e f) (c.args.map e)
   | .invoke r m=>match e r with
     | .iface t v=>if Aj v then match Bc P (method (P.types.size+Made.depth) t v m) with
       |some (f,rc)=>if Aj rc&&Nj P f then some (.enter f (#[rc]++c.args.map e)) else none
       |none=>none
       else none
     |_=>none
   | .builtin b=>match b,c.argTypes.toList,c.args.toList with
     | .recover,_,_=>some .recover
     | .append,[t,u],[s,x]=>pv (Ts P h t u (e s) (e x))
     | .copy,[t,_],[d,s]=>pv (acopy P h t (e d) (e s))
     | .clear,[t],[x]=>pv (aclear P h t (e x))
     | .len,[t],[x]=>match P.underlying t,e x with
       |some (.slice _),.chan (some _)=>some (.val (.int .i64 0) h)
       |_,_=>none
     |_,_,_=>none
 |_=>none
def Eu:Op→Bool
 | .select .. =>false
 |_=>true
def Nt(P:Program)(G:Nat)(h:AH)(e:Operand→Value)(o:Oper):Option AR1:=
 if o.op.operands.all (Ww G) then
  match Hj P h e o.op with
  |some v=>some (.val v h)
  |none=>match Lj P h e o.op with
   |some r=>some r
   |none=>if Eu o.op&&o.op.operands.all (fun x=>Aj (e x)) then match Bc P (execOp e o) with
     |some (.value v)=>if Aj v then some (.val v h) else none
     |_=>none
    else none
 else none
section
variable {P:Program} {G:Nat} {ρ:Rho} {h:AH} {w:World} {e e':Operand→Value}
def OpSim(P:Program)(G:Nat)(ρ:Rho)(h:AH)(w:World)(e':Operand→Value)(o:Oper):AR1→Prop
 | .val v h'=>OpAt P G ρ h w e' o v h'
 | .enter f args=>Nj P f=true∧ ∃args',Ai ρ args=some args'∧(execOp e' o).run P w=.ok (.enter f args') w
 | .defer d=> ∃d',renD ρ d=some d'∧(execOp e' o).run P w=.ok (.defer d') w
 | .recover=>(execOp e' o).run P w=.ok .recover w
 | .panic v=> ∃v',Ay ρ v=some v'∧(execOp e' o).run P w=.halt (.panic v') w
 | .round l f tm as bo=> ∃l' tm',ρ.blk l=some l'∧Ai ρ tm=some tm'∧(execOp e' o).run P w=.ok (.round l' f tm' as bo) w
theorem Mx{g:FuncId}(hb:Nj P g=true)(args:Array Value)(w:World):(callFunc g args).run P w=.ok (.enter g args) w:=by
 unfold Nj at hb
 cases hf:P.funcs[g]? with
 |none=>simp[hf]at hb
 |some fn=>
  simp only[hf,Bool.and_eq_true,Bool.not_eq_true']at hb
  have h1: ¬fn.name="runtime.NumGoroutine":=by simpa using hb.2
  have h2: ¬fn.body=none:=by
   have:=hb.1
   cases q:fn.body<;>simp_all
  simp[callFunc,hf,h1,h2]
theorem Dq{a b a' b':Array Value}(h1:Ai ρ a=some a')(h2:Ai ρ b=some b'):Ai ρ (a++b)=some (a'++b'):=by
 rw[Bz]at*
 simp only[Array.toList_append]
 exact Gq.2 ⟨_,_,h1,h2,rfl⟩
theorem RunAt.opAt{s:Sem Value}{r:Value×AH}{o:Oper}(hr:RunAt P G ρ h w s r)(ho:(execOp e' o).run P w=(s.run P w).andThen fun v w'=>.ok (.value v) w'):OpAt P G ρ h w e' o r.1 r.2:=by
 obtain⟨ρ',v',w',h1,h2,h3,h4⟩:=hr
 exact⟨ρ',v',w',h1,h2,h3,.inl (by rw[ho,h4];rfl)⟩
theorem Td{o:Option (Value×AH)}{r:AR1}(h:pv o=some r): ∃x,o=some x∧r=.val x.1 x.2:=by
 unfold pv at h
 obtain⟨x,h1,h2⟩:=Option.map_eq_some_iff.1 h
 exact⟨x,h1,h2.symm⟩
theorem foldl_ren{ps:List (Tmp×Value)}: ∀{ps':List (Tmp×Value)} {a a':Array Value},ps'.map (·.1)=ps.map (·.1)→Bb ρ (ps.map (·.2))=some (ps'.map (·.2))→Ai ρ a=some a'→
  Ai ρ (ps.foldl (fun tmps (t,a)=>tmps.setIfInBounds t a) a)=some (ps'.foldl (fun tmps (t,a)=>tmps.setIfInBounds t a) a'):=by
 induction ps with
 |nil=>intro ps' a a' h1 _ h3;cases ps'<;>simp at h1;exact h3
 |cons p ps ih=>
  intro ps' a a' h1 h2 h3
  cases ps' with
  |nil=>simp at h1
  |cons p' ps'=>
   simp only[List.map_cons,List.cons.injEq]at h1
   simp only[List.map_cons]at h2
   obtain⟨v',l',e1,e2,e3⟩:=Cd.1 h2
   injection e3 with e3 e4
   simp only[List.foldl_cons]
   rw[h1.1]
   exact ih h1.2 (e4▸e2) (Tc (e3▸e1) _ h3)
theorem callv_ok(H:WR G ρ h w){f f':Value}{args args':Array Value}{r:AR1}(ha:acallv P h f args=some r)(hf:Ay ρ f=some f')(hargs:Ai ρ args=some args'){o:Oper}
  (ho:(execOp e' o).run P w=(do let d ←Deferred.ofValue f' args';invoke d.target d.args:Sem Next).run P w):OpSim P G ρ h w e' o r:=by
 unfold acallv at ha
 split at ha
 ·rename_i g first cap
  split at ha
  case isFalse=>cases ha
  rename_i hb
  cases ha
  simp only[Ay,To,Option.bind_eq_some_iff,Option.map_eq_some_iff]at hf
  obtain⟨fn',hfn,first',h1,cap',h2,rfl⟩:=hf
  cases hfn
  refine⟨hb,first'++args'++cap',Dq (Dq h1 hargs) h2,?_⟩
  rw[ho]
  simp[Deferred.ofValue,invoke,Mx hb]
 ·rename_i l first cap
  split at ha
  case h_2=>cases ha
  rename_i lp hg
  split at ha
  case isFalse=>cases ha
  rename_i hsz
  cases ha
  simp only[Ay,To,Option.bind_eq_some_iff,Option.map_eq_some_iff]at hf
  obtain⟨fn',⟨l',hl,rfl⟩,first',h1,cap',h2,rfl⟩:=hf
  obtain⟨b,x,q1,q2,q3⟩:=H.obj _ _ hg
  rw[hl]at q1;cases q1
  cases x<;>simp only[ObjR]at q3
  rename_i lp'
  obtain⟨_,_,r3,r4,r5,r6,r7,_⟩:=q3
  have hcat:=Dq h1 hargs
  have hcs:=Ht hcat
  have hcs2:=hcs
  have hsz2:=hsz
  simp only[Array.size_append]at hcs2 hsz2
  refine⟨l',(lp'.params.zip (first'++args')).foldl (fun tmps (t,a)=>tmps.setIfInBounds t a) lp'.tmps,hl,?_,?_⟩
  ·rw[←Array.foldl_toList,←Array.foldl_toList]
   refine foldl_ren ?_ ?_ r4
   ·rw[r5]
    simp only[Array.toList_zip]
    rw[List.map_fst_zip (by simp;omega),List.map_fst_zip (by simp;omega)]
   ·rw[r5]
    simp only[Array.toList_zip]
    rw[List.map_snd_zip (by simp;omega),List.map_snd_zip (by simp;omega)]
    exact Bz.1 hcat
  ·rw[ho]
   have hgo:(getObj l').run P w=.ok (.loop lp') w:=by simp[getObj,Sem.run,q2]
   have hne: ¬(first'++args').size≠lp'.params.size:=by rw[hcs,r5];simpa using hsz
   simp only[Deferred.ofValue,invoke,Sem.run_bind,Sem.run_pure,Result.andThen_ok,Instr.yield,Instr.getLoop,hgo,hne,if_false,r3,r6,r7]
 ·cases ha
theorem head_app(x:Value)(ys:Array Value):(#[x]++ys)[0]? =some x:=by
 obtain⟨l⟩:=ys
 simp
theorem tail_app(x:Value)(ys:Array Value):(#[x]++ys).extract 1 (#[x]++ys).size=ys:=by
 obtain⟨l⟩:=ys
 apply Array.ext'
 simp
theorem aeff_ok(H:WR G ρ h w)(o:Oper)(hr: ∀x∈o.op.operands,Ay ρ (e x)=some (e' x)){r:AR1}(hv:Lj P h e o.op=some r):OpSim P G ρ h w e' o r:=by
 obtain⟨dst,op,type,pos,after,guard⟩:=o
 simp only at hr hv
 cases op<;>simp only[Lj]at hv<;>try (cases hv;done)
 case load t x=>
  have hx:=hr x (by simp[Op.operands])
  split at hv
  case h_2=>cases hv
  rename_i a hce
  rw[hce]at hx
  obtain⟨b,h1,h2⟩:=Kc hx
  obtain⟨v,hl,rfl⟩:=Option.map_eq_some_iff.1 hv
  obtain⟨v',h3,h4⟩:=load_ok H hl h1
  refine⟨ρ,v',w,H,Ext.refl _ _ _,h3,.inl ?_⟩
  simp only[execOp,h2,Instr.loadAt,Instr.sureAddr,Sem.run_bind,Sem.run_pure,Result.andThen_ok,h4 w fun _ _=>rfl]
 case store t x y=>
  have hx:=hr x (by simp[Op.operands])
  have hy:=hr y (by simp[Op.operands])
  split at hv
  case h_2=>cases hv
  rename_i a hce
  rw[hce]at hx
  obtain⟨b,h1,h2⟩:=Kc hx
  obtain⟨h',hl,rfl⟩:=Option.map_eq_some_iff.1 hv
  obtain⟨w',h3,h4,h5⟩:=store_ok H hl h1 hy
  refine⟨ρ,undef,w',h4,h5,Ku ρ,.inr ⟨?_,rfl⟩⟩
  simp only[execOp,h2,Instr.storeAt,Instr.sureAddr,Sem.run_bind,Sem.run_pure,Result.andThen_ok,h3]
 case alloc t=>
  obtain⟨z,hz,hv⟩:=Option.bind_eq_some_iff.1 hv
  split at hv
  case isFalse=>cases hv
  rename_i hc
  cases hv
  refine box_ok H (Co ρ z hc) t ?_
  simp only[execOp,Instr.alloc,Sem.run_bind,Yo hz,Result.andThen_ok,Xu,Sem.run_pure]
 case box t x=>
  cases hv
  refine box_ok H (hr x (by simp[Op.operands])) t ?_
  simp only[execOp,Instr.box,Sem.run_bind,Result.andThen_ok,Xu,Sem.run_pure]
 case buildSlice t len ps=>
  obtain⟨q,hq,rfl⟩:=Td hv
  have hl:Bb ρ ((ps.toList.map fun p=>(p.1,e p.2)).map (·.2))=some ((ps.toList.map fun p=>(p.1,e' p.2)).map (·.2)):=by
   have:=Lp (ρ:=ρ) (e:=e) (e':=e') (ps.toList.map (·.2)).toArray fun x hx=>hr x (by simpa [Op.operands] using hx)
   simpa [Bz,List.map_map,Function.comp_def] using this
  refine (buildSlice_ok H hq (ps':=ps.toList.map fun p=>(p.1,e' p.2)) (by simp[List.map_map,Function.comp_def]) hl).opAt ?_
  simp only[execOp,Sem.run_bind]
  have:(ps.toList.map fun p=>(p.1,e' p.2)).toArray=ps.map fun (i,x)=>(i,e' x):=by
   apply Array.ext';simp
  rw[this]
  rfl
 case makeSlice t l c=>
  obtain⟨q,hq,rfl⟩:=Td hv
  have hl:=hr l (by simp[Op.operands])
  have hc:=hr c (by simp[Op.operands])
  have hq0:=hq
  unfold Qa at hq0
  split at hq0
  case h_2=>cases hq0
  rename_i el kl l0 kc c0 _ hle hce
  rw[hle]at hl hq
  rw[hce]at hc hq
  refine (makeSlice_ok H hq).opAt ?_
  simp only[execOp,Sem.run_bind,Zf hl,Zf hc]
  rfl
 case range t x=>
  have hx:=hr x (by simp[Op.operands])
  split at hv
  ·rename_i s hu hce
   cases hv
   rw[hce]at hx
   exact range_ok H hu (t:=t) (x:=x) rfl (ren_string hx)
  ·cases hv
 case next x b=>
  split at hv
  ·rename_i hb
   subst hb
   obtain⟨q,hq,rfl⟩:=Td hv
   exact next_ok H hq (hr x (by simp[Op.operands])) rfl rfl
  ·cases hv
 case convert s d x=>
  obtain⟨q,hq,rfl⟩:=Td hv
  refine (bytes_ok H hq (hr x (by simp[Op.operands]))).opAt ?_
  simp only[execOp,Sem.run_bind]
  rfl
 case panic x=>
  have hx:=hr x (by simp[Op.operands])
  split at hv
  case h_2=>cases hv
  rename_i t v hce
  cases hv
  rw[hce]at hx
  have hx0:=hx
  obtain⟨v',h1,h2⟩:=Kt hx
  refine⟨.iface t v',by rw[hx0,h2],?_⟩
  simp[execOp,h2,Instr.panic]
 case defer c=>
  obtain⟨callee,args,ts⟩:=c
  cases callee<;>simp only at hv<;>try (cases hv;done)
  rename_i f
  have hf:=hr f (by simp[Op.operands,Call.operands])
  have hargs:=Lp (ρ:=ρ) (e:=e) (e':=e') args fun x hx=>hr x (by simp[Op.operands,Call.operands,hx])
  split at hv
  case h_2=>cases hv
  rename_i fn first cap hce
  cases hv
  rw[hce]at hf
  simp only[Ay,Option.bind_eq_some_iff,Option.map_eq_some_iff]at hf
  obtain⟨fn',hfn,first',h1,cap',h2,hfe⟩:=hf
  refine⟨⟨.fn fn' cap',first'++args.map e'⟩,?_,?_⟩
  ·simp[renD,renT,hfn,h2,Dq h1 hargs]
  ·simp[execOp,resolve,←hfe,Deferred.ofValue]
 case call c=>
  obtain⟨callee,args,ts⟩:=c
  have hargs:=Lp (ρ:=ρ) (e:=e) (e':=e') args fun x hx=>hr x (by simp[Op.operands,Call.operands,hx])
  cases callee<;>simp only at hv
  ·rename_i f
   have hf:=hr f (by simp[Op.operands,Call.operands])
   exact callv_ok H hv hf hargs (by simp only[execOp,resolve,Sem.run_bind])
  ·rename_i r0 m
   have hx:=hr r0 (by simp[Op.operands,Call.operands])
   split at hv
   case h_2=>cases hv
   rename_i t v hce
   split at hv
   case isFalse=>cases hv
   rename_i hcl
   split at hv
   case h_2=>cases hv
   rename_i f rc hm
   split at hv
   case isFalse=>cases hv
   rename_i hc
   simp only[Bool.and_eq_true]at hc
   cases hv
   rw[hce]at hx
   obtain⟨v',h1,h2⟩:=Kt hx
   rw[Co ρ v hcl]at h1
   cases h1
   have hrc:Ai ρ #[rc]=some #[rc]:=by simp[Ai,Bb,Co ρ rc hc.1]
   refine⟨hc.2,#[rc]++args.map e',Dq hrc hargs,?_⟩
   have hmr:=Qz hm
   have e1:=head_app (Value.iface t v) (args.map e')
   have e2:=tail_app (Value.iface t v) (args.map e')
   simp only[execOp,resolve,h2,Sem.run_bind,Sem.run_pure,Result.andThen_ok,invoke,e1,e2,callMethod,run_program,hmr,Mx hc.2]
  ·rename_i b
   have two: ∀{α:Type} (a:Array α) (x y:α),a.toList=[x,y]→a= #[x,y]:=fun a x y q=>by cases a;simp at q;simp[q]
   have one: ∀{α:Type} (a:Array α) (x:α),a.toList=[x]→a= #[x]:=fun a x q=>by cases a;simp at q;simp[q]
   split at hv
   ·cases hv
    simp[OpSim,execOp,resolve,invoke,Go.builtin]
   ·rename_i t u s x q1 q2
    obtain⟨q,hq,rfl⟩:=Td hv
    have e1:=two ts t u q1
    have e2:=two args s x q2
    subst e1;subst e2
    have hs:=hr s (by simp[Op.operands,Call.operands])
    have hx:=hr x (by simp[Op.operands,Call.operands])
    obtain⟨ρ',v',w',g1,g2,g3,g4⟩:=append_ok (ty:=type) H hq hs hx
    refine⟨ρ',v',w',g1,g2,g3,.inl ?_⟩
    simp[execOp,resolve,invoke,Go.builtin,g4]
   ·rename_i t u d s q1 q2
    obtain⟨q,hq,rfl⟩:=Td hv
    have e1:=two ts t u q1
    have e2:=two args d s q2
    subst e1;subst e2
    have hs:=hr s (by simp[Op.operands,Call.operands])
    have hd:=hr d (by simp[Op.operands,Call.operands])
    refine (copy_ok (u:=u) (ty:=type) H hq hd hs).opAt ?_
    simp[execOp,resolve,invoke,Go.builtin]
   ·rename_i t x q1 q2
    obtain⟨q,hq,rfl⟩:=Td hv
    have e1:=one ts t q1
    have e2:=one args x q2
    subst e1;subst e2
    have hx:=hr x (by simp[Op.operands,Call.operands])
    refine (clear_ok (ty:=type) H hq hx).opAt ?_
    simp[execOp,resolve,invoke,Go.builtin]
   ·rename_i t x q1 q2
    have e1:=one ts t q1
    have e2:=one args x q2
    subst e1;subst e2
    have hx:=hr x (by simp[Op.operands,Call.operands])
    split at hv
    case h_2=>cases hv
    rename_i el v hu hce
    cases hv
    rw[hce]at hx
    simp only[Ay]at hx
    obtain⟨a,c,hx'⟩:=Uw hx
    refine⟨ρ,.int .i64 0,w,H,Ext.refl _ _ _,by simp[Ay],.inl ?_⟩
    simp[execOp,resolve,invoke,Go.builtin,Builtin.len_,run_underlying hu,hx',goInt]
   ·cases hv
theorem aop_ok(H:WR G ρ h w){a b:Act}(ht:Ai ρ a.tmps=some b.tmps)(o:Oper){r:AR1}(hv:Nt P G h a.eval o=some r):OpSim P G ρ h w b.eval o r:=by
 unfold Nt at hv
 split at hv
 case isFalse=>cases hv
 rename_i hok
 have hr: ∀x∈o.op.operands,Ay ρ (a.eval x)=some (b.eval x):=fun x hx=>Aa0 H ht (by
  have:=Array.all_eq_true_iff_forall_mem.1 hok x hx
  exact this)
 split at hv
 ·rename_i v hp
  cases hv
  exact (aptr_ok H o hr hp).opAt H
 ·split at hv
  ·rename_i r' he
   cases hv
   exact aeff_ok H o hr he
  ·by_cases hc:(Eu o.op&&o.op.operands.all (fun x=>Aj (a.eval x)))=true
   case neg=>rw[if_neg hc]at hv;cases hv
   rw[if_pos hc]at hv
   simp only[Bool.and_eq_true]at hc
   split at hv
   case h_2=>cases hv
   rename_i v hp
   split at hv
   case isFalse=>cases hv
   rename_i hcv
   cases hv
   have hs: ∀cs b,o.op≠.select cs b:=fun cs b q=>by rw[q]at hc;simp[Eu]at hc
   have:=closed_op (P:=P) hs hr (fun x hx=>Array.all_eq_true_iff_forall_mem.1 hc.2 x hx) hp
   exact PureAt.opAt H ⟨v,Co ρ v hcv,this⟩
end
end Go.AE
namespace Go.AE
open Go
def Xp(ρ:Rho):Item→Option Item
 | .code c=>some (.code c)
 | .inBlock i=>some (.inBlock i)
 | .inLoop c=>some (.inLoop c)
 | .inScope c=>some (.inScope c)
 | .inRegion ops l=>some (.inRegion ops l)
 | .inRangeFunc l=>(ρ.blk l).map .inRangeFunc
 | .endRangeFunc l=>(ρ.blk l).map .endRangeFunc
 | .beginRound=>some .beginRound
 | .call .. =>none
 | .extern .. =>none
def Gj(ρ:Rho):List Item→Option (List Item)
 |[]=>some []
 |i::l=>(Xp ρ i).bind fun i'=>(Gj ρ l).map fun l'=>i'::l'
def Mq(ρ:Rho):List PanicEntry→Option (List PanicEntry)
 |[]=>some []
 |p::l=>(Ay ρ p.v).bind fun v=>(Mq ρ l).map fun l'=>⟨v,p.recovered,p.goexit⟩::l'
def Ki(ρ:Rho):FrameMode→Option FrameMode
 | .run=>some .run
 | .returning=>some .returning
 | .panicking c=>(Mq ρ c).map .panicking
structure FrR (ρ:Rho) (a b:Frame):Prop where
 fn:b.fn=a.fn
 tmps:Ai ρ a.tmps=some b.tmps
 todo:Gj ρ a.todo=some b.todo
 defers:Hc ρ a.defers=some b.defers
 mode:Ki ρ a.mode=some b.mode
 kind:b.kind=a.kind
 round:(a.roundOf=none∧b.roundOf=none)∨ ∃l l',a.roundOf=some l∧b.roundOf=some l'∧ρ.blk l=some l'
theorem renI_mono{ρ σ:Rho}(h:ρ.le σ){x y:Item}(e:Xp ρ x=some y):Xp σ x=some y:=by
 cases x<;>simp only[Xp,Option.map_eq_some_iff]at* <;>try exact e
 ·obtain⟨b,hb,e⟩:=e
  exact⟨b,(h _ _ hb).1,e⟩
 ·obtain⟨b,hb,e⟩:=e
  exact⟨b,(h _ _ hb).1,e⟩
theorem Au{ρ:Rho}{x:Item}{l r:List Item}:Gj ρ (x::l)=some r↔ ∃x' l',Xp ρ x=some x'∧Gj ρ l=some l'∧r=x'::l':=by
 simp only[Gj,Option.bind_eq_some_iff,Option.map_eq_some_iff]
 constructor
 ·rintro ⟨a,h1,b,h2,rfl⟩;exact⟨a,b,h1,h2,rfl⟩
 ·rintro ⟨a,b,h1,h2,rfl⟩;exact⟨a,h1,b,h2,rfl⟩
theorem Sy{ρ σ:Rho}(h:ρ.le σ): ∀{x y:List Item},Gj ρ x=some y→Gj σ x=some y
 |[],y,e=>by simp only[Gj]at*;exact e
 |x::l,y,e=>by
  obtain⟨x',l',h1,h2,rfl⟩:=Au.1 e
  exact Au.2 ⟨x',l',renI_mono h h1,Sy h h2,rfl⟩
theorem renP_mono{ρ σ:Rho}(h:ρ.le σ): ∀{x y:List PanicEntry},Mq ρ x=some y→Mq σ x=some y
 |[],y,e=>by simp only[Mq]at*;exact e
 |x::l,y,e=>by
  simp only[Mq,Option.bind_eq_some_iff,Option.map_eq_some_iff]at*
  obtain⟨v,h1,l',h2,e⟩:=e
  exact⟨v,ren_mono h _ _ h1,l',renP_mono h h2,e⟩
theorem renM_mono{ρ σ:Rho}(h:ρ.le σ){x y:FrameMode}(e:Ki ρ x=some y):Ki σ x=some y:=by
 cases x<;>simp only[Ki,Option.map_eq_some_iff]at* <;>try exact e
 obtain⟨c,h1,e⟩:=e
 exact⟨c,renP_mono h h1,e⟩
theorem FrR.mono{ρ σ:Rho}(h:ρ.le σ){a b:Frame}(e:FrR ρ a b):FrR σ a b where
 fn:=e.fn
 tmps:=Bx h _ _ e.tmps
 todo:=Sy h e.todo
 defers:=Sx h e.defers
 mode:=renM_mono h e.mode
 kind:=e.kind
 round:=e.round.imp id fun⟨l,l',h1,h2,h3⟩=>⟨l,l',h1,h2,(h _ _ h3).1⟩
def FrRs(ρ:Rho):List Frame→List Frame→Prop
 |[],[]=>True
 |a::l,b::m=>FrR ρ a b∧FrRs ρ l m
 |_,_=>False
theorem FrRs.mono{ρ σ:Rho}(h:ρ.le σ): ∀{a b:List Frame},FrRs ρ a b→FrRs σ a b
 |[],[],e=>e
 |_a::_l,_b::_m,e=>⟨FrR.mono h e.1,FrRs.mono h e.2⟩
 |[],_::_,e|_::_,[],e=>e
theorem Qp{ρ:Rho}{id:Nat}: ∀{k k' r:List Item},Gj ρ k=some k'→exitTo id k=some r→ ∃r',exitTo id k'=some r'∧Gj ρ r=some r'
 |[],k',r,_,h2=>by simp[exitTo]at h2
 |x::k,k',r,h1,h2=>by
  obtain⟨x',l',q1,q2,rfl⟩:=Au.1 h1
  cases x<;>simp only[Xp,Option.map_eq_some_iff]at q1<;>simp only[exitTo]at h2
  all_goals first
   |(cases q1;done)
   |skip
  case inBlock i=>
   cases q1
   simp only[exitTo]
   split
   ·rename_i hi;rw[if_pos hi]at h2;cases h2;exact⟨_,rfl,q2⟩
   ·rename_i hi;rw[if_neg hi]at h2;exact Qp q2 h2
  case inRangeFunc l=>obtain⟨b,_,rfl⟩:=q1;simp only[exitTo];exact Qp q2 h2
  case endRangeFunc l=>obtain⟨b,_,rfl⟩:=q1;simp only[exitTo];exact Qp q2 h2
  all_goals (cases q1;simp only[exitTo];exact Qp q2 h2)
theorem Qh{ρ:Rho}{id:Nat}: ∀{k k' r:List Item},Gj ρ k=some k'→gotoIn id k=some r→ ∃r',gotoIn id k'=some r'∧Gj ρ r=some r'
 |[],k',r,_,h2=>by simp[gotoIn]at h2
 |x::k,k',r,h1,h2=>by
  obtain⟨x',l',q1,q2,rfl⟩:=Au.1 h1
  cases x<;>simp only[Xp,Option.map_eq_some_iff]at q1<;>simp only[gotoIn]at h2
  all_goals first
   |(cases q1;done)
   |skip
  case inScope c=>
   cases q1
   simp only[gotoIn]
   split
   ·rename_i rest hf
    rw[hf]at h2
    cases h2
    exact⟨_,rfl,Au.2 ⟨_,_,rfl,Au.2 ⟨_,_,rfl,q2,rfl⟩,rfl⟩⟩
   ·rename_i hf;rw[hf]at h2;exact Qh q2 h2
  case inRangeFunc l=>obtain⟨b,_,rfl⟩:=q1;simp only[gotoIn];exact Qh q2 h2
  case endRangeFunc l=>obtain⟨b,_,rfl⟩:=q1;simp only[gotoIn];exact Qh q2 h2
  all_goals (cases q1;simp only[gotoIn];exact Qh q2 h2)
theorem Mi{ρ:Rho}{id:Nat}: ∀{k k':List Item},Gj ρ k=some k'→exitTo id k=none→exitTo id k'=none
 |[],k',h1,_=>by simp[Gj]at h1;subst h1;rfl
 |x::k,k',h1,h2=>by
  obtain⟨x',l',q1,q2,rfl⟩:=Au.1 h1
  cases x<;>simp only[Xp,Option.map_eq_some_iff]at q1<;>simp only[exitTo]at h2
  all_goals first
   |(cases q1;done)
   |skip
  case inBlock i=>
   cases q1
   simp only[exitTo]
   split
   ·rename_i hi;rw[if_pos hi]at h2;cases h2
   ·rename_i hi;rw[if_neg hi]at h2;exact Mi q2 h2
  case inRangeFunc l=>obtain⟨b,_,rfl⟩:=q1;simp only[exitTo];exact Mi q2 h2
  case endRangeFunc l=>obtain⟨b,_,rfl⟩:=q1;simp only[exitTo];exact Mi q2 h2
  all_goals (cases q1;simp only[exitTo];exact Mi q2 h2)
theorem Mj{ρ:Rho}{id:Nat}: ∀{k k':List Item},Gj ρ k=some k'→gotoIn id k=none→gotoIn id k'=none
 |[],k',h1,_=>by simp[Gj]at h1;subst h1;rfl
 |x::k,k',h1,h2=>by
  obtain⟨x',l',q1,q2,rfl⟩:=Au.1 h1
  cases x<;>simp only[Xp,Option.map_eq_some_iff]at q1<;>simp only[gotoIn]at h2
  all_goals first
   |(cases q1;done)
   |skip
  case inScope c=>
   cases q1
   simp only[gotoIn]
   split
   ·rename_i rest hf;rw[hf]at h2;cases h2
   ·rename_i hf;rw[hf]at h2;exact Mj q2 h2
  case inRangeFunc l=>obtain⟨b,_,rfl⟩:=q1;simp only[gotoIn];exact Mj q2 h2
  case endRangeFunc l=>obtain⟨b,_,rfl⟩:=q1;simp only[gotoIn];exact Mj q2 h2
  all_goals (cases q1;simp only[gotoIn];exact Mj q2 h2)
def ctl(ev:Operand→Value):List Item→Option (List Item)
 | .code .skip::k| .code (.label _)::k| .inBlock _::k| .inScope _::k=>some k
 | .code (.seq a b)::k=>some (.code a::.code b::k)
 | .code (.cond c x y)::k=>match ev c with
   | .bool t=>some (.code (if t then x else y)::k)
   |_=>none
 | .code (.block id body)::k=>some (.code body::.inBlock id::k)
 | .code (.loop body)::k| .inLoop body::k=>some (.code body::.inLoop body::k)
 | .code (.scope body)::k=>some (.code body::.inScope body::k)
 | .code (.exit id)::k=>exitTo id k
 | .code (.goto l)::k=>gotoIn l k
 | .code (.region _ ops false)::k=>some (.inRegion ops (List.range ops.size)::k)
 | .inRegion _ []::k=>some k
 |_=>none
section
variable {P:Program} {G:Nat} {ρ:Rho} {h:AH} {w:World} {cs:List Frame}
theorem step_ctl{fr:Frame}{k:List Item}(hm:fr.mode=.run)(hk:ctl fr.eval fr.todo=some k):step P (lone fr cs w)=.next (lone {fr with todo:=k} cs w):=by
 refine step_lone_go ?_
 unfold ctl at hk
 split at hk<;>rename_i ht<;>first
  |(cases hk;done)
  |(cases hk;simp[stepG,hm,stepG.exec,ht];done)
  |skip
 ·split at hk
  ·rename_i hc
   cases hk
   simp[stepG,hm,stepG.exec,ht,hc]
  ·cases hk
 ·simp[stepG,hm,stepG.exec,ht,hk]
 ·simp[stepG,hm,stepG.exec,ht,hk]
theorem ctl_ren{ev ev':Operand→Value}{t t' k:List Item}(hev: ∀c x y k,t=.code (.cond c x y)::k→Ay ρ (ev c)=some (ev' c))(ht:Gj ρ t=some t')(hk:ctl ev t=some k): ∃k',ctl ev' t'=some k'∧Gj ρ k=some k':=by
 unfold ctl at hk
 split at hk<;>first
  |(cases hk;done)
  |skip
 case h_6=>
  obtain⟨x',l',q1,q2,rfl⟩:=Au.1 ht
  cases q1
  have:=hev _ _ _ _ rfl
  split at hk
  ·rename_i b hb
   cases hk
   rw[hb]at this
   have hb':=ren_bool this
   simp only[ctl,hb']
   exact⟨_,rfl,Au.2 ⟨_,_,rfl,q2,rfl⟩⟩
  ·cases hk
 case h_11=>
  obtain⟨x',l',q1,q2,rfl⟩:=Au.1 ht
  cases q1
  exact Qp q2 hk
 case h_12=>
  obtain⟨x',l',q1,q2,rfl⟩:=Au.1 ht
  cases q1
  exact Qh q2 hk
 all_goals
  obtain⟨x',l',q1,q2,rfl⟩:=Au.1 ht
  cases q1
  cases hk
  first
   |exact⟨_,rfl,q2⟩
   |exact⟨_,rfl,Au.2 ⟨_,_,rfl,q2,rfl⟩⟩
   |exact⟨_,rfl,Au.2 ⟨_,_,rfl,Au.2 ⟨_,_,rfl,q2,rfl⟩,rfl⟩⟩
end
end Go.AE
namespace Go.AE
open Go
structure AS where
 fr:Frame
 cs:List Frame
 h:AH
def okCond(G:Nat):List Item→Bool
 | .code (.cond c _ _)::_=>Ww G c
 |_=>true
def ares1(P:Program)(h:AH)(tm:Array Value):ResultVar→Option Value
 | .tmp t=>some (tm.getD t undef)
 | .cell a t=>match tm.getD a undef with
   | .pointer (some a)=>Vf P h t a
   |_=>none
def aresL(P:Program)(h:AH)(tm:Array Value):List ResultVar→Option (List Value)
 |[]=>some []
 |r::l=>(ares1 P h tm r).bind fun v=>(aresL P h tm l).map fun vs=>v::vs
def one(vs:List Value):Value:=match vs with
 |[v]=>v
 |vs=>.tuple vs.toArray
def aresults(P:Program)(h:AH)(fn:Func)(tm:Array Value):Option Value:=(aresL P h tm fn.results.toList).map one
def settleF(c:Frame):Option Frame:=
 match c.mode with
 | .panicking ({recovered:=true,.. }::older)=>if older.all (fun p=> !p.goexit) then some {c with mode:=.returning} else none
 |_=>some c
def areturn(fr:Frame)(cs:List Frame)(h:AH)(v:Value):Option AS:=
 match cs with
 |[]=>none
 |c::rest=>match fr.kind with
  | .normal=>some ⟨c.finish v,rest,h⟩
  | .deferred=>(settleF c).map fun c'=>⟨c',rest,h⟩
  |_=>none
def aleave(fr:Frame)(cs:List Frame)(h:AH)(jump:Option Code):Option AS:=
 match fr.roundOf with
 |none=>match jump with
  |none|some .ret=>some ⟨{fr with mode:=.returning},cs,h⟩
  |_=>none
 |some l=>match h.get l with
  |some (.loop r)=>areturn fr cs (h.put l (some (.loop {r with state:=if jump.isNone then .ready else .done,pending:=jump}))) (.bool jump.isNone)
  |_=>none
def arecover(fr:Frame)(cs:List Frame):Option (Value×List Frame):=
 match fr.kind,cs with
 | .normal,_=>some (.nilIface,cs)
 | .deferred,c::rest=>match c.mode with
   | .panicking ({v,recovered:=false,goexit:=false}::older)=>some (v,{c with mode:=.panicking ({v,recovered:=true}::older)}::rest)
   |_=>some (.nilIface,cs)
 |_,_=>none
def Ng(P:Program)(hk:FuncId→Array Value→AH→Option (Value×AH))(fr:Frame)(cs:List Frame)(h:AH):AR1→Option AS
 | .val v h'=>some ⟨fr.finish v,cs,h'⟩
 | .enter f args=>match hk f args h with
   |some (v,h')=>some ⟨fr.finish v,cs,h'⟩
   |none=>some ⟨Frame.enter P f args .normal,fr::cs,h⟩
 | .defer d=>if fr.roundOf.isNone then some ⟨{fr with defers:=d::fr.defers}.finish undef,cs,h⟩ else none
 | .recover=>if fr.roundOf.isNone then (arecover fr cs).map fun r=>⟨fr.finish r.1,r.2,h⟩ else none
 | .panic v=>some ⟨fr.raise [{v,recovered:=false}],cs,h⟩
 | .round l f tm as bo=>some ⟨Frame.round l f tm as bo .normal,fr::cs,h⟩
def aunwind(P:Program)(fr:Frame)(cs:List Frame)(h:AH):Option AS:=
 match fr.defers with
 |d::ds=>match d.target with
  | .collected b=>match h.get b with
    |some (.defd (some cl))=>some ⟨{fr with defers:=cl++ds},cs,h.put b (some (.defd none))⟩
    |_=>none
  | .fn (.func f) cap=>if Nj P f then some ⟨Frame.enter P f (d.args++cap) .deferred,{fr with defers:=ds}::cs,h⟩ else none
  |_=>none
 |[]=>match P.funcs[fr.fn]? with
  |none=>none
  |some fn=>match fr.mode with
   | .run=>none
   | .panicking chain=>match cs with
     |c::rest=>some ⟨c.raise chain,rest,h⟩
     |[]=>none
   | .returning=>(aresults P h fn fr.tmps).bind fun v=>areturn fr cs h v
def Gv:Op→Bool
 | .defer _=>true
 |_=>false
def Up(P:Program)(G:Nat)(hk:FuncId→Array Value→AH→Option (Value×AH))(draw:Array Oper→Array Value→AH→Option (Array Value×AH))(s:AS):Option AS:=
 match s.fr.mode with
 | .run=>match ctl ({tmps:=s.fr.tmps,defers:=[]}:Act).eval s.fr.todo with
   |some k=>if okCond G s.fr.todo then some ⟨{s.fr with todo:=k},s.cs,s.h⟩ else none
   |none=>match s.fr.todo with
    | .inRegion ops (i::_)::_=>match ops[i]? with
      |some o=>if Region.wanted o (yielded ops s.fr.tmps) then if s.fr.roundOf.isSome&&Gv o.op then none else (Nt P G s.h ({tmps:=s.fr.tmps,defers:=[]}:Act).eval o).bind (Ng P hk s.fr s.cs s.h) else some ⟨s.fr.finish undef,s.cs,s.h⟩
      |none=>none
    | .code .ret::_=>aleave s.fr s.cs s.h (some .ret)
    |[]=>aleave s.fr s.cs s.h none
    | .code (.exit id)::_=>aleave s.fr s.cs s.h (some (.exit id))
    | .code (.goto l)::_=>aleave s.fr s.cs s.h (some (.goto l))
    | .code (.region _ ops true)::k=>(draw ops s.fr.tmps s.h).map fun r=>⟨{s.fr with tmps:=r.1,todo:=k},s.cs,r.2⟩
    | .code (.rangeFunc f params assign body)::k=>match s.fr.roundOf,Ww G f,({tmps:=s.fr.tmps,defers:=[]}:Act).eval f with
      |none,true,.func (.func g) first cap=>if Nj P g then
        let h1:=s.h.push (.defd (some []))
        let h2:=h1.push (.loop {state:=.ready,pending:=none,fn:=s.fr.fn,tmps:=s.fr.tmps,params,assign,body,defers:=s.h.next})
        some ⟨Frame.enter P g (first++ #[.func (.yield h1.next) #[] #[]]++cap) .normal,{s.fr with todo:=.inRangeFunc h1.next::k,defers:={target:=.collected s.h.next,args:= #[]}::s.fr.defers}::s.cs,h2⟩
       else none
      |_,_,_=>none
    | .beginRound::_=>match s.fr.roundOf with
      |some l=>match s.h.get l with
       |some (.loop r)=>if r.state==.ready then some ⟨s.fr.finish undef,s.cs,s.h.put l (some (.loop {r with state:=.busy}))⟩ else none
       |_=>none
      |none=>none
    | .endRangeFunc l::k=>match s.h.get l with
      |some (.loop r)=>if r.state==.busy then none else some ⟨{s.fr with todo:=(r.pending.map Item.code).toList++k},s.cs,s.h.put l (some (.loop {r with state:=.exhausted}))⟩
      |_=>none
    |_=>none
 |_=>aunwind P s.fr s.cs s.h
section
variable {P:Program} {G:Nat} {ρ:Rho} {h:AH} {w:World} {cs:List Frame}
theorem Hq{a b:Frame}(hf:FrR ρ a b){v v':Value}(hv:Ay ρ v=some v'):FrR ρ (a.finish v) (b.finish v'):=by
 obtain⟨fn,tmps,todo,defers,mode,kind,roundOf⟩:=a
 obtain⟨fn',tmps',todo',defers',mode',kind',roundOf'⟩:=b
 obtain⟨h1,h2,h3,h4,h5,h6,h7⟩:=hf
 simp only at h1 h2 h3 h4 h5 h6 h7
 cases todo with
 |nil=>simp[Gj]at h3;subst h3;exact⟨h1,h2,by simp[Frame.finish,Gj],h4,h5,h6,h7⟩
 |cons x k=>
  have h30:=h3
  obtain⟨x',k',q1,q2,rfl⟩:=Au.1 h3
  cases x<;>simp only[Xp,Option.map_eq_some_iff]at q1<;>try (cases q1;done)
  case inRegion ops l=>
   cases q1
   cases l with
   |nil=>exact⟨h1,h2,h30,h4,h5,h6,h7⟩
   |cons i rest=>
    refine⟨h1,?_,Au.2 ⟨_,_,rfl,q2,rfl⟩,h4,h5,h6,h7⟩
    simp only[Frame.finish]
    cases (ops[i]?).bind (·.dst) with
    |none=>exact h2
    |some d=>exact Tc hv d h2
  case inRangeFunc l=>
   obtain⟨b,hb,rfl⟩:=q1
   exact⟨h1,h2,Au.2 ⟨.endRangeFunc b,_,by simp[Xp,hb],q2,rfl⟩,h4,h5,h6,h7⟩
  case endRangeFunc l=>obtain⟨b,hb,rfl⟩:=q1;exact⟨h1,h2,h30,h4,h5,h6,h7⟩
  case beginRound=>cases q1;exact⟨h1,h2,q2,h4,h5,h6,h7⟩
  all_goals (cases q1;exact⟨h1,h2,h30,h4,h5,h6,h7⟩)
theorem Ns{args args':Array Value}(ha:Ai ρ args=some args')(f:FuncId)(k:CallKind):FrR ρ (Frame.enter P f args k) (Frame.enter P f args' k):=by
 have hs:=Ht ha
 refine⟨rfl,?_,by simp[Frame.enter,Gj,Xp],by simp[Frame.enter,Hc],by simp[Frame.enter,Ki],rfl,.inl ⟨rfl,rfl⟩⟩
 simp only[Frame.enter,hs]
 refine Dq ha ?_
 rw[Bz]
 simpa using Ut (Ku ρ) _
theorem ren_bool_inv{v:Value}{b:Bool}(hv:Ay ρ v=some (.bool b)):v=.bool b:=by
 cases v with
 |bool c=>simp[Ay]at hv;rw[hv]
 |pointer a=>cases a<;>simp[Ay]at hv
 |slice a n c=>cases a<;>simp[Ay,Option.bind_eq_some_iff]at hv
 |map r=>cases r<;>simp[Ay]at hv
 |chan r=>
  cases r with
  |none=>simp[Ay]at hv
  |some v=>
   simp only[Ay]at hv
   obtain⟨a,c,q⟩:=Uw hv
   cases q
 |_=>simp[Ay,Option.bind_eq_some_iff]at hv
theorem Hr{tm tm':Array Value}(ht:Ai ρ tm=some tm')(ops:Array Oper):yielded ops tm'=yielded ops tm:=by
 funext j
 unfold yielded
 cases (ops[j]?).bind (·.dst) with
 |none=>rfl
 |some d=>
  simp only[Option.bind_some]
  have hs:=Ht ht
  cases q:tm[d]? with
  |none=>
   have:tm'[d]? =none:=by
    simp at q ⊢;omega
   rw[this]
  |some v=>
   obtain⟨v',h1,h2⟩:=Sk d (Bz.1 ht) v (by simpa using q)
   have h3:tm'[d]? =some v':=by simpa using h1
   rw[h3]
   cases v with
   |bool b=>rw[ren_bool h2]
   |_=>
    cases v' with
    |bool b=>have:=ren_bool_inv h2;cases this
    |_=>rfl
theorem Zk(fr:Frame)(ds:List Deferred):fr.eval=({tmps:=fr.tmps,defers:=ds}:Act).eval:=by
 funext x
 cases x<;>rfl
theorem Zs{fr:Frame}{ops:Array Oper}{i:Nat}{rest:List Nat}{k:List Item}{o:Oper}(hm:fr.mode=.run)(ht:fr.todo=.inRegion ops (i::rest)::k)(ho:ops[i]? =some o)(hw:Region.wanted o (yielded ops fr.tmps)=true)
  (hr:fr.roundOf=none∨ ∀c,o.op≠.defer c):stepG P true {frame:=fr,callers:=cs,status:=.running,dying:=none} w=stepG.apply P true fr cs none (execOp fr.eval o) w:=by
 have hop:fr.oper? =some o:=by simp[Frame.oper?,ht,ho]
 simp only[stepG,hm,stepG.exec,ht,ho,Option.map_some,hw,Option.getD_some,if_true,stepG.oper,hop]
 split
 ·rename_i l c hro hc
  rcases hr with hr|hr
  ·rw[hr]at hro;cases hro
  ·exact absurd hc (hr c)
 ·rfl
end
end Go.AE
namespace Go.AE
open Go
structure SR (G:Nat) (ρ:Rho) (s:AS) (fr:Frame) (cs:List Frame) (w:World):Prop where
 fr:FrR ρ s.fr fr
 cs:FrRs ρ s.cs cs
 w:WR G ρ s.h w
def StepTo(P:Program)(G:Nat)(ρ:Rho)(s s':AS)(fr:Frame)(cs cs0:List Frame)(w:World):Prop:=
 ∃ρ' fr' cs' w',SR G ρ' s' fr' cs' w'∧Ext ρ s.h w ρ' s'.h w'∧Steps P (lone fr (cs++cs0) w) (lone fr' (cs'++cs0) w')
def Ky(P:Program)(G:Nat)(draw:Array Oper→Array Value→AH→Option (Array Value×AH)):Prop:=
 ∀ops tm h tm' h',draw ops tm h=some (tm',h')→ ∀(ρ:Rho) (fr:Frame) (cs:List Frame) (w:World) (k:List Item) (id:Nat),WR G ρ h w→Ai ρ tm=some fr.tmps→fr.mode=.run→
  fr.todo=.code (.region id ops true)::k→ ∃ρ' tmr w',WR G ρ' h' w'∧Ext ρ h w ρ' h' w'∧Ai ρ' tm'=some tmr∧Steps P (lone fr cs w) (lone {fr with tmps:=tmr,todo:=k} cs w')
def Dt(P:Program)(G:Nat)(nest:FuncId→Array Value→AH→Option (Value×AH)):Prop:=
 ∀f args h v h',nest f args h=some (v,h')→ ∀(ρ:Rho) (w:World) (args':Array Value),WR G ρ h w→Ai ρ args=some args'→
  Calls P f args' w fun e w'=> ∃ρ' v',e=.returned v'∧WR G ρ' h' w'∧Ext ρ h w ρ' h' w'∧Ay ρ' v=some v'
section
variable {P:Program} {G:Nat} {ρ:Rho} {h:AH} {w:World} {cs cs0:List Frame}
theorem renM_run{a b:Frame}(hf:FrR ρ a b)(hm:a.mode=.run):b.mode=.run:=by
 have:=hf.mode
 rw[hm]at this
 simpa [Ki] using this.symm
theorem FrRs.cons_inv{a:Frame}{l m:List Frame}(h:FrRs ρ (a::l) m): ∃b m',m=b::m'∧FrR ρ a b∧FrRs ρ l m':=by
 cases m with
 |nil=>exact h.elim
 |cons b m'=>exact⟨b,m',rfl,h.1,h.2⟩
theorem FrR.withTodo{a b:Frame}(hf:FrR ρ a b){k k':List Item}(hk:Gj ρ k=some k'):FrR ρ {a with todo:=k} {b with todo:=k'}:=⟨hf.fn,hf.tmps,hk,hf.defers,hf.mode,hf.kind,hf.round⟩
theorem FrR.withMode{a b:Frame}(hf:FrR ρ a b){k k':FrameMode}(hk:Ki ρ k=some k'):FrR ρ {a with mode:=k} {b with mode:=k'}:=⟨hf.fn,hf.tmps,hf.todo,hf.defers,hk,hf.kind,hf.round⟩
theorem FrR.withDefers{a b:Frame}(hf:FrR ρ a b){k k':List Deferred}(hk:Hc ρ k=some k'):FrR ρ {a with defers:=k} {b with defers:=k'}:=⟨hf.fn,hf.tmps,hf.todo,hk,hf.mode,hf.kind,hf.round⟩
theorem Aa1{a b:Frame}(hf:FrR ρ a b){c c':List PanicEntry}(hc:Mq ρ c=some c'):FrR ρ (a.raise c) (b.raise c'):=by
 have happ: ∀(x y x' y':List PanicEntry),Mq ρ x=some x'→Mq ρ y=some y'→Mq ρ (x++y)=some (x'++y'):=by
  intro x
  induction x with
  |nil=>intro y x' y' h1 h2;simp[Mq]at h1;subst h1;exact h2
  |cons p x ih=>
   intro y x' y' h1 h2
   simp only[Mq,List.cons_append,Option.bind_eq_some_iff,Option.map_eq_some_iff]at h1 ⊢
   obtain⟨v,q1,l,q2,rfl⟩:=h1
   exact⟨v,q1,l++y',ih y l y' q2 h2,rfl⟩
 have hm:=hf.mode
 unfold Frame.raise
 cases hma:a.mode with
 |run=>rw[hma]at hm;simp[Ki]at hm;rw[←hm];exact hf.withMode (by simp[Ki,hc])
 |returning=>rw[hma]at hm;simp[Ki]at hm;rw[←hm];exact hf.withMode (by simp[Ki,hc])
 |panicking ch=>
  rw[hma]at hm
  simp only[Ki,Option.map_eq_some_iff]at hm
  obtain⟨ch',h1,h2⟩:=hm
  rw[←h2]
  exact hf.withMode (by simp[Ki,happ _ _ _ _ hc h1])
theorem Wy{α:Type}(p:α→Bool): ∀l:List α,(∀x∈l,p x=true)→l.dropWhile p=[]
 |[],_=>rfl
 |x::l,h=>by
  rw[List.dropWhile_cons,h x (by simp)]
  exact Wy p l fun y hy=>h y (by simp[hy])
theorem settle_ren{c c':Frame}{d:Frame}(hf:FrR ρ c d)(hs:settleF c=some c'):FrR ρ c' (match d.mode with
        | .panicking ({recovered:=true,.. }::older)=>
          match older.dropWhile (!·.goexit) with
          |[]=>{d with mode:=.returning}
          |rest=>{d with mode:=.panicking rest}
        |_=>d):=by
 have hm:=hf.mode
 unfold settleF at hs
 split at hs
 ·rename_i p older hcm
  split at hs
  case isFalse=>cases hs
  rename_i hall
  cases hs
  rw[hcm]at hm
  simp only[Ki,Mq,Option.map_eq_some_iff,Option.bind_eq_some_iff]at hm
  obtain⟨ch',⟨v',_,l',hl',rfl⟩,h2⟩:=hm
  rw[←h2]
  have:l'.dropWhile (!·.goexit)=[]:=by
   refine Wy _ _ ?_
   have key: ∀(x x':List PanicEntry),Mq ρ x=some x'→x.all (fun p=> !p.goexit)=true→ ∀q∈x',(!q.goexit)=true:=by
    intro x
    induction x with
    |nil=>intro x' h1 _;simp[Mq]at h1;subst h1;simp
    |cons p x ih=>
     intro x' h1 h2
     simp only[Mq,Option.bind_eq_some_iff,Option.map_eq_some_iff]at h1
     obtain⟨v,q1,l,q2,rfl⟩:=h1
     simp only[List.all_cons,Bool.and_eq_true]at h2
     intro q hq
     rcases List.mem_cons.1 hq with rfl|hq
     ·exact h2.1
     ·exact ih l q2 h2.2 q hq
   exact key older l' hl' hall
  simp only[this]
  exact hf.withMode (by simp[Ki])
 ·rename_i hno
  cases hs
  have: ∀v' g l',d.mode≠.panicking (⟨v',true,g⟩::l'):=by
   intro v' g l' q
   rw[q]at hm
   cases hcm:c.mode with
   |run=>rw[hcm]at hm;simp[Ki]at hm
   |returning=>rw[hcm]at hm;simp[Ki]at hm
   |panicking ch=>
    rw[hcm]at hm
    simp only[Ki,Option.map_eq_some_iff]at hm
    obtain⟨ch',h1,h2⟩:=hm
    cases h2
    cases ch with
    |nil=>simp[Mq]at h1
    |cons p ch=>
     simp only[Mq,Option.bind_eq_some_iff,Option.map_eq_some_iff]at h1
     obtain⟨v,q1,l,q2,q3⟩:=h1
     injection q3 with q3 q4
     cases p with
     |mk pv pr pg=>
      simp only[PanicEntry.mk.injEq]at q3
      obtain⟨_,rfl,rfl⟩:=q3
      exact hno pv pg ch hcm
  split
  ·rename_i v' g l' q
   exact absurd q (this _ _ _)
  ·exact hf
theorem return_ok{a:Frame}{acs:List Frame}{h':AH}{s':AS}{fr:Frame}{v v':Value}{w':World}(hk:fr.kind=a.kind)(hcs:FrRs ρ acs cs)(hw:WR G ρ h' w')(ha:areturn a acs h' v=some s')(hv:Ay ρ v=some v'):
  s'.h=h'∧ ∃fr' cs',SR G ρ s' fr' cs' w'∧ ∀(main:Bool) (cs0:List Frame),doReturn P main fr (cs++cs0) none v' w'=.go {frame:=fr',callers:=cs'++cs0,status:=.running,dying:=none} w':=by
 unfold areturn at ha
 split at ha
 ·cases ha
 rename_i c rest
 obtain⟨d,m,rfl,hf,hr⟩:=hcs.cons_inv
 split at ha
 ·rename_i hkn
  cases ha
  refine⟨rfl,d.finish v',m,⟨Hq hf hv,hr,hw⟩,fun main cs0=> ?_⟩
  simp[doReturn,hk,hkn]
 ·rename_i hkd
  obtain⟨c',hs,he⟩:=Option.map_eq_some_iff.1 ha
  cases he
  refine⟨rfl,_,m,⟨settle_ren hf hs,hr,hw⟩,fun main cs0=> ?_⟩
  simp only[doReturn,hk,hkd,List.cons_append]
  rfl
 ·cases ha
end
end Go.AE
namespace Go.AE
open Go
section
variable {P:Program} {G:Nat} {ρ:Rho} {h:AH} {w:World} {cs cs0:List Frame}
theorem opstep_ok{s s':AS}{fr:Frame}{ops:Array Oper}{i:Nat}{rest:List Nat}{k:List Item}{o:Oper}{r:AR1}{hk:FuncId→Array Value→AH→Option (Value×AH)}(hhk:Dt P G hk)(H:SR G ρ s fr cs w)(hm:fr.mode=.run)(ht:fr.todo=.inRegion ops (i::rest)::k)
  (ho:ops[i]? =some o) (hw:Region.wanted o (yielded ops fr.tmps)=true) (hro:fr.roundOf=none∨ ∀c,o.op≠.defer c) (hr:Nt P G s.h ({tmps:=s.fr.tmps,defers:=[]}:Act).eval o=some r) (hs:Ng P hk s.fr s.cs s.h r=some s'):StepTo P G ρ s s' fr cs cs0 w:=by
 have hsim:=aop_ok H.w (a:={tmps:=s.fr.tmps,defers:=[]}) (b:={tmps:=fr.tmps,defers:=[]}) H.fr.tmps o hr
 rw[←Zk fr []]at hsim
 have hstep:=Zs (P:=P) (cs:=cs++cs0) (w:=w) hm ht ho hw hro
 obtain⟨fn,tmps,todo,defers,mode,kind,roundOf⟩:=fr
 simp only at ht hm
 subst ht
 subst hm
 cases r with
 |val v h'=>
  obtain⟨ρ',v',w',h1,h2,h3,h4⟩:=hsim
  cases hs
  have hf:=Hq (H.fr.mono h2.le) h3
  refine⟨ρ',_,cs,w',⟨hf,H.cs.mono h2.le,h1⟩,h2,.one (step_lone_go ?_)⟩
  rw[hstep]
  rcases h4 with h4|⟨h4,rfl⟩<;>simp[stepG.apply,h4]
 |enter f args=>
  obtain⟨hb,args',h1,h2⟩:=hsim
  simp only[Ng]at hs
  split at hs
  ·rename_i v h' hq
   cases hs
   obtain⟨e,w',fr',⟨ρ',v',rfl,c2,c3,c4⟩,c5,c6,c7⟩:=hhk f args s.h v h' hq ρ w args' H.w h1 (⟨fn,tmps,.inRegion ops (i::rest)::k,defers,.run,kind,roundOf⟩::(cs++cs0))
   refine⟨ρ',_,cs,w',⟨Hq (H.fr.mono c3.le) c4,H.cs.mono c3.le,c2⟩,c3,.head (step_lone_go (by rw[hstep];simp[stepG.apply,h2])) (c5.trans (.one (step_leave_returned c7)))⟩
  ·cases hs
   refine⟨ρ,_,_::cs,w,⟨Ns h1 f .normal,⟨H.fr,H.cs⟩,H.w⟩,Ext.refl _ _ _,.one (step_lone_go ?_)⟩
   rw[hstep]
   simp[stepG.apply,h2]
 |defer d=>
  obtain⟨d',h1,h2⟩:=hsim
  simp only[Ng]at hs
  split at hs
  case isFalse=>cases hs
  rename_i hrn
  cases hs
  have hd:Hc ρ (d::s.fr.defers)=some (d'::defers):=by
   have:=H.fr.defers
   simp only at this
   simp[Hc,h1,this]
  have hf:=Hq (H.fr.withDefers hd) (Ku ρ)
  refine⟨ρ,_,cs,w,⟨hf,H.cs,H.w⟩,Ext.refl _ _ _,.one (step_lone_go ?_)⟩
  rw[hstep]
  simp[stepG.apply,h2]
 |recover=>
  simp only[OpSim]at hsim
  simp only[Ng]at hs
  split at hs
  case isFalse=>cases hs
  rename_i hrn
  obtain⟨q,hq,rfl⟩:=Option.map_eq_some_iff.1 hs
  have hrn':roundOf=none:=by
   rcases H.fr.round with⟨_,h2⟩|⟨l,l',h1,_⟩
   ·exact h2
   ·rw[h1]at hrn;cases hrn
  subst hrn'
  have hk:=H.fr.kind
  simp only at hk
  have nofind: ∀v,(tryRecover ⟨fn,tmps,.inRegion ops (i::rest)::k,defers,.run,kind,none⟩ (cs++cs0))=none→q=(.nilIface,s.cs)→StepTo P G ρ s ⟨s.fr.finish q.1,q.2,s.h⟩ ⟨fn,tmps,.inRegion ops (i::rest)::k,defers,.run,kind,none⟩ cs cs0 w∧v=v:=fun (v:Nat) ht hq=>by
   subst hq
   refine⟨⟨ρ,_,cs,w,⟨Hq H.fr (v:=.nilIface) (v':=.nilIface) (by simp[Ay]),H.cs,H.w⟩,Ext.refl _ _ _,.one (step_lone_go ?_)⟩,rfl⟩
   rw[hstep]
   simp only[stepG.apply,Sem.runT_eq,if_true,hsim,GStep.bare_after]
   rw[ht]
   rfl
  unfold arecover at hq
  split at hq
  ·rename_i hkn
   cases hq
   exact (nofind 0 (by rw[hkn]at hk;simp[tryRecover,hk]) rfl).1
  ·rename_i c crest hkd hcs
   have hcr:=H.cs
   rw[hcs]at hcr
   obtain⟨d,m,rfl,hf,hr⟩:=hcr.cons_inv
   have hmd:=hf.mode
   rw[hkd]at hk
   split at hq
   ·rename_i v older hcm
    cases hq
    rw[hcm]at hmd
    simp only[Ki,Mq,Option.map_eq_some_iff,Option.bind_eq_some_iff]at hmd
    obtain⟨ch',⟨v',hv,l',hl,rfl⟩,h2⟩:=hmd
    refine⟨ρ,_,{d with mode:=.panicking ({v:=v',recovered:=true}::l')}::m,w,⟨Hq H.fr hv,⟨hf.withMode (by simp[Ki,Mq,hv,hl]),hr⟩,H.w⟩,Ext.refl _ _ _,.one (step_lone_go ?_)⟩
    rw[hstep]
    simp only[stepG.apply,Sem.runT_eq,if_true,hsim,GStep.bare_after]
    simp[tryRecover,hk,←h2]
   ·rename_i hno
    cases hq
    refine (nofind 0 ?_ (by rw[hcs])).1
    have: ∀v' l',d.mode≠.panicking (⟨v',false,false⟩::l'):=by
     intro v' l' q
     rw[q]at hmd
     cases hcm:c.mode with
     |run=>rw[hcm]at hmd;simp[Ki]at hmd
     |returning=>rw[hcm]at hmd;simp[Ki]at hmd
     |panicking ch=>
      rw[hcm]at hmd
      simp only[Ki,Option.map_eq_some_iff]at hmd
      obtain⟨ch',h1,h2⟩:=hmd
      cases h2
      cases ch with
      |nil=>simp[Mq]at h1
      |cons p ch=>
       simp only[Mq,Option.bind_eq_some_iff,Option.map_eq_some_iff]at h1
       obtain⟨v,q1,l,q2,q3⟩:=h1
       injection q3 with q3 q4
       cases p with
       |mk pv pr pg=>
        simp only[PanicEntry.mk.injEq]at q3
        obtain⟨_,rfl,rfl⟩:=q3
        exact hno pv ch hcm
    simp only[tryRecover,hk,List.cons_append]
  ·cases hq
 |panic v=>
  obtain⟨v',h1,h2⟩:=hsim
  cases hs
  refine⟨ρ,_,cs,w,⟨Aa1 H.fr (c:=[⟨v,false,false⟩]) (c':=[⟨v',false,false⟩]) (by simp[Mq,h1]),H.cs,H.w⟩,Ext.refl _ _ _,.one (step_lone_go ?_)⟩
  rw[hstep]
  simp[stepG.apply,h2]
 |round l f tm as bo=>
  obtain⟨l',tm',h1,h2,h3⟩:=hsim
  cases hs
  have hfr:FrR ρ (Frame.round l f tm as bo .normal) (Frame.round l' f tm' as bo .normal):=⟨rfl,h2,by simp[Frame.round,Gj,Xp],by simp[Frame.round,Hc],by simp[Frame.round,Ki],rfl,.inr ⟨l,l',rfl,rfl,h1⟩⟩
  refine⟨ρ,_,_::cs,w,⟨hfr,⟨H.fr,H.cs⟩,H.w⟩,Ext.refl _ _ _,.one (step_lone_go ?_)⟩
  rw[hstep]
  simp[stepG.apply,h3]
theorem run_aload{ρ:Rho}{h:AH}(H:WR G ρ h w){t:TypeId}{a b:Addr}{v:Value}(hv:Vf P h t a=some v)(hb:Eg ρ a=some b): ∃v',Ay ρ v=some v'∧(loadVar t b).run P w=.ok v' w:=by
 obtain⟨v',h1,h2⟩:=load_ok H hv hb
 exact⟨v',h1,h2 w fun _ _=>rfl⟩
theorem ares_ok{ρ:Rho}{h:AH}(H:WR G ρ h w){tm tm':Array Value}(ht:Ai ρ tm=some tm'): ∀{l:List ResultVar} {vs:List Value},aresL P h tm l=some vs→
  ∃vs',Bb ρ vs=some vs'∧(l.mapM fun| .tmp t=>pure (tm'.getD t undef)| .cell a t=>do loadVar t (←asAddr (tm'.getD a undef)):Sem (List Value)).run P w=.ok vs' w
 |[],vs,q=>by simp[aresL]at q;subst q;exact⟨[],by simp[Bb],by simp⟩
 |r::l,vs,q=>by
  simp only[aresL,Option.bind_eq_some_iff,Option.map_eq_some_iff]at q
  obtain⟨v,hv,vs0,hvs,rfl⟩:=q
  obtain⟨vs',h1,h2⟩:=ares_ok H ht hvs
  cases r with
  |tmp t=>
   simp only[ares1,Option.some.injEq]at hv
   subst hv
   refine⟨_::vs',Cd.2 ⟨_,_,Vc ht t,h1,rfl⟩,?_⟩
   simp only[List.mapM_cons,Sem.run_bind,Sem.run_pure,Result.andThen_ok]
   erw [h2]
   rfl
  |cell a t=>
   simp only[ares1]at hv
   split at hv
   case h_2=>cases hv
   rename_i ad hce
   have hx:=Vc ht a
   rw[hce]at hx
   obtain⟨b,hb,hx'⟩:=Kc hx
   obtain⟨v',h3,h4⟩:=run_aload H hv hb
   refine⟨v'::vs',Cd.2 ⟨_,_,h3,h1,rfl⟩,?_⟩
   simp only[List.mapM_cons,Sem.run_bind,hx',asAddr,Sem.run_pure,Result.andThen_ok,h4]
   erw [h2]
   rfl
theorem results_ok{ρ:Rho}{h:AH}(H:WR G ρ h w){fn:Func}{tm tm':Array Value}(ht:Ai ρ tm=some tm'){v:Value}(hv:aresults P h fn tm=some v): ∃v',Ay ρ v=some v'∧(results fn tm').run P w=.ok v' w:=by
 obtain⟨vs,hvs,rfl⟩:=Option.map_eq_some_iff.1 hv
 obtain⟨vs',h1,h2⟩:=ares_ok H ht hvs
 have hlen:=Dj h1
 refine⟨one vs',?_,?_⟩
 ·unfold one
  split
  ·rename_i v0
   obtain⟨v',l',q1,q2,rfl⟩:=Cd.1 h1
   simp[Bb]at q2;subst q2
   exact q1
  ·rename_i hno
   have:Ai ρ vs.toArray=some vs'.toArray:=Bz.2 (by simpa using h1)
   split
   ·rename_i v0
    exfalso
    cases vs with
    |nil=>simp at hlen
    |cons x xs=>cases xs with
     |nil=>exact hno x rfl
     |cons y ys=>simp at hlen
   ·simp[Ay,this]
 ·have hrun:(fn.results.mapM (fun| .tmp t=>pure (tm'.getD t undef)| .cell a t=>do loadVar t (←asAddr (tm'.getD a undef))):Sem (Array Value)).run P w=.ok vs'.toArray w:=by
   rw[←Array.toArray_toList (xs:=fn.results),List.mapM_toArray,Sem.run_map]
   erw [h2]
   rfl
  unfold results
  rw[Sem.run_bind]
  erw [hrun]
  simp only[Result.andThen_ok,Sem.run_pure]
  congr 1
  unfold one
  split
  ·rename_i hsz
   split
   ·simp
   ·rename_i hno
    exfalso
    cases vs' with
    |nil=>simp at hsz
    |cons x xs=>cases xs with
     |nil=>exact hno x rfl
     |cons y ys=>simp at hsz
  ·rename_i hsz
   split
   ·simp at hsz
   ·rfl
end
end Go.AE
namespace Go.AE
open Go
section
variable {P:Program} {G:Nat} {ρ:Rho} {h:AH} {w:World} {cs cs0:List Frame}
theorem Ya{s s':AS}{fr:Frame}(H:SR G ρ s fr cs w)(_hm:fr.mode=.run){jump:Option Code}(ha:aleave s.fr s.cs s.h jump=some s')
  (hex: ∀w,stepG P true {frame:=fr,callers:=cs++cs0,status:=.running,dying:=none} w=
   (match fr.roundOf with
   |none=>if jump matches none|some .ret then GStep.go {frame:={fr with mode:=.returning},callers:=cs++cs0,status:=.running,dying:=none} w else .ended (.stuck "exit, goto: no such block or label" (fr.pos P)) w
   |some l=>
    let (r,es):=(Instr.endRound l jump).runT P w #[]
    GStep.after (seen P fr.fn es)<|match r with
    | .ok v w=>doReturn P true fr (cs++cs0) none v w
    | .halt _ w=>.ended (.stuck "range over a function: no such loop" (fr.pos P)) w)):StepTo P G ρ s s' fr cs cs0 w:=by
 unfold aleave at ha
 rcases H.fr.round with⟨h1,h2⟩|⟨l,l',h1,h2,h3⟩
 ·rw[h1]at ha
  simp only at ha
  split at ha
  all_goals first|(cases ha;done)|skip
  all_goals
   cases ha
   refine⟨ρ,{fr with mode:=.returning},cs,w,⟨⟨H.fr.fn,H.fr.tmps,H.fr.todo,H.fr.defers,by simp[Ki],H.fr.kind,.inl ⟨rfl,h2⟩⟩,H.cs,H.w⟩,Ext.refl _ _ _,.one (step_lone_go ?_)⟩
   rw[hex,h2]
   simp
 ·rw[h1]at ha
  simp only at ha
  split at ha
  case h_2=>cases ha
  rename_i r hg
  obtain⟨b,x,q1,q2,q3⟩:=H.w.obj _ _ hg
  rw[h3]at q1;cases q1
  cases x<;>simp only[ObjR]at q3
  rename_i r'
  obtain⟨r1,r2,r3,r4,r5,r6,r7,r8⟩:=q3
  have hset:=H.w.set (w':={w with heap:=w.heap.setIfInBounds l' (.loop {r' with state:=if jump.isNone then .ready else .done,pending:=jump})}) (o':=.loop {r with state:=if jump.isNone then .ready else .done,pending:=jump}) hg h3 rfl
   (by simp only[ObjR];exact⟨trivial,trivial,r3,r4,r5,r6,r7,r8⟩)
  have hext:=Ext.set (w':={w with heap:=w.heap.setIfInBounds l' (.loop {r' with state:=if jump.isNone then .ready else .done,pending:=jump})}) (x':=.loop {r' with state:=if jump.isNone then .ready else .done,pending:=jump}) (o':=.loop {r with state:=if jump.isNone then .ready else .done,pending:=jump}) H.w hg rfl h3 rfl rfl rfl rfl
  obtain⟨e1,fr',cs',hsr,hret⟩:=return_ok (P:=P) (fr:=fr) H.fr.kind H.cs hset ha (v':=.bool jump.isNone) (by simp[Ay])
  refine⟨ρ,fr',cs',_,hsr,by rw[e1];exact hext,.one (step_lone_go ?_)⟩
  rw[hex,h2]
  have hgo:(getObj l').run P w=.ok (.loop r') w:=by simp[getObj,Sem.run,q2]
  have hrun:(Instr.endRound l' jump).run P w=.ok (.bool jump.isNone) {w with heap:=w.heap.setIfInBounds l' (.loop {r' with state:=if jump.isNone then .ready else .done,pending:=jump})}:=by
   simp only[Instr.endRound,Instr.getLoop,Sem.run_bind,hgo,Result.andThen_ok,Sem.run_pure]
   simp[setObj,Sem.run,q2]
  simp only[Sem.runT_eq,hrun,GStep.bare_after,hret]
  try rfl
theorem unwind_ok{s s':AS}{fr:Frame}(H:SR G ρ s fr cs w)(hm:fr.mode≠.run)(ha:aunwind P s.fr s.cs s.h=some s'):StepTo P G ρ s s' fr cs cs0 w:=by
 have hst: ∀w,stepG P true {frame:=fr,callers:=cs++cs0,status:=.running,dying:=none} w=unwind P true fr (cs++cs0) none w:=fun w=>by
  simp only[stepG]
 unfold aunwind at ha
 have hdf:=H.fr.defers
 split at ha
 ·rename_i d ds hds
  rw[hds]at hdf
  simp only[Hc,Option.bind_eq_some_iff,Option.map_eq_some_iff]at hdf
  obtain⟨d',hd,ds',hds',hdf⟩:=hdf
  simp only[renD,Option.bind_eq_some_iff,Option.map_eq_some_iff]at hd
  obtain⟨t',ht,args',hargs,rfl⟩:=hd
  split at ha
  ·rename_i blk htg
   rw[htg]at ht
   simp only[renT,Option.map_eq_some_iff]at ht
   obtain⟨b,hb,rfl⟩:=ht
   split at ha
   case h_2=>cases ha
   rename_i cl hg
   cases ha
   obtain⟨b',x,q1,q2,q3⟩:=H.w.obj _ _ hg
   rw[hb]at q1;cases q1
   cases x<;>simp only[ObjR]at q3
   rename_i calls
   cases calls with
   |none=>simp only at q3
   |some cl'=>
    simp only at q3
    have hset:=H.w.set (w':={w with heap:=w.heap.setIfInBounds b (.deferred none)}) (o':=.defd none) hg hb rfl (by simp only[ObjR])
    have hext:=Ext.set (w':={w with heap:=w.heap.setIfInBounds b (.deferred none)}) (x':=.deferred none) (o':=.defd none) H.w hg rfl hb rfl rfl rfl rfl
    have happ: ∀(x y x' y':List Deferred),Hc ρ x=some x'→Hc ρ y=some y'→Hc ρ (x++y)=some (x'++y'):=by
     intro x
     induction x with
     |nil=>intro y x' y' h1 h2;simp[Hc]at h1;subst h1;exact h2
     |cons p x ih=>
      intro y x' y' h1 h2
      simp only[Hc,List.cons_append,Option.bind_eq_some_iff,Option.map_eq_some_iff]at h1 ⊢
      obtain⟨v,q1,l,q2,rfl⟩:=h1
      exact⟨v,q1,l++y',ih y l y' q2 h2,rfl⟩
    refine⟨ρ,{fr with defers:=cl'++ds'},cs,_,⟨H.fr.withDefers (happ _ _ _ _ q3 hds'),H.cs,hset⟩,hext,.one (step_lone_go ?_)⟩
    rw[hst]
    have hrun:(Instr.takeDeferred b).run P w=.ok cl' {w with heap:=w.heap.setIfInBounds b (.deferred none)}:=by
     simp[Instr.takeDeferred,getObj,setObj,Sem.run,q2]
    simp[unwind,←hdf,hrun]
  ·rename_i f cap htg
   rw[htg]at ht
   simp only[renT,To,Option.bind_eq_some_iff,Option.map_eq_some_iff]at ht
   obtain⟨fn',hfn,cap',hcap,rfl⟩:=ht
   cases hfn
   split at ha
   case isFalse=>cases ha
   rename_i hb
   cases ha
   have hcat:=Dq hargs hcap
   refine⟨ρ,_,{fr with defers:=ds'}::cs,w,⟨Ns hcat f .deferred,⟨H.fr.withDefers hds',H.cs⟩,H.w⟩,Ext.refl _ _ _,.one ?_⟩
   have hinv:(invoke (.fn (.func f) cap') args').run P w=.ok (.enter f (args'++cap')) w:=by simp[invoke,Mx hb]
   exact step_defer hm hdf.symm rfl hinv
  ·cases ha
 ·rename_i hds
  rw[hds]at hdf
  simp[Hc]at hdf
  split at ha
  ·cases ha
  rename_i fn hfn
  have hfn':P.funcs[fr.fn]? =some fn:=by rw[H.fr.fn];exact hfn
  have hmd:=H.fr.mode
  split at ha
  ·cases ha
  ·rename_i chain hmc
   rw[hmc]at hmd
   simp only[Ki,Option.map_eq_some_iff]at hmd
   obtain⟨ch',hch,hmd⟩:=hmd
   split at ha
   case h_2=>cases ha
   rename_i c rest hcs
   cases ha
   have hcr:=H.cs
   rw[hcs]at hcr
   obtain⟨d,m,rfl,hf,hr⟩:=hcr.cons_inv
   refine⟨ρ,d.raise ch',m,w,⟨Aa1 hf hch,hr,H.w⟩,Ext.refl _ _ _,.one (step_lone_go ?_)⟩
   rw[hst]
   simp[unwind,hdf,←hmd,Frame.catches,hfn']
  ·rename_i hmc
   rw[hmc]at hmd
   simp only[Ki,Option.some.injEq]at hmd
   obtain⟨v,hv,ha⟩:=Option.bind_eq_some_iff.1 ha
   obtain⟨v',h1,h2⟩:=results_ok H.w H.fr.tmps hv
   obtain⟨e1,fr',cs',hsr,hret⟩:=return_ok (P:=P) (fr:=fr) H.fr.kind H.cs H.w ha h1
   refine⟨ρ,fr',cs',w,hsr,by rw[e1];exact Ext.refl _ _ _,.one (step_lone_go ?_)⟩
   rw[hst]
   simp only[unwind,hdf,←hmd,hfn',Sem.runT_eq,h2,GStep.bare_after,hret]
   rfl
end
end Go.AE
namespace Go.AE
open Go
section
variable {P:Program} {G:Nat} {ρ:Rho} {h:AH} {w:World} {cs cs0:List Frame}
theorem notDefer{o:Oper}(h:Gv o.op=false): ∀c,o.op≠.defer c:=fun c q=>by rw[q]at h;cases h
theorem rangeFunc_ok{s s':AS}{fr:Frame}(H:SR G ρ s fr cs w)(hm:fr.mode=.run){f:Operand}{params:Array Tmp}{assign body:Code}{k k':List Item}(hta:s.fr.todo=.code (.rangeFunc f params assign body)::k)(ht:fr.todo=.code (.rangeFunc f params assign body)::k')(hk:Gj ρ k=some k')
  {g:FuncId} {first cap:Array Value} (hro:s.fr.roundOf=none) (hok:Ww G f=true) (hf:({tmps:=s.fr.tmps,defers:=[]}:Act).eval f=.func (.func g) first cap) (hb:Nj P g=true)
  (hs:s'=⟨Frame.enter P g (first++ #[.func (.yield (s.h.push (.defd (some []))).next) #[] #[]]++cap) .normal,{s.fr with todo:=.inRangeFunc (s.h.push (.defd (some []))).next::k,defers:={target:=.collected s.h.next,args:= #[]}::s.fr.defers}::s.cs,
   (s.h.push (.defd (some []))).push (.loop {state:=.ready,pending:=none,fn:=s.fr.fn,tmps:=s.fr.tmps,params,assign,body,defers:=s.h.next})⟩):StepTo P G ρ s s' fr cs cs0 w:=by
 subst hs
 have hro':fr.roundOf=none:=by
  rcases H.fr.round with⟨_,h2⟩|⟨l,l',h1,_⟩
  ·exact h2
  ·rw[hro]at h1;cases h1
 have hev:=Aa0 H.w (a:={tmps:=s.fr.tmps,defers:=[]}) (b:={tmps:=fr.tmps,defers:=[]}) H.fr.tmps hok
 rw[hf,←Zk fr []]at hev
 simp only[Ay,To,Option.bind_eq_some_iff,Option.map_eq_some_iff]at hev
 obtain⟨fn',hfn,first',hfirst,cap',hcap,hev⟩:=hev
 cases hfn

 let ρ1:=ρ.bind s.h.next w.heap.size none
 let h1:=s.h.push (.defd (some []))
 let w1:World:={w with heap:=w.heap.push (.deferred (some []))}
 have W1:WR G ρ1 h1 w1:=H.w.alloc _ _ none rfl (by simp[ObjR,Hc])
 have E1:Ext ρ s.h w ρ1 h1 w1:=Ext.alloc H.w _ (.deferred (some [])) none rfl rfl rfl rfl
 let lp:Loop:={state:=.ready,pending:=none,fn:=fr.fn,tmps:=fr.tmps,params,assign,body,defers:=w.heap.size}
 let w2:World:={w1 with heap:=w1.heap.push (.loop lp)}
 let ρ2:=ρ1.bind h1.next w1.heap.size none
 have hle2:ρ1.le ρ2:=Rho.le_bind (W1.fresh _ (Nat.le_refl _)) _ _
 have W2:WR G ρ2 (h1.push (.loop {state:=.ready,pending:=none,fn:=s.fr.fn,tmps:=s.fr.tmps,params,assign,body,defers:=s.h.next})) w2:=by
  refine W1.alloc _ _ none rfl ?_
  simp only[ObjR]
  refine⟨rfl,rfl,H.fr.fn,Bx (Rho.le_trans E1.le hle2) _ _ H.fr.tmps,rfl,rfl,rfl,?_⟩
  exact (hle2 s.h.next w.heap.size (by simp[ρ1,Rho.bind])).1
 have E2:Ext ρ1 h1 w1 ρ2 (h1.push (.loop {state:=.ready,pending:=none,fn:=s.fr.fn,tmps:=s.fr.tmps,params,assign,body,defers:=s.h.next})) w2:=Ext.alloc W1 _ (.loop lp) none rfl rfl rfl rfl
 have E:=E1.trans E2
 have hl:ρ2.blk h1.next=some w1.heap.size:=by simp[ρ2,Rho.bind]
 have hd:ρ2.blk s.h.next=some w.heap.size:=(hle2 _ _ (by simp[ρ1,Rho.bind])).1
 have hargs:Ai ρ2 (first++ #[.func (.yield h1.next) #[] #[]]++cap)=some (first'++ #[.func (.yield w1.heap.size) #[] #[]]++cap'):=by
  refine Dq (Dq (Bx E.le _ _ hfirst) ?_) (Bx E.le _ _ hcap)
  simp[Ai,Bb,Ay,To,hl]
 have hcaller:FrR ρ2 {s.fr with todo:=.inRangeFunc h1.next::k,defers:={target:=.collected s.h.next,args:= #[]}::s.fr.defers} {fr with todo:=.inRangeFunc w1.heap.size::k',defers:={target:=.collected w.heap.size,args:= #[]}::fr.defers}:=by
  have hdd:=Sx E.le H.fr.defers
  refine⟨H.fr.fn,Bx E.le _ _ H.fr.tmps,?_,?_,renM_mono E.le H.fr.mode,H.fr.kind,.inl ⟨hro,hro'⟩⟩
  ·exact Au.2 ⟨_,_,by simp[Xp,hl],Sy E.le hk,rfl⟩
  ·simp[Hc,renD,renT,hd,Ai,Bb,hdd]
 refine⟨ρ2,_,_::cs,w2,⟨Ns hargs g .normal,⟨hcaller,H.cs.mono E.le⟩,W2⟩,E,.one (step_lone_go ?_)⟩
 have hrun:(Instr.enterLoop fr.fn fr.tmps params assign body fr.roundOf).run P w=.ok (w1.heap.size,[{target:=.collected w.heap.size,args:= #[]}]) w2:=by
  rw[hro']
  simp[Instr.enterLoop,w1,w2,lp]
 simp only[stepG,hm,stepG.exec,ht,Sem.runT_eq,hrun,GStep.bare_after]
 have hrun2: ∀fr2:Frame,fr2.eval f=.func (.func g) first' cap'→(do let d ←resolve fr2.eval {callee:=.value f,args:= #[.const (.func (.yield w1.heap.size) #[] #[])],argTypes:= #[]} 0;invoke d.target d.args:Sem Next).run P w2=.ok (.enter g (first'++ #[.func (.yield w1.heap.size) #[] #[]]++cap')) w2:=fun fr2 hf2=>by
  have hc: ∀v:Value,fr2.eval (.const v)=v:=fun _=>rfl
  simp only[resolve,List.map_toArray,List.map_cons,List.map_nil,hf2,hc,Deferred.ofValue,Sem.run_bind,Sem.run_pure,Result.andThen_ok,invoke,Mx hb]
 have hr3:=hrun2 {fr with todo:=.inRangeFunc w1.heap.size::k',defers:=[{target:=.collected w.heap.size,args:= #[]}]++fr.defers} (by
  have:({fr with todo:=.inRangeFunc w1.heap.size::k',defers:=[{target:=.collected w.heap.size,args:= #[]}]++fr.defers}:Frame).eval f=fr.eval f:=by cases f<;>rfl
  rw[this,←hev])
 simp only[stepG.apply,Sem.runT_eq,if_true,hm]at hr3 ⊢
 rw[hr3]
 simp only[GStep.bare_after]
 rfl
theorem Sv{hk:FuncId→Array Value→AH→Option (Value×AH)}(hhk:Dt P G hk){draw:Array Oper→Array Value→AH→Option (Array Value×AH)}(hdraw:Ky P G draw){s s':AS}{fr:Frame}(H:SR G ρ s fr cs w)(hs:Up P G hk draw s=some s'):StepTo P G ρ s s' fr cs cs0 w:=by
 unfold Up at hs
 split at hs
 case h_2=>
  rename_i hno
  refine unwind_ok H (fun q=>hno ?_) hs
  have hmd:=H.fr.mode
  rw[q]at hmd
  cases hmm:s.fr.mode with
  |run=>rfl
  |returning=>rw[hmm]at hmd;simp[Ki]at hmd
  |panicking c=>rw[hmm]at hmd;simp[Ki]at hmd
 rename_i hma
 have hm:=renM_run H.fr hma
 split at hs
 ·
  rename_i k hk
  split at hs
  case isFalse=>cases hs
  rename_i hok
  cases hs
  obtain⟨k',h1,h2⟩:=ctl_ren (ρ:=ρ) (ev':=fr.eval) (fun c x y k0 q=>by
   rw[q]at hok
   rw[Zk fr []]
   exact Aa0 H.w H.fr.tmps hok) H.fr.todo hk
  exact⟨ρ,{fr with todo:=k'},cs,w,⟨H.fr.withTodo h2,H.cs,H.w⟩,Ext.refl _ _ _,.one (step_ctl hm h1)⟩
 ·rename_i hctl
  have htd:=H.fr.todo
  split at hs
  ·
   rename_i ops i rest k hta
   rw[hta]at htd
   obtain⟨x',k',q1,q2,ht⟩:=Au.1 htd
   cases q1
   split at hs
   case h_2=>cases hs
   rename_i o ho
   have hy:=Hr H.fr.tmps ops
   split at hs
   ·rename_i hw
    split at hs
    ·cases hs
    rename_i hdf
    obtain⟨r,hr,hs⟩:=Option.bind_eq_some_iff.1 hs
    refine opstep_ok hhk H hm ht ho (by rw[hy];exact hw) ?_ hr hs
    rcases H.fr.round with⟨_,h2⟩|⟨l,l',h1,_⟩
    ·exact .inl h2
    ·refine .inr (notDefer ?_)
     rw[h1]at hdf
     simpa using hdf
   ·rename_i hw
    cases hs
    refine⟨ρ,fr.finish undef,cs,w,⟨Hq H.fr (Ku ρ),H.cs,H.w⟩,Ext.refl _ _ _,.one (step_lone_go ?_)⟩
    have hw':Region.wanted o (yielded ops fr.tmps)=false:=by rw[hy];simpa using hw
    simp[stepG,hm,stepG.exec,ht,ho,hw']
  ·rename_i k hta
   rw[hta]at htd
   obtain⟨x',k',q1,q2,ht⟩:=Au.1 htd
   cases q1
   exact Ya H hm hs fun w=>by simp only[stepG,hm,stepG.exec,ht];rfl
  ·rename_i hta
   rw[hta]at htd
   simp[Gj]at htd
   exact Ya H hm hs fun w=>by simp only[stepG,hm,stepG.exec,htd];rfl
  ·rename_i id k hta
   rw[hta]at htd
   obtain⟨x',k',q1,q2,ht⟩:=Au.1 htd
   cases q1
   have hn:exitTo id k'=none:=Mi q2 (by rw[hta]at hctl;exact hctl)
   exact Ya H hm hs fun w=>by simp only[stepG,hm,stepG.exec,ht,hn,Option.elim_none];rfl
  ·rename_i l k hta
   rw[hta]at htd
   obtain⟨x',k',q1,q2,ht⟩:=Au.1 htd
   cases q1
   have hn:gotoIn l k'=none:=Mj q2 (by rw[hta]at hctl;exact hctl)
   exact Ya H hm hs fun w=>by simp only[stepG,hm,stepG.exec,ht,hn,Option.elim_none];rfl
  ·rename_i id ops k hta
   rw[hta]at htd
   obtain⟨x',k',q1,q2,ht⟩:=Au.1 htd
   cases q1
   obtain⟨r,hr,rfl⟩:=Option.map_eq_some_iff.1 hs
   obtain⟨ρ',tmr,w',h1,h2,h3,h4⟩:=hdraw ops s.fr.tmps s.h r.1 r.2 hr ρ fr (cs++cs0) w k' id H.w H.fr.tmps hm ht
   have hf:=H.fr.mono h2.le
   exact⟨ρ',{fr with tmps:=tmr,todo:=k'},cs,w',⟨⟨hf.fn,h3,Sy h2.le q2,hf.defers,hf.mode,hf.kind,hf.round⟩,H.cs.mono h2.le,h1⟩,h2,h4⟩
  ·rename_i f params assign body k hta
   rw[hta]at htd
   obtain⟨x',k',q1,q2,ht⟩:=Au.1 htd
   cases q1
   split at hs
   case h_2=>cases hs
   rename_i g first cap hro hok hf
   split at hs
   case isFalse=>cases hs
   rename_i hb
   exact rangeFunc_ok H hm hta ht q2 hro hok hf hb (Option.some.inj hs).symm
  ·rename_i k hta
   rw[hta]at htd
   obtain⟨x',k',q1,q2,ht⟩:=Au.1 htd
   cases q1
   split at hs
   case h_2=>cases hs
   rename_i l hro
   split at hs
   case h_2=>cases hs
   rename_i r hg
   split at hs
   case isFalse=>cases hs
   rename_i hst
   cases hs
   rcases H.fr.round with⟨h1,_⟩|⟨l0,l',h1,h2,h3⟩
   ·rw[hro]at h1;cases h1
   rw[hro]at h1;cases h1
   obtain⟨b,x,p1,p2,p3⟩:=H.w.obj _ _ hg
   rw[h3]at p1;cases p1
   cases x<;>simp only[ObjR]at p3
   rename_i r'
   obtain⟨r1,r2,r3,r4,r5,r6,r7,r8⟩:=p3
   have hset:=H.w.set (w':={w with heap:=w.heap.setIfInBounds l' (.loop {r' with state:=.busy})}) (o':=.loop {r with state:=.busy}) hg h3 rfl (by simp only[ObjR];exact⟨trivial,r2,r3,r4,r5,r6,r7,r8⟩)
   have hext:=Ext.set (w':={w with heap:=w.heap.setIfInBounds l' (.loop {r' with state:=.busy})}) (x':=.loop {r' with state:=.busy}) (o':=.loop {r with state:=.busy}) H.w hg rfl h3 rfl rfl rfl rfl
   refine⟨ρ,fr.finish undef,cs,_,⟨Hq H.fr (Ku ρ),H.cs,hset⟩,hext,.one (step_lone_go ?_)⟩
   have hgo:(getObj l').run P w=.ok (.loop r') w:=by simp[getObj,Sem.run,p2]
   have hready:r'.state=.ready:=by rw[r1];simpa using hst
   have hrun:(do fr.roundOf.elim (stuck "beginRound: no round") Instr.beginRound;pure .skip:Sem Next).run P w=.ok .skip {w with heap:=w.heap.setIfInBounds l' (.loop {r' with state:=.busy})}:=by
    rw[h2]
    simp only[Option.elim_some,Instr.beginRound,Instr.getLoop,Sem.run_bind,hgo,Result.andThen_ok,Sem.run_pure,hready]
    simp[setObj,Sem.run,p2]
   simp only[stepG,hm,stepG.exec,ht]
   simp only[stepG.apply,Sem.runT_eq,if_true,hrun,GStep.bare_after]
   rfl
  ·rename_i l k hta
   rw[hta]at htd
   obtain⟨x',k',q1,q2,ht⟩:=Au.1 htd
   simp only[Xp,Option.map_eq_some_iff]at q1
   obtain⟨l',h3,rfl⟩:=q1
   split at hs
   case h_2=>cases hs
   rename_i r hg
   split at hs
   ·cases hs
   rename_i hst
   cases hs
   obtain⟨b,x,p1,p2,p3⟩:=H.w.obj _ _ hg
   rw[h3]at p1;cases p1
   cases x<;>simp only[ObjR]at p3
   rename_i r'
   obtain⟨r1,r2,r3,r4,r5,r6,r7,r8⟩:=p3
   have hset:=H.w.set (w':={w with heap:=w.heap.setIfInBounds l' (.loop {r' with state:=.exhausted})}) (o':=.loop {r with state:=.exhausted}) hg h3 rfl (by simp only[ObjR];exact⟨trivial,r2,r3,r4,r5,r6,r7,r8⟩)
   have hext:=Ext.set (w':={w with heap:=w.heap.setIfInBounds l' (.loop {r' with state:=.exhausted})}) (x':=.loop {r' with state:=.exhausted}) (o':=.loop {r with state:=.exhausted}) H.w hg rfl h3 rfl rfl rfl rfl
   have htodo:Gj ρ ((r.pending.map Item.code).toList++k)=some ((r'.pending.map Item.code).toList++k'):=by
    rw[r2]
    cases r.pending with
    |none=>exact q2
    |some c=>exact Au.2 ⟨_,_,rfl,q2,rfl⟩
   refine⟨ρ,{fr with todo:=(r'.pending.map Item.code).toList++k'},cs,_,⟨H.fr.withTodo htodo,H.cs,hset⟩,hext,.one (step_lone_go ?_)⟩
   have hgo:(getObj l').run P w=.ok (.loop r') w:=by simp[getObj,Sem.run,p2]
   have hbusy:(r'.state==.busy)=false:=by rw[r1];simpa using hst
   have hrun:(Instr.endLoop l').run P w=.ok r'.pending {w with heap:=w.heap.setIfInBounds l' (.loop {r' with state:=.exhausted})}:=by
    simp only[Instr.endLoop,Instr.getLoop,Sem.run_bind,hgo,Result.andThen_ok,Sem.run_pure,hbusy]
    simp[setObj,Sem.run,p2]
   simp only[stepG,hm,stepG.exec,ht,Sem.runT_eq,hrun,GStep.bare_after]
   rfl
  ·cases hs
end
end Go.AE
namespace Go.AE
open Go
mutual
def So:Value→Value→Bool
 | .bool a,.bool b=>a==b
 | .int k n,.int k' n'=>decide (k=k')&&decide (n=n')
 | .string a,.string b=>decide (a.data.toList=b.data.toList)
 | .pointer a,.pointer b=>decide (a=b)
 | .slice a n c,.slice b m d=>decide (a=b)&&(n.beq m&&c.beq d)
 | .map a,.map b=>decide (a=b)
 | .chan a,.chan b=>decide (a=b)
 | .func f x y,.func g z u=>decide (f=g)&&(veqA x z&&veqA y u)
 | .nilFunc,.nilFunc=>true
 | .iface t v,.iface u x=>t.beq u&&So v x
 | .nilIface,.nilIface=>true
 | .agg x,.agg y=>veqA x y
 | .tuple x,.tuple y=>veqA x y
 |_,_=>false
def veqA:Array Value→Array Value→Bool
 |⟨x⟩,⟨y⟩=>Zm x y
def Zm:List Value→List Value→Bool
 |[],[]=>true
 |v::l,u::m=>So v u&&Zm l m
 |_,_=>false
end
mutual
theorem veq_sound: ∀a b,So a b=true→a=b
 | .bool a,.bool b,h=>by simp[So]at h;rw[h]
 | .int k n,.int k' n',h=>by simp[So]at h;rw[h.1,h.2]
 | .string a,.string b,h=>by
   simp only[So,decide_eq_true_eq]at h
   congr 1
   cases a;cases b
   simp at h
   rw[h]
 | .pointer a,.pointer b,h=>by simp[So]at h;rw[h]
 | .slice a n c,.slice b m d,h=>by simp[So]at h;rw[h.1,h.2.1,h.2.2]
 | .map a,.map b,h=>by simp[So]at h;rw[h]
 | .func f x y,.func g z u,h=>by
   simp only[So,Bool.and_eq_true,decide_eq_true_eq]at h
   rw[h.1,Qi x z h.2.1,Qi y u h.2.2]
 | .nilFunc,.nilFunc,_=>rfl
 | .iface t v,.iface u x,h=>by
   simp only[So,Bool.and_eq_true]at h
   rw[Nat.eq_of_beq_eq_true h.1,veq_sound v x h.2]
 | .nilIface,.nilIface,_=>rfl
 | .agg x,.agg y,h=>by
   simp only[So]at h
   rw[Qi x y h]
 | .tuple x,.tuple y,h=>by
   simp only[So]at h
   rw[Qi x y h]
 | .bool _,.int ..,h| .bool _,.float ..,h| .bool _,.complex ..,h| .bool _,.string ..,h| .bool _,.pointer ..,h| .bool _,.slice ..,h| .bool _,.map ..,h| .bool _,.chan ..,h| .bool _,.func ..,h| .bool _,.nilFunc,h| .bool _,.iface ..,h| .bool _,.nilIface,h| .bool _,.agg ..,h| .bool _,.tuple ..,h=>by simp[So]at h
 | .int ..,.bool ..,h| .int ..,.float ..,h| .int ..,.complex ..,h| .int ..,.string ..,h| .int ..,.pointer ..,h| .int ..,.slice ..,h| .int ..,.map ..,h| .int ..,.chan ..,h| .int ..,.func ..,h| .int ..,.nilFunc,h| .int ..,.iface ..,h| .int ..,.nilIface,h| .int ..,.agg ..,h| .int ..,.tuple ..,h=>by simp[So]at h
 | .float ..,_,h=>by simp[So]at h
 | .complex ..,_,h=>by simp[So]at h
 | .chan a,.chan b,h=>by simp[So]at h;rw[h]
 | .chan ..,.bool ..,h| .chan ..,.int ..,h| .chan ..,.float ..,h| .chan ..,.complex ..,h| .chan ..,.string ..,h| .chan ..,.pointer ..,h| .chan ..,.slice ..,h| .chan ..,.map ..,h| .chan ..,.func ..,h| .chan ..,.nilFunc,h| .chan ..,.iface ..,h| .chan ..,.nilIface,h| .chan ..,.agg ..,h| .chan ..,.tuple ..,h=>by simp[So]at h
 | .string ..,.bool ..,h| .string ..,.int ..,h| .string ..,.float ..,h| .string ..,.complex ..,h| .string ..,.pointer ..,h| .string ..,.slice ..,h| .string ..,.map ..,h| .string ..,.chan ..,h| .string ..,.func ..,h| .string ..,.nilFunc,h| .string ..,.iface ..,h| .string ..,.nilIface,h| .string ..,.agg ..,h| .string ..,.tuple ..,h=>by simp[So]at h
 | .pointer ..,.bool ..,h| .pointer ..,.int ..,h| .pointer ..,.float ..,h| .pointer ..,.complex ..,h| .pointer ..,.string ..,h| .pointer ..,.slice ..,h| .pointer ..,.map ..,h| .pointer ..,.chan ..,h| .pointer ..,.func ..,h| .pointer ..,.nilFunc,h| .pointer ..,.iface ..,h| .pointer ..,.nilIface,h| .pointer ..,.agg ..,h| .pointer ..,.tuple ..,h=>by simp[So]at h
 | .slice ..,.bool ..,h| .slice ..,.int ..,h| .slice ..,.float ..,h| .slice ..,.complex ..,h| .slice ..,.string ..,h| .slice ..,.pointer ..,h| .slice ..,.map ..,h| .slice ..,.chan ..,h| .slice ..,.func ..,h| .slice ..,.nilFunc,h| .slice ..,.iface ..,h| .slice ..,.nilIface,h| .slice ..,.agg ..,h| .slice ..,.tuple ..,h=>by simp[So]at h
 | .map ..,.bool ..,h| .map ..,.int ..,h| .map ..,.float ..,h| .map ..,.complex ..,h| .map ..,.string ..,h| .map ..,.pointer ..,h| .map ..,.slice ..,h| .map ..,.chan ..,h| .map ..,.func ..,h| .map ..,.nilFunc,h| .map ..,.iface ..,h| .map ..,.nilIface,h| .map ..,.agg ..,h| .map ..,.tuple ..,h=>by simp[So]at h
 | .func ..,.bool ..,h| .func ..,.int ..,h| .func ..,.float ..,h| .func ..,.complex ..,h| .func ..,.string ..,h| .func ..,.pointer ..,h| .func ..,.slice ..,h| .func ..,.map ..,h| .func ..,.chan ..,h| .func ..,.nilFunc,h| .func ..,.iface ..,h| .func ..,.nilIface,h| .func ..,.agg ..,h| .func ..,.tuple ..,h=>by simp[So]at h
 | .nilFunc,.bool ..,h| .nilFunc,.int ..,h| .nilFunc,.float ..,h| .nilFunc,.complex ..,h| .nilFunc,.string ..,h| .nilFunc,.pointer ..,h| .nilFunc,.slice ..,h| .nilFunc,.map ..,h| .nilFunc,.chan ..,h| .nilFunc,.func ..,h| .nilFunc,.iface ..,h| .nilFunc,.nilIface,h| .nilFunc,.agg ..,h| .nilFunc,.tuple ..,h=>by simp[So]at h
 | .iface ..,.bool ..,h| .iface ..,.int ..,h| .iface ..,.float ..,h| .iface ..,.complex ..,h| .iface ..,.string ..,h| .iface ..,.pointer ..,h| .iface ..,.slice ..,h| .iface ..,.map ..,h| .iface ..,.chan ..,h| .iface ..,.func ..,h| .iface ..,.nilFunc,h| .iface ..,.nilIface,h| .iface ..,.agg ..,h| .iface ..,.tuple ..,h=>by simp[So]at h
 | .nilIface,.bool ..,h| .nilIface,.int ..,h| .nilIface,.float ..,h| .nilIface,.complex ..,h| .nilIface,.string ..,h| .nilIface,.pointer ..,h| .nilIface,.slice ..,h| .nilIface,.map ..,h| .nilIface,.chan ..,h| .nilIface,.func ..,h| .nilIface,.nilFunc,h| .nilIface,.iface ..,h| .nilIface,.agg ..,h| .nilIface,.tuple ..,h=>by simp[So]at h
 | .agg ..,.bool ..,h| .agg ..,.int ..,h| .agg ..,.float ..,h| .agg ..,.complex ..,h| .agg ..,.string ..,h| .agg ..,.pointer ..,h| .agg ..,.slice ..,h| .agg ..,.map ..,h| .agg ..,.chan ..,h| .agg ..,.func ..,h| .agg ..,.nilFunc,h| .agg ..,.iface ..,h| .agg ..,.nilIface,h| .agg ..,.tuple ..,h=>by simp[So]at h
 | .tuple ..,.bool ..,h| .tuple ..,.int ..,h| .tuple ..,.float ..,h| .tuple ..,.complex ..,h| .tuple ..,.string ..,h| .tuple ..,.pointer ..,h| .tuple ..,.slice ..,h| .tuple ..,.map ..,h| .tuple ..,.chan ..,h| .tuple ..,.func ..,h| .tuple ..,.nilFunc,h| .tuple ..,.iface ..,h| .tuple ..,.nilIface,h| .tuple ..,.agg ..,h=>by simp[So]at h
theorem Qi: ∀a b,veqA a b=true→a=b
 |⟨x⟩,⟨y⟩,h=>by
  simp only[veqA]at h
  rw[Hu x y h]
theorem Hu: ∀a b,Zm a b=true→a=b
 |[],[],_=>rfl
 |v::l,u::m,h=>by
  simp only[Zm,Bool.and_eq_true]at h
  rw[veq_sound v u h.1,Hu l m h.2]
 |[],_::_,h|_::_,[],h=>by simp[Zm]at h
end
def aoeq:AObj→AObj→Bool
 | .cells c t o r,.cells c' t' o' r'=>Zm c c'&&(t.beq t'&&(decide (o=o')&&r==r'))
 | .iter s p,.iter s' p'=>decide (s.data.toList=s'.data.toList)&&p.beq p'
 | .defd none,.defd none=>true
 | .mp es v,.mp es' v'=>Zm (es.map (·.1)) (es'.map (·.1))&&(Zm (es.map (·.2)) (es'.map (·.2))&&v.beq v')
 | .mit (some m) v ks,.mit (some m') v' ks'=>m.beq m'&&(v.beq v'&&Zm ks ks')
 | .mit none v ks,.mit none v' ks'=>v.beq v'&&Zm ks ks'
 |_,_=>false
theorem pairs_eq: ∀{es es':List (Value×Value)},es.map (·.1)=es'.map (·.1)→es.map (·.2)=es'.map (·.2)→es=es'
 |[],[],_,_=>rfl
 |x::es,y::es',h1,h2=>by
  simp only[List.map_cons,List.cons.injEq]at h1 h2
  rw[pairs_eq h1.2 h2.2,Prod.ext h1.1 h2.1]
 |[],_::_,h,_|_::_,[],h,_=>by simp at h
theorem aoeq_sound: ∀a b,aoeq a b=true→a=b:=by
 intro a b h
 unfold aoeq at h
 split at h
 ·simp only[Bool.and_eq_true,decide_eq_true_eq,beq_iff_eq]at h
  rw[Hu _ _ h.1,Nat.eq_of_beq_eq_true h.2.1,h.2.2.1,h.2.2.2]
 ·rename_i s p s' p'
  simp only[Bool.and_eq_true,decide_eq_true_eq]at h
  have:s=s':=by
   cases s;cases s'
   simp at h
   rw[h.1]
  rw[this,Nat.eq_of_beq_eq_true h.2]
 ·rfl
 ·simp only[Bool.and_eq_true]at h
  rw[pairs_eq (Hu _ _ h.1) (Hu _ _ h.2.1),Nat.eq_of_beq_eq_true h.2.2]
 ·simp only[Bool.and_eq_true]at h
  rw[Nat.eq_of_beq_eq_true h.1,Nat.eq_of_beq_eq_true h.2.1,Hu _ _ h.2.2]
 ·simp only[Bool.and_eq_true]at h
  rw[Nat.eq_of_beq_eq_true h.1,Hu _ _ h.2]
 ·cases h
def ooeq:Option AObj→Option AObj→Bool
 |none,none=>true
 |some a,some b=>aoeq a b
 |_,_=>false
theorem ooeq_sound: ∀a b,ooeq a b=true→a=b
 |none,none,_=>rfl
 |some a,some b,h=>by rw[aoeq_sound a b h]
 |none,some _,h|some _,none,h=>by simp[ooeq]at h
def teq:T AObj→T AObj→Bool
 | .lf,.lf=>true
 | .nd l o r,.nd l' o' r'=>ooeq o o'&&(teq l l'&&teq r r')
 |_,_=>false
theorem teq_sound: ∀a b,teq a b=true→a=b
 | .lf,.lf,_=>rfl
 | .nd l o r,.nd l' o' r',h=>by
   simp only[teq,Bool.and_eq_true]at h
   rw[ooeq_sound _ _ h.1,teq_sound l l' h.2.1,teq_sound r r' h.2.2]
 | .lf,.nd ..,h| .nd ..,.lf,h=>by simp[teq]at h
end Go.AE
