import Derived.Test.YtbjpjoodjbmicaaGreatDoorLE
import Derived.Laws.Strings
set_option linter.unusedVariables false
set_option linter.unusedSimpArgs false
namespace Go.AE
open Go
theorem dig_map_inj: ∀{l m:List Nat},Dig l→Dig m→l.map (fun d=>UInt8.ofNat (48+d))=m.map (fun d=>UInt8.ofNat (48+d))→l=m
 |[],[],_,_,_=>rfl
 |[],_::_,_,_,h=>by simp at h
 |_::_,[],_,_,h=>by simp at h
 |x::l,y::m,hl,hm,h=>by
  simp only[List.map_cons,List.cons.injEq]at h
  have h1:=hl x (by simp)
  have h2:=hm y (by simp)
  have h3:x=y:=by
   have:=congrArg UInt8.toNat h.1
   rw[UInt8.toNat_ofNat',UInt8.toNat_ofNat']at this
   omega
  rw[h3,dig_map_inj (fun z hz=>hl z (by simp[hz])) (fun z hz=>hm z (by simp[hz])) h.2]
theorem dig_not_minus{d:Nat}(h:d<10):UInt8.ofNat (48+d)≠45:=by
 intro q
 have:=congrArg UInt8.toNat q
 rw[UInt8.toNat_ofNat']at this
 have h45:(45:UInt8).toNat=45:=rfl
 omega
theorem digs_inj{a b:Nat}(h:digs a=digs b):a=b:=by rw[←digs_val a,←digs_val b,h]
theorem istr_inj{x y:Int}(h:(istr x).data.toList=(istr y).data.toList):x=y:=by
 unfold istr at h
 split at h<;>split at h
 ·simp only[mstr,List.cons.injEq,true_and]at h
  have:=digs_inj (dig_map_inj (digs_dig _) (digs_dig _) h)
  omega
 ·exfalso
  simp only[mstr,dstr]at h
  have hp:=digs_len_pos y.toNat
  cases hq:digs y.toNat with
  |nil=>rw[hq]at hp;simp at hp
  |cons d l=>
   rw[hq]at h
   simp only[List.map_cons,List.cons.injEq]at h
   have hd:Dig (d::l):=by rw[←hq];exact digs_dig _
   exact dig_not_minus (hd d (by simp)) h.1.symm
 ·exfalso
  simp only[mstr,dstr]at h
  have hp:=digs_len_pos x.toNat
  cases hq:digs x.toNat with
  |nil=>rw[hq]at hp;simp at hp
  |cons d l=>
   rw[hq]at h
   simp only[List.map_cons,List.cons.injEq]at h
   have hd:Dig (d::l):=by rw[←hq];exact digs_dig _
   exact dig_not_minus (hd d (by simp)) h.1
 ·simp only[dstr]at h
  have:=digs_inj (dig_map_inj (digs_dig _) (digs_dig _) h)
  omega
theorem txt_eqT{x y:Int}(h:x=y):((istr x).toList==(istr y).toList)=true:=by rw[h];exact beq_self_eq_true _
theorem txt_eqF{x y:Int}(h:x≠y):((istr x).toList==(istr y).toList)=false:=by
 rw[beq_eq_false_iff_ne]
 intro q
 rw[ByteArray.toList_eq,ByteArray.toList_eq]at q
 exact h (istr_inj q)
theorem bd_abs{k:Nat}{x:Int}(h:Bd k x):Bd k ((x.natAbs:Nat):Int):=by
 unfold Bd at*
 simpa using h
end Go.AE
namespace Go.AE
open Go
def Pr(p:Nat):Prop:=2≤p∧ ∀d,2≤d→d<p→p%d≠0
def lprod:List Nat→Nat
 |[]=>1
 |x::l=>x*lprod l
structure PInv (n:Nat) (ps:List Nat) (p s:Nat):Prop where
 prod:lprod ps*s=n
 one:1≤s
 two:2≤p
 pr: ∀x∈ps,Pr x
 le: ∀x∈ps,x≤p
 asc:ps.Pairwise (· ≤ ·)
 nodiv: ∀d,2≤d→d<p→s%d≠0
noncomputable def fs(ps:List Nat):List Value:=ps.map fun p=>Value.string (istr ((p:Nat):Int))
end Go.AE
namespace Go.AE
end Go.AE
namespace Go.AE.F
def val:List Nat→Nat
 |[]=>0
 |x::l=>x+10000*val l
abbrev Lim(l:List Nat):Prop:= ∀x∈l,x<10000
theorem Lim.get{l:List Nat}(h:Lim l)(i:Nat):l.getD i 0<10000:=by
 rcases Nat.lt_or_ge i l.length with q|q
 ·rw[List.getD,List.getElem?_eq_getElem q]
  exact h _ (List.getElem_mem q)
 ·rw[List.getD,List.getElem?_eq_none q]
  decide
theorem Lim.set{l:List Nat}(h:Lim l){i v:Nat}(hv:v<10000):Lim (l.set i v):=fun x hx=>by
 rcases List.mem_or_eq_of_mem_set hx with q|rfl
 ·exact h x q
 ·exact hv
theorem Lim.take{l:List Nat}(h:Lim l)(k:Nat):Lim (l.take k):=fun x hx=>h x (List.mem_of_mem_take hx)
theorem Lim.drop{l:List Nat}(h:Lim l)(k:Nat):Lim (l.drop k):=fun x hx=>h x (List.mem_of_mem_drop hx)
theorem Lim.append{l m:List Nat}(h:Lim l)(g:Lim m):Lim (l++m):=fun x hx=>by
 rcases List.mem_append.1 hx with q|q
 ·exact h x q
 ·exact g x q
theorem Lim.replicate(k:Nat):Lim (List.replicate k 0):=fun x hx=>by
 rw[(List.mem_replicate.1 hx).2];decide
theorem val_append(l m:List Nat):val (l++m)=val l+10000^l.length*val m:=by
 induction l with
 |nil=>simp[val]
 |cons x l ih=>
  simp only[List.cons_append,val,ih,List.length_cons,Nat.pow_succ]
  rw[Nat.mul_add,←Nat.mul_assoc,Nat.mul_comm 10000 (10000^l.length)]
  omega
theorem val_replicate(k:Nat):val (List.replicate k 0)=0:=by
 induction k with
 |zero=>rfl
 |succ k ih=>simp[List.replicate_succ,val,ih]
theorem val_lt{l:List Nat}(h:Lim l):val l<10000^l.length:=by
 induction l with
 |nil=>simp[val]
 |cons x l ih=>
  have h1:=h x (List.mem_cons_self ..)
  have h2:=ih fun y hy=>h y (List.mem_cons_of_mem _ hy)
  simp only[val,List.length_cons,Nat.pow_succ]
  omega
theorem val_set: ∀(l:List Nat) (i v:Nat),i<l.length→val (l.set i v)+l.getD i 0*10000^i=val l+v*10000^i
 |[],i,v,h=>by simp at h
 |x::l,0,v,h=>by simp[val];omega
 |x::l,i+1,v,h=>by
  have:=val_set l i v (by simpa using h)
  simp only[List.set_cons_succ,val,List.getD_cons_succ,Nat.pow_succ]
  have e1:l.getD i 0*(10000^i*10000)=10000*(l.getD i 0*10000^i):=by
   rw[←Nat.mul_assoc,Nat.mul_comm]
  have e2:v*(10000^i*10000)=10000*(v*10000^i):=by
   rw[←Nat.mul_assoc,Nat.mul_comm]
  rw[e1,e2]
  omega
theorem drop_getD{l:List Nat}{i:Nat}(h:i<l.length):l.drop i=l.getD i 0::l.drop (i+1):=by
 rw[List.drop_eq_getElem_cons h,List.getD,List.getElem?_eq_getElem h]
 rfl
theorem val_drop{l:List Nat}{i:Nat}(h:i<l.length):val (l.drop i)=l.getD i 0+10000*val (l.drop (i+1)):=by
 rw[drop_getD h];rfl
theorem val_take_succ(l:List Nat)(i:Nat):val (l.take (i+1))=val (l.take i)+l.getD i 0*10000^i:=by
 rcases Nat.lt_or_ge i l.length with q|q
 ·rw[List.take_succ_eq_append_getElem q,val_append,List.length_take,Nat.min_eq_left (by omega),List.getD,List.getElem?_eq_getElem q]
  simp[val,Nat.mul_comm]
 ·rw[List.take_of_length_le (by omega),List.take_of_length_le q,List.getD,List.getElem?_eq_none q]
  simp
theorem getD_take{l:List Nat}{k i:Nat}(h:i<k):(l.take k).getD i 0=l.getD i 0:=by
 simp[List.getD,h]
theorem getD_set{l:List Nat}{i j v:Nat}(h:i<l.length):(l.set i v).getD j 0=if i=j then v else l.getD j 0:=by
 simp only[List.getD,List.getElem?_set]
 split
 ·rename_i q
  subst q
  simp
 ·rfl
theorem pow_le{a b:Nat}(h:a≤b):10000^a≤10000^b:=Nat.pow_le_pow_right (by decide) h
theorem pow_pos(a:Nat):0<10000^a:=Nat.pow_pos (by decide)
theorem carry_step{V V' a q b p Y T:Nat}(h1:V'+a*p=V+((a+q+b)%10000)*p)(hv:V+q*p+p*(b+10000*Y)=T):
  V'+((a+q+b)/10000)*(p*10000)+p*10000*Y=T:=by
 have h3:a+q+b=10000*((a+q+b)/10000)+(a+q+b)%10000:=(Nat.div_add_mod _ _).symm
 generalize (a+q+b)/10000=u at*
 generalize (a+q+b)%10000=v at*
 have e1:(a+q+b)*p=a*p+q*p+b*p:=by rw[Nat.add_mul,Nat.add_mul]
 have e2:(10000*u+v)*p=u*(p*10000)+v*p:=by rw[Nat.add_mul,Nat.mul_comm 10000 u,Nat.mul_assoc,Nat.mul_comm 10000 p]
 have e3:p*(b+10000*Y)=b*p+p*10000*Y:=by rw[Nat.mul_add,Nat.mul_comm p b,Nat.mul_assoc]
 rw[h3,e2]at e1
 omega
theorem carry_step0'{B V V' a p T:Nat}(h1:V'+a*p=V+((a+1)%B)*p)(hv:V+p=T):V'+((a+1)/B)*(p*B)=T:=by
 have h3:B*((a+1)/B)+(a+1)%B=a+1:=Nat.div_add_mod _ _
 generalize (a+1)/B=u at*
 generalize (a+1)%B=v at*
 have e1:(a+1)*p=a*p+p:=by rw[Nat.add_mul,Nat.one_mul]
 have e2:(B*u+v)*p=u*(p*B)+v*p:=by rw[Nat.add_mul,Nat.mul_comm B u,Nat.mul_assoc,Nat.mul_comm B p]
 rw[←h3,e2]at e1
 omega
theorem carry_step0{V V' a p T:Nat}(h1:V'+a*p=V+((a+1)%10000)*p)(hv:V+p=T):V'+((a+1)/10000)*(p*10000)=T:=
 carry_step0' h1 hv
theorem nil_end{V p T:Nat}(hv:V+0*p+p*val []=T):V=T:=by
 rw[show val []=0 from rfl,Nat.mul_zero,Nat.add_zero,Nat.zero_mul,Nat.add_zero]at hv;exact hv
theorem nil_one{V p T:Nat}(hv:V+1*p+p*val []=T):V+p=T:=by
 rw[show val []=0 from rfl,Nat.mul_zero,Nat.add_zero,Nat.one_mul]at hv;exact hv
theorem nil_add{V p T:Nat}(h:V=T):V+p*val []=T:=by
 rw[show val []=0 from rfl,Nat.mul_zero,Nat.add_zero];exact h
end Go.AE.F
namespace Go.AE.F
def top(xs:List Nat):Nat→Nat
 |0=>0
 |n+1=>if xs.getD n 0=0 then top xs n else n+1
theorem top_le(xs:List Nat): ∀n,top xs n≤n
 |0=>Nat.le_refl _
 |n+1=>by
  unfold top
  split
  ·have:=top_le xs n;omega
  ·exact Nat.le_refl _
theorem top_pos(xs:List Nat): ∀n,0<top xs n→xs.getD (top xs n-1) 0≠0
 |0,h=>by simp[top]at h
 |n+1,h=>by
  unfold top at h ⊢
  split
  ·rename_i hq
   rw[if_pos hq]at h
   exact top_pos xs n h
  ·rename_i hq
   simpa using hq
theorem top_val(xs:List Nat): ∀n,val (xs.take (top xs n))=val (xs.take n)
 |0=>rfl
 |n+1=>by
  unfold top
  split
  ·rename_i hq
   rw[top_val xs n,val_take_succ,hq,Nat.zero_mul,Nat.add_zero]
  ·rfl
theorem top_zero{xs:List Nat}{n:Nat}(h:xs.getD n 0=0):top xs (n+1)=top xs n:=by rw[top,if_pos h]
theorem top_some{xs:List Nat}{n:Nat}(h:xs.getD n 0≠0):top xs (n+1)=n+1:=by rw[top,if_neg h]
end Go.AE.F
namespace Go.AE
open Go
def turnT(b k i:Nat):Nat:=if Nat.blt i b then i else if Nat.blt i (b+k) then i+2*k else if Nat.blt i (b+2*k) then i-k else i+k
theorem turnT_lt{b k i:Nat}(h:i<b):turnT b k i=i:=by unfold turnT;rw[blt_true h];rfl
theorem turnT_1{b k i:Nat}(h:b≤i)(h2:i<b+k):turnT b k i=i+2*k:=by
 unfold turnT;rw[blt_false (by omega),blt_true h2];rfl
theorem turnT_2{b k i:Nat}(h:b+k≤i)(h2:i<b+2*k):turnT b k i=i-k:=by
 unfold turnT;rw[blt_false (by omega),blt_false (by omega),blt_true h2];rfl
theorem turnT_3{b k i:Nat}(h:b+2*k≤i):turnT b k i=i+k:=by
 unfold turnT;rw[blt_false (by omega),blt_false (by omega),blt_false (by omega)];rfl
theorem turnT_inj{b k i j:Nat}(h:turnT b k i=turnT b k j):i=j:=by
 have cases4: ∀i,(i<b∧turnT b k i=i)∨(b≤i∧i<b+k∧turnT b k i=i+2*k)∨(b+k≤i∧i<b+2*k∧turnT b k i=i-k)∨(b+2*k≤i∧turnT b k i=i+k):=fun i=>by
  rcases Nat.lt_or_ge i b with h1|h1
  ·exact .inl ⟨h1,turnT_lt h1⟩
  rcases Nat.lt_or_ge i (b+k) with h2|h2
  ·exact .inr (.inl ⟨h1,h2,turnT_1 h1 h2⟩)
  rcases Nat.lt_or_ge i (b+2*k) with h3|h3
  ·exact .inr (.inr (.inl ⟨h2,h3,turnT_2 h2 h3⟩))
  ·exact .inr (.inr (.inr ⟨h3,turnT_3 h3⟩))
 rcases cases4 i with⟨a1,a2⟩|⟨a1,a3,a2⟩|⟨a1,a3,a2⟩|⟨a1,a2⟩<;>rcases cases4 j with⟨c1,c2⟩|⟨c1,c3,c2⟩|⟨c1,c3,c2⟩|⟨c1,c2⟩<;>omega
theorem gets_turn{P:Program}{G:Nat}{s0:AS}{fr fr1:Frame}{nx1 nx2 b k:Nat}{l1 l2:List (Nat×AObj)}(hr:Gets P G s0 ⟨fr1,[],mkH nx1 l1⟩)(hfr:fr1={fr with tmps:=mvArr (turnT b k) fr.tmps})
  (hd:fr.defers=[]) (hm:fr.mode=.run) (hro:fr.roundOf=none) (ht:fr.todo.all plainI=true) (hG:G≤s0.h.next) (hb:s0.h.next≤b) (hbn:b+2*k≤nx2) (hn:nx1≤nx2+k)
  (hfl:(l2.map (·.2)).all plainO=true) (hmv:(l2.map (·.2)).map (mvO (turnT b k))=l2.map (·.2)) (hl:l2.map (fun x=>(mkH nx1 l1).get (turnT b k x.1))=l2.map fun x=>some x.2):Gets P G s0 ⟨fr,[],mkH nx2 l2⟩:=by
 subst hfr
 have hflat: ∀x∈l2,plainO x.2=true:=fun x hx=>List.all_eq_true.1 hfl _ (List.mem_map.2 ⟨x,hx,rfl⟩)
 have hmv1: ∀x∈l2,mvO (turnT b k) x.2=x.2:=fun x hx=>by
  obtain⟨i,hi,rfl⟩:=List.mem_iff_getElem.1 hx
  have:=congrArg (fun (l:List AObj)=>l[i]?) hmv
  simpa [List.getElem?_eq_getElem hi] using this
 refine gets_move (turnT b k) hr hd hm hro ht (by omega) hG (fun i hi=>turnT_lt (by omega)) (fun i hi=>by rw[turnT_3 (by omega)];omega) (fun x hx=>⟨hflat x hx,?_⟩) fun x _ y _ e=>turnT_inj e
 rw[hmv1 x hx]
 obtain⟨i,hi,rfl⟩:=List.mem_iff_getElem.1 hx
 have:=congrArg (fun (l:List (Option AObj))=>l[i]?) hl
 simpa [List.getElem?_eq_getElem hi] using this
end Go.AE
namespace Go.AE
theorem take_drop_snoc{cs:List Nat}{b i:Nat}(hb:b≤i)(hi:i<cs.length):(cs.take (i+1)).drop b=(cs.take i).drop b++[cs.getD i 0]:=by
 rw[List.take_succ_eq_append_getElem hi,List.drop_append_of_le_length (by rw[List.length_take];omega),List.getD,List.getElem?_eq_getElem hi]
 rfl
theorem dval_step{cs:List Nat}{b i:Nat}(hb:b≤i)(hi:i<cs.length):10*dval ((cs.take i).drop b)+cs.getD i 0=dval ((cs.take (i+1)).drop b):=by
 rw[take_drop_snoc hb hi,dval_snoc,Nat.mul_comm]
theorem dval_four{es:List Nat}{k:Nat}(hd:Dig es)(h:es.length≤k):dval es<10^k:=
 Nat.lt_of_lt_of_le (dval_lt es hd) (Nat.pow_le_pow_right (by decide) h)
theorem pow_four(k:Nat):(10:Nat)^(4*k)=10000^k:=by
 rw[Nat.pow_mul]
theorem group_step{ds ls:List Nat}{e b k l:Nat}(hv:F.val ls=dval (ds.drop e))(hl:ls.length=k)(he:ds.length-e=4*k)(hbe:b≤e)(hel:e≤ds.length)(hle:l=dval ((ds.take e).drop b)):F.val (ls++[l])=dval (ds.drop b):=by
 have h1:ds.drop b=(ds.take e).drop b++ds.drop e:=by
  have h2:=List.take_append_drop e ds
  have h3:(ds.take e++ds.drop e).drop b=(ds.take e).drop b++ds.drop e:=List.drop_append_of_le_length (by rw[List.length_take];omega)
  rw[h2]at h3
  exact h3
 rw[h1,dval_append,F.val_append,hl,hv,List.length_drop,he,pow_four,hle]
 simp only[F.val,Nat.mul_zero,Nat.add_zero]
 rw[Nat.mul_comm,Nat.add_comm]
end Go.AE
namespace Go.AE.F
theorem sum_step{B V c p a b X Y T:Nat}(h:V+c*p+p*((a+B*X)+(b+B*Y))=T):
  (V+p*((c+a+b)%B))+((c+a+b)/B)*(p*B)+(p*B)*(X+Y)=T:=by
 have h3:c+a+b=B*((c+a+b)/B)+(c+a+b)%B:=(Nat.div_add_mod _ _).symm
 generalize (c+a+b)/B=u at*
 generalize (c+a+b)%B=v at*
 have e1:p*(c+a+b)=p*(B*u+v):=by rw[h3]
 simp only[Nat.mul_add,Nat.add_mul,Nat.mul_comm,Nat.mul_left_comm,Nat.mul_assoc]at*
 omega
theorem val_drop'(l:List Nat)(i:Nat):val (l.drop i)=l.getD i 0+10000*val (l.drop (i+1)):=by
 by_cases h:i<l.length
 ·exact val_drop h
 ·rw[List.drop_eq_nil_of_le (by omega),List.drop_eq_nil_of_le (by omega),List.getD,List.getElem?_eq_none (by omega)]
  rfl
theorem getD_le{l:List Nat}{i:Nat}(h:l.length≤i):l.getD i 0=0:=by
 rw[List.getD,List.getElem?_eq_none h];rfl
theorem val_snoc'(l:List Nat)(v:Nat):val (l++[v])=val l+10000^l.length*v:=by
 rw[val_append];simp[val]
theorem sum_round{X Y os:List Nat}{i c s T:Nat}(hl:os.length=i)(hs:s=c+X.getD i 0+Y.getD i 0)
  (h:val os+c*10000^i+10000^i*(val (X.drop i)+val (Y.drop i))=T):
  val (os++[s%10000])+(s/10000)*10000^(i+1)+10000^(i+1)*(val (X.drop (i+1))+val (Y.drop (i+1)))=T:=by
 rw[val_drop' X,val_drop' Y]at h
 have:=sum_step h
 rw[val_snoc',hl,hs,Nat.pow_succ]
 exact this
end Go.AE.F
namespace Go.AE.F
theorem val_lt_of_len{xs ys:List Nat}{n k:Nat}(hlx:Lim xs)(hn:n≤xs.length)(h:n<k)(hy:0<k→ys.getD (k-1) 0≠0):val (xs.take n)<val (ys.take k):=by
 have h1:=val_lt (hlx.take n)
 rw[List.length_take,Nat.min_eq_left hn]at h1
 obtain⟨q,rfl⟩: ∃q,k=q+1:=⟨k-1,by omega⟩
 have h2:=hy (by omega)
 rw[Nat.add_sub_cancel]at h2
 rw[val_take_succ]
 have h3:10000^n≤10000^q:=pow_le (by omega)
 have h4:1*10000^q≤ys.getD q 0*10000^q:=Nat.mul_le_mul_right _ (by omega)
 omega
end Go.AE.F
namespace Go.AE.F
theorem diff_step{B V Z T c d p a b v X Y:Nat}(h0:v+b+c=a+d*B)(h:V+Z+p*(a+B*X)=T+p*(b+B*Y)+c*p):
  (V+p*v)+Z+(p*B)*X=T+(p*B)*Y+d*(p*B):=by
 have e1:p*(v+b+c)=p*(a+d*B):=by rw[h0]
 simp only[Nat.mul_add,Nat.mul_comm,Nat.mul_left_comm]at*
 omega
theorem diff_round{X Y os:List Nat}{i c d v Z T:Nat}(hl:os.length=i)(hs:v+Y.getD i 0+c=X.getD i 0+d*10000)
  (h:val os+Z+10000^i*val (X.drop i)=T+10000^i*val (Y.drop i)+c*10000^i):
  val (os++[v])+Z+10000^(i+1)*val (X.drop (i+1))=T+10000^(i+1)*val (Y.drop (i+1))+d*10000^(i+1):=by
 rw[val_drop' X,val_drop' Y]at h
 have:=diff_step hs h
 rw[val_snoc',hl,Nat.pow_succ]
 exact this
end Go.AE.F
namespace Go.AE.F
theorem mul_fit{a b:Nat}(ha:a<10000)(hb:b<10000):a*b≤99980001:=by
 have:=Nat.mul_le_mul (show a≤9999 by omega) (show b≤9999 by omega)
 omega
theorem row_step{V V' a b r q p Y T:Nat}(h1:V'+r*p=V+((a*b+r+q)%10000)*p)(hv:V+q*p+a*(p*(b+10000*Y))=T):
  V'+((a*b+r+q)/10000)*(p*10000)+a*(p*10000*Y)=T:=row_step' h1 hv
theorem nil_mul{V a p T:Nat}(hv:V+a*(p*val [])=T):V=T:=by
 rw[show val []=0 from rfl,Nat.mul_zero,Nat.mul_zero,Nat.add_zero]at hv;exact hv
end Go.AE.F
