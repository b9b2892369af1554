import Derived.Test.YtjbflfbhfnkmlaaGreatDoorLE
import Derived.Test.YtjbflfbhfnkmlaaGreatDoorLD
import Derived.Laws.Strings
set_option linter.unusedVariables false
set_option linter.unusedSimpArgs false
namespace Go.AE
theorem ld_final{s x y q R:Nat}(hs:0<s)(h:q*(s*y)+R=s*x)(hR:R<s*y):q=x/y∧R=s*(x%y):=by
 have h1:s*(q*y)≤s*x:=by rw[Nat.mul_left_comm];omega
 have h2:=Nat.le_of_mul_le_mul_left h1 hs
 obtain⟨r,hr⟩: ∃r,x=q*y+r:=⟨x-q*y,by omega⟩
 subst hr
 rw[Nat.mul_add,Nat.mul_left_comm]at h
 have hRr:R=s*r:=by omega
 subst hRr
 have hry:r<y:=Nat.lt_of_mul_lt_mul_left hR
 have:=(Nat.div_mod_unique (by omega)).2 (show r+y*q=q*y+r∧r<y from⟨by rw[Nat.mul_comm];omega,hry⟩)
 rw[this.1,this.2]
 exact⟨rfl,rfl⟩
theorem Xt{l:List Nat}{k:Nat}(h0:l.getD k 0≠0):1000000000^k≤val (l.take (k+1)):=by
 rw[val_take_succ]
 have:1*1000000000^k≤l.getD k 0*1000000000^k:=Nat.mul_le_mul_right _ (by omega)
 omega
theorem val_top_lt{l:List Nat}{k:Nat}(hl:Lim l):val (l.take (k+1))<(l.getD k 0+1)*1000000000^k:=by
 rw[val_take_succ,Nat.add_mul,Nat.one_mul]
 have:=Dv hl k
 omega
theorem scale_fit'{B s a y P:Nat}(hs:s=B/(a+1))(hy:y<(a+1)*P)(hs0:0<s):s*y<P*B:=by
 have h1:s*(a+1)≤B:=by rw[hs];exact Nat.div_mul_le_self _ _
 have h2:s*y<s*((a+1)*P):=Nat.mul_lt_mul_of_pos_left hy hs0
 have h3:s*((a+1)*P)≤B*P:=by rw[←Nat.mul_assoc];exact Nat.mul_le_mul_right _ h1
 rw[Nat.mul_comm P]
 omega
theorem scale_div{ys ds:List Nat}{k s c:Nat}(hl:Lim ys)(hld:Lim ds)(hdl:ds.length=k+1)(h0:ys.getD k 0≠0)(hs:s=1000000000/(ys.getD k 0+1))(hs0:0<s)(h:val ds+c*1000000000^(k+1)=s*val (ys.take (k+1))):
  val ds=s*val (ys.take (k+1))∧ds.getD k 0≠0:=by
 have h1:=scale_fit' hs (val_top_lt (l:=ys) (k:=k) hl) hs0
 rw[←Nat.pow_succ]at h1
 have hc:c=0:=by
  rcases Nat.eq_zero_or_pos c with h2|h2
  ·exact h2
  ·have:=Nat.mul_le_mul_right (1000000000^(k+1)) (show 1≤c by omega)
   omega
 subst hc
 rw[Nat.zero_mul,Nat.add_zero]at h
 refine⟨h,fun q=> ?_⟩
 have h2:=Xt h0
 have h3:val (ds.take (k+1))=val (ds.take k):=by rw[val_take_succ,q,Nat.zero_mul,Nat.add_zero]
 rw[List.take_of_length_le (by omega)]at h3
 have h4:=Dv hld k
 have h5:1*val (ys.take (k+1))≤s*val (ys.take (k+1)):=Nat.mul_le_mul_right _ hs0
 omega
theorem scale_rest{rs:List Nat}{n s c x:Nat}(hx:x<1000000000^n)(hs:s≤1000000000)(h:val rs+c*1000000000^(n+1)=s*x):val rs=s*x:=by
 have h1:s*x<1000000000^(n+1):=by
  rw[Nat.pow_succ,Nat.mul_comm (1000000000^n)]
  exact Nat.lt_of_le_of_lt (Nat.mul_le_mul_right _ hs) (Nat.mul_lt_mul_of_pos_left hx (by decide))
 have hc:c=0:=by
  rcases Nat.eq_zero_or_pos c with h2|h2
  ·exact h2
  ·have:=Nat.mul_le_mul_right (1000000000^(n+1)) (show 1≤c by omega)
   omega
 subst hc
 omega
theorem ld_init{n k s x y V:Nat}(hx:x<1000000000^n)(hy:1000000000^k≤y)(hk:k≤n)(hs:0<s)(hV:V=s*y):s*x<V*1000000000^(n-k):=by
 subst hV
 rw[Nat.mul_assoc]
 refine Nat.mul_lt_mul_of_pos_left (Nat.lt_of_lt_of_le hx ?_) hs
 calc 1000000000^n=1000000000^k*1000000000^(n-k):=by rw[←Nat.pow_add];congr 1;omega
  _≤y*1000000000^(n-k):=Nat.mul_le_mul_right _ hy
theorem scale_pos{a:Nat}(h:a<1000000000):0<1000000000/(a+1):=Nat.div_pos (by omega) (by omega)
theorem scale_le(a:Nat):1000000000/(a+1)≤1000000000:=Nat.div_le_self _ _
theorem shrink_exact{s r v t:Nat}(hs:0<s)(h:s*v+r=s*t)(hr:r<s):v=t:=by
 have h1:v≤t:=Nat.le_of_mul_le_mul_left (show s*v≤s*t by omega) hs
 have h2:t<v+1:=Nat.lt_of_mul_lt_mul_left (a:=s) (by rw[Nat.mul_add,Nat.mul_one];omega)
 omega
end Go.AE
namespace Go.AE
open Go
def iv(s:Bool)(v:Nat):Int:=if s then -(v:Int) else v
theorem Gc(v:Nat):iv false v=v:=rfl
theorem Ez(v:Nat):iv true v= -(v:Int):=rfl
theorem Rj{zs:List Nat}{t:Nat}(ht:0<t)(h:0<t→zs.getD (t-1) 0≠0):0<val (zs.take t):=by
 have h1:=val_take_succ zs (t-1)
 rw[show t-1+1=t by omega]at h1
 have h2:0<zs.getD (t-1) 0*1000000000^(t-1):=Nat.mul_pos (Nat.pos_of_ne_zero (h ht)) (pow_pos _)
 omega
theorem len_pos{zs:List Nat}{t:Nat}(h:0<val (zs.take t)):0<t:=by
 rcases Nat.eq_zero_or_pos t with q|q
 ·rw[q,List.take_zero]at h
  exact absurd h (by decide)
 ·exact q
theorem Lw{xs ys:List Nat}{n k:Nat}(hlx:Lim xs)(hc:n≤xs.length)(hy:0<k→ys.getD (k-1) 0≠0)(h:val (ys.take k)≤val (xs.take n)):k≤n:=by
 rcases Nat.lt_or_ge n k with q|q
 ·have:=val_lt_of_len hlx hc q hy
  omega
 ·exact q
theorem Hv{a b:Nat}:Gp a b<0↔a<b:=by
 unfold Gp
 split
 ·simp[*]
 ·split<;>simp_all
end Go.AE
namespace Go.AE
open Go
theorem Ax(n:Nat):0<(Ae n).length:=List.length_pos_iff.2 (digs_ne n)
theorem Et: ∀n,0<n→(Ae n).getD 0 0≠0:=by
 intro n
 induction n using Nat.strongRecOn with
 |ind n ih=>
  intro h0
  by_cases h:n<10
  ·rw[Cf h]
   show n≠0
   omega
  ·rw[Bw h]
   have h1:=ih (n/10) (by omega) (by omega)
   have h2:=Ax (n/10)
   cases hd:Ae (n/10) with
   |nil=>rw[hd]at h2;exact absurd h2 (by decide)
   |cons d ds=>rw[hd]at h1;exact h1
theorem Ea:Ae 0=[0]:=Cf (by decide)
theorem Ew{n k:Nat}(h:Es n≤k)(hk:0<k):(Ae n).length≤k:=by
 rcases Nat.eq_zero_or_pos n with q|q
 ·rw[q,Ea];exact hk
 ·rw[Hk n q];exact h
theorem Cj(m:Nat):Ab (m:Int)=Aa (Ae m):=by
 unfold Ab
 rw[if_neg (by omega)]
 rfl
theorem Dm{m:Nat}(h:0<m):Ab (-(m:Int))=Bg (Ae m):=by
 unfold Ab
 rw[if_pos (by omega),Int.natAbs_neg]
 rfl
theorem Dh(a:Int):(∃m:Nat,a=(m:Int)∧a.natAbs=m)∨ ∃m:Nat,0<m∧a= -(m:Int)∧a.natAbs=m:=by
 rcases (by omega:a<0∨0≤a) with h|h
 ·exact Or.inr ⟨a.natAbs,by omega,by omega,rfl⟩
 ·exact Or.inl ⟨a.natAbs,by omega,rfl⟩
theorem Ua(ds:List Nat):(Bg ds).size=ds.length+1:=by simp[Bg,ByteArray.size]
theorem Hm{n k:Nat}(h:(Ae n).length≤k):n<10^k:=by
 have h1:=Ka _ (Bs n)
 rw[Gx]at h1
 exact Nat.lt_of_lt_of_le h1 (Nat.pow_le_pow_right (by decide) h)
end Go.AE
namespace Go.AE
open Go
theorem Ga(z:Int): ∃v:Nat,IntKind.wrap .u64 z=(v:Int):=by
 refine⟨(IntKind.wrap .u64 z).toNat,(Int.toNat_of_nonneg ?_).symm⟩
 simp only[IntKind.wrap,IntKind.bits,IntKind.signed]
 simp
 exact Int.emod_nonneg _ (by decide)
theorem Tk(x k:Nat): ∃v:Nat,Int.fdiv (x:Int) (2^k)=(v:Int):=
 ⟨(Int.fdiv (x:Int) (2^k)).toNat,(Int.toNat_of_nonneg (Int.fdiv_nonneg (by omega) (Int.le_of_lt (Int.pow_pos (by decide))))).symm⟩
theorem Av: ∀zs:List Int,As (zs.map (Value.int .i64))=true
 |[]=>rfl
 |x::zs=>by
  have:=Av zs
  simpa [As,Aj] using this
theorem ints_get{zs:List Int}{i:Nat}(h:i<zs.length):(zs.map (Value.int .i64))[i]? =some (.int .i64 (zs.getD i 0)):=by
 simp[List.getElem?_eq_getElem h,List.getD]
end Go.AE
namespace Go.AE
open Go
theorem Nw: ∀(n:Nat) (ds:List Nat),ds.length=n+1→Dig ds→ds.getD 0 0≠0→Ae (Az ds)=ds∧0<Az ds:=by
 intro n
 induction n with
 |zero=>
  intro ds hl hd h0
  match ds,hl with
  |[d],_=>
   have h1:d<10:=hd d (List.mem_cons_self ..)
   have h2:Az [d]=d:=by simp[Az]
   rw[h2]
   exact⟨Cf h1,Nat.pos_of_ne_zero h0⟩
 |succ n ih=>
  intro ds hl hd h0
  have hne:ds≠[]:=fun e=>by rw[e]at hl;simp at hl
  have e:=List.dropLast_concat_getLast hne
  have hl2:ds.dropLast.length=n+1:=by rw[List.length_dropLast];omega
  have hd2:Dig ds.dropLast:=fun x hx=>hd x (List.dropLast_subset ds hx)
  have hlast:ds.getLast hne<10:=hd _ (List.getLast_mem hne)
  have h02:ds.dropLast.getD 0 0≠0:=by
   match hds:ds.dropLast,hl2 with
   |x::xs,_=>rw[←e,hds]at h0;exact h0
  obtain⟨h1,h2⟩:=ih _ hl2 hd2 h02
  have h3:Az ds=Az ds.dropLast*10+ds.getLast hne:=by rw[←Wc,e]
  rw[h3]
  refine⟨?_,by omega⟩
  rw[digs_snoc h2 hlast,h1,e]
end Go.AE
namespace Go.AE
def adj(a b:Int):Prop:=Int.tmod a b≠0∧(Int.tmod a b<0↔ ¬b<0)
instance (a b:Int):Decidable (adj a b):=by unfold adj;infer_instance
def Xw(a b:Int):Int:=if adj a b then Int.tdiv a b-1 else Int.tdiv a b
def flR(a b:Int):Int:=if adj a b then Int.tmod a b+b else Int.tmod a b
theorem tdiv_pp(x y:Nat):Int.tdiv (x:Int) (y:Int)=((x/y:Nat):Int):=rfl
theorem tdiv_pm(x y:Nat):Int.tdiv (x:Int) (-(y:Int))= -((x/y:Nat):Int):=by rw[Int.tdiv_neg];rfl
theorem tdiv_mp(x y:Nat):Int.tdiv (-(x:Int)) (y:Int)= -((x/y:Nat):Int):=by rw[Int.neg_tdiv];rfl
theorem tdiv_mm(x y:Nat):Int.tdiv (-(x:Int)) (-(y:Int))=((x/y:Nat):Int):=by rw[Int.tdiv_neg,Int.neg_tdiv,Int.neg_neg];rfl
theorem tmod_pp(x y:Nat):Int.tmod (x:Int) (y:Int)=((x%y:Nat):Int):=rfl
theorem tmod_pm(x y:Nat):Int.tmod (x:Int) (-(y:Int))=((x%y:Nat):Int):=by rw[Int.tmod_neg];rfl
theorem tmod_mp(x y:Nat):Int.tmod (-(x:Int)) (y:Int)= -((x%y:Nat):Int):=by rw[Int.neg_tmod];rfl
theorem tmod_mm(x y:Nat):Int.tmod (-(x:Int)) (-(y:Int))= -((x%y:Nat):Int):=by rw[Int.tmod_neg,Int.neg_tmod];rfl
theorem tdiv_abs(a b:Int):(Int.tdiv a b).natAbs=a.natAbs/b.natAbs:=Int.natAbs_tdiv a b
theorem tmod_abs(a b:Int):(Int.tmod a b).natAbs=a.natAbs%b.natAbs:=Int.natAbs_tmod a b
theorem Wt(a b:Int):(Int.tdiv a b).natAbs≤a.natAbs:=by rw[tdiv_abs];exact Nat.div_le_self _ _
theorem tmod_lt{a b:Int}(hb:b≠0):(Int.tmod a b).natAbs<b.natAbs:=by rw[tmod_abs];exact Nat.mod_lt _ (by omega)
theorem Zj(a b:Int):(Int.tmod a b).natAbs≤a.natAbs:=by rw[tmod_abs];exact Nat.mod_le _ _
theorem td_eq(a b:Int):Int.tdiv a b*b+Int.tmod a b=a:=by rw[Int.mul_comm];exact Int.mul_tdiv_add_tmod a b
theorem flR_abs{a b:Int}(hb:b≠0):(flR a b).natAbs<b.natAbs:=by
 have h:=tmod_lt (a:=a) hb
 unfold flR
 split
 ·rename_i q
  obtain⟨q1,q2⟩:=q
  omega
 ·exact h
end Go.AE
namespace Go.AE
open Go
theorem Um: ∀{l m:List Nat},Dig l→Dig m→l.map (fun d=>UInt8.ofNat (48+d))=m.map (fun d=>UInt8.ofNat (48+d))→l=m
 |[],[],_,_,_=>rfl
 |[],_::_,_,_,h=>by simp at h
 |_::_,[],_,_,h=>by simp at h
 |x::l,y::m,hl,hm,h=>by
  simp only[List.map_cons,List.cons.injEq]at h
  have h1:=hl x (by simp)
  have h2:=hm y (by simp)
  have h3:x=y:=by
   have:=congrArg UInt8.toNat h.1
   rw[UInt8.toNat_ofNat',UInt8.toNat_ofNat']at this
   omega
  rw[h3,Um (fun z hz=>hl z (by simp[hz])) (fun z hz=>hm z (by simp[hz])) h.2]
theorem Xb{d:Nat}(h:d<10):UInt8.ofNat (48+d)≠45:=by
 intro q
 have:=congrArg UInt8.toNat q
 rw[UInt8.toNat_ofNat']at this
 have h45:(45:UInt8).toNat=45:=rfl
 omega
theorem digs_inj{a b:Nat}(h:Ae a=Ae b):a=b:=by rw[←Gx a,←Gx b,h]
theorem istr_inj{x y:Int}(h:(Ab x).data.toList=(Ab y).data.toList):x=y:=by
 unfold Ab at h
 split at h<;>split at h
 ·simp only[Bg,List.cons.injEq,true_and]at h
  have:=digs_inj (Um (Bs _) (Bs _) h)
  omega
 ·exfalso
  simp only[Bg,Aa]at h
  have hp:=Ax y.toNat
  cases hq:Ae y.toNat with
  |nil=>rw[hq]at hp;simp at hp
  |cons d l=>
   rw[hq]at h
   simp only[List.map_cons,List.cons.injEq]at h
   have hd:Dig (d::l):=by rw[←hq];exact Bs _
   exact Xb (hd d (by simp)) h.1.symm
 ·exfalso
  simp only[Bg,Aa]at h
  have hp:=Ax x.toNat
  cases hq:Ae x.toNat with
  |nil=>rw[hq]at hp;simp at hp
  |cons d l=>
   rw[hq]at h
   simp only[List.map_cons,List.cons.injEq]at h
   have hd:Dig (d::l):=by rw[←hq];exact Bs _
   exact Xb (hd d (by simp)) h.1
 ·simp only[Aa]at h
  have:=digs_inj (Um (Bs _) (Bs _) h)
  omega
theorem txt_eqT{x y:Int}(h:x=y):((Ab x).toList==(Ab y).toList)=true:=by rw[h];exact beq_self_eq_true _
theorem txt_eqF{x y:Int}(h:x≠y):((Ab x).toList==(Ab y).toList)=false:=by
 rw[beq_eq_false_iff_ne]
 intro q
 rw[ByteArray.toList_eq,ByteArray.toList_eq]at q
 exact h (istr_inj q)
end Go.AE
namespace Go.AE
open Go
theorem tdiv_nat(s q:Nat):Int.tdiv ((s:Nat):Int) ((q:Nat):Int)=(((s/q):Nat):Int):=by
 rw[Int.tdiv_eq_ediv_of_nonneg (by omega)];exact (Int.natCast_ediv _ _).symm
end Go.AE
namespace Go.AE
open Go
def Pr(p:Nat):Prop:=2≤p∧ ∀d,2≤d→d<p→p%d≠0
def lprod:List Nat→Nat
 |[]=>1
 |x::l=>x*lprod l
structure PInv (n:Nat) (ps:List Nat) (p s:Nat):Prop where
 prod:lprod ps*s=n
 one:1≤s
 two:2≤p
 pr: ∀x∈ps,Pr x
 le: ∀x∈ps,x≤p
 asc:ps.Pairwise (· ≤ ·)
 nodiv: ∀d,2≤d→d<p→s%d≠0
noncomputable def fs(ps:List Nat):List Value:=ps.map fun p=>Value.string (Ab ((p:Nat):Int))
theorem quo_wrap{s q:Nat}(hs:s<1099511627776):IntKind.wrap .i64 (Int.tdiv ((s:Nat):Int) ((q:Nat):Int))=(((s/q):Nat):Int):=by
 rw[tdiv_nat]
 have:=Nat.div_le_self s q
 generalize s/q=x at*
 exact Cc (by omega) (by omega)
end Go.AE
namespace Go.AE
end Go.AE
namespace Go.AE.F
def val:List Nat→Nat
 |[]=>0
 |x::l=>x+10000*val l
abbrev Lim(l:List Nat):Prop:= ∀x∈l,x<10000
theorem Lim.get{l:List Nat}(h:Lim l)(i:Nat):l.getD i 0<10000:=by
 rcases Nat.lt_or_ge i l.length with q|q
 ·rw[List.getD,List.getElem?_eq_getElem q]
  exact h _ (List.getElem_mem q)
 ·rw[List.getD,List.getElem?_eq_none q]
  decide
theorem Lim.set{l:List Nat}(h:Lim l){i v:Nat}(hv:v<10000):Lim (l.set i v):=fun x hx=>by
 rcases List.mem_or_eq_of_mem_set hx with q|rfl
 ·exact h x q
 ·exact hv
theorem Lim.take{l:List Nat}(h:Lim l)(k:Nat):Lim (l.take k):=fun x hx=>h x (List.mem_of_mem_take hx)
theorem Lim.drop{l:List Nat}(h:Lim l)(k:Nat):Lim (l.drop k):=fun x hx=>h x (List.mem_of_mem_drop hx)
theorem Lim.append{l m:List Nat}(h:Lim l)(g:Lim m):Lim (l++m):=fun x hx=>by
 rcases List.mem_append.1 hx with q|q
 ·exact h x q
 ·exact g x q
theorem Lim.replicate(k:Nat):Lim (List.replicate k 0):=fun x hx=>by
 rw[(List.mem_replicate.1 hx).2];decide
theorem val_append(l m:List Nat):val (l++m)=val l+10000^l.length*val m:=by
 induction l with
 |nil=>simp[val]
 |cons x l ih=>
  simp only[List.cons_append,val,ih,List.length_cons,Nat.pow_succ]
  rw[Nat.mul_add,←Nat.mul_assoc,Nat.mul_comm 10000 (10000^l.length)]
  omega
theorem val_replicate(k:Nat):val (List.replicate k 0)=0:=by
 induction k with
 |zero=>rfl
 |succ k ih=>simp[List.replicate_succ,val,ih]
theorem val_lt{l:List Nat}(h:Lim l):val l<10000^l.length:=by
 induction l with
 |nil=>simp[val]
 |cons x l ih=>
  have h1:=h x (List.mem_cons_self ..)
  have h2:=ih fun y hy=>h y (List.mem_cons_of_mem _ hy)
  simp only[val,List.length_cons,Nat.pow_succ]
  omega
theorem val_set: ∀(l:List Nat) (i v:Nat),i<l.length→val (l.set i v)+l.getD i 0*10000^i=val l+v*10000^i
 |[],i,v,h=>by simp at h
 |x::l,0,v,h=>by simp[val];omega
 |x::l,i+1,v,h=>by
  have:=val_set l i v (by simpa using h)
  simp only[List.set_cons_succ,val,List.getD_cons_succ,Nat.pow_succ]
  have e1:l.getD i 0*(10000^i*10000)=10000*(l.getD i 0*10000^i):=by
   rw[←Nat.mul_assoc,Nat.mul_comm]
  have e2:v*(10000^i*10000)=10000*(v*10000^i):=by
   rw[←Nat.mul_assoc,Nat.mul_comm]
  rw[e1,e2]
  omega
theorem drop_getD{l:List Nat}{i:Nat}(h:i<l.length):l.drop i=l.getD i 0::l.drop (i+1):=by
 rw[List.drop_eq_getElem_cons h,List.getD,List.getElem?_eq_getElem h]
 rfl
theorem val_drop{l:List Nat}{i:Nat}(h:i<l.length):val (l.drop i)=l.getD i 0+10000*val (l.drop (i+1)):=by
 rw[drop_getD h];rfl
theorem val_take_succ(l:List Nat)(i:Nat):val (l.take (i+1))=val (l.take i)+l.getD i 0*10000^i:=by
 rcases Nat.lt_or_ge i l.length with q|q
 ·rw[List.take_succ_eq_append_getElem q,val_append,List.length_take,Nat.min_eq_left (by omega),List.getD,List.getElem?_eq_getElem q]
  simp[val,Nat.mul_comm]
 ·rw[List.take_of_length_le (by omega),List.take_of_length_le q,List.getD,List.getElem?_eq_none q]
  simp
theorem getD_take{l:List Nat}{k i:Nat}(h:i<k):(l.take k).getD i 0=l.getD i 0:=by
 simp[List.getD,h]
theorem getD_set{l:List Nat}{i j v:Nat}(h:i<l.length):(l.set i v).getD j 0=if i=j then v else l.getD j 0:=by
 simp only[List.getD,List.getElem?_set]
 split
 ·rename_i q
  subst q
  simp
 ·rfl
theorem Tu{a b:Nat}(h:a≤b):10000^a≤10000^b:=Nat.pow_le_pow_right (by decide) h
theorem pow_pos(a:Nat):0<10000^a:=Nat.pow_pos (by decide)
theorem carry_step{V V' a q b p Y T:Nat}(h1:V'+a*p=V+((a+q+b)%10000)*p)(hv:V+q*p+p*(b+10000*Y)=T):
  V'+((a+q+b)/10000)*(p*10000)+p*10000*Y=T:=by
 have h3:a+q+b=10000*((a+q+b)/10000)+(a+q+b)%10000:=(Nat.div_add_mod _ _).symm
 generalize (a+q+b)/10000=u at*
 generalize (a+q+b)%10000=v at*
 have e1:(a+q+b)*p=a*p+q*p+b*p:=by rw[Nat.add_mul,Nat.add_mul]
 have e2:(10000*u+v)*p=u*(p*10000)+v*p:=by rw[Nat.add_mul,Nat.mul_comm 10000 u,Nat.mul_assoc,Nat.mul_comm 10000 p]
 have e3:p*(b+10000*Y)=b*p+p*10000*Y:=by rw[Nat.mul_add,Nat.mul_comm p b,Nat.mul_assoc]
 rw[h3,e2]at e1
 omega
theorem Sz{B V V' a p T:Nat}(h1:V'+a*p=V+((a+1)%B)*p)(hv:V+p=T):V'+((a+1)/B)*(p*B)=T:=by
 have h3:B*((a+1)/B)+(a+1)%B=a+1:=Nat.div_add_mod _ _
 generalize (a+1)/B=u at*
 generalize (a+1)%B=v at*
 have e1:(a+1)*p=a*p+p:=by rw[Nat.add_mul,Nat.one_mul]
 have e2:(B*u+v)*p=u*(p*B)+v*p:=by rw[Nat.add_mul,Nat.mul_comm B u,Nat.mul_assoc,Nat.mul_comm B p]
 rw[←h3,e2]at e1
 omega
theorem carry_step0{V V' a p T:Nat}(h1:V'+a*p=V+((a+1)%10000)*p)(hv:V+p=T):V'+((a+1)/10000)*(p*10000)=T:=
 Sz h1 hv
theorem Ze{V p T:Nat}(hv:V+0*p+p*val []=T):V=T:=by
 rw[show val []=0 from rfl,Nat.mul_zero,Nat.add_zero,Nat.zero_mul,Nat.add_zero]at hv;exact hv
theorem nil_one{V p T:Nat}(hv:V+1*p+p*val []=T):V+p=T:=by
 rw[show val []=0 from rfl,Nat.mul_zero,Nat.add_zero,Nat.one_mul]at hv;exact hv
theorem nil_add{V p T:Nat}(h:V=T):V+p*val []=T:=by
 rw[show val []=0 from rfl,Nat.mul_zero,Nat.add_zero];exact h
end Go.AE.F
namespace Go.AE.F
def top(xs:List Nat):Nat→Nat
 |0=>0
 |n+1=>if xs.getD n 0=0 then top xs n else n+1
theorem top_le(xs:List Nat): ∀n,top xs n≤n
 |0=>Nat.le_refl _
 |n+1=>by
  unfold top
  split
  ·have:=top_le xs n;omega
  ·exact Nat.le_refl _
theorem top_pos(xs:List Nat): ∀n,0<top xs n→xs.getD (top xs n-1) 0≠0
 |0,h=>by simp[top]at h
 |n+1,h=>by
  unfold top at h ⊢
  split
  ·rename_i hq
   rw[if_pos hq]at h
   exact top_pos xs n h
  ·rename_i hq
   simpa using hq
theorem top_val(xs:List Nat): ∀n,val (xs.take (top xs n))=val (xs.take n)
 |0=>rfl
 |n+1=>by
  unfold top
  split
  ·rename_i hq
   rw[top_val xs n,val_take_succ,hq,Nat.zero_mul,Nat.add_zero]
  ·rfl
theorem top_zero{xs:List Nat}{n:Nat}(h:xs.getD n 0=0):top xs (n+1)=top xs n:=by rw[top,if_pos h]
theorem top_some{xs:List Nat}{n:Nat}(h:xs.getD n 0≠0):top xs (n+1)=n+1:=by rw[top,if_neg h]
end Go.AE.F
namespace Go.AE
open Go
def Ar(b k i:Nat):Nat:=if Nat.blt i b then i else if Nat.blt i (b+k) then i+2*k else if Nat.blt i (b+2*k) then i-k else i+k
theorem turnT_lt{b k i:Nat}(h:i<b):Ar b k i=i:=by unfold Ar;rw[Dx h];rfl
theorem turnT_1{b k i:Nat}(h:b≤i)(h2:i<b+k):Ar b k i=i+2*k:=by
 unfold Ar;rw[Ct (by omega),Dx h2];rfl
theorem turnT_2{b k i:Nat}(h:b+k≤i)(h2:i<b+2*k):Ar b k i=i-k:=by
 unfold Ar;rw[Ct (by omega),Ct (by omega),Dx h2];rfl
theorem turnT_3{b k i:Nat}(h:b+2*k≤i):Ar b k i=i+k:=by
 unfold Ar;rw[Ct (by omega),Ct (by omega),Ct (by omega)];rfl
theorem turnT_inj{b k i j:Nat}(h:Ar b k i=Ar b k j):i=j:=by
 have cases4: ∀i,(i<b∧Ar b k i=i)∨(b≤i∧i<b+k∧Ar b k i=i+2*k)∨(b+k≤i∧i<b+2*k∧Ar b k i=i-k)∨(b+2*k≤i∧Ar b k i=i+k):=fun i=>by
  rcases Nat.lt_or_ge i b with h1|h1
  ·exact .inl ⟨h1,turnT_lt h1⟩
  rcases Nat.lt_or_ge i (b+k) with h2|h2
  ·exact .inr (.inl ⟨h1,h2,turnT_1 h1 h2⟩)
  rcases Nat.lt_or_ge i (b+2*k) with h3|h3
  ·exact .inr (.inr (.inl ⟨h2,h3,turnT_2 h2 h3⟩))
  ·exact .inr (.inr (.inr ⟨h3,turnT_3 h3⟩))
 rcases cases4 i with⟨a1,a2⟩|⟨a1,a3,a2⟩|⟨a1,a3,a2⟩|⟨a1,a2⟩<;>rcases cases4 j with⟨c1,c2⟩|⟨c1,c3,c2⟩|⟨c1,c3,c2⟩|⟨c1,c2⟩<;>omega
theorem Di{P:Program}{G:Nat}{s0:AS}{fr fr1:Frame}{nx1 nx2 b k:Nat}{l1 l2:List (Nat×AObj)}(hr:Gets P G s0 ⟨fr1,[],Ac nx1 l1⟩)(hfr:fr1={fr with tmps:=Ed (Ar b k) fr.tmps})
  (hd:fr.defers=[]) (hm:fr.mode=.run) (hro:fr.roundOf=none) (ht:fr.todo.all Xm=true) (hG:G≤s0.h.next) (hb:s0.h.next≤b) (hbn:b+2*k≤nx2) (hn:nx1≤nx2+k)
  (hfl:(l2.map (·.2)).all Ms=true) (hmv:(l2.map (·.2)).map (Ep (Ar b k))=l2.map (·.2)) (hl:l2.map (fun x=>(Ac nx1 l1).get (Ar b k x.1))=l2.map fun x=>some x.2):Gets P G s0 ⟨fr,[],Ac nx2 l2⟩:=by
 subst hfr
 have hflat: ∀x∈l2,Ms x.2=true:=fun x hx=>List.all_eq_true.1 hfl _ (List.mem_map.2 ⟨x,hx,rfl⟩)
 have hmv1: ∀x∈l2,Ep (Ar b k) x.2=x.2:=fun x hx=>by
  obtain⟨i,hi,rfl⟩:=List.mem_iff_getElem.1 hx
  have:=congrArg (fun (l:List AObj)=>l[i]?) hmv
  simpa [List.getElem?_eq_getElem hi] using this
 refine Wf (Ar b k) hr hd hm hro ht (by omega) hG (fun i hi=>turnT_lt (by omega)) (fun i hi=>by rw[turnT_3 (by omega)];omega) (fun x hx=>⟨hflat x hx,?_⟩) fun x _ y _ e=>turnT_inj e
 rw[hmv1 x hx]
 obtain⟨i,hi,rfl⟩:=List.mem_iff_getElem.1 hx
 have:=congrArg (fun (l:List (Option AObj))=>l[i]?) hl
 simpa [List.getElem?_eq_getElem hi] using this
end Go.AE
namespace Go.AE
theorem take_drop_snoc{cs:List Nat}{b i:Nat}(hb:b≤i)(hi:i<cs.length):(cs.take (i+1)).drop b=(cs.take i).drop b++[cs.getD i 0]:=by
 rw[List.take_succ_eq_append_getElem hi,List.drop_append_of_le_length (by rw[List.length_take];omega),List.getD,List.getElem?_eq_getElem hi]
 rfl
theorem dval_step{cs:List Nat}{b i:Nat}(hb:b≤i)(hi:i<cs.length):10*Az ((cs.take i).drop b)+cs.getD i 0=Az ((cs.take (i+1)).drop b):=by
 rw[take_drop_snoc hb hi,Wc,Nat.mul_comm]
theorem Wu{es:List Nat}{k:Nat}(hd:Dig es)(h:es.length≤k):Az es<10^k:=
 Nat.lt_of_lt_of_le (Ka es hd) (Nat.pow_le_pow_right (by decide) h)
theorem Yk(k:Nat):(10:Nat)^(4*k)=10000^k:=by
 rw[Nat.pow_mul]
theorem group_step{ds ls:List Nat}{e b k l:Nat}(hv:F.val ls=Az (ds.drop e))(hl:ls.length=k)(he:ds.length-e=4*k)(hbe:b≤e)(hel:e≤ds.length)(hle:l=Az ((ds.take e).drop b)):F.val (ls++[l])=Az (ds.drop b):=by
 have h1:ds.drop b=(ds.take e).drop b++ds.drop e:=by
  have h2:=List.take_append_drop e ds
  have h3:(ds.take e++ds.drop e).drop b=(ds.take e).drop b++ds.drop e:=List.drop_append_of_le_length (by rw[List.length_take];omega)
  rw[h2]at h3
  exact h3
 rw[h1,Gr,F.val_append,hl,hv,List.length_drop,he,Yk,hle]
 simp only[F.val,Nat.mul_zero,Nat.add_zero]
 rw[Nat.mul_comm,Nat.add_comm]
end Go.AE
namespace Go.AE.F
theorem sum_step{B V c p a b X Y T:Nat}(h:V+c*p+p*((a+B*X)+(b+B*Y))=T):
  (V+p*((c+a+b)%B))+((c+a+b)/B)*(p*B)+(p*B)*(X+Y)=T:=by
 have h3:c+a+b=B*((c+a+b)/B)+(c+a+b)%B:=(Nat.div_add_mod _ _).symm
 generalize (c+a+b)/B=u at*
 generalize (c+a+b)%B=v at*
 have e1:p*(c+a+b)=p*(B*u+v):=by rw[h3]
 simp only[Nat.mul_add,Nat.add_mul,Nat.mul_comm,Nat.mul_left_comm,Nat.mul_assoc]at*
 omega
theorem val_drop'(l:List Nat)(i:Nat):val (l.drop i)=l.getD i 0+10000*val (l.drop (i+1)):=by
 by_cases h:i<l.length
 ·exact val_drop h
 ·rw[List.drop_eq_nil_of_le (by omega),List.drop_eq_nil_of_le (by omega),List.getD,List.getElem?_eq_none (by omega)]
  rfl
theorem getD_le{l:List Nat}{i:Nat}(h:l.length≤i):l.getD i 0=0:=by
 rw[List.getD,List.getElem?_eq_none h];rfl
theorem val_snoc'(l:List Nat)(v:Nat):val (l++[v])=val l+10000^l.length*v:=by
 rw[val_append];simp[val]
theorem sum_round{X Y os:List Nat}{i c s T:Nat}(hl:os.length=i)(hs:s=c+X.getD i 0+Y.getD i 0)
  (h:val os+c*10000^i+10000^i*(val (X.drop i)+val (Y.drop i))=T):
  val (os++[s%10000])+(s/10000)*10000^(i+1)+10000^(i+1)*(val (X.drop (i+1))+val (Y.drop (i+1)))=T:=by
 rw[val_drop' X,val_drop' Y]at h
 have:=sum_step h
 rw[val_snoc',hl,hs,Nat.pow_succ]
 exact this
end Go.AE.F
namespace Go.AE.F
theorem val_lt_of_len{xs ys:List Nat}{n k:Nat}(hlx:Lim xs)(hn:n≤xs.length)(h:n<k)(hy:0<k→ys.getD (k-1) 0≠0):val (xs.take n)<val (ys.take k):=by
 have h1:=val_lt (hlx.take n)
 rw[List.length_take,Nat.min_eq_left hn]at h1
 obtain⟨q,rfl⟩: ∃q,k=q+1:=⟨k-1,by omega⟩
 have h2:=hy (by omega)
 rw[Nat.add_sub_cancel]at h2
 rw[val_take_succ]
 have h3:10000^n≤10000^q:=Tu (by omega)
 have h4:1*10000^q≤ys.getD q 0*10000^q:=Nat.mul_le_mul_right _ (by omega)
 omega
end Go.AE.F
namespace Go.AE.F
theorem diff_step{B V Z T c d p a b v X Y:Nat}(h0:v+b+c=a+d*B)(h:V+Z+p*(a+B*X)=T+p*(b+B*Y)+c*p):
  (V+p*v)+Z+(p*B)*X=T+(p*B)*Y+d*(p*B):=by
 have e1:p*(v+b+c)=p*(a+d*B):=by rw[h0]
 simp only[Nat.mul_add,Nat.mul_comm,Nat.mul_left_comm]at*
 omega
theorem diff_round{X Y os:List Nat}{i c d v Z T:Nat}(hl:os.length=i)(hs:v+Y.getD i 0+c=X.getD i 0+d*10000)
  (h:val os+Z+10000^i*val (X.drop i)=T+10000^i*val (Y.drop i)+c*10000^i):
  val (os++[v])+Z+10000^(i+1)*val (X.drop (i+1))=T+10000^(i+1)*val (Y.drop (i+1))+d*10000^(i+1):=by
 rw[val_drop' X,val_drop' Y]at h
 have:=diff_step hs h
 rw[val_snoc',hl,Nat.pow_succ]
 exact this
end Go.AE.F
namespace Go.AE.F
theorem mul_fit{a b:Nat}(ha:a<10000)(hb:b<10000):a*b≤99980001:=by
 have:=Nat.mul_le_mul (show a≤9999 by omega) (show b≤9999 by omega)
 omega
theorem row_step{V V' a b r q p Y T:Nat}(h1:V'+r*p=V+((a*b+r+q)%10000)*p)(hv:V+q*p+a*(p*(b+10000*Y))=T):
  V'+((a*b+r+q)/10000)*(p*10000)+a*(p*10000*Y)=T:=row_step' h1 hv
theorem nil_mul{V a p T:Nat}(hv:V+a*(p*val [])=T):V=T:=by
 rw[show val []=0 from rfl,Nat.mul_zero,Nat.mul_zero,Nat.add_zero]at hv;exact hv
end Go.AE.F
namespace Go.AE.F
open Go Go.AE
def gd(xs:List Nat)(t:Nat)(i:Int):Nat:=if 0≤i∧i<t then xs.getD i.toNat 0 else 0
def gtop(xs:List Nat)(t n:Nat):Nat:=(gd xs t n*10000+gd xs t ((n:Int)-1))*10000+gd xs t ((n:Int)-2)
def gby(ys:List Nat)(n:Nat):Nat:=ys.getD (n-1) 0*10000+if 1<n then ys.getD (n-2) 0 else 0
def guessF(xs:List Nat)(t:Nat)(ys:List Nat)(n:Nat):Nat:=min 9999 (gtop xs t n/gby ys n)
theorem gd_nat(xs:List Nat)(t i:Nat):gd xs t (i:Int)=(xs.take t).getD i 0:=by
 unfold gd
 by_cases h:i<t
 ·rw[if_pos (by omega),getD_take h,Int.toNat_natCast]
 ·rw[if_neg (by omega),getD_le (by rw[List.length_take];omega)]
theorem gd_neg(xs:List Nat)(t:Nat){i:Int}(h:i<0):gd xs t i=0:=by
 unfold gd
 rw[if_neg (by omega)]
theorem gd_lt{xs:List Nat}(hl:Lim xs)(t:Nat)(i:Int):gd xs t i<10000:=by
 unfold gd
 split
 ·exact hl.get _
 ·decide
theorem guess_up{W V W3 V2 P lo vl:Nat}(hW:W=W3*P+lo)(hlo:lo<P)(hV:V=V2*P+vl)(h2:0<V2):W/V≤W3/V2:=by
 rw[Nat.le_div_iff_mul_le h2]
 rcases Nat.lt_or_ge W3 (W/V*V2) with h|h
 ·exfalso
  have h1:(W3+1)*P≤W/V*V2*P:=Nat.mul_le_mul_right P h
  have h3:W/V*(V2*P)≤W/V*V:=Nat.mul_le_mul_left _ (by omega)
  have h4:=Nat.div_mul_le_self W V
  rw[Nat.mul_assoc]at h1
  rw[Nat.add_mul,Nat.one_mul]at h1
  omega
 ·exact h
theorem Lk(l:List Nat)(k:Nat):val l=val (l.take k)+10000^k*val (l.drop k):=by
 induction k generalizing l with
 |zero=>simp[val]
 |succ k ih=>
  cases l with
  |nil=>simp[val]
  |cons x l=>
   simp only[List.take_succ_cons,List.drop_succ_cons,val]
   rw[ih l,Nat.pow_succ]
   generalize val (l.take k)=A
   generalize val (l.drop k)=C
   generalize 10000^k=p
   rw[Nat.mul_add,Nat.mul_comm p 10000,Nat.mul_assoc,Nat.add_assoc]
theorem Dv{l:List Nat}(h:Lim l)(k:Nat):val (l.take k)<10000^k:=
 Nat.lt_of_lt_of_le (val_lt (h.take k)) (Tu (by rw[List.length_take];exact Nat.min_le_left _ _))
theorem drop_zero_of_lt{l:List Nat}{k:Nat}(h:val l<10000^k):val (l.drop k)=0:=by
 have h1:=Lk l k
 rcases Nat.eq_zero_or_pos (val (l.drop k)) with h2|h2
 ·exact h2
 ·have:=Nat.mul_le_mul_left (10000^k) h2
  rw[Nat.mul_one]at this
  omega
theorem guessF_ge{xs ys:List Nat}{t n:Nat}(hlx:Lim xs)(hly:Lim ys)(hn:n≤ys.length)(h0:0<n)(hy:ys.getD (n-1) 0≠0)(hR:val (xs.take t)<val (ys.take n)*10000):
  val (xs.take t)/val (ys.take n)≤guessF xs t ys n:=by
 have hV:0<val (ys.take n):=by
  rcases Nat.eq_zero_or_pos (val (ys.take n)) with h|h
  ·rw[h]at hR;omega
  ·exact h
 have h9:val (xs.take t)/val (ys.take n)≤9999:=by
  have:=Nat.div_lt_of_lt_mul hR
  omega
 refine Nat.le_min.2 ⟨h9,?_⟩
 have hVl:=Dv hly n
 have hl:=hlx.take t
 generalize hL:xs.take t=l at*
 obtain⟨m,rfl⟩: ∃m,n=m+1:=⟨n-1,by omega⟩
 rw[Nat.add_sub_cancel]at hy
 have hz:val (l.drop (m+2))=0:=drop_zero_of_lt (by
  rw[show m+2=(m+1)+1 from rfl,Nat.pow_succ]
  exact Nat.lt_of_lt_of_le hR (Nat.mul_le_mul_right 10000 (Nat.le_of_lt hVl)))
 have hya:val (ys.take (m+1))=val (ys.take m)+ys.getD m 0*10000^m:=val_take_succ ys m
 have e1:gd xs t ((m+1:Nat):Int)=l.getD (m+1) 0:=by rw[gd_nat,hL]
 have e2:gd xs t (((m+1:Nat):Int)-1)=l.getD m 0:=by
  rw[show ((m+1:Nat):Int)-1=(m:Int) by omega,gd_nat,hL]
 cases m with
 |zero=>
  have e3:gd xs t (((0+1:Nat):Int)-2)=0:=gd_neg xs t (by omega)
  unfold gtop gby
  rw[e1,e2,e3,if_neg (by omega),Nat.add_zero,Nat.add_zero,show 0+1-1=0 from rfl,Nat.add_zero,Nat.mul_div_mul_right _ _ (by decide)]
  have h1:val l=l.getD 0 0+10000*(l.getD 1 0+10000*val (l.drop 2)):=by
   have a:=val_drop' l 0
   rw[List.drop_zero,val_drop' l 1]at a
   exact a
  rw[hz]at h1
  have h2:val (ys.take 1)=ys.getD 0 0:=by
   rw[show (1:Nat)=0+1 from rfl,hya];simp[val]
  rw[h2,h1]
  rw[show l.getD 0 0+10000*(l.getD 1 0+10000*0)=l.getD 1 0*10000+l.getD 0 0 by omega]
  exact Nat.le_refl _
 |succ m=>
  have e3:gd xs t (((m+1+1:Nat):Int)-2)=l.getD m 0:=by
   rw[show ((m+1+1:Nat):Int)-2=(m:Int) by omega,gd_nat,hL]
  unfold gtop gby
  rw[e1,e2,e3,if_pos (by omega),show m+1+1-1=m+1 by omega,show m+1+1-2=m by omega]
  have h1:=Lk l m
  rw[val_drop' l m,val_drop' l (m+1),val_drop' l (m+1+1)]at h1
  rw[show m+1+1+1=m+1+2 from rfl,hz]at h1
  rw[val_take_succ ys m]at hya
  have h4:=Dv hl m
  refine guess_up (P:=10000^m) (lo:=val (l.take m)) (vl:=val (ys.take m)) ?_ h4 ?_ (by have:=Nat.pos_of_ne_zero hy;omega)
  ·rw[h1]
   generalize val (l.take m)=A
   generalize 10000^m=p
   generalize l.getD m 0=a
   generalize l.getD (m+1) 0=b
   generalize l.getD (m+1+1) 0=c
   rw[Nat.mul_zero,Nat.add_zero]
   rw[show a+10000*(b+10000*c)=(c*10000+b)*10000+a by omega,Nat.mul_comm p,Nat.add_comm]
  ·rw[hya,Nat.pow_succ]
   generalize val (ys.take m)=A
   generalize 10000^m=p
   generalize ys.getD m 0=a
   generalize ys.getD (m+1) 0=b
   rw[Nat.add_mul,Nat.mul_comm p,Nat.mul_assoc]
   omega
theorem guessF_le(xs ys:List Nat)(t n:Nat):guessF xs t ys n<10000:=by
 have:=Nat.min_le_left 9999 (gtop xs t n/gby ys n)
 unfold guessF
 omega
theorem over_step{V Q R a T X q:Nat}(h:Q*V+R=X)(hq:q=(a+10000*R)/V):
  (q+10000*Q)*V+(a+10000*R-q*V)=a+10000*X:=by
 have h1:q*V≤a+10000*R:=by rw[hq];exact Nat.div_mul_le_self _ _
 rw[←h,Nat.add_mul,Nat.mul_add,Nat.mul_assoc]
 omega
theorem over_lt{V R' q:Nat}(hV:0<V)(hq:q=R'/V):R'-q*V<V:=by
 have h1:=Nat.div_add_mod R' V
 have h2:=Nat.mod_lt R' hV
 rw[hq,Nat.mul_comm]
 omega
theorem over_up{V R a:Nat}(hR:R<V)(ha:a<10000):a+10000*R<V*10000:=by omega
theorem cons_val(a:Nat)(l:List Nat):val (a::l)=a+10000*val l:=rfl
theorem down_q{V R' q:Nat}(hV:0<V)(h:R'/V≤q)(hgt:R'<q*V):R'/V≤q-1:=by
 have:=Nat.div_lt_of_lt_mul (k:=q) (m:=R') (n:=V) (by rw[Nat.mul_comm];exact hgt)
 omega
theorem stop_q{V R' q:Nat}(hV:0<V)(h:R'/V≤q)(hle:q*V≤R'):q=R'/V:=by
 have:=(Nat.le_div_iff_mul_le hV).2 hle
 omega
theorem val_drop_set{l:List Nat}{i v:Nat}(h:i<l.length):val ((l.set i v).drop i)=v+10000*val (l.drop (i+1)):=by
 rw[val_drop',getD_set h,if_pos rfl,List.drop_set_of_lt (by omega)]
theorem cmpN_le{a b:Nat}(h:a≤b): ¬Gp a b>0:=by
 unfold Gp
 split
 ·omega
 ·split<;>omega
theorem down_loop{I:Nat→Prop}{O:Nat→Nat→Prop}{V R':Nat}(hV:0<V)(hr: ∀q,0<q→q<10000→R'<q*V→I q→I (q-1))(hx: ∀q,0<q→q<10000→q*V≤R'→I q→O q (R'-q*V))(h0:R'<V→I 0→O 0 R'):
  ∀q,q<10000→R'/V≤q→I q→O (R'/V) (R'-R'/V*V):=by
 intro q
 induction q with
 |zero=>
  intro _ hq h
  have e:R'/V=0:=Nat.le_zero.1 hq
  rw[e,Nat.zero_mul,Nat.sub_zero]
  refine h0 ?_ h
  rcases Nat.lt_or_ge R' V with g|g
  ·exact g
  ·have:=Nat.div_pos g hV
   rw[e]at this
   exact absurd this (by decide)
 |succ q ih=>
  intro hm hq h
  by_cases hg:R'<(q+1)*V
  ·exact ih (by omega) (down_q hV hq hg) (hr (q+1) (by omega) hm hg h)
  ·have e:=stop_q hV hq (by omega)
   rw[←e]
   exact hx (q+1) (by omega) hm (by omega) h
end Go.AE.F
namespace Go.AE
open Go
def Mc(b:Nat)(tbl:List Nat)(c i:Nat):Nat:=if Nat.blt i b then i else match tbl[i-b]? with
 |some x=>x
 |none=>i+c
theorem tauT_lt{b c i:Nat}{tbl:List Nat}(h:i<b):Mc b tbl c i=i:=by unfold Mc;rw[Dx h];rfl
theorem tauT_ge{b c i:Nat}{tbl:List Nat}(h:b+tbl.length≤i):Mc b tbl c i=i+c:=by
 unfold Mc
 rw[Ct (by omega),List.getElem?_eq_none (by omega)]
 rfl
def injK(τ:Nat→Nat)(l:List (Nat×AObj)):Bool:=l.all fun x=>l.all fun y=> !Nat.beq (τ x.1) (τ y.1)||Nat.beq x.1 y.1
theorem Lg{P:Program}{G:Nat}{s0:AS}{fr fr1:Frame}{nx1 nx2 b c:Nat}{tbl:List Nat}{l1 l2:List (Nat×AObj)}(hr:Gets P G s0 ⟨fr1,[],Ac nx1 l1⟩)(hfr:fr1={fr with tmps:=Ed (Mc b tbl c) fr.tmps})
  (hd:fr.defers=[]) (hm:fr.mode=.run) (hro:fr.roundOf=none) (ht:fr.todo.all Xm=true) (hG:G≤s0.h.next) (hb:s0.h.next≤b) (hbn:b+tbl.length≤nx2) (hn:nx1≤nx2+c)
  (hfl:(l2.map (·.2)).all Ms=true) (hmv:(l2.map (·.2)).map (Ep (Mc b tbl c))=l2.map (·.2)) (hl:l2.map (fun x=>(Ac nx1 l1).get (Mc b tbl c x.1))=l2.map fun x=>some x.2) (hinj:injK (Mc b tbl c) l2=true):Gets P G s0 ⟨fr,[],Ac nx2 l2⟩:=by
 subst hfr
 have hflat: ∀x∈l2,Ms x.2=true:=fun x hx=>List.all_eq_true.1 hfl _ (List.mem_map.2 ⟨x,hx,rfl⟩)
 have hmv1: ∀x∈l2,Ep (Mc b tbl c) x.2=x.2:=fun x hx=>by
  obtain⟨i,hi,rfl⟩:=List.mem_iff_getElem.1 hx
  have:=congrArg (fun (l:List AObj)=>l[i]?) hmv
  simpa [List.getElem?_eq_getElem hi] using this
 refine Wf (Mc b tbl c) hr hd hm hro ht (by omega) hG (fun i hi=>tauT_lt (by omega)) (fun i hi=>by rw[tauT_ge (by omega)];omega) (fun x hx=>⟨hflat x hx,?_⟩) fun x hx y hy e=> ?_
 ·rw[hmv1 x hx]
  obtain⟨i,hi,rfl⟩:=List.mem_iff_getElem.1 hx
  have:=congrArg (fun (l:List (Option AObj))=>l[i]?) hl
  simpa [List.getElem?_eq_getElem hi] using this
 ·have h:=List.all_eq_true.1 (List.all_eq_true.1 hinj x hx) y hy
  rw[Bool.or_eq_true]at h
  rcases h with h|h
  ·rw[e]at h
   simp at h
  ·exact Nat.eq_of_beq_eq_true h
end Go.AE
namespace Go.AE
open Go
theorem mvA_id{τ:Nat→Nat}(h: ∀i,τ i=i)(a:Addr):mvA τ a=a:=by
 cases a;simp[mvA,h]
theorem mvF_id{τ:Nat→Nat}(h: ∀i,τ i=i)(f:Fn):mvF τ f=f:=by
 cases f<;>simp[mvF,h]
mutual
theorem mv_id{τ:Nat→Nat}(h: ∀i,τ i=i): ∀v,mv τ v=v
 | .bool _| .int _ _| .float _ _| .complex _ _ _| .string _| .pointer none| .slice none _ _| .map none| .chan none| .nilFunc| .nilIface=>by simp[mv]
 | .pointer (some a)=>by simp[mv,mvA_id h]
 | .slice (some a) n c=>by simp[mv,mvA_id h]
 | .map (some r)=>by simp[mv,h]
 | .chan (some r)=>by simp[mv,h]
 | .func fn first cap=>by simp[mv,mvF_id h,Ys h first,Ys h cap]
 | .iface t v=>by simp[mv,mv_id h v]
 | .agg cs=>by simp[mv,Ys h cs]
 | .tuple cs=>by simp[mv,Ys h cs]
theorem Ys{τ:Nat→Nat}(h: ∀i,τ i=i): ∀v,Ed τ v=v
 |⟨l⟩=>by simp[Ed,mvL_id h l]
theorem mvL_id{τ:Nat→Nat}(h: ∀i,τ i=i): ∀v,Qr τ v=v
 |[]=>by simp[Qr]
 |v::l=>by simp[Qr,mv_id h v,mvL_id h l]
end
theorem Ag(b:Nat)(v:Value):mv (Ak b 0) v=v:=mv_id (fun i=>by unfold Ak;split<;>rfl) v
mutual
theorem mv_good{τ:Nat→Nat}{ok:Nat→Bool}(h: ∀i,ok i=true→τ i=i): ∀v,Gb ok v=true→mv τ v=v
 | .bool _,_| .int _ _,_| .float _ _,_| .complex _ _ _,_| .string _,_| .pointer none,_| .slice none _ _,_| .map none,_| .chan none,_| .nilFunc,_| .nilIface,_=>by simp only[mv]
 | .pointer (some a),g=>by
   simp only[Gb]at g
   simp[mv,mvA,h _ g]
 | .slice (some a) n c,g=>by
   simp only[Gb]at g
   simp[mv,mvA,h _ g]
 | .map (some r),g=>by
   simp only[Gb]at g
   simp[mv,h _ g]
 | .chan (some _),g=>by simp[Gb]at g
 | .func fn first cap,g=>by
   simp only[Gb,Bool.and_eq_true]at g
   have h1:=Tw h first g.2.1
   have h2:=Tw h cap g.2.2
   cases fn<;>simp_all [mv,mvF]
 | .iface t v,g=>by
   simp only[Gb]at g
   simp[mv,mv_good h v g]
 | .agg cs,g=>by
   simp only[Gb]at g
   simp[mv,Tw h cs g]
 | .tuple cs,g=>by
   simp only[Gb]at g
   simp[mv,Tw h cs g]
theorem Tw{τ:Nat→Nat}{ok:Nat→Bool}(h: ∀i,ok i=true→τ i=i): ∀v,Lr ok v=true→Ed τ v=v
 |⟨l⟩,g=>by
  simp only[Lr]at g
  simp[Ed,Uu h l g]
theorem Uu{τ:Nat→Nat}{ok:Nat→Bool}(h: ∀i,ok i=true→τ i=i): ∀v,Gm ok v=true→Qr τ v=v
 |[],_=>by simp[Qr]
 |v::l,g=>by
  simp only[Gm,Bool.and_eq_true]at g
  simp[Qr,mv_good h v g.1,Uu h l g.2]
end
theorem goodL_getD{ok:Nat→Bool}: ∀{l:List Value},Gm ok l=true→ ∀i,Gb ok (l.getD i undef)=true
 |[],_,i=>by simp[undef,Gb,Lr,Gm]
 |v::l,g,0=>by
  simp only[Gm,Bool.and_eq_true]at g
  exact g.1
 |v::l,g,i+1=>by
  simp only[Gm,Bool.and_eq_true]at g
  exact goodL_getD g.2 i
theorem slide_fix{n b k:Nat}(h:n≤b)(i:Nat)(hi:Nat.blt i n=true):Ak b k i=i:=by
 have:i<n:=by simpa [Nat.blt_eq] using hi
 unfold Ak
 rw[Dx (by omega)]
 rfl
end Go.AE
namespace Go.AE
open Go
theorem fsp_more{P:Program}{G:Nat}{f:FuncId}{args:Array Value}{n:Nat}{v:Value}{L gl:List (Nat×AObj)}(hsub: ∀x∈L,x∈gl)
  (S:FSp P G f args n L v (L.map fun x=>(x.1,some x.2)) []):FSp P G f args n gl v (gl.map fun x=>(x.1,some x.2)) []:=by
 intro h hn hh ρ w args' HW hargs
 have hL: ∀x∈L,h.get x.1=some x.2:=fun x hx=>hh x (hsub x hx)
 refine (S h hn hL ρ w args' HW hargs).mono ?_
 rintro e w' ⟨ρ',v',rfl,W',E',hr⟩
 have s1:=fun i=>(Kp hL i).1
 have s2:=fun i=>(Kp hh i).1
 have hnx:(Cp (Ce h (gl.map fun x=>(x.1,some x.2))) []).next=(Cp (Ce h (L.map fun x=>(x.1,some x.2))) []).next:=by
  show (Ce h (gl.map fun x=>(x.1,some x.2))).next=(Ce h (L.map fun x=>(x.1,some x.2))).next
  rw[(Kp hh 0).2,(Kp hL 0).2]
 have hsb: ∀i o,(Cp (Ce h (gl.map fun x=>(x.1,some x.2))) []).get i=some o→(Cp (Ce h (L.map fun x=>(x.1,some x.2))) []).get i=some o:=fun i o e=>by
  have e':(Ce h (gl.map fun x=>(x.1,some x.2))).get i=some o:=e
  show (Ce h (L.map fun x=>(x.1,some x.2))).get i=some o
  rw[s1 i,←s2 i];exact e'
 exact⟨ρ',v',rfl,W'.sub hnx hsb,E'.sub hnx hsb,hr⟩
end Go.AE
