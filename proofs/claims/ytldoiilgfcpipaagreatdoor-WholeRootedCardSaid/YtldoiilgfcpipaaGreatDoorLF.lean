import Derived.Test.YtldoiilgfcpipaaGreatDoorLE
import Derived.Test.YtldoiilgfcpipaaGreatDoorLD
import Derived.Laws.Strings
set_option linter.unusedVariables false
set_option linter.unusedSimpArgs false
namespace Go.AE
open Go
def turnT(b k i:Nat):Nat:=if Nat.blt i b then i else if Nat.blt i (b+k) then i+2*k else if Nat.blt i (b+2*k) then i-k else i+k
theorem turnT_lt{b k i:Nat}(h:i<b):turnT b k i=i:=by unfold turnT;rw[blt_true h];rfl
theorem turnT_1{b k i:Nat}(h:b≤i)(h2:i<b+k):turnT b k i=i+2*k:=by
 unfold turnT;rw[blt_false (by omega),blt_true h2];rfl
theorem turnT_2{b k i:Nat}(h:b+k≤i)(h2:i<b+2*k):turnT b k i=i-k:=by
 unfold turnT;rw[blt_false (by omega),blt_false (by omega),blt_true h2];rfl
theorem turnT_3{b k i:Nat}(h:b+2*k≤i):turnT b k i=i+k:=by
 unfold turnT;rw[blt_false (by omega),blt_false (by omega),blt_false (by omega)];rfl
theorem turnT_inj{b k i j:Nat}(h:turnT b k i=turnT b k j):i=j:=by
 have cases4: ∀i,(i<b∧turnT b k i=i)∨(b≤i∧i<b+k∧turnT b k i=i+2*k)∨(b+k≤i∧i<b+2*k∧turnT b k i=i-k)∨(b+2*k≤i∧turnT b k i=i+k):=fun i=>by
  rcases Nat.lt_or_ge i b with h1|h1
  ·exact .inl ⟨h1,turnT_lt h1⟩
  rcases Nat.lt_or_ge i (b+k) with h2|h2
  ·exact .inr (.inl ⟨h1,h2,turnT_1 h1 h2⟩)
  rcases Nat.lt_or_ge i (b+2*k) with h3|h3
  ·exact .inr (.inr (.inl ⟨h2,h3,turnT_2 h2 h3⟩))
  ·exact .inr (.inr (.inr ⟨h3,turnT_3 h3⟩))
 rcases cases4 i with⟨a1,a2⟩|⟨a1,a3,a2⟩|⟨a1,a3,a2⟩|⟨a1,a2⟩<;>rcases cases4 j with⟨c1,c2⟩|⟨c1,c3,c2⟩|⟨c1,c3,c2⟩|⟨c1,c2⟩<;>omega
theorem gets_turn{P:Program}{G:Nat}{s0:AS}{fr fr1:Frame}{nx1 nx2 b k:Nat}{l1 l2:List (Nat×AObj)}(hr:Gets P G s0 ⟨fr1,[],mkH nx1 l1⟩)(hfr:fr1={fr with tmps:=mvArr (turnT b k) fr.tmps})
  (hd:fr.defers=[]) (hm:fr.mode=.run) (hro:fr.roundOf=none) (ht:fr.todo.all plainI=true) (hG:G≤s0.h.next) (hb:s0.h.next≤b) (hbn:b+2*k≤nx2) (hn:nx1≤nx2+k)
  (hfl:(l2.map (·.2)).all plainO=true) (hmv:(l2.map (·.2)).map (mvO (turnT b k))=l2.map (·.2)) (hl:l2.map (fun x=>(mkH nx1 l1).get (turnT b k x.1))=l2.map fun x=>some x.2):Gets P G s0 ⟨fr,[],mkH nx2 l2⟩:=by
 subst hfr
 have hflat: ∀x∈l2,plainO x.2=true:=fun x hx=>List.all_eq_true.1 hfl _ (List.mem_map.2 ⟨x,hx,rfl⟩)
 have hmv1: ∀x∈l2,mvO (turnT b k) x.2=x.2:=fun x hx=>by
  obtain⟨i,hi,rfl⟩:=List.mem_iff_getElem.1 hx
  have:=congrArg (fun (l:List AObj)=>l[i]?) hmv
  simpa [List.getElem?_eq_getElem hi] using this
 refine gets_move (turnT b k) hr hd hm hro ht (by omega) hG (fun i hi=>turnT_lt (by omega)) (fun i hi=>by rw[turnT_3 (by omega)];omega) (fun x hx=>⟨hflat x hx,?_⟩) fun x _ y _ e=>turnT_inj e
 rw[hmv1 x hx]
 obtain⟨i,hi,rfl⟩:=List.mem_iff_getElem.1 hx
 have:=congrArg (fun (l:List (Option AObj))=>l[i]?) hl
 simpa [List.getElem?_eq_getElem hi] using this
end Go.AE
namespace Go.AE
open Go
def tauT(b:Nat)(tbl:List Nat)(c i:Nat):Nat:=if Nat.blt i b then i else match tbl[i-b]? with
 |some x=>x
 |none=>i+c
theorem tauT_lt{b c i:Nat}{tbl:List Nat}(h:i<b):tauT b tbl c i=i:=by unfold tauT;rw[blt_true h];rfl
theorem tauT_ge{b c i:Nat}{tbl:List Nat}(h:b+tbl.length≤i):tauT b tbl c i=i+c:=by
 unfold tauT
 rw[blt_false (by omega),List.getElem?_eq_none (by omega)]
 rfl
def injK(τ:Nat→Nat)(l:List (Nat×AObj)):Bool:=l.all fun x=>l.all fun y=> !Nat.beq (τ x.1) (τ y.1)||Nat.beq x.1 y.1
theorem gets_tau{P:Program}{G:Nat}{s0:AS}{fr fr1:Frame}{nx1 nx2 b c:Nat}{tbl:List Nat}{l1 l2:List (Nat×AObj)}(hr:Gets P G s0 ⟨fr1,[],mkH nx1 l1⟩)(hfr:fr1={fr with tmps:=mvArr (tauT b tbl c) fr.tmps})
  (hd:fr.defers=[]) (hm:fr.mode=.run) (hro:fr.roundOf=none) (ht:fr.todo.all plainI=true) (hG:G≤s0.h.next) (hb:s0.h.next≤b) (hbn:b+tbl.length≤nx2) (hn:nx1≤nx2+c)
  (hfl:(l2.map (·.2)).all plainO=true) (hmv:(l2.map (·.2)).map (mvO (tauT b tbl c))=l2.map (·.2)) (hl:l2.map (fun x=>(mkH nx1 l1).get (tauT b tbl c x.1))=l2.map fun x=>some x.2) (hinj:injK (tauT b tbl c) l2=true):Gets P G s0 ⟨fr,[],mkH nx2 l2⟩:=by
 subst hfr
 have hflat: ∀x∈l2,plainO x.2=true:=fun x hx=>List.all_eq_true.1 hfl _ (List.mem_map.2 ⟨x,hx,rfl⟩)
 have hmv1: ∀x∈l2,mvO (tauT b tbl c) x.2=x.2:=fun x hx=>by
  obtain⟨i,hi,rfl⟩:=List.mem_iff_getElem.1 hx
  have:=congrArg (fun (l:List AObj)=>l[i]?) hmv
  simpa [List.getElem?_eq_getElem hi] using this
 refine gets_move (tauT b tbl c) hr hd hm hro ht (by omega) hG (fun i hi=>tauT_lt (by omega)) (fun i hi=>by rw[tauT_ge (by omega)];omega) (fun x hx=>⟨hflat x hx,?_⟩) fun x hx y hy e=> ?_
 ·rw[hmv1 x hx]
  obtain⟨i,hi,rfl⟩:=List.mem_iff_getElem.1 hx
  have:=congrArg (fun (l:List (Option AObj))=>l[i]?) hl
  simpa [List.getElem?_eq_getElem hi] using this
 ·have h:=List.all_eq_true.1 (List.all_eq_true.1 hinj x hx) y hy
  rw[Bool.or_eq_true]at h
  rcases h with h|h
  ·rw[e]at h
   simp at h
  ·exact Nat.eq_of_beq_eq_true h
end Go.AE
namespace Go.AE
open Go
theorem digs_len_pos(n:Nat):0<(digs n).length:=List.length_pos_iff.2 (digs_ne n)
theorem digs_head: ∀n,0<n→(digs n).getD 0 0≠0:=by
 intro n
 induction n using Nat.strongRecOn with
 |ind n ih=>
  intro h0
  by_cases h:n<10
  ·rw[digs_small h]
   show n≠0
   omega
  ·rw[digs_big h]
   have h1:=ih (n/10) (by omega) (by omega)
   have h2:=digs_len_pos (n/10)
   cases hd:digs (n/10) with
   |nil=>rw[hd]at h2;exact absurd h2 (by decide)
   |cons d ds=>rw[hd]at h1;exact h1
theorem digs_zero:digs 0=[0]:=digs_small (by decide)
theorem digs_len_le{n k:Nat}(h:ndig n≤k)(hk:0<k):(digs n).length≤k:=by
 rcases Nat.eq_zero_or_pos n with q|q
 ·rw[q,digs_zero];exact hk
 ·rw[digs_len n q];exact h
theorem istr_nn(m:Nat):istr (m:Int)=dstr (digs m):=by
 unfold istr
 rw[if_neg (by omega)]
 rfl
theorem istr_neg{m:Nat}(h:0<m):istr (-(m:Int))=mstr (digs m):=by
 unfold istr
 rw[if_pos (by omega),Int.natAbs_neg]
 rfl
theorem int_cases(a:Int):(∃m:Nat,a=(m:Int)∧a.natAbs=m)∨ ∃m:Nat,0<m∧a= -(m:Int)∧a.natAbs=m:=by
 rcases (by omega:a<0∨0≤a) with h|h
 ·exact Or.inr ⟨a.natAbs,by omega,by omega,rfl⟩
 ·exact Or.inl ⟨a.natAbs,by omega,rfl⟩
theorem mstr_len(ds:List Nat):(mstr ds).size=ds.length+1:=by simp[mstr,ByteArray.size]
theorem lt_of_ndig{n k:Nat}(h:(digs n).length≤k):n<10^k:=by
 have h1:=dval_lt _ (digs_dig n)
 rw[digs_val]at h1
 exact Nat.lt_of_lt_of_le h1 (Nat.pow_le_pow_right (by decide) h)
end Go.AE
namespace Go.AE
open Go
theorem wrap64_range(x:Int): -9223372036854775808≤IntKind.wrap .i64 x∧IntKind.wrap .i64 x<9223372036854775808:=by
 simp[IntKind.wrap,IntKind.signed,IntKind.bits]
 omega
theorem wrap64_mod(x:Int): ∃k:Int,IntKind.wrap .i64 x=x+k*18446744073709551616:=by
 simp[IntKind.wrap,IntKind.signed,IntKind.bits]
 refine⟨-((x+9223372036854775808)/18446744073709551616),?_⟩
 omega
theorem times_ok{u v p:Int}(hu: -1000000000000000000<u∧u<1000000000000000000)(hv: -1000000000000000000<v∧v<1000000000000000000)(hp:IntKind.wrap .i64 (u*v)=p)(_h0:u≠0)(hq:IntKind.wrap .i64 (Int.tdiv p u)=v):p=u*v:=by
 have hr:=wrap64_range (u*v)
 rw[hp]at hr
 obtain⟨k,hk⟩:=wrap64_mod (u*v)
 rw[hp]at hk
 have hd:Int.tdiv p u=v:=by
  have h1:(Int.tdiv p u).natAbs≤p.natAbs:=Int.natAbs_tdiv_le_natAbs p u
  by_cases h2:Int.tdiv p u<9223372036854775808
  ·rw[wrap_i64 (by omega) h2]at hq
   exact hq
  ·have h3:Int.tdiv p u=9223372036854775808:=by omega
   rw[h3]at hq
   have h4:IntKind.wrap .i64 9223372036854775808= -9223372036854775808:=by decide
   rw[h4]at hq
   omega
 have hm:=Int.mul_tdiv_add_tmod p u
 rw[hd]at hm
 have h1:(Int.tmod p u).natAbs<u.natAbs:=by
  rw[Int.natAbs_tmod]
  exact Nat.mod_lt _ (by omega)
 generalize u*v=x at*
 omega
end Go.AE
namespace Go.AE
def Bd(k:Nat)(x:Int):Prop:=x.natAbs<10^k
theorem bd_nd{k:Nat}{x:Int}(h:Bd k x)(hk:k≤400):ndig x.natAbs≤400:=Nat.le_trans (ndig_lt k _ h) hk
theorem bd_nd2{k:Nat}{x:Int}(h:Bd k x)(hk:k≤200):ndig x.natAbs≤200:=Nat.le_trans (ndig_lt k _ h) hk
theorem bd_mono{k l:Nat}{x:Int}(h:Bd k x)(hkl:k≤l):Bd l x:=Nat.lt_of_lt_of_le h (Nat.pow_le_pow_right (by decide) hkl)
theorem bd_two{k:Nat}{a b c:Nat}(h:c≤a+b)(ha:a<10^k)(hb:b<10^k):c<10^(k+1):=by
 rw[Nat.pow_succ];omega
theorem bd_add{k l:Nat}{x y:Int}(h:Bd k x)(g:Bd l y):Bd (max k l+1) (x+y):=
 bd_two (Int.natAbs_add_le x y) (bd_mono h (Nat.le_max_left k l)) (bd_mono g (Nat.le_max_right k l))
theorem bd_mul{k l:Nat}{x y:Int}(h:Bd k x)(g:Bd l y):Bd (k+l) (x*y):=by
 unfold Bd at*
 rw[Int.natAbs_mul,Nat.pow_add]
 exact Nat.mul_lt_mul'' h g
end Go.AE
namespace Go.AE
open Go
theorem tdiv_nat(s q:Nat):Int.tdiv ((s:Nat):Int) ((q:Nat):Int)=(((s/q):Nat):Int):=by
 rw[Int.tdiv_eq_ediv_of_nonneg (by omega)];exact (Int.natCast_ediv _ _).symm
end Go.AE
namespace Go.AE
open Go
def Pr(p:Nat):Prop:=2≤p∧ ∀d,2≤d→d<p→p%d≠0
def lprod:List Nat→Nat
 |[]=>1
 |x::l=>x*lprod l
structure PInv (n:Nat) (ps:List Nat) (p s:Nat):Prop where
 prod:lprod ps*s=n
 one:1≤s
 two:2≤p
 pr: ∀x∈ps,Pr x
 le: ∀x∈ps,x≤p
 asc:ps.Pairwise (· ≤ ·)
 nodiv: ∀d,2≤d→d<p→s%d≠0
noncomputable def fs(ps:List Nat):List Value:=ps.map fun p=>Value.string (istr ((p:Nat):Int))
theorem quo_wrap{s q:Nat}(hs:s<1099511627776):IntKind.wrap .i64 (Int.tdiv ((s:Nat):Int) ((q:Nat):Int))=(((s/q):Nat):Int):=by
 rw[tdiv_nat]
 have:=Nat.div_le_self s q
 generalize s/q=x at*
 exact wrap_i64 (by omega) (by omega)
end Go.AE
namespace Go.AE
end Go.AE
namespace Go.AE
theorem rearr{a b A B:Nat}(h:a≤b∧A≤B∨b≤a∧B≤A):a*B+b*A≤a*A+b*B:=by
 rcases h with⟨h1,h2⟩|⟨h1,h2⟩
 ·obtain⟨d,rfl⟩:=Nat.exists_eq_add_of_le h1
  obtain⟨D,rfl⟩:=Nat.exists_eq_add_of_le h2
  have e1:a*(A+D)+(a+d)*A=2*(a*A)+a*D+d*A:=by grind
  have e2:a*A+(a+d)*(A+D)=2*(a*A)+a*D+d*A+d*D:=by grind
  omega
 ·obtain⟨d,rfl⟩:=Nat.exists_eq_add_of_le h1
  obtain⟨D,rfl⟩:=Nat.exists_eq_add_of_le h2
  have e1:(b+d)*B+b*(B+D)=2*(b*B)+b*D+d*B:=by grind
  have e2:(b+d)*(B+D)+b*B=2*(b*B)+b*D+d*B+d*D:=by grind
  omega
theorem am_gm(r g:Nat): ∀m,(m+1)*r*g^m≤r^(m+1)+m*g^(m+1)
 |0=>by simp
 |m+1=>by
  have ih:=am_gm r g m
  have h:r*g^(m+1)+g*r^(m+1)≤r*r^(m+1)+g*g^(m+1):=by
   apply rearr
   rcases Nat.le_total r g with h|h
   ·exact .inl ⟨h,Nat.pow_le_pow_left h _⟩
   ·exact .inr ⟨h,Nat.pow_le_pow_left h _⟩
  have h2:=Nat.mul_le_mul_right g ih
  have e1:(m+1)*r*g^m*g=(m+1)*(r*g^(m+1)):=by rw[Nat.pow_succ];grind
  have e2:(r^(m+1)+m*g^(m+1))*g=g*r^(m+1)+m*(g*g^(m+1)):=by grind
  have e3:(m+1+1)*r*g^(m+1)=(m+1)*(r*g^(m+1))+r*g^(m+1):=by grind
  have e4:r^(m+1+1)+(m+1)*g^(m+1+1)=r*r^(m+1)+m*(g*g^(m+1))+g*g^(m+1):=by rw[Nat.pow_succ r (m+1),Nat.pow_succ g (m+1)];grind
  rw[e1,e2]at h2
  rw[e3,e4]
  omega
def newton(x n g:Nat):Nat:=(x/g^(n-1)+g*(n-1))/n
theorem newton_ge{x n g r:Nat}(hn:0<n)(hg:0<g)(hr:r^n≤x):r≤newton x n g:=by
 obtain⟨m,rfl⟩: ∃m,n=m+1:=⟨n-1,by omega⟩
 unfold newton
 rw[Nat.add_sub_cancel,Nat.le_div_iff_mul_le (by omega)]
 have h:=am_gm r g m
 have hp:0<g^m:=Nat.pow_pos hg
 rcases Nat.le_total (r*(m+1)) (g*m) with h1|h1
 ·exact Nat.le_trans h1 (Nat.le_add_left _ _)
 ·obtain⟨d,hd⟩:=Nat.exists_eq_add_of_le h1
  have h2:d≤x/g^m:=by
   rw[Nat.le_div_iff_mul_le hp]
   have e1:(m+1)*r*g^m=m*g^(m+1)+d*g^m:=by
    rw[show (m+1)*r=g*m+d by rw[←hd,Nat.mul_comm],Nat.pow_succ]
    grind
   omega
  omega
theorem newton_lt{x n g:Nat}(hn:0<n)(hg:0<g)(hx:x<g^n):newton x n g<g:=by
 obtain⟨m,rfl⟩: ∃m,n=m+1:=⟨n-1,by omega⟩
 unfold newton
 rw[Nat.add_sub_cancel,Nat.div_lt_iff_lt_mul (by omega)]
 have h1:x/g^m<g:=by
  rw[Nat.div_lt_iff_lt_mul (Nat.pow_pos hg),←Nat.pow_succ']
  exact hx
 have e:g*(m+1)=g*m+g:=Nat.mul_succ ..
 omega
theorem newton_end{x n g:Nat}(hn:0<n)(hg:0<g)(hup: ∀r,r^n≤x→r≤g)(h:g≤newton x n g):g^n≤x∧x<(g+1)^n:=by
 constructor
 ·rcases Nat.lt_or_ge x (g^n) with h1|h1
  ·have:=newton_lt hn hg h1
   omega
  ·exact h1
 ·rcases Nat.lt_or_ge x ((g+1)^n) with h1|h1
  ·exact h1
  ·have:=hup _ h1
   omega
theorem newton_pos{x n g:Nat}(hn:0<n)(hg:0<g)(hx:0<x):0<newton x n g:=newton_ge (r:=1) hn hg (by rw[Nat.one_pow];exact hx)
end Go.AE
namespace Go.AE
open Go
theorem ex_u64(z:Int): ∃v:Nat,IntKind.wrap .u64 z=(v:Int):=by
 refine⟨(IntKind.wrap .u64 z).toNat,(Int.toNat_of_nonneg ?_).symm⟩
 simp only[IntKind.wrap,IntKind.bits,IntKind.signed]
 simp
 exact Int.emod_nonneg _ (by decide)
theorem ex_shr(x k:Nat): ∃v:Nat,Int.fdiv (x:Int) (2^k)=(v:Int):=
 ⟨(Int.fdiv (x:Int) (2^k)).toNat,(Int.toNat_of_nonneg (Int.fdiv_nonneg (by omega) (Int.le_of_lt (Int.pow_pos (by decide))))).symm⟩
theorem ints_closed: ∀zs:List Int,closedL (zs.map (Value.int .i64))=true
 |[]=>rfl
 |x::zs=>by
  have:=ints_closed zs
  simpa [closedL,closed] using this
theorem ints_get{zs:List Int}{i:Nat}(h:i<zs.length):(zs.map (Value.int .i64))[i]? =some (.int .i64 (zs.getD i 0)):=by
 simp[List.getElem?_eq_getElem h,List.getD]
end Go.AE
namespace Go.AE
open Go
theorem digs_dval: ∀(n:Nat) (ds:List Nat),ds.length=n+1→Dig ds→ds.getD 0 0≠0→digs (dval ds)=ds∧0<dval ds:=by
 intro n
 induction n with
 |zero=>
  intro ds hl hd h0
  match ds,hl with
  |[d],_=>
   have h1:d<10:=hd d (List.mem_cons_self ..)
   have h2:dval [d]=d:=by simp[dval]
   rw[h2]
   exact⟨digs_small h1,Nat.pos_of_ne_zero h0⟩
 |succ n ih=>
  intro ds hl hd h0
  have hne:ds≠[]:=fun e=>by rw[e]at hl;simp at hl
  have e:=List.dropLast_concat_getLast hne
  have hl2:ds.dropLast.length=n+1:=by rw[List.length_dropLast];omega
  have hd2:Dig ds.dropLast:=fun x hx=>hd x (List.dropLast_subset ds hx)
  have hlast:ds.getLast hne<10:=hd _ (List.getLast_mem hne)
  have h02:ds.dropLast.getD 0 0≠0:=by
   match hds:ds.dropLast,hl2 with
   |x::xs,_=>rw[←e,hds]at h0;exact h0
  obtain⟨h1,h2⟩:=ih _ hl2 hd2 h02
  have h3:dval ds=dval ds.dropLast*10+ds.getLast hne:=by rw[←dval_snoc,e]
  rw[h3]
  refine⟨?_,by omega⟩
  rw[digs_snoc h2 hlast,h1,e]
end Go.AE
namespace Go.AE
def adj(a b:Int):Prop:=Int.tmod a b≠0∧(Int.tmod a b<0↔ ¬b<0)
instance (a b:Int):Decidable (adj a b):=by unfold adj;infer_instance
end Go.AE
namespace Go.AE
open Go
theorem bd_abs{k:Nat}{x:Int}(h:Bd k x):Bd k ((x.natAbs:Nat):Int):=by
 unfold Bd at*
 simpa using h
theorem bd_one:Bd 1 1:=by unfold Bd;decide
theorem mul_lt_pos{a b k:Int}(h:a<b)(hk:0<k):a*k<b*k:=Int.mul_lt_mul_of_pos_right h hk
end Go.AE
namespace Go.AE.F
def val:List Nat→Nat
 |[]=>0
 |x::l=>x+10000*val l
abbrev Lim(l:List Nat):Prop:= ∀x∈l,x<10000
theorem Lim.get{l:List Nat}(h:Lim l)(i:Nat):l.getD i 0<10000:=by
 rcases Nat.lt_or_ge i l.length with q|q
 ·rw[List.getD,List.getElem?_eq_getElem q]
  exact h _ (List.getElem_mem q)
 ·rw[List.getD,List.getElem?_eq_none q]
  decide
theorem Lim.set{l:List Nat}(h:Lim l){i v:Nat}(hv:v<10000):Lim (l.set i v):=fun x hx=>by
 rcases List.mem_or_eq_of_mem_set hx with q|rfl
 ·exact h x q
 ·exact hv
theorem Lim.take{l:List Nat}(h:Lim l)(k:Nat):Lim (l.take k):=fun x hx=>h x (List.mem_of_mem_take hx)
theorem Lim.drop{l:List Nat}(h:Lim l)(k:Nat):Lim (l.drop k):=fun x hx=>h x (List.mem_of_mem_drop hx)
theorem Lim.append{l m:List Nat}(h:Lim l)(g:Lim m):Lim (l++m):=fun x hx=>by
 rcases List.mem_append.1 hx with q|q
 ·exact h x q
 ·exact g x q
theorem Lim.replicate(k:Nat):Lim (List.replicate k 0):=fun x hx=>by
 rw[(List.mem_replicate.1 hx).2];decide
theorem val_append(l m:List Nat):val (l++m)=val l+10000^l.length*val m:=by
 induction l with
 |nil=>simp[val]
 |cons x l ih=>
  simp only[List.cons_append,val,ih,List.length_cons,Nat.pow_succ]
  rw[Nat.mul_add,←Nat.mul_assoc,Nat.mul_comm 10000 (10000^l.length)]
  omega
theorem val_replicate(k:Nat):val (List.replicate k 0)=0:=by
 induction k with
 |zero=>rfl
 |succ k ih=>simp[List.replicate_succ,val,ih]
theorem val_lt{l:List Nat}(h:Lim l):val l<10000^l.length:=by
 induction l with
 |nil=>simp[val]
 |cons x l ih=>
  have h1:=h x (List.mem_cons_self ..)
  have h2:=ih fun y hy=>h y (List.mem_cons_of_mem _ hy)
  simp only[val,List.length_cons,Nat.pow_succ]
  omega
theorem val_set: ∀(l:List Nat) (i v:Nat),i<l.length→val (l.set i v)+l.getD i 0*10000^i=val l+v*10000^i
 |[],i,v,h=>by simp at h
 |x::l,0,v,h=>by simp[val];omega
 |x::l,i+1,v,h=>by
  have:=val_set l i v (by simpa using h)
  simp only[List.set_cons_succ,val,List.getD_cons_succ,Nat.pow_succ]
  have e1:l.getD i 0*(10000^i*10000)=10000*(l.getD i 0*10000^i):=by
   rw[←Nat.mul_assoc,Nat.mul_comm]
  have e2:v*(10000^i*10000)=10000*(v*10000^i):=by
   rw[←Nat.mul_assoc,Nat.mul_comm]
  rw[e1,e2]
  omega
theorem drop_getD{l:List Nat}{i:Nat}(h:i<l.length):l.drop i=l.getD i 0::l.drop (i+1):=by
 rw[List.drop_eq_getElem_cons h,List.getD,List.getElem?_eq_getElem h]
 rfl
theorem val_drop{l:List Nat}{i:Nat}(h:i<l.length):val (l.drop i)=l.getD i 0+10000*val (l.drop (i+1)):=by
 rw[drop_getD h];rfl
theorem val_take_succ(l:List Nat)(i:Nat):val (l.take (i+1))=val (l.take i)+l.getD i 0*10000^i:=by
 rcases Nat.lt_or_ge i l.length with q|q
 ·rw[List.take_succ_eq_append_getElem q,val_append,List.length_take,Nat.min_eq_left (by omega),List.getD,List.getElem?_eq_getElem q]
  simp[val,Nat.mul_comm]
 ·rw[List.take_of_length_le (by omega),List.take_of_length_le q,List.getD,List.getElem?_eq_none q]
  simp
theorem getD_take{l:List Nat}{k i:Nat}(h:i<k):(l.take k).getD i 0=l.getD i 0:=by
 simp[List.getD,h]
theorem getD_set{l:List Nat}{i j v:Nat}(h:i<l.length):(l.set i v).getD j 0=if i=j then v else l.getD j 0:=by
 simp only[List.getD,List.getElem?_set]
 split
 ·rename_i q
  subst q
  simp
 ·rfl
theorem pow_le{a b:Nat}(h:a≤b):10000^a≤10000^b:=Nat.pow_le_pow_right (by decide) h
theorem pow_pos(a:Nat):0<10000^a:=Nat.pow_pos (by decide)
theorem carry_step{V V' a q b p Y T:Nat}(h1:V'+a*p=V+((a+q+b)%10000)*p)(hv:V+q*p+p*(b+10000*Y)=T):
  V'+((a+q+b)/10000)*(p*10000)+p*10000*Y=T:=by
 have h3:a+q+b=10000*((a+q+b)/10000)+(a+q+b)%10000:=(Nat.div_add_mod _ _).symm
 generalize (a+q+b)/10000=u at*
 generalize (a+q+b)%10000=v at*
 have e1:(a+q+b)*p=a*p+q*p+b*p:=by rw[Nat.add_mul,Nat.add_mul]
 have e2:(10000*u+v)*p=u*(p*10000)+v*p:=by rw[Nat.add_mul,Nat.mul_comm 10000 u,Nat.mul_assoc,Nat.mul_comm 10000 p]
 have e3:p*(b+10000*Y)=b*p+p*10000*Y:=by rw[Nat.mul_add,Nat.mul_comm p b,Nat.mul_assoc]
 rw[h3,e2]at e1
 omega
theorem carry_step0'{B V V' a p T:Nat}(h1:V'+a*p=V+((a+1)%B)*p)(hv:V+p=T):V'+((a+1)/B)*(p*B)=T:=by
 have h3:B*((a+1)/B)+(a+1)%B=a+1:=Nat.div_add_mod _ _
 generalize (a+1)/B=u at*
 generalize (a+1)%B=v at*
 have e1:(a+1)*p=a*p+p:=by rw[Nat.add_mul,Nat.one_mul]
 have e2:(B*u+v)*p=u*(p*B)+v*p:=by rw[Nat.add_mul,Nat.mul_comm B u,Nat.mul_assoc,Nat.mul_comm B p]
 rw[←h3,e2]at e1
 omega
theorem carry_step0{V V' a p T:Nat}(h1:V'+a*p=V+((a+1)%10000)*p)(hv:V+p=T):V'+((a+1)/10000)*(p*10000)=T:=
 carry_step0' h1 hv
theorem nil_end{V p T:Nat}(hv:V+0*p+p*val []=T):V=T:=by
 rw[show val []=0 from rfl,Nat.mul_zero,Nat.add_zero,Nat.zero_mul,Nat.add_zero]at hv;exact hv
theorem nil_one{V p T:Nat}(hv:V+1*p+p*val []=T):V+p=T:=by
 rw[show val []=0 from rfl,Nat.mul_zero,Nat.add_zero,Nat.one_mul]at hv;exact hv
theorem nil_add{V p T:Nat}(h:V=T):V+p*val []=T:=by
 rw[show val []=0 from rfl,Nat.mul_zero,Nat.add_zero];exact h
end Go.AE.F
namespace Go.AE.F
def top(xs:List Nat):Nat→Nat
 |0=>0
 |n+1=>if xs.getD n 0=0 then top xs n else n+1
theorem top_le(xs:List Nat): ∀n,top xs n≤n
 |0=>Nat.le_refl _
 |n+1=>by
  unfold top
  split
  ·have:=top_le xs n;omega
  ·exact Nat.le_refl _
theorem top_pos(xs:List Nat): ∀n,0<top xs n→xs.getD (top xs n-1) 0≠0
 |0,h=>by simp[top]at h
 |n+1,h=>by
  unfold top at h ⊢
  split
  ·rename_i hq
   rw[if_pos hq]at h
   exact top_pos xs n h
  ·rename_i hq
   simpa using hq
theorem top_val(xs:List Nat): ∀n,val (xs.take (top xs n))=val (xs.take n)
 |0=>rfl
 |n+1=>by
  unfold top
  split
  ·rename_i hq
   rw[top_val xs n,val_take_succ,hq,Nat.zero_mul,Nat.add_zero]
  ·rfl
theorem top_zero{xs:List Nat}{n:Nat}(h:xs.getD n 0=0):top xs (n+1)=top xs n:=by rw[top,if_pos h]
theorem top_some{xs:List Nat}{n:Nat}(h:xs.getD n 0≠0):top xs (n+1)=n+1:=by rw[top,if_neg h]
end Go.AE.F
namespace Go.AE
theorem take_drop_snoc{cs:List Nat}{b i:Nat}(hb:b≤i)(hi:i<cs.length):(cs.take (i+1)).drop b=(cs.take i).drop b++[cs.getD i 0]:=by
 rw[List.take_succ_eq_append_getElem hi,List.drop_append_of_le_length (by rw[List.length_take];omega),List.getD,List.getElem?_eq_getElem hi]
 rfl
theorem dval_step{cs:List Nat}{b i:Nat}(hb:b≤i)(hi:i<cs.length):10*dval ((cs.take i).drop b)+cs.getD i 0=dval ((cs.take (i+1)).drop b):=by
 rw[take_drop_snoc hb hi,dval_snoc,Nat.mul_comm]
theorem dval_four{es:List Nat}{k:Nat}(hd:Dig es)(h:es.length≤k):dval es<10^k:=
 Nat.lt_of_lt_of_le (dval_lt es hd) (Nat.pow_le_pow_right (by decide) h)
theorem pow_four(k:Nat):(10:Nat)^(4*k)=10000^k:=by
 rw[Nat.pow_mul]
theorem group_step{ds ls:List Nat}{e b k l:Nat}(hv:F.val ls=dval (ds.drop e))(hl:ls.length=k)(he:ds.length-e=4*k)(hbe:b≤e)(hel:e≤ds.length)(hle:l=dval ((ds.take e).drop b)):F.val (ls++[l])=dval (ds.drop b):=by
 have h1:ds.drop b=(ds.take e).drop b++ds.drop e:=by
  have h2:=List.take_append_drop e ds
  have h3:(ds.take e++ds.drop e).drop b=(ds.take e).drop b++ds.drop e:=List.drop_append_of_le_length (by rw[List.length_take];omega)
  rw[h2]at h3
  exact h3
 rw[h1,dval_append,F.val_append,hl,hv,List.length_drop,he,pow_four,hle]
 simp only[F.val,Nat.mul_zero,Nat.add_zero]
 rw[Nat.mul_comm,Nat.add_comm]
end Go.AE
namespace Go.AE.F
theorem sum_step{B V c p a b X Y T:Nat}(h:V+c*p+p*((a+B*X)+(b+B*Y))=T):
  (V+p*((c+a+b)%B))+((c+a+b)/B)*(p*B)+(p*B)*(X+Y)=T:=by
 have h3:c+a+b=B*((c+a+b)/B)+(c+a+b)%B:=(Nat.div_add_mod _ _).symm
 generalize (c+a+b)/B=u at*
 generalize (c+a+b)%B=v at*
 have e1:p*(c+a+b)=p*(B*u+v):=by rw[h3]
 simp only[Nat.mul_add,Nat.add_mul,Nat.mul_comm,Nat.mul_left_comm,Nat.mul_assoc]at*
 omega
theorem val_drop'(l:List Nat)(i:Nat):val (l.drop i)=l.getD i 0+10000*val (l.drop (i+1)):=by
 by_cases h:i<l.length
 ·exact val_drop h
 ·rw[List.drop_eq_nil_of_le (by omega),List.drop_eq_nil_of_le (by omega),List.getD,List.getElem?_eq_none (by omega)]
  rfl
theorem getD_le{l:List Nat}{i:Nat}(h:l.length≤i):l.getD i 0=0:=by
 rw[List.getD,List.getElem?_eq_none h];rfl
theorem val_snoc'(l:List Nat)(v:Nat):val (l++[v])=val l+10000^l.length*v:=by
 rw[val_append];simp[val]
theorem sum_round{X Y os:List Nat}{i c s T:Nat}(hl:os.length=i)(hs:s=c+X.getD i 0+Y.getD i 0)
  (h:val os+c*10000^i+10000^i*(val (X.drop i)+val (Y.drop i))=T):
  val (os++[s%10000])+(s/10000)*10000^(i+1)+10000^(i+1)*(val (X.drop (i+1))+val (Y.drop (i+1)))=T:=by
 rw[val_drop' X,val_drop' Y]at h
 have:=sum_step h
 rw[val_snoc',hl,hs,Nat.pow_succ]
 exact this
end Go.AE.F
namespace Go.AE.F
theorem val_lt_of_len{xs ys:List Nat}{n k:Nat}(hlx:Lim xs)(hn:n≤xs.length)(h:n<k)(hy:0<k→ys.getD (k-1) 0≠0):val (xs.take n)<val (ys.take k):=by
 have h1:=val_lt (hlx.take n)
 rw[List.length_take,Nat.min_eq_left hn]at h1
 obtain⟨q,rfl⟩: ∃q,k=q+1:=⟨k-1,by omega⟩
 have h2:=hy (by omega)
 rw[Nat.add_sub_cancel]at h2
 rw[val_take_succ]
 have h3:10000^n≤10000^q:=pow_le (by omega)
 have h4:1*10000^q≤ys.getD q 0*10000^q:=Nat.mul_le_mul_right _ (by omega)
 omega
end Go.AE.F
namespace Go.AE.F
theorem diff_step{B V Z T c d p a b v X Y:Nat}(h0:v+b+c=a+d*B)(h:V+Z+p*(a+B*X)=T+p*(b+B*Y)+c*p):
  (V+p*v)+Z+(p*B)*X=T+(p*B)*Y+d*(p*B):=by
 have e1:p*(v+b+c)=p*(a+d*B):=by rw[h0]
 simp only[Nat.mul_add,Nat.mul_comm,Nat.mul_left_comm]at*
 omega
theorem diff_round{X Y os:List Nat}{i c d v Z T:Nat}(hl:os.length=i)(hs:v+Y.getD i 0+c=X.getD i 0+d*10000)
  (h:val os+Z+10000^i*val (X.drop i)=T+10000^i*val (Y.drop i)+c*10000^i):
  val (os++[v])+Z+10000^(i+1)*val (X.drop (i+1))=T+10000^(i+1)*val (Y.drop (i+1))+d*10000^(i+1):=by
 rw[val_drop' X,val_drop' Y]at h
 have:=diff_step hs h
 rw[val_snoc',hl,Nat.pow_succ]
 exact this
end Go.AE.F
namespace Go.AE.F
theorem mul_fit{a b:Nat}(ha:a<10000)(hb:b<10000):a*b≤99980001:=by
 have:=Nat.mul_le_mul (show a≤9999 by omega) (show b≤9999 by omega)
 omega
theorem row_step{V V' a b r q p Y T:Nat}(h1:V'+r*p=V+((a*b+r+q)%10000)*p)(hv:V+q*p+a*(p*(b+10000*Y))=T):
  V'+((a*b+r+q)/10000)*(p*10000)+a*(p*10000*Y)=T:=row_step' h1 hv
theorem nil_mul{V a p T:Nat}(hv:V+a*(p*val [])=T):V=T:=by
 rw[show val []=0 from rfl,Nat.mul_zero,Nat.mul_zero,Nat.add_zero]at hv;exact hv
end Go.AE.F
