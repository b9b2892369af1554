import Derived.Test.YtjbflfbhfnkmlaaGreatDoorK
set_option linter.unusedVariables false
set_option linter.unusedSimpArgs false
set_option maxRecDepth 100000
namespace Go.Proofs.YtjbflfbhfnkmlaaGreatDoor
open Go Go.AE Seg
noncomputable def trim_h_f(xs:List Nat)(n c:Nat)(i:Nat)(j:List Value):Frame:=(Fr 156 ([(sl 5 n c),uu,nS,(nI i)]++(jj j 0 14 [uu,uu,uu,uu])) [.code (cd Tryz.f156 [1,1,0,0,0]),.inLoop (cd Tryz.f156 [1,1,0,0,0]),.inBlock 0,.code (cd Tryz.f156 [1,1,1])])
noncomputable def trim_h_o(xs:List Nat)(n c:Nat)(i:Nat):List (Nat×AObj):=[(5,(cU xs))]
noncomputable def Aa3(xs:List Nat)(n c:Nat)(i:Nat)(j:List Value):AS:=⟨trim_h_f xs n c i j,[],Ac 6 (trim_h_o xs n c i)⟩
theorem trim_in(xs:List Nat)(n c:Nat):GT (Ca 156 #[(sl 5 n c)] 6 [(5,(cU xs))]) (Aa3 xs n c n [(sl 5 n c),(nI n),undef,undef,undef,undef,undef,undef,undef,undef,undef,undef,undef,undef]):=
 sR (sc:=[(13,.stay)]) kr tt
theorem trim_r(xs:List Nat)(n c i a:Nat)(j:List Value)(h0:0<i)(hi:i≤n)(hc:n≤xs.length)(hm:n<9223372036854775807)(ha:a=0)(hx:(ns .u32 xs)[i-1]? =some (nW a)):GT (Aa3 xs n c i j) (Aa3 xs n c (i-1) [(J j 0),(J j 1),(nI i),bT,bT,(sl 5 n c),(nI i),(nI (i-1)),(pp 5 (i-1)),(nW a),bT,bT,(nI i),(nI (i-1))]):=
 sR (sc:=[(4,.op (.rwB true)),(3,.op (.rwI (((i-1):Nat):Int))),(0,.op (.idx (i-1))),(0,.op (.ld (nW a))),(0,.op (.rwB true)),(7,.op (.rwI (((i-1):Nat):Int))),(4,.stay)]) kr (aI (dT (p:=(i:Int)>(0:Int))) (aI (Am (a:=((i:Int)-(1:Int))) (r:=(((i-1):Nat):Int))) (aI (ix (((i-1):Nat):Int) (n:Int) 0 1 (i-1)) (aI hx (aI (eT (a:=(a:Int)) (b:=(0:Int))) (aI (Am (a:=((i:Int)-(1:Int))) (r:=(((i-1):Nat):Int))) tt))))))
theorem trim_o1(xs:List Nat)(n c i a:Nat)(j:List Value)(h0:0<i)(hi:i≤n)(hc:n≤xs.length)(hnc:n≤c)(hm:n<9223372036854775807)(ha:a≠0)(hx:(ns .u32 xs)[i-1]? =some (nW a))(hr:GT (Ca 156 #[(sl 5 n c)] 6 [(5,(cU xs))]) (Aa3 xs n c i j)):CT 156 #[(sl 5 n c)] (Ac 6 [(5,(cU xs))]) (sl 5 i i) (Ac 6 [(5,(cU xs))]):=
 sF (sc:=[(4,.op (.rwB true)),(3,.op (.rwI (((i-1):Nat):Int))),(0,.op (.idx (i-1))),(0,.op (.ld (nW a))),(0,.op (.rwB false)),(9,.op (.slc 0 i i)),(3,.stay)]) kr (aI (dT (p:=(i:Int)>(0:Int))) (aI (Am (a:=((i:Int)-(1:Int))) (r:=(((i-1):Nat):Int))) (aI (ix (((i-1):Nat):Int) (n:Int) 0 1 (i-1)) (aI hx (aI (eF (a:=(a:Int)) (b:=(0:Int))) (aI (show 0≤(0:Int)∧(0:Int)≤(i:Int)∧(i:Int)≤(i:Int)∧(i:Int)≤(c:Int)∧(if Int.toNat (i:Int)=Int.toNat (0:Int) then 0 else 0+Int.toNat (0:Int)*1)=0∧Int.toNat ((i:Int)-(0:Int))=i∧Int.toNat (i:Int)-Int.toNat (0:Int)=i from (by repeat (first|omega|(split<;>omega)|constructor))) tt)))))) hr
theorem trim_o2(xs:List Nat)(n c i:Nat)(j:List Value)(h0:i=0)(hr:GT (Ca 156 #[(sl 5 n c)] 6 [(5,(cU xs))]) (Aa3 xs n c i j)):CT 156 #[(sl 5 n c)] (Ac 6 [(5,(cU xs))]) (sl 5 i i) (Ac 6 [(5,(cU xs))]):=
 sF (sc:=[(4,.op (.rwB false)),(16,.op (.slc 0 i i)),(3,.stay)]) kr (aI (dF (p:=(i:Int)>(0:Int))) (aI (show 0≤(0:Int)∧(0:Int)≤(i:Int)∧(i:Int)≤(i:Int)∧(i:Int)≤(c:Int)∧(if Int.toNat (i:Int)=Int.toNat (0:Int) then 0 else 0+Int.toNat (0:Int)*1)=0∧Int.toNat ((i:Int)-(0:Int))=i∧Int.toNat (i:Int)-Int.toNat (0:Int)=i from (by repeat (first|omega|(split<;>omega)|constructor))) tt)) hr
theorem trim_loop{n c:Nat}{xs:List Nat}(hc:n≤xs.length)(hnc:n≤c)(hm:n<9223372036854775807): ∀(i:Nat) (j:List Value),i≤n→top xs i=top xs n→
  GT (Ca 156 #[(sl 5 n c)] 6 [(5,(cU xs))]) (Aa3 xs n c i j)→CT 156 #[(sl 5 n c)] (Ac 6 [(5,(cU xs))]) (sl 5 (top xs n) (top xs n)) (Ac 6 [(5,(cU xs))]):=by
 intro i
 induction i with
 |zero=>
  intro j _ ht hr
  have:=trim_o2 xs n c 0 j rfl hr
  rw[←ht]
  exact this
 |succ i ih=>
  intro j hi ht hr
  by_cases ha:xs.getD i 0=0
  ·have r:=trim_r xs n c (i+1) (xs.getD i 0) j om hi hc hm ha (Aq)
   exact ih _ om (by rw[←ht,top_zero ha]) (hr.trans r)
  ·have:=trim_o1 xs n c (i+1) (xs.getD i 0) j om hi hc hnc hm ha (Aq) hr
   rw[←ht,top_some ha]
   exact this
theorem Uq(n0 b:Nat)(xs:List Nat)(n c:Nat)(hb:5≤b∧b<n0)(hc:n≤xs.length)(hnc:n≤c)(hm:n<9223372036854775807):
  FT 156 #[sl b n c] n0 [(b,cU xs)] (sl b (top xs n) (top xs n)) [(b,some (cU xs))] []:=
 ff [b] [cU xs] [cU xs] [] [] n0 (trim_loop hc hnc hm n _ (Nat.le_refl _) rfl (trim_in xs n c))
noncomputable section
abbrev Wj(e:Nat):Value:=.int .i64 ((e:Int)-9)
abbrev z_ec3_1:List Value:=[undef,undef,undef,undef,undef,undef,undef,undef,undef,undef,undef,undef,undef,undef,undef,undef,undef,undef]
end
noncomputable def no_h_f(ds zs:List Nat)(c n:Nat)(en:Int)(jc:List Value)(j:List Value):Frame:=(Fr 147 ([(.string (Aa ds)),uu,nS,(sl 5 n c),(.int .i64 en),(J j 0),uu,(J jc 0),(J jc 8),(J jc 9),(J jc 10),(J jc 11),(J jc 12),(J jc 13),(J jc 14),(J jc 15)]++(jj j 1 13 ([(J jc 1),(J jc 2),(J jc 3),(J jc 4),(J jc 5),(J jc 6),(J jc 7)]++(jj j 14 4 [uu,uu])))) [.code (cd Tryz.f147 [1,1,0,1,0,0]),.inLoop (cd Tryz.f147 [1,1,0,1,0,0]),.inBlock 0,.code (cd Tryz.f147 [1,1,1])])
noncomputable def no_h_o(ds zs:List Nat)(c n:Nat)(en:Int)(jc:List Value):List (Nat×AObj):=[(5,(cU zs))]
noncomputable def no_h(ds zs:List Nat)(c n:Nat)(en:Int)(jc:List Value)(j:List Value):AS:=⟨no_h_f ds zs c n en jc j,[],Ac 8 (no_h_o ds zs c n en jc)⟩
theorem no_in{s0:AS}(hs0:s0.h.next=5)(ds:List Nat)(c:Nat)(hL:(Aa ds).size<1099511627776)(hc:c=((Aa ds).size+9-1)/9)(hr:GT s0 (Ca 147 #[(.string (Aa ds))] 5 [])):GT s0 (no_h ds (List.replicate c 0) c 0 (((Aa ds).size:Nat):Int) ([undef,undef,undef,undef,undef,undef,undef,undef,(.string (Aa ds)),(nI ((Aa ds).size)),(nI (((Aa ds).size)+9)),(nI ((Aa ds).size+9-1)),(nI c),(sl 5 0 c),(.string (Aa ds)),(nI ((Aa ds).size))]) z_ec3_1):=by
 have h1:=hr.trans (sR (sc:=[(8,.op (.rwI (((((Aa ds).size)+9):Nat):Int))),(0,.op (.rwI ((((Aa ds).size+9-1):Nat):Int))),(0,.op (.rwI (c:Int))),(0,.op (.mks 0 c (ns .u32 (List.replicate c 0)))),(11,.stay)]) (fr1:=(Fr 147 ([(.string (Aa ds)),uu,nS,(sl 5 0 c),(nI ((Aa ds).size)),uu,uu,uu,(.string (Aa ds)),(nI ((Aa ds).size)),(nI (((Aa ds).size)+9)),(nI ((Aa ds).size+9-1)),(nI c),(sl 5 0 c),(.string (Aa ds)),(nI ((Aa ds).size))]++(uj 26 [])) [.code (cd Tryz.f147 [1,1,0,1,0,0]),.inLoop (cd Tryz.f147 [1,1,0,1,0,0]),.inBlock 0,.code (cd Tryz.f147 [1,1,1])])) (next:=6) (l:=[(5,(cU (List.replicate c 0)))]) kr (aI (Am (a:=((((Aa ds).size:Nat):Int)+(9:Int))) (r:=(((((Aa ds).size)+9):Nat):Int))) (aI (Am (a:=((((((Aa ds).size)+9):Nat):Int)-(1:Int))) (r:=((((Aa ds).size+9-1):Nat):Int))) (aI (show IntKind.wrap .i64 (Int.tdiv ((((Aa ds).size+9-1):Nat):Int) (9:Int))=(c:Int) from (by rw[Int.tdiv_eq_ediv_of_nonneg om,Cc om om]<;>omega)) (aI (show (0≤(0:Int)∧(0:Int)≤(c:Int)∧((4:Nat):Int)*(c:Int)≤281474976710656∧(c:Int)≤9223372036854775807)∧As (ns .u32 (List.replicate c 0))=true∧(madeCells (Value.cells (lW 0)) (Int.toNat (c:Int)*1)).toList=(ns .u32 (List.replicate c 0))∧Int.toNat (0:Int)=0∧Int.toNat (c:Int)=c from (by refine⟨⟨?_,?_,?_,?_⟩,Af _ _,Tt _ _ _,?_,?_⟩<;>omega)) tt)))))
 exact Dd (b:=6) (k:=0) h1 kr rfl rfl rfl kr (by rw[hs0];decide) (by rw[hs0];decide) de de (by simp[no_h_o,show ∀c e o r,Bj (.cells c e o r)=As c from fun _ _ _ _=>rfl,show ∀a b,Bj (.iter a b)=true from fun _ _=>rfl,Af,Gk]) kr
noncomputable def no_g_f(ds es zs:List Nat)(c n e b l p:Nat)(j jc:List Value)(ji:List Value)(j2:List Value):Frame:=(Fr 147 ([(.string (Aa ds)),uu,nS,(sl 5 n c),(nI e),(nW l),uu,(J ji 0),(J jc 8),(J jc 9),(J jc 10),(J jc 11),(J jc 12),(J jc 13),(J jc 14),(J jc 15),(nI e),bT,(J j 3),(J j 4),(.string (Aa ds)),(nI e),(Wj e),(nI b),(nI e),(.string (Aa es)),(pt 8),(J j2 0),(J j2 1),(J ji 1),(J ji 2),(J ji 3),(J ji 4),(J ji 5),(J ji 6),(J ji 7)]++(jj j 14 4 [uu,uu])) [.code (cd Tryz.f147 [1,1,0,1,0,0,1,0,0,1,0,1,0,0]),.inLoop (cd Tryz.f147 [1,1,0,1,0,0,1,0,0,1,0,1,0,0]),.inBlock 2,.code (cd Tryz.f147 [1,1,0,1,0,0,1,0,0,1,1]),.inBlock 1,.code (cd Tryz.f147 [1,1,0,1,0,0,1,1]),.inLoop (cd Tryz.f147 [1,1,0,1,0,0]),.inBlock 0,.code (cd Tryz.f147 [1,1,1])])
noncomputable def no_g_o(ds es zs:List Nat)(c n e b l p:Nat)(j jc:List Value)(ji:List Value):List (Nat×AObj):=[(5,(cU zs)),(8,(.iter (Aa es) p))]
noncomputable def no_g(ds es zs:List Nat)(c n e b l p:Nat)(j jc:List Value)(ji:List Value)(j2:List Value):AS:=⟨no_g_f ds es zs c n e b l p j jc ji j2,[],Ac 9 (no_g_o ds es zs c n e b l p j jc ji)⟩
theorem no_1(ds es zs:List Nat)(c n e b:Nat)(j jc:List Value)(he:0<e)(hL:e≤(Aa ds).size)(hb:b=e-9)(hm:(Aa ds).size<1099511627776)(hes:(Aa ds).extract b e=Aa es):GT (no_h ds zs c n (e:Int) jc j) (no_g ds es zs c n e b 0 0 j jc ([(J jc 0),(J jc 1),(J jc 2),(J jc 3),(J jc 4),(J jc 5),(J jc 6),(J jc 7)]) [(J j 12),(J j 13)]):=
 sR (sc:=[(4,.op (.rwB true)),(14,.op (.rwI ((e:Int)-9))),(0,.op (.rwI (b:Int))),(1,.op (.sslc (Aa es))),(4,.stay)]) kr (aI (dT (p:=(e:Int)>(0:Int))) (aI (Am (a:=((e:Int)-(9:Int))) (r:=((e:Int)-9))) (aI (show (if ((e:Int)-9)>(0:Int) then ((e:Int)-9) else (0:Int))=(b:Int) from (by split<;>omega)) (aI (show 0≤(b:Int)∧(b:Int)≤(e:Int)∧(e:Int)≤(((Aa ds).size:Nat):Int)∧(Aa ds).extract (Int.toNat (b:Int)) (Int.toNat (e:Int))=(Aa es) from⟨by omega,by omega,by omega,hes⟩) tt))))
theorem no_2(ds es zs:List Nat)(c n e b l p:Nat)(j jc ji j2:List Value)(q:Nat)(hq:q<10)(hl:l<100000000)(hp:p<(Aa es).size)(hd:Utf8.decode (Aa es) p=(48+q,1)):GT (no_g ds es zs c n e b l p j jc ji j2) (no_g ds es zs c n e b ((l*10)+q) (p+1) j jc ([(nR (48+q)),(nR (48+q)),(nW l),(nW (l*10)),(nR (48+q)),(nR q),(nW q),(nW ((l*10)+q))]) [(.tuple #[bT,(nI p),(nR (48+q))]),bT]):=
 sR (sc:=[(2,.op (.nxtC (48+q) 1 (p+1))),(13,.op (.rwI (((l*10):Nat):Int))),(1,.op (.rwI (q:Int))),(0,.op (.rwI (q:Int))),(0,.op (.rwI ((((l*10)+q):Nat):Int))),(4,.stay)]) kr (aI (show p<(Aa es).size∧Utf8.decode (Aa es) p=((48+q),1)∧p+1=(p+1) from⟨hp,hd,rfl⟩) (aI (Br (a:=((l:Int)*(10:Int))) (r:=(((l*10):Nat):Int))) (aI (wI32 (a:=((((48+q):Nat):Int)-(48:Int))) (r:=(q:Int))) (aI (Br (a:=(q:Int)) (r:=(q:Int))) (aI (Br (a:=((((l*10):Nat):Int)+(q:Int))) (r:=((((l*10)+q):Nat):Int))) tt)))))
theorem no_3{s0:AS}(hs0:s0.h.next=5)(ds es zs:List Nat)(c n e b l p:Nat)(j jc ji j2:List Value)(hjc:Cm (Ak 6 2) jc)(hji:Cm (Ak 6 2) ji)(hp:(Aa es).size≤p)(hn:n<c)(hz:zs.length=c)(hm:c<1099511627776)(hem:e<1099511627776)(hr:GT s0 (no_g ds es zs c n e b l p j jc ji j2)):GT s0 (no_h ds (zs.set n l) c (n+1) ((e:Int)-9) ([(J ji 0),(J ji 1),(J ji 2),(J ji 3),(J ji 4),(J ji 5),(J ji 6),(J ji 7),(J jc 8),(J jc 9),(J jc 10),(J jc 11),(J jc 12),(J jc 13),(J jc 14),(J jc 15)]) [(nW l),(nI e),bT,(nI e),(Wj e),(.string (Aa ds)),(nI e),(Wj e),(nI b),(nI e),(.string (Aa es)),(pt 6),(.tuple #[bF]),bF,(sl 5 n c),(nW l),(sl 7 1 1),(sl 5 (n+1) c)]):=by
 have h1:=hr.trans (sR (sc:=[(2,.op (.nxtE)),(9,.op (.appI (n+1) (ns .u32 (zs.set n l)))),(5,.op (.rwI ((e:Int)-9))),(3,.stay)]) (fr1:=(Fr 147 [(.string (Aa ds)),uu,nS,(sl 5 (n+1) c),(Wj e),(nW l),uu,(J ji 0),(J jc 8),(J jc 9),(J jc 10),(J jc 11),(J jc 12),(J jc 13),(J jc 14),(J jc 15),(nI e),bT,(nI e),(Wj e),(.string (Aa ds)),(nI e),(Wj e),(nI b),(nI e),(.string (Aa es)),(pt 8),(.tuple #[bF]),bF,(J ji 1),(J ji 2),(J ji 3),(J ji 4),(J ji 5),(J ji 6),(J ji 7),(sl 5 n c),(nW l),(sl 9 1 1),(sl 5 (n+1) c),uu,uu] [.code (cd Tryz.f147 [1,1,0,1,0,0]),.inLoop (cd Tryz.f147 [1,1,0,1,0,0]),.inBlock 0,.code (cd Tryz.f147 [1,1,1])])) (next:=10) (l:=[(5,(cU (zs.set n l)))]) kr (aI (show ¬p<(Aa es).size from om) (aI (show n+1=(n+1)∧(n+1)*4≤140737488355328∧(n+1)≤c∧c≤9223372036854775807∧0+n*1+1≤(ns .u32 zs).length∧Bq (ns .u32 zs) (0+n*1) [(nW l)]=(ns .u32 (zs.set n l)) from (app_ns hn hz om)) (aI (Am (a:=((e:Int)-(9:Int))) (r:=((e:Int)-9))) tt))))
 rw[←Ap (Ak 6 2) hjc 10]at h1
 rw[←Ap (Ak 6 2) hjc 11]at h1
 rw[←Ap (Ak 6 2) hjc 12]at h1
 rw[←Ap (Ak 6 2) hjc 13]at h1
 rw[←Ap (Ak 6 2) hjc 14]at h1
 rw[←Ap (Ak 6 2) hjc 15]at h1
 rw[←Ap (Ak 6 2) hjc 8]at h1
 rw[←Ap (Ak 6 2) hjc 9]at h1
 rw[←Ap (Ak 6 2) hji 0]at h1
 rw[←Ap (Ak 6 2) hji 1]at h1
 rw[←Ap (Ak 6 2) hji 2]at h1
 rw[←Ap (Ak 6 2) hji 3]at h1
 rw[←Ap (Ak 6 2) hji 4]at h1
 rw[←Ap (Ak 6 2) hji 5]at h1
 rw[←Ap (Ak 6 2) hji 6]at h1
 rw[←Ap (Ak 6 2) hji 7]at h1
 exact Dd (b:=6) (k:=2) h1 kr rfl rfl rfl kr (by rw[hs0];decide) (by rw[hs0];decide) de de (by simp[no_h_o,show ∀c e o r,Bj (.cells c e o r)=As c from fun _ _ _ _=>rfl,show ∀a b,Bj (.iter a b)=true from fun _ _=>rfl,Af,Gk]) kr
theorem no_o(ds zs:List Nat)(c n:Nat)(en:Int)(jc j:List Value)(he:en≤0)(hz:zs.length=c)(hn:n≤c)(hm:c<1099511627776)(hr:GT (Ca 147 #[(.string (Aa ds))] 5 []) (no_h ds zs c n en jc j)):CT 147 #[(.string (Aa ds))] (Ac 5 []) (sl 5 (top zs n) (top zs n)) (Ac 8 [(5,(cU zs))]):=
 sF (sc:=[(4,.op (.rwB false)),(6,.call [5] (sl 5 (top zs n) (top zs n)) [(5,some (cU zs))] []),(3,.stay)]) kr (aI (dF (p:=en>(0:Int))) (aI (Uq 8 5 zs n c om om om om) tt)) hr
theorem no_inner{s0:AS}{ds es zs:List Nat}{c n e b:Nat}{j jc:List Value}(hd:Dig es)(hl:es.length≤9): ∀(m p:Nat) (ji j2:List Value),m=es.length-p→p≤es.length→Cm (Ak 6 2) ji→
  GT s0 (no_g ds es zs c n e b (Az (es.take p)) p j jc ji j2)→ ∃ji' j2',Cm (Ak 6 2) ji'∧GT s0 (no_g ds es zs c n e b (Az es) es.length j jc ji' j2'):=by
 intro m
 induction m with
 |zero=>
  intro p ji j2 hm hp hj hr
  have:p=es.length:=by omega
  subst this
  rw[List.take_length]at hr
  exact⟨ji,j2,hj,hr⟩
 |succ m ih=>
  intro p ji j2 hm hp hj hr
  have hq:=hd.get p
  have h1:Az (es.take p)<100000000:=by
   have h2:=Ka _ (hd.take p)
   have h3:10^(es.take p).length≤10^8:=Nat.pow_le_pow_right de (by rw[List.length_take];omega)
   have h4:(10:Nat)^8=100000000:=by decide
   omega
  have r:=no_2 ds es zs c n e b (Az (es.take p)) p j jc ji j2 (es.getD p 0) hq h1 (by rw[Ad];omega) (Kw hd om)
  have hr2:=hr.trans r
  rw[←Ho om]at hr2
  exact ih (p+1) _ _ om om (by unfold Cm;rfl) hr2
theorem no_outer{ds:List Nat}{c:Nat}(hd:Dig ds)(hc:c=(ds.length+9-1)/9)(hL:ds.length<549755813888): ∀(m i:Nat) (zs:List Nat) (jc j:List Value),m=c-i→i≤c→zs.length=c→Lim zs→Cm (Ak 6 2) jc→val (zs.take i)=Az (ds.drop (ds.length-9*i))→
  GT (Ca 147 #[(.string (Aa ds))] 5 []) (no_h ds zs c i ((ds.length:Int)-9*i) jc j)→ ∃zs' jc' j',zs'.length=c∧Lim zs'∧val (zs'.take c)=Az ds∧GT (Ca 147 #[(.string (Aa ds))] 5 []) (no_h ds zs' c c ((ds.length:Int)-9*c) jc' j'):=by
 intro m
 induction m with
 |zero=>
  intro i zs jc j hm hi hz hl hj hv hr
  have:i=c:=by omega
  subst this
  refine⟨zs,jc,j,hz,hl,?_,hr⟩
  rw[hv,show ds.length-9*i=0 by omega,List.drop_zero]
 |succ m ih=>
  intro i zs jc j hm hi hz hl hj hv hr
  obtain⟨e,he⟩: ∃e,e=ds.length-9*i:=⟨_,rfl⟩
  obtain⟨b,hb⟩: ∃b,b=e-9:=⟨_,rfl⟩
  rw[show (ds.length:Int)-9*i=(e:Int) by omega]at hr
  have hsz:=Ad ds
  have hes:(Aa ds).extract b e=Aa ((ds.take e).drop b):=Hz ds b e
  obtain⟨es,hes2⟩: ∃es,es=(ds.take e).drop b:=⟨_,rfl⟩
  rw[←hes2]at hes
  have hde:Dig es:=by rw[hes2];exact (hd.take e).drop b
  have hle:es.length=e-b:=by rw[hes2,List.length_drop,List.length_take];omega
  have r1:=no_1 ds es zs c i e b j jc om om hb om hes
  obtain⟨ji',j2',h1,h2⟩:=no_inner hde om es.length 0 _ _ om om (by simp[Cm,Qr,Ap _ hj]) (hr.trans r1)
  have r3:=no_3 rfl ds es zs c i e b (Az es) es.length j jc ji' j2' hj h1 (by rw[Ad];omega) om hz om om h2
  rw[show (e:Int)-9=(ds.length:Int)-9*((i+1:Nat):Int) by omega]at r3
  have hlt:Az es<1000000000:=by
   have h2:=Ka _ hde
   have h3:10^es.length≤10^9:=Nat.pow_le_pow_right de om
   have h4:(10:Nat)^9=1000000000:=by decide
   omega
  refine ih (i+1) _ _ _ om om (by rw[List.length_set];exact hz) (hl.set hlt) (by simp[Cm,Qr,Ap _ hj,Ap _ h1,mv,mvA,Ed,Ak]) ?_ r3
  rw[val_take_succ,getD_set om,if_pos rfl,List.take_set_of_le om,hv,←he,show ds.length-9*(i+1)=b by omega]
  have hdr:ds.drop b=es++ds.drop e:=by
   have h5:ds.drop e=(ds.drop b).drop (e-b):=by rw[List.drop_drop,show b+(e-b)=e by omega]
   rw[hes2,List.drop_take,h5,List.take_append_drop]
  rw[hdr,Gr,List.length_drop,show ds.length-e=9*i by omega,Nat.pow_mul]
  rw[show (10:Nat)^9=1000000000 by decide]
  omega
theorem no_c(n0:Nat)(ds:List Nat)(hG:5≤n0)(hd:Dig ds)(hL:ds.length<549755813888):
  ∃zs t,Lim zs∧t≤zs.length∧t≤(ds.length+9-1)/9∧(0<t→zs.getD (t-1) 0≠0)∧val (zs.take t)=Az ds∧
   FT 147 #[.string (Aa ds)] n0 [] (sl n0 t t) [] [cU zs]:=by
 obtain⟨c,hc⟩: ∃c,c=(ds.length+9-1)/9:=⟨_,rfl⟩
 have r0:=no_in (s0:=(Ca 147 #[(.string (Aa ds))] 5 [])) rfl ds c (by rw[Ad];omega) (by rw[Ad];exact hc) (Gets.refl _)
 rw[show ((((Aa ds).size:Nat)):Int)=(ds.length:Int)-9*((0:Nat):Int) by rw[Ad];omega]at r0
 obtain⟨zs,jc',j',h1,h2,h3,h4⟩:=no_outer hd hc hL c 0 _ _ _ rfl (Nat.zero_le _) (by rw[List.length_replicate]) (Lim.replicate _) (by simp[Cm,Qr,mv,mvA,Ed,Ak,undef]) (by rw[Nat.mul_zero,Nat.sub_zero,List.drop_length];rfl) r0
 have S:=no_o ds zs c c _ jc' j' om h1 (Nat.le_refl _) om h4
 have htl:=top_le zs c
 refine⟨zs,top zs c,h2,by rw[h1];exact htl,by rw[←hc];exact htl,top_pos zs _,by rw[top_val,h3],ff [] [] [] [5] [cU zs] n0 S (hb:=sm) (hGn:=hG) (fo:=rfl) (fp:=rfl)⟩
theorem small_c(n0 i:Nat)(h:i<100):FT 207 #[.int .i64 (i:Nat)] n0 [] (.string (Aa (Ae i))) [] []:=by
 intro H _ _
 exact Sw rfl rfl fun ρ w _=>(Tryz.internal_strconv_small i h w).mono fun e w' ⟨h1,h2⟩=>⟨by rw[h1,Nz],0,#[],by rw[h2];simp[Sort.grow,World.drewN]⟩
theorem tab_is{ρ:Rho}{H:AH}{w:World}(hw:WR 5 ρ H w)(hr:H.get 1=some gob1):Lib.TabIs Tryz.prog w "internal/strconv.uint64pow10" .u64 Lib.pow10Tab:=
 tab_of_WR hw (g:=1) de kr hr
theorem Hp(n0 u:Nat)(h1:1≤u)(h2:u<18446744073709551616):FT 208 #[.int .u64 (u:Nat)] n0 [(1,gob1)] (nI (Es u)) [] []:=by
 intro H _ hr
 exact Sw rfl rfl fun ρ w hw=>(Tryz.internal_strconv_numDigits u h1 h2 w (tab_is hw (hr _ (List.mem_cons_self ..)))).mono fun e w' ⟨h3,h4⟩=>⟨by rw[h3,nDigits_ndig u h1],0,#[],by rw[h4];simp[Sort.grow,World.drewN]⟩
theorem Ty(n0:Nat)(n:Int)(h0: -9223372036854775808≤n)(h1:n≤9223372036854775807):FT 146 #[.int .i64 n,.int .i64 (.ofNat 10)] n0 [(1,gob1)] (.string (Ab n)) [] []:=by
 intro H _ hr
 exact Sw rfl rfl fun ρ w hw=>(Tryz.strconv_FormatInt_10 n h0 h1 w (tab_is hw (hr _ (List.mem_cons_self ..)))).mono fun e w' ⟨h3,k,os,h4⟩=>⟨by rw[h3,istr_itoa],k,os,h4⟩
end Go.Proofs.YtjbflfbhfnkmlaaGreatDoor
