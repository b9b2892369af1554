import Derived.Test.YtldoiilgfcpipaaGreatDoorPCnt
import Derived.Test.YtldoiilgfcpipaaGreatDoorK
set_option linter.unusedVariables false
set_option linter.unusedSimpArgs false
set_option maxRecDepth 100000
namespace Go.Proofs.YtldoiilgfcpipaaGreatDoor
open Go Go.AE Seg
noncomputable section
abbrev z_ec3_0(ds:List Nat)(c:Nat):List Value:=[undef,undef,undef,undef,undef,undef,undef,undef,(.string (dstr ds)),(nI ((dstr ds).size)),(nI (((dstr ds).size)+9)),(nI ((dstr ds).size+9-1)),(nI c),(sl 5 0 c),(.string (dstr ds)),(nI ((dstr ds).size))]
abbrev z_ec3_1(e:Nat):Value:=.int .i64 ((e:Int)-9)
abbrev z_ec3_2:List Value:=[undef,undef,undef,undef,undef,undef,undef,undef,undef,undef,undef,undef,undef,undef,undef,undef,undef,undef]
end
noncomputable def no_h_f(ds zs:List Nat)(c n:Nat)(en:Int)(jc:List Value)(j:List Value):Frame:=⟨147,List.toArray [(.string (dstr ds)),uu,(.slice none 0 0),(sl 5 n c),(.int .i64 en),(J j 0),uu,(J jc 0),(J jc 8),(J jc 9),(J jc 10),(J jc 11),(J jc 12),(J jc 13),(J jc 14),(J jc 15),(J j 1),(J j 2),(J j 3),(J j 4),(J j 5),(J j 6),(J j 7),(J j 8),(J j 9),(J j 10),(J j 11),(J j 12),(J j 13),(J jc 1),(J jc 2),(J jc 3),(J jc 4),(J jc 5),(J jc 6),(J jc 7),(J j 14),(J j 15),(J j 16),(J j 17),uu,uu],[.code (cd Tryz.f147 [1,1,0,1,0,0]),.inLoop (cd Tryz.f147 [1,1,0,1,0,0]),.inBlock 0,.code (cd Tryz.f147 [1,1,1])],[],.run,.normal,none⟩
noncomputable def no_h_o(ds zs:List Nat)(c n:Nat)(en:Int)(jc:List Value):List (Nat×AObj):=[(5,(cU zs))]
noncomputable def no_h(ds zs:List Nat)(c n:Nat)(en:Int)(jc:List Value)(j:List Value):AS:=⟨no_h_f ds zs c n en jc j,[],mkH 8 (no_h_o ds zs c n en jc)⟩
theorem no_in{s0:AS}(hs0:s0.h.next=5)(ds:List Nat)(c:Nat)(hL:(dstr ds).size<1099511627776)(hc:c=((dstr ds).size+9-1)/9)(hr:GT s0 ⟨Frame.enter Tryz.prog 147 #[(.string (dstr ds))] .normal,[],mkH 5 []⟩):GT s0 (no_h ds (List.replicate c 0) c 0 (((dstr ds).size:Nat):Int) ((z_ec3_0 ds c)) z_ec3_2):=by
 have h1:=hr.trans (sR (sc:=[(8,.op (.rwI (((((dstr ds).size)+9):Nat):Int))),(0,.op (.rwI ((((dstr ds).size+9-1):Nat):Int))),(0,.op (.rwI (c:Int))),(0,.op (.mks 0 c (ns .u32 (List.replicate c 0)))),(11,.stay)]) (fr1:=⟨147,List.toArray [(.string (dstr ds)),uu,(.slice none 0 0),(sl 5 0 c),(nI ((dstr ds).size)),uu,uu,uu,(.string (dstr ds)),(nI ((dstr ds).size)),(nI (((dstr ds).size)+9)),(nI ((dstr ds).size+9-1)),(nI c),(sl 5 0 c),(.string (dstr ds)),(nI ((dstr ds).size)),uu,uu,uu,uu,uu,uu,uu,uu,uu,uu,uu,uu,uu,uu,uu,uu,uu,uu,uu,uu,uu,uu,uu,uu,uu,uu],[.code (cd Tryz.f147 [1,1,0,1,0,0]),.inLoop (cd Tryz.f147 [1,1,0,1,0,0]),.inBlock 0,.code (cd Tryz.f147 [1,1,1])],[],.run,.normal,none⟩) (next:=6) (l:=[(5,(cU (List.replicate c 0)))]) (by kernel_rfl) (aI (wI64 (a:=((((dstr ds).size:Nat):Int)+(9:Int))) (r:=(((((dstr ds).size)+9):Nat):Int))) (aI (wI64 (a:=((((((dstr ds).size)+9):Nat):Int)-(1:Int))) (r:=((((dstr ds).size+9-1):Nat):Int))) (aI (show IntKind.wrap .i64 (Int.tdiv ((((dstr ds).size+9-1):Nat):Int) (9:Int))=(c:Int) from (by rw[Int.tdiv_eq_ediv_of_nonneg (by omega),wrap_i64 (by omega) (by omega)]<;>omega)) (aI (show (0≤(0:Int)∧(0:Int)≤(c:Int)∧((4:Nat):Int)*(c:Int)≤281474976710656∧(c:Int)≤9223372036854775807)∧closedL (ns .u32 (List.replicate c 0))=true∧(madeCells (Value.cells (lW 0)) (Int.toNat (c:Int)*1)).toList=(ns .u32 (List.replicate c 0))∧Int.toNat (0:Int)=0∧Int.toNat (c:Int)=c from (by refine⟨⟨?_,?_,?_,?_⟩,ns_closed _ _,ns_made _ _ _,?_,?_⟩<;>omega)) tt)))))
 exact gets_slide (fr:=no_h_f ds (List.replicate c 0) c 0 (((dstr ds).size:Nat):Int) ((z_ec3_0 ds c)) z_ec3_2) (fr1:=⟨147,List.toArray [(.string (dstr ds)),undef,(.slice none 0 0),(sl 5 0 c),(nI ((dstr ds).size)),undef,undef,undef,(.string (dstr ds)),(nI ((dstr ds).size)),(nI (((dstr ds).size)+9)),(nI ((dstr ds).size+9-1)),(nI c),(sl 5 0 c),(.string (dstr ds)),(nI ((dstr ds).size)),undef,undef,undef,undef,undef,undef,undef,undef,undef,undef,undef,undef,undef,undef,undef,undef,undef,undef,undef,undef,undef,undef,undef,undef,undef,undef],[.code (cd Tryz.f147 [1,1,0,1,0,0]),.inLoop (cd Tryz.f147 [1,1,0,1,0,0]),.inBlock 0,.code (cd Tryz.f147 [1,1,1])],[],.run,.normal,none⟩) (nx1:=6) (b:=6) (k:=0) (l1:=[(5,(cU (List.replicate c 0)))]) (l2:=no_h_o ds (List.replicate c 0) c 0 (((dstr ds).size:Nat):Int) ((z_ec3_0 ds c))) h1 (by kernel_rfl) rfl rfl rfl (by kernel_rfl) (by rw[hs0];decide) (by rw[hs0];decide) (by decide) (by decide) (by simp[no_h_o,show ∀c e o r,flat (.cells c e o r)=closedL c from fun _ _ _ _=>rfl,show ∀a b,flat (.iter a b)=true from fun _ _=>rfl,ns_closed,gob1_flat]) (by kernel_rfl)
noncomputable def no_g_f(ds es zs:List Nat)(c n e b l p:Nat)(j jc:List Value)(ji:List Value)(j2:List Value):Frame:=⟨147,List.toArray [(.string (dstr ds)),uu,(.slice none 0 0),(sl 5 n c),(nI e),(nW l),uu,(J ji 0),(J jc 8),(J jc 9),(J jc 10),(J jc 11),(J jc 12),(J jc 13),(J jc 14),(J jc 15),(nI e),bT,(J j 3),(J j 4),(.string (dstr ds)),(nI e),(z_ec3_1 e),(nI b),(nI e),(.string (dstr es)),(pt 8),(J j2 0),(J j2 1),(J ji 1),(J ji 2),(J ji 3),(J ji 4),(J ji 5),(J ji 6),(J ji 7),(J j 14),(J j 15),(J j 16),(J j 17),uu,uu],[.code (cd Tryz.f147 [1,1,0,1,0,0,1,0,0,1,0,1,0,0]),.inLoop (cd Tryz.f147 [1,1,0,1,0,0,1,0,0,1,0,1,0,0]),.inBlock 2,.code (cd Tryz.f147 [1,1,0,1,0,0,1,0,0,1,1]),.inBlock 1,.code (cd Tryz.f147 [1,1,0,1,0,0,1,1]),.inLoop (cd Tryz.f147 [1,1,0,1,0,0]),.inBlock 0,.code (cd Tryz.f147 [1,1,1])],[],.run,.normal,none⟩
noncomputable def no_g_o(ds es zs:List Nat)(c n e b l p:Nat)(j jc:List Value)(ji:List Value):List (Nat×AObj):=[(5,(cU zs)),(8,(.iter (dstr es) p))]
noncomputable def no_g(ds es zs:List Nat)(c n e b l p:Nat)(j jc:List Value)(ji:List Value)(j2:List Value):AS:=⟨no_g_f ds es zs c n e b l p j jc ji j2,[],mkH 9 (no_g_o ds es zs c n e b l p j jc ji)⟩
theorem no_1(ds es zs:List Nat)(c n e b:Nat)(j jc:List Value)(he:0<e)(hL:e≤(dstr ds).size)(hb:b=e-9)(hm:(dstr ds).size<1099511627776)(hes:(dstr ds).extract b e=dstr es):GT (no_h ds zs c n (e:Int) jc j) (no_g ds es zs c n e b 0 0 j jc ([(J jc 0),(J jc 1),(J jc 2),(J jc 3),(J jc 4),(J jc 5),(J jc 6),(J jc 7)]) [(J j 12),(J j 13)]):=
 sR (sc:=[(4,.op (.rwB true)),(14,.op (.rwI ((e:Int)-9))),(0,.op (.rwI (b:Int))),(1,.op (.sslc (dstr es))),(4,.stay)]) (by kernel_rfl) (aI (dT (p:=(e:Int)>(0:Int))) (aI (wI64 (a:=((e:Int)-(9:Int))) (r:=((e:Int)-9))) (aI (show (if ((e:Int)-9)>(0:Int) then ((e:Int)-9) else (0:Int))=(b:Int) from (by split<;>omega)) (aI (show 0≤(b:Int)∧(b:Int)≤(e:Int)∧(e:Int)≤(((dstr ds).size:Nat):Int)∧(dstr ds).extract (Int.toNat (b:Int)) (Int.toNat (e:Int))=(dstr es) from⟨by omega,by omega,by omega,hes⟩) tt))))
theorem no_2(ds es zs:List Nat)(c n e b l p:Nat)(j jc ji j2:List Value)(q:Nat)(hq:q<10)(hl:l<100000000)(hp:p<(dstr es).size)(hd:Utf8.decode (dstr es) p=(48+q,1)):GT (no_g ds es zs c n e b l p j jc ji j2) (no_g ds es zs c n e b ((l*10)+q) (p+1) j jc ([(nR (48+q)),(nR (48+q)),(nW l),(nW (l*10)),(nR (48+q)),(nR q),(nW q),(nW ((l*10)+q))]) [(.tuple #[bT,(nI p),(nR (48+q))]),bT]):=
 sR (sc:=[(2,.op (.nxtC (48+q) 1 (p+1))),(13,.op (.rwI (((l*10):Nat):Int))),(1,.op (.rwI (q:Int))),(0,.op (.rwI (q:Int))),(0,.op (.rwI ((((l*10)+q):Nat):Int))),(4,.stay)]) (by kernel_rfl) (aI (show p<(dstr es).size∧Utf8.decode (dstr es) p=((48+q),1)∧p+1=(p+1) from⟨hp,hd,rfl⟩) (aI (wU32 (a:=((l:Int)*(10:Int))) (r:=(((l*10):Nat):Int))) (aI (wI32 (a:=((((48+q):Nat):Int)-(48:Int))) (r:=(q:Int))) (aI (wU32 (a:=(q:Int)) (r:=(q:Int))) (aI (wU32 (a:=((((l*10):Nat):Int)+(q:Int))) (r:=((((l*10)+q):Nat):Int))) tt)))))
theorem no_3{s0:AS}(hs0:s0.h.next=5)(ds es zs:List Nat)(c n e b l p:Nat)(j jc ji j2:List Value)(hjc:FixJ (slide 6 2) jc)(hji:FixJ (slide 6 2) ji)(hp:(dstr es).size≤p)(hn:n<c)(hz:zs.length=c)(hm:c<1099511627776)(hem:e<1099511627776)(hr:GT s0 (no_g ds es zs c n e b l p j jc ji j2)):GT s0 (no_h ds (zs.set n l) c (n+1) ((e:Int)-9) ([(J ji 0),(J ji 1),(J ji 2),(J ji 3),(J ji 4),(J ji 5),(J ji 6),(J ji 7),(J jc 8),(J jc 9),(J jc 10),(J jc 11),(J jc 12),(J jc 13),(J jc 14),(J jc 15)]) [(nW l),(nI e),bT,(nI e),(z_ec3_1 e),(.string (dstr ds)),(nI e),(z_ec3_1 e),(nI b),(nI e),(.string (dstr es)),(pt 6),(.tuple #[bF]),bF,(sl 5 n c),(nW l),(sl 7 1 1),(sl 5 (n+1) c)]):=by
 have h1:=hr.trans (sR (sc:=[(2,.op (.nxtE)),(9,.op (.appI (n+1) (ns .u32 (zs.set n l)))),(5,.op (.rwI ((e:Int)-9))),(3,.stay)]) (fr1:=⟨147,List.toArray [(.string (dstr ds)),uu,(.slice none 0 0),(sl 5 (n+1) c),(z_ec3_1 e),(nW l),uu,(J ji 0),(J jc 8),(J jc 9),(J jc 10),(J jc 11),(J jc 12),(J jc 13),(J jc 14),(J jc 15),(nI e),bT,(nI e),(z_ec3_1 e),(.string (dstr ds)),(nI e),(z_ec3_1 e),(nI b),(nI e),(.string (dstr es)),(pt 8),(.tuple #[bF]),bF,(J ji 1),(J ji 2),(J ji 3),(J ji 4),(J ji 5),(J ji 6),(J ji 7),(sl 5 n c),(nW l),(sl 9 1 1),(sl 5 (n+1) c),uu,uu],[.code (cd Tryz.f147 [1,1,0,1,0,0]),.inLoop (cd Tryz.f147 [1,1,0,1,0,0]),.inBlock 0,.code (cd Tryz.f147 [1,1,1])],[],.run,.normal,none⟩) (next:=10) (l:=[(5,(cU (zs.set n l)))]) (by kernel_rfl) (aI (show ¬p<(dstr es).size from (by omega)) (aI (show n+1=(n+1)∧(n+1)*4≤140737488355328∧(n+1)≤c∧c≤9223372036854775807∧0+n*1+1≤(ns .u32 zs).length∧lspl (ns .u32 zs) (0+n*1) [(nW l)]=(ns .u32 (zs.set n l)) from (app_ns hn hz (by omega))) (aI (wI64 (a:=((e:Int)-(9:Int))) (r:=((e:Int)-9))) tt))))
 rw[←J_mv (slide 6 2) hjc 10]at h1
 rw[←J_mv (slide 6 2) hjc 11]at h1
 rw[←J_mv (slide 6 2) hjc 12]at h1
 rw[←J_mv (slide 6 2) hjc 13]at h1
 rw[←J_mv (slide 6 2) hjc 14]at h1
 rw[←J_mv (slide 6 2) hjc 15]at h1
 rw[←J_mv (slide 6 2) hjc 8]at h1
 rw[←J_mv (slide 6 2) hjc 9]at h1
 rw[←J_mv (slide 6 2) hji 0]at h1
 rw[←J_mv (slide 6 2) hji 1]at h1
 rw[←J_mv (slide 6 2) hji 2]at h1
 rw[←J_mv (slide 6 2) hji 3]at h1
 rw[←J_mv (slide 6 2) hji 4]at h1
 rw[←J_mv (slide 6 2) hji 5]at h1
 rw[←J_mv (slide 6 2) hji 6]at h1
 rw[←J_mv (slide 6 2) hji 7]at h1
 exact gets_slide (fr:=no_h_f ds (zs.set n l) c (n+1) ((e:Int)-9) ([(J ji 0),(J ji 1),(J ji 2),(J ji 3),(J ji 4),(J ji 5),(J ji 6),(J ji 7),(J jc 8),(J jc 9),(J jc 10),(J jc 11),(J jc 12),(J jc 13),(J jc 14),(J jc 15)]) [(nW l),(nI e),bT,(nI e),(z_ec3_1 e),(.string (dstr ds)),(nI e),(z_ec3_1 e),(nI b),(nI e),(.string (dstr es)),(pt 6),(.tuple #[bF]),bF,(sl 5 n c),(nW l),(sl 7 1 1),(sl 5 (n+1) c)]) (fr1:=⟨147,List.toArray [(.string (dstr ds)),undef,(.slice none 0 0),(sl 5 (n+1) c),(z_ec3_1 e),(nW l),undef,(mv (slide 6 2) (J ji 0)),(mv (slide 6 2) (J jc 8)),(mv (slide 6 2) (J jc 9)),(mv (slide 6 2) (J jc 10)),(mv (slide 6 2) (J jc 11)),(mv (slide 6 2) (J jc 12)),(mv (slide 6 2) (J jc 13)),(mv (slide 6 2) (J jc 14)),(mv (slide 6 2) (J jc 15)),(nI e),bT,(nI e),(z_ec3_1 e),(.string (dstr ds)),(nI e),(z_ec3_1 e),(nI b),(nI e),(.string (dstr es)),(pt 8),(.tuple #[bF]),bF,(mv (slide 6 2) (J ji 1)),(mv (slide 6 2) (J ji 2)),(mv (slide 6 2) (J ji 3)),(mv (slide 6 2) (J ji 4)),(mv (slide 6 2) (J ji 5)),(mv (slide 6 2) (J ji 6)),(mv (slide 6 2) (J ji 7)),(sl 5 n c),(nW l),(sl 9 1 1),(sl 5 (n+1) c),undef,undef],[.code (cd Tryz.f147 [1,1,0,1,0,0]),.inLoop (cd Tryz.f147 [1,1,0,1,0,0]),.inBlock 0,.code (cd Tryz.f147 [1,1,1])],[],.run,.normal,none⟩) (nx1:=10) (b:=6) (k:=2) (l1:=[(5,(cU (zs.set n l)))]) (l2:=no_h_o ds (zs.set n l) c (n+1) ((e:Int)-9) ([(J ji 0),(J ji 1),(J ji 2),(J ji 3),(J ji 4),(J ji 5),(J ji 6),(J ji 7),(J jc 8),(J jc 9),(J jc 10),(J jc 11),(J jc 12),(J jc 13),(J jc 14),(J jc 15)])) h1 (by kernel_rfl) rfl rfl rfl (by kernel_rfl) (by rw[hs0];decide) (by rw[hs0];decide) (by decide) (by decide) (by simp[no_h_o,show ∀c e o r,flat (.cells c e o r)=closedL c from fun _ _ _ _=>rfl,show ∀a b,flat (.iter a b)=true from fun _ _=>rfl,ns_closed,gob1_flat]) (by kernel_rfl)
theorem no_o(ds zs:List Nat)(c n:Nat)(en:Int)(jc j:List Value)(he:en≤0)(hz:zs.length=c)(hn:n≤c)(hm:c<1099511627776)(hr:GT ⟨Frame.enter Tryz.prog 147 #[(.string (dstr ds))] .normal,[],mkH 5 []⟩ (no_h ds zs c n en jc j)):CT 147 #[(.string (dstr ds))] (mkH 5 []) (sl 5 (top zs n) (top zs n)) (mkH 8 [(5,(cU zs))]):=
 sF (sc:=[(4,.op (.rwB false)),(6,.call [5] (sl 5 (top zs n) (top zs n)) [(5,some (cU zs))] []),(3,.stay)]) (by kernel_rfl) (aI (dF (p:=en>(0:Int))) (aI (trim_c 8 5 zs n c (by omega) (by omega) (by omega) (by omega)) tt)) hr
theorem no_inner{s0:AS}{ds es zs:List Nat}{c n e b:Nat}{j jc:List Value}(hd:Dig es)(hl:es.length≤9): ∀(m p:Nat) (ji j2:List Value),m=es.length-p→p≤es.length→FixJ (slide 6 2) ji→
  GT s0 (no_g ds es zs c n e b (dval (es.take p)) p j jc ji j2)→ ∃ji' j2',FixJ (slide 6 2) ji'∧GT s0 (no_g ds es zs c n e b (dval es) es.length j jc ji' j2'):=by
 intro m
 induction m with
 |zero=>
  intro p ji j2 hm hp hj hr
  have:p=es.length:=by omega
  subst this
  rw[List.take_length]at hr
  exact⟨ji,j2,hj,hr⟩
 |succ m ih=>
  intro p ji j2 hm hp hj hr
  have hq:=hd.get p
  have h1:dval (es.take p)<100000000:=by
   have h2:=dval_lt _ (hd.take p)
   have h3:10^(es.take p).length≤10^8:=Nat.pow_le_pow_right (by decide) (by rw[List.length_take];omega)
   have h4:(10:Nat)^8=100000000:=by decide
   omega
  have r:=no_2 ds es zs c n e b (dval (es.take p)) p j jc ji j2 (es.getD p 0) hq h1 (by rw[dstr_size];omega) (decode_dstr hd (by omega))
  have hr2:=hr.trans r
  rw[←dval_take_succ (by omega)]at hr2
  exact ih (p+1) _ _ (by omega) (by omega) (by unfold FixJ;rfl) hr2
theorem no_outer{ds:List Nat}{c:Nat}(hd:Dig ds)(hc:c=(ds.length+9-1)/9)(hL:ds.length<549755813888): ∀(m i:Nat) (zs:List Nat) (jc j:List Value),m=c-i→i≤c→zs.length=c→Lim zs→FixJ (slide 6 2) jc→val (zs.take i)=dval (ds.drop (ds.length-9*i))→
  GT ⟨Frame.enter Tryz.prog 147 #[(.string (dstr ds))] .normal,[],mkH 5 []⟩ (no_h ds zs c i ((ds.length:Int)-9*i) jc j)→ ∃zs' jc' j',zs'.length=c∧Lim zs'∧val (zs'.take c)=dval ds∧GT ⟨Frame.enter Tryz.prog 147 #[(.string (dstr ds))] .normal,[],mkH 5 []⟩ (no_h ds zs' c c ((ds.length:Int)-9*c) jc' j'):=by
 intro m
 induction m with
 |zero=>
  intro i zs jc j hm hi hz hl hj hv hr
  have:i=c:=by omega
  subst this
  refine⟨zs,jc,j,hz,hl,?_,hr⟩
  rw[hv,show ds.length-9*i=0 by omega,List.drop_zero]
 |succ m ih=>
  intro i zs jc j hm hi hz hl hj hv hr
  obtain⟨e,he⟩: ∃e,e=ds.length-9*i:=⟨_,rfl⟩
  obtain⟨b,hb⟩: ∃b,b=e-9:=⟨_,rfl⟩
  rw[show (ds.length:Int)-9*i=(e:Int) by omega]at hr
  have hsz:=dstr_size ds
  have hes:(dstr ds).extract b e=dstr ((ds.take e).drop b):=dstr_extract ds b e
  obtain⟨es,hes2⟩: ∃es,es=(ds.take e).drop b:=⟨_,rfl⟩
  rw[←hes2]at hes
  have hde:Dig es:=by rw[hes2];exact (hd.take e).drop b
  have hle:es.length=e-b:=by rw[hes2,List.length_drop,List.length_take];omega
  have r1:=no_1 ds es zs c i e b j jc (by omega) (by omega) hb (by omega) hes
  obtain⟨ji',j2',h1,h2⟩:=no_inner hde (by omega) es.length 0 _ _ (by omega) (by omega) (by simp[FixJ,mvL,J_mv _ hj]) (hr.trans r1)
  have r3:=no_3 rfl ds es zs c i e b (dval es) es.length j jc ji' j2' hj h1 (by rw[dstr_size];omega) (by omega) hz (by omega) (by omega) h2
  rw[show (e:Int)-9=(ds.length:Int)-9*((i+1:Nat):Int) by omega]at r3
  have hlt:dval es<1000000000:=by
   have h2:=dval_lt _ hde
   have h3:10^es.length≤10^9:=Nat.pow_le_pow_right (by decide) (by omega)
   have h4:(10:Nat)^9=1000000000:=by decide
   omega
  refine ih (i+1) _ _ _ (by omega) (by omega) (by rw[List.length_set];exact hz) (hl.set hlt) (by simp[FixJ,mvL,J_mv _ hj,J_mv _ h1,mv,mvA,mvArr,slide]) ?_ r3
  rw[val_take_succ,getD_set (by omega),if_pos rfl,List.take_set_of_le (by omega),hv,←he,show ds.length-9*(i+1)=b by omega]
  have hdr:ds.drop b=es++ds.drop e:=by
   have h5:ds.drop e=(ds.drop b).drop (e-b):=by rw[List.drop_drop,show b+(e-b)=e by omega]
   rw[hes2,List.drop_take,h5,List.take_append_drop]
  rw[hdr,dval_append,List.length_drop,show ds.length-e=9*i by omega,Nat.pow_mul]
  rw[show (10:Nat)^9=1000000000 by decide]
  omega
theorem no_c(n0:Nat)(ds:List Nat)(hG:5≤n0)(hd:Dig ds)(hL:ds.length<549755813888):
  ∃zs t,Lim zs∧t≤zs.length∧t≤(ds.length+9-1)/9∧(0<t→zs.getD (t-1) 0≠0)∧val (zs.take t)=dval ds∧
   FT 147 #[.string (dstr ds)] n0 [] (sl n0 t t) [] [cU zs]:=by
 obtain⟨c,hc⟩: ∃c,c=(ds.length+9-1)/9:=⟨_,rfl⟩
 have r0:=no_in (s0:=⟨Frame.enter Tryz.prog 147 #[(.string (dstr ds))] .normal,[],mkH 5 []⟩) rfl ds c (by rw[dstr_size];omega) (by rw[dstr_size];exact hc) (Gets.refl _)
 rw[show ((((dstr ds).size:Nat)):Int)=(ds.length:Int)-9*((0:Nat):Int) by rw[dstr_size];omega]at r0
 obtain⟨zs,jc',j',h1,h2,h3,h4⟩:=no_outer hd hc hL c 0 _ _ _ rfl (Nat.zero_le _) (by rw[List.length_replicate]) (Lim.replicate _) (by simp[FixJ,mvL,mv,mvA,mvArr,slide,undef]) (by rw[Nat.mul_zero,Nat.sub_zero,List.drop_length];rfl) r0
 have S:=no_o ds zs c c _ jc' j' (by omega) h1 (Nat.le_refl _) (by omega) h4
 have htl:=top_le zs c
 refine⟨zs,top zs c,h2,by rw[h1];exact htl,by rw[←hc];exact htl,top_pos zs _,by rw[top_val,h3],fsp_flat [] [] [] [5] [cU zs] n0 S rfl rfl rfl (by simp) (by simp) hG rfl rfl (by simp[flat,ns_closed,AObj.ro]) (by simp) (by simp) rfl rfl rfl⟩
theorem small_c(n0 i:Nat)(h:i<100):FT 207 #[.int .i64 (i:Nat)] n0 [] (.string (dstr (digs i))) [] []:=by
 intro H _ _
 exact csp_of_calls rfl rfl fun ρ w _=>(Tryz.internal_strconv_small i h w).mono fun e w' ⟨h1,h2⟩=>⟨by rw[h1,dstr_decDigits],0,#[],by rw[h2];simp[Sort.grow,World.drewN]⟩
theorem tab_is{ρ:Rho}{H:AH}{w:World}(hw:WR 5 ρ H w)(hr:H.get 1=some gob1):Lib.TabIs Tryz.prog w "internal/strconv.uint64pow10" .u64 Lib.pow10Tab:=
 tab_of_WR hw (g:=1) (by decide) (by kernel_rfl) hr
theorem numDigits_c(n0 u:Nat)(h1:1≤u)(h2:u<18446744073709551616):FT 208 #[.int .u64 (u:Nat)] n0 [(1,gob1)] (nI (ndig u)) [] []:=by
 intro H _ hr
 exact csp_of_calls rfl rfl fun ρ w hw=>(Tryz.internal_strconv_numDigits u h1 h2 w (tab_is hw (hr _ (List.mem_cons_self ..)))).mono fun e w' ⟨h3,h4⟩=>⟨by rw[h3,nDigits_ndig u h1],0,#[],by rw[h4];simp[Sort.grow,World.drewN]⟩
theorem fmt_c(n0:Nat)(n:Int)(h0: -9223372036854775808≤n)(h1:n≤9223372036854775807):FT 146 #[.int .i64 n,.int .i64 (.ofNat 10)] n0 [(1,gob1)] (.string (istr n)) [] []:=by
 intro H _ hr
 exact csp_of_calls rfl rfl fun ρ w hw=>(Tryz.strconv_FormatInt_10 n h0 h1 w (tab_is hw (hr _ (List.mem_cons_self ..)))).mono fun e w' ⟨h3,k,os,h4⟩=>⟨by rw[h3,istr_itoa],k,os,h4⟩
end Go.Proofs.YtldoiilgfcpipaaGreatDoor
