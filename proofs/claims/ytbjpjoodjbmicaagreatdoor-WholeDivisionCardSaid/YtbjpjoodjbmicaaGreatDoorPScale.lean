import Derived.Test.YtbjpjoodjbmicaaGreatDoorK
import Derived.Test.YtbjpjoodjbmicaaGreatDoorLE
set_option linter.unusedVariables false
set_option linter.unusedSimpArgs false
set_option maxRecDepth 100000
namespace Go.Proofs.YtbjpjoodjbmicaaGreatDoor
open Go Go.AE Seg
noncomputable section
abbrev z_85a_0(i p q n c f:Nat)(zs:List Nat):List Value:=[(nI i),(nU (p+q)),bT,(nI i),(sl 5 n c),(nI i),(.pointer (some ⟨5,i,none⟩)),(nW (zs.getD i 0)),(nU (zs.getD i 0)),(nU f),(nU p),(nU q),(nU (p+q)),(nU (p+q)),(nU ((p+q)/1000000000)),(sl 5 n c),(nI i),(nU (p+q)),(nU ((p+q)%1000000000)),(nW ((p+q)%1000000000)),(.pointer (some ⟨5,i,none⟩)),(nI (i+1))]
end
noncomputable def sc_h_f(zs:List Nat)(n c f l q i:Nat)(j:List Value):Frame:=⟨169,List.toArray [(sl 5 n c),(nU f),(nU l),uu,uu,uu,(nU q),(J j 0),(J j 1),(nU l),(sl 5 n c),(nI n),(nI i),(J j 2),(J j 3),(J j 4),(J j 5),(J j 6),(J j 7),(J j 8),(J j 9),(J j 10),(J j 11),(J j 12),(J j 13),(J j 14),(J j 15),(J j 16),(J j 17),(J j 18),(J j 19),(J j 20),(J j 21),uu],[.code (cd Tryz.f169 [1,1,0,1,0,0]),.inLoop (cd Tryz.f169 [1,1,0,1,0,0]),.inBlock 0,.code (cd Tryz.f169 [1,1,1])],[],.run,.normal,none⟩
noncomputable def sc_h_o(zs:List Nat)(n c f l q i:Nat):List (Nat×AObj):=[(5,(cU zs))]
noncomputable def sc_h(zs:List Nat)(n c f l q i:Nat)(j:List Value):AS:=⟨sc_h_f zs n c f l q i j,[],mkH 6 (sc_h_o zs n c f l q i)⟩
theorem sc_in(xs:List Nat)(n c f l:Nat):GT ⟨Frame.enter Tryz.prog 169 #[(sl 5 n c),(nU f),(nU l)] .normal,[],mkH 6 [(5,(cU xs))]⟩ (sc_h xs n c f l l 0 [undef,undef,undef,undef,undef,undef,undef,undef,undef,undef,undef,undef,undef,undef,undef,undef,undef,undef,undef,undef,undef,undef]):=
 sR (sc:=[(18,.stay)]) (fr1:=sc_h_f xs n c f l l 0 [uu,uu,uu,uu,uu,uu,uu,uu,uu,uu,uu,uu,uu,uu,uu,uu,uu,uu,uu,uu,uu,uu]) (next:=6) (l:=sc_h_o xs n c f l l 0) (by kernel_rfl) tt
theorem sc_r(zs:List Nat)(n c f l q i p:Nat)(j:List Value)(hi:i<n)(hm:n<1099511627776)(hc:n≤zs.length)(ha:zs.getD i 0<1000000000)(hp:p=zs.getD i 0*f)(hp2:p≤999999999000000000)(hq:q≤1000000000):GT (sc_h zs n c f l q i j) (sc_h (zs.set i ((p+q)%1000000000)) n c f l ((p+q)/1000000000) (i+1) (z_85a_0 i p q n c f zs)):=
 sR (sc:=[(2,.op (.rwB true)),(15,.op (.idx i)),(0,.op (.ld (nW (zs.getD i 0)))),(0,.op (.rwI (((zs.getD i 0):Nat):Int))),(1,.op (.rwI (p:Int))),(1,.op (.rwI (((p+q):Nat):Int))),(5,.op (.rwI ((((p+q)/1000000000):Nat):Int))),(6,.op (.rwI ((((p+q)%1000000000):Nat):Int))),(0,.op (.rwI ((((p+q)%1000000000):Nat):Int))),(0,.op (.idx i)),(0,.op (.st (ns .u32 (zs.set i ((p+q)%1000000000))))),(3,.op (.rwI (((i+1):Nat):Int))),(3,.stay)]) (fr1:=sc_h_f (zs.set i ((p+q)%1000000000)) n c f l ((p+q)/1000000000) (i+1) (z_85a_0 i p q n c f zs)) (next:=6) (l:=sc_h_o (zs.set i ((p+q)%1000000000)) n c f l ((p+q)/1000000000) (i+1)) (by kernel_rfl) (aI (dT (p:=(i:Int)<(n:Int)) (by omega)) (aI (ix (i:Int) (n:Int) 0 1 i (by omega)) (aI (ns_get (k:=.u32) (xs:=zs) (i:=i) (by omega)) (aI (wU64 (a:=(((zs.getD i 0):Nat):Int)) (r:=(((zs.getD i 0):Nat):Int)) (by omega)) (aI (show IntKind.wrap .u64 ((((zs.getD i 0):Nat):Int)*(f:Int))=(p:Int) from (by subst hp;rw[wrap_u64 (by omega) (by omega)]<;>omega)) (aI (wU64 (a:=((p:Int)+(q:Int))) (r:=(((p+q):Nat):Int)) (by omega)) (aI (show IntKind.wrap .u64 (Int.tdiv (((p+q):Nat):Int) (1000000000:Int))=((((p+q)/1000000000):Nat):Int) from (by rw[Int.tdiv_eq_ediv_of_nonneg (by omega),wrap_u64 (by omega) (by omega)]<;>omega)) (aI (show (Int.tmod (((p+q):Nat):Int) (1000000000:Int))=((((p+q)%1000000000):Nat):Int) from (by rw[Int.tmod_eq_emod_of_nonneg (by omega)]<;>omega)) (aI (wU32 (a:=((((p+q)%1000000000):Nat):Int)) (r:=((((p+q)%1000000000):Nat):Int)) (by omega)) (aI (ix (i:Int) (n:Int) 0 1 i (by omega)) (aI (show i+1≤(ns .u32 zs).length∧lspl (ns .u32 zs) i [(nW ((p+q)%1000000000))]=(ns .u32 (zs.set i ((p+q)%1000000000))) from (ns_set (by omega))) (aI (wI64 (a:=((i:Int)+(1:Int))) (r:=(((i+1):Nat):Int)) (by omega)) tt))))))))))))
theorem sc_o(xs zs:List Nat)(n c f l q i:Nat)(j:List Value)(hi:n≤i)(hr:GT ⟨Frame.enter Tryz.prog 169 #[(sl 5 n c),(nU f),(nU l)] .normal,[],mkH 6 [(5,(cU xs))]⟩ (sc_h zs n c f l q i j)):CT 169 #[(sl 5 n c),(nU f),(nU l)] (mkH 6 [(5,(cU xs))]) (nU q) (mkH 6 [(5,(cU zs))]):=
 sF (sc:=[(2,.op (.rwB false)),(10,.stay)]) (next:=6) (l:=[(5,(cU zs))]) (by kernel_rfl) (aI (dF (p:=(i:Int)<(n:Int)) (by omega)) tt) hr
theorem sc_all{s0:AS}{n c f l T:Nat}(hf:f≤1000000000)(hm:n<1099511627776): ∀(m i:Nat) (zs:List Nat) (q:Nat) (j:List Value),m=n-i→i≤n→zs.length=n→Lim zs→q≤1000000000→
  val (zs.take i)+q*1000000000^i+f*(1000000000^i*val (zs.drop i))=T→GT s0 (sc_h zs n c f l q i j)→
  ∃zs' q' j',zs'.length=n∧Lim zs'∧val zs'+q'*1000000000^n=T∧GT s0 (sc_h zs' n c f l q' n j'):=by
 intro m
 induction m with
 |zero=>
  intro i zs q j hm2 hi hz hl hq hv hr
  have:i=n:=by omega
  subst this
  rw[List.take_of_length_le (by omega),List.drop_eq_nil_of_le (by omega),show val []=0 from rfl,Nat.mul_zero,Nat.mul_zero,Nat.add_zero]at hv
  exact⟨zs,q,j,hz,hl,hv,hr⟩
 |succ m ih=>
  intro i zs q j hm2 hi hz hl hq hv hr
  have ha:=hl.get i
  have hp2:zs.getD i 0*f≤999999999000000000:=Nat.mul_le_mul (show zs.getD i 0≤999999999 by omega) hf
  have r:=sc_r zs n c f l q i _ j (by omega) hm (by omega) ha rfl hp2 hq
  have hv':=scale_round (show i<zs.length by omega) hv
  refine ih (i+1) _ _ _ (by omega) (by omega) (by rw[List.length_set];exact hz) (hl.set (Nat.mod_lt _ (by decide))) ?_ hv' (hr.trans r)
  generalize zs.getD i 0*f=p at*
  omega
theorem sc_c(n0 b:Nat)(xs:List Nat)(n c f l:Nat)(hb:5≤b∧b<n0)(hlx:Lim xs)(hx:xs.length=n)(hm:n<1099511627776)(hf:f≤1000000000)(hl:l≤1000000000):
  ∃zs q,zs.length=n∧Lim zs∧val zs+q*1000000000^n=f*val xs+l∧
   FT 169 #[sl b n c,.int .u64 (f:Nat),.int .u64 (l:Nat)] n0 [(b,cU xs)] (nU q) [(b,some (cU zs))] []:=by
 obtain⟨zs,q,j,h1,h2,h3,h4⟩:=sc_all (T:=f*val xs+l) hf hm n 0 xs l _ rfl (Nat.zero_le _) hx hlx hl (by rw[List.take_zero,List.drop_zero,Nat.pow_zero,Nat.one_mul,Nat.mul_one,show val []=0 from rfl];omega) (sc_in xs n c f l)
 exact⟨zs,q,h1,h2,h3,fsp_flat [b] [cU xs] [cU zs] [] [] n0 (sc_o xs zs n c f l q n j (Nat.le_refl _) h4) rfl rfl rfl (by simp) (by simp;omega) (by omega) (by simp[flat,ns_closed]) (by simp[flat,ns_closed]) rfl (by simp) (by simp) rfl rfl rfl⟩
noncomputable section
abbrev z_1bb_0(r i n c d v:Nat)(zs:List Nat):List Value:=[(nU ((r*1000000000)+(zs.getD i 0))),(nI i),bT,(nI i),(.int .i64 ((i:Int)-1)),(nU r),(nU (r*1000000000)),(sl 5 n c),(nI i),(.pointer (some ⟨5,i,none⟩)),(nW (zs.getD i 0)),(nU (zs.getD i 0)),(nU ((r*1000000000)+(zs.getD i 0))),(sl 5 n c),(nI i),(nU ((r*1000000000)+(zs.getD i 0))),(nU d),(nU v),(nW v),(.pointer (some ⟨5,i,none⟩)),(nU ((r*1000000000)+(zs.getD i 0))),(nU d),(nU (((r*1000000000)+(zs.getD i 0))%d))]
end
noncomputable def sh_h_f(zs:List Nat)(n c d r:Nat)(i:Int)(j:List Value):Frame:=⟨155,List.toArray [(sl 5 n c),(nU d),uu,uu,(nU r),(.int .i64 i),(J j 0),(sl 5 n c),(nI n),(.int .i64 ((n:Int)-1)),(J j 1),(J j 2),(J j 3),(J j 4),(J j 5),(J j 6),(J j 7),(J j 8),(J j 9),(J j 10),(J j 11),(J j 12),(J j 13),(J j 14),(J j 15),(J j 16),(J j 17),(J j 18),(J j 19),(J j 20),(J j 21),(J j 22),uu],[.code (cd Tryz.f155 [1,0,1,0,0]),.inLoop (cd Tryz.f155 [1,0,1,0,0]),.inBlock 0,.code (cd Tryz.f155 [1,1])],[],.run,.normal,none⟩
noncomputable def sh_h_o(zs:List Nat)(n c d r:Nat)(i:Int):List (Nat×AObj):=[(5,(cU zs))]
noncomputable def sh_h(zs:List Nat)(n c d r:Nat)(i:Int)(j:List Value):AS:=⟨sh_h_f zs n c d r i j,[],mkH 6 (sh_h_o zs n c d r i)⟩
theorem sh_in(xs:List Nat)(n c d:Nat)(hm:n<1099511627776):GT ⟨Frame.enter Tryz.prog 155 #[(sl 5 n c),(nU d)] .normal,[],mkH 6 [(5,(cU xs))]⟩ (sh_h xs n c d 0 ((n:Int)-1) [undef,undef,undef,undef,undef,undef,undef,undef,undef,undef,undef,undef,undef,undef,undef,undef,undef,undef,undef,undef,undef,undef,undef]):=
 sR (sc:=[(9,.op (.rwI ((n:Int)-1))),(4,.stay)]) (fr1:=sh_h_f xs n c d 0 ((n:Int)-1) [uu,uu,uu,uu,uu,uu,uu,uu,uu,uu,uu,uu,uu,uu,uu,uu,uu,uu,uu,uu,uu,uu,uu]) (next:=6) (l:=sh_h_o xs n c d 0 ((n:Int)-1)) (by kernel_rfl) (aI (wI64 (a:=((n:Int)-(1:Int))) (r:=((n:Int)-1)) (by omega)) tt)
theorem sh_r(zs:List Nat)(n c d r i v:Nat)(j:List Value)(hi:i<n)(hm:n<1099511627776)(hc:n≤zs.length)(ha:zs.getD i 0<1000000000)(hr:r<d)(hd0:0<d)(hd:d≤1000000000)(hv:v=(r*1000000000+zs.getD i 0)/d)(hq:v<1000000000):GT (sh_h zs n c d r i j) (sh_h (zs.set i v) n c d (((r*1000000000)+(zs.getD i 0))%d) ((i:Int)-1) (z_1bb_0 r i n c d v zs)):=
 sR (sc:=[(4,.op (.rwB true)),(8,.op (.rwI (((r*1000000000):Nat):Int))),(2,.op (.idx i)),(0,.op (.ld (nW (zs.getD i 0)))),(0,.op (.rwI (((zs.getD i 0):Nat):Int))),(0,.op (.rwI ((((r*1000000000)+(zs.getD i 0)):Nat):Int))),(8,.op (.div (v:Int))),(0,.op (.rwI (v:Int))),(0,.op (.idx i)),(0,.op (.st (ns .u32 (zs.set i v)))),(4,.op (.div (((((r*1000000000)+(zs.getD i 0))%d):Nat):Int))),(5,.op (.rwI ((i:Int)-1))),(3,.stay)]) (fr1:=sh_h_f (zs.set i v) n c d (((r*1000000000)+(zs.getD i 0))%d) ((i:Int)-1) (z_1bb_0 r i n c d v zs)) (next:=6) (l:=sh_h_o (zs.set i v) n c d (((r*1000000000)+(zs.getD i 0))%d) ((i:Int)-1)) (by kernel_rfl) (aI (dT (p:=(i:Int)≥(0:Int)) (by omega)) (aI (wU64 (a:=((r:Int)*(1000000000:Int))) (r:=(((r*1000000000):Nat):Int)) (by omega)) (aI (ix (i:Int) (n:Int) 0 1 i (by omega)) (aI (ns_get (k:=.u32) (xs:=zs) (i:=i) (by omega)) (aI (wU64 (a:=(((zs.getD i 0):Nat):Int)) (r:=(((zs.getD i 0):Nat):Int)) (by omega)) (aI (wU64 (a:=((((r*1000000000):Nat):Int)+(((zs.getD i 0):Nat):Int))) (r:=((((r*1000000000)+(zs.getD i 0)):Nat):Int)) (by omega)) (aI (show (d:Int)≠0∧IntKind.wrap .u64 (Int.tdiv ((((r*1000000000)+(zs.getD i 0)):Nat):Int) (d:Int))=(v:Int) from⟨by omega,by rw[Int.tdiv_eq_ediv_of_nonneg (by omega),show ∀a b:Nat,(a:Int)/(b:Int)=((a/b:Nat):Int) from fun _ _=>rfl,←hv,wrap_u64 (by omega) (by omega)]⟩) (aI (wU32 (a:=(v:Int)) (r:=(v:Int)) (by omega)) (aI (ix (i:Int) (n:Int) 0 1 i (by omega)) (aI (show i+1≤(ns .u32 zs).length∧lspl (ns .u32 zs) i [(nW v)]=(ns .u32 (zs.set i v)) from (ns_set (by omega))) (aI (show (d:Int)≠0∧(Int.tmod ((((r*1000000000)+(zs.getD i 0)):Nat):Int) (d:Int))=(((((r*1000000000)+(zs.getD i 0))%d):Nat):Int) from⟨by omega,by rw[Int.tmod_eq_emod_of_nonneg (by omega)];rfl⟩) (aI (wI64 (a:=((i:Int)-(1:Int))) (r:=((i:Int)-1)) (by omega)) tt))))))))))))
theorem sh_o(xs zs:List Nat)(n c d r:Nat)(i:Int)(j:List Value)(hi:i<0)(hr:GT ⟨Frame.enter Tryz.prog 155 #[(sl 5 n c),(nU d)] .normal,[],mkH 6 [(5,(cU xs))]⟩ (sh_h zs n c d r i j)):CT 155 #[(sl 5 n c),(nU d)] (mkH 6 [(5,(cU xs))]) (nU r) (mkH 6 [(5,(cU zs))]):=
 sF (sc:=[(4,.op (.rwB false)),(9,.stay)]) (next:=6) (l:=[(5,(cU zs))]) (by kernel_rfl) (aI (dF (p:=i≥(0:Int)) (by omega)) tt) hr
theorem sh_all{s0:AS}{n c d T:Nat}(hd0:0<d)(hd:d≤1000000000)(hm:n<1099511627776): ∀(i:Nat) (zs:List Nat) (r:Nat) (j:List Value),i≤n→zs.length=n→Lim zs→r<d→
  val (zs.take i)+1000000000^i*r+d*(1000000000^i*val (zs.drop i))=T→GT s0 (sh_h zs n c d r ((i:Int)-1) j)→
  ∃zs' r' i' j',zs'.length=n∧Lim zs'∧r'<d∧d*val zs'+r'=T∧i'<0∧GT s0 (sh_h zs' n c d r' i' j'):=by
 intro i
 induction i with
 |zero=>
  intro zs r j hi hz hl hrd hv hr
  refine⟨zs,r,_,j,hz,hl,hrd,?_,?_,hr⟩
  ·rw[List.take_zero,List.drop_zero,Nat.pow_zero,Nat.one_mul,Nat.one_mul,show val []=0 from rfl]at hv
   omega
  ·omega
 |succ i ih=>
  intro zs r j hi hz hl hrd hv hr
  rw[show ((i+1:Nat):Int)-1=(i:Int) by omega]at hr
  have ha:=hl.get i
  have hlt:r*1000000000+zs.getD i 0<d*1000000000:=by omega
  have hq:(r*1000000000+zs.getD i 0)/d<1000000000:=Nat.div_lt_of_lt_mul hlt
  have q:=sh_r zs n c d r i _ j (by omega) hm (by omega) ha hrd hd0 hd rfl hq
  have hv':=shrink_round (show i<zs.length by omega) hv
  exact ih _ _ _ (by omega) (by rw[List.length_set];exact hz) (hl.set hq) (Nat.mod_lt _ hd0) hv' (hr.trans q)
theorem sh_c(n0 b:Nat)(xs:List Nat)(n c d:Nat)(hb:5≤b∧b<n0)(hlx:Lim xs)(hx:xs.length=n)(hm:n<1099511627776)(hd0:0<d)(hd:d≤1000000000):
  ∃zs r,zs.length=n∧Lim zs∧r<d∧d*val zs+r=val xs∧
   FT 155 #[sl b n c,.int .u64 (d:Nat)] n0 [(b,cU xs)] (nU r) [(b,some (cU zs))] []:=by
 obtain⟨zs,r,i,j,h1,h2,h3,h4,h5,h6⟩:=sh_all (T:=val xs) hd0 hd hm n xs 0 _ (Nat.le_refl _) hx hlx hd0 (by rw[List.take_of_length_le (by omega),List.drop_eq_nil_of_le (by omega),show val []=0 from rfl];simp) (sh_in xs n c d hm)
 exact⟨zs,r,h1,h2,h3,h4,fsp_flat [b] [cU xs] [cU zs] [] [] n0 (sh_o xs zs n c d r i j h5 h6) rfl rfl rfl (by simp) (by simp;omega) (by omega) (by simp[flat,ns_closed]) (by simp[flat,ns_closed]) rfl (by simp) (by simp) rfl rfl rfl⟩
noncomputable section
abbrev z_3f2_0(i o q n c:Nat)(ys zs:List Nat):List Value:=[(nI i),(nW (ys.getD i 0)),(nW (((zs.getD (o+i) 0)+(ys.getD i 0))+q)),bT,(nI i),(.pointer (some ⟨6,i,none⟩)),(nW (ys.getD i 0)),(.slice (some ⟨5,o,none⟩) n c),(nI i),(.pointer (some ⟨5,(o+i),none⟩)),(nW (zs.getD (o+i) 0)),(nW (ys.getD i 0)),(nW ((zs.getD (o+i) 0)+(ys.getD i 0))),(nW q),(nW (((zs.getD (o+i) 0)+(ys.getD i 0))+q)),(nW (((zs.getD (o+i) 0)+(ys.getD i 0))+q)),(nW ((((zs.getD (o+i) 0)+(ys.getD i 0))+q)/1000000000)),(.slice (some ⟨5,o,none⟩) n c),(nI i),(nW (((zs.getD (o+i) 0)+(ys.getD i 0))+q)),(nW ((((zs.getD (o+i) 0)+(ys.getD i 0))+q)%1000000000)),(.pointer (some ⟨5,(o+i),none⟩)),(nI (i+1))]
end
noncomputable def gb_h_f(zs ys:List Nat)(o n c k e q i:Nat)(j:List Value):Frame:=⟨195,List.toArray [(.slice (some ⟨5,o,none⟩) n c),(sl 6 k e),uu,uu,(nW q),(J j 0),(J j 1),(J j 2),(sl 6 k e),(nI k),(nI i),(J j 3),(J j 4),(J j 5),(J j 6),(J j 7),(J j 8),(J j 9),(J j 10),(J j 11),(J j 12),(J j 13),(J j 14),(J j 15),(J j 16),(J j 17),(J j 18),(J j 19),(J j 20),(J j 21),(J j 22)],[.code (cd Tryz.f195 [1,1,0,0]),.inLoop (cd Tryz.f195 [1,1,0,0]),.inBlock 0],[],.run,.normal,none⟩
noncomputable def gb_h_o(zs ys:List Nat)(o n c k e q i:Nat):List (Nat×AObj):=[(5,(cU zs)),(6,(cU ys))]
noncomputable def gb_h(zs ys:List Nat)(o n c k e q i:Nat)(j:List Value):AS:=⟨gb_h_f zs ys o n c k e q i j,[],mkH 7 (gb_h_o zs ys o n c k e q i)⟩
theorem gb_in(xs ys:List Nat)(o n c k e:Nat):GT ⟨Frame.enter Tryz.prog 195 #[(.slice (some ⟨5,o,none⟩) n c),(sl 6 k e)] .normal,[],mkH 7 [(5,(cU xs)),(6,(cU ys))]⟩ (gb_h xs ys o n c k e 0 0 [undef,undef,undef,undef,undef,undef,undef,undef,undef,undef,undef,undef,undef,undef,undef,undef,undef,undef,undef,undef,undef,undef,undef]):=
 sR (sc:=[(12,.stay)]) (fr1:=gb_h_f xs ys o n c k e 0 0 [uu,uu,uu,uu,uu,uu,uu,uu,uu,uu,uu,uu,uu,uu,uu,uu,uu,uu,uu,uu,uu,uu,uu]) (next:=7) (l:=gb_h_o xs ys o n c k e 0 0) (by kernel_rfl) tt
theorem gb_r(zs ys:List Nat)(o n c k e q i:Nat)(j:List Value)(hi:i<k)(hkn:k≤n)(hm:k<1099511627776)(hc:o+n≤zs.length)(hy:k≤ys.length)(ha:zs.getD (o+i) 0<1000000000)(hb:ys.getD i 0<1000000000)(hq:q≤1):GT (gb_h zs ys o n c k e q i j) (gb_h (zs.set (o+i) ((((zs.getD (o+i) 0)+(ys.getD i 0))+q)%1000000000)) ys o n c k e ((((zs.getD (o+i) 0)+(ys.getD i 0))+q)/1000000000) (i+1) (z_3f2_0 i o q n c ys zs)):=
 sR (sc:=[(2,.op (.rwB true)),(9,.op (.idx i)),(0,.op (.ld (nW (ys.getD i 0)))),(7,.op (.idx (o+i))),(0,.op (.ld (nW (zs.getD (o+i) 0)))),(1,.op (.rwI ((((zs.getD (o+i) 0)+(ys.getD i 0)):Nat):Int))),(1,.op (.rwI (((((zs.getD (o+i) 0)+(ys.getD i 0))+q):Nat):Int))),(5,.op (.rwI ((((((zs.getD (o+i) 0)+(ys.getD i 0))+q)/1000000000):Nat):Int))),(6,.op (.rwI ((((((zs.getD (o+i) 0)+(ys.getD i 0))+q)%1000000000):Nat):Int))),(0,.op (.idx (o+i))),(0,.op (.st (ns .u32 (zs.set (o+i) ((((zs.getD (o+i) 0)+(ys.getD i 0))+q)%1000000000))))),(3,.op (.rwI (((i+1):Nat):Int))),(3,.stay)]) (fr1:=gb_h_f (zs.set (o+i) ((((zs.getD (o+i) 0)+(ys.getD i 0))+q)%1000000000)) ys o n c k e ((((zs.getD (o+i) 0)+(ys.getD i 0))+q)/1000000000) (i+1) (z_3f2_0 i o q n c ys zs)) (next:=7) (l:=gb_h_o (zs.set (o+i) ((((zs.getD (o+i) 0)+(ys.getD i 0))+q)%1000000000)) ys o n c k e ((((zs.getD (o+i) 0)+(ys.getD i 0))+q)/1000000000) (i+1)) (by kernel_rfl) (aI (dT (p:=(i:Int)<(k:Int)) (by omega)) (aI (ix (i:Int) (k:Int) 0 1 i (by omega)) (aI (ns_get (k:=.u32) (xs:=ys) (i:=i) (by omega)) (aI (ix (i:Int) (n:Int) o 1 (o+i) (by omega)) (aI (ns_get (k:=.u32) (xs:=zs) (i:=(o+i)) (by omega)) (aI (wU32 (a:=((((zs.getD (o+i) 0):Nat):Int)+(((ys.getD i 0):Nat):Int))) (r:=((((zs.getD (o+i) 0)+(ys.getD i 0)):Nat):Int)) (by omega)) (aI (wU32 (a:=(((((zs.getD (o+i) 0)+(ys.getD i 0)):Nat):Int)+(q:Int))) (r:=(((((zs.getD (o+i) 0)+(ys.getD i 0))+q):Nat):Int)) (by omega)) (aI (show IntKind.wrap .u32 (Int.tdiv (((((zs.getD (o+i) 0)+(ys.getD i 0))+q):Nat):Int) (1000000000:Int))=((((((zs.getD (o+i) 0)+(ys.getD i 0))+q)/1000000000):Nat):Int) from (by rw[Int.tdiv_eq_ediv_of_nonneg (by omega),wrap_u32 (by omega) (by omega)]<;>omega)) (aI (show (Int.tmod (((((zs.getD (o+i) 0)+(ys.getD i 0))+q):Nat):Int) (1000000000:Int))=((((((zs.getD (o+i) 0)+(ys.getD i 0))+q)%1000000000):Nat):Int) from (by rw[Int.tmod_eq_emod_of_nonneg (by omega)]<;>omega)) (aI (ix (i:Int) (n:Int) o 1 (o+i) (by omega)) (aI (show (o+i)+1≤(ns .u32 zs).length∧lspl (ns .u32 zs) (o+i) [(nW ((((zs.getD (o+i) 0)+(ys.getD i 0))+q)%1000000000))]=(ns .u32 (zs.set (o+i) ((((zs.getD (o+i) 0)+(ys.getD i 0))+q)%1000000000))) from (ns_set (by omega))) (aI (wI64 (a:=((i:Int)+(1:Int))) (r:=(((i+1):Nat):Int)) (by omega)) tt))))))))))))
theorem gb_o(xs zs ys:List Nat)(o n c k e q i:Nat)(j:List Value)(hi:k≤i)(hr:GT ⟨Frame.enter Tryz.prog 195 #[(.slice (some ⟨5,o,none⟩) n c),(sl 6 k e)] .normal,[],mkH 7 [(5,(cU xs)),(6,(cU ys))]⟩ (gb_h zs ys o n c k e q i j)):CT 195 #[(.slice (some ⟨5,o,none⟩) n c),(sl 6 k e)] (mkH 7 [(5,(cU xs)),(6,(cU ys))]) undef (mkH 7 [(5,(cU zs)),(6,(cU ys))]):=
 sF (sc:=[(2,.op (.rwB false)),(5,.stay)]) (next:=7) (l:=[(5,(cU zs)),(6,(cU ys))]) (by kernel_rfl) (aI (dF (p:=(i:Int)<(k:Int)) (by omega)) tt) hr
theorem gb_all{s0:AS}{ys:List Nat}{o n c k e R0:Nat}(hly:Lim ys)(hy:k≤ys.length)(hkn:k≤n)(hm:k<1099511627776): ∀(m i:Nat) (zs:List Nat) (q:Nat) (j:List Value),m=k-i→i≤k→o+n≤zs.length→Lim zs→q≤1→
  val zs+q*1000000000^(o+i)=R0+val (ys.take i)*1000000000^o→GT s0 (gb_h zs ys o n c k e q i j)→
  ∃zs' q' j',zs'.length=zs.length∧Lim zs'∧q'≤1∧(∀l,o+k≤l→zs'.getD l 0=zs.getD l 0)∧val zs'+q'*1000000000^(o+k)=R0+val (ys.take k)*1000000000^o∧GT s0 (gb_h zs' ys o n c k e q' k j'):=by
 intro m
 induction m with
 |zero=>
  intro i zs q j hm2 hi hz hl hq hv hr
  have:i=k:=by omega
  subst this
  exact⟨zs,q,j,rfl,hl,hq,fun _ _=>rfl,hv,hr⟩
 |succ m ih=>
  intro i zs q j hm2 hi hz hl hq hv hr
  have ha:=hl.get (o+i)
  have hb:=hly.get i
  have r:=gb_r zs ys o n c k e q i j (by omega) hkn hm hz hy ha hb hq
  have hv':=give_round (show o+i<zs.length by omega) hv
  obtain⟨zs',q',j',h1,h2,h3,h4,h5,h6⟩:=ih (i+1) _ _ _ (by omega) (by omega) (by rw[List.length_set];exact hz) (hl.set (Nat.mod_lt _ (by decide))) (by omega) hv' (hr.trans r)
  refine⟨zs',q',j',by rw[h1,List.length_set],h2,h3,fun l hl'=> ?_,h5,h6⟩
  rw[h4 l hl',getD_set (by omega),if_neg (by omega)]
theorem gb_c(n0 bx byy:Nat)(xs ys:List Nat)(o n c k e:Nat)(hb:5≤bx∧bx<n0∧5≤byy∧byy<n0∧bx≠byy)(hlx:Lim xs)(hly:Lim ys)(hc:o+n≤xs.length)(hy:k≤ys.length)(hkn:k≤n)(hm:k<1099511627776):
  ∃zs q,zs.length=xs.length∧Lim zs∧q≤1∧(∀l,o+k≤l→zs.getD l 0=xs.getD l 0)∧val zs+q*1000000000^(o+k)=val xs+val (ys.take k)*1000000000^o∧
   FT 195 #[.slice (some ⟨bx,o,none⟩) n c,sl byy k e] n0 [(bx,cU xs),(byy,cU ys)] (.tuple #[]) [(bx,some (cU zs)),(byy,some (cU ys))] []:=by
 obtain⟨zs,q,j,h1,h2,h3,h4,h5,h6⟩:=gb_all (R0:=val xs) hly hy hkn hm k 0 xs 0 _ rfl (Nat.zero_le _) hc hlx (by omega) (by rw[List.take_zero,show val []=0 from rfl,Nat.zero_mul,Nat.zero_mul]) (gb_in xs ys o n c k e)
 exact⟨zs,q,h1,h2,h3,h4,h5,fsp_flat [bx,byy] [cU xs,cU ys] [cU zs,cU ys] [] [] n0 (gb_o xs zs ys o n c k e q k j (Nat.le_refl _) h6) rfl rfl rfl (by simp[hb.2.2.2.2]) (by simp;omega) (by omega) (by simp[flat,ns_closed]) (by simp[flat,ns_closed]) rfl (by simp) (by simp) rfl rfl rfl⟩
noncomputable section
abbrev z_583_2(o i:Nat):Value:=.pointer (some ⟨5,(o+i),none⟩)
abbrev z_583_0(i p q t o n c a v:Nat)(ys:List Nat):List Value:=[(nI i),(nW (ys.getD i 0)),(nU (p+q)),(nW ((p+q)%1000000000)),bT,(nI i),(.pointer (some ⟨6,i,none⟩)),(nW (ys.getD i 0)),(nW (ys.getD i 0)),(nU (ys.getD i 0)),(nU t),(nU p),(nU q),(nU (p+q)),(nU (p+q)),(nU ((p+q)/1000000000)),(nU (p+q)),(nU ((p+q)%1000000000)),(nW ((p+q)%1000000000)),(.slice (some ⟨5,o,none⟩) n c),(nI i),(z_583_2 o i),(nW a),(nW ((p+q)%1000000000)),bT,(.slice (some ⟨5,o,none⟩) n c),(nI i),(z_583_2 o i),(nW a),(nW (a+1000000000)),(z_583_2 o i),(nU ((p+q)/1000000000)),(nU (((p+q)/1000000000)+1)),(.slice (some ⟨5,o,none⟩) n c),(nI i),(z_583_2 o i),(nW (a+1000000000)),(nW ((p+q)%1000000000)),(nW v),(z_583_2 o i),(nI (i+1))]
abbrev z_583_1(i p q t o n c a v:Nat)(ys:List Nat)(j:List Value):List Value:=[(nI i),(nW (ys.getD i 0)),(nU (p+q)),(nW ((p+q)%1000000000)),bT,(nI i),(.pointer (some ⟨6,i,none⟩)),(nW (ys.getD i 0)),(nW (ys.getD i 0)),(nU (ys.getD i 0)),(nU t),(nU p),(nU q),(nU (p+q)),(nU (p+q)),(nU ((p+q)/1000000000)),(nU (p+q)),(nU ((p+q)%1000000000)),(nW ((p+q)%1000000000)),(.slice (some ⟨5,o,none⟩) n c),(nI i),(z_583_2 o i),(nW a),(nW ((p+q)%1000000000)),bF,(J j 25),(J j 26),(J j 27),(J j 28),(J j 29),(J j 30),(J j 31),(J j 32),(.slice (some ⟨5,o,none⟩) n c),(nI i),(z_583_2 o i),(nW a),(nW ((p+q)%1000000000)),(nW v),(z_583_2 o i),(nI (i+1))]
end
noncomputable def lm_h_f(zs ys:List Nat)(o n c k e t q i:Nat)(j:List Value):Frame:=⟨194,List.toArray [(.slice (some ⟨5,o,none⟩) n c),(sl 6 k e),(nU t),uu,uu,uu,bF,(nU q),(J j 0),(J j 1),(J j 2),(J j 3),uu,uu,(sl 6 k e),(nI k),(nI i),(J j 4),(J j 5),(J j 6),(J j 7),(J j 8),(J j 9),(J j 10),(J j 11),(J j 12),(J j 13),(J j 14),(J j 15),(J j 16),(J j 17),(J j 18),(J j 19),(J j 20),(J j 21),(J j 22),(J j 23),(J j 24),(J j 25),(J j 26),(J j 27),(J j 28),(J j 29),(J j 30),(J j 31),(J j 32),(J j 33),(J j 34),(J j 35),(J j 36),(J j 37),(J j 38),(J j 39),(J j 40),uu,uu,uu,uu,uu,uu,uu,uu,uu,uu,uu,uu,uu],[.code (cd Tryz.f194 [1,1,0,1,0,0]),.inLoop (cd Tryz.f194 [1,1,0,1,0,0]),.inBlock 0,.code (cd Tryz.f194 [1,1,1])],[],.run,.normal,none⟩
noncomputable def lm_h_o(zs ys:List Nat)(o n c k e t q i:Nat):List (Nat×AObj):=[(5,(cU zs)),(6,(cU ys))]
noncomputable def lm_h(zs ys:List Nat)(o n c k e t q i:Nat)(j:List Value):AS:=⟨lm_h_f zs ys o n c k e t q i j,[],mkH 7 (lm_h_o zs ys o n c k e t q i)⟩
theorem lm_in(xs ys:List Nat)(o n c k e t:Nat):GT ⟨Frame.enter Tryz.prog 194 #[(.slice (some ⟨5,o,none⟩) n c),(sl 6 k e),(nU t)] .normal,[],mkH 7 [(5,(cU xs)),(6,(cU ys))]⟩ (lm_h xs ys o n c k e t 0 0 [undef,undef,undef,undef,undef,undef,undef,undef,undef,undef,undef,undef,undef,undef,undef,undef,undef,undef,undef,undef,undef,undef,undef,undef,undef,undef,undef,undef,undef,undef,undef,undef,undef,undef,undef,undef,undef,undef,undef,undef,undef]):=
 sR (sc:=[(17,.stay)]) (fr1:=lm_h_f xs ys o n c k e t 0 0 [uu,uu,uu,uu,uu,uu,uu,uu,uu,uu,uu,uu,uu,uu,uu,uu,uu,uu,uu,uu,uu,uu,uu,uu,uu,uu,uu,uu,uu,uu,uu,uu,uu,uu,uu,uu,uu,uu,uu,uu,uu]) (next:=7) (l:=lm_h_o xs ys o n c k e t 0 0) (by kernel_rfl) tt
theorem lm_b(zs ys:List Nat)(o n c k e t q i p a v:Nat)(j:List Value)(hi:i<k)(hkn:k≤n)(hm:k<1099511627776)(hc:o+n≤zs.length)(hy:k≤ys.length)(ha:a<1000000000)(hx:(ns .u32 zs)[o+i]? =some (nW a))(hb:ys.getD i 0<1000000000)(hp:p=ys.getD i 0*t)(hp2:p≤999999998000000001)(hq:q≤1000000000)(hlt:a<(p+q)%1000000000)(hv:v+(p+q)%1000000000=a+1000000000):GT (lm_h zs ys o n c k e t q i j) (lm_h (zs.set (o+i) v) ys o n c k e t (((p+q)/1000000000)+1) (i+1) (z_583_0 i p q t o n c a v ys)):=
 sR (sc:=[(2,.op (.rwB true)),(9,.op (.idx i)),(0,.op (.ld (nW (ys.getD i 0)))),(6,.op (.rwI (((ys.getD i 0):Nat):Int))),(1,.op (.rwI (p:Int))),(1,.op (.rwI (((p+q):Nat):Int))),(5,.op (.rwI ((((p+q)/1000000000):Nat):Int))),(5,.op (.rwI ((((p+q)%1000000000):Nat):Int))),(0,.op (.rwI ((((p+q)%1000000000):Nat):Int))),(7,.op (.idx (o+i))),(0,.op (.ld (nW a))),(1,.op (.rwB true)),(6,.op (.idx (o+i))),(0,.op (.ld (nW a))),(0,.op (.rwI (((a+1000000000):Nat):Int))),(0,.op (.idx (o+i))),(0,.op (.st (ns .u32 (zs.set (o+i) (a+1000000000))))),(3,.op (.rwI (((((p+q)/1000000000)+1):Nat):Int))),(5,.op (.idx (o+i))),(0,.op (.ld (nW (a+1000000000)))),(1,.op (.rwI (v:Int))),(0,.op (.idx (o+i))),(0,.op (.st (ns .u32 (zs.set (o+i) v)))),(3,.op (.rwI (((i+1):Nat):Int))),(3,.stay)]) (fr1:=lm_h_f (zs.set (o+i) v) ys o n c k e t (((p+q)/1000000000)+1) (i+1) (z_583_0 i p q t o n c a v ys)) (next:=7) (l:=lm_h_o (zs.set (o+i) v) ys o n c k e t (((p+q)/1000000000)+1) (i+1)) (by kernel_rfl) (aI (dT (p:=(i:Int)<(k:Int)) (by omega)) (aI (ix (i:Int) (k:Int) 0 1 i (by omega)) (aI (ns_get (k:=.u32) (xs:=ys) (i:=i) (by omega)) (aI (wU64 (a:=(((ys.getD i 0):Nat):Int)) (r:=(((ys.getD i 0):Nat):Int)) (by omega)) (aI (show IntKind.wrap .u64 ((((ys.getD i 0):Nat):Int)*(t:Int))=(p:Int) from (by subst hp;rw[wrap_u64 (by omega) (by omega)]<;>omega)) (aI (wU64 (a:=((p:Int)+(q:Int))) (r:=(((p+q):Nat):Int)) (by omega)) (aI (show IntKind.wrap .u64 (Int.tdiv (((p+q):Nat):Int) (1000000000:Int))=((((p+q)/1000000000):Nat):Int) from (by rw[Int.tdiv_eq_ediv_of_nonneg (by omega),wrap_u64 (by omega) (by omega)]<;>omega)) (aI (show (Int.tmod (((p+q):Nat):Int) (1000000000:Int))=((((p+q)%1000000000):Nat):Int) from (by rw[Int.tmod_eq_emod_of_nonneg (by omega)]<;>omega)) (aI (wU32 (a:=((((p+q)%1000000000):Nat):Int)) (r:=((((p+q)%1000000000):Nat):Int)) (by omega)) (aI (ix (i:Int) (n:Int) o 1 (o+i) (by omega)) (aI hx (aI (dT (p:=(a:Int)<((((p+q)%1000000000):Nat):Int)) (by omega)) (aI (ix (i:Int) (n:Int) o 1 (o+i) (by omega)) (aI hx (aI (wU32 (a:=((a:Int)+(1000000000:Int))) (r:=(((a+1000000000):Nat):Int)) (by omega)) (aI (ix (i:Int) (n:Int) o 1 (o+i) (by omega)) (aI (show (o+i)+1≤(ns .u32 zs).length∧lspl (ns .u32 zs) (o+i) [(nW (a+1000000000))]=(ns .u32 (zs.set (o+i) (a+1000000000))) from (ns_set (by omega))) (aI (wU64 (a:=(((((p+q)/1000000000):Nat):Int)+(1:Int))) (r:=(((((p+q)/1000000000)+1):Nat):Int)) (by omega)) (aI (ix (i:Int) (n:Int) o 1 (o+i) (by omega)) (aI (show ((ns .u32 (zs.set (o+i) (a+1000000000))):List Value)[(o+i)]? =some (nW (a+1000000000)) from (ns_get_set (by omega))) (aI (wU32 (a:=((((a+1000000000):Nat):Int)-((((p+q)%1000000000):Nat):Int))) (r:=(v:Int)) (by omega)) (aI (ix (i:Int) (n:Int) o 1 (o+i) (by omega)) (aI (show (o+i)+1≤(ns .u32 (zs.set (o+i) (a+1000000000))).length∧lspl (ns .u32 (zs.set (o+i) (a+1000000000))) (o+i) [(nW v)]=(ns .u32 (zs.set (o+i) v)) from (ns_set2 (by omega))) (aI (wI64 (a:=((i:Int)+(1:Int))) (r:=(((i+1):Nat):Int)) (by omega)) tt))))))))))))))))))))))))
theorem lm_n(zs ys:List Nat)(o n c k e t q i p a v:Nat)(j:List Value)(hi:i<k)(hkn:k≤n)(hm:k<1099511627776)(hc:o+n≤zs.length)(hy:k≤ys.length)(ha:a<1000000000)(hx:(ns .u32 zs)[o+i]? =some (nW a))(hb:ys.getD i 0<1000000000)(hp:p=ys.getD i 0*t)(hp2:p≤999999998000000001)(hq:q≤1000000000)(hge:(p+q)%1000000000≤a)(hv:v+(p+q)%1000000000=a):GT (lm_h zs ys o n c k e t q i j) (lm_h (zs.set (o+i) v) ys o n c k e t ((p+q)/1000000000) (i+1) (z_583_1 i p q t o n c a v ys j)):=
 sR (sc:=[(2,.op (.rwB true)),(9,.op (.idx i)),(0,.op (.ld (nW (ys.getD i 0)))),(6,.op (.rwI (((ys.getD i 0):Nat):Int))),(1,.op (.rwI (p:Int))),(1,.op (.rwI (((p+q):Nat):Int))),(5,.op (.rwI ((((p+q)/1000000000):Nat):Int))),(5,.op (.rwI ((((p+q)%1000000000):Nat):Int))),(0,.op (.rwI ((((p+q)%1000000000):Nat):Int))),(7,.op (.idx (o+i))),(0,.op (.ld (nW a))),(1,.op (.rwB false)),(6,.op (.idx (o+i))),(0,.op (.ld (nW a))),(1,.op (.rwI (v:Int))),(0,.op (.idx (o+i))),(0,.op (.st (ns .u32 (zs.set (o+i) v)))),(3,.op (.rwI (((i+1):Nat):Int))),(3,.stay)]) (fr1:=lm_h_f (zs.set (o+i) v) ys o n c k e t ((p+q)/1000000000) (i+1) (z_583_1 i p q t o n c a v ys j)) (next:=7) (l:=lm_h_o (zs.set (o+i) v) ys o n c k e t ((p+q)/1000000000) (i+1)) (by kernel_rfl) (aI (dT (p:=(i:Int)<(k:Int)) (by omega)) (aI (ix (i:Int) (k:Int) 0 1 i (by omega)) (aI (ns_get (k:=.u32) (xs:=ys) (i:=i) (by omega)) (aI (wU64 (a:=(((ys.getD i 0):Nat):Int)) (r:=(((ys.getD i 0):Nat):Int)) (by omega)) (aI (show IntKind.wrap .u64 ((((ys.getD i 0):Nat):Int)*(t:Int))=(p:Int) from (by subst hp;rw[wrap_u64 (by omega) (by omega)]<;>omega)) (aI (wU64 (a:=((p:Int)+(q:Int))) (r:=(((p+q):Nat):Int)) (by omega)) (aI (show IntKind.wrap .u64 (Int.tdiv (((p+q):Nat):Int) (1000000000:Int))=((((p+q)/1000000000):Nat):Int) from (by rw[Int.tdiv_eq_ediv_of_nonneg (by omega),wrap_u64 (by omega) (by omega)]<;>omega)) (aI (show (Int.tmod (((p+q):Nat):Int) (1000000000:Int))=((((p+q)%1000000000):Nat):Int) from (by rw[Int.tmod_eq_emod_of_nonneg (by omega)]<;>omega)) (aI (wU32 (a:=((((p+q)%1000000000):Nat):Int)) (r:=((((p+q)%1000000000):Nat):Int)) (by omega)) (aI (ix (i:Int) (n:Int) o 1 (o+i) (by omega)) (aI hx (aI (dF (p:=(a:Int)<((((p+q)%1000000000):Nat):Int)) (by omega)) (aI (ix (i:Int) (n:Int) o 1 (o+i) (by omega)) (aI hx (aI (wU32 (a:=((a:Int)-((((p+q)%1000000000):Nat):Int))) (r:=(v:Int)) (by omega)) (aI (ix (i:Int) (n:Int) o 1 (o+i) (by omega)) (aI (show (o+i)+1≤(ns .u32 zs).length∧lspl (ns .u32 zs) (o+i) [(nW v)]=(ns .u32 (zs.set (o+i) v)) from (ns_set (by omega))) (aI (wI64 (a:=((i:Int)+(1:Int))) (r:=(((i+1):Nat):Int)) (by omega)) tt))))))))))))))))))
theorem lm_o(xs zs ys:List Nat)(o n c k e t q i:Nat)(j:List Value)(hi:k≤i)(hkn:k<n)(hc:o+n≤zs.length)(ha:zs.getD (o+k) 0<1000000000)(hr:GT ⟨Frame.enter Tryz.prog 194 #[(.slice (some ⟨5,o,none⟩) n c),(sl 6 k e),(nU t)] .normal,[],mkH 7 [(5,(cU xs)),(6,(cU ys))]⟩ (lm_h zs ys o n c k e t q i j)):CT 194 #[(.slice (some ⟨5,o,none⟩) n c),(sl 6 k e),(nU t)] (mkH 7 [(5,(cU xs)),(6,(cU ys))]) (.bool (decide ((((zs.getD (o+k) 0):Nat):Int)≥(q:Int)))) (mkH 7 [(5,(.cells (ns .u32 (zs.set (o+k) 0)) 121 none false)),(6,(cU ys))]):=
 sF (sc:=[(2,.op (.rwB false)),(14,.op (.idx (o+k))),(0,.op (.ld (nW (zs.getD (o+k) 0)))),(0,.op (.rwI (((zs.getD (o+k) 0):Nat):Int))),(8,.op (.idx (o+k))),(0,.op (.st (ns .u32 (zs.set (o+k) 0)))),(7,.stay)]) (next:=7) (l:=[(5,(.cells (ns .u32 (zs.set (o+k) 0)) 121 none false)),(6,(cU ys))]) (by kernel_rfl) (aI (dF (p:=(i:Int)<(k:Int)) (by omega)) (aI (ix (k:Int) (n:Int) o 1 (o+k) (by omega)) (aI (ns_get (k:=.u32) (xs:=zs) (i:=(o+k)) (by omega)) (aI (wU64 (a:=(((zs.getD (o+k) 0):Nat):Int)) (r:=(((zs.getD (o+k) 0):Nat):Int)) (by omega)) (aI (ix (k:Int) (n:Int) o 1 (o+k) (by omega)) (aI (show (o+k)+1≤(ns .u32 zs).length∧lspl (ns .u32 zs) (o+k) [(lW 0)]=(ns .u32 (zs.set (o+k) 0)) from (ns_set (by omega))) tt)))))) hr
theorem lm_all{s0:AS}{ys:List Nat}{o n c k e t R0:Nat}(hly:Lim ys)(hy:k≤ys.length)(hkn:k≤n)(hm:k<1099511627776)(ht:t<1000000000): ∀(m i:Nat) (zs:List Nat) (q:Nat) (j:List Value),m=k-i→i≤k→o+n≤zs.length→Lim zs→q≤1000000000→
  val zs+t*(val (ys.take i)*1000000000^o)=R0+q*1000000000^(o+i)→GT s0 (lm_h zs ys o n c k e t q i j)→
  ∃zs' q' j',zs'.length=zs.length∧Lim zs'∧q'≤1000000000∧(∀l,o+k≤l→zs'.getD l 0=zs.getD l 0)∧val zs'+t*(val (ys.take k)*1000000000^o)=R0+q'*1000000000^(o+k)∧GT s0 (lm_h zs' ys o n c k e t q' k j'):=by
 intro m
 induction m with
 |zero=>
  intro i zs q j hm2 hi hz hl hq hv hr
  have:i=k:=by omega
  subst this
  exact⟨zs,q,j,rfl,hl,hq,fun _ _=>rfl,hv,hr⟩
 |succ m ih=>
  intro i zs q j hm2 hi hz hl hq hv hr
  have ha:=hl.get (o+i)
  have hb:=hly.get i
  have hp2:=mul_fit hb ht
  by_cases hlt:zs.getD (o+i) 0<(ys.getD i 0*t+q)%1000000000
  ·obtain⟨v,hvv⟩: ∃v,v+(ys.getD i 0*t+q)%1000000000=zs.getD (o+i) 0+1000000000:=⟨zs.getD (o+i) 0+1000000000-(ys.getD i 0*t+q)%1000000000,by generalize ys.getD i 0*t=p at*;omega⟩
   have r:=lm_b zs ys o n c k e t q i _ _ v j (by omega) hkn hm hz hy ha (ns_get (by omega)) hb rfl hp2 hq hlt hvv
   have hv':=lose_round (d:=1) (show o+i<zs.length by omega) (by rw[hvv,Nat.one_mul]) hv
   generalize ys.getD i 0*t=p at*
   obtain⟨zs',q',j',h1,h2,h3,h4,h5,h6⟩:=ih (i+1) _ _ _ (by omega) (by omega) (by rw[List.length_set];exact hz) (hl.set (by omega)) (by omega) hv' (hr.trans r)
   refine⟨zs',q',j',by rw[h1,List.length_set],h2,h3,fun l hl'=> ?_,h5,h6⟩
   rw[h4 l hl',getD_set (by omega),if_neg (by omega)]
  ·obtain⟨v,hvv⟩: ∃v,v+(ys.getD i 0*t+q)%1000000000=zs.getD (o+i) 0:=⟨zs.getD (o+i) 0-(ys.getD i 0*t+q)%1000000000,by generalize ys.getD i 0*t=p at*;omega⟩
   have r:=lm_n zs ys o n c k e t q i _ _ v j (by omega) hkn hm hz hy ha (ns_get (by omega)) hb rfl hp2 hq (by omega) hvv
   have hv':=lose_round (d:=0) (show o+i<zs.length by omega) (by rw[hvv,Nat.zero_mul,Nat.add_zero]) hv
   rw[Nat.add_zero]at hv'
   generalize ys.getD i 0*t=p at*
   obtain⟨zs',q',j',h1,h2,h3,h4,h5,h6⟩:=ih (i+1) _ _ _ (by omega) (by omega) (by rw[List.length_set];exact hz) (hl.set (by omega)) (by omega) hv' (hr.trans r)
   refine⟨zs',q',j',by rw[h1,List.length_set],h2,h3,fun l hl'=> ?_,h5,h6⟩
   rw[h4 l hl',getD_set (by omega),if_neg (by omega)]
theorem lm_c(n0 bx byy:Nat)(xs ys:List Nat)(o n c k e t:Nat)(hb:5≤bx∧bx<n0∧5≤byy∧byy<n0∧bx≠byy)(hlx:Lim xs)(hly:Lim ys)(hc:o+n≤xs.length)(hy:k≤ys.length)(hkn:k<n)(hm:k<1099511627776)(ht:t<1000000000):
  ∃zs q,zs.length=xs.length∧Lim zs∧(∀l,o+k<l→zs.getD l 0=xs.getD l 0)∧zs.getD (o+k) 0=0∧val zs+t*(val (ys.take k)*1000000000^o)+xs.getD (o+k) 0*1000000000^(o+k)=val xs+q*1000000000^(o+k)∧
   FT 194 #[.slice (some ⟨bx,o,none⟩) n c,sl byy k e,.int .u64 (t:Nat)] n0 [(bx,cU xs),(byy,cU ys)] (.bool (decide (q≤xs.getD (o+k) 0))) [(bx,some (cU zs)),(byy,some (cU ys))] []:=by
 obtain⟨zs,q,j,h1,h2,h3,h4,h5,h6⟩:=lm_all (R0:=val xs) hly hy (Nat.le_of_lt hkn) hm ht k 0 xs 0 _ rfl (Nat.zero_le _) hc hlx (by omega) (by rw[List.take_zero,show val []=0 from rfl,Nat.zero_mul,Nat.zero_mul,Nat.mul_zero]) (lm_in xs ys o n c k e t)
 have hw:=h4 (o+k) (Nat.le_refl _)
 have S:=lm_o xs zs ys o n c k e t q k j (Nat.le_refl _) hkn (by omega) (h2.get _) h6
 have hd:decide (((zs.getD (o+k) 0:Nat):Int)≥((q:Nat):Int))=decide (q≤xs.getD (o+k) 0):=by
  rw[hw,decide_eq_decide]
  omega
 rw[hd]at S
 refine⟨zs.set (o+k) 0,q,by rw[List.length_set];exact h1,h2.set (by omega),fun l hl=> ?_,?_,?_,fsp_flat [bx,byy] [cU xs,cU ys] [.cells (ns .u32 (zs.set (o+k) 0)) 121 none false,cU ys] [] [] n0 (S) rfl rfl rfl (by simp[hb.2.2.2.2]) (by simp;omega) (by omega) (by simp[flat,ns_closed]) (by simp[flat,ns_closed]) rfl (by simp) (by simp) rfl rfl rfl⟩
 ·rw[getD_set (by omega),if_neg (by omega)]
  exact h4 l (by omega)
 ·rw[getD_set (by omega),if_pos rfl]
 ·have h7:=val_set zs (o+k) 0 (by omega)
  rw[hw]at h7
  omega
noncomputable section
abbrev z_70b_0(o n c:Nat):Value:=.slice (some ⟨5,o,none⟩) n c
end
noncomputable def gu_h_f(xs ys:List Nat)(o n c k e v1 v2 L g lf:Nat)(j:List Value):Frame:=⟨193,List.toArray [(z_70b_0 o n c),(sl 6 (k+2) e),uu,uu,(lU 0),(nI (k+2)),(nU v1),(nU v2),(nU L),(nU g),(nU lf),(J j 0),(J j 1),(J j 2),(J j 3),(J j 4),(J j 5),(J j 6),(J j 7),(J j 8),(J j 9),(J j 10),(J j 11),(J j 12),(J j 13),(J j 14),(J j 15),(J j 16),(J j 17),(J j 18),(J j 19),(J j 20),(J j 21),(J j 22),(J j 23),(J j 24),(J j 25),(J j 26),(J j 27),(J j 28),(J j 29),(J j 30),(J j 31),(J j 32),(J j 33),(J j 34),(J j 35),(J j 36),(J j 37),(J j 38),(J j 39),(J j 40),(J j 41),(J j 42),(J j 43),(J j 44),(J j 45),(J j 46),(J j 47),(J j 48),(J j 49),(J j 50),(J j 51),(J j 52),(J j 53),(J j 54),(J j 55),(J j 56),(J j 57),uu],[.code (cd Tryz.f193 [1,1,1,1,1,1,0,0,0]),.inLoop (cd Tryz.f193 [1,1,1,1,1,1,0,0,0]),.inBlock 0,.code (cd Tryz.f193 [1,1,1,1,1,1,1])],[],.run,.normal,none⟩
noncomputable def gu_h_o(xs ys:List Nat)(o n c k e v1 v2 L g lf:Nat):List (Nat×AObj):=[(5,(cU xs)),(6,(cU ys))]
noncomputable def gu_h(xs ys:List Nat)(o n c k e v1 v2 L g lf:Nat)(j:List Value):AS:=⟨gu_h_f xs ys o n c k e v1 v2 L g lf j,[],mkH 7 (gu_h_o xs ys o n c k e v1 v2 L g lf)⟩
theorem gu_in(xs ys:List Nat)(o n c k e v1 v2 w2 w1 L d0 g p1 lf:Nat)(hn:k+2<n)(hm:k<1099511627776)(hy1:(ns .u32 ys)[k+1]? =some (nW v1))(hy2:(ns .u32 ys)[k]? =some (nW v2))(hx2:(ns .u32 xs)[o+(k+2)]? =some (nW w2))(hx1:(ns .u32 xs)[o+(k+1)]? =some (nW w1))(b1:0<v1∧v1<1000000000)(b2:v2<1000000000)(b3:w2<1000000000)(b4:w1<1000000000)(hL:L=w2*1000000000+w1)(hd0:d0=L/v1)(hd1:d0≤L)(hg:g=min d0 999999999)(hp1:p1=g*v1)(hp2:p1≤L)(hlf:lf+p1=L):GT ⟨Frame.enter Tryz.prog 193 #[(z_70b_0 o n c),(sl 6 (k+2) e)] .normal,[],mkH 7 [(5,(cU xs)),(6,(cU ys))]⟩ (gu_h xs ys o n c k e v1 v2 L g lf [(sl 6 (k+2) e),(nI (k+2)),(sl 6 (k+2) e),(nI (k+2)),(nI (k+1)),(.pointer (some ⟨6,(k+1),none⟩)),(nW v1),(nU v1),(sl 6 (k+2) e),(nI (k+2)),(nI k),(.pointer (some ⟨6,k,none⟩)),(nW v2),(nU v2),(z_70b_0 o n c),(nI (k+2)),(.pointer (some ⟨5,(o+(k+2)),none⟩)),(nW w2),(nU w2),(nU (w2*1000000000)),(z_70b_0 o n c),(nI (k+2)),(nI (k+1)),(.pointer (some ⟨5,(o+(k+1)),none⟩)),(nW w1),(nU w1),(nU L),(nU L),(nU v1),(nU d0),(nU g),(nU L),(nU g),(nU v1),(nU p1),(nU lf),undef,undef,undef,undef,undef,undef,undef,undef,undef,undef,undef,undef,undef,undef,undef,undef,undef,undef,undef,undef,undef,undef]):=
 sR (sc:=[(11,.drw [(2,.rwI (((k+1):Nat):Int)),(3,.idx (k+1)),(4,.ld (nW v1)),(5,.rwI (v1:Int)),(8,.rwI (k:Int)),(9,.idx k),(10,.ld (nW v2)),(11,.rwI (v2:Int))]),(1,.drw [(2,.idx (o+(k+2))),(3,.ld (nW w2)),(4,.rwI (w2:Int)),(5,.rwI (((w2*1000000000):Nat):Int)),(8,.rwI (((k+1):Nat):Int)),(9,.idx (o+(k+1))),(10,.ld (nW w1)),(11,.rwI (w1:Int)),(12,.rwI (L:Int))]),(4,.op (.div (d0:Int))),(0,.op (.rwI (g:Int))),(7,.op (.rwI (p1:Int))),(0,.op (.rwI (lf:Int))),(5,.stay)]) (fr1:=gu_h_f xs ys o n c k e v1 v2 L g lf [(sl 6 (k+2) e),(nI (k+2)),(sl 6 (k+2) e),(nI (k+2)),(nI (k+1)),(.pointer (some ⟨6,(k+1),none⟩)),(nW v1),(nU v1),(sl 6 (k+2) e),(nI (k+2)),(nI k),(.pointer (some ⟨6,k,none⟩)),(nW v2),(nU v2),(z_70b_0 o n c),(nI (k+2)),(.pointer (some ⟨5,(o+(k+2)),none⟩)),(nW w2),(nU w2),(nU (w2*1000000000)),(z_70b_0 o n c),(nI (k+2)),(nI (k+1)),(.pointer (some ⟨5,(o+(k+1)),none⟩)),(nW w1),(nU w1),(nU L),(nU L),(nU v1),(nU d0),(nU g),(nU L),(nU g),(nU v1),(nU p1),(nU lf),uu,uu,uu,uu,uu,uu,uu,uu,uu,uu,uu,uu,uu,uu,uu,uu,uu,uu,uu,uu,uu,uu]) (next:=7) (l:=gu_h_o xs ys o n c k e v1 v2 L g lf) (by kernel_rfl) (aI (aI tt (aI tt (aI (wI64 (a:=((((k+2):Nat):Int)-(1:Int))) (r:=(((k+1):Nat):Int)) (by omega)) (aI (ix (((k+1):Nat):Int) (((k+2):Nat):Int) 0 1 (k+1) (by omega)) (aI hy1 (aI (wU64 (a:=(v1:Int)) (r:=(v1:Int)) (by omega)) (aI tt (aI tt (aI (wI64 (a:=((((k+2):Nat):Int)-(2:Int))) (r:=(k:Int)) (by omega)) (aI (ix (k:Int) (((k+2):Nat):Int) 0 1 k (by omega)) (aI hy2 (aI (wU64 (a:=(v2:Int)) (r:=(v2:Int)) (by omega)) (aI tt (aI tt tt)))))))))))))) (aI (aI tt (aI tt (aI (ix (((k+2):Nat):Int) (n:Int) o 1 (o+(k+2)) (by omega)) (aI hx2 (aI (wU64 (a:=(w2:Int)) (r:=(w2:Int)) (by omega)) (aI (wU64 (a:=((w2:Int)*(1000000000:Int))) (r:=(((w2*1000000000):Nat):Int)) (by omega)) (aI tt (aI tt (aI (wI64 (a:=((((k+2):Nat):Int)-(1:Int))) (r:=(((k+1):Nat):Int)) (by omega)) (aI (ix (((k+1):Nat):Int) (n:Int) o 1 (o+(k+1)) (by omega)) (aI hx1 (aI (wU64 (a:=(w1:Int)) (r:=(w1:Int)) (by omega)) (aI (wU64 (a:=((((w2*1000000000):Nat):Int)+(w1:Int))) (r:=(L:Int)) (by omega)) (aI tt tt)))))))))))))) (aI (show (v1:Int)≠0∧IntKind.wrap .u64 (Int.tdiv (L:Int) (v1:Int))=(d0:Int) from⟨by omega,by rw[Int.tdiv_eq_ediv_of_nonneg (by omega),show ∀a b:Nat,(a:Int)/(b:Int)=((a/b:Nat):Int) from fun _ _=>rfl,←hd0,wrap_u64 (by omega) (by omega)]⟩) (aI (show (if (999999999:Int)<(d0:Int) then (999999999:Int) else (d0:Int))=(g:Int) from (by rw[hg];split<;>omega)) (aI (show IntKind.wrap .u64 ((g:Int)*(v1:Int))=(p1:Int) from (by subst hp1;rw[wrap_u64 (by omega) (by omega)]<;>omega)) (aI (wU64 (a:=((L:Int)-(p1:Int))) (r:=(lf:Int)) (by omega)) tt))))))
theorem gu_r(xs ys:List Nat)(o n c k e v1 v2 L g lf p2 w0:Nat)(j:List Value)(hn:k+2<n)(hm:k<1099511627776)(hx0:(ns .u32 xs)[o+k]? =some (nW w0))(b5:w0<1000000000)(hp:p2=g*v2)(hp2:p2≤999999998000000001)(hlf:lf<1000000000)(hgt:lf*1000000000+w0<p2)(hg0:0<g)(hg9:g<1000000000)(hv1:v1<1000000000):GT (gu_h xs ys o n c k e v1 v2 L g lf j) (gu_h xs ys o n c k e v1 v2 L (g-1) (lf+v1) [(J j 0),(J j 1),(J j 2),(J j 3),(J j 4),(J j 5),(J j 6),(J j 7),(J j 8),(J j 9),(J j 10),(J j 11),(J j 12),(J j 13),(J j 14),(J j 15),(J j 16),(J j 17),(J j 18),(J j 19),(J j 20),(J j 21),(J j 22),(J j 23),(J j 24),(J j 25),(J j 26),(J j 27),(J j 28),(J j 29),(J j 30),(J j 31),(J j 32),(J j 33),(J j 34),(J j 35),(nU lf),bT,bT,(nU g),(nU v2),(nU p2),(nU lf),(nU (lf*1000000000)),(z_70b_0 o n c),(nI (k+2)),(nI k),(.pointer (some ⟨5,(o+k),none⟩)),(nW w0),(nU w0),(nU ((lf*1000000000)+w0)),bT,bT,(nU g),(nU (g-1)),(nU lf),(nU v1),(nU (lf+v1))]):=
 sR (sc:=[(4,.op (.rwB true)),(3,.op (.rwI (p2:Int))),(1,.op (.rwI (((lf*1000000000):Nat):Int))),(2,.op (.rwI (k:Int))),(0,.op (.idx (o+k))),(0,.op (.ld (nW w0))),(0,.op (.rwI (w0:Int))),(0,.op (.rwI ((((lf*1000000000)+w0):Nat):Int))),(0,.op (.rwB true)),(8,.op (.rwI (((g-1):Nat):Int))),(5,.op (.rwI (((lf+v1):Nat):Int))),(4,.stay)]) (fr1:=gu_h_f xs ys o n c k e v1 v2 L (g-1) (lf+v1) [(J j 0),(J j 1),(J j 2),(J j 3),(J j 4),(J j 5),(J j 6),(J j 7),(J j 8),(J j 9),(J j 10),(J j 11),(J j 12),(J j 13),(J j 14),(J j 15),(J j 16),(J j 17),(J j 18),(J j 19),(J j 20),(J j 21),(J j 22),(J j 23),(J j 24),(J j 25),(J j 26),(J j 27),(J j 28),(J j 29),(J j 30),(J j 31),(J j 32),(J j 33),(J j 34),(J j 35),(nU lf),bT,bT,(nU g),(nU v2),(nU p2),(nU lf),(nU (lf*1000000000)),(z_70b_0 o n c),(nI (k+2)),(nI k),(.pointer (some ⟨5,(o+k),none⟩)),(nW w0),(nU w0),(nU ((lf*1000000000)+w0)),bT,bT,(nU g),(nU (g-1)),(nU lf),(nU v1),(nU (lf+v1))]) (next:=7) (l:=gu_h_o xs ys o n c k e v1 v2 L (g-1) (lf+v1)) (by kernel_rfl) (aI (dT (p:=(lf:Int)<(1000000000:Int)) (by omega)) (aI (show IntKind.wrap .u64 ((g:Int)*(v2:Int))=(p2:Int) from (by subst hp;rw[wrap_u64 (by omega) (by omega)]<;>omega)) (aI (wU64 (a:=((lf:Int)*(1000000000:Int))) (r:=(((lf*1000000000):Nat):Int)) (by omega)) (aI (wI64 (a:=((((k+2):Nat):Int)-(2:Int))) (r:=(k:Int)) (by omega)) (aI (ix (k:Int) (n:Int) o 1 (o+k) (by omega)) (aI hx0 (aI (wU64 (a:=(w0:Int)) (r:=(w0:Int)) (by omega)) (aI (wU64 (a:=((((lf*1000000000):Nat):Int)+(w0:Int))) (r:=((((lf*1000000000)+w0):Nat):Int)) (by omega)) (aI (dT (p:=(p2:Int)>((((lf*1000000000)+w0):Nat):Int)) (by omega)) (aI (wU64 (a:=((g:Int)-(1:Int))) (r:=(((g-1):Nat):Int)) (by omega)) (aI (wU64 (a:=((lf:Int)+(v1:Int))) (r:=(((lf+v1):Nat):Int)) (by omega)) tt)))))))))))
theorem gu_o1(xs ys:List Nat)(o n c k e v1 v2 L g lf p2 w0:Nat)(j:List Value)(hn:k+2<n)(hm:k<1099511627776)(hx0:(ns .u32 xs)[o+k]? =some (nW w0))(b5:w0<1000000000)(hp:p2=g*v2)(hp2:p2≤999999998000000001)(hlf:lf<1000000000)(hge:p2≤lf*1000000000+w0)(hr:GT ⟨Frame.enter Tryz.prog 193 #[(z_70b_0 o n c),(sl 6 (k+2) e)] .normal,[],mkH 7 [(5,(cU xs)),(6,(cU ys))]⟩ (gu_h xs ys o n c k e v1 v2 L g lf j)):CT 193 #[(z_70b_0 o n c),(sl 6 (k+2) e)] (mkH 7 [(5,(cU xs)),(6,(cU ys))]) (nU g) (mkH 7 [(5,(cU xs)),(6,(cU ys))]):=
 sF (sc:=[(4,.op (.rwB true)),(3,.op (.rwI (p2:Int))),(1,.op (.rwI (((lf*1000000000):Nat):Int))),(2,.op (.rwI (k:Int))),(0,.op (.idx (o+k))),(0,.op (.ld (nW w0))),(0,.op (.rwI (w0:Int))),(0,.op (.rwI ((((lf*1000000000)+w0):Nat):Int))),(0,.op (.rwB false)),(10,.stay)]) (next:=7) (l:=[(5,(cU xs)),(6,(cU ys))]) (by kernel_rfl) (aI (dT (p:=(lf:Int)<(1000000000:Int)) (by omega)) (aI (show IntKind.wrap .u64 ((g:Int)*(v2:Int))=(p2:Int) from (by subst hp;rw[wrap_u64 (by omega) (by omega)]<;>omega)) (aI (wU64 (a:=((lf:Int)*(1000000000:Int))) (r:=(((lf*1000000000):Nat):Int)) (by omega)) (aI (wI64 (a:=((((k+2):Nat):Int)-(2:Int))) (r:=(k:Int)) (by omega)) (aI (ix (k:Int) (n:Int) o 1 (o+k) (by omega)) (aI hx0 (aI (wU64 (a:=(w0:Int)) (r:=(w0:Int)) (by omega)) (aI (wU64 (a:=((((lf*1000000000):Nat):Int)+(w0:Int))) (r:=((((lf*1000000000)+w0):Nat):Int)) (by omega)) (aI (dF (p:=(p2:Int)>((((lf*1000000000)+w0):Nat):Int)) (by omega)) tt))))))))) hr
theorem gu_o2(xs ys:List Nat)(o n c k e v1 v2 L g lf:Nat)(j:List Value)(hlf:1000000000≤lf)(hr:GT ⟨Frame.enter Tryz.prog 193 #[(z_70b_0 o n c),(sl 6 (k+2) e)] .normal,[],mkH 7 [(5,(cU xs)),(6,(cU ys))]⟩ (gu_h xs ys o n c k e v1 v2 L g lf j)):CT 193 #[(z_70b_0 o n c),(sl 6 (k+2) e)] (mkH 7 [(5,(cU xs)),(6,(cU ys))]) (nU g) (mkH 7 [(5,(cU xs)),(6,(cU ys))]):=
 sF (sc:=[(4,.op (.rwB false)),(24,.stay)]) (next:=7) (l:=[(5,(cU xs)),(6,(cU ys))]) (by kernel_rfl) (aI (dF (p:=(lf:Int)<(1000000000:Int)) (by omega)) tt) hr
theorem gu_all{xs ys:List Nat}{o n c k e v1 v2 L w0:Nat}(hn:k+2<n)(hm:k<1099511627776)(hx0:(ns .u32 xs)[o+k]? =some (nW w0))(b1:0<v1∧v1<1000000000)(b2:v2<1000000000)(b5:w0<1000000000): ∀(g lf:Nat) (j:List Value),g≤1000000000-1→lf+g*v1=L→
  min (1000000000-1) ((L*1000000000+w0)/(v1*1000000000+v2))≤g→GT ⟨Frame.enter Tryz.prog 193 #[(.slice (some ⟨5,o,none⟩) n c),(sl 6 (k+2) e)] .normal,[],mkH 7 [(5,(cU xs)),(6,(cU ys))]⟩ (gu_h xs ys o n c k e v1 v2 L g lf j)→
  CT 193 #[(.slice (some ⟨5,o,none⟩) n c),(sl 6 (k+2) e)] (mkH 7 [(5,(cU xs)),(6,(cU ys))]) (nU (min (1000000000-1) ((L*1000000000+w0)/(v1*1000000000+v2)))) (mkH 7 [(5,(cU xs)),(6,(cU ys))]):=by
 intro g
 induction g with
 |zero=>
  intro lf j hg hl hm2 hr
  have hd:1000000000≤lf∨0*v2≤lf*1000000000+w0:=.inr (by rw[Nat.zero_mul];exact Nat.zero_le _)
  rw[←guess_done hl b1.1 b2 hg hd hm2]
  by_cases h9:1000000000≤lf
  ·exact gu_o2 xs ys o n c k e v1 v2 L 0 lf j h9 hr
  ·exact gu_o1 xs ys o n c k e v1 v2 L 0 lf _ w0 j hn hm hx0 b5 rfl (by rw[Nat.zero_mul];exact Nat.zero_le _) (by omega) (by rw[Nat.zero_mul];exact Nat.zero_le _) hr
 |succ g ih=>
  intro lf j hg hl hm2 hr
  by_cases h9:1000000000≤lf
  ·rw[←guess_done hl b1.1 b2 hg (.inl h9) hm2]
   exact gu_o2 xs ys o n c k e v1 v2 L (g+1) lf j h9 hr
  ·have hp2:(g+1)*v2≤999999998000000001:=mul_fit (show g+1<1000000000 by omega) b2
   by_cases hgt:lf*1000000000+w0<(g+1)*v2
   ·obtain⟨q1,q2,q3⟩:=guess_more hl hgt hm2
    have r:=gu_r xs ys o n c k e v1 v2 L (g+1) lf _ w0 j hn hm hx0 b5 rfl hp2 (by omega) hgt q1 (by omega) b1.2
    rw[Nat.add_sub_cancel]at q2 q3 r
    exact ih _ _ (by omega) q2 q3 (hr.trans r)
   ·rw[←guess_done hl b1.1 b2 hg (.inr (by omega)) hm2]
    exact gu_o1 xs ys o n c k e v1 v2 L (g+1) lf _ w0 j hn hm hx0 b5 rfl hp2 (by omega) (by omega) hr
theorem gu_c(n0 bx byy:Nat)(xs ys:List Nat)(o n c k e:Nat)(hb:5≤bx∧bx<n0∧5≤byy∧byy<n0∧bx≠byy)(hlx:Lim xs)(hly:Lim ys)(hc:o+n≤xs.length)(hy:k+2≤ys.length)(hn:k+2<n)(hm:k<1099511627776)(h1:ys.getD (k+1) 0≠0):
  FT 193 #[.slice (some ⟨bx,o,none⟩) n c,sl byy (k+2) e] n0 [(bx,cU xs),(byy,cU ys)] (.int .u64 (guessN (xs.getD (o+(k+2)) 0) (xs.getD (o+(k+1)) 0) (xs.getD (o+k) 0) (ys.getD (k+1) 0) (ys.getD k 0):Nat)) [(bx,some (cU xs)),(byy,some (cU ys))] []:=by
 have b1:=hly.get (k+1)
 have b2:=hly.get k
 have b3:=hlx.get (o+(k+2))
 have b4:=hlx.get (o+(k+1))
 have b5:=hlx.get (o+k)
 obtain⟨L,hL⟩: ∃L,L=xs.getD (o+(k+2)) 0*1000000000+xs.getD (o+(k+1)) 0:=⟨_,rfl⟩
 have hv1:0<ys.getD (k+1) 0:=by omega
 obtain⟨g,hg⟩: ∃g,g=min (L/ys.getD (k+1) 0) 999999999:=⟨_,rfl⟩
 have hpl:g*ys.getD (k+1) 0≤L:=by
  rw[hg]
  exact Nat.le_trans (Nat.mul_le_mul_right _ (Nat.min_le_left _ _)) (Nat.div_mul_le_self _ _)
 have hgi:min (1000000000-1) ((L*1000000000+xs.getD (o+k) 0)/(ys.getD (k+1) 0*1000000000+ys.getD k 0))≤g:=by
  rw[hg]
  exact guess_init hv1 b5
 have hg9:g≤1000000000-1:=by
  rw[hg]
  exact Nat.min_le_right _ _
 obtain⟨p,hp⟩: ∃p,p=g*ys.getD (k+1) 0:=⟨_,rfl⟩
 rw[←hp]at hpl
 obtain⟨lf,hlf⟩: ∃lf,lf+p=L:=⟨L-p,by omega⟩
 have r:=gu_in xs ys o n c k e _ _ _ _ L _ g p lf hn hm (ns_get (by omega)) (ns_get (by omega)) (ns_get (by omega)) (ns_get (by omega)) ⟨hv1,b1⟩ b2 b3 b4 hL rfl (Nat.div_le_self _ _) hg hp hpl hlf
 rw[hp]at hlf
 have S:=gu_all hn hm (ns_get (by omega)) ⟨hv1,b1⟩ b2 b5 _ _ _ hg9 hlf hgi r
 unfold guessN
 rw[←hL]
 exact fsp_flat [bx,byy] [cU xs,cU ys] [cU xs,cU ys] [] [] n0 S rfl rfl rfl (by simp[hb.2.2.2.2]) (by simp;omega) (by omega) (by simp[flat,ns_closed]) (by simp[flat,ns_closed]) rfl (by simp) (by simp) rfl rfl rfl
theorem copied_o(xs:List Nat)(n c k:Nat)(hc:n≤xs.length)(hk:n≤k)(hm:k<70368744177664):CT 154 #[(sl 5 n c),(nI k)] (mkH 6 [(5,(cU xs))]) (sl 6 k k) (mkH 7 [(5,(cU xs)),(6,(.cells (ns .u32 (xs.take n++List.replicate (k-n) 0)) 121 none false))]):=
 sF (sc:=[(7,.op (.mks k k (ns .u32 (List.replicate k 0)))),(6,.op (.cpy n (ns .u32 (xs.take n++List.replicate (k-n) 0)))),(7,.stay)]) (next:=7) (l:=[(5,(cU xs)),(6,(.cells (ns .u32 (xs.take n++List.replicate (k-n) 0)) 121 none false))]) (by kernel_rfl) (aI (show (0≤(k:Int)∧(k:Int)≤(k:Int)∧((4:Nat):Int)*(k:Int)≤281474976710656∧(k:Int)≤9223372036854775807)∧closedL (ns .u32 (List.replicate k 0))=true∧(madeCells (Value.cells (lW 0)) (Int.toNat (k:Int)*1)).toList=(ns .u32 (List.replicate k 0))∧Int.toNat (k:Int)=k∧Int.toNat (k:Int)=k from (by refine⟨⟨?_,?_,?_,?_⟩,ns_closed _ _,ns_made _ _ _,?_,?_⟩<;>omega)) (aI (show 0+n≤(ns .u32 xs).length∧Nat.min n k=n∧0+n≤(ns .u32 (List.replicate k 0)).length∧(List.take n (List.take n (List.drop 0 (ns .u32 xs)))).all (·.oneCell')=true∧lspl (ns .u32 (List.replicate k 0)) 0 (List.take n (List.take n (List.drop 0 (ns .u32 xs))))=(ns .u32 (xs.take n++List.replicate (k-n) 0)) from (ns_cpy hc hk)) tt)) (Gets.refl _)
theorem copied_c(n0 b:Nat)(xs:List Nat)(n c k:Nat)(hb:5≤b∧b<n0)(hc:n≤xs.length)(hk:n≤k)(hm:k<70368744177664):
  FT 154 #[sl b n c,.int .i64 (k:Nat)] n0 [(b,cU xs)] (sl n0 k k) [(b,some (cU xs))]
   [.cells (ns .u32 (xs.take n++List.replicate (k-n) 0)) 121 none false]:=
 fsp_flat [b] [cU xs] [cU xs] [6] [.cells (ns .u32 (xs.take n++List.replicate (k-n) 0)) 121 none false] n0 (copied_o xs n c k hc hk hm) rfl rfl rfl (by simp) (by simp;omega) (by omega) (by simp[flat,ns_closed]) (by simp[flat,ns_closed]) (by simp[flat,ns_closed,AObj.ro]) (by simp) (by simp) rfl rfl rfl
end Go.Proofs.YtbjpjoodjbmicaaGreatDoor
