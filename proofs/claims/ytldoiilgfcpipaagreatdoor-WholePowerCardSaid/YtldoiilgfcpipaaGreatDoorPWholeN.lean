import Derived.Test.YtldoiilgfcpipaaGreatDoorPTurn
import Derived.Test.YtldoiilgfcpipaaGreatDoorPWf
set_option linter.unusedVariables false
set_option linter.unusedSimpArgs false
set_option maxRecDepth 100000
namespace Go.Proofs.YtldoiilgfcpipaaGreatDoor
open Go Go.AE Seg
noncomputable section
abbrev Lf(ai v0:Nat):AObj:=.cells [nS,(nI (ai+1)),(nU v0)] 62 none false
abbrev Yz(i u:Nat):AObj:=.cells [nS,(nI i),(nU u)] 62 none false
abbrev z_332_1(k i u:Nat):AS:=(Cg 17 #[(pt 5),(nI k)] 6 [(5,(Yz i u))])
abbrev Vx(ai v1:Nat):AObj:=.cells [nS,(nI ((ai+1)+1)),(nU v1)] 62 none false
abbrev Xg(ai au:Nat):AObj:=.cells [nS,(nI ai),(nU au)] 62 none false
abbrev z_332_4(ai v2:Nat):AObj:=.cells [nS,(nI (((ai+1)+1)+1)),(nU v2)] 62 none false
abbrev z_332_5(i v0:Nat):AObj:=.cells [nS,(nI (i+1)),(nU v0)] 62 none false
abbrev z_332_6:List Value:=[undef,undef,undef,undef,undef,undef,undef,undef,undef,undef,undef,undef,undef,undef,undef,undef,undef]
abbrev Xd(st:ByteArray)(e:Nat):Value:=.string (st++(Aa [e]))
end
noncomputable def whn_h_f(ai au k w p:Nat)(st:ByteArray)(jc:List Value)(j:List Value):Frame:=(Fr 17 ([(pt 5),(nI k),uu,uu,(J jc 2),(nI w),(.string st),(nI p),(J j 0),(pt 5),(nI k),(J jc 3)]++(jj j 1 12 ([(J jc 0),(J jc 1)]++(jj j 13 4 (uj 7 []))))) [.code (cd Tryz.f17 [1,1,1,0,1,0,0]),.inLoop (cd Tryz.f17 [1,1,1,0,1,0,0]),.inBlock 0,.code (cd Tryz.f17 [1,1,1,1])])
noncomputable def whn_h_o(ai au k w p:Nat)(st:ByteArray)(jc:List Value):List (Nat×AObj):=[(5,(Xg ai au))]
noncomputable def Xk(ai au k w p:Nat)(st:ByteArray)(jc:List Value)(j:List Value):AS:=⟨whn_h_f ai au k w p st jc j,[],Ag 8 (whn_h_o ai au k w p st jc)⟩
theorem whn_in{s0:AS}(hs0:s0.h.next=6)(i u k:Nat)(hk:k<1099511627776)(v0 r0:Nat)(hr0:r0≤k)(hc2:(FT 47 #[(pt 5),(nI k)] 6 [(5,(Yz i u))] (nI r0) [(5,some (z_332_5 i v0))] []))(hr:GT s0 (z_332_1 k i u)):GT s0 (Xk (i+1) v0 k r0 0 (bts []) ([undef,undef,(.string (bts [])),(nI r0)]) z_332_6):=by
 have h1:=hr.trans (sR (sc:=[(8,.call [5] (nI r0) [(5,some (z_332_5 i v0))] []),(13,.stay)]) (fr1:=(Fr 17 ([(pt 5),(nI k),uu,uu,(.string (bts [])),(nI r0),(.string (bts [])),(lI 0),uu,(pt 5),(nI k),(nI r0)]++(uj 25 [])) [.code (cd Tryz.f17 [1,1,1,0,1,0,0]),.inLoop (cd Tryz.f17 [1,1,1,0,1,0,0]),.inBlock 0,.code (cd Tryz.f17 [1,1,1,1])])) (next:=6) (l:=[(5,(z_332_5 i v0))]) kr (aI hc2 tt))
 exact Ls (b:=6) (k:=0) h1 kr rfl rfl rfl kr (by rw[hs0];decide) (by rw[hs0];decide) de de (by rfl) (by simp only[whn_h_o,List.map_cons,List.map_nil,Dx,Ac _ _ (Az _),Ac _ _ (Ab _ _)];rfl) kr
theorem whn_s{s0:AS}(hs0:s0.h.next=6)(ai au k w p:Nat)(st:ByteArray)(j jc:List Value)(hjc:Cm (Ak 6 2) jc)(hw:w<1099511627776)(hp:p<w)(hs:st.size<1099511627776)(h0:p=0)(v0 r0:Nat)(hr0:r0≤9)(hc2:(FT 47 #[(pt 5),(lI 9)] 8 [(5,(Xg ai au))] (nI r0) [(5,some (Lf ai v0))] []))(v1 r1:Nat)(hr1:r1≤2)(d e:Nat)(hd:([.int .i64 0,.int .i64 9,.int .i64 (r0:Nat)]:List Value)[r1]? =some (nI d))(hd9:d≤9)(hc6:(FT 47 #[(pt 5),(lI 2)] 9 [(5,(Lf ai v0))] (nI r1) [(5,some (Vx ai v1))] []))(v2 r2:Nat)(hr2:r2≤8)(he:e=(1+r2))(hc9:FT 47 #[(pt 5),(lI 8)] 9 [(5,(Vx ai v1))] (nI r2) [(5,some (z_332_4 ai v2))] [])(hr:GT s0 (Xk ai au k w p st jc j)):GT s0 (Xk (((ai+1)+1)+1) v2 k w (p+1) (st++(Aa [e])) ([(pt 5),(nI (1+r2)),(J jc 2),(J jc 3)]) [(nI (1+r2)),(nI p),(nI w),bT,(nI p),(nI (p+1)),(pt 5),(pt 5),(nI r0),(sl 6 3 3),(nI d),(nI p),bT,(.string st),(nI (1+r2)),(.string (Aa [e])),(Xd st e)]):=by
 have h1:=hr.trans (sR (sc:=[(5,.op (.rwB true)),(9,.call [5] (nI r0) [(5,some (Lf ai v0))] []),(13,.call [5] (nI r1) [(5,some (Vx ai v1))] []),(0,.op (.idx r1)),(0,.op (.ld (nI d))),(10,.op (.rwB true)),(16,.call [5] (nI r2) [(5,some (z_332_4 ai v2))] []),(0,.op (.rwI (((1+r2):Nat):Int))),(17,.op (.rwI ((((1+r2)%10):Nat):Int))),(0,.op (.rwI (((48+((1+r2)%10)):Nat):Int))),(0,.op (.rwI (((48+((1+r2)%10)):Nat):Int))),(1,.op (.b2s (Aa [e]))),(4,.op (.cat (st++(Aa [e])))),(5,.op (.rwI (((p+1):Nat):Int))),(3,.stay)]) (fr1:=(Fr 17 ([(pt 5),(nI k),uu,uu,(J jc 2),(nI w),(Xd st e),(nI (p+1)),(nI (1+r2)),(pt 5),(nI k),(J jc 3),(nI p),(nI w),bT,(nI p),(nI (p+1)),(pt 5),(pt 5),(nI r0),(sl 8 3 3),(nI d),(nI p),bT,(pt 5),(nI (1+r2)),(.string st),(nI (1+r2)),(.string (Aa [e])),(Xd st e)]++(uj 7 [])) [.code (cd Tryz.f17 [1,1,1,0,1,0,0]),.inLoop (cd Tryz.f17 [1,1,1,0,1,0,0]),.inBlock 0,.code (cd Tryz.f17 [1,1,1,1])])) (next:=10) (l:=[(5,(z_332_4 ai v2))]) kr (aI (dT (p:=(p:Int)<(w:Int))) (aI hc2 (aI hc6 (aI (ix (r1:Int) ((3:Nat):Int) 0 1 r1) (aI hd (aI (eT (a:=(p:Int)) (b:=(0:Int))) (aI hc9 (aI (Ao (a:=((1:Int)+(r2:Int))) (r:=(((1+r2):Nat):Int))) (aI (show (Int.tmod (((1+r2):Nat):Int) (10:Int))=((((1+r2)%10):Nat):Int) from (by rw[Int.tmod_eq_emod_of_nonneg om]<;>omega)) (aI (Ao (a:=((48:Int)+((((1+r2)%10):Nat):Int))) (r:=(((48+((1+r2)%10)):Nat):Int))) (aI (Zi (a:=(((48+((1+r2)%10)):Nat):Int)) (r:=(((48+((1+r2)%10)):Nat):Int))) (aI (show 0+1≤([(nB (48+((1+r2)%10)))]).length∧(Dm (List.take 1 (List.drop 0 [(nB (48+((1+r2)%10)))]))).map (fun ns=>(⟨(ns.map fun n=>UInt8.ofNat n.toNat).toArray⟩:ByteArray))=some (Aa [e]) from (Gd om)) (aI (show (((st.size+(Aa [e]).size:Nat)):Int)≤9223372036854775807∧st++(Aa [e])=(st++(Aa [e])) from⟨by rw[show (Aa [e]).size=1 from rfl];omega,rfl⟩) (aI (Ao (a:=((p:Int)+(1:Int))) (r:=(((p+1):Nat):Int))) tt)))))))))))))))
 rw[←Aq (Ak 6 2) hjc 2]at h1
 rw[←Aq (Ak 6 2) hjc 3]at h1
 exact Ls (b:=6) (k:=2) h1 kr rfl rfl rfl kr (by rw[hs0];decide) (by rw[hs0];decide) de de (by rfl) (by simp only[whn_h_o,List.map_cons,List.map_nil,Dx,Ac _ _ (Az _),Ac _ _ (Ab _ _)];rfl) kr
theorem whn_r{s0:AS}(hs0:s0.h.next=6)(ai au k w p:Nat)(st:ByteArray)(j jc:List Value)(hjc:Cm (Ak 6 2) jc)(hw:w<1099511627776)(hp:p<w)(hs:st.size<1099511627776)(h0:p≠0)(v0 r0:Nat)(hr0:r0≤9)(hc2:(FT 47 #[(pt 5),(lI 9)] 8 [(5,(Xg ai au))] (nI r0) [(5,some (Lf ai v0))] []))(v1 r1:Nat)(hr1:r1≤2)(d e:Nat)(hd:([.int .i64 0,.int .i64 9,.int .i64 (r0:Nat)]:List Value)[r1]? =some (nI d))(hd9:d≤9)(he:e=d)(hc6:(FT 47 #[(pt 5),(lI 2)] 9 [(5,(Lf ai v0))] (nI r1) [(5,some (Vx ai v1))] []))(hr:GT s0 (Xk ai au k w p st jc j)):GT s0 (Xk ((ai+1)+1) v1 k w (p+1) (st++(Aa [e])) ([(J jc 0),(J jc 1),(J jc 2),(J jc 3)]) [(nI d),(nI p),(nI w),bT,(nI p),(nI (p+1)),(pt 5),(pt 5),(nI r0),(sl 6 3 3),(nI d),(nI p),bF,(.string st),(nI d),(.string (Aa [e])),(Xd st e)]):=by
 have h1:=hr.trans (sR (sc:=[(5,.op (.rwB true)),(9,.call [5] (nI r0) [(5,some (Lf ai v0))] []),(13,.call [5] (nI r1) [(5,some (Vx ai v1))] []),(0,.op (.idx r1)),(0,.op (.ld (nI d))),(10,.op (.rwB false)),(14,.op (.rwI (((d%10):Nat):Int))),(0,.op (.rwI (((48+(d%10)):Nat):Int))),(0,.op (.rwI (((48+(d%10)):Nat):Int))),(1,.op (.b2s (Aa [e]))),(4,.op (.cat (st++(Aa [e])))),(5,.op (.rwI (((p+1):Nat):Int))),(3,.stay)]) (fr1:=(Fr 17 ([(pt 5),(nI k),uu,uu,(J jc 2),(nI w),(Xd st e),(nI (p+1)),(nI d),(pt 5),(nI k),(J jc 3),(nI p),(nI w),bT,(nI p),(nI (p+1)),(pt 5),(pt 5),(nI r0),(sl 8 3 3),(nI d),(nI p),bF,(J jc 0),(J jc 1),(.string st),(nI d),(.string (Aa [e])),(Xd st e)]++(uj 7 [])) [.code (cd Tryz.f17 [1,1,1,0,1,0,0]),.inLoop (cd Tryz.f17 [1,1,1,0,1,0,0]),.inBlock 0,.code (cd Tryz.f17 [1,1,1,1])])) (next:=10) (l:=[(5,(Vx ai v1))]) kr (aI (dT (p:=(p:Int)<(w:Int))) (aI hc2 (aI hc6 (aI (ix (r1:Int) ((3:Nat):Int) 0 1 r1) (aI hd (aI (eF (a:=(p:Int)) (b:=(0:Int))) (aI (show (Int.tmod (d:Int) (10:Int))=(((d%10):Nat):Int) from (by rw[Int.tmod_eq_emod_of_nonneg om]<;>omega)) (aI (Ao (a:=((48:Int)+(((d%10):Nat):Int))) (r:=(((48+(d%10)):Nat):Int))) (aI (Zi (a:=(((48+(d%10)):Nat):Int)) (r:=(((48+(d%10)):Nat):Int))) (aI (show 0+1≤([(nB (48+(d%10)))]).length∧(Dm (List.take 1 (List.drop 0 [(nB (48+(d%10)))]))).map (fun ns=>(⟨(ns.map fun n=>UInt8.ofNat n.toNat).toArray⟩:ByteArray))=some (Aa [e]) from (Gd om)) (aI (show (((st.size+(Aa [e]).size:Nat)):Int)≤9223372036854775807∧st++(Aa [e])=(st++(Aa [e])) from⟨by rw[show (Aa [e]).size=1 from rfl];omega,rfl⟩) (aI (Ao (a:=((p:Int)+(1:Int))) (r:=(((p+1):Nat):Int))) tt)))))))))))))
 rw[←Aq (Ak 6 2) hjc 0]at h1
 rw[←Aq (Ak 6 2) hjc 1]at h1
 rw[←Aq (Ak 6 2) hjc 2]at h1
 rw[←Aq (Ak 6 2) hjc 3]at h1
 exact Ls (b:=6) (k:=2) h1 kr rfl rfl rfl kr (by rw[hs0];decide) (by rw[hs0];decide) de de (by rfl) (by simp only[whn_h_o,List.map_cons,List.map_nil,Dx,Ac _ _ (Az _),Ac _ _ (Ab _ _)];rfl) kr
theorem whn_oe(i u ai au k w p:Nat)(st:ByteArray)(j jc:List Value)(hp:w≤p)(hs:st.size<1099511627776)(h0:(st.toList==(Seg.bts []).toList)=true)(hr:GT (z_332_1 k i u) (Xk ai au k w p st jc j)):CT 17 #[(pt 5),(nI k)] (Ag 6 [(5,(Yz i u))]) (.string (bts [48])) (Ag 8 [(5,(Xg ai au))]):=
 sF (sc:=[(5,.op (.rwB false)),(7,.op (.rwB true)),(7,.stay)]) kr (aI (dF (p:=(p:Int)<(w:Int))) (aI h0 tt)) hr
theorem whn_om(i u ai au k w p:Nat)(st:ByteArray)(j jc:List Value)(hp:w≤p)(hs:st.size<1099511627776)(h0:(st.toList==(Seg.bts []).toList)=false)(v0 r0:Nat)(hr0:r0≤2)(hz:r0=0)(hc3:(FT 47 #[(pt 5),(lI 2)] 8 [(5,(Xg ai au))] (nI r0) [(5,some (Lf ai v0))] []))(hr:GT (z_332_1 k i u) (Xk ai au k w p st jc j)):CT 17 #[(pt 5),(nI k)] (Ag 6 [(5,(Yz i u))]) (.string ((bts [45])++st)) (Ag 8 [(5,(Lf ai v0))]):=
 sF (sc:=[(5,.op (.rwB false)),(7,.op (.rwB false)),(17,.call [5] (nI r0) [(5,some (Lf ai v0))] []),(0,.op (.rwB true)),(9,.op (.cat ((bts [45])++st))),(3,.stay)]) kr (aI (dF (p:=(p:Int)<(w:Int))) (aI h0 (aI hc3 (aI (eT (a:=(r0:Int)) (b:=(0:Int))) (aI (show ((((bts [45]).size+st.size:Nat)):Int)≤9223372036854775807∧(bts [45])++st=((bts [45])++st) from⟨by rw[show (Seg.bts [45]).size=1 from rfl];omega,rfl⟩) tt))))) hr
theorem whn_on(i u ai au k w p:Nat)(st:ByteArray)(j jc:List Value)(hp:w≤p)(hs:st.size<1099511627776)(h0:(st.toList==(Seg.bts []).toList)=false)(v0 r0:Nat)(hr0:r0≤2)(hz:r0≠0)(hc3:(FT 47 #[(pt 5),(lI 2)] 8 [(5,(Xg ai au))] (nI r0) [(5,some (Lf ai v0))] []))(hr:GT (z_332_1 k i u) (Xk ai au k w p st jc j)):CT 17 #[(pt 5),(nI k)] (Ag 6 [(5,(Yz i u))]) (.string st) (Ag 8 [(5,(Lf ai v0))]):=
 sF (sc:=[(5,.op (.rwB false)),(7,.op (.rwB false)),(17,.call [5] (nI r0) [(5,some (Lf ai v0))] []),(0,.op (.rwB false)),(13,.stay)]) kr (aI (dF (p:=(p:Int)<(w:Int))) (aI h0 (aI hc3 (aI (eF (a:=(r0:Int)) (b:=(0:Int))) tt)))) hr
theorem whn_loop{k w i0:Nat}{s0:AS}(hs0:s0.h.next=6)(hi0:i0<4611686018427387904)(hw:w<1099511627776): ∀(m p i u:Nat) (ds:List Nat) (j jc:List Value),m=w-p→p≤w→ds.length=p→Dig ds→(0<p→ds.getD 0 0≠0)→i≤i0+1+3*p→Cm (Ak 6 2) jc→
  GT s0 (Xk i u k w p (Aa ds) jc j)→ ∃i' u' ds' j' jc',i'≤i0+1+3*w∧ds'.length=w∧Dig ds'∧(0<w→ds'.getD 0 0≠0)∧GT s0 (Xk i' u' k w w (Aa ds') jc' j'):=by
 intro m
 induction m with
 |zero=>
  intro p i u ds j jc hm hp hl hd h0 hi hj hr
  have:p=w:=by omega
  subst this
  exact⟨i,u,ds,j,jc,hi,hl,hd,h0,hr⟩
 |succ m ih=>
  intro p i u ds j jc hm hp hl hd h0 hi hj hr
  obtain⟨v0,r0,hr0,T0⟩:=upn_c 8 5 i u 9 om om om
  obtain⟨v1,r1,hr1,T1⟩:=upn_c 9 5 (i+1) v0 2 om om om
  obtain⟨d,hd9,hdd⟩: ∃d:Nat,d≤9∧([.int .i64 0,.int .i64 9,.int .i64 (r0:Nat)]:List Value)[r1]? =some (nI d):=by
   have:r1=0∨r1=1∨r1=2:=by omega
   rcases this with rfl|rfl|rfl
   ·exact⟨0,by omega,rfl⟩
   ·exact⟨9,by omega,rfl⟩
   ·exact⟨r0,hr0,rfl⟩
  have hsz:(Aa ds).size<1099511627776:=by rw[Af];omega
  by_cases hp0:p=0
  ·obtain⟨v2,r2,hr2,T2⟩:=upn_c 9 5 (i+1+1) v1 8 om om om
   have r:=whn_s hs0 i u k w p (Aa ds) j jc hj hw om hsz hp0 v0 r0 hr0 T0 v1 r1 hr1 d (1+r2) hdd hd9 T1 v2 r2 hr2 rfl T2 hr
   rw[Tm]at r
   refine ih (p+1) _ _ _ _ _ om om (by rw[List.length_append,hl];rfl) (Yt hd om) (fun _=> ?_) om (by simp[Cm,Ro,Aq _ hj,mv,mvA,Eo,Ak,undef]) r
   have:ds=[]:=List.length_eq_zero_iff.1 om
   rw[this]
   show 1+r2≠0
   omega
  ·have r:=whn_r hs0 i u k w p (Aa ds) j jc hj hw om hsz hp0 v0 r0 hr0 T0 v1 r1 hr1 d d hdd hd9 rfl T1 hr
   rw[Tm]at r
   exact ih (p+1) _ _ _ _ _ om om (by rw[List.length_append,hl];rfl) (Yt hd om) (fun _=>head_snoc (h0 om)) om (by simp[Cm,Ro,Aq _ hj,mv,mvA,Eo,Ak,undef]) r
theorem wholen_c(n0 b:Nat)(i u k:Nat)(hb:5≤b∧b<n0)(hi:i<4611686018427387904)(hk:k<1099511627776)(hk0:0<k):
  ∃(z:Int) (i' u':Nat),(Ae z.natAbs).length≤k∧i'≤i+2+3*k∧FT 17 #[pt b,.int .i64 ((k:Nat):Int)] n0 [(b,.cells [.slice none 0 0,.int .i64 ((i:Nat):Int),.int .u64 ((u:Nat):Int)] 62 none false)] (.string (Ad z)) [(b,some (.cells [.slice none 0 0,.int .i64 ((i':Nat):Int),.int .u64 ((u':Nat):Int)] 62 none false))] []:=by
 obtain⟨v,w,hw,T⟩:=upn_c 6 5 i u k om om hk
 have r0:=whn_in (s0:=(Cg 17 #[(pt 5),(nI k)] 6 [(5,(.cells [nS,(nI i),(nU u)] 62 none false))])) rfl i u k hk v w hw T (Gets.refl _)
 obtain⟨i',u',ds,j',jc',h1,h2,h3,h4,h5⟩:=whn_loop rfl hi om w 0 _ _ [] _ _ rfl (Nat.zero_le _) rfl (fun x hx=>by cases hx) (fun h=>absurd h de) om (by simp[Cm,Ro,mv,mvA,Eo,Ak,undef]) r0
 have hsz:(Aa ds).size<1099511627776:=by rw[Af];omega
 rcases Nat.eq_zero_or_pos w with hw0|hw0
 ·have hds:ds=[]:=List.length_eq_zero_iff.1 om
  subst hds
  have S:=whn_oe i u i' u' k w w (Aa []) j' jc' (Nat.le_refl _) hsz (by rw[ByteArray.toList_eq,ByteArray.toList_eq];rfl) h5
  refine⟨0,i',u',by rw[show (0:Int).natAbs=0 from rfl,Gi];exact hk0,by omega,?_⟩
  rw[show Ad 0=Seg.bts [48] by rw[show (0:Int)=((0:Nat):Int) from rfl,Df,Gi];rfl]
  exact ff [b] [.cells [.slice none 0 0,.int .i64 ((i:Nat):Int),.int .u64 ((u:Nat):Int)] 62 none false] [.cells [.slice none 0 0,.int .i64 ((i':Nat):Int),.int .u64 ((u':Nat):Int)] 62 none false] [] [] n0 (S) (fo:=by simp[Bb,Au,Am]) (fp:=by simp[Bb,Au,Am])
 ·have hne:((Aa ds).toList==(Seg.bts []).toList)=false:=by
   rw[ByteArray.toList_eq,ByteArray.toList_eq]
   cases ds with
   |nil=>rw[List.length_nil]at h2;omega
   |cons d ds=>rfl
  obtain⟨hdv,hpos⟩:=Xa (w-1) ds om h3 (h4 hw0)
  obtain⟨v2,r2,hr2,T2⟩:=upn_c 8 5 i' u' 2 om om om
  by_cases hz:r2=0
  ·have S:=whn_om i u i' u' k w w (Aa ds) j' jc' (Nat.le_refl _) hsz hne v2 r2 hr2 hz T2 h5
   refine⟨-(Bh ds:Int),i'+1,v2,by rw[Int.natAbs_neg,Int.natAbs_natCast,hdv];omega,by omega,?_⟩
   rw[Hp hpos,hdv,←Tc]
   exact ff [b] [.cells [.slice none 0 0,.int .i64 ((i:Nat):Int),.int .u64 ((u:Nat):Int)] 62 none false] [.cells [.slice none 0 0,.int .i64 ((i'+1:Nat):Int),.int .u64 ((v2:Nat):Int)] 62 none false] [] [] n0 (S) (fo:=by simp[Bb,Au,Am]) (fp:=by simp[Bb,Au,Am])
  ·have S:=whn_on i u i' u' k w w (Aa ds) j' jc' (Nat.le_refl _) hsz hne v2 r2 hr2 hz T2 h5
   refine⟨(Bh ds:Int),i'+1,v2,by rw[Int.natAbs_natCast,hdv];omega,by omega,?_⟩
   rw[Df,hdv]
   exact ff [b] [.cells [.slice none 0 0,.int .i64 ((i:Nat):Int),.int .u64 ((u:Nat):Int)] 62 none false] [.cells [.slice none 0 0,.int .i64 ((i'+1:Nat):Int),.int .u64 ((v2:Nat):Int)] 62 none false] [] [] n0 (S) (fo:=by simp[Bb,Au,Am]) (fp:=by simp[Bb,Au,Am])
noncomputable section
abbrev z_d20_0(n e:Nat)(sr:ByteArray):Array Value:= #[(nI n),uu,(.string (sr++(Aa [e]))),(nI n),bF,uu,uu,uu,uu,(nI n),bF,uu,uu,uu,uu,uu,(nI n),(nI (n/10)),(.string sr),(nI n),(nI (n%10)),(nI (48+(n%10))),(nB (48+(n%10))),(sl 5 1 1),(.string (Aa [e])),(.string (sr++(Aa [e])))]
end
theorem dec_eq{n:Nat}(h: ¬n<10):Aa (Ae (n/10))++Aa [n%10]=Aa (Ae n):=by rw[Tm,←Cc h]
theorem de_s(n:Nat)(hn:n<1000000000000000001)(h:n<10)(e:Nat)(he:e=n):CT 30 #[(nI n)] (Ag 5 []) (.string (Aa [e])) (Ag 6 []):=
 sF (sc:=[(8,.op (.rwB false)),(7,.op (.rwB true)),(13,.op (.rwI (((n%10):Nat):Int))),(0,.op (.rwI (((48+(n%10)):Nat):Int))),(0,.op (.rwI (((48+(n%10)):Nat):Int))),(1,.op (.b2s (Aa [e]))),(7,.stay)]) kr (aI (dF (p:=(n:Int)<(0:Int))) (aI (dT (p:=(n:Int)<(10:Int))) (aI (show (Int.tmod (n:Int) (10:Int))=(((n%10):Nat):Int) from (by rw[Int.tmod_eq_emod_of_nonneg om]<;>omega)) (aI (Ao (a:=((48:Int)+(((n%10):Nat):Int))) (r:=(((48+(n%10)):Nat):Int))) (aI (Zi (a:=(((48+(n%10)):Nat):Int)) (r:=(((48+(n%10)):Nat):Int))) (aI (show 0+1≤([(nB (48+(n%10)))]).length∧(Dm (List.take 1 (List.drop 0 [(nB (48+(n%10)))]))).map (fun ns=>(⟨(ns.map fun n=>UInt8.ofNat n.toNat).toArray⟩:ByteArray))=some (Aa [e]) from (Gd om)) tt)))))) (Gets.refl _)
theorem de_r(n:Nat)(hn:n<1000000000000000001)(h: ¬n<10)(e:Nat)(he:e=n%10)(sr:ByteArray)(hsz:sr.size<1099511627776)(hrec: ∀n0,5≤n0→FT 30 #[(nI (n/10))] n0 [] (.string sr) [] []):CT 30 #[(nI n)] (Ag 5 []) (.string (sr++(Aa [e]))) (Ag 6 []):=
 sF (sc:=[(8,.op (.rwB false)),(7,.op (.rwB false)),(6,.op (.rwI (((n/10):Nat):Int))),(0,.call [] (.string sr) [] []),(1,.op (.rwI (((n%10):Nat):Int))),(8,.op (.rwI ((((n%10)%10):Nat):Int))),(0,.op (.rwI (((48+((n%10)%10)):Nat):Int))),(0,.op (.rwI (((48+((n%10)%10)):Nat):Int))),(1,.op (.b2s (Aa [e]))),(4,.op (.cat (sr++(Aa [e])))),(3,.stay)]) kr (aI (dF (p:=(n:Int)<(0:Int))) (aI (dF (p:=(n:Int)<(10:Int))) (aI (show IntKind.wrap .i64 (Int.tdiv (n:Int) (10:Int))=(((n/10):Nat):Int) from (by rw[Int.tdiv_eq_ediv_of_nonneg om,Bw om om]<;>omega)) (aI (hrec 5 om) (aI (show (Int.tmod (n:Int) (10:Int))=(((n%10):Nat):Int) from (by rw[Int.tmod_eq_emod_of_nonneg om]<;>omega)) (aI (show (Int.tmod (((n%10):Nat):Int) (10:Int))=((((n%10)%10):Nat):Int) from (by rw[Int.tmod_eq_emod_of_nonneg om]<;>omega)) (aI (Ao (a:=((48:Int)+((((n%10)%10):Nat):Int))) (r:=(((48+((n%10)%10)):Nat):Int))) (aI (Zi (a:=(((48+((n%10)%10)):Nat):Int)) (r:=(((48+((n%10)%10)):Nat):Int))) (aI (show 0+1≤([(nB (48+((n%10)%10)))]).length∧(Dm (List.take 1 (List.drop 0 [(nB (48+((n%10)%10)))]))).map (fun ns=>(⟨(ns.map fun n=>UInt8.ofNat n.toNat).toArray⟩:ByteArray))=some (Aa [e]) from (Gd om)) (aI (show (((sr.size+(Aa [e]).size:Nat)):Int)≤9223372036854775807∧sr++(Aa [e])=(sr++(Aa [e])) from⟨by rw[show (Aa [e]).size=1 from rfl];omega,rfl⟩) tt)))))))))) (Gets.refl _)
theorem de_c: ∀(n n0:Nat),5≤n0→n<1000000000000000001→FT 30 #[.int .i64 ((n:Nat):Int)] n0 [] (.string (Ad (n:Int))) [] []:=by
 intro n
 induction n using Nat.strongRecOn with
 |_ n ih=>
  intro n0 hG hn
  rw[Df]
  by_cases h:n<10
  ·rw[Ch h]
   exact Lv n0 (de_s n hn h n rfl) hG
  ·have hr: ∀n0,5≤n0→FT 30 #[(nI (n/10))] n0 [] (.string (Aa (Ae (n/10)))) [] []:=fun n0 hG=>by
    have:=ih (n/10) om n0 hG om
    rw[Df]at this
    exact this
   have hsz:(Aa (Ae (n/10))).size<1099511627776:=by
    rw[Af]
    have h1:Gr (n/10)≤18:=Es 18 _ om
    have:=Ej h1 de
    omega
   rw[←dec_eq h]
   exact Lv n0 (de_r n hn h _ rfl _ hsz hr) hG
theorem oi_s(n:Nat)(hn:n<1000000000000000001)(h:n<10)(e:Nat)(he:e=n):CT 75 #[(nI n)] (Ag 5 []) (.string (Aa [e])) (Ag 6 []):=
 sF (sc:=[(8,.op (.rwB false)),(7,.op (.rwB true)),(5,.op (.rwI (((48+n):Nat):Int))),(0,.op (.rwI (((48+n):Nat):Int))),(1,.op (.b2s (Aa [e]))),(3,.stay)]) kr (aI (dF (p:=(n:Int)<(0:Int))) (aI (dT (p:=(n:Int)<(10:Int))) (aI (Ao (a:=((48:Int)+(n:Int))) (r:=(((48+n):Nat):Int))) (aI (Zi (a:=(((48+n):Nat):Int)) (r:=(((48+n):Nat):Int))) (aI (show 0+1≤([(nB (48+n))]).length∧(Dm (List.take 1 (List.drop 0 [(nB (48+n))]))).map (fun ns=>(⟨(ns.map fun n=>UInt8.ofNat n.toNat).toArray⟩:ByteArray))=some (Aa [e]) from (Gd om)) tt))))) (Gets.refl _)
theorem oi_r(n:Nat)(hn:n<1000000000000000001)(h: ¬n<10)(e:Nat)(he:e=n%10)(sr:ByteArray)(hsz:sr.size<1099511627776)(hrec: ∀n0,5≤n0→FT 75 #[(nI (n/10))] n0 [] (.string sr) [] []):CT 75 #[(nI n)] (Ag 5 []) (.string (sr++(Aa [e]))) (Ag 6 []):=
 sF (sc:=[(8,.op (.rwB false)),(7,.op (.rwB false)),(4,.drwB [(1,.rwI (((n/10):Nat):Int)),(4,.rwI (((n%10):Nat):Int)),(5,.rwI (((48+(n%10)):Nat):Int)),(6,.rwI (((48+(n%10)):Nat):Int)),(8,.b2s (Aa [e])),(9,.cat (sr++(Aa [e])))] [⟨2,[],(.string sr),[],[]⟩] ⟨(z_d20_0 n e sr),6,[(5,(.cells [(nB (48+(n%10)))] 5 none false))]⟩),(1,.stay)]) kr (aI (dF (p:=(n:Int)<(0:Int))) (aI (dF (p:=(n:Int)<(10:Int))) (aI (show True∧((IntKind.wrap .i64 (Int.tdiv (n:Int) (10:Int))=(((n/10):Nat):Int))∧(True∧(((Int.tmod (n:Int) (10:Int))=(((n%10):Nat):Int))∧((IntKind.wrap .i64 ((48:Int)+(((n%10):Nat):Int))=(((48+(n%10)):Nat):Int))∧((IntKind.wrap .u8 (((48+(n%10)):Nat):Int)=(((48+(n%10)):Nat):Int))∧(((FT 75 #[(nI (n/10))] 5 [] (.string sr) [] [])∧(True)∧(((True)∧(True)∧(((0+1≤([(nB (48+(n%10)))]).length∧(Dm (List.take 1 (List.drop 0 [(nB (48+(n%10)))]))).map (fun ns=>(⟨(ns.map fun n=>UInt8.ofNat n.toNat).toArray⟩:ByteArray))=some (Aa [e]))∧(True)∧(((((sr.size+(Aa [e]).size:Nat)):Int)≤9223372036854775807∧sr++(Aa [e])=(sr++(Aa [e])))∧(True∧(Hd ⟨(z_d20_0 n e sr),6,[(5,(.cells [(nB (48+(n%10)))] 5 none false))]⟩))))∧(True)))∧(True)))∧(((True)∧(True)∧(((FT 75 #[(nI (n/10))] 6 [] (.string sr) [] [])∧(True)∧(((0+1≤([(nB (48+(n%10)))]).length∧(Dm (List.take 1 (List.drop 0 [(nB (48+(n%10)))]))).map (fun ns=>(⟨(ns.map fun n=>UInt8.ofNat n.toNat).toArray⟩:ByteArray))=some (Aa [e]))∧(True)∧(((((sr.size+(Aa [e]).size:Nat)):Int)≤9223372036854775807∧sr++(Aa [e])=(sr++(Aa [e])))∧(True∧(Hd ⟨(z_d20_0 n e sr),6,[(5,(.cells [(nB (48+(n%10)))] 5 none false))]⟩))))∧(True)))∧(((0+1≤([(nB (48+(n%10)))]).length∧(Dm (List.take 1 (List.drop 0 [(nB (48+(n%10)))]))).map (fun ns=>(⟨(ns.map fun n=>UInt8.ofNat n.toNat).toArray⟩:ByteArray))=some (Aa [e]))∧(True)∧(((FT 75 #[(nI (n/10))] 6 [] (.string sr) [] [])∧(True)∧(((((sr.size+(Aa [e]).size:Nat)):Int)≤9223372036854775807∧sr++(Aa [e])=(sr++(Aa [e])))∧(True∧(Hd ⟨(z_d20_0 n e sr),6,[(5,(.cells [(nB (48+(n%10)))] 5 none false))]⟩))))∧(True)))∧(True))))∧(True)))))))) from⟨tt,⟨(by rw[Int.tdiv_eq_ediv_of_nonneg om,Bw om om]<;>omega),⟨tt,⟨(by rw[Int.tmod_eq_emod_of_nonneg om]<;>omega),⟨(Ao),⟨(Zi),⟨⟨(hrec 5 om),tt,⟨⟨tt,tt,⟨⟨(Gd om),tt,⟨⟨by rw[show (Aa [e]).size=1 from rfl];omega,rfl⟩,⟨tt,rfl⟩⟩⟩,tt⟩⟩,tt⟩⟩,⟨⟨tt,tt,⟨⟨(hrec 6 om),tt,⟨⟨(Gd om),tt,⟨⟨by rw[show (Aa [e]).size=1 from rfl];omega,rfl⟩,⟨tt,rfl⟩⟩⟩,tt⟩⟩,⟨⟨(Gd om),tt,⟨⟨(hrec 6 om),tt,⟨⟨by rw[show (Aa [e]).size=1 from rfl];omega,rfl⟩,⟨tt,rfl⟩⟩⟩,tt⟩⟩,tt⟩⟩⟩,tt⟩⟩⟩⟩⟩⟩⟩⟩) tt))) (Gets.refl _)
theorem oi_c: ∀(n n0:Nat),5≤n0→n<1000000000000000001→FT 75 #[.int .i64 ((n:Nat):Int)] n0 [] (.string (Ad (n:Int))) [] []:=by
 intro n
 induction n using Nat.strongRecOn with
 |_ n ih=>
  intro n0 hG hn
  rw[Df]
  by_cases h:n<10
  ·rw[Ch h]
   exact Lv n0 (oi_s n hn h n rfl) hG
  ·have hr: ∀n0,5≤n0→FT 75 #[(nI (n/10))] n0 [] (.string (Aa (Ae (n/10)))) [] []:=fun n0 hG=>by
    have:=ih (n/10) om n0 hG om
    rw[Df]at this
    exact this
   have hsz:(Aa (Ae (n/10))).size<1099511627776:=by
    rw[Af]
    have h1:Gr (n/10)≤18:=Es 18 _ om
    have:=Ej h1 de
    omega
   rw[←dec_eq h]
   exact Lv n0 (oi_r n hn h _ rfl _ hsz hr) hG
theorem oi_m(n:Nat)(h0:0<n)(hn:n<1000000000000000001)(ds:List Nat)(hsz:(Aa ds).size<1099511627776)(hrec: ∀n0,5≤n0→FT 75 #[.int .i64 (n:Int)] n0 [] (.string (Aa ds)) [] []):CT 75 #[(.int .i64 (-(n:Int)))] (Ag 5 []) (.string ((bts [45])++(Aa ds))) (Ag 5 []):=
 sF (sc:=[(8,.op (.rwB true)),(5,.op (.rwI (n:Int))),(0,.call [] (.string (Aa ds)) [] []),(0,.op (.cat ((bts [45])++(Aa ds)))),(3,.stay)]) kr (aI (dT (p:=(-(n:Int))<(0:Int))) (aI (Ao (a:=((0:Int)-(-(n:Int)))) (r:=(n:Int))) (aI (hrec 5 om) (aI (show ((((bts [45]).size+(Aa ds).size:Nat)):Int)≤9223372036854775807∧(bts [45])++(Aa ds)=((bts [45])++(Aa ds)) from⟨by rw[show (Seg.bts [45]).size=1 from rfl];omega,rfl⟩) tt)))) (Gets.refl _)
theorem oi_i(z:Int)(n0:Nat)(hG:5≤n0)(hz:z.natAbs<1000000000000000001):FT 75 #[.int .i64 z] n0 [] (.string (Ad z)) [] []:=by
 rcases Gz z with⟨m,rfl,hm⟩|⟨m,h0,rfl,hm⟩
 ·exact oi_c m n0 hG om
 ·have hr: ∀n0,5≤n0→FT 75 #[.int .i64 ((m:Nat):Int)] n0 [] (.string (Aa (Ae m))) [] []:=fun n0 hG=>by
   have:=oi_c m n0 hG om
   rw[Df]at this
   exact this
  have hsz:(Aa (Ae m)).size<1099511627776:=by
   rw[Af]
   have h1:Gr m≤19:=Es 19 _ om
   have:=Ej h1 de
   omega
  rw[Hp h0,←Tc]
  exact Lv n0 (oi_m m h0 om _ hsz hr) hG
noncomputable section
abbrev Yr(d:Nat):Value:=nB ((UInt8.ofNat (48+d)).toNat)
abbrev z_cb0_1(ds:List Nat):List Value:=[bF,(.string (Aa ds)),(nI ((Aa ds).size)),(.string (Aa ds)),(nI ((Aa ds).size)),undef,undef,undef,undef,undef,undef,undef,undef,undef,undef,undef,undef,undef,undef,undef,undef]
abbrev z_cb0_3(ds:List Nat):AS:=(Cg 143 #[(.string (Aa ds))] 5 [])
end
theorem mstr_get0(ds:List Nat):(By ds)[0]? =some (UInt8.ofNat 45):=by
 have h:0<(By ds).size:=by rw[mstr_len];omega
 rw[getElem?_pos (By ds) 0 h]
 rfl
theorem byte_no45{d:Nat}(h:d<10):((((UInt8.ofNat (48+d)).toNat:Nat):Int)==(45:Int))=false:=by
 rw[Rh h,beq_eq_false_iff_ne];omega
theorem byte_45:((((UInt8.ofNat 45).toNat:Nat):Int)==(45:Int))=true:=by decide
theorem byte_ge{d:Nat}(h:d<10):decide ((((UInt8.ofNat (48+d)).toNat:Nat):Int)<(48:Int))=false:=by
 rw[Rh h,decide_eq_false_iff_not];omega
theorem byte_le{d:Nat}(h:d<10):decide ((((UInt8.ofNat (48+d)).toNat:Nat):Int)>(57:Int))=false:=by
 rw[Rh h,decide_eq_false_iff_not];omega
theorem Yi{d:Nat}(h:d<10):IntKind.wrap .u8 ((((UInt8.ofNat (48+d)).toNat:Nat):Int)-(48:Int))=((d:Nat):Int):=by
 rw[Rh h]
 simp[IntKind.wrap,IntKind.signed,IntKind.bits]
 omega
theorem at_ne{a b:List UInt8}(i:Nat)(h:a[i]? ≠b[i]?):(!(a==b))=true:=by
 rw[Bool.not_eq_true',beq_eq_false_iff_ne]
 intro q
 exact h (by rw[q])
theorem byte_inj{d k:Nat}(h:d<10)(hk:k<256)(hne:48+d≠k):UInt8.ofNat (48+d)≠UInt8.ofNat k:=by
 intro q
 have:=congrArg UInt8.toNat q
 rw[Rh h,UInt8.toNat_ofNat']at this
 omega
theorem dstr_ne_m0{ds:List Nat}(hd:Dig ds)(h0:0<ds.length):(!((Aa ds).toList==(Seg.bts [45,48]).toList))=true:=by
 rw[ByteArray.toList_eq,ByteArray.toList_eq]
 cases ds with
 |nil=>simp at h0
 |cons d ds=>
  refine at_ne 0 fun q=> ?_
  have q:some (UInt8.ofNat (48+d))=some (UInt8.ofNat 45):=q
  injection q with q
  exact byte_inj (hd d (List.mem_cons_self ..)) de om q
theorem mstr_ne_m0{ds:List Nat}(hd:Dig ds)(h0:0<ds.length)(h1:ds.getD 0 0≠0):(!((By ds).toList==(Seg.bts [45,48]).toList))=true:=by
 rw[ByteArray.toList_eq,ByteArray.toList_eq]
 cases ds with
 |nil=>simp at h0
 |cons d ds=>
  have h1':d≠0:=h1
  refine at_ne 1 fun q=> ?_
  have q:some (UInt8.ofNat (48+d))=some (UInt8.ofNat 48):=q
  injection q with q
  exact byte_inj (hd d (List.mem_cons_self ..)) de om q
theorem ne_p(ds:List Nat)(d:Nat)(hd:d<10)(h0:0<(Aa ds).size)(hx:(Aa ds)[0]? =some (UInt8.ofNat (48+d))):CT 44 #[(.string (Aa ds))] (Ag 5 []) bF (Ag 5 []):=
 sF (sc:=[(8,.op (.rwB true)),(2,.op (.sidx (UInt8.ofNat (48+d)))),(0,.op (.rwB false)),(4,.stay)]) kr (aI (dT (p:=(((Aa ds).size:Nat):Int)>(0:Int))) (aI (show 0≤(0:Int)∧(Aa ds)[Int.toNat (0:Int)]? =some (UInt8.ofNat (48+d)) from⟨by omega,hx⟩) (aI (show ((((UInt8.ofNat (48+d)).toNat:Nat):Int)==(45:Int))=false from (byte_no45 hd)) tt))) (Gets.refl _)
theorem ne_pc(n0:Nat)(ds:List Nat)(hG:5≤n0)(hd:Dig ds)(h0:0<ds.length):FT 44 #[.string (Aa ds)] n0 [] bF [] []:=
 Lv n0 (ne_p ds _ (hd.get 0) (by rw[Af];exact h0) (Hb h0)) hG
theorem ne_m(ds:List Nat)(h0:0<(By ds).size):CT 44 #[(.string (By ds))] (Ag 5 []) bT (Ag 5 []):=
 sF (sc:=[(8,.op (.rwB true)),(2,.op (.sidx (UInt8.ofNat 45))),(0,.op (.rwB true)),(4,.stay)]) kr (aI (dT (p:=(((By ds).size:Nat):Int)>(0:Int))) (aI (show 0≤(0:Int)∧(By ds)[Int.toNat (0:Int)]? =some (UInt8.ofNat 45) from⟨by omega,mstr_get0 ds⟩) (aI byte_45 tt))) (Gets.refl _)
theorem ne_mc(n0:Nat)(ds:List Nat)(hG:5≤n0):FT 44 #[.string (By ds)] n0 [] bT [] []:=
 Lv n0 (ne_m ds (by rw[mstr_len];omega)) hG
theorem ab_p(ds:List Nat)(hd:Dig ds)(h0:0<ds.length):CT 43 #[(.string (Aa ds))] (Ag 5 []) (.string (Aa ds)) (Ag 5 []):=
 sF (sc:=[(8,.call [] bF [] []),(9,.stay)]) kr (aI (ne_pc 5 ds om hd h0) tt) (Gets.refl _)
theorem ab_m(ds:List Nat)(hs:(By ds).size=ds.length+1):CT 43 #[(.string (By ds))] (Ag 5 []) (.string (Aa ds)) (Ag 5 []):=
 sF (sc:=[(8,.call [] bT [] []),(5,.op (.sslc (Aa ds))),(3,.stay)]) kr (aI (ne_mc 5 ds om) (aI (show 0≤(1:Int)∧(1:Int)≤(((By ds).size:Nat):Int)∧(((By ds).size:Nat):Int)≤(((By ds).size:Nat):Int)∧(By ds).extract (Int.toNat (1:Int)) (Int.toNat (((By ds).size:Nat):Int))=(Aa ds) from⟨by omega,by omega,by omega,mstr_rest ds _ hs⟩) tt)) (Gets.refl _)
theorem ab_pc(n0:Nat)(ds:List Nat)(hG:5≤n0)(hd:Dig ds)(h0:0<ds.length):FT 43 #[.string (Aa ds)] n0 [] (.string (Aa ds)) [] []:=
 Lv n0 (ab_p ds hd h0) hG
theorem ab_mc(n0:Nat)(ds:List Nat)(hG:5≤n0):FT 43 #[.string (By ds)] n0 [] (.string (Aa ds)) [] []:=
 Lv n0 (ab_m ds (mstr_len ds)) hG
noncomputable def rdg_h_f(ds:List Nat)(i:Nat)(jc:List Value)(j:List Value):Frame:=(Fr 143 ([(.string (Aa ds)),uu,(J j 0),(nI i),(J j 1),(J j 2),bF,bF,(J j 3),(J j 4),(J jc 0),(J jc 1),(J jc 2),(J jc 3),(J jc 4),bF,bF]++(jj j 5 16 [])) [.code (cd Tryz.f143 [1,1,0,1,0,0]),.inLoop (cd Tryz.f143 [1,1,0,1,0,0]),.inBlock 0,.code (cd Tryz.f143 [1,1,1])])
noncomputable def rdg_h_o(ds:List Nat)(i:Nat)(jc:List Value):List (Nat×AObj):=[]
noncomputable def rdg_h(ds:List Nat)(i:Nat)(jc:List Value)(j:List Value):AS:=⟨rdg_h_f ds i jc j,[],Ag 5 (rdg_h_o ds i jc)⟩
theorem rdg_in1(ds:List Nat)(h0:0<(Aa ds).size)(h1: ¬(Aa ds).size>1):GT (z_cb0_3 ds) (rdg_h ds 0 ([bF,bF,undef,undef,undef]) (z_cb0_1 ds)):=
 sR (sc:=[(9,.op (.rwB false)),(3,.op (.rwB false)),(16,.stay)]) kr (aI (eF (a:=(((Aa ds).size:Nat):Int)) (b:=(0:Int))) (aI (dF (p:=(((Aa ds).size:Nat):Int)>(1:Int))) tt))
theorem rdg_in2(ds:List Nat)(h0:0<(Aa ds).size)(h1:(Aa ds).size>1)(d:Nat)(hd0:d<10)(hd1:d≠0)(hx:(Aa ds)[0]? =some (UInt8.ofNat (48+d))):GT (z_cb0_3 ds) (rdg_h ds 0 ([bT,bT,(.string (Aa ds)),(Yr d),bF]) (z_cb0_1 ds)):=
 sR (sc:=[(9,.op (.rwB false)),(3,.op (.rwB true)),(2,.op (.sidx (UInt8.ofNat (48+d)))),(0,.op (.rwB false)),(12,.stay)]) kr (aI (eF (a:=(((Aa ds).size:Nat):Int)) (b:=(0:Int))) (aI (dT (p:=(((Aa ds).size:Nat):Int)>(1:Int))) (aI (show 0≤(0:Int)∧(Aa ds)[Int.toNat (0:Int)]? =some (UInt8.ofNat (48+d)) from⟨by omega,hx⟩) (aI (show ((((UInt8.ofNat (48+d)).toNat:Nat):Int)==(48:Int))=false from (byte_ne hd0 hd1)) tt))))
theorem rdg_r(ds:List Nat)(i d:Nat)(j jc:List Value)(hd:d<10)(hi:i<(Aa ds).size)(hm:(Aa ds).size<1099511627776)(hx:(Aa ds)[i]? =some (UInt8.ofNat (48+d))):GT (rdg_h ds i jc j) (rdg_h ds (i+1) ([(J jc 0),(J jc 1),(J jc 2),(J jc 3),(J jc 4)]) (jj j 0 5 [(nI i),(.string (Aa ds)),(nI ((Aa ds).size)),bT,(nI i),(nI (i+1)),(.string (Aa ds)),(nI i),(Yr d),bF,bF,(.string (Aa ds)),(nI i),(Yr d),bF,bF])):=
 sR (sc:=[(6,.op (.rwB true)),(9,.op (.sidx (UInt8.ofNat (48+d)))),(0,.op (.rwB false)),(3,.op (.sidx (UInt8.ofNat (48+d)))),(0,.op (.rwB false)),(7,.op (.rwI (((i+1):Nat):Int))),(3,.stay)]) kr (aI (dT (p:=(i:Int)<(((Aa ds).size:Nat):Int))) (aI (show 0≤(i:Int)∧(Aa ds)[Int.toNat (i:Int)]? =some (UInt8.ofNat (48+d)) from⟨by omega,hx⟩) (aI (show decide ((((UInt8.ofNat (48+d)).toNat:Nat):Int)<(48:Int))=false from (byte_ge hd)) (aI (show 0≤(i:Int)∧(Aa ds)[Int.toNat (i:Int)]? =some (UInt8.ofNat (48+d)) from⟨by omega,hx⟩) (aI (show decide ((((UInt8.ofNat (48+d)).toNat:Nat):Int)>(57:Int))=false from (byte_le hd)) (aI (Ao (a:=((i:Int)+(1:Int))) (r:=(((i+1):Nat):Int))) tt))))))
theorem rdg_o(ds:List Nat)(i:Nat)(j jc:List Value)(hi:(Aa ds).size≤i)(hr:GT (z_cb0_3 ds) (rdg_h ds i jc j)):CT 143 #[(.string (Aa ds))] (Ag 5 []) bT (Ag 5 []):=
 sF (sc:=[(6,.op (.rwB false)),(8,.stay)]) kr (aI (dF (p:=(i:Int)<(((Aa ds).size:Nat):Int))) tt) hr
theorem rdg_loop{ds:List Nat}(hd:Dig ds)(hm:ds.length<1099511627776): ∀(k i:Nat) (j jc:List Value),k=ds.length-i→i≤ds.length→GT (Cg 143 #[(.string (Aa ds))] 5 []) (rdg_h ds i jc j)→CT 143 #[(.string (Aa ds))] (Ag 5 []) bT (Ag 5 []):=by
 intro k
 induction k with
 |zero=>
  intro i j jc hk hi hr
  exact rdg_o ds i j jc (by rw[Af];omega) hr
 |succ k ih=>
  intro i j jc hk hi hr
  exact ih (i+1) _ _ om om (hr.trans (rdg_r ds i _ j jc (hd.get i) (by rw[Af];omega) (by rw[Af];exact hm) (Hb om)))
theorem rdg_c1(n0:Nat)(ds:List Nat)(hG:5≤n0)(hd:Dig ds)(h0:0<ds.length)(hm:ds.length<1099511627776)(hh:1<ds.length→ds.getD 0 0≠0):FT 143 #[.string (Aa ds)] n0 [] bT [] []:=by
 by_cases h1:1<ds.length
 ·exact Lv n0 (rdg_loop hd hm _ 0 _ _ rfl (Nat.zero_le _) (rdg_in2 ds (by rw[Af];exact h0) (by rw[Af];exact h1) _ (hd.get 0) (hh h1) (Hb h0))) hG
 ·exact Lv n0 (rdg_loop hd hm _ 0 _ _ rfl (Nat.zero_le _) (rdg_in1 ds (by rw[Af];exact h0) (by rw[Af];exact h1))) hG
theorem fo_p(ds:List Nat)(hd:Dig ds)(h0:0<ds.length)(hm:ds.length<1099511627776)(hh:1<ds.length→ds.getD 0 0≠0):CT 104 #[(.string (Aa ds))] (Ag 5 []) bT (Ag 5 []):=
 sF (sc:=[(7,.call [] (.string (Aa ds)) [] []),(0,.call [] bT [] []),(2,.op (.rwB true)),(4,.stay)]) kr (aI (ab_pc 5 ds om hd h0) (aI (rdg_c1 5 ds om hd h0 hm hh) (aI (show (!((Aa ds).toList==(bts [45,48]).toList))=true from (dstr_ne_m0 hd h0)) tt))) (Gets.refl _)
theorem fo_pc(n0:Nat)(ds:List Nat)(hG:5≤n0)(hd:Dig ds)(h0:0<ds.length)(hm:ds.length<1099511627776)(hh:1<ds.length→ds.getD 0 0≠0):FT 104 #[(.string (Aa ds))] n0 [] bT [] []:=
 Lv n0 (fo_p ds hd h0 hm hh) hG
theorem fo_m(ds:List Nat)(hd:Dig ds)(h0:0<ds.length)(hm:ds.length<1099511627776)(hh:1<ds.length→ds.getD 0 0≠0)(h1:ds.getD 0 0≠0):CT 104 #[(.string (By ds))] (Ag 5 []) bT (Ag 5 []):=
 sF (sc:=[(7,.call [] (.string (Aa ds)) [] []),(0,.call [] bT [] []),(2,.op (.rwB true)),(4,.stay)]) kr (aI (ab_mc 5 ds om) (aI (rdg_c1 5 ds om hd h0 hm hh) (aI (show (!((By ds).toList==(bts [45,48]).toList))=true from (mstr_ne_m0 hd h0 h1)) tt))) (Gets.refl _)
theorem fo_mc(n0:Nat)(ds:List Nat)(hG:5≤n0)(hd:Dig ds)(h0:0<ds.length)(hm:ds.length<1099511627776)(hh:1<ds.length→ds.getD 0 0≠0)(h1:ds.getD 0 0≠0):FT 104 #[(.string (By ds))] n0 [] bT [] []:=
 Lv n0 (fo_m ds hd h0 hm hh h1) hG
noncomputable def tip_h_f(ds:List Nat)(l i:Nat)(j:List Value):Frame:=(Fr 52 ([(.string (Aa ds)),uu,(lI 0),bF,(.string (Aa ds)),(nI l),(nI i),(.string (Aa ds)),(.string (Aa ds)),(.string (Aa ds)),bT,bF,bF,(.string (Aa ds)),(J j 0),bF,bF]++(jj j 1 14 [uu,uu,uu,uu,uu])) [.code (cd Tryz.f52 [1,1,1,1,0,1,0,0]),.inLoop (cd Tryz.f52 [1,1,1,1,0,1,0,0]),.inBlock 0,.code (cd Tryz.f52 [1,1,1,1,1])])
noncomputable def tip_h_o(ds:List Nat)(l i:Nat):List (Nat×AObj):=[]
noncomputable def tip_h(ds:List Nat)(l i:Nat)(j:List Value):AS:=⟨tip_h_f ds l i j,[],Ag 5 (tip_h_o ds l i)⟩
theorem tip_in(ds:List Nat)(hd:Dig ds)(h0:0<ds.length)(hm:ds.length≤15)(hh:1<ds.length→ds.getD 0 0≠0)(hs:(Aa ds).size=ds.length):GT (Cg 52 #[(.string (Aa ds))] 5 []) (tip_h ds 0 0 [(nI ((Aa ds).size)),undef,undef,undef,undef,undef,undef,undef,undef,undef,undef,undef,undef,undef,undef]):=
 sR (sc:=[(8,.call [] (.string (Aa ds)) [] []),(6,.call [] bT [] []),(4,.op (.rwB false)),(15,.stay)]) kr (aI (ab_pc 5 ds om hd h0) (aI (fo_pc 5 ds om hd h0 om hh) (aI (dF (p:=(((Aa ds).size:Nat):Int)>(15:Int))) tt)))
theorem tip_r(ds:List Nat)(l i d:Nat)(j:List Value)(hd:d<10)(hl:l<100000000000000)(hi:i<(Aa ds).size)(hm:(Aa ds).size<1099511627776)(hx:(Aa ds)[i]? =some (UInt8.ofNat (48+d))):GT (tip_h ds l i j) (tip_h ds ((10*l)+d) (i+1) [(J j 0),(nI i),(.string (Aa ds)),(nI ((Aa ds).size)),bT,(nI i),(nI (i+1)),(nI l),(nI (10*l)),(.string (Aa ds)),(nI i),(Yr d),(nB d),(nI d),(nI ((10*l)+d))]):=
 sR (sc:=[(6,.op (.rwB true)),(7,.op (.rwI (((10*l):Nat):Int))),(2,.op (.sidx (UInt8.ofNat (48+d)))),(0,.op (.rwI (d:Int))),(0,.op (.rwI (d:Int))),(0,.op (.rwI ((((10*l)+d):Nat):Int))),(5,.op (.rwI (((i+1):Nat):Int))),(3,.stay)]) kr (aI (dT (p:=(i:Int)<(((Aa ds).size:Nat):Int))) (aI (Ao (a:=((10:Int)*(l:Int))) (r:=(((10*l):Nat):Int))) (aI (show 0≤(i:Int)∧(Aa ds)[Int.toNat (i:Int)]? =some (UInt8.ofNat (48+d)) from⟨by omega,hx⟩) (aI (show IntKind.wrap .u8 ((((UInt8.ofNat (48+d)).toNat:Nat):Int)-(48:Int))=(d:Int) from (Yi hd)) (aI (Ao (a:=(d:Int)) (r:=(d:Int))) (aI (Ao (a:=((((10*l):Nat):Int)+(d:Int))) (r:=((((10*l)+d):Nat):Int))) (aI (Ao (a:=((i:Int)+(1:Int))) (r:=(((i+1):Nat):Int))) tt)))))))
theorem tip_o(ds:List Nat)(l i:Nat)(j:List Value)(hd:Dig ds)(h0:0<ds.length)(hl:l<1000000000000000)(hi:(Aa ds).size≤i)(hr:GT (Cg 52 #[(.string (Aa ds))] 5 []) (tip_h ds l i j)):CT 52 #[(.string (Aa ds))] (Ag 5 []) (.tuple #[(nI l),bT]) (Ag 5 []):=
 sF (sc:=[(6,.op (.rwB false)),(7,.call [] bF [] []),(10,.stay)]) kr (aI (dF (p:=(i:Int)<(((Aa ds).size:Nat):Int))) (aI (ne_pc 5 ds om hd h0) tt)) hr
theorem tip_loop{ds:List Nat}(hd:Dig ds)(h0:0<ds.length)(hL:ds.length≤15): ∀(k i:Nat) (j:List Value),k=ds.length-i→i≤ds.length→GT (Cg 52 #[(.string (Aa ds))] 5 []) (tip_h ds (Bh (ds.take i)) i j)→CT 52 #[(.string (Aa ds))] (Ag 5 []) (.tuple #[.int .i64 (((Bh ds:Nat):Int)),.bool true]) (Ag 5 []):=by
 intro k
 induction k with
 |zero=>
  intro i j hk hi hr
  have hlt:Bh ds<1000000000000000:=by
   have h2:=Qi _ hd
   have h3:10^ds.length≤10^15:=Nat.pow_le_pow_right de hL
   have h4:(10:Nat)^15=1000000000000000:=by decide
   omega
  rw[List.take_of_length_le om]at hr
  exact tip_o ds (Bh ds) i j hd h0 hlt (by rw[Af];omega) hr
 |succ k ih=>
  intro i j hk hi hr
  have hlt:Bh (ds.take i)<100000000000000:=by
   have h2:=Qi _ (hd.take i)
   have h3:10^(ds.take i).length≤10^14:=Nat.pow_le_pow_right de (by rw[List.length_take];omega)
   have h4:(10:Nat)^14=100000000000000:=by decide
   omega
  have r:=tip_r ds _ i (ds.getD i 0) j (hd.get i) hlt (by rw[Af];omega) (by rw[Af];omega) (Hb om)
  rw[show 10*Bh (ds.take i)+ds.getD i 0=Bh (ds.take (i+1)) by rw[Rm om,Nat.mul_comm]]at r
  exact ih (i+1) _ om om (hr.trans r)
theorem tip_c(n0:Nat)(ds:List Nat)(hG:5≤n0)(hd:Dig ds)(h0:0<ds.length)(hm:ds.length≤15)(hh:1<ds.length→ds.getD 0 0≠0):FT 52 #[(.string (Aa ds))] n0 [] (.tuple #[.int .i64 (((Bh ds:Nat):Int)),.bool true]) [] []:=
 Lv n0 (tip_loop hd h0 hm _ 0 _ rfl (Nat.zero_le _) (tip_in ds hd h0 hm hh (Af ds))) hG
noncomputable def tim_h_f(ds:List Nat)(l i:Nat)(j:List Value):Frame:=(Fr 52 ([(.string (By ds)),uu,(lI 0),bF,(.string (Aa ds)),(nI l),(nI i),(.string (By ds)),(.string (Aa ds)),(.string (By ds)),bT,bF,bF,(.string (Aa ds)),(J j 0),bF,bF]++(jj j 1 14 [uu,uu,uu,uu,uu])) [.code (cd Tryz.f52 [1,1,1,1,0,1,0,0]),.inLoop (cd Tryz.f52 [1,1,1,1,0,1,0,0]),.inBlock 0,.code (cd Tryz.f52 [1,1,1,1,1])])
noncomputable def tim_h_o(ds:List Nat)(l i:Nat):List (Nat×AObj):=[]
noncomputable def tim_h(ds:List Nat)(l i:Nat)(j:List Value):AS:=⟨tim_h_f ds l i j,[],Ag 5 (tim_h_o ds l i)⟩
theorem tim_in(ds:List Nat)(hd:Dig ds)(h0:0<ds.length)(hm:ds.length≤15)(hh:1<ds.length→ds.getD 0 0≠0)(h1:ds.getD 0 0≠0)(hs:(Aa ds).size=ds.length):GT (Cg 52 #[(.string (By ds))] 5 []) (tim_h ds 0 0 [(nI ((Aa ds).size)),undef,undef,undef,undef,undef,undef,undef,undef,undef,undef,undef,undef,undef,undef]):=
 sR (sc:=[(8,.call [] (.string (Aa ds)) [] []),(6,.call [] bT [] []),(4,.op (.rwB false)),(15,.stay)]) kr (aI (ab_mc 5 ds om) (aI (fo_mc 5 ds om hd h0 om hh h1) (aI (dF (p:=(((Aa ds).size:Nat):Int)>(15:Int))) tt)))
theorem tim_r(ds:List Nat)(l i d:Nat)(j:List Value)(hd:d<10)(hl:l<100000000000000)(hi:i<(Aa ds).size)(hm:(Aa ds).size<1099511627776)(hx:(Aa ds)[i]? =some (UInt8.ofNat (48+d))):GT (tim_h ds l i j) (tim_h ds ((10*l)+d) (i+1) [(J j 0),(nI i),(.string (Aa ds)),(nI ((Aa ds).size)),bT,(nI i),(nI (i+1)),(nI l),(nI (10*l)),(.string (Aa ds)),(nI i),(Yr d),(nB d),(nI d),(nI ((10*l)+d))]):=
 sR (sc:=[(6,.op (.rwB true)),(7,.op (.rwI (((10*l):Nat):Int))),(2,.op (.sidx (UInt8.ofNat (48+d)))),(0,.op (.rwI (d:Int))),(0,.op (.rwI (d:Int))),(0,.op (.rwI ((((10*l)+d):Nat):Int))),(5,.op (.rwI (((i+1):Nat):Int))),(3,.stay)]) kr (aI (dT (p:=(i:Int)<(((Aa ds).size:Nat):Int))) (aI (Ao (a:=((10:Int)*(l:Int))) (r:=(((10*l):Nat):Int))) (aI (show 0≤(i:Int)∧(Aa ds)[Int.toNat (i:Int)]? =some (UInt8.ofNat (48+d)) from⟨by omega,hx⟩) (aI (show IntKind.wrap .u8 ((((UInt8.ofNat (48+d)).toNat:Nat):Int)-(48:Int))=(d:Int) from (Yi hd)) (aI (Ao (a:=(d:Int)) (r:=(d:Int))) (aI (Ao (a:=((((10*l):Nat):Int)+(d:Int))) (r:=((((10*l)+d):Nat):Int))) (aI (Ao (a:=((i:Int)+(1:Int))) (r:=(((i+1):Nat):Int))) tt)))))))
theorem tim_o(ds:List Nat)(l i:Nat)(j:List Value)(hd:Dig ds)(h0:0<ds.length)(hl:l<1000000000000000)(hi:(Aa ds).size≤i)(hr:GT (Cg 52 #[(.string (By ds))] 5 []) (tim_h ds l i j)):CT 52 #[(.string (By ds))] (Ag 5 []) (.tuple #[(.int .i64 (-(l:Int))),bT]) (Ag 5 []):=
 sF (sc:=[(6,.op (.rwB false)),(7,.call [] bT [] []),(4,.op (.rwI (-(l:Int)))),(9,.stay)]) kr (aI (dF (p:=(i:Int)<(((Aa ds).size:Nat):Int))) (aI (ne_mc 5 ds om) (aI (Ao (a:=((0:Int)-(l:Int))) (r:=(-(l:Int)))) tt))) hr
theorem tim_loop{ds:List Nat}(hd:Dig ds)(h0:0<ds.length)(hL:ds.length≤15): ∀(k i:Nat) (j:List Value),k=ds.length-i→i≤ds.length→GT (Cg 52 #[(.string (By ds))] 5 []) (tim_h ds (Bh (ds.take i)) i j)→CT 52 #[(.string (By ds))] (Ag 5 []) (.tuple #[.int .i64 (-((Bh ds:Nat):Int)),.bool true]) (Ag 5 []):=by
 intro k
 induction k with
 |zero=>
  intro i j hk hi hr
  have hlt:Bh ds<1000000000000000:=by
   have h2:=Qi _ hd
   have h3:10^ds.length≤10^15:=Nat.pow_le_pow_right de hL
   have h4:(10:Nat)^15=1000000000000000:=by decide
   omega
  rw[List.take_of_length_le om]at hr
  exact tim_o ds (Bh ds) i j hd h0 hlt (by rw[Af];omega) hr
 |succ k ih=>
  intro i j hk hi hr
  have hlt:Bh (ds.take i)<100000000000000:=by
   have h2:=Qi _ (hd.take i)
   have h3:10^(ds.take i).length≤10^14:=Nat.pow_le_pow_right de (by rw[List.length_take];omega)
   have h4:(10:Nat)^14=100000000000000:=by decide
   omega
  have r:=tim_r ds _ i (ds.getD i 0) j (hd.get i) hlt (by rw[Af];omega) (by rw[Af];omega) (Hb om)
  rw[show 10*Bh (ds.take i)+ds.getD i 0=Bh (ds.take (i+1)) by rw[Rm om,Nat.mul_comm]]at r
  exact ih (i+1) _ om om (hr.trans r)
theorem tim_c(n0:Nat)(ds:List Nat)(hG:5≤n0)(hd:Dig ds)(h0:0<ds.length)(hm:ds.length≤15)(hh:1<ds.length→ds.getD 0 0≠0)(h1:ds.getD 0 0≠0):FT 52 #[(.string (By ds))] n0 [] (.tuple #[.int .i64 (-((Bh ds:Nat):Int)),.bool true]) [] []:=
 Lv n0 (tim_loop hd h0 hm _ 0 _ rfl (Nat.zero_le _) (tim_in ds hd h0 hm hh h1 (Af ds))) hG
theorem ti_i(z:Int)(n0:Nat)(hG:5≤n0)(hz:(Ae z.natAbs).length≤15):FT 52 #[.string (Ad z)] n0 [] (.tuple #[.int .i64 z,.bool true]) [] []:=by
 rcases Gz z with⟨m,rfl,hm⟩|⟨m,h0,rfl,hm⟩
 ·rw[Df]
  rw[hm]at hz
  have h:=tip_c n0 (Ae m) hG (Bx m) (Be m) hz (fun h=>Lu m (by
   rcases Nat.eq_zero_or_pos m with q|q
   ·rw[q,Gi]at h;exact absurd h de
   ·exact q))
  rw[Gb]at h
  exact h
 ·rw[Hp h0]
  rw[hm]at hz
  have h:=tim_c n0 (Ae m) hG (Bx m) (Be m) hz (fun _=>Lu m h0) (Lu m h0)
  rw[Gb]at h
  exact h
end Go.Proofs.YtldoiilgfcpipaaGreatDoor
