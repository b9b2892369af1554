import Derived.Test.YtldoiilgfcpipaaGreatDoorPWf
import Derived.Test.YtldoiilgfcpipaaGreatDoorLE
import Derived.Test.YtldoiilgfcpipaaGreatDoorLF
set_option linter.unusedVariables false
set_option linter.unusedSimpArgs false
set_option maxRecDepth 100000
namespace Go.Proofs.YtldoiilgfcpipaaGreatDoor
open Go Go.AE Seg
noncomputable section
abbrev z_258_0(o n c i v:Nat):AObj:=.cells [(.slice (some ⟨6,o,none⟩) n c),(nI (i+1)),(nU v)] 62 none false
abbrev z_258_1(o:Nat)(zs:List Int):AObj:=.win o (zs.map (Value.int .i64))
end
theorem up_conv{x r k:Nat}(hr:r=x% (k+1))(hk:k<1099511627776):IntKind.wrap .i64 (((x% (k+1):Nat):Int))=((r:Nat):Int):=by
 have:x% (k+1)<k+1:=Nat.mod_lt x (by omega)
 subst hr
 exact wrap_i64 (by omega) (by omega)
theorem up_p(zs:List Int)(o n c i u k:Nat)(hk:0<k)(hk2:k<1099511627776)(v x:Nat)(r:Nat)(hrx:r=x% (k+1))(hc1:(FT 97 #[(pt 5)] 7 [(5,(.cells [(.slice (some ⟨6,o,none⟩) n c),(nI i),(nU u)] 62 none false)),(6,(z_258_1 o zs))] (nU x) [(5,some (z_258_0 o n c i v)),(6,some (z_258_1 o zs))] [])):CT 47 #[(pt 5),(nI k)] (mkH 7 [(5,(.cells [(.slice (some ⟨6,o,none⟩) n c),(nI i),(nU u)] 62 none false)),(6,(z_258_1 o zs))]) (nI r) (mkH 7 [(5,(z_258_0 o n c i v)),(6,(z_258_1 o zs))]):=
 sF (sc:=[(7,.call [5,6] (nU x) [(5,some (z_258_0 o n c i v)),(6,some (z_258_1 o zs))] []),(6,.op (.rwB false)),(7,.op (.rwI (k:Int))),(0,.op (.rwI (((k+1):Nat):Int))),(0,.op (.div (((x% (k+1)):Nat):Int))),(0,.op (.rwI (r:Int))),(3,.stay)]) (by kernel_rfl) (aI hc1 (aI (dF (p:=(k:Int)<(1:Int))) (aI (wU64 (a:=(k:Int)) (r:=(k:Int))) (aI (wU64 (a:=((k:Int)+(1:Int))) (r:=(((k+1):Nat):Int))) (aI (show (((k+1):Nat):Int)≠0∧(Int.tmod (x:Int) (((k+1):Nat):Int))=(((x% (k+1)):Nat):Int) from⟨by omega,by first|(rw[Int.tmod_eq_emod_of_nonneg (by omega)];first|rfl|exact (Int.natCast_emod _ _).symm|omega)|(rw[Int.tdiv_eq_ediv_of_nonneg (by omega)];first|rfl|omega)⟩) (aI (show IntKind.wrap .i64 (((x% (k+1)):Nat):Int)=(r:Int) from (up_conv hrx hk2)) tt)))))) (Gets.refl _)
theorem up_z(zs:List Int)(o n c i u k:Nat)(hk:k=0)(hk2:k<1099511627776)(v x:Nat)(hc1:(FT 97 #[(pt 5)] 7 [(5,(.cells [(.slice (some ⟨6,o,none⟩) n c),(nI i),(nU u)] 62 none false)),(6,(z_258_1 o zs))] (nU x) [(5,some (z_258_0 o n c i v)),(6,some (z_258_1 o zs))] [])):CT 47 #[(pt 5),(nI k)] (mkH 7 [(5,(.cells [(.slice (some ⟨6,o,none⟩) n c),(nI i),(nU u)] 62 none false)),(6,(z_258_1 o zs))]) (lI 0) (mkH 7 [(5,(z_258_0 o n c i v)),(6,(z_258_1 o zs))]):=
 sF (sc:=[(7,.call [5,6] (nU x) [(5,some (z_258_0 o n c i v)),(6,some (z_258_1 o zs))] []),(6,.op (.rwB true)),(7,.stay)]) (by kernel_rfl) (aI hc1 (aI (dT (p:=(k:Int)<(1:Int))) tt)) (Gets.refl _)
theorem up_c(n0 b L:Nat)(zs:List Int)(o n c i u k:Nat)(hb:5≤b∧b<n0∧5≤L∧L<n0∧b≠L)(hn:n≤zs.length)(hm:i<9223372036854775000)(hk2:k<1099511627776):
  ∃u' r,r≤k∧FT 47 #[pt b,.int .i64 ((k:Nat):Int)] n0 [(b,.cells [.slice (some ⟨L,o,none⟩) n c,.int .i64 ((i:Nat):Int),.int .u64 ((u:Nat):Int)] 62 none false),(L,.win o (zs.map (Value.int .i64)))] (nI r) [(b,some (.cells [.slice (some ⟨L,o,none⟩) n c,.int .i64 ((i+1:Nat):Int),.int .u64 ((u':Nat):Int)] 62 none false)),(L,some (.win o (zs.map (Value.int .i64))))] []:=by
 obtain⟨v,x,T⟩:=turn_c 7 5 6 zs o n c i u (by omega) hn hm
 rcases Nat.eq_zero_or_pos k with hk|hk
 ·exact⟨v,0,Nat.zero_le _,fsp_move (os':=[.cells [.slice (some ⟨L,o,none⟩) n c,.int .i64 ((i:Nat):Int),.int .u64 ((u:Nat):Int)] 62 none false,.win o (zs.map (Value.int .i64))]) (ps':=[.cells [.slice (some ⟨L,o,none⟩) n c,.int .i64 ((i+1:Nat):Int),.int .u64 ((v:Nat):Int)] 62 none false,.win o (zs.map (Value.int .i64))]) (qs':=[]) [b,L] [.cells [.slice (some ⟨6,o,none⟩) n c,.int .i64 ((i:Nat):Int),.int .u64 ((u:Nat):Int)] 62 none false,.win o (zs.map (Value.int .i64))] [.cells [.slice (some ⟨6,o,none⟩) n c,.int .i64 ((i+1:Nat):Int),.int .u64 ((v:Nat):Int)] 62 none false,.win o (zs.map (Value.int .i64))] [] [] n0 (up_z zs o n c i u k hk hk2 v x T) rfl rfl rfl (by simp[hb.2.2.2.2]) (by simp;omega) (by omega) rfl
   (by simp[goodO,goodL,good,okI,closedL_good _ _ (ints_closed zs)]) rfl (by simp only[List.map_cons,List.map_nil,mvO,closedL_mv _ _ (ints_closed zs)];rfl) (by simp only[List.map_cons,List.map_nil,mvO,closedL_mv _ _ (ints_closed zs)];rfl) rfl (by simp) (by simp) rfl rfl rfl⟩
 ·exact⟨v,x% (k+1),Nat.le_of_lt_succ (Nat.mod_lt x (Nat.succ_pos k)),fsp_move (os':=[.cells [.slice (some ⟨L,o,none⟩) n c,.int .i64 ((i:Nat):Int),.int .u64 ((u:Nat):Int)] 62 none false,.win o (zs.map (Value.int .i64))]) (ps':=[.cells [.slice (some ⟨L,o,none⟩) n c,.int .i64 ((i+1:Nat):Int),.int .u64 ((v:Nat):Int)] 62 none false,.win o (zs.map (Value.int .i64))]) (qs':=[]) [b,L] [.cells [.slice (some ⟨6,o,none⟩) n c,.int .i64 ((i:Nat):Int),.int .u64 ((u:Nat):Int)] 62 none false,.win o (zs.map (Value.int .i64))] [.cells [.slice (some ⟨6,o,none⟩) n c,.int .i64 ((i+1:Nat):Int),.int .u64 ((v:Nat):Int)] 62 none false,.win o (zs.map (Value.int .i64))] [] [] n0 (up_p zs o n c i u k hk hk2 v x _ rfl T) rfl rfl rfl (by simp[hb.2.2.2.2]) (by simp;omega) (by omega) rfl
   (by simp[goodO,goodL,good,okI,closedL_good _ _ (ints_closed zs)]) rfl (by simp only[List.map_cons,List.map_nil,mvO,closedL_mv _ _ (ints_closed zs)];rfl) (by simp only[List.map_cons,List.map_nil,mvO,closedL_mv _ _ (ints_closed zs)];rfl) rfl (by simp) (by simp) rfl rfl rfl⟩
noncomputable section
abbrev z_b1a_0(i v:Nat):AObj:=.cells [(.slice none 0 0),(nI (i+1)),(nU v)] 62 none false
abbrev z_b1a_1(i u:Nat):AObj:=.cells [(.slice none 0 0),(nI i),(nU u)] 62 none false
end
theorem upn_p(i u k:Nat)(hk:0<k)(hk2:k<1099511627776)(v x:Nat)(r:Nat)(hrx:r=x% (k+1))(hc1:(FT 97 #[(pt 5)] 6 [(5,(z_b1a_1 i u))] (nU x) [(5,some (z_b1a_0 i v))] [])):CT 47 #[(pt 5),(nI k)] (mkH 6 [(5,(z_b1a_1 i u))]) (nI r) (mkH 6 [(5,(z_b1a_0 i v))]):=
 sF (sc:=[(7,.call [5] (nU x) [(5,some (z_b1a_0 i v))] []),(6,.op (.rwB false)),(7,.op (.rwI (k:Int))),(0,.op (.rwI (((k+1):Nat):Int))),(0,.op (.div (((x% (k+1)):Nat):Int))),(0,.op (.rwI (r:Int))),(3,.stay)]) (by kernel_rfl) (aI hc1 (aI (dF (p:=(k:Int)<(1:Int))) (aI (wU64 (a:=(k:Int)) (r:=(k:Int))) (aI (wU64 (a:=((k:Int)+(1:Int))) (r:=(((k+1):Nat):Int))) (aI (show (((k+1):Nat):Int)≠0∧(Int.tmod (x:Int) (((k+1):Nat):Int))=(((x% (k+1)):Nat):Int) from⟨by omega,by first|(rw[Int.tmod_eq_emod_of_nonneg (by omega)];first|rfl|exact (Int.natCast_emod _ _).symm|omega)|(rw[Int.tdiv_eq_ediv_of_nonneg (by omega)];first|rfl|omega)⟩) (aI (show IntKind.wrap .i64 (((x% (k+1)):Nat):Int)=(r:Int) from (up_conv hrx hk2)) tt)))))) (Gets.refl _)
theorem upn_z(i u k:Nat)(hk:k=0)(hk2:k<1099511627776)(v x:Nat)(hc1:(FT 97 #[(pt 5)] 6 [(5,(z_b1a_1 i u))] (nU x) [(5,some (z_b1a_0 i v))] [])):CT 47 #[(pt 5),(nI k)] (mkH 6 [(5,(z_b1a_1 i u))]) (lI 0) (mkH 6 [(5,(z_b1a_0 i v))]):=
 sF (sc:=[(7,.call [5] (nU x) [(5,some (z_b1a_0 i v))] []),(6,.op (.rwB true)),(7,.stay)]) (by kernel_rfl) (aI hc1 (aI (dT (p:=(k:Int)<(1:Int))) tt)) (Gets.refl _)
theorem upn_c(n0 b:Nat)(i u k:Nat)(hb:5≤b∧b<n0)(hm:i<9223372036854775000)(hk2:k<1099511627776):
  ∃u' r,r≤k∧FT 47 #[pt b,.int .i64 ((k:Nat):Int)] n0 [(b,.cells [.slice none 0 0,.int .i64 ((i:Nat):Int),.int .u64 ((u:Nat):Int)] 62 none false)] (nI r) [(b,some (.cells [.slice none 0 0,.int .i64 ((i+1:Nat):Int),.int .u64 ((u':Nat):Int)] 62 none false))] []:=by
 obtain⟨v,x,T⟩:=turnn_c 6 5 i u (by omega) hm
 rcases Nat.eq_zero_or_pos k with hk|hk
 ·exact⟨v,0,Nat.zero_le _,fsp_flat [b] [.cells [.slice none 0 0,.int .i64 ((i:Nat):Int),.int .u64 ((u:Nat):Int)] 62 none false] [.cells [.slice none 0 0,.int .i64 ((i+1:Nat):Int),.int .u64 ((v:Nat):Int)] 62 none false] [] [] n0 (upn_z i u k hk hk2 v x T) rfl rfl rfl (by simp) (by simp;omega) (by omega) (by simp[flat,closedL,closed]) (by simp[flat,closedL,closed]) rfl (by simp) (by simp) rfl rfl rfl⟩
 ·exact⟨v,x% (k+1),Nat.le_of_lt_succ (Nat.mod_lt x (Nat.succ_pos k)),fsp_flat [b] [.cells [.slice none 0 0,.int .i64 ((i:Nat):Int),.int .u64 ((u:Nat):Int)] 62 none false] [.cells [.slice none 0 0,.int .i64 ((i+1:Nat):Int),.int .u64 ((v:Nat):Int)] 62 none false] [] [] n0 (upn_p i u k hk hk2 v x _ rfl T) rfl rfl rfl (by simp) (by simp;omega) (by omega) (by simp[flat,closedL,closed]) (by simp[flat,closedL,closed]) rfl (by simp) (by simp) rfl rfl rfl⟩
noncomputable section
abbrev z_c8d_0(o:Nat)(zs:List Int):AObj:=.win o (zs.map (Value.int .i64))
abbrev z_c8d_1(o n c ai v0:Nat):AObj:=.cells [(.slice (some ⟨6,o,none⟩) n c),(nI (ai+1)),(nU v0)] 62 none false
abbrev z_c8d_2(o n c ai v1:Nat):AObj:=.cells [(.slice (some ⟨6,o,none⟩) n c),(nI ((ai+1)+1)),(nU v1)] 62 none false
abbrev z_c8d_3(o n c i u:Nat):AObj:=.cells [(.slice (some ⟨6,o,none⟩) n c),(nI i),(nU u)] 62 none false
abbrev z_c8d_4(o n c ai au:Nat):AObj:=.cells [(.slice (some ⟨6,o,none⟩) n c),(nI ai),(nU au)] 62 none false
abbrev z_c8d_5(o n c ai v2:Nat):AObj:=.cells [(.slice (some ⟨6,o,none⟩) n c),(nI (((ai+1)+1)+1)),(nU v2)] 62 none false
abbrev z_c8d_6:List Value:=[undef,undef,undef,undef,undef,undef,undef,undef,undef,undef,undef,undef,undef,undef,undef,undef,undef]
abbrev z_c8d_7(o n c i v0:Nat):AObj:=.cells [(.slice (some ⟨6,o,none⟩) n c),(nI (i+1)),(nU v0)] 62 none false
abbrev z_c8d_8(st:ByteArray)(e:Nat):Value:=.string (st++(dstr [e]))
end
theorem b2s_one{x e:Nat}(h:x=48+e):0+1≤([.int .u8 ((x:Nat):Int)]:List Value).length∧(intsOf (List.take 1 (List.drop 0 ([.int .u8 ((x:Nat):Int)]:List Value)))).map (fun ns=>(⟨(ns.map fun n=>UInt8.ofNat n.toNat).toArray⟩:ByteArray))=some (dstr [e]):=by
 subst h
 exact⟨Nat.le_refl _,rfl⟩
theorem mstr_catw(ds:List Nat):Seg.bts [45]++dstr ds=mstr ds:=by
 apply ByteArray.ext
 simp[ByteArray.data_append,mstr,dstr,Seg.bts]
theorem dstr_snoc(ds:List Nat)(e:Nat):dstr ds++dstr [e]=dstr (ds++[e]):=by
 apply ByteArray.ext
 simp[ByteArray.data_append,dstr]
noncomputable def wh_h_f(zs:List Int)(o n c ai au k w p:Nat)(st:ByteArray)(jc:List Value)(j:List Value):Frame:=⟨17,List.toArray [(pt 5),(nI k),uu,uu,(J jc 2),(nI w),(.string st),(nI p),(J j 0),(pt 5),(nI k),(J jc 3),(J j 1),(J j 2),(J j 3),(J j 4),(J j 5),(J j 6),(J j 7),(J j 8),(J j 9),(J j 10),(J j 11),(J j 12),(J jc 0),(J jc 1),(J j 13),(J j 14),(J j 15),(J j 16),uu,uu,uu,uu,uu,uu,uu],[.code (cd Tryz.f17 [1,1,1,0,1,0,0]),.inLoop (cd Tryz.f17 [1,1,1,0,1,0,0]),.inBlock 0,.code (cd Tryz.f17 [1,1,1,1])],[],.run,.normal,none⟩
noncomputable def wh_h_o(zs:List Int)(o n c ai au k w p:Nat)(st:ByteArray)(jc:List Value):List (Nat×AObj):=[(5,(z_c8d_4 o n c ai au)),(6,(z_c8d_0 o zs))]
noncomputable def wh_h(zs:List Int)(o n c ai au k w p:Nat)(st:ByteArray)(jc:List Value)(j:List Value):AS:=⟨wh_h_f zs o n c ai au k w p st jc j,[],mkH 9 (wh_h_o zs o n c ai au k w p st jc)⟩
theorem wh_in{s0:AS}(hs0:s0.h.next=7)(zs:List Int)(o n c i u k:Nat)(hk:k<1099511627776)(v0 r0:Nat)(hr0:r0≤k)(hc2:(FT 47 #[(pt 5),(nI k)] 7 [(5,(z_c8d_3 o n c i u)),(6,(z_c8d_0 o zs))] (nI r0) [(5,some (z_c8d_7 o n c i v0)),(6,some (z_c8d_0 o zs))] []))(hr:GT s0 ⟨Frame.enter Tryz.prog 17 #[(pt 5),(nI k)] .normal,[],mkH 7 [(5,(z_c8d_3 o n c i u)),(6,(z_c8d_0 o zs))]⟩):GT s0 (wh_h zs o n c (i+1) v0 k r0 0 (bts []) ([undef,undef,(.string (bts [])),(nI r0)]) z_c8d_6):=by
 have h1:=hr.trans (sR (sc:=[(8,.call [5,6] (nI r0) [(5,some (z_c8d_7 o n c i v0)),(6,some (z_c8d_0 o zs))] []),(13,.stay)]) (fr1:=⟨17,List.toArray [(pt 5),(nI k),uu,uu,(.string (bts [])),(nI r0),(.string (bts [])),(lI 0),uu,(pt 5),(nI k),(nI r0),uu,uu,uu,uu,uu,uu,uu,uu,uu,uu,uu,uu,uu,uu,uu,uu,uu,uu,uu,uu,uu,uu,uu,uu,uu],[.code (cd Tryz.f17 [1,1,1,0,1,0,0]),.inLoop (cd Tryz.f17 [1,1,1,0,1,0,0]),.inBlock 0,.code (cd Tryz.f17 [1,1,1,1])],[],.run,.normal,none⟩) (next:=7) (l:=[(5,(z_c8d_7 o n c i v0)),(6,(z_c8d_0 o zs))]) (by kernel_rfl) (aI hc2 tt))
 exact gets_slide2 (fr:=wh_h_f zs o n c (i+1) v0 k r0 0 (bts []) ([undef,undef,(.string (bts [])),(nI r0)]) z_c8d_6) (fr1:=⟨17,List.toArray [(pt 5),(nI k),undef,undef,(.string (bts [])),(nI r0),(.string (bts [])),(lI 0),undef,(pt 5),(nI k),(nI r0),undef,undef,undef,undef,undef,undef,undef,undef,undef,undef,undef,undef,undef,undef,undef,undef,undef,undef,undef,undef,undef,undef,undef,undef,undef],[.code (cd Tryz.f17 [1,1,1,0,1,0,0]),.inLoop (cd Tryz.f17 [1,1,1,0,1,0,0]),.inBlock 0,.code (cd Tryz.f17 [1,1,1,1])],[],.run,.normal,none⟩) (nx1:=7) (b:=7) (k:=0) (l1:=[(5,(z_c8d_7 o n c i v0)),(6,(z_c8d_0 o zs))]) (l2:=wh_h_o zs o n c (i+1) v0 k r0 0 (bts []) ([undef,undef,(.string (bts [])),(nI r0)])) h1 (by kernel_rfl) rfl rfl rfl (by kernel_rfl) (by rw[hs0];decide) (by rw[hs0];decide) (by decide) (by decide) (by rfl) (by simp only[wh_h_o,List.map_cons,List.map_nil,mvO,closedL_mv _ _ (ints_closed _),closedL_mv _ _ (ns_closed _ _)];rfl) (by kernel_rfl)
theorem wh_s{s0:AS}(hs0:s0.h.next=7)(zs:List Int)(o n c ai au k w p:Nat)(st:ByteArray)(j jc:List Value)(hjc:FixJ (slide 7 2) jc)(hw:w<1099511627776)(hp:p<w)(hs:st.size<1099511627776)(h0:p=0)(v0 r0:Nat)(hr0:r0≤9)(hc2:(FT 47 #[(pt 5),(lI 9)] 9 [(5,(z_c8d_4 o n c ai au)),(6,(z_c8d_0 o zs))] (nI r0) [(5,some (z_c8d_1 o n c ai v0)),(6,some (z_c8d_0 o zs))] []))(v1 r1:Nat)(hr1:r1≤2)(d e:Nat)(hd:([.int .i64 0,.int .i64 9,.int .i64 (r0:Nat)]:List Value)[r1]? =some (nI d))(hd9:d≤9)(hc6:(FT 47 #[(pt 5),(lI 2)] 10 [(5,(z_c8d_1 o n c ai v0)),(6,(z_c8d_0 o zs))] (nI r1) [(5,some (z_c8d_2 o n c ai v1)),(6,some (z_c8d_0 o zs))] []))(v2 r2:Nat)(hr2:r2≤8)(he:e=(1+r2))(hc9:FT 47 #[(pt 5),(lI 8)] 10 [(5,(z_c8d_2 o n c ai v1)),(6,(z_c8d_0 o zs))] (nI r2) [(5,some (z_c8d_5 o n c ai v2)),(6,some (z_c8d_0 o zs))] [])(hr:GT s0 (wh_h zs o n c ai au k w p st jc j)):GT s0 (wh_h zs o n c (((ai+1)+1)+1) v2 k w (p+1) (st++(dstr [e])) ([(pt 5),(nI (1+r2)),(J jc 2),(J jc 3)]) [(nI (1+r2)),(nI p),(nI w),bT,(nI p),(nI (p+1)),(pt 5),(pt 5),(nI r0),(sl 7 3 3),(nI d),(nI p),bT,(.string st),(nI (1+r2)),(.string (dstr [e])),(z_c8d_8 st e)]):=by
 have h1:=hr.trans (sR (sc:=[(5,.op (.rwB true)),(9,.call [5,6] (nI r0) [(5,some (z_c8d_1 o n c ai v0)),(6,some (z_c8d_0 o zs))] []),(13,.call [5,6] (nI r1) [(5,some (z_c8d_2 o n c ai v1)),(6,some (z_c8d_0 o zs))] []),(0,.op (.idx r1)),(0,.op (.ld (nI d))),(10,.op (.rwB true)),(16,.call [5,6] (nI r2) [(5,some (z_c8d_5 o n c ai v2)),(6,some (z_c8d_0 o zs))] []),(0,.op (.rwI (((1+r2):Nat):Int))),(17,.op (.rwI ((((1+r2)%10):Nat):Int))),(0,.op (.rwI (((48+((1+r2)%10)):Nat):Int))),(0,.op (.rwI (((48+((1+r2)%10)):Nat):Int))),(1,.op (.b2s (dstr [e]))),(4,.op (.cat (st++(dstr [e])))),(5,.op (.rwI (((p+1):Nat):Int))),(3,.stay)]) (fr1:=⟨17,List.toArray [(pt 5),(nI k),uu,uu,(J jc 2),(nI w),(z_c8d_8 st e),(nI (p+1)),(nI (1+r2)),(pt 5),(nI k),(J jc 3),(nI p),(nI w),bT,(nI p),(nI (p+1)),(pt 5),(pt 5),(nI r0),(sl 9 3 3),(nI d),(nI p),bT,(pt 5),(nI (1+r2)),(.string st),(nI (1+r2)),(.string (dstr [e])),(z_c8d_8 st e),uu,uu,uu,uu,uu,uu,uu],[.code (cd Tryz.f17 [1,1,1,0,1,0,0]),.inLoop (cd Tryz.f17 [1,1,1,0,1,0,0]),.inBlock 0,.code (cd Tryz.f17 [1,1,1,1])],[],.run,.normal,none⟩) (next:=11) (l:=[(5,(z_c8d_5 o n c ai v2)),(6,(z_c8d_0 o zs))]) (by kernel_rfl) (aI (dT (p:=(p:Int)<(w:Int))) (aI hc2 (aI hc6 (aI (ix (r1:Int) ((3:Nat):Int) 0 1 r1) (aI hd (aI (eT (a:=(p:Int)) (b:=(0:Int))) (aI hc9 (aI (wI64 (a:=((1:Int)+(r2:Int))) (r:=(((1+r2):Nat):Int))) (aI (show (Int.tmod (((1+r2):Nat):Int) (10:Int))=((((1+r2)%10):Nat):Int) from (by rw[Int.tmod_eq_emod_of_nonneg (by omega)]<;>omega)) (aI (wI64 (a:=((48:Int)+((((1+r2)%10):Nat):Int))) (r:=(((48+((1+r2)%10)):Nat):Int))) (aI (wU8 (a:=(((48+((1+r2)%10)):Nat):Int)) (r:=(((48+((1+r2)%10)):Nat):Int))) (aI (show 0+1≤([(nB (48+((1+r2)%10)))]).length∧(intsOf (List.take 1 (List.drop 0 [(nB (48+((1+r2)%10)))]))).map (fun ns=>(⟨(ns.map fun n=>UInt8.ofNat n.toNat).toArray⟩:ByteArray))=some (dstr [e]) from (b2s_one (by omega))) (aI (show (((st.size+(dstr [e]).size:Nat)):Int)≤9223372036854775807∧st++(dstr [e])=(st++(dstr [e])) from⟨by rw[show (dstr [e]).size=1 from rfl];omega,rfl⟩) (aI (wI64 (a:=((p:Int)+(1:Int))) (r:=(((p+1):Nat):Int))) tt)))))))))))))))
 rw[←J_mv (slide 7 2) hjc 2]at h1
 rw[←J_mv (slide 7 2) hjc 3]at h1
 exact gets_slide2 (fr:=wh_h_f zs o n c (((ai+1)+1)+1) v2 k w (p+1) (st++(dstr [e])) ([(pt 5),(nI (1+r2)),(J jc 2),(J jc 3)]) [(nI (1+r2)),(nI p),(nI w),bT,(nI p),(nI (p+1)),(pt 5),(pt 5),(nI r0),(sl 7 3 3),(nI d),(nI p),bT,(.string st),(nI (1+r2)),(.string (dstr [e])),(z_c8d_8 st e)]) (fr1:=⟨17,List.toArray [(pt 5),(nI k),undef,undef,(mv (slide 7 2) (J jc 2)),(nI w),(z_c8d_8 st e),(nI (p+1)),(nI (1+r2)),(pt 5),(nI k),(mv (slide 7 2) (J jc 3)),(nI p),(nI w),bT,(nI p),(nI (p+1)),(pt 5),(pt 5),(nI r0),(sl 9 3 3),(nI d),(nI p),bT,(pt 5),(nI (1+r2)),(.string st),(nI (1+r2)),(.string (dstr [e])),(z_c8d_8 st e),undef,undef,undef,undef,undef,undef,undef],[.code (cd Tryz.f17 [1,1,1,0,1,0,0]),.inLoop (cd Tryz.f17 [1,1,1,0,1,0,0]),.inBlock 0,.code (cd Tryz.f17 [1,1,1,1])],[],.run,.normal,none⟩) (nx1:=11) (b:=7) (k:=2) (l1:=[(5,(z_c8d_5 o n c ai v2)),(6,(z_c8d_0 o zs))]) (l2:=wh_h_o zs o n c (((ai+1)+1)+1) v2 k w (p+1) (st++(dstr [e])) ([(pt 5),(nI (1+r2)),(J jc 2),(J jc 3)])) h1 (by kernel_rfl) rfl rfl rfl (by kernel_rfl) (by rw[hs0];decide) (by rw[hs0];decide) (by decide) (by decide) (by rfl) (by simp only[wh_h_o,List.map_cons,List.map_nil,mvO,closedL_mv _ _ (ints_closed _),closedL_mv _ _ (ns_closed _ _)];rfl) (by kernel_rfl)
theorem wh_r{s0:AS}(hs0:s0.h.next=7)(zs:List Int)(o n c ai au k w p:Nat)(st:ByteArray)(j jc:List Value)(hjc:FixJ (slide 7 2) jc)(hw:w<1099511627776)(hp:p<w)(hs:st.size<1099511627776)(h0:p≠0)(v0 r0:Nat)(hr0:r0≤9)(hc2:(FT 47 #[(pt 5),(lI 9)] 9 [(5,(z_c8d_4 o n c ai au)),(6,(z_c8d_0 o zs))] (nI r0) [(5,some (z_c8d_1 o n c ai v0)),(6,some (z_c8d_0 o zs))] []))(v1 r1:Nat)(hr1:r1≤2)(d e:Nat)(hd:([.int .i64 0,.int .i64 9,.int .i64 (r0:Nat)]:List Value)[r1]? =some (nI d))(hd9:d≤9)(he:e=d)(hc6:(FT 47 #[(pt 5),(lI 2)] 10 [(5,(z_c8d_1 o n c ai v0)),(6,(z_c8d_0 o zs))] (nI r1) [(5,some (z_c8d_2 o n c ai v1)),(6,some (z_c8d_0 o zs))] []))(hr:GT s0 (wh_h zs o n c ai au k w p st jc j)):GT s0 (wh_h zs o n c ((ai+1)+1) v1 k w (p+1) (st++(dstr [e])) ([(J jc 0),(J jc 1),(J jc 2),(J jc 3)]) [(nI d),(nI p),(nI w),bT,(nI p),(nI (p+1)),(pt 5),(pt 5),(nI r0),(sl 7 3 3),(nI d),(nI p),bF,(.string st),(nI d),(.string (dstr [e])),(z_c8d_8 st e)]):=by
 have h1:=hr.trans (sR (sc:=[(5,.op (.rwB true)),(9,.call [5,6] (nI r0) [(5,some (z_c8d_1 o n c ai v0)),(6,some (z_c8d_0 o zs))] []),(13,.call [5,6] (nI r1) [(5,some (z_c8d_2 o n c ai v1)),(6,some (z_c8d_0 o zs))] []),(0,.op (.idx r1)),(0,.op (.ld (nI d))),(10,.op (.rwB false)),(14,.op (.rwI (((d%10):Nat):Int))),(0,.op (.rwI (((48+(d%10)):Nat):Int))),(0,.op (.rwI (((48+(d%10)):Nat):Int))),(1,.op (.b2s (dstr [e]))),(4,.op (.cat (st++(dstr [e])))),(5,.op (.rwI (((p+1):Nat):Int))),(3,.stay)]) (fr1:=⟨17,List.toArray [(pt 5),(nI k),uu,uu,(J jc 2),(nI w),(z_c8d_8 st e),(nI (p+1)),(nI d),(pt 5),(nI k),(J jc 3),(nI p),(nI w),bT,(nI p),(nI (p+1)),(pt 5),(pt 5),(nI r0),(sl 9 3 3),(nI d),(nI p),bF,(J jc 0),(J jc 1),(.string st),(nI d),(.string (dstr [e])),(z_c8d_8 st e),uu,uu,uu,uu,uu,uu,uu],[.code (cd Tryz.f17 [1,1,1,0,1,0,0]),.inLoop (cd Tryz.f17 [1,1,1,0,1,0,0]),.inBlock 0,.code (cd Tryz.f17 [1,1,1,1])],[],.run,.normal,none⟩) (next:=11) (l:=[(5,(z_c8d_2 o n c ai v1)),(6,(z_c8d_0 o zs))]) (by kernel_rfl) (aI (dT (p:=(p:Int)<(w:Int))) (aI hc2 (aI hc6 (aI (ix (r1:Int) ((3:Nat):Int) 0 1 r1) (aI hd (aI (eF (a:=(p:Int)) (b:=(0:Int))) (aI (show (Int.tmod (d:Int) (10:Int))=(((d%10):Nat):Int) from (by rw[Int.tmod_eq_emod_of_nonneg (by omega)]<;>omega)) (aI (wI64 (a:=((48:Int)+(((d%10):Nat):Int))) (r:=(((48+(d%10)):Nat):Int))) (aI (wU8 (a:=(((48+(d%10)):Nat):Int)) (r:=(((48+(d%10)):Nat):Int))) (aI (show 0+1≤([(nB (48+(d%10)))]).length∧(intsOf (List.take 1 (List.drop 0 [(nB (48+(d%10)))]))).map (fun ns=>(⟨(ns.map fun n=>UInt8.ofNat n.toNat).toArray⟩:ByteArray))=some (dstr [e]) from (b2s_one (by omega))) (aI (show (((st.size+(dstr [e]).size:Nat)):Int)≤9223372036854775807∧st++(dstr [e])=(st++(dstr [e])) from⟨by rw[show (dstr [e]).size=1 from rfl];omega,rfl⟩) (aI (wI64 (a:=((p:Int)+(1:Int))) (r:=(((p+1):Nat):Int))) tt)))))))))))))
 rw[←J_mv (slide 7 2) hjc 0]at h1
 rw[←J_mv (slide 7 2) hjc 1]at h1
 rw[←J_mv (slide 7 2) hjc 2]at h1
 rw[←J_mv (slide 7 2) hjc 3]at h1
 exact gets_slide2 (fr:=wh_h_f zs o n c ((ai+1)+1) v1 k w (p+1) (st++(dstr [e])) ([(J jc 0),(J jc 1),(J jc 2),(J jc 3)]) [(nI d),(nI p),(nI w),bT,(nI p),(nI (p+1)),(pt 5),(pt 5),(nI r0),(sl 7 3 3),(nI d),(nI p),bF,(.string st),(nI d),(.string (dstr [e])),(z_c8d_8 st e)]) (fr1:=⟨17,List.toArray [(pt 5),(nI k),undef,undef,(mv (slide 7 2) (J jc 2)),(nI w),(z_c8d_8 st e),(nI (p+1)),(nI d),(pt 5),(nI k),(mv (slide 7 2) (J jc 3)),(nI p),(nI w),bT,(nI p),(nI (p+1)),(pt 5),(pt 5),(nI r0),(sl 9 3 3),(nI d),(nI p),bF,(mv (slide 7 2) (J jc 0)),(mv (slide 7 2) (J jc 1)),(.string st),(nI d),(.string (dstr [e])),(z_c8d_8 st e),undef,undef,undef,undef,undef,undef,undef],[.code (cd Tryz.f17 [1,1,1,0,1,0,0]),.inLoop (cd Tryz.f17 [1,1,1,0,1,0,0]),.inBlock 0,.code (cd Tryz.f17 [1,1,1,1])],[],.run,.normal,none⟩) (nx1:=11) (b:=7) (k:=2) (l1:=[(5,(z_c8d_2 o n c ai v1)),(6,(z_c8d_0 o zs))]) (l2:=wh_h_o zs o n c ((ai+1)+1) v1 k w (p+1) (st++(dstr [e])) ([(J jc 0),(J jc 1),(J jc 2),(J jc 3)])) h1 (by kernel_rfl) rfl rfl rfl (by kernel_rfl) (by rw[hs0];decide) (by rw[hs0];decide) (by decide) (by decide) (by rfl) (by simp only[wh_h_o,List.map_cons,List.map_nil,mvO,closedL_mv _ _ (ints_closed _),closedL_mv _ _ (ns_closed _ _)];rfl) (by kernel_rfl)
theorem wh_oe(zs:List Int)(o n c i u ai au k w p:Nat)(st:ByteArray)(j jc:List Value)(hp:w≤p)(hs:st.size<1099511627776)(h0:(st.toList==(Seg.bts []).toList)=true)(hr:GT ⟨Frame.enter Tryz.prog 17 #[(pt 5),(nI k)] .normal,[],mkH 7 [(5,(z_c8d_3 o n c i u)),(6,(z_c8d_0 o zs))]⟩ (wh_h zs o n c ai au k w p st jc j)):CT 17 #[(pt 5),(nI k)] (mkH 7 [(5,(z_c8d_3 o n c i u)),(6,(z_c8d_0 o zs))]) (.string (bts [48])) (mkH 9 [(5,(z_c8d_4 o n c ai au)),(6,(z_c8d_0 o zs))]):=
 sF (sc:=[(5,.op (.rwB false)),(7,.op (.rwB true)),(7,.stay)]) (by kernel_rfl) (aI (dF (p:=(p:Int)<(w:Int))) (aI h0 tt)) hr
theorem wh_om(zs:List Int)(o n c i u ai au k w p:Nat)(st:ByteArray)(j jc:List Value)(hp:w≤p)(hs:st.size<1099511627776)(h0:(st.toList==(Seg.bts []).toList)=false)(v0 r0:Nat)(hr0:r0≤2)(hz:r0=0)(hc3:(FT 47 #[(pt 5),(lI 2)] 9 [(5,(z_c8d_4 o n c ai au)),(6,(z_c8d_0 o zs))] (nI r0) [(5,some (z_c8d_1 o n c ai v0)),(6,some (z_c8d_0 o zs))] []))(hr:GT ⟨Frame.enter Tryz.prog 17 #[(pt 5),(nI k)] .normal,[],mkH 7 [(5,(z_c8d_3 o n c i u)),(6,(z_c8d_0 o zs))]⟩ (wh_h zs o n c ai au k w p st jc j)):CT 17 #[(pt 5),(nI k)] (mkH 7 [(5,(z_c8d_3 o n c i u)),(6,(z_c8d_0 o zs))]) (.string ((bts [45])++st)) (mkH 9 [(5,(z_c8d_1 o n c ai v0)),(6,(z_c8d_0 o zs))]):=
 sF (sc:=[(5,.op (.rwB false)),(7,.op (.rwB false)),(17,.call [5,6] (nI r0) [(5,some (z_c8d_1 o n c ai v0)),(6,some (z_c8d_0 o zs))] []),(0,.op (.rwB true)),(9,.op (.cat ((bts [45])++st))),(3,.stay)]) (by kernel_rfl) (aI (dF (p:=(p:Int)<(w:Int))) (aI h0 (aI hc3 (aI (eT (a:=(r0:Int)) (b:=(0:Int))) (aI (show ((((bts [45]).size+st.size:Nat)):Int)≤9223372036854775807∧(bts [45])++st=((bts [45])++st) from⟨by rw[show (Seg.bts [45]).size=1 from rfl];omega,rfl⟩) tt))))) hr
theorem wh_on(zs:List Int)(o n c i u ai au k w p:Nat)(st:ByteArray)(j jc:List Value)(hp:w≤p)(hs:st.size<1099511627776)(h0:(st.toList==(Seg.bts []).toList)=false)(v0 r0:Nat)(hr0:r0≤2)(hz:r0≠0)(hc3:(FT 47 #[(pt 5),(lI 2)] 9 [(5,(z_c8d_4 o n c ai au)),(6,(z_c8d_0 o zs))] (nI r0) [(5,some (z_c8d_1 o n c ai v0)),(6,some (z_c8d_0 o zs))] []))(hr:GT ⟨Frame.enter Tryz.prog 17 #[(pt 5),(nI k)] .normal,[],mkH 7 [(5,(z_c8d_3 o n c i u)),(6,(z_c8d_0 o zs))]⟩ (wh_h zs o n c ai au k w p st jc j)):CT 17 #[(pt 5),(nI k)] (mkH 7 [(5,(z_c8d_3 o n c i u)),(6,(z_c8d_0 o zs))]) (.string st) (mkH 9 [(5,(z_c8d_1 o n c ai v0)),(6,(z_c8d_0 o zs))]):=
 sF (sc:=[(5,.op (.rwB false)),(7,.op (.rwB false)),(17,.call [5,6] (nI r0) [(5,some (z_c8d_1 o n c ai v0)),(6,some (z_c8d_0 o zs))] []),(0,.op (.rwB false)),(13,.stay)]) (by kernel_rfl) (aI (dF (p:=(p:Int)<(w:Int))) (aI h0 (aI hc3 (aI (eF (a:=(r0:Int)) (b:=(0:Int))) tt)))) hr
theorem dig_snoc{ds:List Nat}{e:Nat}(hd:Dig ds)(he:e<10):Dig (ds++[e]):=fun x hx=>by
 rcases List.mem_append.1 hx with q|q
 ·exact hd x q
 ·rw[List.mem_singleton]at q;omega
theorem head_snoc{ds:List Nat}{e:Nat}(h:ds.getD 0 0≠0):(ds++[e]).getD 0 0≠0:=by
 cases ds with
 |nil=>exact absurd rfl h
 |cons d ds=>exact h
theorem wh_loop{zs:List Int}{o n c k w i0:Nat}{s0:AS}(hs0:s0.h.next=7)(hn:n≤zs.length)(hi0:i0<4611686018427387904)(hw:w<1099511627776): ∀(m p i u:Nat) (ds:List Nat) (j jc:List Value),m=w-p→p≤w→ds.length=p→Dig ds→(0<p→ds.getD 0 0≠0)→i≤i0+1+3*p→FixJ (slide 7 2) jc→
  GT s0 (wh_h zs o n c i u k w p (dstr ds) jc j)→ ∃i' u' ds' j' jc',i'≤i0+1+3*w∧ds'.length=w∧Dig ds'∧(0<w→ds'.getD 0 0≠0)∧GT s0 (wh_h zs o n c i' u' k w w (dstr ds') jc' j'):=by
 intro m
 induction m with
 |zero=>
  intro p i u ds j jc hm hp hl hd h0 hi hj hr
  have:p=w:=by omega
  subst this
  exact⟨i,u,ds,j,jc,hi,hl,hd,h0,hr⟩
 |succ m ih=>
  intro p i u ds j jc hm hp hl hd h0 hi hj hr
  obtain⟨v0,r0,hr0,T0⟩:=up_c 9 5 6 zs o n c i u 9 (by omega) hn (by omega) (by omega)
  obtain⟨v1,r1,hr1,T1⟩:=up_c 10 5 6 zs o n c (i+1) v0 2 (by omega) hn (by omega) (by omega)
  obtain⟨d,hd9,hdd⟩: ∃d:Nat,d≤9∧([.int .i64 0,.int .i64 9,.int .i64 (r0:Nat)]:List Value)[r1]? =some (nI d):=by
   have:r1=0∨r1=1∨r1=2:=by omega
   rcases this with rfl|rfl|rfl
   ·exact⟨0,by omega,rfl⟩
   ·exact⟨9,by omega,rfl⟩
   ·exact⟨r0,hr0,rfl⟩
  have hsz:(dstr ds).size<1099511627776:=by rw[dstr_size];omega
  by_cases hp0:p=0
  ·obtain⟨v2,r2,hr2,T2⟩:=up_c 10 5 6 zs o n c (i+1+1) v1 8 (by omega) hn (by omega) (by omega)
   have r:=wh_s hs0 zs o n c i u k w p (dstr ds) j jc hj hw (by omega) hsz hp0 v0 r0 hr0 T0 v1 r1 hr1 d (1+r2) hdd hd9 T1 v2 r2 hr2 rfl T2 hr
   rw[dstr_snoc]at r
   refine ih (p+1) _ _ _ _ _ (by omega) (by omega) (by rw[List.length_append,hl];rfl) (dig_snoc hd (by omega)) (fun _=> ?_) (by omega) (by simp[FixJ,mvL,J_mv _ hj,mv,mvA,mvArr,slide,undef]) r
   have:ds=[]:=List.length_eq_zero_iff.1 (by omega)
   rw[this]
   show 1+r2≠0
   omega
  ·have r:=wh_r hs0 zs o n c i u k w p (dstr ds) j jc hj hw (by omega) hsz hp0 v0 r0 hr0 T0 v1 r1 hr1 d d hdd hd9 rfl T1 hr
   rw[dstr_snoc]at r
   exact ih (p+1) _ _ _ _ _ (by omega) (by omega) (by rw[List.length_append,hl];rfl) (dig_snoc hd (by omega)) (fun _=>head_snoc (h0 (by omega))) (by omega) (by simp[FixJ,mvL,J_mv _ hj,mv,mvA,mvArr,slide,undef]) r
theorem whole_c(n0 b L:Nat)(zs:List Int)(o n c i u k:Nat)(hb:5≤b∧b<n0∧5≤L∧L<n0∧b≠L)(hn:n≤zs.length)(hi:i<4611686018427387904)(hk:k<1099511627776)(hk0:0<k):
  ∃(z:Int) (i' u':Nat),(digs z.natAbs).length≤k∧i'≤i+2+3*k∧FT 17 #[pt b,.int .i64 ((k:Nat):Int)] n0 [(b,.cells [.slice (some ⟨L,o,none⟩) n c,.int .i64 ((i:Nat):Int),.int .u64 ((u:Nat):Int)] 62 none false),(L,.win o (zs.map (Value.int .i64)))] (.string (istr z)) [(b,some (.cells [.slice (some ⟨L,o,none⟩) n c,.int .i64 ((i':Nat):Int),.int .u64 ((u':Nat):Int)] 62 none false)),(L,some (.win o (zs.map (Value.int .i64))))] []:=by
 obtain⟨v,w,hw,T⟩:=up_c 7 5 6 zs o n c i u k (by omega) hn (by omega) hk
 have r0:=wh_in (s0:=⟨Frame.enter Tryz.prog 17 #[(pt 5),(nI k)] .normal,[],mkH 7 [(5,(.cells [(.slice (some ⟨6,o,none⟩) n c),(nI i),(nU u)] 62 none false)),(6,(.win o (zs.map (Value.int .i64))))]⟩) rfl zs o n c i u k hk v w hw T (Gets.refl _)
 obtain⟨i',u',ds,j',jc',h1,h2,h3,h4,h5⟩:=wh_loop rfl hn hi (by omega) w 0 _ _ [] _ _ rfl (Nat.zero_le _) rfl (fun x hx=>by cases hx) (fun h=>absurd h (by decide)) (by omega) (by simp[FixJ,mvL,mv,mvA,mvArr,slide,undef]) r0
 have hsz:(dstr ds).size<1099511627776:=by rw[dstr_size];omega
 rcases Nat.eq_zero_or_pos w with hw0|hw0
 ·have hds:ds=[]:=List.length_eq_zero_iff.1 (by omega)
  subst hds
  have S:=wh_oe zs o n c i u i' u' k w w (dstr []) j' jc' (Nat.le_refl _) hsz (by rw[ByteArray.toList_eq,ByteArray.toList_eq];rfl) h5
  refine⟨0,i',u',by rw[show (0:Int).natAbs=0 from rfl,digs_zero];exact hk0,by omega,?_⟩
  rw[show istr 0=Seg.bts [48] by rw[show (0:Int)=((0:Nat):Int) from rfl,istr_nn,digs_zero];rfl]
  exact fsp_move (os':=[.cells [.slice (some ⟨L,o,none⟩) n c,.int .i64 ((i:Nat):Int),.int .u64 ((u:Nat):Int)] 62 none false,.win o (zs.map (Value.int .i64))]) (ps':=[.cells [.slice (some ⟨L,o,none⟩) n c,.int .i64 ((i':Nat):Int),.int .u64 ((u':Nat):Int)] 62 none false,.win o (zs.map (Value.int .i64))]) (qs':=[]) [b,L] [.cells [.slice (some ⟨6,o,none⟩) n c,.int .i64 ((i:Nat):Int),.int .u64 ((u:Nat):Int)] 62 none false,.win o (zs.map (Value.int .i64))] [.cells [.slice (some ⟨6,o,none⟩) n c,.int .i64 ((i':Nat):Int),.int .u64 ((u':Nat):Int)] 62 none false,.win o (zs.map (Value.int .i64))] [] [] n0 (S) rfl rfl rfl (by simp[hb.2.2.2.2]) (by simp;omega) (by omega) rfl (by simp[goodO,goodL,good,okI,closedL_good _ _ (ints_closed zs)]) rfl (by simp only[List.map_cons,List.map_nil,mvO,closedL_mv _ _ (ints_closed zs)];rfl) (by simp only[List.map_cons,List.map_nil,mvO,closedL_mv _ _ (ints_closed zs)];rfl) rfl (by simp) (by simp) rfl rfl rfl
 ·have hne:((dstr ds).toList==(Seg.bts []).toList)=false:=by
   rw[ByteArray.toList_eq,ByteArray.toList_eq]
   cases ds with
   |nil=>rw[List.length_nil]at h2;omega
   |cons d ds=>rfl
  obtain⟨hdv,hpos⟩:=digs_dval (w-1) ds (by omega) h3 (h4 hw0)
  obtain⟨v2,r2,hr2,T2⟩:=up_c 9 5 6 zs o n c i' u' 2 (by omega) hn (by omega) (by omega)
  by_cases hz:r2=0
  ·have S:=wh_om zs o n c i u i' u' k w w (dstr ds) j' jc' (Nat.le_refl _) hsz hne v2 r2 hr2 hz T2 h5
   refine⟨-(dval ds:Int),i'+1,v2,by rw[Int.natAbs_neg,Int.natAbs_natCast,hdv];omega,by omega,?_⟩
   rw[istr_neg hpos,hdv,←mstr_catw]
   exact fsp_move (os':=[.cells [.slice (some ⟨L,o,none⟩) n c,.int .i64 ((i:Nat):Int),.int .u64 ((u:Nat):Int)] 62 none false,.win o (zs.map (Value.int .i64))]) (ps':=[.cells [.slice (some ⟨L,o,none⟩) n c,.int .i64 ((i'+1:Nat):Int),.int .u64 ((v2:Nat):Int)] 62 none false,.win o (zs.map (Value.int .i64))]) (qs':=[]) [b,L] [.cells [.slice (some ⟨6,o,none⟩) n c,.int .i64 ((i:Nat):Int),.int .u64 ((u:Nat):Int)] 62 none false,.win o (zs.map (Value.int .i64))] [.cells [.slice (some ⟨6,o,none⟩) n c,.int .i64 ((i'+1:Nat):Int),.int .u64 ((v2:Nat):Int)] 62 none false,.win o (zs.map (Value.int .i64))] [] [] n0 (S) rfl rfl rfl (by simp[hb.2.2.2.2]) (by simp;omega) (by omega) rfl (by simp[goodO,goodL,good,okI,closedL_good _ _ (ints_closed zs)]) rfl (by simp only[List.map_cons,List.map_nil,mvO,closedL_mv _ _ (ints_closed zs)];rfl) (by simp only[List.map_cons,List.map_nil,mvO,closedL_mv _ _ (ints_closed zs)];rfl) rfl (by simp) (by simp) rfl rfl rfl
  ·have S:=wh_on zs o n c i u i' u' k w w (dstr ds) j' jc' (Nat.le_refl _) hsz hne v2 r2 hr2 hz T2 h5
   refine⟨(dval ds:Int),i'+1,v2,by rw[Int.natAbs_natCast,hdv];omega,by omega,?_⟩
   rw[istr_nn,hdv]
   exact fsp_move (os':=[.cells [.slice (some ⟨L,o,none⟩) n c,.int .i64 ((i:Nat):Int),.int .u64 ((u:Nat):Int)] 62 none false,.win o (zs.map (Value.int .i64))]) (ps':=[.cells [.slice (some ⟨L,o,none⟩) n c,.int .i64 ((i'+1:Nat):Int),.int .u64 ((v2:Nat):Int)] 62 none false,.win o (zs.map (Value.int .i64))]) (qs':=[]) [b,L] [.cells [.slice (some ⟨6,o,none⟩) n c,.int .i64 ((i:Nat):Int),.int .u64 ((u:Nat):Int)] 62 none false,.win o (zs.map (Value.int .i64))] [.cells [.slice (some ⟨6,o,none⟩) n c,.int .i64 ((i'+1:Nat):Int),.int .u64 ((v2:Nat):Int)] 62 none false,.win o (zs.map (Value.int .i64))] [] [] n0 (S) rfl rfl rfl (by simp[hb.2.2.2.2]) (by simp;omega) (by omega) rfl (by simp[goodO,goodL,good,okI,closedL_good _ _ (ints_closed zs)]) rfl (by simp only[List.map_cons,List.map_nil,mvO,closedL_mv _ _ (ints_closed zs)];rfl) (by simp only[List.map_cons,List.map_nil,mvO,closedL_mv _ _ (ints_closed zs)];rfl) rfl (by simp) (by simp) rfl rfl rfl
noncomputable section
abbrev z_332_0(ai v0:Nat):AObj:=.cells [(.slice none 0 0),(nI (ai+1)),(nU v0)] 62 none false
abbrev z_332_8(i u:Nat):AObj:=.cells [(.slice none 0 0),(nI i),(nU u)] 62 none false
abbrev z_332_1(k i u:Nat):AS:=⟨Frame.enter Tryz.prog 17 #[(pt 5),(nI k)] .normal,[],mkH 6 [(5,(z_332_8 i u))]⟩
abbrev z_332_2(ai v1:Nat):AObj:=.cells [(.slice none 0 0),(nI ((ai+1)+1)),(nU v1)] 62 none false
abbrev z_332_3(ai au:Nat):AObj:=.cells [(.slice none 0 0),(nI ai),(nU au)] 62 none false
abbrev z_332_4(ai v2:Nat):AObj:=.cells [(.slice none 0 0),(nI (((ai+1)+1)+1)),(nU v2)] 62 none false
abbrev z_332_5(i v0:Nat):AObj:=.cells [(.slice none 0 0),(nI (i+1)),(nU v0)] 62 none false
abbrev z_332_6:List Value:=[undef,undef,undef,undef,undef,undef,undef,undef,undef,undef,undef,undef,undef,undef,undef,undef,undef]
abbrev z_332_7(st:ByteArray)(e:Nat):Value:=.string (st++(dstr [e]))
end
noncomputable def whn_h_f(ai au k w p:Nat)(st:ByteArray)(jc:List Value)(j:List Value):Frame:=⟨17,List.toArray [(pt 5),(nI k),uu,uu,(J jc 2),(nI w),(.string st),(nI p),(J j 0),(pt 5),(nI k),(J jc 3),(J j 1),(J j 2),(J j 3),(J j 4),(J j 5),(J j 6),(J j 7),(J j 8),(J j 9),(J j 10),(J j 11),(J j 12),(J jc 0),(J jc 1),(J j 13),(J j 14),(J j 15),(J j 16),uu,uu,uu,uu,uu,uu,uu],[.code (cd Tryz.f17 [1,1,1,0,1,0,0]),.inLoop (cd Tryz.f17 [1,1,1,0,1,0,0]),.inBlock 0,.code (cd Tryz.f17 [1,1,1,1])],[],.run,.normal,none⟩
noncomputable def whn_h_o(ai au k w p:Nat)(st:ByteArray)(jc:List Value):List (Nat×AObj):=[(5,(z_332_3 ai au))]
noncomputable def whn_h(ai au k w p:Nat)(st:ByteArray)(jc:List Value)(j:List Value):AS:=⟨whn_h_f ai au k w p st jc j,[],mkH 8 (whn_h_o ai au k w p st jc)⟩
theorem whn_in{s0:AS}(hs0:s0.h.next=6)(i u k:Nat)(hk:k<1099511627776)(v0 r0:Nat)(hr0:r0≤k)(hc2:(FT 47 #[(pt 5),(nI k)] 6 [(5,(z_332_8 i u))] (nI r0) [(5,some (z_332_5 i v0))] []))(hr:GT s0 (z_332_1 k i u)):GT s0 (whn_h (i+1) v0 k r0 0 (bts []) ([undef,undef,(.string (bts [])),(nI r0)]) z_332_6):=by
 have h1:=hr.trans (sR (sc:=[(8,.call [5] (nI r0) [(5,some (z_332_5 i v0))] []),(13,.stay)]) (fr1:=⟨17,List.toArray [(pt 5),(nI k),uu,uu,(.string (bts [])),(nI r0),(.string (bts [])),(lI 0),uu,(pt 5),(nI k),(nI r0),uu,uu,uu,uu,uu,uu,uu,uu,uu,uu,uu,uu,uu,uu,uu,uu,uu,uu,uu,uu,uu,uu,uu,uu,uu],[.code (cd Tryz.f17 [1,1,1,0,1,0,0]),.inLoop (cd Tryz.f17 [1,1,1,0,1,0,0]),.inBlock 0,.code (cd Tryz.f17 [1,1,1,1])],[],.run,.normal,none⟩) (next:=6) (l:=[(5,(z_332_5 i v0))]) (by kernel_rfl) (aI hc2 tt))
 exact gets_slide2 (fr:=whn_h_f (i+1) v0 k r0 0 (bts []) ([undef,undef,(.string (bts [])),(nI r0)]) z_332_6) (fr1:=⟨17,List.toArray [(pt 5),(nI k),undef,undef,(.string (bts [])),(nI r0),(.string (bts [])),(lI 0),undef,(pt 5),(nI k),(nI r0),undef,undef,undef,undef,undef,undef,undef,undef,undef,undef,undef,undef,undef,undef,undef,undef,undef,undef,undef,undef,undef,undef,undef,undef,undef],[.code (cd Tryz.f17 [1,1,1,0,1,0,0]),.inLoop (cd Tryz.f17 [1,1,1,0,1,0,0]),.inBlock 0,.code (cd Tryz.f17 [1,1,1,1])],[],.run,.normal,none⟩) (nx1:=6) (b:=6) (k:=0) (l1:=[(5,(z_332_5 i v0))]) (l2:=whn_h_o (i+1) v0 k r0 0 (bts []) ([undef,undef,(.string (bts [])),(nI r0)])) h1 (by kernel_rfl) rfl rfl rfl (by kernel_rfl) (by rw[hs0];decide) (by rw[hs0];decide) (by decide) (by decide) (by rfl) (by simp only[whn_h_o,List.map_cons,List.map_nil,mvO,closedL_mv _ _ (ints_closed _),closedL_mv _ _ (ns_closed _ _)];rfl) (by kernel_rfl)
theorem whn_s{s0:AS}(hs0:s0.h.next=6)(ai au k w p:Nat)(st:ByteArray)(j jc:List Value)(hjc:FixJ (slide 6 2) jc)(hw:w<1099511627776)(hp:p<w)(hs:st.size<1099511627776)(h0:p=0)(v0 r0:Nat)(hr0:r0≤9)(hc2:(FT 47 #[(pt 5),(lI 9)] 8 [(5,(z_332_3 ai au))] (nI r0) [(5,some (z_332_0 ai v0))] []))(v1 r1:Nat)(hr1:r1≤2)(d e:Nat)(hd:([.int .i64 0,.int .i64 9,.int .i64 (r0:Nat)]:List Value)[r1]? =some (nI d))(hd9:d≤9)(hc6:(FT 47 #[(pt 5),(lI 2)] 9 [(5,(z_332_0 ai v0))] (nI r1) [(5,some (z_332_2 ai v1))] []))(v2 r2:Nat)(hr2:r2≤8)(he:e=(1+r2))(hc9:FT 47 #[(pt 5),(lI 8)] 9 [(5,(z_332_2 ai v1))] (nI r2) [(5,some (z_332_4 ai v2))] [])(hr:GT s0 (whn_h ai au k w p st jc j)):GT s0 (whn_h (((ai+1)+1)+1) v2 k w (p+1) (st++(dstr [e])) ([(pt 5),(nI (1+r2)),(J jc 2),(J jc 3)]) [(nI (1+r2)),(nI p),(nI w),bT,(nI p),(nI (p+1)),(pt 5),(pt 5),(nI r0),(sl 6 3 3),(nI d),(nI p),bT,(.string st),(nI (1+r2)),(.string (dstr [e])),(z_332_7 st e)]):=by
 have h1:=hr.trans (sR (sc:=[(5,.op (.rwB true)),(9,.call [5] (nI r0) [(5,some (z_332_0 ai v0))] []),(13,.call [5] (nI r1) [(5,some (z_332_2 ai v1))] []),(0,.op (.idx r1)),(0,.op (.ld (nI d))),(10,.op (.rwB true)),(16,.call [5] (nI r2) [(5,some (z_332_4 ai v2))] []),(0,.op (.rwI (((1+r2):Nat):Int))),(17,.op (.rwI ((((1+r2)%10):Nat):Int))),(0,.op (.rwI (((48+((1+r2)%10)):Nat):Int))),(0,.op (.rwI (((48+((1+r2)%10)):Nat):Int))),(1,.op (.b2s (dstr [e]))),(4,.op (.cat (st++(dstr [e])))),(5,.op (.rwI (((p+1):Nat):Int))),(3,.stay)]) (fr1:=⟨17,List.toArray [(pt 5),(nI k),uu,uu,(J jc 2),(nI w),(z_332_7 st e),(nI (p+1)),(nI (1+r2)),(pt 5),(nI k),(J jc 3),(nI p),(nI w),bT,(nI p),(nI (p+1)),(pt 5),(pt 5),(nI r0),(sl 8 3 3),(nI d),(nI p),bT,(pt 5),(nI (1+r2)),(.string st),(nI (1+r2)),(.string (dstr [e])),(z_332_7 st e),uu,uu,uu,uu,uu,uu,uu],[.code (cd Tryz.f17 [1,1,1,0,1,0,0]),.inLoop (cd Tryz.f17 [1,1,1,0,1,0,0]),.inBlock 0,.code (cd Tryz.f17 [1,1,1,1])],[],.run,.normal,none⟩) (next:=10) (l:=[(5,(z_332_4 ai v2))]) (by kernel_rfl) (aI (dT (p:=(p:Int)<(w:Int))) (aI hc2 (aI hc6 (aI (ix (r1:Int) ((3:Nat):Int) 0 1 r1) (aI hd (aI (eT (a:=(p:Int)) (b:=(0:Int))) (aI hc9 (aI (wI64 (a:=((1:Int)+(r2:Int))) (r:=(((1+r2):Nat):Int))) (aI (show (Int.tmod (((1+r2):Nat):Int) (10:Int))=((((1+r2)%10):Nat):Int) from (by rw[Int.tmod_eq_emod_of_nonneg (by omega)]<;>omega)) (aI (wI64 (a:=((48:Int)+((((1+r2)%10):Nat):Int))) (r:=(((48+((1+r2)%10)):Nat):Int))) (aI (wU8 (a:=(((48+((1+r2)%10)):Nat):Int)) (r:=(((48+((1+r2)%10)):Nat):Int))) (aI (show 0+1≤([(nB (48+((1+r2)%10)))]).length∧(intsOf (List.take 1 (List.drop 0 [(nB (48+((1+r2)%10)))]))).map (fun ns=>(⟨(ns.map fun n=>UInt8.ofNat n.toNat).toArray⟩:ByteArray))=some (dstr [e]) from (b2s_one (by omega))) (aI (show (((st.size+(dstr [e]).size:Nat)):Int)≤9223372036854775807∧st++(dstr [e])=(st++(dstr [e])) from⟨by rw[show (dstr [e]).size=1 from rfl];omega,rfl⟩) (aI (wI64 (a:=((p:Int)+(1:Int))) (r:=(((p+1):Nat):Int))) tt)))))))))))))))
 rw[←J_mv (slide 6 2) hjc 2]at h1
 rw[←J_mv (slide 6 2) hjc 3]at h1
 exact gets_slide2 (fr:=whn_h_f (((ai+1)+1)+1) v2 k w (p+1) (st++(dstr [e])) ([(pt 5),(nI (1+r2)),(J jc 2),(J jc 3)]) [(nI (1+r2)),(nI p),(nI w),bT,(nI p),(nI (p+1)),(pt 5),(pt 5),(nI r0),(sl 6 3 3),(nI d),(nI p),bT,(.string st),(nI (1+r2)),(.string (dstr [e])),(z_332_7 st e)]) (fr1:=⟨17,List.toArray [(pt 5),(nI k),undef,undef,(mv (slide 6 2) (J jc 2)),(nI w),(z_332_7 st e),(nI (p+1)),(nI (1+r2)),(pt 5),(nI k),(mv (slide 6 2) (J jc 3)),(nI p),(nI w),bT,(nI p),(nI (p+1)),(pt 5),(pt 5),(nI r0),(sl 8 3 3),(nI d),(nI p),bT,(pt 5),(nI (1+r2)),(.string st),(nI (1+r2)),(.string (dstr [e])),(z_332_7 st e),undef,undef,undef,undef,undef,undef,undef],[.code (cd Tryz.f17 [1,1,1,0,1,0,0]),.inLoop (cd Tryz.f17 [1,1,1,0,1,0,0]),.inBlock 0,.code (cd Tryz.f17 [1,1,1,1])],[],.run,.normal,none⟩) (nx1:=10) (b:=6) (k:=2) (l1:=[(5,(z_332_4 ai v2))]) (l2:=whn_h_o (((ai+1)+1)+1) v2 k w (p+1) (st++(dstr [e])) ([(pt 5),(nI (1+r2)),(J jc 2),(J jc 3)])) h1 (by kernel_rfl) rfl rfl rfl (by kernel_rfl) (by rw[hs0];decide) (by rw[hs0];decide) (by decide) (by decide) (by rfl) (by simp only[whn_h_o,List.map_cons,List.map_nil,mvO,closedL_mv _ _ (ints_closed _),closedL_mv _ _ (ns_closed _ _)];rfl) (by kernel_rfl)
theorem whn_r{s0:AS}(hs0:s0.h.next=6)(ai au k w p:Nat)(st:ByteArray)(j jc:List Value)(hjc:FixJ (slide 6 2) jc)(hw:w<1099511627776)(hp:p<w)(hs:st.size<1099511627776)(h0:p≠0)(v0 r0:Nat)(hr0:r0≤9)(hc2:(FT 47 #[(pt 5),(lI 9)] 8 [(5,(z_332_3 ai au))] (nI r0) [(5,some (z_332_0 ai v0))] []))(v1 r1:Nat)(hr1:r1≤2)(d e:Nat)(hd:([.int .i64 0,.int .i64 9,.int .i64 (r0:Nat)]:List Value)[r1]? =some (nI d))(hd9:d≤9)(he:e=d)(hc6:(FT 47 #[(pt 5),(lI 2)] 9 [(5,(z_332_0 ai v0))] (nI r1) [(5,some (z_332_2 ai v1))] []))(hr:GT s0 (whn_h ai au k w p st jc j)):GT s0 (whn_h ((ai+1)+1) v1 k w (p+1) (st++(dstr [e])) ([(J jc 0),(J jc 1),(J jc 2),(J jc 3)]) [(nI d),(nI p),(nI w),bT,(nI p),(nI (p+1)),(pt 5),(pt 5),(nI r0),(sl 6 3 3),(nI d),(nI p),bF,(.string st),(nI d),(.string (dstr [e])),(z_332_7 st e)]):=by
 have h1:=hr.trans (sR (sc:=[(5,.op (.rwB true)),(9,.call [5] (nI r0) [(5,some (z_332_0 ai v0))] []),(13,.call [5] (nI r1) [(5,some (z_332_2 ai v1))] []),(0,.op (.idx r1)),(0,.op (.ld (nI d))),(10,.op (.rwB false)),(14,.op (.rwI (((d%10):Nat):Int))),(0,.op (.rwI (((48+(d%10)):Nat):Int))),(0,.op (.rwI (((48+(d%10)):Nat):Int))),(1,.op (.b2s (dstr [e]))),(4,.op (.cat (st++(dstr [e])))),(5,.op (.rwI (((p+1):Nat):Int))),(3,.stay)]) (fr1:=⟨17,List.toArray [(pt 5),(nI k),uu,uu,(J jc 2),(nI w),(z_332_7 st e),(nI (p+1)),(nI d),(pt 5),(nI k),(J jc 3),(nI p),(nI w),bT,(nI p),(nI (p+1)),(pt 5),(pt 5),(nI r0),(sl 8 3 3),(nI d),(nI p),bF,(J jc 0),(J jc 1),(.string st),(nI d),(.string (dstr [e])),(z_332_7 st e),uu,uu,uu,uu,uu,uu,uu],[.code (cd Tryz.f17 [1,1,1,0,1,0,0]),.inLoop (cd Tryz.f17 [1,1,1,0,1,0,0]),.inBlock 0,.code (cd Tryz.f17 [1,1,1,1])],[],.run,.normal,none⟩) (next:=10) (l:=[(5,(z_332_2 ai v1))]) (by kernel_rfl) (aI (dT (p:=(p:Int)<(w:Int))) (aI hc2 (aI hc6 (aI (ix (r1:Int) ((3:Nat):Int) 0 1 r1) (aI hd (aI (eF (a:=(p:Int)) (b:=(0:Int))) (aI (show (Int.tmod (d:Int) (10:Int))=(((d%10):Nat):Int) from (by rw[Int.tmod_eq_emod_of_nonneg (by omega)]<;>omega)) (aI (wI64 (a:=((48:Int)+(((d%10):Nat):Int))) (r:=(((48+(d%10)):Nat):Int))) (aI (wU8 (a:=(((48+(d%10)):Nat):Int)) (r:=(((48+(d%10)):Nat):Int))) (aI (show 0+1≤([(nB (48+(d%10)))]).length∧(intsOf (List.take 1 (List.drop 0 [(nB (48+(d%10)))]))).map (fun ns=>(⟨(ns.map fun n=>UInt8.ofNat n.toNat).toArray⟩:ByteArray))=some (dstr [e]) from (b2s_one (by omega))) (aI (show (((st.size+(dstr [e]).size:Nat)):Int)≤9223372036854775807∧st++(dstr [e])=(st++(dstr [e])) from⟨by rw[show (dstr [e]).size=1 from rfl];omega,rfl⟩) (aI (wI64 (a:=((p:Int)+(1:Int))) (r:=(((p+1):Nat):Int))) tt)))))))))))))
 rw[←J_mv (slide 6 2) hjc 0]at h1
 rw[←J_mv (slide 6 2) hjc 1]at h1
 rw[←J_mv (slide 6 2) hjc 2]at h1
 rw[←J_mv (slide 6 2) hjc 3]at h1
 exact gets_slide2 (fr:=whn_h_f ((ai+1)+1) v1 k w (p+1) (st++(dstr [e])) ([(J jc 0),(J jc 1),(J jc 2),(J jc 3)]) [(nI d),(nI p),(nI w),bT,(nI p),(nI (p+1)),(pt 5),(pt 5),(nI r0),(sl 6 3 3),(nI d),(nI p),bF,(.string st),(nI d),(.string (dstr [e])),(z_332_7 st e)]) (fr1:=⟨17,List.toArray [(pt 5),(nI k),undef,undef,(mv (slide 6 2) (J jc 2)),(nI w),(z_332_7 st e),(nI (p+1)),(nI d),(pt 5),(nI k),(mv (slide 6 2) (J jc 3)),(nI p),(nI w),bT,(nI p),(nI (p+1)),(pt 5),(pt 5),(nI r0),(sl 8 3 3),(nI d),(nI p),bF,(mv (slide 6 2) (J jc 0)),(mv (slide 6 2) (J jc 1)),(.string st),(nI d),(.string (dstr [e])),(z_332_7 st e),undef,undef,undef,undef,undef,undef,undef],[.code (cd Tryz.f17 [1,1,1,0,1,0,0]),.inLoop (cd Tryz.f17 [1,1,1,0,1,0,0]),.inBlock 0,.code (cd Tryz.f17 [1,1,1,1])],[],.run,.normal,none⟩) (nx1:=10) (b:=6) (k:=2) (l1:=[(5,(z_332_2 ai v1))]) (l2:=whn_h_o ((ai+1)+1) v1 k w (p+1) (st++(dstr [e])) ([(J jc 0),(J jc 1),(J jc 2),(J jc 3)])) h1 (by kernel_rfl) rfl rfl rfl (by kernel_rfl) (by rw[hs0];decide) (by rw[hs0];decide) (by decide) (by decide) (by rfl) (by simp only[whn_h_o,List.map_cons,List.map_nil,mvO,closedL_mv _ _ (ints_closed _),closedL_mv _ _ (ns_closed _ _)];rfl) (by kernel_rfl)
theorem whn_oe(i u ai au k w p:Nat)(st:ByteArray)(j jc:List Value)(hp:w≤p)(hs:st.size<1099511627776)(h0:(st.toList==(Seg.bts []).toList)=true)(hr:GT (z_332_1 k i u) (whn_h ai au k w p st jc j)):CT 17 #[(pt 5),(nI k)] (mkH 6 [(5,(z_332_8 i u))]) (.string (bts [48])) (mkH 8 [(5,(z_332_3 ai au))]):=
 sF (sc:=[(5,.op (.rwB false)),(7,.op (.rwB true)),(7,.stay)]) (by kernel_rfl) (aI (dF (p:=(p:Int)<(w:Int))) (aI h0 tt)) hr
theorem whn_om(i u ai au k w p:Nat)(st:ByteArray)(j jc:List Value)(hp:w≤p)(hs:st.size<1099511627776)(h0:(st.toList==(Seg.bts []).toList)=false)(v0 r0:Nat)(hr0:r0≤2)(hz:r0=0)(hc3:(FT 47 #[(pt 5),(lI 2)] 8 [(5,(z_332_3 ai au))] (nI r0) [(5,some (z_332_0 ai v0))] []))(hr:GT (z_332_1 k i u) (whn_h ai au k w p st jc j)):CT 17 #[(pt 5),(nI k)] (mkH 6 [(5,(z_332_8 i u))]) (.string ((bts [45])++st)) (mkH 8 [(5,(z_332_0 ai v0))]):=
 sF (sc:=[(5,.op (.rwB false)),(7,.op (.rwB false)),(17,.call [5] (nI r0) [(5,some (z_332_0 ai v0))] []),(0,.op (.rwB true)),(9,.op (.cat ((bts [45])++st))),(3,.stay)]) (by kernel_rfl) (aI (dF (p:=(p:Int)<(w:Int))) (aI h0 (aI hc3 (aI (eT (a:=(r0:Int)) (b:=(0:Int))) (aI (show ((((bts [45]).size+st.size:Nat)):Int)≤9223372036854775807∧(bts [45])++st=((bts [45])++st) from⟨by rw[show (Seg.bts [45]).size=1 from rfl];omega,rfl⟩) tt))))) hr
theorem whn_on(i u ai au k w p:Nat)(st:ByteArray)(j jc:List Value)(hp:w≤p)(hs:st.size<1099511627776)(h0:(st.toList==(Seg.bts []).toList)=false)(v0 r0:Nat)(hr0:r0≤2)(hz:r0≠0)(hc3:(FT 47 #[(pt 5),(lI 2)] 8 [(5,(z_332_3 ai au))] (nI r0) [(5,some (z_332_0 ai v0))] []))(hr:GT (z_332_1 k i u) (whn_h ai au k w p st jc j)):CT 17 #[(pt 5),(nI k)] (mkH 6 [(5,(z_332_8 i u))]) (.string st) (mkH 8 [(5,(z_332_0 ai v0))]):=
 sF (sc:=[(5,.op (.rwB false)),(7,.op (.rwB false)),(17,.call [5] (nI r0) [(5,some (z_332_0 ai v0))] []),(0,.op (.rwB false)),(13,.stay)]) (by kernel_rfl) (aI (dF (p:=(p:Int)<(w:Int))) (aI h0 (aI hc3 (aI (eF (a:=(r0:Int)) (b:=(0:Int))) tt)))) hr
theorem whn_loop{k w i0:Nat}{s0:AS}(hs0:s0.h.next=6)(hi0:i0<4611686018427387904)(hw:w<1099511627776): ∀(m p i u:Nat) (ds:List Nat) (j jc:List Value),m=w-p→p≤w→ds.length=p→Dig ds→(0<p→ds.getD 0 0≠0)→i≤i0+1+3*p→FixJ (slide 6 2) jc→
  GT s0 (whn_h i u k w p (dstr ds) jc j)→ ∃i' u' ds' j' jc',i'≤i0+1+3*w∧ds'.length=w∧Dig ds'∧(0<w→ds'.getD 0 0≠0)∧GT s0 (whn_h i' u' k w w (dstr ds') jc' j'):=by
 intro m
 induction m with
 |zero=>
  intro p i u ds j jc hm hp hl hd h0 hi hj hr
  have:p=w:=by omega
  subst this
  exact⟨i,u,ds,j,jc,hi,hl,hd,h0,hr⟩
 |succ m ih=>
  intro p i u ds j jc hm hp hl hd h0 hi hj hr
  obtain⟨v0,r0,hr0,T0⟩:=upn_c 8 5 i u 9 (by omega) (by omega) (by omega)
  obtain⟨v1,r1,hr1,T1⟩:=upn_c 9 5 (i+1) v0 2 (by omega) (by omega) (by omega)
  obtain⟨d,hd9,hdd⟩: ∃d:Nat,d≤9∧([.int .i64 0,.int .i64 9,.int .i64 (r0:Nat)]:List Value)[r1]? =some (nI d):=by
   have:r1=0∨r1=1∨r1=2:=by omega
   rcases this with rfl|rfl|rfl
   ·exact⟨0,by omega,rfl⟩
   ·exact⟨9,by omega,rfl⟩
   ·exact⟨r0,hr0,rfl⟩
  have hsz:(dstr ds).size<1099511627776:=by rw[dstr_size];omega
  by_cases hp0:p=0
  ·obtain⟨v2,r2,hr2,T2⟩:=upn_c 9 5 (i+1+1) v1 8 (by omega) (by omega) (by omega)
   have r:=whn_s hs0 i u k w p (dstr ds) j jc hj hw (by omega) hsz hp0 v0 r0 hr0 T0 v1 r1 hr1 d (1+r2) hdd hd9 T1 v2 r2 hr2 rfl T2 hr
   rw[dstr_snoc]at r
   refine ih (p+1) _ _ _ _ _ (by omega) (by omega) (by rw[List.length_append,hl];rfl) (dig_snoc hd (by omega)) (fun _=> ?_) (by omega) (by simp[FixJ,mvL,J_mv _ hj,mv,mvA,mvArr,slide,undef]) r
   have:ds=[]:=List.length_eq_zero_iff.1 (by omega)
   rw[this]
   show 1+r2≠0
   omega
  ·have r:=whn_r hs0 i u k w p (dstr ds) j jc hj hw (by omega) hsz hp0 v0 r0 hr0 T0 v1 r1 hr1 d d hdd hd9 rfl T1 hr
   rw[dstr_snoc]at r
   exact ih (p+1) _ _ _ _ _ (by omega) (by omega) (by rw[List.length_append,hl];rfl) (dig_snoc hd (by omega)) (fun _=>head_snoc (h0 (by omega))) (by omega) (by simp[FixJ,mvL,J_mv _ hj,mv,mvA,mvArr,slide,undef]) r
theorem wholen_c(n0 b:Nat)(i u k:Nat)(hb:5≤b∧b<n0)(hi:i<4611686018427387904)(hk:k<1099511627776)(hk0:0<k):
  ∃(z:Int) (i' u':Nat),(digs z.natAbs).length≤k∧i'≤i+2+3*k∧FT 17 #[pt b,.int .i64 ((k:Nat):Int)] n0 [(b,.cells [.slice none 0 0,.int .i64 ((i:Nat):Int),.int .u64 ((u:Nat):Int)] 62 none false)] (.string (istr z)) [(b,some (.cells [.slice none 0 0,.int .i64 ((i':Nat):Int),.int .u64 ((u':Nat):Int)] 62 none false))] []:=by
 obtain⟨v,w,hw,T⟩:=upn_c 6 5 i u k (by omega) (by omega) hk
 have r0:=whn_in (s0:=⟨Frame.enter Tryz.prog 17 #[(pt 5),(nI k)] .normal,[],mkH 6 [(5,(.cells [(.slice none 0 0),(nI i),(nU u)] 62 none false))]⟩) rfl i u k hk v w hw T (Gets.refl _)
 obtain⟨i',u',ds,j',jc',h1,h2,h3,h4,h5⟩:=whn_loop rfl hi (by omega) w 0 _ _ [] _ _ rfl (Nat.zero_le _) rfl (fun x hx=>by cases hx) (fun h=>absurd h (by decide)) (by omega) (by simp[FixJ,mvL,mv,mvA,mvArr,slide,undef]) r0
 have hsz:(dstr ds).size<1099511627776:=by rw[dstr_size];omega
 rcases Nat.eq_zero_or_pos w with hw0|hw0
 ·have hds:ds=[]:=List.length_eq_zero_iff.1 (by omega)
  subst hds
  have S:=whn_oe i u i' u' k w w (dstr []) j' jc' (Nat.le_refl _) hsz (by rw[ByteArray.toList_eq,ByteArray.toList_eq];rfl) h5
  refine⟨0,i',u',by rw[show (0:Int).natAbs=0 from rfl,digs_zero];exact hk0,by omega,?_⟩
  rw[show istr 0=Seg.bts [48] by rw[show (0:Int)=((0:Nat):Int) from rfl,istr_nn,digs_zero];rfl]
  exact fsp_flat [b] [.cells [.slice none 0 0,.int .i64 ((i:Nat):Int),.int .u64 ((u:Nat):Int)] 62 none false] [.cells [.slice none 0 0,.int .i64 ((i':Nat):Int),.int .u64 ((u':Nat):Int)] 62 none false] [] [] n0 (S) rfl rfl rfl (by simp) (by simp;omega) (by omega) (by simp[flat,closedL,closed]) (by simp[flat,closedL,closed]) rfl (by simp) (by simp) rfl rfl rfl
 ·have hne:((dstr ds).toList==(Seg.bts []).toList)=false:=by
   rw[ByteArray.toList_eq,ByteArray.toList_eq]
   cases ds with
   |nil=>rw[List.length_nil]at h2;omega
   |cons d ds=>rfl
  obtain⟨hdv,hpos⟩:=digs_dval (w-1) ds (by omega) h3 (h4 hw0)
  obtain⟨v2,r2,hr2,T2⟩:=upn_c 8 5 i' u' 2 (by omega) (by omega) (by omega)
  by_cases hz:r2=0
  ·have S:=whn_om i u i' u' k w w (dstr ds) j' jc' (Nat.le_refl _) hsz hne v2 r2 hr2 hz T2 h5
   refine⟨-(dval ds:Int),i'+1,v2,by rw[Int.natAbs_neg,Int.natAbs_natCast,hdv];omega,by omega,?_⟩
   rw[istr_neg hpos,hdv,←mstr_catw]
   exact fsp_flat [b] [.cells [.slice none 0 0,.int .i64 ((i:Nat):Int),.int .u64 ((u:Nat):Int)] 62 none false] [.cells [.slice none 0 0,.int .i64 ((i'+1:Nat):Int),.int .u64 ((v2:Nat):Int)] 62 none false] [] [] n0 (S) rfl rfl rfl (by simp) (by simp;omega) (by omega) (by simp[flat,closedL,closed]) (by simp[flat,closedL,closed]) rfl (by simp) (by simp) rfl rfl rfl
  ·have S:=whn_on i u i' u' k w w (dstr ds) j' jc' (Nat.le_refl _) hsz hne v2 r2 hr2 hz T2 h5
   refine⟨(dval ds:Int),i'+1,v2,by rw[Int.natAbs_natCast,hdv];omega,by omega,?_⟩
   rw[istr_nn,hdv]
   exact fsp_flat [b] [.cells [.slice none 0 0,.int .i64 ((i:Nat):Int),.int .u64 ((u:Nat):Int)] 62 none false] [.cells [.slice none 0 0,.int .i64 ((i'+1:Nat):Int),.int .u64 ((v2:Nat):Int)] 62 none false] [] [] n0 (S) rfl rfl rfl (by simp) (by simp;omega) (by omega) (by simp[flat,closedL,closed]) (by simp[flat,closedL,closed]) rfl (by simp) (by simp) rfl rfl rfl
end Go.Proofs.YtldoiilgfcpipaaGreatDoor
