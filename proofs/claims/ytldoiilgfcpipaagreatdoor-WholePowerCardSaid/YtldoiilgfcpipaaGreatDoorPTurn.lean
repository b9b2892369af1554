import Derived.Test.YtldoiilgfcpipaaGreatDoorK
import Derived.Test.YtldoiilgfcpipaaGreatDoorLF
import Derived.Test.YtldoiilgfcpipaaGreatDoorLE
import Derived.Test.YtldoiilgfcpipaaGreatDoorPWPowMod
set_option linter.unusedVariables false
set_option linter.unusedSimpArgs false
set_option maxRecDepth 100000
namespace Go.Proofs.YtldoiilgfcpipaaGreatDoor
open Go Go.AE Seg
noncomputable section
abbrev z_6b1_0(o n c i b4:Nat)(zs:List Int):List (Nat×AObj):=[(5,(.cells [(sw 6 o n c),(nI (i+1)),(nU b4)] 62 none false)),(6,(.win o (zs.map (Value.int .i64))))]
end
theorem tn_a(zs:List Int)(o n c i u:Nat)(z:Int)(hx:(zs.map (Value.int .i64))[i]? =some (.int .i64 z))(hi:i<n)(hm:i<9223372036854775000)(a1:Nat)(ha1:IntKind.wrap .u64 ((((i+1):Nat):Int)*(13503953896175478587:Int))=(a1:Int))(a2:Nat)(ha2:IntKind.wrap .u64 z=(a2:Int))(a3:Nat)(ha3:IntKind.wrap .u64 ((a2:Int)*(4354685564936845355:Int))=(a3:Int))(a4:Nat)(ha4:IntKind.wrap .u64 ((a1:Int)+(a3:Int))=(a4:Int))(b1:Nat)(hb1:IntKind.wrap .u64 (((BitVec.ofInt 64 (u:Int)^^^BitVec.ofInt 64 (a4:Int)).toNat:Nat):Int)=(b1:Int))(b2:Nat)(hb2:IntKind.wrap .u64 ((b1:Int)*(11912009170470909681:Int))=(b2:Int))(b3:Nat)(hb3:(Int.fdiv (b2:Int) (2^31))=(b3:Int))(b4:Nat)(hb4:IntKind.wrap .u64 (((BitVec.ofInt 64 (b2:Int)^^^BitVec.ofInt 64 (b3:Int)).toNat:Nat):Int)=(b4:Int))(b5:Nat)(hb5:IntKind.wrap .u64 ((b4:Int)*(5840696475078001361:Int))=(b5:Int))(b6:Nat)(hb6:(Int.fdiv (b5:Int) (2^29))=(b6:Int))(b7:Nat)(hb7:IntKind.wrap .u64 (((BitVec.ofInt 64 (b5:Int)^^^BitVec.ofInt 64 (b6:Int)).toNat:Nat):Int)=(b7:Int))(b8:Nat)(hb8:(Int.fdiv (b7:Int) (2^11))=(b8:Int)):CT 97 #[(pt 5)] (Ag 7 [(5,(.cells [(sw 6 o n c),(nI i),(nU u)] 62 none false)),(6,(.win o (zs.map (Value.int .i64))))]) (nU b8) (Ag 7 (z_6b1_0 o n c i b4 zs)):=
 sF (sc:=[(10,.op (.rwI (((i+1):Nat):Int))),(0,.op (.rwI (((i+1):Nat):Int))),(0,.op (.rwI (a1:Int))),(4,.drw [(9,.rwB true)]),(1,.drw [(9,.idx (o+i)),(10,.ld (.int .i64 z)),(11,.rwI (a2:Int)),(12,.rwI (a3:Int)),(13,.rwI (a4:Int))]),(6,.op (.rwI (((i+1):Nat):Int))),(12,.op (.rwI (b1:Int))),(0,.op (.rwI (b2:Int))),(5,.drwM [(9,.rwI (b3:Int)),(10,.rwI (b4:Int))] []),(6,.op (.rwI (b5:Int))),(6,.op (.rwI (b6:Int))),(0,.op (.rwI (b7:Int))),(0,.op (.rwI (b8:Int))),(3,.stay)]) kr (aI (Ao (a:=((i:Int)+(1:Int))) (r:=(((i+1):Nat):Int))) (aI (Gc (a:=(((i+1):Nat):Int)) (r:=(((i+1):Nat):Int))) (aI ha1 (aI (aI tt (aI tt (aI tt (aI tt (aI tt (aI tt (aI tt (aI tt (aI tt (aI (dT (p:=(i:Int)<(n:Int))) tt)))))))))) (aI (aI tt (aI tt (aI tt (aI tt (aI tt (aI tt (aI tt (aI tt (aI tt (aI (ix (i:Int) (n:Int) o 1 (o+i)) (aI (show o≤(o+i)∧((zs.map (Value.int .i64)):List Value)[(o+i)-o]? =some (.int .i64 z) from⟨Nat.le_add_right _ _,by rw[Nat.add_sub_cancel_left];exact hx⟩) (aI ha2 (aI ha3 (aI ha4 (aI tt tt))))))))))))))) (aI (Ao (a:=((i:Int)+(1:Int))) (r:=(((i+1):Nat):Int))) (aI hb1 (aI hb2 (aI (aI tt (aI tt (aI tt (aI tt (aI tt (aI tt (aI tt (aI tt (aI tt (aI hb3 (aI hb4 (aI tt (aI tt (aI tt tt)))))))))))))) (aI hb5 (aI hb6 (aI hb7 (aI hb8 tt))))))))))))) (Gets.refl _)
theorem turn_a(n0 b L:Nat)(zs:List Int)(o n c i u:Nat)(hb:5≤b∧b<n0∧5≤L∧L<n0∧b≠L)(hn:n≤zs.length)(hi:i<n)(hm:i<9223372036854775000):
  ∃u' x,FT 97 #[pt b] n0 [(b,.cells [sw L o n c,.int .i64 ((i:Nat):Int),.int .u64 ((u:Nat):Int)] 62 none false),(L,.win o (zs.map (Value.int .i64)))] (nU x) [(b,some (.cells [sw L o n c,.int .i64 ((i+1:Nat):Int),.int .u64 ((u':Nat):Int)] 62 none false)),(L,some (.win o (zs.map (Value.int .i64))))] []:=by
 obtain⟨a1,ha1⟩: ∃v:Nat,IntKind.wrap .u64 ((((i+1):Nat):Int)*(13503953896175478587:Int))=((v:Nat):Int):=Gp _
 obtain⟨a2,ha2⟩: ∃v:Nat,IntKind.wrap .u64 (zs.getD i 0)=((v:Nat):Int):=Gp _
 obtain⟨a3,ha3⟩: ∃v:Nat,IntKind.wrap .u64 (((a2:Nat):Int)*(4354685564936845355:Int))=((v:Nat):Int):=Gp _
 obtain⟨a4,ha4⟩: ∃v:Nat,IntKind.wrap .u64 (((a1:Nat):Int)+((a3:Nat):Int))=((v:Nat):Int):=Gp _
 obtain⟨b1,hb1⟩: ∃v:Nat,IntKind.wrap .u64 (((BitVec.ofInt 64 ((u:Nat):Int)^^^BitVec.ofInt 64 ((a4:Nat):Int)).toNat:Nat):Int)=((v:Nat):Int):=Gp _
 obtain⟨b2,hb2⟩: ∃v:Nat,IntKind.wrap .u64 (((b1:Nat):Int)*(11912009170470909681:Int))=((v:Nat):Int):=Gp _
 obtain⟨b3,hb3⟩: ∃v:Nat,(Int.fdiv ((b2:Nat):Int) (2^31))=((v:Nat):Int):=Ud _ _
 obtain⟨b4,hb4⟩: ∃v:Nat,IntKind.wrap .u64 (((BitVec.ofInt 64 ((b2:Nat):Int)^^^BitVec.ofInt 64 ((b3:Nat):Int)).toNat:Nat):Int)=((v:Nat):Int):=Gp _
 obtain⟨b5,hb5⟩: ∃v:Nat,IntKind.wrap .u64 (((b4:Nat):Int)*(5840696475078001361:Int))=((v:Nat):Int):=Gp _
 obtain⟨b6,hb6⟩: ∃v:Nat,(Int.fdiv ((b5:Nat):Int) (2^29))=((v:Nat):Int):=Ud _ _
 obtain⟨b7,hb7⟩: ∃v:Nat,IntKind.wrap .u64 (((BitVec.ofInt 64 ((b5:Nat):Int)^^^BitVec.ofInt 64 ((b6:Nat):Int)).toNat:Nat):Int)=((v:Nat):Int):=Gp _
 obtain⟨b8,hb8⟩: ∃v:Nat,(Int.fdiv ((b7:Nat):Int) (2^11))=((v:Nat):Int):=Ud _ _
 refine⟨b4,b8,Gm (os':=[.cells [sw L o n c,.int .i64 ((i:Nat):Int),.int .u64 ((u:Nat):Int)] 62 none false,.win o (zs.map (Value.int .i64))]) (ps':=[.cells [sw L o n c,.int .i64 ((i+1:Nat):Int),.int .u64 ((b4:Nat):Int)] 62 none false,.win o (zs.map (Value.int .i64))]) (qs':=[]) [b,L] [.cells [sw 6 o n c,.int .i64 ((i:Nat):Int),.int .u64 ((u:Nat):Int)] 62 none false,.win o (zs.map (Value.int .i64))] [.cells [sw 6 o n c,.int .i64 ((i+1:Nat):Int),.int .u64 ((b4:Nat):Int)] 62 none false,.win o (zs.map (Value.int .i64))] [] [] n0 (tn_a zs o n c i u (zs.getD i 0) (ints_get om) hi hm a1 ha1 a2 ha2 a3 ha3 a4 ha4 b1 hb1 b2 hb2 b3 hb3 b4 hb4 b5 hb5 b6 hb6 b7 hb7 b8 hb8) rfl rfl rfl (by simp[hb.2.2.2.2]) (by simp;omega) om rfl
  (by simp[Ez,De,Dz,Uc,Ah _ _ (Az zs)]) rfl (by simp only[List.map_cons,List.map_nil,Dx,Ac _ _ (Az zs)];rfl) (by simp only[List.map_cons,List.map_nil,Dx,Ac _ _ (Az zs)];rfl) rfl sm sm rfl rfl rfl⟩
theorem tn_b(zs:List Int)(o n c i u:Nat)(hi:n≤i)(hm:i<9223372036854775000)(a1:Nat)(ha1:IntKind.wrap .u64 ((((i+1):Nat):Int)*(13503953896175478587:Int))=(a1:Int))(b1:Nat)(hb1:IntKind.wrap .u64 (((BitVec.ofInt 64 (u:Int)^^^BitVec.ofInt 64 (a1:Int)).toNat:Nat):Int)=(b1:Int))(b2:Nat)(hb2:IntKind.wrap .u64 ((b1:Int)*(11912009170470909681:Int))=(b2:Int))(b3:Nat)(hb3:(Int.fdiv (b2:Int) (2^31))=(b3:Int))(b4:Nat)(hb4:IntKind.wrap .u64 (((BitVec.ofInt 64 (b2:Int)^^^BitVec.ofInt 64 (b3:Int)).toNat:Nat):Int)=(b4:Int))(b5:Nat)(hb5:IntKind.wrap .u64 ((b4:Int)*(5840696475078001361:Int))=(b5:Int))(b6:Nat)(hb6:(Int.fdiv (b5:Int) (2^29))=(b6:Int))(b7:Nat)(hb7:IntKind.wrap .u64 (((BitVec.ofInt 64 (b5:Int)^^^BitVec.ofInt 64 (b6:Int)).toNat:Nat):Int)=(b7:Int))(b8:Nat)(hb8:(Int.fdiv (b7:Int) (2^11))=(b8:Int)):CT 97 #[(pt 5)] (Ag 7 [(5,(.cells [(sw 6 o n c),(nI i),(nU u)] 62 none false)),(6,(.win o (zs.map (Value.int .i64))))]) (nU b8) (Ag 7 (z_6b1_0 o n c i b4 zs)):=
 sF (sc:=[(10,.op (.rwI (((i+1):Nat):Int))),(0,.op (.rwI (((i+1):Nat):Int))),(0,.op (.rwI (a1:Int))),(4,.drw [(9,.rwB false)]),(8,.op (.rwI (((i+1):Nat):Int))),(12,.op (.rwI (b1:Int))),(0,.op (.rwI (b2:Int))),(5,.drwM [(9,.rwI (b3:Int)),(10,.rwI (b4:Int))] []),(6,.op (.rwI (b5:Int))),(6,.op (.rwI (b6:Int))),(0,.op (.rwI (b7:Int))),(0,.op (.rwI (b8:Int))),(3,.stay)]) kr (aI (Ao (a:=((i:Int)+(1:Int))) (r:=(((i+1):Nat):Int))) (aI (Gc (a:=(((i+1):Nat):Int)) (r:=(((i+1):Nat):Int))) (aI ha1 (aI (aI tt (aI tt (aI tt (aI tt (aI tt (aI tt (aI tt (aI tt (aI tt (aI (dF (p:=(i:Int)<(n:Int))) tt)))))))))) (aI (Ao (a:=((i:Int)+(1:Int))) (r:=(((i+1):Nat):Int))) (aI hb1 (aI hb2 (aI (aI tt (aI tt (aI tt (aI tt (aI tt (aI tt (aI tt (aI tt (aI tt (aI hb3 (aI hb4 (aI tt (aI tt (aI tt tt)))))))))))))) (aI hb5 (aI hb6 (aI hb7 (aI hb8 tt)))))))))))) (Gets.refl _)
theorem turn_b(n0 b L:Nat)(zs:List Int)(o n c i u:Nat)(hb:5≤b∧b<n0∧5≤L∧L<n0∧b≠L)(hn:n≤zs.length)(hi:n≤i)(hm:i<9223372036854775000):
  ∃u' x,FT 97 #[pt b] n0 [(b,.cells [sw L o n c,.int .i64 ((i:Nat):Int),.int .u64 ((u:Nat):Int)] 62 none false),(L,.win o (zs.map (Value.int .i64)))] (nU x) [(b,some (.cells [sw L o n c,.int .i64 ((i+1:Nat):Int),.int .u64 ((u':Nat):Int)] 62 none false)),(L,some (.win o (zs.map (Value.int .i64))))] []:=by
 obtain⟨a1,ha1⟩: ∃v:Nat,IntKind.wrap .u64 ((((i+1):Nat):Int)*(13503953896175478587:Int))=((v:Nat):Int):=Gp _
 obtain⟨b1,hb1⟩: ∃v:Nat,IntKind.wrap .u64 (((BitVec.ofInt 64 ((u:Nat):Int)^^^BitVec.ofInt 64 ((a1:Nat):Int)).toNat:Nat):Int)=((v:Nat):Int):=Gp _
 obtain⟨b2,hb2⟩: ∃v:Nat,IntKind.wrap .u64 (((b1:Nat):Int)*(11912009170470909681:Int))=((v:Nat):Int):=Gp _
 obtain⟨b3,hb3⟩: ∃v:Nat,(Int.fdiv ((b2:Nat):Int) (2^31))=((v:Nat):Int):=Ud _ _
 obtain⟨b4,hb4⟩: ∃v:Nat,IntKind.wrap .u64 (((BitVec.ofInt 64 ((b2:Nat):Int)^^^BitVec.ofInt 64 ((b3:Nat):Int)).toNat:Nat):Int)=((v:Nat):Int):=Gp _
 obtain⟨b5,hb5⟩: ∃v:Nat,IntKind.wrap .u64 (((b4:Nat):Int)*(5840696475078001361:Int))=((v:Nat):Int):=Gp _
 obtain⟨b6,hb6⟩: ∃v:Nat,(Int.fdiv ((b5:Nat):Int) (2^29))=((v:Nat):Int):=Ud _ _
 obtain⟨b7,hb7⟩: ∃v:Nat,IntKind.wrap .u64 (((BitVec.ofInt 64 ((b5:Nat):Int)^^^BitVec.ofInt 64 ((b6:Nat):Int)).toNat:Nat):Int)=((v:Nat):Int):=Gp _
 obtain⟨b8,hb8⟩: ∃v:Nat,(Int.fdiv ((b7:Nat):Int) (2^11))=((v:Nat):Int):=Ud _ _
 refine⟨b4,b8,Gm (os':=[.cells [sw L o n c,.int .i64 ((i:Nat):Int),.int .u64 ((u:Nat):Int)] 62 none false,.win o (zs.map (Value.int .i64))]) (ps':=[.cells [sw L o n c,.int .i64 ((i+1:Nat):Int),.int .u64 ((b4:Nat):Int)] 62 none false,.win o (zs.map (Value.int .i64))]) (qs':=[]) [b,L] [.cells [sw 6 o n c,.int .i64 ((i:Nat):Int),.int .u64 ((u:Nat):Int)] 62 none false,.win o (zs.map (Value.int .i64))] [.cells [sw 6 o n c,.int .i64 ((i+1:Nat):Int),.int .u64 ((b4:Nat):Int)] 62 none false,.win o (zs.map (Value.int .i64))] [] [] n0 (tn_b zs o n c i u hi hm a1 ha1 b1 hb1 b2 hb2 b3 hb3 b4 hb4 b5 hb5 b6 hb6 b7 hb7 b8 hb8) rfl rfl rfl (by simp[hb.2.2.2.2]) (by simp;omega) om rfl
  (by simp[Ez,De,Dz,Uc,Ah _ _ (Az zs)]) rfl (by simp only[List.map_cons,List.map_nil,Dx,Ac _ _ (Az zs)];rfl) (by simp only[List.map_cons,List.map_nil,Dx,Ac _ _ (Az zs)];rfl) rfl sm sm rfl rfl rfl⟩
theorem turn_c(n0 b L:Nat)(zs:List Int)(o n c i u:Nat)(hb:5≤b∧b<n0∧5≤L∧L<n0∧b≠L)(hn:n≤zs.length)(hm:i<9223372036854775000):
  ∃u' x,FT 97 #[pt b] n0 [(b,.cells [sw L o n c,.int .i64 ((i:Nat):Int),.int .u64 ((u:Nat):Int)] 62 none false),(L,.win o (zs.map (Value.int .i64)))] (nU x) [(b,some (.cells [sw L o n c,.int .i64 ((i+1:Nat):Int),.int .u64 ((u':Nat):Int)] 62 none false)),(L,some (.win o (zs.map (Value.int .i64))))] []:=by
 rcases Nat.lt_or_ge i n with h|h
 ·exact turn_a n0 b L zs o n c i u hb hn h hm
 ·exact turn_b n0 b L zs o n c i u hb hn h hm
noncomputable section
abbrev Wb(o n c i v:Nat):AObj:=.cells [(sw 6 o n c),(nI (i+1)),(nU v)] 62 none false
abbrev Mu(o:Nat)(zs:List Int):AObj:=.win o (zs.map (Value.int .i64))
end
theorem up_conv{x r k:Nat}(hr:r=x% (k+1))(hk:k<1099511627776):IntKind.wrap .i64 (((x% (k+1):Nat):Int))=((r:Nat):Int):=by
 have:x% (k+1)<k+1:=Nat.mod_lt x om
 subst hr
 exact Bw om om
theorem up_p(zs:List Int)(o n c i u k:Nat)(hk:0<k)(hk2:k<1099511627776)(v x:Nat)(r:Nat)(hrx:r=x% (k+1))(hc1:(FT 97 #[(pt 5)] 7 [(5,(.cells [(sw 6 o n c),(nI i),(nU u)] 62 none false)),(6,(Mu o zs))] (nU x) [(5,some (Wb o n c i v)),(6,some (Mu o zs))] [])):CT 47 #[(pt 5),(nI k)] (Ag 7 [(5,(.cells [(sw 6 o n c),(nI i),(nU u)] 62 none false)),(6,(Mu o zs))]) (nI r) (Ag 7 [(5,(Wb o n c i v)),(6,(Mu o zs))]):=
 sF (sc:=[(7,.call [5,6] (nU x) [(5,some (Wb o n c i v)),(6,some (Mu o zs))] []),(6,.op (.rwB false)),(7,.op (.rwI (k:Int))),(0,.op (.rwI (((k+1):Nat):Int))),(0,.op (.div (((x% (k+1)):Nat):Int))),(0,.op (.rwI (r:Int))),(3,.stay)]) kr (aI hc1 (aI (dF (p:=(k:Int)<(1:Int))) (aI (Gc (a:=(k:Int)) (r:=(k:Int))) (aI (Gc (a:=((k:Int)+(1:Int))) (r:=(((k+1):Nat):Int))) (aI (show (((k+1):Nat):Int)≠0∧(Int.tmod (x:Int) (((k+1):Nat):Int))=(((x% (k+1)):Nat):Int) from⟨by omega,by first|(rw[Int.tmod_eq_emod_of_nonneg om];first|rfl|exact (Int.natCast_emod _ _).symm|omega)|(rw[Int.tdiv_eq_ediv_of_nonneg om];first|rfl|omega)⟩) (aI (show IntKind.wrap .i64 (((x% (k+1)):Nat):Int)=(r:Int) from (up_conv hrx hk2)) tt)))))) (Gets.refl _)
theorem up_z(zs:List Int)(o n c i u k:Nat)(hk:k=0)(hk2:k<1099511627776)(v x:Nat)(hc1:(FT 97 #[(pt 5)] 7 [(5,(.cells [(sw 6 o n c),(nI i),(nU u)] 62 none false)),(6,(Mu o zs))] (nU x) [(5,some (Wb o n c i v)),(6,some (Mu o zs))] [])):CT 47 #[(pt 5),(nI k)] (Ag 7 [(5,(.cells [(sw 6 o n c),(nI i),(nU u)] 62 none false)),(6,(Mu o zs))]) (lI 0) (Ag 7 [(5,(Wb o n c i v)),(6,(Mu o zs))]):=
 sF (sc:=[(7,.call [5,6] (nU x) [(5,some (Wb o n c i v)),(6,some (Mu o zs))] []),(6,.op (.rwB true)),(7,.stay)]) kr (aI hc1 (aI (dT (p:=(k:Int)<(1:Int))) tt)) (Gets.refl _)
theorem up_c(n0 b L:Nat)(zs:List Int)(o n c i u k:Nat)(hb:5≤b∧b<n0∧5≤L∧L<n0∧b≠L)(hn:n≤zs.length)(hm:i<9223372036854775000)(hk2:k<1099511627776):
  ∃u' r,r≤k∧FT 47 #[pt b,.int .i64 ((k:Nat):Int)] n0 [(b,.cells [sw L o n c,.int .i64 ((i:Nat):Int),.int .u64 ((u:Nat):Int)] 62 none false),(L,.win o (zs.map (Value.int .i64)))] (nI r) [(b,some (.cells [sw L o n c,.int .i64 ((i+1:Nat):Int),.int .u64 ((u':Nat):Int)] 62 none false)),(L,some (.win o (zs.map (Value.int .i64))))] []:=by
 obtain⟨v,x,T⟩:=turn_c 7 5 6 zs o n c i u om hn hm
 rcases Nat.eq_zero_or_pos k with hk|hk
 ·exact⟨v,0,Nat.zero_le _,Gm (os':=[.cells [sw L o n c,.int .i64 ((i:Nat):Int),.int .u64 ((u:Nat):Int)] 62 none false,.win o (zs.map (Value.int .i64))]) (ps':=[.cells [sw L o n c,.int .i64 ((i+1:Nat):Int),.int .u64 ((v:Nat):Int)] 62 none false,.win o (zs.map (Value.int .i64))]) (qs':=[]) [b,L] [.cells [sw 6 o n c,.int .i64 ((i:Nat):Int),.int .u64 ((u:Nat):Int)] 62 none false,.win o (zs.map (Value.int .i64))] [.cells [sw 6 o n c,.int .i64 ((i+1:Nat):Int),.int .u64 ((v:Nat):Int)] 62 none false,.win o (zs.map (Value.int .i64))] [] [] n0 (up_z zs o n c i u k hk hk2 v x T) rfl rfl rfl (by simp[hb.2.2.2.2]) (by simp;omega) om rfl
   (by simp[Ez,De,Dz,Uc,Ah _ _ (Az zs)]) rfl (by simp only[List.map_cons,List.map_nil,Dx,Ac _ _ (Az zs)];rfl) (by simp only[List.map_cons,List.map_nil,Dx,Ac _ _ (Az zs)];rfl) rfl sm sm rfl rfl rfl⟩
 ·exact⟨v,x% (k+1),Nat.le_of_lt_succ (Nat.mod_lt x (Nat.succ_pos k)),Gm (os':=[.cells [sw L o n c,.int .i64 ((i:Nat):Int),.int .u64 ((u:Nat):Int)] 62 none false,.win o (zs.map (Value.int .i64))]) (ps':=[.cells [sw L o n c,.int .i64 ((i+1:Nat):Int),.int .u64 ((v:Nat):Int)] 62 none false,.win o (zs.map (Value.int .i64))]) (qs':=[]) [b,L] [.cells [sw 6 o n c,.int .i64 ((i:Nat):Int),.int .u64 ((u:Nat):Int)] 62 none false,.win o (zs.map (Value.int .i64))] [.cells [sw 6 o n c,.int .i64 ((i+1:Nat):Int),.int .u64 ((v:Nat):Int)] 62 none false,.win o (zs.map (Value.int .i64))] [] [] n0 (up_p zs o n c i u k hk hk2 v x _ rfl T) rfl rfl rfl (by simp[hb.2.2.2.2]) (by simp;omega) om rfl
   (by simp[Ez,De,Dz,Uc,Ah _ _ (Az zs)]) rfl (by simp only[List.map_cons,List.map_nil,Dx,Ac _ _ (Az zs)];rfl) (by simp only[List.map_cons,List.map_nil,Dx,Ac _ _ (Az zs)];rfl) rfl sm sm rfl rfl rfl⟩
noncomputable section
abbrev Wk(i v:Nat):AObj:=.cells [nS,(nI (i+1)),(nU v)] 62 none false
abbrev z_b1a_1(i u:Nat):AObj:=.cells [nS,(nI i),(nU u)] 62 none false
end
theorem upn_p(i u k:Nat)(hk:0<k)(hk2:k<1099511627776)(v x:Nat)(r:Nat)(hrx:r=x% (k+1))(hc1:(FT 97 #[(pt 5)] 6 [(5,(z_b1a_1 i u))] (nU x) [(5,some (Wk i v))] [])):CT 47 #[(pt 5),(nI k)] (Ag 6 [(5,(z_b1a_1 i u))]) (nI r) (Ag 6 [(5,(Wk i v))]):=
 sF (sc:=[(7,.call [5] (nU x) [(5,some (Wk i v))] []),(6,.op (.rwB false)),(7,.op (.rwI (k:Int))),(0,.op (.rwI (((k+1):Nat):Int))),(0,.op (.div (((x% (k+1)):Nat):Int))),(0,.op (.rwI (r:Int))),(3,.stay)]) kr (aI hc1 (aI (dF (p:=(k:Int)<(1:Int))) (aI (Gc (a:=(k:Int)) (r:=(k:Int))) (aI (Gc (a:=((k:Int)+(1:Int))) (r:=(((k+1):Nat):Int))) (aI (show (((k+1):Nat):Int)≠0∧(Int.tmod (x:Int) (((k+1):Nat):Int))=(((x% (k+1)):Nat):Int) from⟨by omega,by first|(rw[Int.tmod_eq_emod_of_nonneg om];first|rfl|exact (Int.natCast_emod _ _).symm|omega)|(rw[Int.tdiv_eq_ediv_of_nonneg om];first|rfl|omega)⟩) (aI (show IntKind.wrap .i64 (((x% (k+1)):Nat):Int)=(r:Int) from (up_conv hrx hk2)) tt)))))) (Gets.refl _)
theorem upn_z(i u k:Nat)(hk:k=0)(hk2:k<1099511627776)(v x:Nat)(hc1:(FT 97 #[(pt 5)] 6 [(5,(z_b1a_1 i u))] (nU x) [(5,some (Wk i v))] [])):CT 47 #[(pt 5),(nI k)] (Ag 6 [(5,(z_b1a_1 i u))]) (lI 0) (Ag 6 [(5,(Wk i v))]):=
 sF (sc:=[(7,.call [5] (nU x) [(5,some (Wk i v))] []),(6,.op (.rwB true)),(7,.stay)]) kr (aI hc1 (aI (dT (p:=(k:Int)<(1:Int))) tt)) (Gets.refl _)
theorem upn_c(n0 b:Nat)(i u k:Nat)(hb:5≤b∧b<n0)(hm:i<9223372036854775000)(hk2:k<1099511627776):
  ∃u' r,r≤k∧FT 47 #[pt b,.int .i64 ((k:Nat):Int)] n0 [(b,.cells [.slice none 0 0,.int .i64 ((i:Nat):Int),.int .u64 ((u:Nat):Int)] 62 none false)] (nI r) [(b,some (.cells [.slice none 0 0,.int .i64 ((i+1:Nat):Int),.int .u64 ((u':Nat):Int)] 62 none false))] []:=by
 obtain⟨v,x,T⟩:=turnn_c 6 5 i u om hm
 rcases Nat.eq_zero_or_pos k with hk|hk
 ·exact⟨v,0,Nat.zero_le _,ff [b] [.cells [.slice none 0 0,.int .i64 ((i:Nat):Int),.int .u64 ((u:Nat):Int)] 62 none false] [.cells [.slice none 0 0,.int .i64 ((i+1:Nat):Int),.int .u64 ((v:Nat):Int)] 62 none false] [] [] n0 (upn_z i u k hk hk2 v x T) (fo:=by simp[Bb,Au,Am]) (fp:=by simp[Bb,Au,Am])⟩
 ·exact⟨v,x% (k+1),Nat.le_of_lt_succ (Nat.mod_lt x (Nat.succ_pos k)),ff [b] [.cells [.slice none 0 0,.int .i64 ((i:Nat):Int),.int .u64 ((u:Nat):Int)] 62 none false] [.cells [.slice none 0 0,.int .i64 ((i+1:Nat):Int),.int .u64 ((v:Nat):Int)] 62 none false] [] [] n0 (upn_p i u k hk hk2 v x _ rfl T) (fo:=by simp[Bb,Au,Am]) (fp:=by simp[Bb,Au,Am])⟩
noncomputable section
abbrev Bp(o:Nat)(zs:List Int):AObj:=.win o (zs.map (Value.int .i64))
abbrev Ld(o n c ai v0:Nat):AObj:=.cells [(sw 6 o n c),(nI (ai+1)),(nU v0)] 62 none false
abbrev Wg(o n c ai v1:Nat):AObj:=.cells [(sw 6 o n c),(nI ((ai+1)+1)),(nU v1)] 62 none false
abbrev Sb(o n c i u:Nat):AObj:=.cells [(sw 6 o n c),(nI i),(nU u)] 62 none false
abbrev Wc(o n c ai au:Nat):AObj:=.cells [(sw 6 o n c),(nI ai),(nU au)] 62 none false
abbrev z_c8d_5(o n c ai v2:Nat):AObj:=.cells [(sw 6 o n c),(nI (((ai+1)+1)+1)),(nU v2)] 62 none false
abbrev z_c8d_6:List Value:=[undef,undef,undef,undef,undef,undef,undef,undef,undef,undef,undef,undef,undef,undef,undef,undef,undef]
abbrev z_c8d_7(o n c i v0:Nat):AObj:=.cells [(sw 6 o n c),(nI (i+1)),(nU v0)] 62 none false
abbrev Wt(st:ByteArray)(e:Nat):Value:=.string (st++(Aa [e]))
end
theorem Gd{x e:Nat}(h:x=48+e):0+1≤([.int .u8 ((x:Nat):Int)]:List Value).length∧(Dm (List.take 1 (List.drop 0 ([.int .u8 ((x:Nat):Int)]:List Value)))).map (fun ns=>(⟨(ns.map fun n=>UInt8.ofNat n.toNat).toArray⟩:ByteArray))=some (Aa [e]):=by
 subst h
 exact⟨Nat.le_refl _,rfl⟩
theorem Tc(ds:List Nat):Seg.bts [45]++Aa ds=By ds:=by
 apply ByteArray.ext
 simp[ByteArray.data_append,By,Aa,Seg.bts]
theorem Tm(ds:List Nat)(e:Nat):Aa ds++Aa [e]=Aa (ds++[e]):=by
 apply ByteArray.ext
 simp[ByteArray.data_append,Aa]
noncomputable def wh_h_f(zs:List Int)(o n c ai au k w p:Nat)(st:ByteArray)(jc:List Value)(j:List Value):Frame:=(Fr 17 ([(pt 5),(nI k),uu,uu,(J jc 2),(nI w),(.string st),(nI p),(J j 0),(pt 5),(nI k),(J jc 3)]++(jj j 1 12 ([(J jc 0),(J jc 1)]++(jj j 13 4 (uj 7 []))))) [.code (cd Tryz.f17 [1,1,1,0,1,0,0]),.inLoop (cd Tryz.f17 [1,1,1,0,1,0,0]),.inBlock 0,.code (cd Tryz.f17 [1,1,1,1])])
noncomputable def wh_h_o(zs:List Int)(o n c ai au k w p:Nat)(st:ByteArray)(jc:List Value):List (Nat×AObj):=[(5,(Wc o n c ai au)),(6,(Bp o zs))]
noncomputable def wh_h(zs:List Int)(o n c ai au k w p:Nat)(st:ByteArray)(jc:List Value)(j:List Value):AS:=⟨wh_h_f zs o n c ai au k w p st jc j,[],Ag 9 (wh_h_o zs o n c ai au k w p st jc)⟩
theorem wh_in{s0:AS}(hs0:s0.h.next=7)(zs:List Int)(o n c i u k:Nat)(hk:k<1099511627776)(v0 r0:Nat)(hr0:r0≤k)(hc2:(FT 47 #[(pt 5),(nI k)] 7 [(5,(Sb o n c i u)),(6,(Bp o zs))] (nI r0) [(5,some (z_c8d_7 o n c i v0)),(6,some (Bp o zs))] []))(hr:GT s0 (Cg 17 #[(pt 5),(nI k)] 7 [(5,(Sb o n c i u)),(6,(Bp o zs))])):GT s0 (wh_h zs o n c (i+1) v0 k r0 0 (bts []) ([undef,undef,(.string (bts [])),(nI r0)]) z_c8d_6):=by
 have h1:=hr.trans (sR (sc:=[(8,.call [5,6] (nI r0) [(5,some (z_c8d_7 o n c i v0)),(6,some (Bp o zs))] []),(13,.stay)]) (fr1:=(Fr 17 ([(pt 5),(nI k),uu,uu,(.string (bts [])),(nI r0),(.string (bts [])),(lI 0),uu,(pt 5),(nI k),(nI r0)]++(uj 25 [])) [.code (cd Tryz.f17 [1,1,1,0,1,0,0]),.inLoop (cd Tryz.f17 [1,1,1,0,1,0,0]),.inBlock 0,.code (cd Tryz.f17 [1,1,1,1])])) (next:=7) (l:=[(5,(z_c8d_7 o n c i v0)),(6,(Bp o zs))]) kr (aI hc2 tt))
 exact Ls (b:=7) (k:=0) h1 kr rfl rfl rfl kr (by rw[hs0];decide) (by rw[hs0];decide) de de (by rfl) (by simp only[wh_h_o,List.map_cons,List.map_nil,Dx,Ac _ _ (Az _),Ac _ _ (Ab _ _)];rfl) kr
theorem wh_s{s0:AS}(hs0:s0.h.next=7)(zs:List Int)(o n c ai au k w p:Nat)(st:ByteArray)(j jc:List Value)(hjc:Cm (Ak 7 2) jc)(hw:w<1099511627776)(hp:p<w)(hs:st.size<1099511627776)(h0:p=0)(v0 r0:Nat)(hr0:r0≤9)(hc2:(FT 47 #[(pt 5),(lI 9)] 9 [(5,(Wc o n c ai au)),(6,(Bp o zs))] (nI r0) [(5,some (Ld o n c ai v0)),(6,some (Bp o zs))] []))(v1 r1:Nat)(hr1:r1≤2)(d e:Nat)(hd:([.int .i64 0,.int .i64 9,.int .i64 (r0:Nat)]:List Value)[r1]? =some (nI d))(hd9:d≤9)(hc6:(FT 47 #[(pt 5),(lI 2)] 10 [(5,(Ld o n c ai v0)),(6,(Bp o zs))] (nI r1) [(5,some (Wg o n c ai v1)),(6,some (Bp o zs))] []))(v2 r2:Nat)(hr2:r2≤8)(he:e=(1+r2))(hc9:FT 47 #[(pt 5),(lI 8)] 10 [(5,(Wg o n c ai v1)),(6,(Bp o zs))] (nI r2) [(5,some (z_c8d_5 o n c ai v2)),(6,some (Bp o zs))] [])(hr:GT s0 (wh_h zs o n c ai au k w p st jc j)):GT s0 (wh_h zs o n c (((ai+1)+1)+1) v2 k w (p+1) (st++(Aa [e])) ([(pt 5),(nI (1+r2)),(J jc 2),(J jc 3)]) [(nI (1+r2)),(nI p),(nI w),bT,(nI p),(nI (p+1)),(pt 5),(pt 5),(nI r0),(sl 7 3 3),(nI d),(nI p),bT,(.string st),(nI (1+r2)),(.string (Aa [e])),(Wt st e)]):=by
 have h1:=hr.trans (sR (sc:=[(5,.op (.rwB true)),(9,.call [5,6] (nI r0) [(5,some (Ld o n c ai v0)),(6,some (Bp o zs))] []),(13,.call [5,6] (nI r1) [(5,some (Wg o n c ai v1)),(6,some (Bp o zs))] []),(0,.op (.idx r1)),(0,.op (.ld (nI d))),(10,.op (.rwB true)),(16,.call [5,6] (nI r2) [(5,some (z_c8d_5 o n c ai v2)),(6,some (Bp o zs))] []),(0,.op (.rwI (((1+r2):Nat):Int))),(17,.op (.rwI ((((1+r2)%10):Nat):Int))),(0,.op (.rwI (((48+((1+r2)%10)):Nat):Int))),(0,.op (.rwI (((48+((1+r2)%10)):Nat):Int))),(1,.op (.b2s (Aa [e]))),(4,.op (.cat (st++(Aa [e])))),(5,.op (.rwI (((p+1):Nat):Int))),(3,.stay)]) (fr1:=(Fr 17 ([(pt 5),(nI k),uu,uu,(J jc 2),(nI w),(Wt st e),(nI (p+1)),(nI (1+r2)),(pt 5),(nI k),(J jc 3),(nI p),(nI w),bT,(nI p),(nI (p+1)),(pt 5),(pt 5),(nI r0),(sl 9 3 3),(nI d),(nI p),bT,(pt 5),(nI (1+r2)),(.string st),(nI (1+r2)),(.string (Aa [e])),(Wt st e)]++(uj 7 [])) [.code (cd Tryz.f17 [1,1,1,0,1,0,0]),.inLoop (cd Tryz.f17 [1,1,1,0,1,0,0]),.inBlock 0,.code (cd Tryz.f17 [1,1,1,1])])) (next:=11) (l:=[(5,(z_c8d_5 o n c ai v2)),(6,(Bp o zs))]) kr (aI (dT (p:=(p:Int)<(w:Int))) (aI hc2 (aI hc6 (aI (ix (r1:Int) ((3:Nat):Int) 0 1 r1) (aI hd (aI (eT (a:=(p:Int)) (b:=(0:Int))) (aI hc9 (aI (Ao (a:=((1:Int)+(r2:Int))) (r:=(((1+r2):Nat):Int))) (aI (show (Int.tmod (((1+r2):Nat):Int) (10:Int))=((((1+r2)%10):Nat):Int) from (by rw[Int.tmod_eq_emod_of_nonneg om]<;>omega)) (aI (Ao (a:=((48:Int)+((((1+r2)%10):Nat):Int))) (r:=(((48+((1+r2)%10)):Nat):Int))) (aI (Zi (a:=(((48+((1+r2)%10)):Nat):Int)) (r:=(((48+((1+r2)%10)):Nat):Int))) (aI (show 0+1≤([(nB (48+((1+r2)%10)))]).length∧(Dm (List.take 1 (List.drop 0 [(nB (48+((1+r2)%10)))]))).map (fun ns=>(⟨(ns.map fun n=>UInt8.ofNat n.toNat).toArray⟩:ByteArray))=some (Aa [e]) from (Gd om)) (aI (show (((st.size+(Aa [e]).size:Nat)):Int)≤9223372036854775807∧st++(Aa [e])=(st++(Aa [e])) from⟨by rw[show (Aa [e]).size=1 from rfl];omega,rfl⟩) (aI (Ao (a:=((p:Int)+(1:Int))) (r:=(((p+1):Nat):Int))) tt)))))))))))))))
 rw[←Aq (Ak 7 2) hjc 2]at h1
 rw[←Aq (Ak 7 2) hjc 3]at h1
 exact Ls (b:=7) (k:=2) h1 kr rfl rfl rfl kr (by rw[hs0];decide) (by rw[hs0];decide) de de (by rfl) (by simp only[wh_h_o,List.map_cons,List.map_nil,Dx,Ac _ _ (Az _),Ac _ _ (Ab _ _)];rfl) kr
theorem wh_r{s0:AS}(hs0:s0.h.next=7)(zs:List Int)(o n c ai au k w p:Nat)(st:ByteArray)(j jc:List Value)(hjc:Cm (Ak 7 2) jc)(hw:w<1099511627776)(hp:p<w)(hs:st.size<1099511627776)(h0:p≠0)(v0 r0:Nat)(hr0:r0≤9)(hc2:(FT 47 #[(pt 5),(lI 9)] 9 [(5,(Wc o n c ai au)),(6,(Bp o zs))] (nI r0) [(5,some (Ld o n c ai v0)),(6,some (Bp o zs))] []))(v1 r1:Nat)(hr1:r1≤2)(d e:Nat)(hd:([.int .i64 0,.int .i64 9,.int .i64 (r0:Nat)]:List Value)[r1]? =some (nI d))(hd9:d≤9)(he:e=d)(hc6:(FT 47 #[(pt 5),(lI 2)] 10 [(5,(Ld o n c ai v0)),(6,(Bp o zs))] (nI r1) [(5,some (Wg o n c ai v1)),(6,some (Bp o zs))] []))(hr:GT s0 (wh_h zs o n c ai au k w p st jc j)):GT s0 (wh_h zs o n c ((ai+1)+1) v1 k w (p+1) (st++(Aa [e])) ([(J jc 0),(J jc 1),(J jc 2),(J jc 3)]) [(nI d),(nI p),(nI w),bT,(nI p),(nI (p+1)),(pt 5),(pt 5),(nI r0),(sl 7 3 3),(nI d),(nI p),bF,(.string st),(nI d),(.string (Aa [e])),(Wt st e)]):=by
 have h1:=hr.trans (sR (sc:=[(5,.op (.rwB true)),(9,.call [5,6] (nI r0) [(5,some (Ld o n c ai v0)),(6,some (Bp o zs))] []),(13,.call [5,6] (nI r1) [(5,some (Wg o n c ai v1)),(6,some (Bp o zs))] []),(0,.op (.idx r1)),(0,.op (.ld (nI d))),(10,.op (.rwB false)),(14,.op (.rwI (((d%10):Nat):Int))),(0,.op (.rwI (((48+(d%10)):Nat):Int))),(0,.op (.rwI (((48+(d%10)):Nat):Int))),(1,.op (.b2s (Aa [e]))),(4,.op (.cat (st++(Aa [e])))),(5,.op (.rwI (((p+1):Nat):Int))),(3,.stay)]) (fr1:=(Fr 17 ([(pt 5),(nI k),uu,uu,(J jc 2),(nI w),(Wt st e),(nI (p+1)),(nI d),(pt 5),(nI k),(J jc 3),(nI p),(nI w),bT,(nI p),(nI (p+1)),(pt 5),(pt 5),(nI r0),(sl 9 3 3),(nI d),(nI p),bF,(J jc 0),(J jc 1),(.string st),(nI d),(.string (Aa [e])),(Wt st e)]++(uj 7 [])) [.code (cd Tryz.f17 [1,1,1,0,1,0,0]),.inLoop (cd Tryz.f17 [1,1,1,0,1,0,0]),.inBlock 0,.code (cd Tryz.f17 [1,1,1,1])])) (next:=11) (l:=[(5,(Wg o n c ai v1)),(6,(Bp o zs))]) kr (aI (dT (p:=(p:Int)<(w:Int))) (aI hc2 (aI hc6 (aI (ix (r1:Int) ((3:Nat):Int) 0 1 r1) (aI hd (aI (eF (a:=(p:Int)) (b:=(0:Int))) (aI (show (Int.tmod (d:Int) (10:Int))=(((d%10):Nat):Int) from (by rw[Int.tmod_eq_emod_of_nonneg om]<;>omega)) (aI (Ao (a:=((48:Int)+(((d%10):Nat):Int))) (r:=(((48+(d%10)):Nat):Int))) (aI (Zi (a:=(((48+(d%10)):Nat):Int)) (r:=(((48+(d%10)):Nat):Int))) (aI (show 0+1≤([(nB (48+(d%10)))]).length∧(Dm (List.take 1 (List.drop 0 [(nB (48+(d%10)))]))).map (fun ns=>(⟨(ns.map fun n=>UInt8.ofNat n.toNat).toArray⟩:ByteArray))=some (Aa [e]) from (Gd om)) (aI (show (((st.size+(Aa [e]).size:Nat)):Int)≤9223372036854775807∧st++(Aa [e])=(st++(Aa [e])) from⟨by rw[show (Aa [e]).size=1 from rfl];omega,rfl⟩) (aI (Ao (a:=((p:Int)+(1:Int))) (r:=(((p+1):Nat):Int))) tt)))))))))))))
 rw[←Aq (Ak 7 2) hjc 0]at h1
 rw[←Aq (Ak 7 2) hjc 1]at h1
 rw[←Aq (Ak 7 2) hjc 2]at h1
 rw[←Aq (Ak 7 2) hjc 3]at h1
 exact Ls (b:=7) (k:=2) h1 kr rfl rfl rfl kr (by rw[hs0];decide) (by rw[hs0];decide) de de (by rfl) (by simp only[wh_h_o,List.map_cons,List.map_nil,Dx,Ac _ _ (Az _),Ac _ _ (Ab _ _)];rfl) kr
theorem wh_oe(zs:List Int)(o n c i u ai au k w p:Nat)(st:ByteArray)(j jc:List Value)(hp:w≤p)(hs:st.size<1099511627776)(h0:(st.toList==(Seg.bts []).toList)=true)(hr:GT (Cg 17 #[(pt 5),(nI k)] 7 [(5,(Sb o n c i u)),(6,(Bp o zs))]) (wh_h zs o n c ai au k w p st jc j)):CT 17 #[(pt 5),(nI k)] (Ag 7 [(5,(Sb o n c i u)),(6,(Bp o zs))]) (.string (bts [48])) (Ag 9 [(5,(Wc o n c ai au)),(6,(Bp o zs))]):=
 sF (sc:=[(5,.op (.rwB false)),(7,.op (.rwB true)),(7,.stay)]) kr (aI (dF (p:=(p:Int)<(w:Int))) (aI h0 tt)) hr
theorem wh_om(zs:List Int)(o n c i u ai au k w p:Nat)(st:ByteArray)(j jc:List Value)(hp:w≤p)(hs:st.size<1099511627776)(h0:(st.toList==(Seg.bts []).toList)=false)(v0 r0:Nat)(hr0:r0≤2)(hz:r0=0)(hc3:(FT 47 #[(pt 5),(lI 2)] 9 [(5,(Wc o n c ai au)),(6,(Bp o zs))] (nI r0) [(5,some (Ld o n c ai v0)),(6,some (Bp o zs))] []))(hr:GT (Cg 17 #[(pt 5),(nI k)] 7 [(5,(Sb o n c i u)),(6,(Bp o zs))]) (wh_h zs o n c ai au k w p st jc j)):CT 17 #[(pt 5),(nI k)] (Ag 7 [(5,(Sb o n c i u)),(6,(Bp o zs))]) (.string ((bts [45])++st)) (Ag 9 [(5,(Ld o n c ai v0)),(6,(Bp o zs))]):=
 sF (sc:=[(5,.op (.rwB false)),(7,.op (.rwB false)),(17,.call [5,6] (nI r0) [(5,some (Ld o n c ai v0)),(6,some (Bp o zs))] []),(0,.op (.rwB true)),(9,.op (.cat ((bts [45])++st))),(3,.stay)]) kr (aI (dF (p:=(p:Int)<(w:Int))) (aI h0 (aI hc3 (aI (eT (a:=(r0:Int)) (b:=(0:Int))) (aI (show ((((bts [45]).size+st.size:Nat)):Int)≤9223372036854775807∧(bts [45])++st=((bts [45])++st) from⟨by rw[show (Seg.bts [45]).size=1 from rfl];omega,rfl⟩) tt))))) hr
theorem wh_on(zs:List Int)(o n c i u ai au k w p:Nat)(st:ByteArray)(j jc:List Value)(hp:w≤p)(hs:st.size<1099511627776)(h0:(st.toList==(Seg.bts []).toList)=false)(v0 r0:Nat)(hr0:r0≤2)(hz:r0≠0)(hc3:(FT 47 #[(pt 5),(lI 2)] 9 [(5,(Wc o n c ai au)),(6,(Bp o zs))] (nI r0) [(5,some (Ld o n c ai v0)),(6,some (Bp o zs))] []))(hr:GT (Cg 17 #[(pt 5),(nI k)] 7 [(5,(Sb o n c i u)),(6,(Bp o zs))]) (wh_h zs o n c ai au k w p st jc j)):CT 17 #[(pt 5),(nI k)] (Ag 7 [(5,(Sb o n c i u)),(6,(Bp o zs))]) (.string st) (Ag 9 [(5,(Ld o n c ai v0)),(6,(Bp o zs))]):=
 sF (sc:=[(5,.op (.rwB false)),(7,.op (.rwB false)),(17,.call [5,6] (nI r0) [(5,some (Ld o n c ai v0)),(6,some (Bp o zs))] []),(0,.op (.rwB false)),(13,.stay)]) kr (aI (dF (p:=(p:Int)<(w:Int))) (aI h0 (aI hc3 (aI (eF (a:=(r0:Int)) (b:=(0:Int))) tt)))) hr
theorem Yt{ds:List Nat}{e:Nat}(hd:Dig ds)(he:e<10):Dig (ds++[e]):=fun x hx=>by
 rcases List.mem_append.1 hx with q|q
 ·exact hd x q
 ·rw[List.mem_singleton]at q;omega
theorem head_snoc{ds:List Nat}{e:Nat}(h:ds.getD 0 0≠0):(ds++[e]).getD 0 0≠0:=by
 cases ds with
 |nil=>exact absurd rfl h
 |cons d ds=>exact h
theorem wh_loop{zs:List Int}{o n c k w i0:Nat}{s0:AS}(hs0:s0.h.next=7)(hn:n≤zs.length)(hi0:i0<4611686018427387904)(hw:w<1099511627776): ∀(m p i u:Nat) (ds:List Nat) (j jc:List Value),m=w-p→p≤w→ds.length=p→Dig ds→(0<p→ds.getD 0 0≠0)→i≤i0+1+3*p→Cm (Ak 7 2) jc→
  GT s0 (wh_h zs o n c i u k w p (Aa ds) jc j)→ ∃i' u' ds' j' jc',i'≤i0+1+3*w∧ds'.length=w∧Dig ds'∧(0<w→ds'.getD 0 0≠0)∧GT s0 (wh_h zs o n c i' u' k w w (Aa ds') jc' j'):=by
 intro m
 induction m with
 |zero=>
  intro p i u ds j jc hm hp hl hd h0 hi hj hr
  have:p=w:=by omega
  subst this
  exact⟨i,u,ds,j,jc,hi,hl,hd,h0,hr⟩
 |succ m ih=>
  intro p i u ds j jc hm hp hl hd h0 hi hj hr
  obtain⟨v0,r0,hr0,T0⟩:=up_c 9 5 6 zs o n c i u 9 om hn om om
  obtain⟨v1,r1,hr1,T1⟩:=up_c 10 5 6 zs o n c (i+1) v0 2 om hn om om
  obtain⟨d,hd9,hdd⟩: ∃d:Nat,d≤9∧([.int .i64 0,.int .i64 9,.int .i64 (r0:Nat)]:List Value)[r1]? =some (nI d):=by
   have:r1=0∨r1=1∨r1=2:=by omega
   rcases this with rfl|rfl|rfl
   ·exact⟨0,by omega,rfl⟩
   ·exact⟨9,by omega,rfl⟩
   ·exact⟨r0,hr0,rfl⟩
  have hsz:(Aa ds).size<1099511627776:=by rw[Af];omega
  by_cases hp0:p=0
  ·obtain⟨v2,r2,hr2,T2⟩:=up_c 10 5 6 zs o n c (i+1+1) v1 8 om hn om om
   have r:=wh_s hs0 zs o n c i u k w p (Aa ds) j jc hj hw om hsz hp0 v0 r0 hr0 T0 v1 r1 hr1 d (1+r2) hdd hd9 T1 v2 r2 hr2 rfl T2 hr
   rw[Tm]at r
   refine ih (p+1) _ _ _ _ _ om om (by rw[List.length_append,hl];rfl) (Yt hd om) (fun _=> ?_) om (by simp[Cm,Ro,Aq _ hj,mv,mvA,Eo,Ak,undef]) r
   have:ds=[]:=List.length_eq_zero_iff.1 om
   rw[this]
   show 1+r2≠0
   omega
  ·have r:=wh_r hs0 zs o n c i u k w p (Aa ds) j jc hj hw om hsz hp0 v0 r0 hr0 T0 v1 r1 hr1 d d hdd hd9 rfl T1 hr
   rw[Tm]at r
   exact ih (p+1) _ _ _ _ _ om om (by rw[List.length_append,hl];rfl) (Yt hd om) (fun _=>head_snoc (h0 om)) om (by simp[Cm,Ro,Aq _ hj,mv,mvA,Eo,Ak,undef]) r
theorem whole_c(n0 b L:Nat)(zs:List Int)(o n c i u k:Nat)(hb:5≤b∧b<n0∧5≤L∧L<n0∧b≠L)(hn:n≤zs.length)(hi:i<4611686018427387904)(hk:k<1099511627776)(hk0:0<k):
  ∃(z:Int) (i' u':Nat),(Ae z.natAbs).length≤k∧i'≤i+2+3*k∧FT 17 #[pt b,.int .i64 ((k:Nat):Int)] n0 [(b,.cells [sw L o n c,.int .i64 ((i:Nat):Int),.int .u64 ((u:Nat):Int)] 62 none false),(L,.win o (zs.map (Value.int .i64)))] (.string (Ad z)) [(b,some (.cells [sw L o n c,.int .i64 ((i':Nat):Int),.int .u64 ((u':Nat):Int)] 62 none false)),(L,some (.win o (zs.map (Value.int .i64))))] []:=by
 obtain⟨v,w,hw,T⟩:=up_c 7 5 6 zs o n c i u k om hn om hk
 have r0:=wh_in (s0:=(Cg 17 #[(pt 5),(nI k)] 7 [(5,(.cells [(sw 6 o n c),(nI i),(nU u)] 62 none false)),(6,(.win o (zs.map (Value.int .i64))))])) rfl zs o n c i u k hk v w hw T (Gets.refl _)
 obtain⟨i',u',ds,j',jc',h1,h2,h3,h4,h5⟩:=wh_loop rfl hn hi om w 0 _ _ [] _ _ rfl (Nat.zero_le _) rfl (fun x hx=>by cases hx) (fun h=>absurd h de) om (by simp[Cm,Ro,mv,mvA,Eo,Ak,undef]) r0
 have hsz:(Aa ds).size<1099511627776:=by rw[Af];omega
 rcases Nat.eq_zero_or_pos w with hw0|hw0
 ·have hds:ds=[]:=List.length_eq_zero_iff.1 om
  subst hds
  have S:=wh_oe zs o n c i u i' u' k w w (Aa []) j' jc' (Nat.le_refl _) hsz (by rw[ByteArray.toList_eq,ByteArray.toList_eq];rfl) h5
  refine⟨0,i',u',by rw[show (0:Int).natAbs=0 from rfl,Gi];exact hk0,by omega,?_⟩
  rw[show Ad 0=Seg.bts [48] by rw[show (0:Int)=((0:Nat):Int) from rfl,Df,Gi];rfl]
  exact Gm (os':=[.cells [sw L o n c,.int .i64 ((i:Nat):Int),.int .u64 ((u:Nat):Int)] 62 none false,.win o (zs.map (Value.int .i64))]) (ps':=[.cells [sw L o n c,.int .i64 ((i':Nat):Int),.int .u64 ((u':Nat):Int)] 62 none false,.win o (zs.map (Value.int .i64))]) (qs':=[]) [b,L] [.cells [sw 6 o n c,.int .i64 ((i:Nat):Int),.int .u64 ((u:Nat):Int)] 62 none false,.win o (zs.map (Value.int .i64))] [.cells [sw 6 o n c,.int .i64 ((i':Nat):Int),.int .u64 ((u':Nat):Int)] 62 none false,.win o (zs.map (Value.int .i64))] [] [] n0 (S) rfl rfl rfl (by simp[hb.2.2.2.2]) (by simp;omega) om rfl (by simp[Ez,De,Dz,Uc,Ah _ _ (Az zs)]) rfl (by simp only[List.map_cons,List.map_nil,Dx,Ac _ _ (Az zs)];rfl) (by simp only[List.map_cons,List.map_nil,Dx,Ac _ _ (Az zs)];rfl) rfl sm sm rfl rfl rfl
 ·have hne:((Aa ds).toList==(Seg.bts []).toList)=false:=by
   rw[ByteArray.toList_eq,ByteArray.toList_eq]
   cases ds with
   |nil=>rw[List.length_nil]at h2;omega
   |cons d ds=>rfl
  obtain⟨hdv,hpos⟩:=Xa (w-1) ds om h3 (h4 hw0)
  obtain⟨v2,r2,hr2,T2⟩:=up_c 9 5 6 zs o n c i' u' 2 om hn om om
  by_cases hz:r2=0
  ·have S:=wh_om zs o n c i u i' u' k w w (Aa ds) j' jc' (Nat.le_refl _) hsz hne v2 r2 hr2 hz T2 h5
   refine⟨-(Bh ds:Int),i'+1,v2,by rw[Int.natAbs_neg,Int.natAbs_natCast,hdv];omega,by omega,?_⟩
   rw[Hp hpos,hdv,←Tc]
   exact Gm (os':=[.cells [sw L o n c,.int .i64 ((i:Nat):Int),.int .u64 ((u:Nat):Int)] 62 none false,.win o (zs.map (Value.int .i64))]) (ps':=[.cells [sw L o n c,.int .i64 ((i'+1:Nat):Int),.int .u64 ((v2:Nat):Int)] 62 none false,.win o (zs.map (Value.int .i64))]) (qs':=[]) [b,L] [.cells [sw 6 o n c,.int .i64 ((i:Nat):Int),.int .u64 ((u:Nat):Int)] 62 none false,.win o (zs.map (Value.int .i64))] [.cells [sw 6 o n c,.int .i64 ((i'+1:Nat):Int),.int .u64 ((v2:Nat):Int)] 62 none false,.win o (zs.map (Value.int .i64))] [] [] n0 (S) rfl rfl rfl (by simp[hb.2.2.2.2]) (by simp;omega) om rfl (by simp[Ez,De,Dz,Uc,Ah _ _ (Az zs)]) rfl (by simp only[List.map_cons,List.map_nil,Dx,Ac _ _ (Az zs)];rfl) (by simp only[List.map_cons,List.map_nil,Dx,Ac _ _ (Az zs)];rfl) rfl sm sm rfl rfl rfl
  ·have S:=wh_on zs o n c i u i' u' k w w (Aa ds) j' jc' (Nat.le_refl _) hsz hne v2 r2 hr2 hz T2 h5
   refine⟨(Bh ds:Int),i'+1,v2,by rw[Int.natAbs_natCast,hdv];omega,by omega,?_⟩
   rw[Df,hdv]
   exact Gm (os':=[.cells [sw L o n c,.int .i64 ((i:Nat):Int),.int .u64 ((u:Nat):Int)] 62 none false,.win o (zs.map (Value.int .i64))]) (ps':=[.cells [sw L o n c,.int .i64 ((i'+1:Nat):Int),.int .u64 ((v2:Nat):Int)] 62 none false,.win o (zs.map (Value.int .i64))]) (qs':=[]) [b,L] [.cells [sw 6 o n c,.int .i64 ((i:Nat):Int),.int .u64 ((u:Nat):Int)] 62 none false,.win o (zs.map (Value.int .i64))] [.cells [sw 6 o n c,.int .i64 ((i'+1:Nat):Int),.int .u64 ((v2:Nat):Int)] 62 none false,.win o (zs.map (Value.int .i64))] [] [] n0 (S) rfl rfl rfl (by simp[hb.2.2.2.2]) (by simp;omega) om rfl (by simp[Ez,De,Dz,Uc,Ah _ _ (Az zs)]) rfl (by simp only[List.map_cons,List.map_nil,Dx,Ac _ _ (Az zs)];rfl) (by simp only[List.map_cons,List.map_nil,Dx,Ac _ _ (Az zs)];rfl) rfl sm sm rfl rfl rfl
end Go.Proofs.YtldoiilgfcpipaaGreatDoor
