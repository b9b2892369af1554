import Derived.Test.YtldoiilgfcpipaaGreatDoorPDec
import Derived.Test.YtldoiilgfcpipaaGreatDoorLF
set_option linter.unusedVariables false
set_option linter.unusedSimpArgs false
set_option maxRecDepth 100000
namespace Go.Proofs.YtldoiilgfcpipaaGreatDoor
open Go Go.AE Seg
noncomputable section
abbrev z_664_0(i l q:Nat)(cs:List Nat):List Value:=[(nI i),(.string (dstr cs)),(nI ((dstr cs).size)),bT,(nI i),(nI (i+1)),(nI l),(nI (10*l)),(.string (dstr cs)),(nI i),(nB ((UInt8.ofNat (48+q)).toNat)),(nB q),(nI q),(nI ((10*l)+q))]
abbrev z_664_1(i:Nat)(cs:List Nat)(ji:List Value):List Value:=[(nI i),(.string (dstr cs)),(nI ((dstr cs).size)),bF,(J ji 4),(J ji 5),(J ji 6),(J ji 7),(J ji 8),(J ji 9),(J ji 10),(J ji 11),(J ji 12),(J ji 13)]
abbrev z_664_2(cs:List Nat):Value:=.int .i64 ((((dstr cs).size:Nat):Int)-(4:Int))
abbrev z_664_3(cs:List Nat)(b:Nat):Value:=.string (dstr (cs.take b))
end
noncomputable def lb_a_f(cs:List Nat)(b l i:Nat)(ji:List Value)(j2:List Value):Frame:=⟨87,List.toArray [(.string (dstr cs)),uu,(.slice none 0 0),(.slice none 0 0),(nI b),(nI l),(nI i),(.string (dstr cs)),(nI ((dstr cs).size)),bT,(.string (dstr cs)),(nI ((dstr cs).size)),(z_664_2 cs),(nI b),(nI b),(J ji 0),(J ji 1),(J ji 2),(J ji 3),(J ji 4),(J ji 5),(J ji 6),(J ji 7),(J ji 8),(J ji 9),(J ji 10),(J ji 11),(J ji 12),(J ji 13),uu,uu,uu,uu,uu,uu,uu,uu,uu],[.code (cd Tryz.f87 [1,1,0,0,0,1,0,1,1,0,1,0,0]),.inLoop (cd Tryz.f87 [1,1,0,0,0,1,0,1,1,0,1,0,0]),.inBlock 2,.code (cd Tryz.f87 [1,1,0,0,0,1,0,1,1,1]),.inBlock 1,.inLoop (cd Tryz.f87 [1,1,0,0,0]),.inBlock 0,.code (cd Tryz.f87 [1,1,1])],[],.run,.normal,none⟩
noncomputable def lb_a_o(cs:List Nat)(b l i:Nat)(ji:List Value):List (Nat×AObj):=[]
noncomputable def lb_a(cs:List Nat)(b l i:Nat)(ji:List Value)(j2:List Value):AS:=⟨lb_a_f cs b l i ji j2,[],mkH 5 (lb_a_o cs b l i ji)⟩
theorem lb_in(cs:List Nat)(b:Nat)(h0:0<(dstr cs).size)(hm:(dstr cs).size<1099511627776)(hb:b=(dstr cs).size-4):GT ⟨Frame.enter Tryz.prog 87 #[(.string (dstr cs))] .normal,[],mkH 5 []⟩ (lb_a cs b 0 b ([undef,undef,undef,undef,undef,undef,undef,undef,undef,undef,undef,undef,undef,undef]) []):=
 sR (sc:=[(16,.op (.rwB true)),(8,.op (.rwI ((((dstr cs).size:Nat):Int)-(4:Int)))),(0,.op (.rwI (b:Int))),(14,.stay)]) (by kernel_rfl) (aI (dT (p:=(((dstr cs).size:Nat):Int)>(0:Int))) (aI (wI64 (a:=((((dstr cs).size:Nat):Int)-(4:Int))) (r:=((((dstr cs).size:Nat):Int)-(4:Int)))) (aI (show (if ((((dstr cs).size:Nat):Int)-(4:Int))>(0:Int) then ((((dstr cs).size:Nat):Int)-(4:Int)) else (0:Int))=(b:Int) from (by split<;>omega)) tt)))
theorem lb_a1(cs:List Nat)(b l i:Nat)(ji j2:List Value)(q:Nat)(hq:q<10)(hl:l<1000)(hi:i<(dstr cs).size)(hm:(dstr cs).size<1099511627776)(hx:(dstr cs)[i]? =some (UInt8.ofNat (48+q))):GT (lb_a cs b l i ji j2) (lb_a cs b ((10*l)+q) (i+1) ((z_664_0 i l q cs)) []):=
 sR (sc:=[(6,.op (.rwB true)),(7,.op (.rwI (((10*l):Nat):Int))),(2,.op (.sidx (UInt8.ofNat (48+q)))),(0,.op (.rwI (q:Int))),(0,.op (.rwI (q:Int))),(0,.op (.rwI ((((10*l)+q):Nat):Int))),(5,.op (.rwI (((i+1):Nat):Int))),(3,.stay)]) (by kernel_rfl) (aI (dT (p:=(i:Int)<(((dstr cs).size:Nat):Int))) (aI (wI64 (a:=((10:Int)*(l:Int))) (r:=(((10*l):Nat):Int))) (aI (show 0≤(i:Int)∧(dstr cs)[Int.toNat (i:Int)]? =some (UInt8.ofNat (48+q)) from⟨by omega,hx⟩) (aI (show IntKind.wrap .u8 ((((UInt8.ofNat (48+q)).toNat:Nat):Int)-(48:Int))=(q:Int) from (byte_sub hq)) (aI (wI64 (a:=(q:Int)) (r:=(q:Int))) (aI (wI64 (a:=((((10*l):Nat):Int)+(q:Int))) (r:=((((10*l)+q):Nat):Int))) (aI (wI64 (a:=((i:Int)+(1:Int))) (r:=(((i+1):Nat):Int))) tt)))))))
noncomputable def lb_h_f(st:ByteArray)(ls:List Nat)(k:Nat)(jc:List Value)(j:List Value):Frame:=⟨87,List.toArray [(.string st),uu,(.slice none 0 0),(sl 6 k 0),(J j 0),(J j 1),(J j 2),(J j 3),(J j 4),(J j 5),(J j 6),(J j 7),(J j 8),(J j 9),(J j 10),(J jc 0),(J jc 1),(J jc 2),(J jc 3),(J jc 4),(J jc 5),(J jc 6),(J jc 7),(J jc 8),(J jc 9),(J jc 10),(J jc 11),(J jc 12),(J jc 13),(J j 11),(J j 12),(J j 13),(J j 14),(J j 15),(J j 16),(J j 17),uu,uu],[.code (cd Tryz.f87 [1,1,0,0,0]),.inLoop (cd Tryz.f87 [1,1,0,0,0]),.inBlock 0,.code (cd Tryz.f87 [1,1,1])],[],.run,.normal,none⟩
noncomputable def lb_h_o(st:ByteArray)(ls:List Nat)(k:Nat)(jc:List Value):List (Nat×AObj):=[(6,(.cells (ns .i64 ls) 3 (some 1) false))]
noncomputable def lb_h(st:ByteArray)(ls:List Nat)(k:Nat)(jc:List Value)(j:List Value):AS:=⟨lb_h_f st ls k jc j,[],mkH 9 (lb_h_o st ls k jc)⟩
theorem lb_2{s0:AS}(hs0:s0.h.next=5)(cs:List Nat)(b l i:Nat)(ji j2:List Value)(hji:FixJ (turnT 5 0) ji)(hb:b≤(dstr cs).size)(hi:(dstr cs).size≤i)(hm:(dstr cs).size<1099511627776)(hr:GT s0 (lb_a cs b l i ji j2)):GT s0 (lb_h (dstr (cs.take b)) ([l]) 1 ((z_664_1 i cs ji)) [(nI b),(nI l),(nI i),(.string (dstr cs)),(nI ((dstr cs).size)),bT,(.string (dstr cs)),(nI ((dstr cs).size)),(z_664_2 cs),(nI b),(nI b),(.slice none 0 0),(nI l),(sl 5 1 1),(sl 6 1 0),(.string (dstr cs)),(nI b),(z_664_3 cs b)]):=by
 have h1:=hr.trans (sR (sc:=[(6,.op (.rwB false)),(3,.drwM [(6,.sslc (dstr (cs.take b)))] []),(2,.stay)]) (fr1:=⟨87,List.toArray [(z_664_3 cs b),uu,(.slice none 0 0),(sl 6 1 0),(nI b),(nI l),(nI i),(.string (dstr cs)),(nI ((dstr cs).size)),bT,(.string (dstr cs)),(nI ((dstr cs).size)),(z_664_2 cs),(nI b),(nI b),(nI i),(.string (dstr cs)),(nI ((dstr cs).size)),bF,(J ji 4),(J ji 5),(J ji 6),(J ji 7),(J ji 8),(J ji 9),(J ji 10),(J ji 11),(J ji 12),(J ji 13),(.slice none 0 0),(nI l),(sl 5 1 1),(sl 6 1 0),(.string (dstr cs)),(nI b),(z_664_3 cs b),uu,uu],[.code (cd Tryz.f87 [1,1,0,0,0]),.inLoop (cd Tryz.f87 [1,1,0,0,0]),.inBlock 0,.code (cd Tryz.f87 [1,1,1])],[],.run,.normal,none⟩) (next:=7) (l:=[(6,(.cells [(nI l)] 3 (some 1) false))]) (by kernel_rfl) (aI (dF (p:=(i:Int)<(((dstr cs).size:Nat):Int))) (aI (aI tt (aI tt (aI tt (aI tt (aI (show 0≤(0:Int)∧(0:Int)≤(b:Int)∧(b:Int)≤(((dstr cs).size:Nat):Int)∧(dstr cs).extract (Int.toNat (0:Int)) (Int.toNat (b:Int))=(dstr (cs.take b)) from⟨by omega,by omega,by omega,by rw[dstr_extract];rfl⟩) (aI tt (aI tt (aI tt (aI tt tt))))))))) tt)))
 rw[←J_mv (turnT 5 0) hji 10]at h1
 rw[←J_mv (turnT 5 0) hji 11]at h1
 rw[←J_mv (turnT 5 0) hji 12]at h1
 rw[←J_mv (turnT 5 0) hji 13]at h1
 rw[←J_mv (turnT 5 0) hji 4]at h1
 rw[←J_mv (turnT 5 0) hji 5]at h1
 rw[←J_mv (turnT 5 0) hji 6]at h1
 rw[←J_mv (turnT 5 0) hji 7]at h1
 rw[←J_mv (turnT 5 0) hji 8]at h1
 rw[←J_mv (turnT 5 0) hji 9]at h1
 exact gets_turn (fr:=lb_h_f (dstr (cs.take b)) ([l]) 1 ((z_664_1 i cs ji)) [(nI b),(nI l),(nI i),(.string (dstr cs)),(nI ((dstr cs).size)),bT,(.string (dstr cs)),(nI ((dstr cs).size)),(z_664_2 cs),(nI b),(nI b),(.slice none 0 0),(nI l),(sl 5 1 1),(sl 6 1 0),(.string (dstr cs)),(nI b),(z_664_3 cs b)]) (fr1:=⟨87,List.toArray [(z_664_3 cs b),undef,(.slice none 0 0),(sl 6 1 0),(nI b),(nI l),(nI i),(.string (dstr cs)),(nI ((dstr cs).size)),bT,(.string (dstr cs)),(nI ((dstr cs).size)),(z_664_2 cs),(nI b),(nI b),(nI i),(.string (dstr cs)),(nI ((dstr cs).size)),bF,(mv (turnT 5 0) (J ji 4)),(mv (turnT 5 0) (J ji 5)),(mv (turnT 5 0) (J ji 6)),(mv (turnT 5 0) (J ji 7)),(mv (turnT 5 0) (J ji 8)),(mv (turnT 5 0) (J ji 9)),(mv (turnT 5 0) (J ji 10)),(mv (turnT 5 0) (J ji 11)),(mv (turnT 5 0) (J ji 12)),(mv (turnT 5 0) (J ji 13)),(.slice none 0 0),(nI l),(sl 5 1 1),(sl 6 1 0),(.string (dstr cs)),(nI b),(z_664_3 cs b),undef,undef],[.code (cd Tryz.f87 [1,1,0,0,0]),.inLoop (cd Tryz.f87 [1,1,0,0,0]),.inBlock 0,.code (cd Tryz.f87 [1,1,1])],[],.run,.normal,none⟩) (nx1:=7) (b:=5) (k:=0) (l1:=[(6,(.cells [(nI l)] 3 (some 1) false))]) (l2:=lb_h_o (dstr (cs.take b)) ([l]) 1 ((z_664_1 i cs ji))) h1 (by kernel_rfl) rfl rfl rfl (by kernel_rfl) (by rw[hs0];decide) (by rw[hs0];decide) (by decide) (by decide) (by rfl) (by simp only[lb_h_o,List.map_cons,List.map_nil,mvO,closedL_mv _ _ (ns_closed _ _)]) (by kernel_rfl)
noncomputable def lb_g_f(cs ls:List Nat)(k b l i:Nat)(j jc:List Value)(ji:List Value)(j2:List Value):Frame:=⟨87,List.toArray [(.string (dstr cs)),uu,(.slice none 0 0),(sl 6 k 0),(nI b),(nI l),(nI i),(.string (dstr cs)),(nI ((dstr cs).size)),bT,(.string (dstr cs)),(nI ((dstr cs).size)),(z_664_2 cs),(nI b),(nI b),(J ji 0),(J ji 1),(J ji 2),(J ji 3),(J ji 4),(J ji 5),(J ji 6),(J ji 7),(J ji 8),(J ji 9),(J ji 10),(J ji 11),(J ji 12),(J ji 13),(J j 11),(J j 12),(J j 13),(J j 14),(J j 15),(J j 16),(J j 17),uu,uu],[.code (cd Tryz.f87 [1,1,0,0,0,1,0,1,1,0,1,0,0]),.inLoop (cd Tryz.f87 [1,1,0,0,0,1,0,1,1,0,1,0,0]),.inBlock 2,.code (cd Tryz.f87 [1,1,0,0,0,1,0,1,1,1]),.inBlock 1,.inLoop (cd Tryz.f87 [1,1,0,0,0]),.inBlock 0,.code (cd Tryz.f87 [1,1,1])],[],.run,.normal,none⟩
noncomputable def lb_g_o(cs ls:List Nat)(k b l i:Nat)(j jc:List Value)(ji:List Value):List (Nat×AObj):=[(6,(.cells (ns .i64 ls) 3 (some 1) false))]
noncomputable def lb_g(cs ls:List Nat)(k b l i:Nat)(j jc:List Value)(ji:List Value)(j2:List Value):AS:=⟨lb_g_f cs ls k b l i j jc ji j2,[],mkH 9 (lb_g_o cs ls k b l i j jc ji)⟩
theorem lb_3(cs ls:List Nat)(k b:Nat)(j jc:List Value)(h0:0<(dstr cs).size)(hm:(dstr cs).size<1099511627776)(hb:b=(dstr cs).size-4):GT (lb_h (dstr cs) ls k jc j) (lb_g cs ls k b 0 b j jc ([(J jc 0),(J jc 1),(J jc 2),(J jc 3),(J jc 4),(J jc 5),(J jc 6),(J jc 7),(J jc 8),(J jc 9),(J jc 10),(J jc 11),(J jc 12),(J jc 13)]) []):=
 sR (sc:=[(5,.op (.rwB true)),(8,.op (.rwI ((((dstr cs).size:Nat):Int)-(4:Int)))),(0,.op (.rwI (b:Int))),(14,.stay)]) (by kernel_rfl) (aI (dT (p:=(((dstr cs).size:Nat):Int)>(0:Int))) (aI (wI64 (a:=((((dstr cs).size:Nat):Int)-(4:Int))) (r:=((((dstr cs).size:Nat):Int)-(4:Int)))) (aI (show (if ((((dstr cs).size:Nat):Int)-(4:Int))>(0:Int) then ((((dstr cs).size:Nat):Int)-(4:Int)) else (0:Int))=(b:Int) from (by split<;>omega)) tt)))
theorem lb_g1(cs ls:List Nat)(k b l i:Nat)(j jc ji j2:List Value)(q:Nat)(hq:q<10)(hl:l<1000)(hi:i<(dstr cs).size)(hm:(dstr cs).size<1099511627776)(hx:(dstr cs)[i]? =some (UInt8.ofNat (48+q))):GT (lb_g cs ls k b l i j jc ji j2) (lb_g cs ls k b ((10*l)+q) (i+1) j jc ((z_664_0 i l q cs)) []):=
 sR (sc:=[(6,.op (.rwB true)),(7,.op (.rwI (((10*l):Nat):Int))),(2,.op (.sidx (UInt8.ofNat (48+q)))),(0,.op (.rwI (q:Int))),(0,.op (.rwI (q:Int))),(0,.op (.rwI ((((10*l)+q):Nat):Int))),(5,.op (.rwI (((i+1):Nat):Int))),(3,.stay)]) (by kernel_rfl) (aI (dT (p:=(i:Int)<(((dstr cs).size:Nat):Int))) (aI (wI64 (a:=((10:Int)*(l:Int))) (r:=(((10*l):Nat):Int))) (aI (show 0≤(i:Int)∧(dstr cs)[Int.toNat (i:Int)]? =some (UInt8.ofNat (48+q)) from⟨by omega,hx⟩) (aI (show IntKind.wrap .u8 ((((UInt8.ofNat (48+q)).toNat:Nat):Int)-(48:Int))=(q:Int) from (byte_sub hq)) (aI (wI64 (a:=(q:Int)) (r:=(q:Int))) (aI (wI64 (a:=((((10*l):Nat):Int)+(q:Int))) (r:=((((10*l)+q):Nat):Int))) (aI (wI64 (a:=((i:Int)+(1:Int))) (r:=(((i+1):Nat):Int))) tt)))))))
theorem lb_4{s0:AS}(hs0:s0.h.next=5)(cs ls:List Nat)(k b l i:Nat)(j jc ji j2:List Value)(hjc:FixJ (turnT 5 2) jc)(hji:FixJ (turnT 5 2) ji)(hb:b≤(dstr cs).size)(hi:(dstr cs).size≤i)(hm:(dstr cs).size<1099511627776)(hk:ls.length=k)(hk2:k<1099511627776)(hr:GT s0 (lb_g cs ls k b l i j jc ji j2)):GT s0 (lb_h (dstr (cs.take b)) (ls++[l]) (k+1) ((z_664_1 i cs ji)) [(nI b),(nI l),(nI i),(.string (dstr cs)),(nI ((dstr cs).size)),bT,(.string (dstr cs)),(nI ((dstr cs).size)),(z_664_2 cs),(nI b),(nI b),(sl 8 k 0),(nI l),(sl 5 1 1),(sl 6 (k+1) 0),(.string (dstr cs)),(nI b),(z_664_3 cs b)]):=by
 have h1:=hr.trans (sR (sc:=[(6,.op (.rwB false)),(3,.drwM [(6,.sslc (dstr (cs.take b))),(3,.appG (k+1) (ns .i64 (ls++[l])))] []),(2,.stay)]) (fr1:=⟨87,List.toArray [(z_664_3 cs b),uu,(.slice none 0 0),(sl 10 (k+1) 0),(nI b),(nI l),(nI i),(.string (dstr cs)),(nI ((dstr cs).size)),bT,(.string (dstr cs)),(nI ((dstr cs).size)),(z_664_2 cs),(nI b),(nI b),(nI i),(.string (dstr cs)),(nI ((dstr cs).size)),bF,(J ji 4),(J ji 5),(J ji 6),(J ji 7),(J ji 8),(J ji 9),(J ji 10),(J ji 11),(J ji 12),(J ji 13),(sl 6 k 0),(nI l),(sl 9 1 1),(sl 10 (k+1) 0),(.string (dstr cs)),(nI b),(z_664_3 cs b),uu,uu],[.code (cd Tryz.f87 [1,1,0,0,0]),.inLoop (cd Tryz.f87 [1,1,0,0,0]),.inBlock 0,.code (cd Tryz.f87 [1,1,1])],[],.run,.normal,none⟩) (next:=11) (l:=[(10,(.cells (ns .i64 (ls++[l])) 3 (some 1) false))]) (by kernel_rfl) (aI (dF (p:=(i:Int)<(((dstr cs).size:Nat):Int))) (aI (aI tt (aI tt (aI tt (aI tt (aI (show 0≤(0:Int)∧(0:Int)≤(b:Int)∧(b:Int)≤(((dstr cs).size:Nat):Int)∧(dstr cs).extract (Int.toNat (0:Int)) (Int.toNat (b:Int))=(dstr (cs.take b)) from⟨by omega,by omega,by omega,by rw[dstr_extract];rfl⟩) (aI tt (aI (show k+1=(k+1)∧(k+1)*8≤140737488355328∧(k+1)≤9223372036854775807∧((ns .i64 ls):List Value).length=k*1∧((ns .i64 ls):List Value)++[(nI l)]=(ns .i64 (ls++[l])) from⟨by omega,by omega,by omega,by rw[ns_length,Nat.mul_one];omega,ns_snoc _ _ _⟩) (aI tt (aI tt tt))))))))) tt)))
 rw[←J_mv (turnT 5 2) hji 10]at h1
 rw[←J_mv (turnT 5 2) hji 11]at h1
 rw[←J_mv (turnT 5 2) hji 12]at h1
 rw[←J_mv (turnT 5 2) hji 13]at h1
 rw[←J_mv (turnT 5 2) hji 4]at h1
 rw[←J_mv (turnT 5 2) hji 5]at h1
 rw[←J_mv (turnT 5 2) hji 6]at h1
 rw[←J_mv (turnT 5 2) hji 7]at h1
 rw[←J_mv (turnT 5 2) hji 8]at h1
 rw[←J_mv (turnT 5 2) hji 9]at h1
 exact gets_turn (fr:=lb_h_f (dstr (cs.take b)) (ls++[l]) (k+1) ((z_664_1 i cs ji)) [(nI b),(nI l),(nI i),(.string (dstr cs)),(nI ((dstr cs).size)),bT,(.string (dstr cs)),(nI ((dstr cs).size)),(z_664_2 cs),(nI b),(nI b),(sl 8 k 0),(nI l),(sl 5 1 1),(sl 6 (k+1) 0),(.string (dstr cs)),(nI b),(z_664_3 cs b)]) (fr1:=⟨87,List.toArray [(z_664_3 cs b),undef,(.slice none 0 0),(sl 10 (k+1) 0),(nI b),(nI l),(nI i),(.string (dstr cs)),(nI ((dstr cs).size)),bT,(.string (dstr cs)),(nI ((dstr cs).size)),(z_664_2 cs),(nI b),(nI b),(nI i),(.string (dstr cs)),(nI ((dstr cs).size)),bF,(mv (turnT 5 2) (J ji 4)),(mv (turnT 5 2) (J ji 5)),(mv (turnT 5 2) (J ji 6)),(mv (turnT 5 2) (J ji 7)),(mv (turnT 5 2) (J ji 8)),(mv (turnT 5 2) (J ji 9)),(mv (turnT 5 2) (J ji 10)),(mv (turnT 5 2) (J ji 11)),(mv (turnT 5 2) (J ji 12)),(mv (turnT 5 2) (J ji 13)),(sl 6 k 0),(nI l),(sl 9 1 1),(sl 10 (k+1) 0),(.string (dstr cs)),(nI b),(z_664_3 cs b),undef,undef],[.code (cd Tryz.f87 [1,1,0,0,0]),.inLoop (cd Tryz.f87 [1,1,0,0,0]),.inBlock 0,.code (cd Tryz.f87 [1,1,1])],[],.run,.normal,none⟩) (nx1:=11) (b:=5) (k:=2) (l1:=[(10,(.cells (ns .i64 (ls++[l])) 3 (some 1) false))]) (l2:=lb_h_o (dstr (cs.take b)) (ls++[l]) (k+1) ((z_664_1 i cs ji))) h1 (by kernel_rfl) rfl rfl rfl (by kernel_rfl) (by rw[hs0];decide) (by rw[hs0];decide) (by decide) (by decide) (by rfl) (by simp only[lb_h_o,List.map_cons,List.map_nil,mvO,closedL_mv _ _ (ns_closed _ _)]) (by kernel_rfl)
theorem lb_o(ds ls:List Nat)(k:Nat)(st:ByteArray)(j jc:List Value)(h0:st.size=0)(hk:k≤ls.length)(hk2:k<1099511627776)(hr:GT ⟨Frame.enter Tryz.prog 87 #[(.string (dstr ds))] .normal,[],mkH 5 []⟩ (lb_h st ls k jc j)):CT 87 #[(.string (dstr ds))] (mkH 5 []) (sl 6 (F.top ls k) 0) (mkH 9 [(6,(.cells (ns .i64 ls) 3 (some 1) false))]):=
 sF (sc:=[(5,.op (.rwB false)),(6,.call [6] (sl 6 (F.top ls k) 0) [(6,some (.cells (ns .i64 ls) 3 (some 1) false))] []),(3,.stay)]) (by kernel_rfl) (aI (dF (p:=((st.size:Nat):Int)>(0:Int))) (aI (rt_c 9 6 ls k (by omega) (by omega) (by omega)) tt)) hr
theorem lb_inA{cs:List Nat}{b:Nat}{s0:AS}(hd:Dig cs)(hm:cs.length<1099511627776)(hb4:cs.length≤b+4): ∀(n i:Nat) (ji j2:List Value),n=cs.length-i→b≤i→i≤cs.length→(∀q,FixJ (turnT 5 q) ji)→
  GT s0 (lb_a cs b (dval ((cs.take i).drop b)) i ji j2)→ ∃ji' j2',(∀q,FixJ (turnT 5 q) ji')∧GT s0 (lb_a cs b (dval (cs.drop b)) cs.length ji' j2'):=by
 intro n
 induction n with
 |zero=>
  intro i ji j2 hn hb hi hji hr
  have:i=cs.length:=by omega
  subst this
  rw[List.take_length]at hr
  exact⟨ji,j2,hji,hr⟩
 |succ n ih=>
  intro i ji j2 hn hb hi hji hr
  have hl:dval ((cs.take i).drop b)<1000:=dval_four (k:=3) ((hd.take i).drop b) (by rw[List.length_drop,List.length_take];omega)
  have r:=lb_a1 cs b _ i ji j2 (cs.getD i 0) (hd.get i) hl (by rw[dstr_size];omega) (by rw[dstr_size];exact hm) (dstr_get (by omega))
  rw[dval_step hb (by omega)]at r
  exact ih (i+1) _ _ (by omega) (by omega) (by omega) (fun _=>by rfl) (hr.trans r)
theorem lb_inB{cs ls:List Nat}{k b:Nat}{j jc:List Value}{s0:AS}(hd:Dig cs)(hm:cs.length<1099511627776)(hb4:cs.length≤b+4): ∀(n i:Nat) (ji j2:List Value),n=cs.length-i→b≤i→i≤cs.length→FixJ (turnT 5 2) ji→
  GT s0 (lb_g cs ls k b (dval ((cs.take i).drop b)) i j jc ji j2)→ ∃ji' j2',FixJ (turnT 5 2) ji'∧GT s0 (lb_g cs ls k b (dval (cs.drop b)) cs.length j jc ji' j2'):=by
 intro n
 induction n with
 |zero=>
  intro i ji j2 hn hb hi hji hr
  have:i=cs.length:=by omega
  subst this
  rw[List.take_length]at hr
  exact⟨ji,j2,hji,hr⟩
 |succ n ih=>
  intro i ji j2 hn hb hi hji hr
  have hl:dval ((cs.take i).drop b)<1000:=dval_four (k:=3) ((hd.take i).drop b) (by rw[List.length_drop,List.length_take];omega)
  have r:=lb_g1 cs ls k b _ i j jc ji j2 (cs.getD i 0) (hd.get i) hl (by rw[dstr_size];omega) (by rw[dstr_size];exact hm) (dstr_get (by omega))
  rw[dval_step hb (by omega)]at r
  exact ih (i+1) _ _ (by omega) (by omega) (by omega) (by rfl) (hr.trans r)
theorem lb_all{ds:List Nat}(hd:Dig ds)(hm:ds.length<1099511627776): ∀(n e:Nat) (ls:List Nat) (jc j:List Value),e≤n→e≤ds.length→F.Lim ls→F.val ls=dval (ds.drop e)→(e=0∨ds.length-e=4*ls.length)→4*ls.length≤ds.length+3→FixJ (turnT 5 2) jc→
  GT ⟨Frame.enter Tryz.prog 87 #[(.string (dstr ds))] .normal,[],mkH 5 []⟩ (lb_h (dstr (ds.take e)) ls ls.length jc j)→
  ∃ls' jc' j',F.Lim ls'∧F.val ls'=dval ds∧4*ls'.length≤ds.length+3∧GT ⟨Frame.enter Tryz.prog 87 #[(.string (dstr ds))] .normal,[],mkH 5 []⟩ (lb_h (dstr []) ls' ls'.length jc' j'):=by
 intro n
 induction n with
 |zero=>
  intro e ls jc j he hel hlim hv hr4 h4 hjc hr
  have:e=0:=by omega
  subst this
  rw[List.take_zero]at hr
  exact⟨ls,jc,j,hlim,hv,h4,hr⟩
 |succ n ih=>
  intro e ls jc j he hel hlim hv hr4 h4 hjc hr
  rcases Nat.eq_zero_or_pos e with h0|h0
  ·subst h0
   rw[List.take_zero]at hr
   exact⟨ls,jc,j,hlim,hv,h4,hr⟩
  ·have hlen:(ds.take e).length=e:=by rw[List.length_take];omega
   have hr4':ds.length-e=4*ls.length:=by omega
   have hsz:(dstr (ds.take e)).size=e:=by rw[dstr_size,hlen]
   obtain⟨b,hb⟩: ∃b,b=e-4:=⟨_,rfl⟩
   have a1:=lb_3 (ds.take e) ls ls.length b j jc (by omega) (by omega) (by rw[hsz];exact hb)
   have a1':GT ⟨Frame.enter Tryz.prog 87 #[(.string (dstr ds))] .normal,[],mkH 5 []⟩ (lb_g (ds.take e) ls ls.length b (dval (((ds.take e).take b).drop b)) b j jc [(J jc 0),(J jc 1),(J jc 2),(J jc 3),(J jc 4),(J jc 5),(J jc 6),(J jc 7),(J jc 8),(J jc 9),(J jc 10),(J jc 11),(J jc 12),(J jc 13)] []):=by
    rw[List.drop_eq_nil_of_le (by rw[List.length_take];omega)]
    exact hr.trans a1
   obtain⟨ji',j2',hji,a2⟩:=lb_inB (hd.take e) (by omega) (by omega) _ b _ _ rfl (Nat.le_refl _) (by omega) (by unfold FixJ;simp[mvL,J_mv _ hjc,mv]) a1'
   have a3:=lb_4 (s0:=⟨Frame.enter Tryz.prog 87 #[(.string (dstr ds))] .normal,[],mkH 5 []⟩) rfl (ds.take e) ls ls.length b (dval ((ds.take e).drop b)) (ds.take e).length j jc ji' j2' hjc hji (by omega) (by rw[hsz,hlen];exact Nat.le_refl _) (by omega) rfl (by omega) a2
   have hl:dval ((ds.take e).drop b)<10000:=dval_four (k:=4) ((hd.take e).drop b) (by rw[List.length_drop,hlen];omega)
   rw[List.take_take,Nat.min_eq_left (by omega),show ls.length+1=(ls++[dval ((ds.take e).drop b)]).length by rw[List.length_append];rfl]at a3
   refine ih b _ _ _ (by omega) (by omega) (hlim.append fun x hx=>by rw[List.mem_singleton]at hx;rw[hx];exact hl) (group_step hv rfl hr4' (by omega) hel rfl) ?_ ?_ (by unfold FixJ;simp[mvL,J_mv _ hji,mv]) a3
   ·rw[List.length_append,List.length_singleton];omega
   ·rw[List.length_append,List.length_singleton];omega
theorem lb_c(ds:List Nat)(hd:Dig ds)(h0:0<ds.length)(hm:ds.length<1099511627776):
  ∃ls t,F.Lim ls∧t≤ls.length∧4*ls.length≤ds.length+3∧F.val (ls.take t)=dval ds∧(0<t→ls.getD (t-1) 0≠0)∧ ∀n0,5≤n0→
   FT 87 #[.string (dstr ds)] n0 [] (sl n0 t 0) [] [.cells (ns .i64 ls) 3 (some 1) false]:=by
 obtain⟨b,hb⟩: ∃b,b=ds.length-4:=⟨_,rfl⟩
 have hsz:=dstr_size ds
 have a1:=lb_in ds b (by omega) (by omega) (by omega)
 have a1':GT ⟨Frame.enter Tryz.prog 87 #[(.string (dstr ds))] .normal,[],mkH 5 []⟩ (lb_a ds b (dval ((ds.take b).drop b)) b [undef,undef,undef,undef,undef,undef,undef,undef,undef,undef,undef,undef,undef,undef] []):=by
  rw[List.drop_eq_nil_of_le (by rw[List.length_take];omega)]
  exact a1
 obtain⟨ji',j2',hji,a2⟩:=lb_inA hd hm (by omega) _ b _ _ rfl (Nat.le_refl _) (by omega) (fun _=>by rfl) a1'
 have a3:=lb_2 (s0:=⟨Frame.enter Tryz.prog 87 #[(.string (dstr ds))] .normal,[],mkH 5 []⟩) rfl ds b (dval (ds.drop b)) ds.length ji' j2' (hji 0) (by omega) (by omega) (by omega) a2
 have hl:dval (ds.drop b)<10000:=dval_four (k:=4) (hd.drop b) (by rw[List.length_drop];omega)
 obtain⟨ls,jc',j',h1,h2,h3,a4⟩:=lb_all hd hm _ b [dval (ds.drop b)] _ _ (Nat.le_refl _) (by omega) (fun x hx=>by rw[List.mem_singleton]at hx;rw[hx];exact hl) (by simp[F.val]) (by simp;omega) (by simp;omega) (by unfold FixJ;simp[mvL,J_mv _ (hji 2),mv]) a3
 have S:=lb_o ds ls ls.length (dstr []) j' jc' rfl (Nat.le_refl _) (by omega) a4
 have ht:=F.top_le ls ls.length
 refine⟨ls,F.top ls ls.length,h1,ht,h3,?_,F.top_pos ls _,fun n0 hG=> ?_⟩
 ·rw[F.top_val,List.take_length];exact h2
 ·exact fsp_flat [] [] [] [6] [.cells (ns .i64 ls) 3 (some 1) false] n0 S rfl rfl rfl (by simp) (by simp) hG rfl rfl (by simp[flat,ns_closed,AObj.ro]) (by simp) (by simp) rfl rfl rfl
noncomputable section
abbrev z_866_0(q j0 i k n z:Nat)(j:List Value):List Value:=[(nI q),(nI j0),(J j 0),(J j 1),(J j 2),(J j 3),bT,(nI i),(nI (i+1)),(nI j0),(sl 6 k 0),(nI k),bF,(J j 10),(J j 11),(J j 12),(J j 13),(J j 14),(J j 15),(J j 16),(J j 17),(J j 18),(J j 19),(J j 20),(J j 21),(J j 22),(J j 23),(J j 24),(J j 25),(J j 26),(J j 27),(J j 28),(J j 29),(J j 30),(J j 31),(J j 32),(J j 33),(J j 34),(J j 35),(J j 36),(J j 37),(J j 38),(sl 7 (n+k) (n+k)),(nI i),(sl 6 k 0),(nI k),(nI (i+k)),(sl 7 (n+k) (n+k)),(nI i),(sl 6 k 0),(nI k),(nI (i+k)),(.pointer (some ⟨7,(i+k),none⟩)),(nI z),(nI q),(nI q),(.pointer (some ⟨7,(i+k),none⟩))]
abbrev z_866_1(w j0 k n i r a b p q:Nat)(j:List Value):List Value:=[(nI w),(J j 1),(J j 2),(J j 3),(J j 4),(J j 5),(nI j0),(sl 6 k 0),(nI k),bT,(nI j0),(nI (j0+1)),(sl 7 (n+k) (n+k)),(nI i),(nI j0),(nI (i+j0)),(.pointer (some ⟨7,(i+j0),none⟩)),(nI r),(sl 5 n 0),(nI i),(.pointer (some ⟨5,i,none⟩)),(nI a),(sl 6 k 0),(nI j0),(.pointer (some ⟨6,j0,none⟩)),(nI b),(nI p),(nI (r+p)),(nI q),(nI w),(sl 7 (n+k) (n+k)),(nI i),(nI j0),(nI (i+j0)),(nI w),(nI (w%10000)),(nI w),(nI (w/10000)),(.pointer (some ⟨7,(i+j0),none⟩)),(J j 39),(J j 40),(J j 41),(J j 42),(J j 43),(J j 44),(J j 45),(J j 46),(J j 47),(J j 48),(J j 49),(J j 50),(J j 51),(J j 52),(J j 53)]
abbrev z_866_2(xs ys zs:List Nat):List (Nat×AObj):=[(5,(.cells (ns .i64 xs) 3 (some 1) false)),(6,(.cells (ns .i64 ys) 3 (some 1) false)),(7,(.cells (ns .i64 zs) 3 none false))]
abbrev z_866_3(xs ys:List Nat):List (Nat×AObj):=[(5,(.cells (ns .i64 xs) 3 (some 1) false)),(6,(.cells (ns .i64 ys) 3 (some 1) false))]
end
noncomputable def rtm_h_f(xs ys zs:List Nat)(n k i:Nat)(j:List Value):Frame:=⟨92,List.toArray [(sl 5 n 0),(sl 6 k 0),uu,uu,(.slice none 0 0),(sl 7 (n+k) (n+k)),(nI i),(J j 0),(J j 1),(J j 2),(sl 5 n 0),(nI n),(sl 6 k 0),(nI k),(nI (n+k)),(sl 7 (n+k) (n+k)),(J j 3),(J j 4),(J j 5),(J j 6),(J j 7),(J j 8),(J j 9),(J j 10),(J j 11),(J j 12),(J j 13),(J j 14),(J j 15),(J j 16),(J j 17),(J j 18),(J j 19),(J j 20),(J j 21),(J j 22),(J j 23),(J j 24),(J j 25),(J j 26),(J j 27),(J j 28),(J j 29),(J j 30),(J j 31),(J j 32),(J j 33),(J j 34),(J j 35),(J j 36),(J j 37),(J j 38),(J j 39),(J j 40),(J j 41),(J j 42),(J j 43),(J j 44),(J j 45),(J j 46),(J j 47),(J j 48),(J j 49),(J j 50),(J j 51),(J j 52),(J j 53),(J j 54),(J j 55),(J j 56),uu,uu],[.code (cd Tryz.f92 [1,1,0,1,0,0]),.inLoop (cd Tryz.f92 [1,1,0,1,0,0]),.inBlock 0,.code (cd Tryz.f92 [1,1,1])],[],.run,.normal,none⟩
noncomputable def rtm_h_o(xs ys zs:List Nat)(n k i:Nat):List (Nat×AObj):=(z_866_2 xs ys zs)
noncomputable def rtm_h(xs ys zs:List Nat)(n k i:Nat)(j:List Value):AS:=⟨rtm_h_f xs ys zs n k i j,[],mkH 8 (rtm_h_o xs ys zs n k i)⟩
theorem rtm_in(xs ys:List Nat)(n k:Nat)(hn:n<70368744177)(hkm:k<70368744177):GT ⟨Frame.enter Tryz.prog 92 #[(sl 5 n 0),(sl 6 k 0)] .normal,[],mkH 7 (z_866_3 xs ys)⟩ (rtm_h xs ys (List.replicate (n+k) 0) n k 0 [undef,undef,undef,undef,undef,undef,undef,undef,undef,undef,undef,undef,undef,undef,undef,undef,undef,undef,undef,undef,undef,undef,undef,undef,undef,undef,undef,undef,undef,undef,undef,undef,undef,undef,undef,undef,undef,undef,undef,undef,undef,undef,undef,undef,undef,undef,undef,undef,undef,undef,undef,undef,undef,undef,undef,undef,undef]):=
 sR (sc:=[(10,.op (.rwI (((n+k):Nat):Int))),(0,.op (.mks (n+k) (n+k) (ns .i64 (List.replicate (n+k) 0)))),(9,.stay)]) (by kernel_rfl) (aI (wI64 (a:=((n:Int)+(k:Int))) (r:=(((n+k):Nat):Int))) (aI (show (0≤(((n+k):Nat):Int)∧(((n+k):Nat):Int)≤(((n+k):Nat):Int)∧((8:Nat):Int)*(((n+k):Nat):Int)≤281474976710656∧(((n+k):Nat):Int)≤9223372036854775807)∧closedL (ns .i64 (List.replicate (n+k) 0))=true∧(madeCells (Value.cells (lI 0)) (Int.toNat (((n+k):Nat):Int)*1)).toList=(ns .i64 (List.replicate (n+k) 0))∧Int.toNat (((n+k):Nat):Int)=(n+k)∧Int.toNat (((n+k):Nat):Int)=(n+k) from (by refine⟨⟨?_,?_,?_,?_⟩,ns_closed _ _,ns_made _ _ _,?_,?_⟩<;>omega)) tt))
noncomputable def rtm_g_f(xs ys zs:List Nat)(n k i q j0:Nat)(j:List Value):Frame:=⟨92,List.toArray [(sl 5 n 0),(sl 6 k 0),uu,uu,(.slice none 0 0),(sl 7 (n+k) (n+k)),(nI i),(nI q),(nI j0),(J j 0),(sl 5 n 0),(nI n),(sl 6 k 0),(nI k),(nI (n+k)),(sl 7 (n+k) (n+k)),(J j 1),(J j 2),(J j 3),bT,(J j 4),(J j 5),(J j 6),(J j 7),(J j 8),(J j 9),(J j 10),(J j 11),(J j 12),(J j 13),(J j 14),(J j 15),(J j 16),(J j 17),(J j 18),(J j 19),(J j 20),(J j 21),(J j 22),(J j 23),(J j 24),(J j 25),(J j 26),(J j 27),(J j 28),(J j 29),(J j 30),(J j 31),(J j 32),(J j 33),(J j 34),(J j 35),(J j 36),(J j 37),(J j 38),(J j 39),(J j 40),(J j 41),(J j 42),(J j 43),(J j 44),(J j 45),(J j 46),(J j 47),(J j 48),(J j 49),(J j 50),(J j 51),(J j 52),(J j 53),uu,uu],[.code (cd Tryz.f92 [1,1,0,1,0,0,1,0,0,1,0,1,0,0]),.inLoop (cd Tryz.f92 [1,1,0,1,0,0,1,0,0,1,0,1,0,0]),.inBlock 2,.code (cd Tryz.f92 [1,1,0,1,0,0,1,0,0,1,1]),.inBlock 1,.code (cd Tryz.f92 [1,1,0,1,0,0,1,1]),.inLoop (cd Tryz.f92 [1,1,0,1,0,0]),.inBlock 0,.code (cd Tryz.f92 [1,1,1])],[],.run,.normal,none⟩
noncomputable def rtm_g_o(xs ys zs:List Nat)(n k i q j0:Nat):List (Nat×AObj):=(z_866_2 xs ys zs)
noncomputable def rtm_g(xs ys zs:List Nat)(n k i q j0:Nat)(j:List Value):AS:=⟨rtm_g_f xs ys zs n k i q j0 j,[],mkH 8 (rtm_g_o xs ys zs n k i q j0)⟩
theorem rtm_1(xs ys zs:List Nat)(n k i:Nat)(j:List Value)(hi:i<n)(hn:n<70368744177)(hkm:k<70368744177):GT (rtm_h xs ys zs n k i j) (rtm_g xs ys zs n k i 0 0 [(J j 2),(nI i),(sl 5 n 0),(nI n),(J j 7),(J j 8),(J j 9),(J j 10),(J j 11),(J j 12),(J j 13),(J j 14),(J j 15),(J j 16),(J j 17),(J j 18),(J j 19),(J j 20),(J j 21),(J j 22),(J j 23),(J j 24),(J j 25),(J j 26),(J j 27),(J j 28),(J j 29),(J j 30),(J j 31),(J j 32),(J j 33),(J j 34),(J j 35),(J j 36),(J j 37),(J j 38),(J j 39),(J j 40),(J j 41),(J j 42),(J j 43),(J j 44),(J j 45),(J j 46),(J j 47),(J j 48),(J j 49),(J j 50),(J j 51),(J j 52),(J j 53),(J j 54),(J j 55),(J j 56)]):=
 sR (sc:=[(6,.op (.rwB true)),(16,.stay)]) (by kernel_rfl) (aI (dT (p:=(i:Int)<(n:Int))) tt)
theorem rtm_2(xs ys zs:List Nat)(n k i q j0 a b r p w:Nat)(j:List Value)(hi:i<n)(hj:j0<k)(hn:n<70368744177)(hkm:k<70368744177)(hnx:n≤xs.length)(hky:k≤ys.length)(hzl:zs.length=n+k)(ha:a<10000)(hb:b<10000)(hr:r<10000)(hq:q<10000)(hp:p=a*b)(hp2:p≤99980001)(hw:w=p+r+q)(hx:(ns .i64 xs)[i]? =some (nI a))(hy:(ns .i64 ys)[j0]? =some (nI b))(hz:(ns .i64 zs)[i+j0]? =some (nI r)):GT (rtm_g xs ys zs n k i q j0 j) (rtm_g xs ys (zs.set (i+j0) (w%10000)) n k i (w/10000) (j0+1) (z_866_1 w j0 k n i r a b p q j)):=
 sR (sc:=[(6,.op (.rwB true)),(6,.drw [(3,.rwI (((i+j0):Nat):Int)),(4,.idx (i+j0)),(5,.ld (nI r)),(8,.idx i),(9,.ld (nI a)),(12,.idx j0),(13,.ld (nI b)),(14,.rwI (p:Int)),(15,.rwI (((r+p):Nat):Int)),(17,.rwI (w:Int))]),(4,.op (.rwI (((i+j0):Nat):Int))),(1,.op (.rwI (((w%10000):Nat):Int))),(1,.op (.rwI (((w/10000):Nat):Int))),(0,.op (.idx (i+j0))),(0,.op (.st (ns .i64 (zs.set (i+j0) (w%10000))))),(5,.op (.rwI (((j0+1):Nat):Int))),(3,.stay)]) (by kernel_rfl) (aI (dT (p:=(j0:Int)<(k:Int))) (aI (aI tt (aI tt (aI tt (aI (wI64 (a:=((i:Int)+(j0:Int))) (r:=(((i+j0):Nat):Int))) (aI (ix (((i+j0):Nat):Int) (((n+k):Nat):Int) 0 1 (i+j0)) (aI hz (aI tt (aI tt (aI (ix (i:Int) (n:Int) 0 1 i) (aI hx (aI tt (aI tt (aI (ix (j0:Int) (k:Int) 0 1 j0) (aI hy (aI (show IntKind.wrap .i64 ((a:Int)*(b:Int))=(p:Int) from (by subst hp;rw[wrap_i64 (by omega) (by omega)]<;>omega)) (aI (wI64 (a:=((r:Int)+(p:Int))) (r:=(((r+p):Nat):Int))) (aI tt (aI (wI64 (a:=((((r+p):Nat):Int)+(q:Int))) (r:=(w:Int))) (aI tt tt))))))))))))))))))) (aI (wI64 (a:=((i:Int)+(j0:Int))) (r:=(((i+j0):Nat):Int))) (aI (show (Int.tmod (w:Int) (10000:Int))=(((w%10000):Nat):Int) from (by rw[Int.tmod_eq_emod_of_nonneg (by omega)]<;>omega)) (aI (show IntKind.wrap .i64 (Int.tdiv (w:Int) (10000:Int))=(((w/10000):Nat):Int) from (by rw[Int.tdiv_eq_ediv_of_nonneg (by omega),wrap_i64 (by omega) (by omega)]<;>omega)) (aI (ix (((i+j0):Nat):Int) (((n+k):Nat):Int) 0 1 (i+j0)) (aI (show (i+j0)+1≤(ns .i64 zs).length∧lspl (ns .i64 zs) (i+j0) [(nI (w%10000))]=(ns .i64 (zs.set (i+j0) (w%10000))) from (ns_set)) (aI (wI64 (a:=((j0:Int)+(1:Int))) (r:=(((j0+1):Nat):Int))) tt))))))))
theorem rtm_3(xs ys zs:List Nat)(n k i q j0 z:Nat)(j:List Value)(hi:i<n)(hj:k≤j0)(hn:n<70368744177)(hkm:k<70368744177)(hzl:zs.length=n+k)(hq:q<10000)(hz:(ns .i64 zs)[i+k]? =some (nI z))(hz0:z=0):GT (rtm_g xs ys zs n k i q j0 j) (rtm_h xs ys (zs.set (i+k) q) n k (i+1) (z_866_0 q j0 i k n z j)):=
 sR (sc:=[(6,.op (.rwB false)),(8,.op (.rwI (((i+k):Nat):Int))),(4,.op (.rwI (((i+k):Nat):Int))),(0,.op (.idx (i+k))),(0,.op (.ld (nI z))),(1,.op (.rwI (q:Int))),(0,.op (.idx (i+k))),(0,.op (.st (ns .i64 (zs.set (i+k) q)))),(4,.op (.rwI (((i+1):Nat):Int))),(3,.stay)]) (by kernel_rfl) (aI (dF (p:=(j0:Int)<(k:Int))) (aI (wI64 (a:=((i:Int)+(k:Int))) (r:=(((i+k):Nat):Int))) (aI (wI64 (a:=((i:Int)+(k:Int))) (r:=(((i+k):Nat):Int))) (aI (ix (((i+k):Nat):Int) (((n+k):Nat):Int) 0 1 (i+k)) (aI hz (aI (wI64 (a:=((z:Int)+(q:Int))) (r:=(q:Int))) (aI (ix (((i+k):Nat):Int) (((n+k):Nat):Int) 0 1 (i+k)) (aI (show (i+k)+1≤(ns .i64 zs).length∧lspl (ns .i64 zs) (i+k) [(nI q)]=(ns .i64 (zs.set (i+k) q)) from (ns_set)) (aI (wI64 (a:=((i:Int)+(1:Int))) (r:=(((i+1):Nat):Int))) tt)))))))))
theorem rtm_o(xs ys zs:List Nat)(n k i:Nat)(j:List Value)(hi:n≤i)(hn:n<70368744177)(hkm:k<70368744177)(hzl:zs.length=n+k)(hr:GT ⟨Frame.enter Tryz.prog 92 #[(sl 5 n 0),(sl 6 k 0)] .normal,[],mkH 7 (z_866_3 xs ys)⟩ (rtm_h xs ys zs n k i j)):CT 92 #[(sl 5 n 0),(sl 6 k 0)] (mkH 7 (z_866_3 xs ys)) (sl 7 (F.top zs (n+k)) (n+k)) (mkH 8 (z_866_2 xs ys zs)):=
 sF (sc:=[(6,.op (.rwB false)),(6,.call [7] (sl 7 (F.top zs (n+k)) (n+k)) [(7,some (.cells (ns .i64 zs) 3 none false))] []),(3,.stay)]) (by kernel_rfl) (aI (dF (p:=(i:Int)<(n:Int))) (aI (rs_c 8 7 zs (n+k) (n+k) (by omega) (by omega) (by omega) (by omega)) tt)) hr
theorem rtm_row{s0:AS}{xs ys:List Nat}{n k i a T:Nat}(hlx:F.Lim xs)(hly:F.Lim ys)(hnx:n≤xs.length)(hky:k≤ys.length)(hn:n<70368744177)(hkm:k<70368744177)(hi:i<n)(ha:a=xs.getD i 0):
  ∀(m:Nat) (zs:List Nat) (q j0:Nat) (j:List Value),m=k-j0→j0≤k→zs.length=n+k→F.Lim zs→q<10000→(∀l,i+k≤l→zs.getD l 0=0)→
   F.val zs+q*10000^(i+j0)+a*(10000^(i+j0)*F.val ((ys.take k).drop j0))=T→GT s0 (rtm_g xs ys zs n k i q j0 j)→
   ∃zs' j',zs'.length=n+k∧F.Lim zs'∧(∀l,i+1+k≤l→zs'.getD l 0=0)∧F.val zs'=T∧GT s0 (rtm_h xs ys zs' n k (i+1) j'):=by
 intro m
 induction m with
 |zero=>
  intro zs q j0 j hm hj hz hl hq h0 hv hr
  have hjk:j0=k:=by omega
  subst hjk
  have r:=rtm_3 xs ys zs n j0 i q j0 (zs.getD (i+j0) 0) j hi (Nat.le_refl _) hn hkm hz hq (ns_get) (h0 _ (Nat.le_refl _))
  refine⟨_,_,?_,hl.set hq,?_,?_,hr.trans r⟩
  ·rw[List.length_set];exact hz
  ·intro l hl'
   rw[F.getD_set (by omega),if_neg (by omega)]
   exact h0 l (by omega)
  ·have h1:=F.val_set zs (i+j0) q (by omega)
   rw[h0 _ (Nat.le_refl _),Nat.zero_mul,Nat.add_zero]at h1
   rw[h1]
   rw[List.drop_eq_nil_of_le (by rw[List.length_take];omega)]at hv
   exact F.nil_mul hv
 |succ m ih=>
  intro zs q j0 j hm hj hz hl hq h0 hv hr
  have hjk:j0<k:=by omega
  have ha':=hlx.get i
  rw[←ha]at ha'
  have hb:=hly.get j0
  have hr0:=hl.get (i+j0)
  have hp2:=F.mul_fit ha' hb
  have r:=rtm_2 xs ys zs n k i q j0 a (ys.getD j0 0) (zs.getD (i+j0) 0) _ _ j hi hjk hn hkm hnx hky hz ha' hb hr0 hq rfl hp2 rfl (by rw[ha];exact ns_get (by omega)) (ns_get) (ns_get)
  refine ih _ _ _ _ (by omega) (by omega) (by rw[List.length_set];exact hz) (hl.set (Nat.mod_lt _ (by decide))) ?_ ?_ ?_ (hr.trans r)
  ·generalize a*ys.getD j0 0=p at*
   omega
  ·intro l hl'
   rw[F.getD_set (by omega),if_neg (by omega)]
   exact h0 l hl'
  ·have h2:F.val ((ys.take k).drop j0)=ys.getD j0 0+10000*F.val ((ys.take k).drop (j0+1)):=by
    rw[F.val_drop (by rw[List.length_take];omega),F.getD_take hjk]
   rw[h2]at hv
   have h1:=F.val_set zs (i+j0) ((a*ys.getD j0 0+zs.getD (i+j0) 0+q)%10000) (by omega)
   rw[show i+(j0+1)=i+j0+1 from rfl,Nat.pow_succ]
   exact F.row_step h1 hv
theorem rtm_all{s0:AS}{xs ys:List Nat}{n k:Nat}(hlx:F.Lim xs)(hly:F.Lim ys)(hnx:n≤xs.length)(hky:k≤ys.length)(hn:n<70368744177)(hkm:k<70368744177):
  ∀(m i:Nat) (zs:List Nat) (j:List Value),m=n-i→i≤n→zs.length=n+k→F.Lim zs→(∀l,i+k≤l→zs.getD l 0=0)→F.val zs=F.val (xs.take i)*F.val (ys.take k)→GT s0 (rtm_h xs ys zs n k i j)→
   ∃zs' j',zs'.length=n+k∧F.Lim zs'∧F.val zs'=F.val (xs.take n)*F.val (ys.take k)∧GT s0 (rtm_h xs ys zs' n k n j'):=by
 intro m
 induction m with
 |zero=>
  intro i zs j hm hi hz hl h0 hv hr
  have:i=n:=by omega
  subst this
  exact⟨zs,j,hz,hl,hv,hr⟩
 |succ m ih=>
  intro i zs j hm hi hz hl h0 hv hr
  have r:=rtm_1 xs ys zs n k i j (by omega) hn hkm
  obtain⟨zs',j',h1,h2,h3,h4,h5⟩:=rtm_row hlx hly hnx hky hn hkm (by omega) rfl _ zs 0 0 _ rfl (Nat.zero_le _) hz hl (by decide) h0 rfl (hr.trans r)
  refine ih (i+1) zs' j' (by omega) (by omega) h1 h2 h3 ?_ h5
  rw[h4,hv,F.val_take_succ,List.drop_zero,Nat.add_zero]
  exact row_sum
theorem F_inj: ∀{l m:List Nat},F.Lim l→F.Lim m→l.length=m.length→F.val l=F.val m→l=m
 |[],[],_,_,_,_=>rfl
 |[],_::_,_,_,h,_=>by simp at h
 |_::_,[],_,_,h,_=>by simp at h
 |x::l,y::m,hl,hm,h,hv=>by
  rw[show F.val (x::l)=x+10000*F.val l from rfl,show F.val (y::m)=y+10000*F.val m from rfl]at hv
  have h1:=hl x (by simp)
  have h2:=hm y (by simp)
  have h3:=F_inj (l:=l) (m:=m) (fun z hz=>hl z (by simp[hz])) (fun z hz=>hm z (by simp[hz])) (by simpa using h) (by omega)
  rw[h3,show x=y by rw[h3]at hv;omega]
theorem rtm_c(n0 bx byy:Nat)(xs ys:List Nat)(n k:Nat)(hb:5≤bx∧bx<n0∧5≤byy∧byy<n0∧bx≠byy)(hlx:F.Lim xs)(hly:F.Lim ys)(hnx:n≤xs.length)(hky:k≤ys.length)(hn:n<70368744177)(hkm:k<70368744177):
  ∃zs,F.Lim zs∧zs.length=n+k∧F.val (zs.take (F.top zs (n+k)))=F.val (xs.take n)*F.val (ys.take k)∧
   FT 92 #[sl bx n 0,sl byy k 0] n0 [(bx,.cells (ns .i64 xs) 3 (some 1) false),(byy,.cells (ns .i64 ys) 3 (some 1) false)] (sl n0 (F.top zs (n+k)) (n+k)) [(bx,some (.cells (ns .i64 xs) 3 (some 1) false)),(byy,some (.cells (ns .i64 ys) 3 (some 1) false))] [.cells (ns .i64 zs) 3 none false]:=by
 obtain⟨zs,j',h1,h2,h3,h4⟩:=rtm_all hlx hly hnx hky hn hkm n 0 (List.replicate (n+k) 0) _ rfl (Nat.zero_le _) (by rw[List.length_replicate]) (F.Lim.replicate _) (fun l _=>getD_replicate _ _) (by rw[F.val_replicate];simp[F.val]) (rtm_in xs ys n k hn hkm)
 have S:=rtm_o xs ys zs n k n j' (Nat.le_refl _) hn hkm h1 h4
 refine⟨zs,h2,h1,?_,fsp_flat [bx,byy] [.cells (ns .i64 xs) 3 (some 1) false,.cells (ns .i64 ys) 3 (some 1) false] [.cells (ns .i64 xs) 3 (some 1) false,.cells (ns .i64 ys) 3 (some 1) false] [7] [.cells (ns .i64 zs) 3 none false] n0 S rfl rfl rfl (by simp[hb.2.2.2.2]) (by simp;omega) (by omega) (by simp[flat,ns_closed]) (by simp[flat,ns_closed]) (by simp[flat,ns_closed,AObj.ro]) (by simp) (by simp) rfl rfl rfl⟩
 rw[F.top_val,List.take_of_length_le (by rw[h1];exact Nat.le_refl _),h3]
theorem rtmz_c(n0 bx byy:Nat)(xs ys zs:List Nat)(n k:Nat)(hb:5≤bx∧bx<n0∧5≤byy∧byy<n0∧bx≠byy)(hlz:F.Lim zs)(hzl:zs.length=n+k)(hv:F.val (zs.take (F.top zs (n+k)))=F.val (xs.take n)*F.val (ys.take k))(hlx:F.Lim xs)(hly:F.Lim ys)(hnx:n≤xs.length)(hky:k≤ys.length)(hn:n<70368744177)(hkm:k<70368744177):
   FT 92 #[sl bx n 0,sl byy k 0] n0 [(bx,.cells (ns .i64 xs) 3 (some 1) false),(byy,.cells (ns .i64 ys) 3 (some 1) false)] (sl n0 (F.top zs (n+k)) (n+k)) [(bx,some (.cells (ns .i64 xs) 3 (some 1) false)),(byy,some (.cells (ns .i64 ys) 3 (some 1) false))] [.cells (ns .i64 zs) 3 none false]:=by
 obtain⟨zs',h1,h2,h3,h4⟩:=rtm_c n0 bx byy xs ys n k hb hlx hly hnx hky hn hkm
 have:zs=zs':=by
  refine F_inj hlz h1 (by rw[hzl,h2]) ?_
  rw[F.top_val,List.take_of_length_le (by omega)]at hv h3
  rw[hv,h3]
 rw[this]
 exact h4
end Go.Proofs.YtldoiilgfcpipaaGreatDoor
