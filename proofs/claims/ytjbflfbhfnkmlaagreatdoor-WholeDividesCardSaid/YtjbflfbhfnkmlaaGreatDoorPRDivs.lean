import Derived.Test.YtjbflfbhfnkmlaaGreatDoorPToInt
import Derived.Test.YtjbflfbhfnkmlaaGreatDoorPRText
import Derived.Test.YtjbflfbhfnkmlaaGreatDoorPRPlusN
import Derived.Test.YtjbflfbhfnkmlaaGreatDoorPNFloor
import Derived.Test.YtjbflfbhfnkmlaaGreatDoorWDiv
import Derived.Test.YtjbflfbhfnkmlaaGreatDoorLF
import Derived.Test.YtjbflfbhfnkmlaaGreatDoorPCnt
import Derived.Test.YtjbflfbhfnkmlaaGreatDoorK
import Derived.Test.YtjbflfbhfnkmlaaGreatDoorLE
import Derived.Test.YtjbflfbhfnkmlaaGreatDoorPWhole
set_option linter.unusedVariables false
set_option linter.unusedSimpArgs false
set_option maxRecDepth 100000
namespace Go.Proofs.YtjbflfbhfnkmlaaGreatDoor
open Go Go.AE Seg
theorem ck_l(z:Int)(hz:400<(Ae z.natAbs).length)(hz2:(Ae z.natAbs).length<1099511627776):CT 74 #[(.string (Ab z))] (Ac 5 []) (lI 13) (Ac 5 []):=
 sF (sc:=[(8,.call [] bT [] []),(8,.call [] (.string (Aa (Ae z.natAbs))) [] []),(1,.op (.rwB true)),(7,.stay)]) kr (aI (fo_i z 5 om om) (aI (Hd z 5 om) (aI (show decide ((((Aa (Ae z.natAbs)).size:Nat):Int)>(400:Int))=true from (by simp only[decide_eq_true_eq,decide_eq_false_iff_not,Ad,gt_iff_lt]<;>omega)) tt))) (Gets.refl _)
theorem ck_lc(n0:Nat)(z:Int)(hG:5≤n0)(hz:400<(Ae z.natAbs).length)(hz2:(Ae z.natAbs).length<1099511627776):FT 74 #[(.string (Ab z))] n0 [] (lI 13) [] []:=
 Dy n0 (ck_l z hz hz2) hG
theorem tw1x(s t:ByteArray)(hcs: ∀n0,5≤n0→FT 74 #[.string s] n0 [] (lI 1) [] []):CT 67 #[(.string s),(.string t)] (Ac 5 []) (lI 1) (Ac 5 []):=
 sF (sc:=[(8,.call [] (lI 1) [] []),(14,.stay)]) kr (aI (hcs 5 om) tt) (Gets.refl _)
theorem tw1xc(n0:Nat)(s t:ByteArray)(hG:5≤n0)(hcs: ∀n0,5≤n0→FT 74 #[.string s] n0 [] (lI 1) [] []):FT 67 #[(.string s),(.string t)] n0 [] (lI 1) [] []:=
 Dy n0 (tw1x s t hcs) hG
theorem tw13x(s t:ByteArray)(hcs: ∀n0,5≤n0→FT 74 #[.string s] n0 [] (lI 13) [] []):CT 67 #[(.string s),(.string t)] (Ac 5 []) (lI 13) (Ac 5 []):=
 sF (sc:=[(8,.call [] (lI 13) [] []),(14,.stay)]) kr (aI (hcs 5 om) tt) (Gets.refl _)
theorem tw13xc(n0:Nat)(s t:ByteArray)(hG:5≤n0)(hcs: ∀n0,5≤n0→FT 74 #[.string s] n0 [] (lI 13) [] []):FT 67 #[(.string s),(.string t)] n0 [] (lI 13) [] []:=
 Dy n0 (tw13x s t hcs) hG
theorem tw0_1x(s t:ByteArray)(hcs: ∀n0,5≤n0→FT 74 #[.string s] n0 [] (lI 0) [] [])(hct: ∀n0,5≤n0→FT 74 #[.string t] n0 [] (lI 1) [] []):CT 67 #[(.string s),(.string t)] (Ac 5 []) (lI 1) (Ac 5 []):=
 sF (sc:=[(8,.call [] (lI 0) [] []),(12,.call [] (lI 1) [] []),(3,.stay)]) kr (aI (hcs 5 om) (aI (hct 5 om) tt)) (Gets.refl _)
theorem tw0_1xc(n0:Nat)(s t:ByteArray)(hG:5≤n0)(hcs: ∀n0,5≤n0→FT 74 #[.string s] n0 [] (lI 0) [] [])(hct: ∀n0,5≤n0→FT 74 #[.string t] n0 [] (lI 1) [] []):FT 67 #[(.string s),(.string t)] n0 [] (lI 1) [] []:=
 Dy n0 (tw0_1x s t hcs hct) hG
theorem tw0_13x(s t:ByteArray)(hcs: ∀n0,5≤n0→FT 74 #[.string s] n0 [] (lI 0) [] [])(hct: ∀n0,5≤n0→FT 74 #[.string t] n0 [] (lI 13) [] []):CT 67 #[(.string s),(.string t)] (Ac 5 []) (lI 13) (Ac 5 []):=
 sF (sc:=[(8,.call [] (lI 0) [] []),(12,.call [] (lI 13) [] []),(3,.stay)]) kr (aI (hcs 5 om) (aI (hct 5 om) tt)) (Gets.refl _)
theorem tw0_13xc(n0:Nat)(s t:ByteArray)(hG:5≤n0)(hcs: ∀n0,5≤n0→FT 74 #[.string s] n0 [] (lI 0) [] [])(hct: ∀n0,5≤n0→FT 74 #[.string t] n0 [] (lI 13) [] []):FT 67 #[(.string s),(.string t)] n0 [] (lI 13) [] []:=
 Dy n0 (tw0_13x s t hcs hct) hG
theorem tw0_0x(s t:ByteArray)(hcs: ∀n0,5≤n0→FT 74 #[.string s] n0 [] (lI 0) [] [])(hct: ∀n0,5≤n0→FT 74 #[.string t] n0 [] (lI 0) [] []):CT 67 #[(.string s),(.string t)] (Ac 5 []) (lI 0) (Ac 5 []):=
 sF (sc:=[(8,.call [] (lI 0) [] []),(12,.call [] (lI 0) [] []),(3,.stay)]) kr (aI (hcs 5 om) (aI (hct 5 om) tt)) (Gets.refl _)
theorem tw0_0xc(n0:Nat)(s t:ByteArray)(hG:5≤n0)(hcs: ∀n0,5≤n0→FT 74 #[.string s] n0 [] (lI 0) [] [])(hct: ∀n0,5≤n0→FT 74 #[.string t] n0 [] (lI 0) [] []):FT 67 #[(.string s),(.string t)] n0 [] (lI 0) [] []:=
 Dy n0 (tw0_0x s t hcs hct) hG
theorem dq1x(s t:ByteArray)(ht: ∀n0,5≤n0→FT 67 #[.string s,.string t] n0 [] (lI 1) [] []):CT 21 #[(.string s),(.string t)] (Ac 5 []) (.tuple #[(.string (bts [])),(.string (bts [])),(lI 1)]) (Ac 5 []):=
 sF (sc:=[(22,.call [] (lI 1) [] []),(25,.stay)]) kr (aI (ht 5 om) tt) (Gets.refl _)
theorem dq1xc(n0:Nat)(s t:ByteArray)(hG:5≤n0)(ht: ∀n0,5≤n0→FT 67 #[.string s,.string t] n0 [] (lI 1) [] []):FT 21 #[(.string s),(.string t)] n0 [] (.tuple #[(.string (bts [])),(.string (bts [])),(lI 1)]) [] []:=
 Dy n0 (dq1x s t ht) hG
theorem dq13x(s t:ByteArray)(ht: ∀n0,5≤n0→FT 67 #[.string s,.string t] n0 [] (lI 13) [] []):CT 21 #[(.string s),(.string t)] (Ac 5 []) (.tuple #[(.string (bts [])),(.string (bts [])),(lI 13)]) (Ac 5 []):=
 sF (sc:=[(22,.call [] (lI 13) [] []),(25,.stay)]) kr (aI (ht 5 om) tt) (Gets.refl _)
theorem dq13xc(n0:Nat)(s t:ByteArray)(hG:5≤n0)(ht: ∀n0,5≤n0→FT 67 #[.string s,.string t] n0 [] (lI 13) [] []):FT 21 #[(.string s),(.string t)] n0 [] (.tuple #[(.string (bts [])),(.string (bts [])),(lI 13)]) [] []:=
 Dy n0 (dq13x s t ht) hG
theorem dq12x(s:ByteArray)(ht: ∀n0,5≤n0→FT 67 #[.string s,.string (Seg.bts [48])] n0 [] (lI 0) [] []):CT 21 #[(.string s),(.string (bts [48]))] (Ac 5 []) (.tuple #[(.string (bts [])),(.string (bts [])),(lI 12)]) (Ac 5 []):=
 sF (sc:=[(22,.call [] (lI 0) [] []),(32,.stay)]) kr (aI (ht 5 om) tt) (Gets.refl _)
theorem dq12xc(n0:Nat)(s:ByteArray)(hG:5≤n0)(ht: ∀n0,5≤n0→FT 67 #[.string s,.string (Seg.bts [48])] n0 [] (lI 0) [] []):FT 21 #[(.string s),(.string (bts [48]))] n0 [] (.tuple #[(.string (bts [])),(.string (bts [])),(lI 12)]) [] []:=
 Dy n0 (dq12x s ht) hG
theorem df1x(s t:ByteArray)(ht: ∀n0,5≤n0→FT 67 #[.string s,.string t] n0 [] (lI 1) [] []):CT 19 #[(.string s),(.string t)] (Ac 5 []) (.tuple #[(.string (bts [])),(.string (bts [])),(lI 1)]) (Ac 5 []):=
 sF (sc:=[(22,.call [] (lI 1) [] []),(25,.stay)]) kr (aI (ht 5 om) tt) (Gets.refl _)
theorem df1xc(n0:Nat)(s t:ByteArray)(hG:5≤n0)(ht: ∀n0,5≤n0→FT 67 #[.string s,.string t] n0 [] (lI 1) [] []):FT 19 #[(.string s),(.string t)] n0 [] (.tuple #[(.string (bts [])),(.string (bts [])),(lI 1)]) [] []:=
 Dy n0 (df1x s t ht) hG
theorem df13x(s t:ByteArray)(ht: ∀n0,5≤n0→FT 67 #[.string s,.string t] n0 [] (lI 13) [] []):CT 19 #[(.string s),(.string t)] (Ac 5 []) (.tuple #[(.string (bts [])),(.string (bts [])),(lI 13)]) (Ac 5 []):=
 sF (sc:=[(22,.call [] (lI 13) [] []),(25,.stay)]) kr (aI (ht 5 om) tt) (Gets.refl _)
theorem df13xc(n0:Nat)(s t:ByteArray)(hG:5≤n0)(ht: ∀n0,5≤n0→FT 67 #[.string s,.string t] n0 [] (lI 13) [] []):FT 19 #[(.string s),(.string t)] n0 [] (.tuple #[(.string (bts [])),(.string (bts [])),(lI 13)]) [] []:=
 Dy n0 (df13x s t ht) hG
theorem df12x(s:ByteArray)(ht: ∀n0,5≤n0→FT 67 #[.string s,.string (Seg.bts [48])] n0 [] (lI 0) [] []):CT 19 #[(.string s),(.string (bts [48]))] (Ac 5 []) (.tuple #[(.string (bts [])),(.string (bts [])),(lI 12)]) (Ac 5 []):=
 sF (sc:=[(22,.call [] (lI 0) [] []),(32,.stay)]) kr (aI (ht 5 om) tt) (Gets.refl _)
theorem df12xc(n0:Nat)(s:ByteArray)(hG:5≤n0)(ht: ∀n0,5≤n0→FT 67 #[.string s,.string (Seg.bts [48])] n0 [] (lI 0) [] []):FT 19 #[(.string s),(.string (bts [48]))] n0 [] (.tuple #[(.string (bts [])),(.string (bts [])),(lI 12)]) [] []:=
 Dy n0 (df12x s ht) hG
theorem dqok(a b:Int)(hb0:b≠0)(ha:(Ae a.natAbs).length≤400)(hb:(Ae b.natAbs).length≤400)(hq:(Ae (Int.tdiv a b).natAbs).length≤400)(ht: ∀n0,5≤n0→FT 67 #[.string (Ab a),.string (Ab b)] n0 [] (lI 0) [] []):CT 21 #[(.string (Ab a)),(.string (Ab b))] (Ac 5 []) (.tuple #[(.string (Ab (Int.tdiv a b))),(.string (Ab (Int.tmod a b))),(lI 0)]) (Ac 5 []):=
 sF (sc:=[(22,.call [] (lI 0) [] []),(13,.op (.rwB false)),(7,.call [] (.tuple #[(.string (Ab (Int.tdiv a b))),(.string (Ab (Int.tmod a b)))]) [] []),(27,.call [] (.string (Aa (Ae (Int.tdiv a b).natAbs))) [] []),(1,.op (.rwB false)),(42,.stay)]) kr (aI (ht 5 om) (aI (show ((Ab b).toList==(bts [48]).toList)=false from (Ks hb0)) (aI (qu_i a b hb0 5 om om om) (aI (Hd (Int.tdiv a b) 5 om) (aI (show decide ((((Aa (Ae (Int.tdiv a b).natAbs)).size:Nat):Int)>(400:Int))=false from (by simp only[decide_eq_true_eq,decide_eq_false_iff_not,Ad,gt_iff_lt]<;>omega)) tt))))) (Gets.refl _)
theorem dqokc(n0:Nat)(a b:Int)(hG:5≤n0)(hb0:b≠0)(ha:(Ae a.natAbs).length≤400)(hb:(Ae b.natAbs).length≤400)(hq:(Ae (Int.tdiv a b).natAbs).length≤400)(ht: ∀n0,5≤n0→FT 67 #[.string (Ab a),.string (Ab b)] n0 [] (lI 0) [] []):FT 21 #[(.string (Ab a)),(.string (Ab b))] n0 [] (.tuple #[(.string (Ab (Int.tdiv a b))),(.string (Ab (Int.tmod a b))),(lI 0)]) [] []:=
 Dy n0 (dqok a b hb0 ha hb hq ht) hG
theorem dfok(a b:Int)(hb0:b≠0)(ha:(Ae a.natAbs).length≤400)(hb:(Ae b.natAbs).length≤400)(hq:(Ae (Xw a b).natAbs).length≤400)(ht: ∀n0,5≤n0→FT 67 #[.string (Ab a),.string (Ab b)] n0 [] (lI 0) [] []):CT 19 #[(.string (Ab a)),(.string (Ab b))] (Ac 5 []) (.tuple #[(.string (Ab (Xw a b))),(.string (Ab (flR a b))),(lI 0)]) (Ac 5 []):=
 sF (sc:=[(22,.call [] (lI 0) [] []),(13,.op (.rwB false)),(7,.call [] (.tuple #[(.string (Ab (Int.tdiv a b))),(.string (Ab (Int.tmod a b)))]) [] []),(15,.call [] (.tuple #[(.string (Ab (Xw a b))),(.string (Ab (flR a b)))]) [] []),(20,.call [] (.string (Aa (Ae (Xw a b).natAbs))) [] []),(1,.op (.rwB false)),(42,.stay)]) kr (aI (ht 5 om) (aI (show ((Ab b).toList==(bts [48]).toList)=false from (Ks hb0)) (aI (qu_i a b hb0 5 om om om) (aI (fo_i2 a b hb0 5 om om om) (aI (Hd (Xw a b) 5 om) (aI (show decide ((((Aa (Ae (Xw a b).natAbs)).size:Nat):Int)>(400:Int))=false from (by simp only[decide_eq_true_eq,decide_eq_false_iff_not,Ad,gt_iff_lt]<;>omega)) tt)))))) (Gets.refl _)
theorem dfokc(n0:Nat)(a b:Int)(hG:5≤n0)(hb0:b≠0)(ha:(Ae a.natAbs).length≤400)(hb:(Ae b.natAbs).length≤400)(hq:(Ae (Xw a b).natAbs).length≤400)(ht: ∀n0,5≤n0→FT 67 #[.string (Ab a),.string (Ab b)] n0 [] (lI 0) [] []):FT 19 #[(.string (Ab a)),(.string (Ab b))] n0 [] (.tuple #[(.string (Ab (Xw a b))),(.string (Ab (flR a b))),(lI 0)]) [] []:=
 Dy n0 (dfok a b hb0 ha hb hq ht) hG
theorem flQ_le'{a b:Int}(hb:b≠0):(Xw a b).natAbs≤a.natAbs:=by
 have h:=Wt a b
 unfold Xw
 split
 ·rename_i hj
  have h1:(Int.tmod a b).natAbs≠0:=fun q=>hj.1 (Int.natAbs_eq_zero.1 q)
  have h2:(Int.tdiv a b).natAbs=a.natAbs/b.natAbs:=Int.natAbs_tdiv a b
  have h3:(Int.tmod a b).natAbs=a.natAbs%b.natAbs:=Int.natAbs_tmod a b
  have h4:=Nat.div_add_mod a.natAbs b.natAbs
  have h5:a.natAbs/b.natAbs≤b.natAbs*(a.natAbs/b.natAbs):=Nat.le_mul_of_pos_left _ om
  omega
 ·exact h
theorem Ex(n:Nat):Es n≤(Ae n).length:=by
 rcases Nat.eq_zero_or_pos n with h|h
 ·subst h;rw[ndig_zero];omega
 ·exact Nat.le_of_eq (Hk n h).symm
def Cls(s:ByteArray)(k c:Nat):Prop:=(∀n0,5≤n0→FT 145 #[.string s] n0 [] (.int .i64 (.ofNat k)) [] [])∧(∀n0,5≤n0→FT 74 #[.string s] n0 [] (.int .i64 (.ofNat c)) [] [])
theorem len_size(z:Int)(h:(Ab z).size<1099511627776):(Ae z.natAbs).length<1099511627776:=by
 rcases Dh z with⟨k,rfl,hm⟩|⟨k,h0,rfl,hm⟩
 ·rw[hm];rw[Cj,Ad]at h;exact h
 ·rw[hm];rw[Dm h0,Ua]at h;omega
theorem cls(s:ByteArray)(hm:s.size<1099511627776):Cls s 0 1∨Cls s 1 13∨ ∃z:Int,s=Ab z∧(Ae z.natAbs).length≤400∧((Cls s 2 0∧(Ae z.natAbs).length≤18)∨Cls s 3 0):=by
 rcases str_any s hm with⟨z,rfl⟩|h
 ·have hl:=len_size z hm
  by_cases h1:(Ae z.natAbs).length≤400
  ·refine .inr (.inr ⟨z,rfl,h1,?_⟩)
   by_cases h2:(Ae z.natAbs).length≤18
   ·exact .inl ⟨⟨fun n0 h=>Qk n0 z h h2,fun n0 h=>ck_i z n0 h h1⟩,h2⟩
   ·exact .inr ⟨fun n0 h=>Mb n0 z h om (Nat.le_trans (Ex _) h1),fun n0 h=>ck_i z n0 h h1⟩
  ·refine .inr (.inl ⟨?_,fun n0 h=>ck_lc n0 z h om hl⟩)
   intro n0 hG
   rcases Dh z with⟨k,rfl,hm⟩|⟨k,h0,rfl,hm⟩
   ·rw[Cj];rw[hm]at h1
    exact kipec n0 _ hG (Bs _) (Ax _) (Et k (by
     rcases Nat.eq_zero_or_pos k with q|q
     ·rw[q,Ea]at h1;exact absurd de h1
     ·exact q)) (by rw[Ad];omega)
   ·rw[Dm h0];rw[hm]at h1
    exact kimec n0 _ hG (Bs _) (Ax _) (Et k h0) (by rw[Ad];omega)
 ·exact .inl h
theorem Quo_good(a b:Int)(hb0:b≠0)(la:(Ae a.natAbs).length≤400)(lb:(Ae b.natAbs).length≤400)(A:(∀n0,5≤n0→FT 74 #[.string (Ab a)] n0 [] (lI 0) [] []))(B:(∀n0,5≤n0→FT 74 #[.string (Ab b)] n0 [] (lI 0) [] [])):
  ∃(u x:ByteArray) (e:Int),(∀n0,5≤n0→FT 20 #[.string (Ab a),.string (Ab b)] n0 [(0,Cn.gob0),(1,gob1),(2,Cn.gob2),(3,Cn.gob3)] (.tuple #[.string u,.string x,.int .i64 e]) [(0,some Cn.gob0),(1,some gob1),(2,some Cn.gob2),(3,some Cn.gob3)] [])∧ ∀n0,5≤n0→FT 21 #[.string (Ab a),.string (Ab b)] n0 [] (.tuple #[.string u,.string x,.int .i64 e]) [] []:=by
 have hq:(Ae (Int.tdiv a b).natAbs).length≤400:=Vy (Wt a b) la de
 have hr:(Ae (Int.tmod a b).natAbs).length≤400:=Nat.le_trans (Vy (Zj a b) la de) (Nat.le_refl _)
 exact⟨_,_,_,fun n0 hG=>fsp_more (L:=[(1,gob1)]) (gl:=[(0,Cn.gob0),(1,gob1),(2,Cn.gob2),(3,Cn.gob3)]) sm (Quo_i n0 a b hG (Nat.le_trans (Ex _) la) (Nat.le_trans (Ex _) lb) hb0 (Nat.le_trans (Ex _) hq) (Nat.le_trans (Ex _) hr)),fun n0 hG=>dqokc n0 a b hG hb0 la lb hq fun n1 h1=>tw0_0xc n1 _ _ h1 A B⟩
theorem Vk(s t:ByteArray)(hs:s.size<1099511627776)(ht:t.size<1099511627776):
  ∃(u x:ByteArray) (e:Int),(∀n0,5≤n0→FT 20 #[.string s,.string t] n0 [(0,Cn.gob0),(1,gob1),(2,Cn.gob2),(3,Cn.gob3)] (.tuple #[.string u,.string x,.int .i64 e]) [(0,some Cn.gob0),(1,some gob1),(2,some Cn.gob2),(3,some Cn.gob3)] [])∧ ∀n0,5≤n0→FT 21 #[.string s,.string t] n0 [] (.tuple #[.string u,.string x,.int .i64 e]) [] []:=by
 rcases cls s hs with A|A|⟨a,rfl,la,A⟩
 ·exact⟨_,_,_,fun n0 _=>qe0c n0 s t A.1,fun n0 hG=>dq1xc n0 s t hG fun n1 h1=>tw1xc n1 s t h1 A.2⟩
 ·exact⟨_,_,_,fun n0 _=>qe1c n0 s t A.1,fun n0 hG=>dq13xc n0 s t hG fun n1 h1=>tw13xc n1 s t h1 A.2⟩
 ·have A0:(∀n0,5≤n0→FT 74 #[.string (Ab a)] n0 [] (lI 0) [] []):=A.elim (fun h=>h.1.2) (fun h=>h.2)
  rcases cls t ht with B|B|⟨b,rfl,lb,B⟩
  ·have R:=fun n0 (hG:5≤n0)=>dq1xc n0 (Ab a) t hG fun n1 h1=>tw0_1xc n1 _ t h1 A0 B.2
   rcases A with A|A
   ·exact⟨_,_,_,fun n0 _=>qe20c n0 _ t A.1.1 B.1,R⟩
   ·exact⟨_,_,_,fun n0 _=>qe30c n0 _ t A.1 B.1,R⟩
  ·have R:=fun n0 (hG:5≤n0)=>dq13xc n0 (Ab a) t hG fun n1 h1=>tw0_13xc n1 _ t h1 A0 B.2
   rcases A with A|A
   ·exact⟨_,_,_,fun n0 _=>qe21c n0 _ t A.1.1 B.1,R⟩
   ·exact⟨_,_,_,fun n0 _=>qe31c n0 _ t A.1 B.1,R⟩
  ·have B0:(∀n0,5≤n0→FT 74 #[.string (Ab b)] n0 [] (lI 0) [] []):=B.elim (fun h=>h.1.2) (fun h=>h.2)
   by_cases hb0:b=0
   ·subst hb0
    have B2:=fun n0 (h:5≤n0)=>Qk n0 0 h (Ew (by show Es 0≤18;rw[ndig_zero];omega) de)
    rw[Ss]at B0 B2 ⊢
    have R:=fun n0 (hG:5≤n0)=>dq12xc n0 (Ab a) hG fun n1 h1=>tw0_0xc n1 _ _ h1 A0 B0
    rcases A with A|A
    ·exact⟨_,_,_,fun n0 _=>qe22c n0 _ A.1.1 B2,R⟩
    ·exact⟨_,_,_,fun n0 _=>qe32c n0 _ A.1 B2,R⟩
   ·exact Quo_good a b hb0 la lb A0 B0
theorem Floor_good(a b:Int)(hb0:b≠0)(la:(Ae a.natAbs).length≤400)(lb:(Ae b.natAbs).length≤400)(A:(∀n0,5≤n0→FT 74 #[.string (Ab a)] n0 [] (lI 0) [] []))(B:(∀n0,5≤n0→FT 74 #[.string (Ab b)] n0 [] (lI 0) [] [])):
  ∃(u x:ByteArray) (e:Int),(∀n0,5≤n0→FT 18 #[.string (Ab a),.string (Ab b)] n0 [(0,Cn.gob0),(1,gob1),(2,Cn.gob2),(3,Cn.gob3)] (.tuple #[.string u,.string x,.int .i64 e]) [(0,some Cn.gob0),(1,some gob1),(2,some Cn.gob2),(3,some Cn.gob3)] [])∧ ∀n0,5≤n0→FT 19 #[.string (Ab a),.string (Ab b)] n0 [] (.tuple #[.string u,.string x,.int .i64 e]) [] []:=by
 have hq:(Ae (Xw a b).natAbs).length≤400:=Vy (flQ_le' hb0) la de
 have hr:(Ae (flR a b).natAbs).length≤400:=Vy (Nat.le_of_lt (flR_abs hb0)) lb de
 exact⟨_,_,_,fun n0 hG=>fsp_more (L:=[(1,gob1)]) (gl:=[(0,Cn.gob0),(1,gob1),(2,Cn.gob2),(3,Cn.gob3)]) sm (Floor_i n0 a b hG (Nat.le_trans (Ex _) la) (Nat.le_trans (Ex _) lb) hb0 (Nat.le_trans (Ex _) hq) (Nat.le_trans (Ex _) hr)),fun n0 hG=>dfokc n0 a b hG hb0 la lb hq fun n1 h1=>tw0_0xc n1 _ _ h1 A B⟩
theorem Nv(s t:ByteArray)(hs:s.size<1099511627776)(ht:t.size<1099511627776):
  ∃(u x:ByteArray) (e:Int),(∀n0,5≤n0→FT 18 #[.string s,.string t] n0 [(0,Cn.gob0),(1,gob1),(2,Cn.gob2),(3,Cn.gob3)] (.tuple #[.string u,.string x,.int .i64 e]) [(0,some Cn.gob0),(1,some gob1),(2,some Cn.gob2),(3,some Cn.gob3)] [])∧ ∀n0,5≤n0→FT 19 #[.string s,.string t] n0 [] (.tuple #[.string u,.string x,.int .i64 e]) [] []:=by
 rcases cls s hs with A|A|⟨a,rfl,la,A⟩
 ·exact⟨_,_,_,fun n0 _=>fe0c n0 s t A.1,fun n0 hG=>df1xc n0 s t hG fun n1 h1=>tw1xc n1 s t h1 A.2⟩
 ·exact⟨_,_,_,fun n0 _=>fe1c n0 s t A.1,fun n0 hG=>df13xc n0 s t hG fun n1 h1=>tw13xc n1 s t h1 A.2⟩
 ·have A0:(∀n0,5≤n0→FT 74 #[.string (Ab a)] n0 [] (lI 0) [] []):=A.elim (fun h=>h.1.2) (fun h=>h.2)
  rcases cls t ht with B|B|⟨b,rfl,lb,B⟩
  ·have R:=fun n0 (hG:5≤n0)=>df1xc n0 (Ab a) t hG fun n1 h1=>tw0_1xc n1 _ t h1 A0 B.2
   rcases A with A|A
   ·exact⟨_,_,_,fun n0 _=>fe20c n0 _ t A.1.1 B.1,R⟩
   ·exact⟨_,_,_,fun n0 _=>fe30c n0 _ t A.1 B.1,R⟩
  ·have R:=fun n0 (hG:5≤n0)=>df13xc n0 (Ab a) t hG fun n1 h1=>tw0_13xc n1 _ t h1 A0 B.2
   rcases A with A|A
   ·exact⟨_,_,_,fun n0 _=>fe21c n0 _ t A.1.1 B.1,R⟩
   ·exact⟨_,_,_,fun n0 _=>fe31c n0 _ t A.1 B.1,R⟩
  ·have B0:(∀n0,5≤n0→FT 74 #[.string (Ab b)] n0 [] (lI 0) [] []):=B.elim (fun h=>h.1.2) (fun h=>h.2)
   by_cases hb0:b=0
   ·subst hb0
    have B2:=fun n0 (h:5≤n0)=>Qk n0 0 h (Ew (by show Es 0≤18;rw[ndig_zero];omega) de)
    rw[Ss]at B0 B2 ⊢
    have R:=fun n0 (hG:5≤n0)=>df12xc n0 (Ab a) hG fun n1 h1=>tw0_0xc n1 _ _ h1 A0 B0
    rcases A with A|A
    ·exact⟨_,_,_,fun n0 _=>fe22c n0 _ A.1.1 B2,R⟩
    ·exact⟨_,_,_,fun n0 _=>fe32c n0 _ A.1 B2,R⟩
   ·exact Floor_good a b hb0 la lb A0 B0
theorem tn_n(i u:Nat)(hm:i<9223372036854775000)(a1:Nat)(ha1:IntKind.wrap .u64 ((((i+1):Nat):Int)*(13503953896175478587:Int))=(a1:Int))(b1:Nat)(hb1:IntKind.wrap .u64 (((BitVec.ofInt 64 (u:Int)^^^BitVec.ofInt 64 (a1:Int)).toNat:Nat):Int)=(b1:Int))(b2:Nat)(hb2:IntKind.wrap .u64 ((b1:Int)*(11912009170470909681:Int))=(b2:Int))(b3:Nat)(hb3:(Int.fdiv (b2:Int) (2^31))=(b3:Int))(b4:Nat)(hb4:IntKind.wrap .u64 (((BitVec.ofInt 64 (b2:Int)^^^BitVec.ofInt 64 (b3:Int)).toNat:Nat):Int)=(b4:Int))(b5:Nat)(hb5:IntKind.wrap .u64 ((b4:Int)*(5840696475078001361:Int))=(b5:Int))(b6:Nat)(hb6:(Int.fdiv (b5:Int) (2^29))=(b6:Int))(b7:Nat)(hb7:IntKind.wrap .u64 (((BitVec.ofInt 64 (b5:Int)^^^BitVec.ofInt 64 (b6:Int)).toNat:Nat):Int)=(b7:Int))(b8:Nat)(hb8:(Int.fdiv (b7:Int) (2^11))=(b8:Int)):CT 97 #[(pt 5)] (Ac 6 [(5,(.cells [nS,(nI i),(nU u)] 62 none false))]) (nU b8) (Ac 6 [(5,(.cells [nS,(nI (i+1)),(nU b4)] 62 none false))]):=
 sF (sc:=[(10,.op (.rwI (((i+1):Nat):Int))),(0,.op (.rwI (((i+1):Nat):Int))),(0,.op (.rwI (a1:Int))),(4,.drw [(9,.rwB false)]),(8,.op (.rwI (((i+1):Nat):Int))),(12,.op (.rwI (b1:Int))),(0,.op (.rwI (b2:Int))),(5,.drwM [(9,.rwI (b3:Int)),(10,.rwI (b4:Int))] []),(6,.op (.rwI (b5:Int))),(6,.op (.rwI (b6:Int))),(0,.op (.rwI (b7:Int))),(0,.op (.rwI (b8:Int))),(3,.stay)]) kr (aI (Am (a:=((i:Int)+(1:Int))) (r:=(((i+1):Nat):Int))) (aI (He (a:=(((i+1):Nat):Int)) (r:=(((i+1):Nat):Int))) (aI ha1 (aI (aI tt (aI tt (aI tt (aI tt (aI tt (aI tt (aI tt (aI tt (aI tt (aI (dF (p:=(i:Int)<(0:Int))) tt)))))))))) (aI (Am (a:=((i:Int)+(1:Int))) (r:=(((i+1):Nat):Int))) (aI hb1 (aI hb2 (aI (aI tt (aI tt (aI tt (aI tt (aI tt (aI tt (aI tt (aI tt (aI tt (aI hb3 (aI hb4 (aI tt (aI tt (aI tt tt)))))))))))))) (aI hb5 (aI hb6 (aI hb7 (aI hb8 tt)))))))))))) (Gets.refl _)
theorem turnn_c(n0 b:Nat)(i u:Nat)(hb:5≤b∧b<n0)(hm:i<9223372036854775000):
  ∃u' x,FT 97 #[pt b] n0 [(b,.cells [.slice none 0 0,.int .i64 ((i:Nat):Int),.int .u64 ((u:Nat):Int)] 62 none false)] (nU x) [(b,some (.cells [.slice none 0 0,.int .i64 ((i+1:Nat):Int),.int .u64 ((u':Nat):Int)] 62 none false))] []:=by
 obtain⟨a1,ha1⟩: ∃v:Nat,IntKind.wrap .u64 ((((i+1):Nat):Int)*(13503953896175478587:Int))=((v:Nat):Int):=Ga _
 obtain⟨b1,hb1⟩: ∃v:Nat,IntKind.wrap .u64 (((BitVec.ofInt 64 ((u:Nat):Int)^^^BitVec.ofInt 64 ((a1:Nat):Int)).toNat:Nat):Int)=((v:Nat):Int):=Ga _
 obtain⟨b2,hb2⟩: ∃v:Nat,IntKind.wrap .u64 (((b1:Nat):Int)*(11912009170470909681:Int))=((v:Nat):Int):=Ga _
 obtain⟨b3,hb3⟩: ∃v:Nat,(Int.fdiv ((b2:Nat):Int) (2^31))=((v:Nat):Int):=Tk _ _
 obtain⟨b4,hb4⟩: ∃v:Nat,IntKind.wrap .u64 (((BitVec.ofInt 64 ((b2:Nat):Int)^^^BitVec.ofInt 64 ((b3:Nat):Int)).toNat:Nat):Int)=((v:Nat):Int):=Ga _
 obtain⟨b5,hb5⟩: ∃v:Nat,IntKind.wrap .u64 (((b4:Nat):Int)*(5840696475078001361:Int))=((v:Nat):Int):=Ga _
 obtain⟨b6,hb6⟩: ∃v:Nat,(Int.fdiv ((b5:Nat):Int) (2^29))=((v:Nat):Int):=Tk _ _
 obtain⟨b7,hb7⟩: ∃v:Nat,IntKind.wrap .u64 (((BitVec.ofInt 64 ((b5:Nat):Int)^^^BitVec.ofInt 64 ((b6:Nat):Int)).toNat:Nat):Int)=((v:Nat):Int):=Ga _
 obtain⟨b8,hb8⟩: ∃v:Nat,(Int.fdiv ((b7:Nat):Int) (2^11))=((v:Nat):Int):=Tk _ _
 exact⟨b4,b8,ff [b] [.cells [.slice none 0 0,.int .i64 ((i:Nat):Int),.int .u64 ((u:Nat):Int)] 62 none false] [.cells [.slice none 0 0,.int .i64 ((i+1:Nat):Int),.int .u64 ((b4:Nat):Int)] 62 none false] [] [] n0 (tn_n i u hm a1 ha1 b1 hb1 b2 hb2 b3 hb3 b4 hb4 b5 hb5 b6 hb6 b7 hb7 b8 hb8) (fo:=by simp[Bj,As,Aj]) (fp:=by simp[Bj,As,Aj])⟩
noncomputable section
abbrev Vx(i v:Nat):AObj:=.cells [nS,(nI (i+1)),(nU v)] 62 none false
abbrev z_b1a_1(i u:Nat):AObj:=.cells [nS,(nI i),(nU u)] 62 none false
end
theorem upn_p(i u k:Nat)(hk:0<k)(hk2:k<1099511627776)(v x:Nat)(r:Nat)(hrx:r=x% (k+1))(hc1:(FT 97 #[(pt 5)] 6 [(5,(z_b1a_1 i u))] (nU x) [(5,some (Vx i v))] [])):CT 47 #[(pt 5),(nI k)] (Ac 6 [(5,(z_b1a_1 i u))]) (nI r) (Ac 6 [(5,(Vx i v))]):=
 sF (sc:=[(7,.call [5] (nU x) [(5,some (Vx i v))] []),(6,.op (.rwB false)),(7,.op (.rwI (k:Int))),(0,.op (.rwI (((k+1):Nat):Int))),(0,.op (.div (((x% (k+1)):Nat):Int))),(0,.op (.rwI (r:Int))),(3,.stay)]) kr (aI hc1 (aI (dF (p:=(k:Int)<(1:Int))) (aI (He (a:=(k:Int)) (r:=(k:Int))) (aI (He (a:=((k:Int)+(1:Int))) (r:=(((k+1):Nat):Int))) (aI (show (((k+1):Nat):Int)≠0∧(Int.tmod (x:Int) (((k+1):Nat):Int))=(((x% (k+1)):Nat):Int) from⟨by omega,by first|(rw[Int.tmod_eq_emod_of_nonneg om];first|rfl|exact (Int.natCast_emod _ _).symm|omega)|(rw[Int.tdiv_eq_ediv_of_nonneg om];first|rfl|omega)⟩) (aI (show IntKind.wrap .i64 (((x% (k+1)):Nat):Int)=(r:Int) from (up_conv hrx hk2)) tt)))))) (Gets.refl _)
theorem upn_z(i u k:Nat)(hk:k=0)(hk2:k<1099511627776)(v x:Nat)(hc1:(FT 97 #[(pt 5)] 6 [(5,(z_b1a_1 i u))] (nU x) [(5,some (Vx i v))] [])):CT 47 #[(pt 5),(nI k)] (Ac 6 [(5,(z_b1a_1 i u))]) (lI 0) (Ac 6 [(5,(Vx i v))]):=
 sF (sc:=[(7,.call [5] (nU x) [(5,some (Vx i v))] []),(6,.op (.rwB true)),(7,.stay)]) kr (aI hc1 (aI (dT (p:=(k:Int)<(1:Int))) tt)) (Gets.refl _)
theorem upn_c(n0 b:Nat)(i u k:Nat)(hb:5≤b∧b<n0)(hm:i<9223372036854775000)(hk2:k<1099511627776):
  ∃u' r,r≤k∧FT 47 #[pt b,.int .i64 ((k:Nat):Int)] n0 [(b,.cells [.slice none 0 0,.int .i64 ((i:Nat):Int),.int .u64 ((u:Nat):Int)] 62 none false)] (nI r) [(b,some (.cells [.slice none 0 0,.int .i64 ((i+1:Nat):Int),.int .u64 ((u':Nat):Int)] 62 none false))] []:=by
 obtain⟨v,x,T⟩:=turnn_c 6 5 i u om hm
 rcases Nat.eq_zero_or_pos k with hk|hk
 ·exact⟨v,0,Nat.zero_le _,ff [b] [.cells [.slice none 0 0,.int .i64 ((i:Nat):Int),.int .u64 ((u:Nat):Int)] 62 none false] [.cells [.slice none 0 0,.int .i64 ((i+1:Nat):Int),.int .u64 ((v:Nat):Int)] 62 none false] [] [] n0 (upn_z i u k hk hk2 v x T) (fo:=by simp[Bj,As,Aj]) (fp:=by simp[Bj,As,Aj])⟩
 ·exact⟨v,x% (k+1),Nat.le_of_lt_succ (Nat.mod_lt x (Nat.succ_pos k)),ff [b] [.cells [.slice none 0 0,.int .i64 ((i:Nat):Int),.int .u64 ((u:Nat):Int)] 62 none false] [.cells [.slice none 0 0,.int .i64 ((i+1:Nat):Int),.int .u64 ((v:Nat):Int)] 62 none false] [] [] n0 (upn_p i u k hk hk2 v x _ rfl T) (fo:=by simp[Bj,As,Aj]) (fp:=by simp[Bj,As,Aj])⟩
noncomputable section
abbrev Kk(ai v0:Nat):AObj:=.cells [nS,(nI (ai+1)),(nU v0)] 62 none false
abbrev Vm(ai v1:Nat):AObj:=.cells [nS,(nI ((ai+1)+1)),(nU v1)] 62 none false
abbrev Qw(i u:Nat):AObj:=.cells [nS,(nI i),(nU u)] 62 none false
abbrev Vr(ai au:Nat):AObj:=.cells [nS,(nI ai),(nU au)] 62 none false
abbrev z_332_4(ai v2:Nat):AObj:=.cells [nS,(nI (((ai+1)+1)+1)),(nU v2)] 62 none false
abbrev z_332_5(i v0:Nat):AObj:=.cells [nS,(nI (i+1)),(nU v0)] 62 none false
abbrev z_332_6:List Value:=[undef,undef,undef,undef,undef,undef,undef,undef,undef,undef,undef,undef,undef,undef,undef,undef,undef]
abbrev Vh(st:ByteArray)(e:Nat):Value:=.string (st++(Aa [e]))
end
noncomputable def whn_h_f(ai au k w p:Nat)(st:ByteArray)(jc:List Value)(j:List Value):Frame:=(Fr 17 ([(pt 5),(nI k),uu,uu,(J jc 2),(nI w),(.string st),(nI p),(J j 0),(pt 5),(nI k),(J jc 3)]++(jj j 1 12 ([(J jc 0),(J jc 1)]++(jj j 13 4 (uj 7 []))))) [.code (cd Tryz.f17 [1,1,1,0,1,0,0]),.inLoop (cd Tryz.f17 [1,1,1,0,1,0,0]),.inBlock 0,.code (cd Tryz.f17 [1,1,1,1])])
noncomputable def whn_h_o(ai au k w p:Nat)(st:ByteArray)(jc:List Value):List (Nat×AObj):=[(5,(Vr ai au))]
noncomputable def Xd(ai au k w p:Nat)(st:ByteArray)(jc:List Value)(j:List Value):AS:=⟨whn_h_f ai au k w p st jc j,[],Ac 8 (whn_h_o ai au k w p st jc)⟩
theorem whn_in{s0:AS}(hs0:s0.h.next=6)(i u k:Nat)(hk:k<1099511627776)(v0 r0:Nat)(hr0:r0≤k)(hc2:(FT 47 #[(pt 5),(nI k)] 6 [(5,(Qw i u))] (nI r0) [(5,some (z_332_5 i v0))] []))(hr:GT s0 (Ca 17 #[(pt 5),(nI k)] 6 [(5,(Qw i u))])):GT s0 (Xd (i+1) v0 k r0 0 (bts []) ([undef,undef,(.string (bts [])),(nI r0)]) z_332_6):=by
 have h1:=hr.trans (sR (sc:=[(8,.call [5] (nI r0) [(5,some (z_332_5 i v0))] []),(13,.stay)]) (fr1:=(Fr 17 ([(pt 5),(nI k),uu,uu,(.string (bts [])),(nI r0),(.string (bts [])),(lI 0),uu,(pt 5),(nI k),(nI r0)]++(uj 25 [])) [.code (cd Tryz.f17 [1,1,1,0,1,0,0]),.inLoop (cd Tryz.f17 [1,1,1,0,1,0,0]),.inBlock 0,.code (cd Tryz.f17 [1,1,1,1])])) (next:=6) (l:=[(5,(z_332_5 i v0))]) kr (aI hc2 tt))
 exact Kv (b:=6) (k:=0) h1 kr rfl rfl rfl kr (by rw[hs0];decide) (by rw[hs0];decide) de de (by rfl) (by simp only[whn_h_o,List.map_cons,List.map_nil,Ep,Ah _ _ (Av _),Ah _ _ (Af _ _)];rfl) kr
theorem whn_s{s0:AS}(hs0:s0.h.next=6)(ai au k w p:Nat)(st:ByteArray)(j jc:List Value)(hjc:Cm (Ak 6 2) jc)(hw:w<1099511627776)(hp:p<w)(hs:st.size<1099511627776)(h0:p=0)(v0 r0:Nat)(hr0:r0≤9)(hc2:(FT 47 #[(pt 5),(lI 9)] 8 [(5,(Vr ai au))] (nI r0) [(5,some (Kk ai v0))] []))(v1 r1:Nat)(hr1:r1≤2)(d e:Nat)(hd:([.int .i64 0,.int .i64 9,.int .i64 (r0:Nat)]:List Value)[r1]? =some (nI d))(hd9:d≤9)(hc6:(FT 47 #[(pt 5),(lI 2)] 9 [(5,(Kk ai v0))] (nI r1) [(5,some (Vm ai v1))] []))(v2 r2:Nat)(hr2:r2≤8)(he:e=(1+r2))(hc9:FT 47 #[(pt 5),(lI 8)] 9 [(5,(Vm ai v1))] (nI r2) [(5,some (z_332_4 ai v2))] [])(hr:GT s0 (Xd ai au k w p st jc j)):GT s0 (Xd (((ai+1)+1)+1) v2 k w (p+1) (st++(Aa [e])) ([(pt 5),(nI (1+r2)),(J jc 2),(J jc 3)]) [(nI (1+r2)),(nI p),(nI w),bT,(nI p),(nI (p+1)),(pt 5),(pt 5),(nI r0),(sl 6 3 3),(nI d),(nI p),bT,(.string st),(nI (1+r2)),(.string (Aa [e])),(Vh st e)]):=by
 have h1:=hr.trans (sR (sc:=[(5,.op (.rwB true)),(9,.call [5] (nI r0) [(5,some (Kk ai v0))] []),(13,.call [5] (nI r1) [(5,some (Vm ai v1))] []),(0,.op (.idx r1)),(0,.op (.ld (nI d))),(10,.op (.rwB true)),(16,.call [5] (nI r2) [(5,some (z_332_4 ai v2))] []),(0,.op (.rwI (((1+r2):Nat):Int))),(17,.op (.rwI ((((1+r2)%10):Nat):Int))),(0,.op (.rwI (((48+((1+r2)%10)):Nat):Int))),(0,.op (.rwI (((48+((1+r2)%10)):Nat):Int))),(1,.op (.b2s (Aa [e]))),(4,.op (.cat (st++(Aa [e])))),(5,.op (.rwI (((p+1):Nat):Int))),(3,.stay)]) (fr1:=(Fr 17 ([(pt 5),(nI k),uu,uu,(J jc 2),(nI w),(Vh st e),(nI (p+1)),(nI (1+r2)),(pt 5),(nI k),(J jc 3),(nI p),(nI w),bT,(nI p),(nI (p+1)),(pt 5),(pt 5),(nI r0),(sl 8 3 3),(nI d),(nI p),bT,(pt 5),(nI (1+r2)),(.string st),(nI (1+r2)),(.string (Aa [e])),(Vh st e)]++(uj 7 [])) [.code (cd Tryz.f17 [1,1,1,0,1,0,0]),.inLoop (cd Tryz.f17 [1,1,1,0,1,0,0]),.inBlock 0,.code (cd Tryz.f17 [1,1,1,1])])) (next:=10) (l:=[(5,(z_332_4 ai v2))]) kr (aI (dT (p:=(p:Int)<(w:Int))) (aI hc2 (aI hc6 (aI (ix (r1:Int) ((3:Nat):Int) 0 1 r1) (aI hd (aI (eT (a:=(p:Int)) (b:=(0:Int))) (aI hc9 (aI (Am (a:=((1:Int)+(r2:Int))) (r:=(((1+r2):Nat):Int))) (aI (show (Int.tmod (((1+r2):Nat):Int) (10:Int))=((((1+r2)%10):Nat):Int) from (by rw[Int.tmod_eq_emod_of_nonneg om]<;>omega)) (aI (Am (a:=((48:Int)+((((1+r2)%10):Nat):Int))) (r:=(((48+((1+r2)%10)):Nat):Int))) (aI (wU8 (a:=(((48+((1+r2)%10)):Nat):Int)) (r:=(((48+((1+r2)%10)):Nat):Int))) (aI (show 0+1≤([(nB (48+((1+r2)%10)))]).length∧(Dk (List.take 1 (List.drop 0 [(nB (48+((1+r2)%10)))]))).map (fun ns=>(⟨(ns.map fun n=>UInt8.ofNat n.toNat).toArray⟩:ByteArray))=some (Aa [e]) from (Gg om)) (aI (show (((st.size+(Aa [e]).size:Nat)):Int)≤9223372036854775807∧st++(Aa [e])=(st++(Aa [e])) from⟨by rw[show (Aa [e]).size=1 from rfl];omega,rfl⟩) (aI (Am (a:=((p:Int)+(1:Int))) (r:=(((p+1):Nat):Int))) tt)))))))))))))))
 rw[←Ap (Ak 6 2) hjc 2]at h1
 rw[←Ap (Ak 6 2) hjc 3]at h1
 exact Kv (b:=6) (k:=2) h1 kr rfl rfl rfl kr (by rw[hs0];decide) (by rw[hs0];decide) de de (by rfl) (by simp only[whn_h_o,List.map_cons,List.map_nil,Ep,Ah _ _ (Av _),Ah _ _ (Af _ _)];rfl) kr
theorem whn_r{s0:AS}(hs0:s0.h.next=6)(ai au k w p:Nat)(st:ByteArray)(j jc:List Value)(hjc:Cm (Ak 6 2) jc)(hw:w<1099511627776)(hp:p<w)(hs:st.size<1099511627776)(h0:p≠0)(v0 r0:Nat)(hr0:r0≤9)(hc2:(FT 47 #[(pt 5),(lI 9)] 8 [(5,(Vr ai au))] (nI r0) [(5,some (Kk ai v0))] []))(v1 r1:Nat)(hr1:r1≤2)(d e:Nat)(hd:([.int .i64 0,.int .i64 9,.int .i64 (r0:Nat)]:List Value)[r1]? =some (nI d))(hd9:d≤9)(he:e=d)(hc6:(FT 47 #[(pt 5),(lI 2)] 9 [(5,(Kk ai v0))] (nI r1) [(5,some (Vm ai v1))] []))(hr:GT s0 (Xd ai au k w p st jc j)):GT s0 (Xd ((ai+1)+1) v1 k w (p+1) (st++(Aa [e])) ([(J jc 0),(J jc 1),(J jc 2),(J jc 3)]) [(nI d),(nI p),(nI w),bT,(nI p),(nI (p+1)),(pt 5),(pt 5),(nI r0),(sl 6 3 3),(nI d),(nI p),bF,(.string st),(nI d),(.string (Aa [e])),(Vh st e)]):=by
 have h1:=hr.trans (sR (sc:=[(5,.op (.rwB true)),(9,.call [5] (nI r0) [(5,some (Kk ai v0))] []),(13,.call [5] (nI r1) [(5,some (Vm ai v1))] []),(0,.op (.idx r1)),(0,.op (.ld (nI d))),(10,.op (.rwB false)),(14,.op (.rwI (((d%10):Nat):Int))),(0,.op (.rwI (((48+(d%10)):Nat):Int))),(0,.op (.rwI (((48+(d%10)):Nat):Int))),(1,.op (.b2s (Aa [e]))),(4,.op (.cat (st++(Aa [e])))),(5,.op (.rwI (((p+1):Nat):Int))),(3,.stay)]) (fr1:=(Fr 17 ([(pt 5),(nI k),uu,uu,(J jc 2),(nI w),(Vh st e),(nI (p+1)),(nI d),(pt 5),(nI k),(J jc 3),(nI p),(nI w),bT,(nI p),(nI (p+1)),(pt 5),(pt 5),(nI r0),(sl 8 3 3),(nI d),(nI p),bF,(J jc 0),(J jc 1),(.string st),(nI d),(.string (Aa [e])),(Vh st e)]++(uj 7 [])) [.code (cd Tryz.f17 [1,1,1,0,1,0,0]),.inLoop (cd Tryz.f17 [1,1,1,0,1,0,0]),.inBlock 0,.code (cd Tryz.f17 [1,1,1,1])])) (next:=10) (l:=[(5,(Vm ai v1))]) kr (aI (dT (p:=(p:Int)<(w:Int))) (aI hc2 (aI hc6 (aI (ix (r1:Int) ((3:Nat):Int) 0 1 r1) (aI hd (aI (eF (a:=(p:Int)) (b:=(0:Int))) (aI (show (Int.tmod (d:Int) (10:Int))=(((d%10):Nat):Int) from (by rw[Int.tmod_eq_emod_of_nonneg om]<;>omega)) (aI (Am (a:=((48:Int)+(((d%10):Nat):Int))) (r:=(((48+(d%10)):Nat):Int))) (aI (wU8 (a:=(((48+(d%10)):Nat):Int)) (r:=(((48+(d%10)):Nat):Int))) (aI (show 0+1≤([(nB (48+(d%10)))]).length∧(Dk (List.take 1 (List.drop 0 [(nB (48+(d%10)))]))).map (fun ns=>(⟨(ns.map fun n=>UInt8.ofNat n.toNat).toArray⟩:ByteArray))=some (Aa [e]) from (Gg om)) (aI (show (((st.size+(Aa [e]).size:Nat)):Int)≤9223372036854775807∧st++(Aa [e])=(st++(Aa [e])) from⟨by rw[show (Aa [e]).size=1 from rfl];omega,rfl⟩) (aI (Am (a:=((p:Int)+(1:Int))) (r:=(((p+1):Nat):Int))) tt)))))))))))))
 rw[←Ap (Ak 6 2) hjc 0]at h1
 rw[←Ap (Ak 6 2) hjc 1]at h1
 rw[←Ap (Ak 6 2) hjc 2]at h1
 rw[←Ap (Ak 6 2) hjc 3]at h1
 exact Kv (b:=6) (k:=2) h1 kr rfl rfl rfl kr (by rw[hs0];decide) (by rw[hs0];decide) de de (by rfl) (by simp only[whn_h_o,List.map_cons,List.map_nil,Ep,Ah _ _ (Av _),Ah _ _ (Af _ _)];rfl) kr
theorem whn_oe(i u ai au k w p:Nat)(st:ByteArray)(j jc:List Value)(hp:w≤p)(hs:st.size<1099511627776)(h0:(st.toList==(Seg.bts []).toList)=true)(hr:GT (Ca 17 #[(pt 5),(nI k)] 6 [(5,(Qw i u))]) (Xd ai au k w p st jc j)):CT 17 #[(pt 5),(nI k)] (Ac 6 [(5,(Qw i u))]) (.string (bts [48])) (Ac 8 [(5,(Vr ai au))]):=
 sF (sc:=[(5,.op (.rwB false)),(7,.op (.rwB true)),(7,.stay)]) kr (aI (dF (p:=(p:Int)<(w:Int))) (aI h0 tt)) hr
theorem whn_om(i u ai au k w p:Nat)(st:ByteArray)(j jc:List Value)(hp:w≤p)(hs:st.size<1099511627776)(h0:(st.toList==(Seg.bts []).toList)=false)(v0 r0:Nat)(hr0:r0≤2)(hz:r0=0)(hc3:(FT 47 #[(pt 5),(lI 2)] 8 [(5,(Vr ai au))] (nI r0) [(5,some (Kk ai v0))] []))(hr:GT (Ca 17 #[(pt 5),(nI k)] 6 [(5,(Qw i u))]) (Xd ai au k w p st jc j)):CT 17 #[(pt 5),(nI k)] (Ac 6 [(5,(Qw i u))]) (.string ((bts [45])++st)) (Ac 8 [(5,(Kk ai v0))]):=
 sF (sc:=[(5,.op (.rwB false)),(7,.op (.rwB false)),(17,.call [5] (nI r0) [(5,some (Kk ai v0))] []),(0,.op (.rwB true)),(9,.op (.cat ((bts [45])++st))),(3,.stay)]) kr (aI (dF (p:=(p:Int)<(w:Int))) (aI h0 (aI hc3 (aI (eT (a:=(r0:Int)) (b:=(0:Int))) (aI (show ((((bts [45]).size+st.size:Nat)):Int)≤9223372036854775807∧(bts [45])++st=((bts [45])++st) from⟨by rw[show (Seg.bts [45]).size=1 from rfl];omega,rfl⟩) tt))))) hr
theorem whn_on(i u ai au k w p:Nat)(st:ByteArray)(j jc:List Value)(hp:w≤p)(hs:st.size<1099511627776)(h0:(st.toList==(Seg.bts []).toList)=false)(v0 r0:Nat)(hr0:r0≤2)(hz:r0≠0)(hc3:(FT 47 #[(pt 5),(lI 2)] 8 [(5,(Vr ai au))] (nI r0) [(5,some (Kk ai v0))] []))(hr:GT (Ca 17 #[(pt 5),(nI k)] 6 [(5,(Qw i u))]) (Xd ai au k w p st jc j)):CT 17 #[(pt 5),(nI k)] (Ac 6 [(5,(Qw i u))]) (.string st) (Ac 8 [(5,(Kk ai v0))]):=
 sF (sc:=[(5,.op (.rwB false)),(7,.op (.rwB false)),(17,.call [5] (nI r0) [(5,some (Kk ai v0))] []),(0,.op (.rwB false)),(13,.stay)]) kr (aI (dF (p:=(p:Int)<(w:Int))) (aI h0 (aI hc3 (aI (eF (a:=(r0:Int)) (b:=(0:Int))) tt)))) hr
theorem whn_loop{k w i0:Nat}{s0:AS}(hs0:s0.h.next=6)(hi0:i0<4611686018427387904)(hw:w<1099511627776): ∀(m p i u:Nat) (ds:List Nat) (j jc:List Value),m=w-p→p≤w→ds.length=p→Dig ds→(0<p→ds.getD 0 0≠0)→i≤i0+1+3*p→Cm (Ak 6 2) jc→
  GT s0 (Xd i u k w p (Aa ds) jc j)→ ∃i' u' ds' j' jc',i'≤i0+1+3*w∧ds'.length=w∧Dig ds'∧(0<w→ds'.getD 0 0≠0)∧GT s0 (Xd i' u' k w w (Aa ds') jc' j'):=by
 intro m
 induction m with
 |zero=>
  intro p i u ds j jc hm hp hl hd h0 hi hj hr
  have:p=w:=by omega
  subst this
  exact⟨i,u,ds,j,jc,hi,hl,hd,h0,hr⟩
 |succ m ih=>
  intro p i u ds j jc hm hp hl hd h0 hi hj hr
  obtain⟨v0,r0,hr0,T0⟩:=upn_c 8 5 i u 9 om om om
  obtain⟨v1,r1,hr1,T1⟩:=upn_c 9 5 (i+1) v0 2 om om om
  obtain⟨d,hd9,hdd⟩: ∃d:Nat,d≤9∧([.int .i64 0,.int .i64 9,.int .i64 (r0:Nat)]:List Value)[r1]? =some (nI d):=by
   have:r1=0∨r1=1∨r1=2:=by omega
   rcases this with rfl|rfl|rfl
   ·exact⟨0,by omega,rfl⟩
   ·exact⟨9,by omega,rfl⟩
   ·exact⟨r0,hr0,rfl⟩
  have hsz:(Aa ds).size<1099511627776:=by rw[Ad];omega
  by_cases hp0:p=0
  ·obtain⟨v2,r2,hr2,T2⟩:=upn_c 9 5 (i+1+1) v1 8 om om om
   have r:=whn_s hs0 i u k w p (Aa ds) j jc hj hw om hsz hp0 v0 r0 hr0 T0 v1 r1 hr1 d (1+r2) hdd hd9 T1 v2 r2 hr2 rfl T2 hr
   rw[Sf]at r
   refine ih (p+1) _ _ _ _ _ om om (by rw[List.length_append,hl];rfl) (Ym hd om) (fun _=> ?_) om (by simp[Cm,Qr,Ap _ hj,mv,mvA,Ed,Ak,undef]) r
   have:ds=[]:=List.length_eq_zero_iff.1 om
   rw[this]
   show 1+r2≠0
   omega
  ·have r:=whn_r hs0 i u k w p (Aa ds) j jc hj hw om hsz hp0 v0 r0 hr0 T0 v1 r1 hr1 d d hdd hd9 rfl T1 hr
   rw[Sf]at r
   exact ih (p+1) _ _ _ _ _ om om (by rw[List.length_append,hl];rfl) (Ym hd om) (fun _=>head_snoc (h0 om)) om (by simp[Cm,Qr,Ap _ hj,mv,mvA,Ed,Ak,undef]) r
theorem Zh(n0 b:Nat)(i u k:Nat)(hb:5≤b∧b<n0)(hi:i<4611686018427387904)(hk:k<1099511627776)(hk0:0<k):
  ∃(z:Int) (i' u':Nat),(Ae z.natAbs).length≤k∧i'≤i+2+3*k∧FT 17 #[pt b,.int .i64 ((k:Nat):Int)] n0 [(b,.cells [.slice none 0 0,.int .i64 ((i:Nat):Int),.int .u64 ((u:Nat):Int)] 62 none false)] (.string (Ab z)) [(b,some (.cells [.slice none 0 0,.int .i64 ((i':Nat):Int),.int .u64 ((u':Nat):Int)] 62 none false))] []:=by
 obtain⟨v,w,hw,T⟩:=upn_c 6 5 i u k om om hk
 have r0:=whn_in (s0:=(Ca 17 #[(pt 5),(nI k)] 6 [(5,(.cells [nS,(nI i),(nU u)] 62 none false))])) rfl i u k hk v w hw T (Gets.refl _)
 obtain⟨i',u',ds,j',jc',h1,h2,h3,h4,h5⟩:=whn_loop rfl hi om w 0 _ _ [] _ _ rfl (Nat.zero_le _) rfl (fun x hx=>by cases hx) (fun h=>absurd h de) om (by simp[Cm,Qr,mv,mvA,Ed,Ak,undef]) r0
 have hsz:(Aa ds).size<1099511627776:=by rw[Ad];omega
 rcases Nat.eq_zero_or_pos w with hw0|hw0
 ·have hds:ds=[]:=List.length_eq_zero_iff.1 om
  subst hds
  have S:=whn_oe i u i' u' k w w (Aa []) j' jc' (Nat.le_refl _) hsz (by rw[ByteArray.toList_eq,ByteArray.toList_eq];rfl) h5
  refine⟨0,i',u',by rw[show (0:Int).natAbs=0 from rfl,Ea];exact hk0,by omega,?_⟩
  rw[show Ab 0=Seg.bts [48] by rw[show (0:Int)=((0:Nat):Int) from rfl,Cj,Ea];rfl]
  exact ff [b] [.cells [.slice none 0 0,.int .i64 ((i:Nat):Int),.int .u64 ((u:Nat):Int)] 62 none false] [.cells [.slice none 0 0,.int .i64 ((i':Nat):Int),.int .u64 ((u':Nat):Int)] 62 none false] [] [] n0 (S) (fo:=by simp[Bj,As,Aj]) (fp:=by simp[Bj,As,Aj])
 ·have hne:((Aa ds).toList==(Seg.bts []).toList)=false:=by
   rw[ByteArray.toList_eq,ByteArray.toList_eq]
   cases ds with
   |nil=>rw[List.length_nil]at h2;omega
   |cons d ds=>rfl
  obtain⟨hdv,hpos⟩:=Nw (w-1) ds om h3 (h4 hw0)
  obtain⟨v2,r2,hr2,T2⟩:=upn_c 8 5 i' u' 2 om om om
  by_cases hz:r2=0
  ·have S:=whn_om i u i' u' k w w (Aa ds) j' jc' (Nat.le_refl _) hsz hne v2 r2 hr2 hz T2 h5
   refine⟨-(Az ds:Int),i'+1,v2,by rw[Int.natAbs_neg,Int.natAbs_natCast,hdv];omega,by omega,?_⟩
   rw[Dm hpos,hdv,←Sc]
   exact ff [b] [.cells [.slice none 0 0,.int .i64 ((i:Nat):Int),.int .u64 ((u:Nat):Int)] 62 none false] [.cells [.slice none 0 0,.int .i64 ((i'+1:Nat):Int),.int .u64 ((v2:Nat):Int)] 62 none false] [] [] n0 (S) (fo:=by simp[Bj,As,Aj]) (fp:=by simp[Bj,As,Aj])
  ·have S:=whn_on i u i' u' k w w (Aa ds) j' jc' (Nat.le_refl _) hsz hne v2 r2 hr2 hz T2 h5
   refine⟨(Az ds:Int),i'+1,v2,by rw[Int.natAbs_natCast,hdv];omega,by omega,?_⟩
   rw[Cj,hdv]
   exact ff [b] [.cells [.slice none 0 0,.int .i64 ((i:Nat):Int),.int .u64 ((u:Nat):Int)] 62 none false] [.cells [.slice none 0 0,.int .i64 ((i'+1:Nat):Int),.int .u64 ((v2:Nat):Int)] 62 none false] [] [] n0 (S) (fo:=by simp[Bj,As,Aj]) (fp:=by simp[Bj,As,Aj])
end Go.Proofs.YtjbflfbhfnkmlaaGreatDoor
