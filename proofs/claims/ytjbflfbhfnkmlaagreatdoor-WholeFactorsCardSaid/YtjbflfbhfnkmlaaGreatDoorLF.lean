import Derived.Test.YtjbflfbhfnkmlaaGreatDoorLE
import Derived.Sort.Grow
import Derived.Deep.Draws
import Derived.Lib.LaidTab
import Derived.Test.YtjbflfbhfnkmlaaGreatDoorLD
import Derived.ChangeSlices
import Derived.Laws.MakeOwn
import Derived.Laws.RangeString
import Derived.Lib.ItoaNum
set_option linter.unusedVariables false
set_option linter.unusedSimpArgs false
namespace Go.AE
open Go
def tellV (P : Program) (G : Nat) (h : AH) (e : Operand → Value) (o : Oper) (a : Ans) (wt : Array Bool) : Option (Value × List Held × Prop) :=
  match a with
  | .ld v => match o.op with
    | .load t x => if okOpd G x then match e x with
      | .pointer (some ⟨ab, ao, none⟩) => match aggT P t, sizeT P t, h.get ab with
        | some false, some _, some (.cells c _ _ _) => some (v, [⟨⟨ab, ao, none⟩, 1, [v], wt⟩], c[ao]? = some v)
        | some false, some _, some (.win o c) => some (v, [⟨⟨ab, ao, none⟩, 1, [v], wt⟩], o ≤ ao ∧ c[ao - o]? = some v)
        | _, _, _ => none
      | _ => none
      else none
    | _ => none
  | .rwB b => match apureV P G h e o with
    | some (.bool c) => some (.bool b, [], c = b)
    | _ => none
  | .rwI n => match apureV P G h e o with
    | some (.int k n0) => some (.int k n, [], n0 = n)
    | _ => none
  | .idx off => match o.op with
    | .indexAddr _ _ _ => match sop P G h e o (.idx off) with
      | some (.val v _, p) => some (v, [], p)
      | _ => none
    | _ => none
  | .appG _ _ => none
  | .appF _ _ => none
  | .app0 => none
  | .slo _ => none
  | .cpy _ _ => none
  | a => match aptr P h e o.op, aeff P h e o.op with
    | none, none => match sop P G h e o a with
      | some (.val v _, p) => some (v, [], p)
      | _ => none
    | _, _ => none
def pickS (P : Program) (G : Nat) (ora : List (Nat × Ans)) (ops : Array Oper) (listed : Array Bool) (tm : Array Value) (h : AH) : List Nat → Option (Nat × Value × List Held × Prop)
  | [] => none
  | i :: rest =>
    match ops[i]? with
    | none => none
    | some o =>
      let wt := waits ops listed i 0 ops.toList #[]
      if Region.wanted o (yielded ops tm) then
        match ora.find? fun x => Nat.beq x.1 i with
        | some x => match tellV P G h (evA tm) o x.2 wt with
          | some (v, gs, p) => if okTake ops listed wt i then some (i, v, gs, p) else none
          | none => none
        | none => match apureV P G h (evA tm) o with
          | some v => if okTake ops listed wt i then some (i, v, [], True) else pickS P G ora ops listed tm h rest
          | none => match aloadV P G h (evA tm) o with
            | some (v, a, n, l) => if okTake ops listed wt i then some (i, v, [⟨a, n, l, wt⟩], True) else pickS P G ora ops listed tm h rest
            | none => pickS P G ora ops listed tm h rest
      else if okTake ops listed wt i then some (i, undef, [], True) else pickS P G ora ops listed tm h rest
def drawS (P : Program) (G : Nat) (ora : List (Nat × Ans)) (ops : Array Oper) (h : AH) : Nat → Array Bool → Array Value → Option (Array Value × Prop)
  | 0, listed, tm => if (Region.ready .any ops listed).isEmpty then some (tm, True) else none
  | f + 1, listed, tm =>
    match Region.ready .any ops listed with
    | [] => some (tm, True)
    | r :: rs => match pickS P G ora ops listed tm h (r :: rs) with
      | some (i, v, _, p) => match drawS P G ora ops h f (listed.setIfInBounds i true) (putA ops i tm v) with
        | some (t, q) => some (t, p ∧ q)
        | none => none
      | none => none
mutual
def simpV : Value → Bool
  | .bool _ => true
  | .int _ _ => true
  | .string _ => true
  | .pointer _ => true
  | .slice _ _ _ => true
  | .map _ => true
  | .nilFunc => true
  | .nilIface => true
  | .iface _ v => simpV v
  | .agg ⟨l⟩ => simpL l
  | .func _ ⟨x⟩ ⟨y⟩ => simpL x && simpL y
  | _ => false
def simpL : List Value → Bool
  | [] => true
  | v :: l => simpV v && simpL l
end
mutual
theorem veq_refl : ∀ v, simpV v = true → veq v v = true
  | .bool a, _ => by simp [veq]
  | .int k n, _ => by simp [veq]
  | .string a, _ => by simp [veq]
  | .pointer a, _ => by simp [veq]
  | .slice a n c, _ => by simp [veq, Nat.beq_refl]
  | .map a, _ => by simp [veq]
  | .nilFunc, _ => by simp [veq]
  | .nilIface, _ => by simp [veq]
  | .iface t v, h => by
    unfold simpV at h
    unfold veq
    rw [veq_refl v h, Bool.and_true]
    exact Nat.beq_refl t
  | .agg ⟨l⟩, h => by
    unfold simpV at h
    unfold veq veqA
    exact veqL_refl l h
  | .func f ⟨x⟩ ⟨y⟩, h => by
    unfold simpV at h
    simp only [Bool.and_eq_true] at h
    unfold veq veqA
    rw [veqL_refl x h.1, veqL_refl y h.2]
    simp
theorem veqL_refl : ∀ l, simpL l = true → veqL l l = true
  | [], _ => by unfold veqL; rfl
  | v :: l, h => by
    unfold simpL at h
    simp only [Bool.and_eq_true] at h
    unfold veqL
    rw [veq_refl v h.1, veqL_refl l h.2]; rfl
end
def keepsR (h : AH) (writes : List (Nat × Option AObj)) (g : Held) : Bool :=
  simpL g.l && (Nat.blt g.a.block h.next && writes.all fun x => !Nat.beq x.1 g.a.block)
def heldV (h : AH) (g : Held) : Prop := acells h g.a g.n = some g.l
theorem keepsR_ok {h : AH} {writes : List (Nat × Option AObj)} {news : List AObj} {g : Held} (hk : keepsR h writes g = true) (hv : heldV h g) : heldV (pushAll (putAll h writes) news) g ∧ ∀ j, heldOk (pushAll (putAll h writes) news) j g = true := by
  unfold keepsR at hk
  simp only [Bool.and_eq_true] at hk
  obtain ⟨h1, h2, h3⟩ := hk
  have hlt : g.a.block < h.next := Nat.blt_eq.mp h2
  have hg : (pushAll (putAll h writes) news).get g.a.block = h.get g.a.block := by
    rw [pushAll_get, if_neg (by rw [putAll_next]; omega), putAll_out]
    intro x hx e
    have := List.all_eq_true.1 h3 x hx
    rw [e] at this
    simp at this
  have hv' : heldV (pushAll (putAll h writes) news) g := by
    unfold heldV acells at hv ⊢
    rw [hg]
    exact hv
  refine ⟨hv', fun j => ?_⟩
  unfold heldOk
  rw [show acells (pushAll (putAll h writes) news) g.a g.n = some g.l from hv']
  simp only [veqL_refl g.l h1, Bool.or_true]
structure CallA where
  i : Nat
  ids : List Nat
  v : Value
  writes : List (Nat × Option AObj)
  news : List AObj
structure CallRec where
  f : FuncId
  args : Array Value
  h : AH
  v : Value
  w : List (Nat × Option AObj)
  n : List AObj
def CallRec.h' (c : CallRec) : AH := pushAll (putAll c.h c.w) c.n
def isAlloc : Op → Bool
  | .alloc _ => true
  | _ => false
def drawM (P : Program) (G : Nat) (ora : List (Nat × Ans)) (calls : List CallA) (ops : Array Oper) : Nat → Array Bool → List Held → Array Value → AH → Option ((Array Value × AH) × List CallRec × Prop)
  | 0, listed, _, tm, h => if (Region.ready .any ops listed).isEmpty then some ((tm, h), [], True) else none
  | f + 1, listed, gs, tm, h =>
    match Region.ready .any ops listed with
    | [] => some ((tm, h), [], True)
    | r :: rs => match (if rs.isEmpty then calls.find? (fun c => Nat.beq c.i r) else none) with
      | some c => match ops[r]?, pick P G ops listed tm h [r] with
        | some o, none => match o.op with
          | .call _ => if Region.wanted o (yielded ops tm) then match aop P G h (evA tm) o with
            | some (.enter fn args) => if gs.all (fun g => g.wt.getD r false || keepsR h c.writes g) then
                match drawM P G ora calls ops f (listed.setIfInBounds r true) (gs.filter fun g => !g.wt.getD r false) (putA ops r tm c.v) (pushAll (putAll h c.writes) c.news) with
                | some (t, C, q) => some (t, ⟨fn, args, h, c.v, c.writes, c.news⟩ :: C, FSp P G fn args h.next (c.ids.filterMap fun i => (h.get i).map fun o => (i, o)) c.v c.writes c.news ∧ q)
                | none => none
              else none
            | _ => none
            else none
          | _ => none
        | _, _ => none
      | none => match pickS P G ora ops listed tm h (r :: rs) with
        | some (i, v, g, p) => match drawM P G ora calls ops f (listed.setIfInBounds i true) (g ++ gs) (putA ops i tm v) h with
          | some (t, C, q) => some (t, C, p ∧ q)
          | none => none
        | none => match rs.isEmpty, ops[r]?, pick P G ops listed tm h [r] with
          | true, some o, none => if Region.wanted o (yielded ops tm) && (!isAlloc o.op && gs.all (fun g => g.wt.getD r false)) then
              match (match ora.find? (fun x => Nat.beq x.1 r) with | some x => sop P G h (evA tm) o x.2 | none => (aop P G h (evA tm) o).map fun r => (r, True)) with
              | some (.val v h', p) => match drawM P G ora calls ops f (listed.setIfInBounds r true) (gs.filter fun g => !g.wt.getD r false) (putA ops r tm v) h' with
                | some (t, C, q) => some (t, C, p ∧ q)
                | none => none
              | _ => none
            else none
          | _, _, _ => none
mutual
def vdiff : Value → Value → Bool
  | .bool a, .bool b => a != b
  | .pointer (some a), .pointer (some b) => !Nat.beq a.block b.block
  | .slice (some a) _ _, .slice (some b) _ _ => !Nat.beq a.block b.block
  | .slice none _ _, .slice (some _) _ _ => true
  | .slice (some _) _ _, .slice none _ _ => true
  | .agg ⟨x⟩, .agg ⟨y⟩ => vdiffL x y
  | _, _ => false
def vdiffL : List Value → List Value → Bool
  | v :: l, u :: m => vdiffL l m || vdiff v u
  | _, _ => false
end
mutual
theorem vdiff_ne : ∀ (v : Value), vdiff v v = false
  | .bool a => by simp [vdiff]
  | .pointer none => by simp [vdiff]
  | .pointer (some a) => by simp [vdiff]
  | .slice none _ _ => by simp [vdiff]
  | .slice (some a) _ _ => by simp [vdiff]
  | .agg ⟨x⟩ => by simp [vdiff, vdiffL_ne x]
  | .int .. | .float .. | .complex .. | .string .. | .map .. | .chan .. | .func .. | .nilFunc | .iface .. | .nilIface | .tuple .. => by simp [vdiff]
theorem vdiffL_ne : ∀ (l : List Value), vdiffL l l = false
  | [] => by simp [vdiffL]
  | v :: l => by simp [vdiffL, vdiff_ne v, vdiffL_ne l]
end
def veqB : Value → Value → Bool
  | .bool a, .bool b => a == b
  | _, _ => false
theorem veqB_sound : ∀ {v u : Value}, veqB v u = true → v = u
  | .bool a, .bool b, h => by
    have : a = b := by simpa [veqB] using h
    rw [this]
def sameC (c d : CallRec) : Bool := (c.w.isEmpty && (c.n.isEmpty && (d.w.isEmpty && d.n.isEmpty))) && veqB d.v c.v
def apartC : List CallRec → Bool
  | [] => true
  | c :: l => l.all (fun d => !(Nat.beq c.f d.f) || (!(Nat.beq c.h.next d.h.next) || (vdiffL c.args.toList d.args.toList || sameC c d))) && apartC l
def apq (c d : CallRec) : Prop := match !(Nat.beq c.f d.f) || (!(Nat.beq c.h.next d.h.next) || (vdiffL c.args.toList d.args.toList || sameC c d)) with
  | true => True
  | false => match c.w.isEmpty && (c.n.isEmpty && (d.w.isEmpty && d.n.isEmpty)) with
    | true => c.args = d.args → d.v = c.v
    | false => False
def apall (c : CallRec) : List CallRec → Prop
  | [] => True
  | d :: l => apq c d ∧ apall c l
def apartP : List CallRec → Prop
  | [] => True
  | c :: l => apall c l ∧ apartP l
section
variable {P : Program} {G : Nat}
theorem indexAddr_pure {h : AH} {e : Operand → Value} {o : Oper} {t : TypeId} {x i : Operand} (ho : o.op = .indexAddr t x i) {v : Value} {h' : AH} (hs : ∃ off p, sop P G h e o (.idx off) = some (.val v h', p) ∧ p) : apureV P G h e o = some v := by
  obtain ⟨off, p, hs, hp⟩ := hs
  unfold sop at hs
  split at hs
  case isFalse => cases hs
  rename_i hok
  simp only [ho] at hs
  unfold apureV
  rw [if_pos hok]
  split at hs
  case h_3 => cases hs
  · rename_i el ab ao n _ _ k hu hx hi
    split at hs
    case h_2 => cases hs
    rename_i sz hsz
    cases hs
    obtain ⟨h1, h2, h3⟩ := hp
    simp only [ho, aptr, hu, hx, hi, hsz, if_pos (And.intro h1 h2), add_mk, h3]
  · rename_i n el ab ao _ k hu hx hi
    split at hs
    case h_2 => cases hs
    rename_i sz hsz
    cases hs
    obtain ⟨h1, h2, h3⟩ := hp
    simp only [ho, aptr, hu, hx, hi, hsz, if_pos (And.intro h1 h2), add_mk, h3]
theorem tellV_ok {h : AH} {e : Operand → Value} {o : Oper} {a : Ans} {wt : Array Bool} {v : Value} {gs : List Held} {p : Prop} (ht : tellV P G h e o a wt = some (v, gs, p)) (hp : p) :
    (apureV P G h e o = some v ∧ gs = []) ∨ (apureV P G h e o = none ∧ ∃ ad n l, aloadV P G h e o = some (v, ad, n, l) ∧ gs = [⟨ad, n, l, wt⟩]) := by
  unfold tellV at ht
  split at ht
  ·
    rename_i v0
    split at ht
    case h_2 => cases ht
    rename_i t x ho
    split at ht
    case isFalse => cases ht
    rename_i hok
    split at ht
    case h_2 => cases ht
    rename_i ab ao hx
    have fin : ∀ n, aggT P t = some false → sizeT P t = some n → acells h ⟨ab, ao, none⟩ 1 = some [v] → v0 = v → (apureV P G h e o = none ∧ ∃ ad n l, aloadV P G h e o = some (v, ad, n, l) ∧ [(⟨⟨ab, ao, none⟩, 1, [v0], wt⟩ : Held)] = [⟨ad, n, l, wt⟩]) := fun n hag hsz hc hv0 => by
      subst hv0
      have hld : aload P h t ⟨ab, ao, none⟩ = some v0 := by
        simp only [aload, hag, hc, Option.bind_some]
        rfl
      have hn : loadN P t = 1 := by
        unfold loadN
        rw [hag]
      constructor
      · unfold apureV
        have : o.op.operands.all (fun x => closed (e x)) = false := by simp [ho, Op.operands, hx, closed]
        simp only [ho, aptr]
        split
        · rw [if_neg]
          rw [← ho, this]
          simp
        · rfl
      · refine ⟨_, _, _, ?_, rfl⟩
        unfold aloadV
        simp only [ho, hok, if_true, hx, hld, hn, hc]
    split at ht
    case h_3 => cases ht
    case h_2 =>
      rename_i n o' c hag hsz hg
      cases ht
      have hlt : ao - o' + 1 ≤ c.length := (List.getElem?_eq_some_iff.1 hp.2).1
      exact .inr (fin _ hag hsz (by
        unfold acells
        simp only [hg, if_pos (And.intro hp.1 hlt)]
        have := (List.getElem?_eq_some_iff.1 hp.2).2
        rw [List.drop_eq_getElem_cons (by omega), this]
        rfl) rfl)
    rename_i n c el op ro hag hsz hg
    cases ht
    have hlt : ao + 1 ≤ c.length := (List.getElem?_eq_some_iff.1 hp).1
    exact .inr (fin _ hag hsz (by
      unfold acells
      simp only [hg, if_pos hlt]
      have := (List.getElem?_eq_some_iff.1 hp).2
      rw [List.drop_eq_getElem_cons (by omega), this]
      rfl) rfl)
  ·
    split at ht
    case h_2 => cases ht
    rename_i hq
    cases ht
    left
    exact ⟨by rw [hq, hp], rfl⟩
  · split at ht
    case h_2 => cases ht
    rename_i hq
    cases ht
    left
    exact ⟨by rw [hq, hp], rfl⟩
  ·
    rename_i off
    split at ht
    case h_2 => cases ht
    rename_i t x i ho
    split at ht
    case h_2 => cases ht
    rename_i hq
    cases ht
    left
    exact ⟨indexAddr_pure ho ⟨off, _, hq, hp⟩, rfl⟩
  · cases ht
  · cases ht
  · cases ht
  · cases ht
  · cases ht
  ·
    split at ht
    case h_2 => cases ht
    rename_i hpt hef
    split at ht
    case h_2 => cases ht
    rename_i hq
    cases ht
    left
    refine ⟨?_, rfl⟩
    have hao := sop_ok hq hp
    unfold aop at hao
    unfold apureV
    split at hao
    case isFalse => cases hao
    rename_i hok
    rw [if_pos hok, hpt]
    rw [hpt, hef] at hao
    simp only at hao ⊢
    split at hao
    case isFalse => cases hao
    rename_i hcl
    rw [if_pos hcl]
    split at hao
    · rename_i v1 hv1
      try rw [hv1]
      split at hao
      · rename_i hc1
        cases hao
        simp only [hc1, if_true]
      · cases hao
    · cases hao
theorem pickS_ok {ora : List (Nat × Ans)} {ops : Array Oper} {listed : Array Bool} {tm : Array Value} {h : AH} : ∀ {rs : List Nat} {i : Nat} {v : Value} {gs : List Held} {p : Prop}, pickS P G ora ops listed tm h rs = some (i, v, gs, p) → p → pick P G ops listed tm h rs = some (i, v, gs) := by
  intro rs
  induction rs with
  | nil => intro i v gs p hs _; cases hs
  | cons k rest ih =>
    intro i v gs p hs hp
    unfold pickS at hs
    unfold pick
    split at hs
    · cases hs
    rename_i o ho
    simp only [ho]
    split at hs
    · rename_i hw
      simp only [hw, if_true]
      split at hs
      · rename_i x hx
        dsimp only at hs
        split at hs
        case h_2 => cases hs
        rename_i v1 gs1 p1 ht
        split at hs
        case isFalse => cases hs
        rename_i hk
        cases hs
        rcases tellV_ok ht hp with ⟨h1, rfl⟩ | ⟨h1, ad, n, l, h2, rfl⟩
        · simp only [h1, hk, if_true]
        · simp only [h1, h2, hk, if_true]
      · split at hs
        · rename_i v1 hv1
          simp only [hv1]
          dsimp only at hs
          split at hs
          · rename_i hk
            cases hs
            simp only [hk, if_true]
          · rename_i hk
            simp only [hk]
            exact ih hs hp
        · rename_i hv1
          simp only [hv1]
          split at hs
          · rename_i v1 a n l hl
            simp only [hl]
            dsimp only at hs
            split at hs
            · rename_i hk
              cases hs
              simp only [hk, if_true]
            · rename_i hk
              simp only [hk]
              exact ih hs hp
          · rename_i hl
            simp only [hl]
            exact ih hs hp
    · rename_i hw
      simp only [hw]
      dsimp only at hs
      split at hs
      · rename_i hk
        cases hs
        simp only [hk, if_true]
        rfl
      · rename_i hk
        simp only [hk]
        exact ih hs hp
theorem drawS_ok {ora : List (Nat × Ans)} {ops : Array Oper} {h : AH} {nest : FuncId → Array Value → AH → Option (Value × AH)} {base : Nat} : ∀ (f : Nat) {listed : Array Bool} {gs : List Held} {tm tm' : Array Value} {p : Prop}, drawS P G ora ops h f listed tm = some (tm', p) → p → adraw P G nest base ops f listed gs tm h = some (tm', h) := by
  intro f
  induction f with
  | zero =>
    intro listed gs tm tm' p hs _
    unfold drawS at hs
    unfold adraw
    split at hs
    · rename_i hr
      cases hs
      simp only [hr, if_true]
    · cases hs
  | succ f ih =>
    intro listed gs tm tm' p hs hp
    unfold drawS at hs
    unfold adraw
    split at hs
    · rename_i hr
      cases hs
      simp only [hr]
    · rename_i r rs hr
      simp only [hr]
      split at hs
      case h_2 => cases hs
      rename_i i v gs1 p1 hpk
      split at hs
      case h_2 => cases hs
      rename_i t q hd
      cases hs
      simp only [pickS_ok hpk hp.1]
      exact ih hd hp.2
open Classical in
noncomputable def nestOf : List CallRec → FuncId → Array Value → AH → Option (Value × AH)
  | [], _, _, _ => none
  | c :: l, f, a, h => if f = c.f ∧ a = c.args ∧ h = c.h then some (c.v, c.h') else nestOf l f a h
theorem nestOf_ok : ∀ {C : List CallRec}, (∀ c ∈ C, CSp P G c.f c.args c.h c.v c.h') → NestOK P G (nestOf C)
  | [], _ => fun f a h v h' e => by cases e
  | c :: l, H => fun f a h v h' e => by
    unfold nestOf at e
    split at e
    · rename_i q
      obtain ⟨rfl, rfl, rfl⟩ := q
      cases e
      exact H c (List.mem_cons_self ..)
    · exact nestOf_ok (fun d hd => H d (List.mem_cons_of_mem _ hd)) f a h v h' e
theorem nestOf_mem : ∀ {C : List CallRec}, apartC C = true → ∀ c ∈ C, nestOf C c.f c.args c.h = some (c.v, c.h')
  | d :: l, ha, c, hc => by
    unfold apartC at ha
    simp only [Bool.and_eq_true] at ha
    unfold nestOf
    rcases List.mem_cons.1 hc with rfl | hc
    · rw [if_pos ⟨rfl, rfl, rfl⟩]
    · split
      · rename_i q
        obtain ⟨h1, h2, h3⟩ := q
        have := List.all_eq_true.1 ha.1 c hc
        rw [h1, h2, h3] at this
        simp [vdiffL_ne, sameC] at this
        obtain ⟨⟨e1, e2, e3, e4⟩, e5⟩ := this
        have e6 := veqB_sound e5
        unfold CallRec.h'
        rw [e1, e2, e3, e4, h3, e6]
      · exact nestOf_mem ha.2 c hc
theorem apall_mem {c : CallRec} : ∀ {l : List CallRec}, apall c l → ∀ d ∈ l, apq c d
  | e :: l, h, d, hd => by
    rcases List.mem_cons.1 hd with rfl | hd
    · exact h.1
    · exact apall_mem h.2 d hd
theorem nestOf_memP : ∀ {C : List CallRec}, apartP C → ∀ c ∈ C, nestOf C c.f c.args c.h = some (c.v, c.h')
  | d :: l, ha, c, hc => by
    unfold nestOf
    rcases List.mem_cons.1 hc with rfl | hc
    · rw [if_pos ⟨rfl, rfl, rfl⟩]
    · split
      · rename_i q
        obtain ⟨h1, h2, h3⟩ := q
        have hq := apall_mem ha.1 c hc
        unfold apq at hq
        split at hq
        · rename_i this
          rw [h1, h2, h3] at this
          simp [vdiffL_ne, sameC] at this
          obtain ⟨⟨e1, e2, e3, e4⟩, e5⟩ := this
          have e6 := veqB_sound e5
          unfold CallRec.h'
          rw [e1, e2, e3, e4, h3, e6]
        · split at hq
          · rename_i hw
            simp only [Bool.and_eq_true, List.isEmpty_iff] at hw
            obtain ⟨e1, e2, e3, e4⟩ := hw
            unfold CallRec.h'
            rw [e1, e2, e3, e4, h3, hq h2.symm]
          · cases hq
      · exact nestOf_memP ha.2 c hc
theorem aloadV_held {h : AH} {e : Operand → Value} {o : Oper} {v : Value} {a : Addr} {n : Nat} {l : List Value} (hl : aloadV P G h e o = some (v, a, n, l)) : acells h a n = some l := by
  unfold aloadV at hl
  repeat' split at hl
  all_goals first
    | cases hl
    | skip
  all_goals (rename_i hc; first | exact hc | (cases hl; assumption))
theorem pick_held {ops : Array Oper} {listed : Array Bool} {tm : Array Value} {h : AH} : ∀ {rs : List Nat} {i : Nat} {v : Value} {gs : List Held}, pick P G ops listed tm h rs = some (i, v, gs) → ∀ g ∈ gs, heldV h g := by
  intro rs
  induction rs with
  | nil => intro i v gs hs; cases hs
  | cons k rest ih =>
    intro i v gs hs
    unfold pick at hs
    split at hs
    · cases hs
    rename_i o ho
    dsimp only at hs
    split at hs
    case h_2 => exact ih hs
    rename_i v1 gs1 hr
    split at hs
    case isFalse => exact ih hs
    cases hs
    split at hr
    case isFalse => cases hr; intro g hg; cases hg
    split at hr
    · cases hr; intro g hg; cases hg
    split at hr
    · rename_i v2 a n l hl
      cases hr
      intro g hg
      rw [List.mem_singleton] at hg
      subst hg
      exact aloadV_held hl
    · cases hr
theorem drawM_ok {ora : List (Nat × Ans)} {calls : List CallA} {ops : Array Oper} {base : Nat} {nest : FuncId → Array Value → AH → Option (Value × AH)} : ∀ (f : Nat) {listed : Array Bool} {gs : List Held} {tm : Array Value} {h : AH} {r : Array Value × AH} {C : List CallRec} {p : Prop}, drawM P G ora calls ops f listed gs tm h = some (r, C, p) → p → (∀ g ∈ gs, heldV h g) →
    (∀ c ∈ C, CSp P G c.f c.args c.h c.v c.h') ∧ ((∀ c ∈ C, nest c.f c.args c.h = some (c.v, c.h')) → adraw P G nest base ops f listed gs tm h = some r) := by
  intro f
  induction f with
  | zero =>
    intro listed gs tm h r C p hs _ _
    unfold drawM at hs
    split at hs
    · rename_i hr
      cases hs
      refine ⟨fun c hc => (by cases hc), fun _ => ?_⟩
      unfold adraw
      simp only [hr, if_true]
    · cases hs
  | succ f ih =>
    intro listed gs tm h r C p hs hp hvs
    unfold drawM at hs
    split at hs
    · rename_i hr
      cases hs
      refine ⟨fun c hc => (by cases hc), fun _ => ?_⟩
      unfold adraw
      simp only [hr]
    rename_i r0 rs hr
    split at hs
    · rename_i c hfind
      split at hs
      case h_2 => cases hs
      rename_i o ho hpk
      split at hs
      case h_2 => cases hs
      rename_i cl hc
      split at hs
      case isFalse => cases hs
      rename_i hw
      split at hs
      case h_2 => cases hs
      rename_i fn args ha
      split at hs
      case isFalse => cases hs
      rename_i hgs
      split at hs
      case h_2 => cases hs
      rename_i t C' q hd
      cases hs
      have hrs' : rs = [] := by
        cases rs with
        | nil => rfl
        | cons a b => simp at hfind
      subst hrs'
      have hkeep : ∀ g ∈ gs, (g.wt.getD r0 false || keepsR h c.writes g) = true := List.all_eq_true.1 hgs
      obtain ⟨h1, h2⟩ := ih hd hp.2 fun g hg => by
        obtain ⟨hm, hw⟩ := List.mem_filter.1 hg
        have := hkeep g hm
        simp only [Bool.not_eq_true'] at hw
        rw [hw, Bool.false_or] at this
        exact (keepsR_ok this (hvs g hm)).1
      have hcs : CSp P G fn args h c.v (pushAll (putAll h c.writes) c.news) := hp.1 h rfl fun z hz => by
        obtain ⟨i, _, hi⟩ := List.mem_filterMap.1 hz
        obtain ⟨o, ho, rfl⟩ := Option.map_eq_some_iff.1 hi
        exact ho
      refine ⟨fun d hd => ?_, fun hn => ?_⟩
      · rcases List.mem_cons.1 hd with rfl | hd
        · exact hcs
        · exact h1 d hd
      · unfold adraw
        simp only [hr, hpk]
        unfold branches
        have hper : perform P G nest base o r0 tm h = some (c.v, pushAll (putAll h c.writes) c.news) := by
          unfold perform
          rw [hc]
          simp only [ha]
          exact hn _ (List.mem_cons_self ..)
        have hheld : gs.all (heldOk (pushAll (putAll h c.writes) c.news) r0) = true := by
          rw [List.all_eq_true]
          intro g hg
          rcases Bool.or_eq_true_iff.1 (hkeep g hg) with q | q
          · simp only [heldOk, q, Bool.true_or]
          · exact (keepsR_ok q (hvs g hg)).2 r0
        simp only [ho, hw, if_true, hper, hheld]
        rw [h2 fun d hd => hn d (List.mem_cons_of_mem _ hd)]
    · split at hs
      · rename_i i v gs1 p1 hpk
        split at hs
        case h_2 => cases hs
        rename_i t C' q hd
        cases hs
        obtain ⟨h1, h2⟩ := ih hd hp.2 fun g hg => by
          rcases List.mem_append.1 hg with q | q
          · exact pick_held (pickS_ok hpk hp.1) g q
          · exact hvs g q
        refine ⟨h1, fun hn => ?_⟩
        unfold adraw
        simp only [hr, pickS_ok hpk hp.1]
        exact h2 hn
      · split at hs
        case h_2 => cases hs
        rename_i o hrs ho hpk
        split at hs
        case isFalse => cases hs
        rename_i hcond
        simp only [Bool.and_eq_true] at hcond
        obtain ⟨hw, hal, hgs⟩ := hcond
        split at hs
        case h_2 => cases hs
        rename_i v h' p1 hsop
        split at hs
        case h_2 => cases hs
        rename_i t C' q hd
        cases hs
        have hrs' : rs = [] := by
          cases rs with
          | nil => rfl
          | cons a b => simp at hrs
        subst hrs'
        obtain ⟨h1, h2⟩ := ih hd hp.2 fun g hg => by
          obtain ⟨hm, hw⟩ := List.mem_filter.1 hg
          have := List.all_eq_true.1 hgs g hm
          rw [this] at hw
          cases hw
        refine ⟨h1, fun hn => ?_⟩
        have hao : aop P G h (evA tm) o = some (.val v h') := by
          split at hsop
          · exact sop_ok hsop hp.1
          · obtain ⟨r1, e1, e2⟩ := Option.map_eq_some_iff.1 hsop
            cases e2
            exact e1
        unfold adraw
        simp only [hr, hpk]
        unfold branches
        have hper : perform P G nest base o r0 tm h = some (v, h') := by
          unfold perform
          split
          · rename_i t0 hop
            rw [hop] at hal
            cases hal
          · simp only [hao]
        have hheld : gs.all (heldOk h' r0) = true := by
          rw [List.all_eq_true] at hgs ⊢
          intro g hg
          simp only [heldOk, hgs g hg, Bool.true_or]
        simp only [ho, hw, if_true, hper, hheld]
        rw [h2 hn]
def drawAllS (P : Program) (G : Nat) (ora : List (Nat × Ans)) (ops : Array Oper) (tm : Array Value) (h : AH) : Option (Array Value × Prop) :=
  if Region.noSelect ops && !(ops.any fun o => isDefer o.op) then
    if hasAlloc ops then none else drawS P G ora ops h ops.size (Array.replicate ops.size false) tm
  else none
theorem drawAllS_ok {ora : List (Nat × Ans)} {ops : Array Oper} {h : AH} {tm tm' : Array Value} {p : Prop} {nest : FuncId → Array Value → AH → Option (Value × AH)} (hs : drawAllS P G ora ops tm h = some (tm', p)) (hp : p) : adrawAll P G nest ops tm h = some (tm', h) := by
  unfold drawAllS at hs
  unfold adrawAll
  split at hs
  case isFalse => cases hs
  rename_i hc
  rw [if_pos hc]
  split at hs
  · cases hs
  rename_i ha
  simp only [ha]
  exact drawS_ok _ hs hp
def drawAllM (P : Program) (G : Nat) (ora : List (Nat × Ans)) (calls : List CallA) (ops : Array Oper) (tm : Array Value) (h : AH) : Option ((Array Value × AH) × Prop) :=
  if Region.noSelect ops && !(ops.any fun o => isDefer o.op) then
    if hasAlloc ops then none else match drawM P G ora calls ops ops.size (Array.replicate ops.size false) [] tm h with
      | some (r, C, p) => if apartC C then some (r, p) else some (r, p ∧ apartP C)
      | none => none
  else none
theorem drawAllM_ok {ora : List (Nat × Ans)} {calls : List CallA} {ops : Array Oper} {h : AH} {tm : Array Value} {r : Array Value × AH} {p : Prop} (hs : drawAllM P G ora calls ops tm h = some (r, p)) (hp : p) : ∃ nest, NestOK P G nest ∧ adrawAll P G nest ops tm h = some r := by
  unfold drawAllM at hs
  split at hs
  case isFalse => cases hs
  rename_i hc
  split at hs
  · cases hs
  rename_i ha
  split at hs
  case h_2 => cases hs
  rename_i r0 C p0 hd
  split at hs
  · rename_i hap
    cases hs
    obtain ⟨h1, h2⟩ := drawM_ok (base := h.next) (nest := nestOf C) _ hd hp (fun g hg => by cases hg)
    refine ⟨nestOf C, nestOf_ok h1, ?_⟩
    unfold adrawAll
    rw [if_pos hc]
    simp only [ha]
    exact h2 (nestOf_mem hap)
  · cases hs
    obtain ⟨h1, h2⟩ := drawM_ok (base := h.next) (nest := nestOf C) _ hd hp.1 (fun g hg => by cases hg)
    refine ⟨nestOf C, nestOf_ok h1, ?_⟩
    unfold adrawAll
    rw [if_pos hc]
    simp only [ha]
    exact h2 (nestOf_memP hp.2)
def curDraw (s : AS) : Option (Array Oper × List Item) :=
  match s.fr.mode with
  | .run => match s.fr.todo with
    | .code (.region _ ops true) :: k => some (ops, k)
    | _ => none
  | _ => none
theorem gets_draw0 (hmix : P.follows .mixedOrders = true) {s : AS} {ops : Array Oper} {k : List Item} (hc : curDraw s = some (ops, k)) {nest : FuncId → Array Value → AH → Option (Value × AH)} (hn : NestOK P G nest) {r : Array Value × AH} (hs : adrawAll P G nest ops s.fr.tmps s.h = some r) :
    Gets P G s ⟨{ s.fr with tmps := r.1, todo := k }, s.cs, r.2⟩ := fun _ _ _ _ _ H => by
  refine astep_ok (noHook_ok (P := P) (G := G)) (draw_ok hmix hn) H ?_
  unfold curDraw at hc
  split at hc
  case h_2 => cases hc
  rename_i hm
  split at hc
  case h_2 => cases hc
  rename_i id ops' k' ht
  cases hc
  have hctl : ctl ({ tmps := s.fr.tmps, defers := [] } : Act).eval (Item.code (Code.region id ops true) :: k) = none := rfl
  unfold astep
  simp only [hm, hctl, ht, hs, Option.map_some]
theorem gets_draw (hmix : P.follows .mixedOrders = true) {s : AS} {ops : Array Oper} {k : List Item} (hc : curDraw s = some (ops, k)) {ora : List (Nat × Ans)} {tm' : Array Value} {p : Prop} (hs : drawAllS P G ora ops s.fr.tmps s.h = some (tm', p)) (hp : p) :
    Gets P G s ⟨{ s.fr with tmps := tm', todo := k }, s.cs, s.h⟩ := gets_draw0 hmix hc (noHook_ok (P := P) (G := G)) (drawAllS_ok hs hp)
theorem gets_drawM (hmix : P.follows .mixedOrders = true) {s : AS} {ops : Array Oper} {k : List Item} (hc : curDraw s = some (ops, k)) {ora : List (Nat × Ans)} {calls : List CallA} {r : Array Value × AH} {p : Prop} (hs : drawAllM P G ora calls ops s.fr.tmps s.h = some (r, p)) (hp : p) :
    Gets P G s ⟨{ s.fr with tmps := r.1, todo := k }, s.cs, r.2⟩ := by
  obtain ⟨nest, h1, h2⟩ := drawAllM_ok hs hp
  exact gets_draw0 hmix hc h1 h2
end
end Go.AE
namespace Go.AE
open Go
section
variable {P : Program} {G : Nat} {ρ : Rho} {h : AH} {w : World}
def PerfR (P : Program) (G : Nat) (base i : Nat) (o : Oper) (tm : Array Value) (h : AH) (v : Value) (h' : AH) : Prop :=
  ∃ nest, NestOK P G nest ∧ perform P G nest base o i tm h = some (v, h')
theorem perf_aop {base i : Nat} {o : Oper} {tm : Array Value} {v : Value} {h' : AH} (hn : isAlloc o.op = false) (h1 : aop P G h (evA tm) o = some (.val v h')) : PerfR P G base i o tm h v h' := by
  refine ⟨noHook, noHook_ok, ?_⟩
  unfold perform
  split
  · rename_i t q
    rw [q] at hn
    cases hn
  · rw [h1]
theorem perf_call {base i : Nat} {o : Oper} {tm : Array Value} {v : Value} {h' : AH} {f : FuncId} {args : Array Value} (hn : isAlloc o.op = false) (h1 : aop P G h (evA tm) o = some (.enter f args)) (h2 : CSp P G f args h v h') : PerfR P G base i o tm h v h' := by
  classical
  refine ⟨fun f' a' g' => if f' = f ∧ a' = args ∧ g' = h then some (v, h') else none, fun f' a' g' v' g2 e => ?_, ?_⟩
  · dsimp only at e
    split at e
    · rename_i q
      obtain ⟨rfl, rfl, rfl⟩ := q
      cases e
      exact h2
    · cases e
  · unfold perform
    split
    · rename_i t q
      rw [q] at hn
      cases hn
    · rw [h1]
      simp
def SubH (h h' : AH) : Prop := h'.next = h.next ∧ ∀ i o, h'.get i = some o → h.get i = some o
def ADR (P : Program) (G : Nat) (base : Nat) (ops : Array Oper) (res : Array Value × AH) : Nat → Array Bool → List Held → Array Value → AH → Prop
  | 0, listed, _, tm, h => Region.ready .any ops listed = [] ∧ tm = res.1 ∧ SubH h res.2
  | f + 1, listed, gs, tm, h =>
    (Region.ready .any ops listed = [] ∧ tm = res.1 ∧ SubH h res.2) ∨
    (∃ i v g, pick P G ops listed tm h (Region.ready .any ops listed) = some (i, v, g) ∧ ADR P G base ops res f (listed.setIfInBounds i true) (g ++ gs) (putA ops i tm v) h) ∨
    (Region.ready .any ops listed ≠ [] ∧ ∀ i ∈ Region.ready .any ops listed, ∃ o v h', ops[i]? = some o ∧ Region.wanted o (yielded ops tm) = true ∧ PerfR P G base i o tm h v h' ∧
      (∀ g ∈ gs, g.wt.getD i false = true ∨ heldV h' g) ∧ ADR P G base ops res f (listed.setIfInBounds i true) (gs.filter fun g => !g.wt.getD i false) (putA ops i tm v) h')
theorem held_afterP {ρ' : Rho} {h' : AH} {w' : World} (W' : WR G ρ' h' w') (hle : ρ.le ρ') (i : Nat) : ∀ {gs : List Held} {Γ : List Watch}, HeldsR ρ gs Γ → (∀ g ∈ gs, g.wt.getD i false = true ∨ heldV h' g) →
    (∀ g ∈ Γ, g.2 i = true → g.1 w') ∧ HeldsR ρ' (gs.filter fun g => !g.wt.getD i false) (Γ.filter fun g => g.2 i)
  | [], [], _, _ => ⟨by simp, by simp [HeldsR]⟩
  | g :: gs, W :: Γ, ⟨⟨h1, b, l', h2, h3, h4⟩, hr⟩, hall => by
    obtain ⟨i1, i2⟩ := held_afterP W' hle i hr fun x hx => hall x (List.mem_cons_of_mem _ hx)
    have hW2 : W.2 i = !g.wt.getD i false := by rw [h1]
    have hg := hall g (List.mem_cons_self ..)
    refine ⟨fun V hV hVi => ?_, ?_⟩
    · rcases List.mem_cons.1 hV with rfl | hV
      · rw [hW2] at hVi
        simp only [Bool.not_eq_true'] at hVi
        rw [hVi] at hg
        rcases hg with hg | hg
        · cases hg
        · obtain ⟨l2, r1, r2, r3⟩ := cells_ok W' hg (renA_mono hle h2)
          rw [renL_mono hle _ _ h3] at r1
          cases r1
          rw [h4]
          exact r3
      · exact i1 V hV hVi
    · simp only [List.filter_cons, hW2]
      by_cases q : g.wt.getD i false = true
      · simp only [q, Bool.not_true, Bool.false_eq_true, if_false]; exact i2
      · simp only [Bool.not_eq_true] at q
        simp only [q, Bool.not_false, if_true]
        exact ⟨⟨h1, b, l', renA_mono hle h2, renL_mono hle _ _ h3, h4⟩, i2⟩
  | [], _ :: _, x, _ | _ :: _, [], x, _ => x.elim
theorem adr_ok {base : Nat} {ops : Array Oper} (hns : Region.noSelect ops = true) {ρ0 : Rho} {h0 : AH} {w0 : World} (hbase : h0.next = base) {ds : List Deferred} {res : Array Value × AH} :
    ∀ {f : Nat} {listed : Array Bool} {gs : List Held} {tm : Array Value} {h : AH}, ADR P G base ops res f listed gs tm h →
    ∀ {ρ : Rho} {a : Act} {w : World} {Γ : List Watch}, WR G ρ h w → Ext ρ0 h0 w0 ρ h w → renArr ρ tm = some a.tmps → a.defers = ds → HeldsR ρ gs Γ → (∀ g ∈ Γ, g.1 w) →
      (hasAlloc ops = true → base + ops.size ≤ h.next) → base ≤ h.next → (hasAlloc ops = true → ∀ k, k < ops.size → listed.getD k true = false → ρ.blk (base + k) = none) → wpX P .any ops (DrawQ G ρ0 h0 w0 ds res) Γ f listed a w
  | 0, listed, gs, tm, h, hd, ρ, a, w, Γ, H, E, ht, hdf, hG, hΓ, hn, hbn, hΩ => by
    unfold ADR at hd
    obtain ⟨hr, rfl, hs⟩ := hd
    exact ⟨hr, rfl, hdf, ρ, H.sub hs.1 hs.2, E.sub hs.1 hs.2, ht⟩
  | f + 1, listed, gs, tm, h, hd, ρ, a, w, Γ, H, E, ht, hdf, hG, hΓ, hn, hbn, hΩ => by
    unfold ADR at hd
    rcases hd with ⟨hr, rfl, hs⟩ | ⟨i, v, g, hp, hd⟩ | ⟨hr, hd⟩
    · exact ⟨fun _ => ⟨rfl, hdf, ρ, H.sub hs.1 hs.2, E.sub hs.1 hs.2, ht⟩, fun i hi => (by rw [hr] at hi; cases hi)⟩
    ·
      obtain ⟨hmem, o, v', wt, S, ho, hk, hv, hy, hS, hg⟩ := pick_ok (P := P) H ht hp
      obtain ⟨k1, k2⟩ := okTake_spec ho hk
      have hpd : (a.put o.dst v').defers = ds := by
        cases o.dst <;> exact hdf
      have hΩ' : hasAlloc ops = true → ∀ k, k < ops.size → (listed.setIfInBounds i true).getD k true = false → ρ.blk (base + k) = none := fun hal k hk hun => by
        refine hΩ hal k hk ?_
        by_cases q : i = k
        · subst q
          exact (mem_ready.1 hmem).1
        · rw [getD_set_ne true q] at hun; exact hun
      refine wpX_first ho (Region.noSelect_spec hns) (fun c a w q => by cases q.1) f Γ listed a w k1 k2 hmem hy hS hΓ ?_
      rcases hg with ⟨rfl, hall⟩ | ⟨g0, rfl, hg0⟩
      · have := adr_ok hns hbase hd H E (putA_ren ho ht hv) hpd hG hΓ hn hbn hΩ'
        exact wpX_imp _ _ _ _ _ _ (fun q hq => by
          rcases List.mem_cons.1 hq with rfl | hq
          · exact .inr hall
          · exact .inl hq) this
      · exact adr_ok hns hbase hd H E (putA_ren ho ht hv) hpd (Γ := (S, fun j => !wt.getD j false) :: Γ) ⟨hg0, hG⟩ (fun q hq => by
          rcases List.mem_cons.1 hq with rfl | hq
          · exact hS
          · exact hΓ q hq) hn hbn hΩ'
    ·
      refine ⟨fun q => absurd q hr, fun i hi => ?_⟩
      obtain ⟨o, v, h', ho, hw, ⟨nest, hnest, hpf⟩, hall, hrec⟩ := hd i hi
      have hw' : Region.wanted o (yielded ops a.tmps) = true := by rw [yielded_ren ht]; exact hw
      have hisz := (Array.getElem?_eq_some_iff.1 ho).1
      have hun := (mem_ready.1 hi).1
      have hal : (∃ t, o.op = .alloc t) → hasAlloc ops = true := fun ⟨t, q⟩ => by
        unfold hasAlloc
        exact Array.any_eq_true'.2 ⟨o, Array.mem_of_getElem? ho, by rw [q]⟩
      refine perform_ok hnest hpf H ht ho hw' (fun q => hΩ (hal q) i hisz hun) hbn fun ρ' v' w' W' E' hlow hnx hv' => ?_
      have E2 := (E.cast (n := base) (by omega)).trans E'
      obtain ⟨c1, c2⟩ := held_afterP W' E'.le i hG hall
      refine ⟨c1, adr_ok hns hbase hrec W' E2 (putA_ren ho (renArr_mono E'.le _ _ ht) hv') ?_ c2 (fun g hg => c1 g (List.mem_filter.1 hg).1 (List.mem_filter.1 hg).2) (fun q => Nat.le_trans (hn q) hnx) (Nat.le_trans hbn hnx) fun hala k hk hunk => ?_⟩
      · cases o.dst <;> exact hdf
      · have hki : k ≠ i := by
          rintro rfl
          have hls : k < listed.size := by
            rcases Nat.lt_or_ge k listed.size with q | q
            · exact q
            · simp [Array.getElem?_eq_none q] at hun
          simp [hls] at hunk
        have hold : listed.getD k true = false := by rw [getD_set_ne true (Ne.symm hki)] at hunk; exact hunk
        have q := hn hala
        rw [hlow k hki (by omega)]
        exact hΩ hala k hk hold
def roomH (ops : Array Oper) (h : AH) : AH := if hasAlloc ops then { h with next := h.next + ops.size } else h
open Classical in
noncomputable def oneDraw (ops : Array Oper) (tm : Array Value) (h : AH) (r : Array Value × AH) : Array Oper → Array Value → AH → Option (Array Value × AH) :=
  fun ops' tm' h' => if ops' = ops ∧ tm' = tm ∧ h' = h then some r else none
theorem oneDraw_ok (hmix : P.follows .mixedOrders = true) {ops : Array Oper} {tm : Array Value} {h : AH} {r : Array Value × AH} (hns : (Region.noSelect ops && !(ops.any fun o => isDefer o.op)) = true)
    (hd : ADR P G h.next ops r ops.size (Array.replicate ops.size false) [] tm (roomH ops h)) : DrawOK P G (oneDraw ops tm h r) := by
  intro ops1 tm1 h1 tm' h' hd1 ρ fr cs w k id H ht hm hto
  unfold oneDraw at hd1
  split at hd1
  case isFalse => cases hd1
  rename_i hc1
  obtain ⟨rfl, rfl, rfl⟩ := hc1
  cases hd1
  simp only [Bool.and_eq_true, Bool.not_eq_true', Array.any_eq_false] at hns
  obtain ⟨hns, hnd⟩ := hns
  have hnd' : ∀ (j : Nat) (o : Oper) c, ops1[j]? = some o → o.op ≠ .defer c := fun j o c hj q => by
    obtain ⟨hlt, e⟩ := Array.getElem?_eq_some_iff.1 hj
    have := hnd j hlt
    rw [e, q] at this
    simp [isDefer] at this
  let w1 : World := { w with drawn := w.drawn + 1 }
  have H1 : WR G ρ h1 w1 := H.drawn _
  have E1 : Ext ρ h1 w ρ h1 w1 := Ext.drawn _ _ _ _
  have hX : wpX P .any ops1 (DrawQ G ρ h1 w fr.defers (tm', h')) [] ops1.size (Array.replicate ops1.size false) ⟨fr.tmps, fr.defers⟩ w1 :=
    by
      unfold roomH at hd
      by_cases hal : hasAlloc ops1 = true
      · rw [if_pos hal] at hd
        exact adr_ok hns rfl hd (H1.cast (n := h1.next + ops1.size) (by omega)) (E1.cast (n := h1.next + ops1.size) (by omega)) ht rfl (Γ := []) (by exact trivial) (by simp) (fun _ => Nat.le_refl _) (by simp) (fun _ k _ _ => H.fresh _ (by omega))
      · rw [if_neg hal] at hd
        exact adr_ok hns rfl hd H1 E1 ht rfl (Γ := []) (by exact trivial) (by simp) (fun q => absurd q hal) (Nat.le_refl _) (fun q => absurd q hal)
  have hA := wpAny_of_X _ _ _ _ _ hX
  have hO := wpAny_sound ops1.size (w.tape w.drawn (.order fr.fn id)) _ _ _ hA
  obtain ⟨fn, tmps, todo, defers, mode, kind, ro⟩ := fr
  simp only at hto hm hO
  subst hto
  subst hm
  obtain ⟨a', w', ⟨_, hdf, ρ', q1, q2, q3⟩, hst⟩ := gen_ops hnd' (fun e a w hq => hq.1) (fn := fn) (kind := kind) (ro := ro) (k := k) (cs := cs) _ _ _ _ hO
  refine ⟨ρ', a'.tmps, w', q1, q2, q3, .head ?_ (by simpa [hdf] using hst)⟩
  refine step_lone_go ?_
  simp only [stepG, stepG.exec]
  simp [choose, Sem.run, Question.forced, Question.cut, Region.schedule, hmix, Region.linearise]
  rfl
theorem gets_drawR (hmix : P.follows .mixedOrders = true) {s : AS} {ops : Array Oper} {k : List Item} (hc : curDraw s = some (ops, k)) {r : Array Value × AH} (hns : (Region.noSelect ops && !(ops.any fun o => isDefer o.op)) = true)
    (hd : ADR P G s.h.next ops r ops.size (Array.replicate ops.size false) [] s.fr.tmps (roomH ops s.h)) : Gets P G s ⟨{ s.fr with tmps := r.1, todo := k }, s.cs, r.2⟩ := fun _ _ _ _ _ H => by
  refine astep_ok (noHook_ok (P := P) (G := G)) (oneDraw_ok hmix hns hd) H ?_
  have hone : oneDraw ops s.fr.tmps s.h r ops s.fr.tmps s.h = some r := by
    unfold oneDraw
    rw [if_pos ⟨rfl, rfl, rfl⟩]
  unfold curDraw at hc
  split at hc
  case h_2 => cases hc
  rename_i hm
  split at hc
  case h_2 => cases hc
  rename_i id ops' k' ht
  cases hc
  have hctl : ctl ({ tmps := s.fr.tmps, defers := [] } : Act).eval (Item.code (Code.region id ops true) :: k) = none := rfl
  unfold astep
  simp only [hm, hctl, ht, hone, Option.map_some]
structure EndD where
  tm : Array Value
  next : Nat
  l : List (Nat × AObj)
def endEq (E : EndD) (tm : Array Value) (h : AH) : Prop := (tm, h.next, E.l.map fun x => h.get x.1) = (E.tm, E.next, E.l.map fun x => some x.2)
def endT (E : EndD) : Prop := (E.tm, E.next, E.l.map fun x => some x.2) = (E.tm, E.next, E.l.map fun x => some x.2)
def heldPs (i : Nat) (h h' : AH) : List Held → Prop
  | [] => True
  | g :: gs => if g.wt.getD i false then heldPs i h h' gs else (h'.get g.a.block = h.get g.a.block ∧ heldPs i h h' gs)
def drawBs (P : Program) (G : Nat) (base : Nat) (ora : List (Nat × Ans)) (calls : List CallA) (ops : Array Oper) (rec_ : Nat → List Held → Array Value → AH → Option Prop) (gs : List Held) (tm : Array Value) (h : AH) : List Nat → Option Prop
  | [] => some True
  | r :: rs =>
    match drawBs P G base ora calls ops rec_ gs tm h rs, ops[r]? with
    | some qs, some o => if Region.wanted o (yielded ops tm) then
        if isAlloc o.op then match perform P G noHook base o r tm h with
          | some (v, h') => match rec_ r (gs.filter fun g => !g.wt.getD r false) (putA ops r tm v) h' with
            | some q => some ((heldPs r h h' gs ∧ q) ∧ qs)
            | none => none
          | none => none
        else
        match calls.find? (fun c => Nat.beq c.i r) with
        | some c => match aop P G h (evA tm) o with
          | some (.enter fn args) =>
            match rec_ r (gs.filter fun g => !g.wt.getD r false) (putA ops r tm c.v) (pushAll (putAll h c.writes) c.news) with
            | some q => some ((FSp P G fn args h.next (c.ids.filterMap fun i => (h.get i).map fun o => (i, o)) c.v c.writes c.news ∧ heldPs r h (pushAll (putAll h c.writes) c.news) gs ∧ q) ∧ qs)
            | none => none
          | _ => none
        | none => match (match ora.find? (fun x => Nat.beq x.1 r) with | some x => sop P G h (evA tm) o x.2 | none => (aop P G h (evA tm) o).map fun r => (r, True)) with
          | some (.val v h', p) => match rec_ r (gs.filter fun g => !g.wt.getD r false) (putA ops r tm v) h' with
            | some q => some ((p ∧ heldPs r h h' gs ∧ q) ∧ qs)
            | none => none
          | _ => none
      else none
    | _, _ => none
def drawB (P : Program) (G : Nat) (base : Nat) (ora : List (Nat × Ans)) (calls : List CallA) (E : EndD) (ops : Array Oper) : Nat → Array Bool → List Held → Array Value → AH → Option Prop
  | 0, listed, _, tm, h => if (Region.ready .any ops listed).isEmpty then some (endEq E tm h) else none
  | f + 1, listed, gs, tm, h =>
    match Region.ready .any ops listed with
    | [] => some (endEq E tm h)
    | r :: rs => match pickS P G ora ops listed tm h (r :: rs) with
      | some (i, v, g, p) => (drawB P G base ora calls E ops f (listed.setIfInBounds i true) (g ++ gs) (putA ops i tm v) h).map fun q => p ∧ q
      | none => drawBs P G base ora calls ops (fun i gs tm h => drawB P G base ora calls E ops f (listed.setIfInBounds i true) gs tm h) gs tm h (r :: rs)
theorem heldPs_ok {i : Nat} {h h' : AH} : ∀ {gs : List Held}, heldPs i h h' gs → (∀ g ∈ gs, heldV h g) → ∀ g ∈ gs, g.wt.getD i false = true ∨ heldV h' g
  | [], _, _, g, hg => by cases hg
  | x :: gs, hp, hv, g, hg => by
    unfold heldPs at hp
    split at hp
    · rename_i hw
      rcases List.mem_cons.1 hg with rfl | hg
      · exact .inl hw
      · exact heldPs_ok hp (fun y hy => hv y (List.mem_cons_of_mem _ hy)) g hg
    · rcases List.mem_cons.1 hg with rfl | hg
      · right
        have := hv g (List.mem_cons_self ..)
        unfold heldV acells at this ⊢
        rw [hp.1]
        exact this
      · exact heldPs_ok hp.2 (fun y hy => hv y (List.mem_cons_of_mem _ hy)) g hg
theorem endEq_ok {E : EndD} {tm : Array Value} {h : AH} (he : endEq E tm h) : tm = E.tm ∧ SubH h (mkH E.next E.l) := by
  unfold endEq at he
  simp only [Prod.mk.injEq] at he
  obtain ⟨h1, h2, h3⟩ := he
  refine ⟨h1, ?_, fun i o e => ?_⟩
  · rw [h2]; exact mkH_next _ E.l _ rfl
  · rcases mkH_get E.l _ i o e with q | q
    · obtain ⟨j, hj, e⟩ := List.mem_iff_getElem.1 q
      have := congrArg (fun (m : List (Option AObj)) => m[j]?) h3
      simp [List.getElem?_eq_getElem hj, e] at this
      exact this
    · simp [AH.get, T.get] at q
theorem drawBs_ok {base : Nat} {ora : List (Nat × Ans)} {calls : List CallA} {ops : Array Oper} {rec_ : Nat → List Held → Array Value → AH → Option Prop} {R : Nat → List Held → Array Value → AH → Prop} {gs : List Held} {tm : Array Value} {h : AH} (hv : ∀ g ∈ gs, heldV h g)
    (hR : ∀ i gs tm h q, rec_ i gs tm h = some q → q → (∀ g ∈ gs, heldV h g) → R i gs tm h) : ∀ (rs : List Nat) {p : Prop}, drawBs P G base ora calls ops rec_ gs tm h rs = some p → p →
    ∀ i ∈ rs, ∃ o v h', ops[i]? = some o ∧ Region.wanted o (yielded ops tm) = true ∧ PerfR P G base i o tm h v h' ∧
      (∀ g ∈ gs, g.wt.getD i false = true ∨ heldV h' g) ∧ R i (gs.filter fun g => !g.wt.getD i false) (putA ops i tm v) h'
  | [], p, hs, hp, i, hi => by cases hi
  | r :: rs, p, hs, hp, i, hi => by
    unfold drawBs at hs
    split at hs
    case h_2 => cases hs
    rename_i qs o hqs ho
    split at hs
    case isFalse => cases hs
    rename_i hcond
    have keep : ∀ {h' : AH}, heldPs r h h' gs → ∀ g ∈ gs.filter (fun g => !g.wt.getD r false), heldV h' g := fun hk g hg => by
      obtain ⟨hm, hw⟩ := List.mem_filter.1 hg
      rcases heldPs_ok hk hv g hm with q | q
      · rw [q] at hw; cases hw
      · exact q
    split at hs
    · split at hs
      case h_2 => cases hs
      rename_i v h' hpf
      split at hs
      case h_2 => cases hs
      rename_i q hq
      cases hs
      obtain ⟨⟨p2, p3⟩, p4⟩ := hp
      rcases List.mem_cons.1 hi with rfl | hi
      · exact ⟨o, v, h', ho, hcond, ⟨noHook, noHook_ok, hpf⟩, heldPs_ok p2 hv, hR _ _ _ _ _ hq p3 (keep p2)⟩
      · exact drawBs_ok hv hR rs hqs p4 i hi
    rename_i hnal
    have hnal' : isAlloc o.op = false := by simpa using hnal
    split at hs
    · rename_i c hc
      split at hs
      case h_2 => cases hs
      rename_i fn args ha
      split at hs
      case h_2 => cases hs
      rename_i q hq
      cases hs
      obtain ⟨⟨p1, p2, p3⟩, p4⟩ := hp
      rcases List.mem_cons.1 hi with rfl | hi
      · refine ⟨o, c.v, _, ho, hcond, perf_call hnal' ha (p1 h rfl fun z hz => ?_), heldPs_ok p2 hv, hR _ _ _ _ _ hq p3 (keep p2)⟩
        obtain ⟨j, _, hj⟩ := List.mem_filterMap.1 hz
        obtain ⟨o, ho, rfl⟩ := Option.map_eq_some_iff.1 hj
        exact ho
      · exact drawBs_ok hv hR rs hqs p4 i hi
    · split at hs
      case h_2 => cases hs
      rename_i v h' p0 hop
      split at hs
      case h_2 => cases hs
      rename_i q hq
      cases hs
      obtain ⟨⟨p1, p2, p3⟩, p4⟩ := hp
      rcases List.mem_cons.1 hi with rfl | hi
      · have hao : aop P G h (evA tm) o = some (.val v h') := by
          split at hop
          · exact sop_ok hop p1
          · obtain ⟨r1, e1, e2⟩ := Option.map_eq_some_iff.1 hop
            cases e2
            exact e1
        exact ⟨o, v, h', ho, hcond, perf_aop hnal' hao, heldPs_ok p2 hv, hR _ _ _ _ _ hq p3 (keep p2)⟩
      · exact drawBs_ok hv hR rs hqs p4 i hi
theorem drawB_ok {base : Nat} {ora : List (Nat × Ans)} {calls : List CallA} {E : EndD} {ops : Array Oper} : ∀ (f : Nat) {listed : Array Bool} {gs : List Held} {tm : Array Value} {h : AH} {p : Prop}, drawB P G base ora calls E ops f listed gs tm h = some p → p → (∀ g ∈ gs, heldV h g) →
    ADR P G base ops (E.tm, mkH E.next E.l) f listed gs tm h
  | 0, listed, gs, tm, h, p, hs, hp, hv => by
    unfold drawB at hs
    split at hs
    case isFalse => cases hs
    rename_i hr
    cases hs
    unfold ADR
    exact ⟨by simpa using hr, endEq_ok hp⟩
  | f + 1, listed, gs, tm, h, p, hs, hp, hv => by
    unfold drawB at hs
    unfold ADR
    split at hs
    · rename_i hr
      cases hs
      exact .inl ⟨hr, endEq_ok hp⟩
    rename_i r rs hr
    split at hs
    · rename_i i v g p1 hpk
      obtain ⟨q, hq, rfl⟩ := Option.map_eq_some_iff.1 hs
      refine .inr (.inl ⟨i, v, g, ?_, drawB_ok f hq hp.2 fun x hx => ?_⟩)
      · rw [hr]; exact pickS_ok hpk hp.1
      · rcases List.mem_append.1 hx with y | y
        · exact pick_held (pickS_ok hpk hp.1) x y
        · exact hv x y
    · refine .inr (.inr ⟨by rw [hr]; simp, fun i hi => ?_⟩)
      rw [hr] at hi
      exact drawBs_ok (R := fun i gs tm h => ADR P G base ops (E.tm, mkH E.next E.l) f (listed.setIfInBounds i true) gs tm h) hv (fun i gs tm h q hq hp hv => drawB_ok f hq hp hv) (r :: rs) hs hp i hi
def drawAllB (P : Program) (G : Nat) (ora : List (Nat × Ans)) (calls : List CallA) (E : EndD) (ops : Array Oper) (tm : Array Value) (h : AH) : Option Prop :=
  if Region.noSelect ops && !(ops.any fun o => isDefer o.op) then drawB P G h.next ora calls E ops ops.size (Array.replicate ops.size false) [] tm (roomH ops h) else none
theorem gets_drawB (hmix : P.follows .mixedOrders = true) {s : AS} {ops : Array Oper} {k : List Item} (hc : curDraw s = some (ops, k)) {ora : List (Nat × Ans)} {calls : List CallA} {E : EndD} {p : Prop} (hs : drawAllB P G ora calls E ops s.fr.tmps s.h = some p) (hp : p) :
    Gets P G s ⟨{ s.fr with tmps := E.tm, todo := k }, s.cs, mkH E.next E.l⟩ := by
  unfold drawAllB at hs
  split at hs
  case isFalse => cases hs
  rename_i hns
  exact gets_drawR hmix hc hns (drawB_ok _ hs hp fun g hg => by cases hg)
end
end Go.AE
namespace Go.AE
open Go
inductive Ev where
  | stay
  | op (a : Ans)
  | drw (ora : List (Nat × Ans))
  | drwM (ora : List (Nat × Ans)) (calls : List CallA)
  | drwB (ora : List (Nat × Ans)) (calls : List CallA) (e : EndD)
  | call (ids : List Nat) (v : Value) (writes : List (Nat × Option AObj)) (news : List AObj)
section
variable {P : Program} {G : Nat}
def srun (P : Program) (G : Nat) (hk : FuncId → Array Value → AH → Option (Value × AH)) (draw : Array Oper → Array Value → AH → Option (Array Value × AH)) : List (Nat × Ev) → AS → Option (AS × Prop)
  | [], s => some (s, True)
  | x :: l, s => match iter (astep P G hk draw) x.1 s with
    | none => none
    | some s1 => match x.2 with
      | .stay => srun P G hk draw l s1
      | .drw ora => match curDraw s1 with
        | some (ops, k) => match drawAllS P G ora ops s1.fr.tmps s1.h with
          | some (tm, p) => match srun P G hk draw l ⟨{ s1.fr with tmps := tm, todo := k }, s1.cs, s1.h⟩ with
            | some (s2, q) => some (s2, p ∧ q)
            | none => none
          | none => none
        | none => none
      | .drwM ora calls => match curDraw s1 with
        | some (ops, k) => match drawAllM P G ora calls ops s1.fr.tmps s1.h with
          | some (r, p) => match srun P G hk draw l ⟨{ s1.fr with tmps := r.1, todo := k }, s1.cs, r.2⟩ with
            | some (s2, q) => some (s2, p ∧ q)
            | none => none
          | none => none
        | none => none
      | .drwB ora calls e => match curDraw s1 with
        | some (ops, k) => match drawAllB P G ora calls e ops s1.fr.tmps s1.h with
          | some p => match srun P G hk draw l ⟨{ s1.fr with tmps := e.tm, todo := k }, s1.cs, mkH e.next e.l⟩ with
            | some (s2, q) => some (s2, p ∧ q)
            | none => none
          | none => none
        | none => none
      | .call ids v writes news => match curOp s1 with
        | some o => match aop P G s1.h ({ tmps := s1.fr.tmps, defers := [] } : Act).eval o with
          | some (.enter f args) => match srun P G hk draw l ⟨s1.fr.finish v, s1.cs, pushAll (putAll s1.h writes) news⟩ with
            | some (s2, q) => some (s2, FSp P G f args s1.h.next (ids.filterMap fun i => (s1.h.get i).map fun o => (i, o)) v writes news ∧ q)
            | none => none
          | _ => none
        | none => none
      | .op a => match curOp s1 with
        | some o => match sop P G s1.h ({ tmps := s1.fr.tmps, defers := [] } : Act).eval o a with
          | some (r, p) => match aopstep P noHook s1.fr s1.cs s1.h r with
            | some s2 => match srun P G hk draw l s2 with
              | some (s3, q) => some (s3, p ∧ q)
              | none => none
            | none => none
          | none => none
        | none => none
theorem srun_ok (hmix : P.follows .mixedOrders = true) {hk : FuncId → Array Value → AH → Option (Value × AH)} (hhk : NestOK P G hk) {draw : Array Oper → Array Value → AH → Option (Array Value × AH)} (hdraw : DrawOK P G draw) :
    ∀ {l : List (Nat × Ev)} {s s' : AS} {p : Prop}, srun P G hk draw l s = some (s', p) → p → Gets P G s s' := by
  intro l
  induction l with
  | nil =>
    intro s s' p h _
    simp only [srun] at h
    cases h
    exact Gets.refl s
  | cons x l ih =>
    intro s s' p h hp
    simp only [srun] at h
    split at h
    · cases h
    rename_i s1 hi
    refine (reach_iter hhk hdraw hi).trans ?_
    split at h
    · exact ih h hp
    · split at h
      case h_2 => cases h
      rename_i ops k hc
      split at h
      case h_2 => cases h
      rename_i tm p1 hd
      split at h
      case h_2 => cases h
      rename_i s2 q hq
      cases h
      exact (gets_draw hmix hc hd hp.1).trans (ih hq hp.2)
    · split at h
      case h_2 => cases h
      rename_i ops k hc
      split at h
      case h_2 => cases h
      rename_i tm p1 hd
      split at h
      case h_2 => cases h
      rename_i s2 q hq
      cases h
      exact (gets_drawM hmix hc hd hp.1).trans (ih hq hp.2)
    · split at h
      case h_2 => cases h
      rename_i ops k hc
      split at h
      case h_2 => cases h
      rename_i p1 hd
      split at h
      case h_2 => cases h
      rename_i s2 q hq
      cases h
      exact (gets_drawB hmix hc hd hp.1).trans (ih hq hp.2)
    · rename_i ids v writes news hx
      split at h
      case h_2 => cases h
      rename_i o ho
      split at h
      case h_2 => cases h
      rename_i f args ha
      split at h
      case h_2 => cases h
      rename_i s2 q hq
      cases h
      refine (reach_call ho ha (hp.1 s1.h rfl fun z hz => ?_)).trans (ih hq hp.2)
      obtain ⟨i, _, hi⟩ := List.mem_filterMap.1 hz
      obtain ⟨o, ho, rfl⟩ := Option.map_eq_some_iff.1 hi
      exact ho
    · split at h
      case h_2 => cases h
      rename_i o ho
      split at h
      case h_2 => cases h
      rename_i r p1 hr
      split at h
      case h_2 => cases h
      rename_i s2 hs2
      split at h
      case h_2 => cases h
      rename_i s3 q hq
      cases h
      exact (reach_op ho (sop_ok hr hp.1) hs2).trans (ih hq hp.2)
theorem seg_reach (hmix : P.follows .mixedOrders = true) {hk : FuncId → Array Value → AH → Option (Value × AH)} (hhk : NestOK P G hk) {draw : Array Oper → Array Value → AH → Option (Array Value × AH)} (hdraw : DrawOK P G draw) {sc : List (Nat × Ev)} {s : AS} {fr1 : Frame} {cs1 : List Frame} {next : Nat} {l : List (Nat × AObj)} {p : Prop}
    (h : (srun P G hk draw sc s).map (fun r => (look (l.map (·.1)) r.1, r.2)) = some ((fr1, cs1, next, l.map fun x => some x.2), p)) (hp : p) : Gets P G s ⟨fr1, cs1, mkH next l⟩ := by
  obtain ⟨⟨s', q⟩, h1, h2⟩ := Option.map_eq_some_iff.1 h
  simp only [Prod.mk.injEq] at h2
  obtain ⟨h2, rfl⟩ := h2
  exact reach_look (srun_ok hmix hhk hdraw h1 hp) h2
theorem seg_fin (hmix : P.follows .mixedOrders = true) {hk : FuncId → Array Value → AH → Option (Value × AH)} (hhk : NestOK P G hk) {draw : Array Oper → Array Value → AH → Option (Array Value × AH)} (hdraw : DrawOK P G draw) {sc : List (Nat × Ev)} {s : AS} {f : FuncId} {args : Array Value} {h0 : AH} {v : Value} {next : Nat} {l : List (Nat × AObj)} {p : Prop}
    (h : (srun P G hk draw sc s).bind (fun r => (fin P (l.map (·.1)) r.1).map fun q => (q, r.2)) = some ((v, f, next, l.map fun x => some x.2), p)) (hp : p) (hr : Gets P G ⟨Frame.enter P f args .normal, [], h0⟩ s) : CSp P G f args h0 v (mkH next l) := by
  obtain ⟨⟨s', q⟩, h1, h2⟩ := Option.bind_eq_some_iff.1 h
  obtain ⟨r, h3, h4⟩ := Option.map_eq_some_iff.1 h2
  simp only [Prod.mk.injEq] at h4
  obtain ⟨rfl, rfl⟩ := h4
  exact spec_of_fin (hr.trans (srun_ok hmix hhk hdraw h1 hp)) h3
end
end Go.AE
namespace Go.AE
open Go
section
variable {P : Program} {G : Nat}
theorem WR.growN {ρ : Rho} {h : AH} {w : World} (H : WR G ρ h w) (os : Array Obj) (k : Nat) : WR G ρ h (Sort.grow (w.drewN k) os) := by
  refine ⟨fun i o e => ?_, H.fresh, H.inj, H.glob, H.gp⟩
  obtain ⟨b, x, h1, h2, h3⟩ := H.obj i o e
  refine ⟨b, x, h1, ?_, h3⟩
  have hb := (Array.getElem?_eq_some_iff.1 h2).1
  simp only [Sort.grow, World.drewN]
  rw [Array.getElem?_append_left hb, h2]
theorem Ext.growN (ρ : Rho) (h : AH) (w : World) (os : Array Obj) (k : Nat) : Ext ρ h w ρ h (Sort.grow (w.drewN k) os) := by
  refine ⟨Rho.le_refl ρ, fun _ _ => rfl, Nat.le_refl _, ?_, fun b hb _ => ?_, fun _ _ h => h, rfl, rfl, rfl⟩
  · simp only [Sort.grow, World.drewN, Array.size_append]; omega
  · simp only [Sort.grow, World.drewN]
    rw [Array.getElem?_append_left hb]
theorem csp_of_calls {f : FuncId} {args : Array Value} {v : Value} {h : AH} (ha : closedArr args = true) (hv : closed v = true)
    (HC : ∀ (ρ : Rho) (w : World), WR G ρ h w → Calls P f args w fun e w' => e = .returned v ∧ ∃ k os, w' = Sort.grow (w.drewN k) os) : CSp P G f args h v h := by
  intro ρ w args' hw hr
  rw [closedArr_ren ρ args ha] at hr
  cases hr
  refine (HC ρ w hw).mono ?_
  rintro e w' ⟨rfl, k, os, rfl⟩
  exact ⟨ρ, v, rfl, hw.growN os k, Ext.growN ρ h w os k, closed_ren ρ v hv⟩
theorem tab_of_WR {ρ : Rho} {h : AH} {w : World} (H : WR G ρ h w) {g : Nat} (hg : g < G) {name : String} (hn : P.globalNamed name = some g) {k : IntKind} {zs : List Int} {t : TypeId} {ro : Bool} (hh : h.get g = some (.cells (zs.map fun z => Value.int k z) t none ro)) : Lib.TabIs P w name k zs := by
  obtain ⟨b, x, h1, h2, h3⟩ := H.obj _ _ hh
  rw [(H.glob g hg).1] at h1
  cases h1
  cases x <;> simp only [ObjR] at h3
  rename_i arr t' fz
  obtain ⟨_, ⟨c', tail, r1, r2, r3⟩, _, _, _⟩ := h3
  have hcl : closedL (zs.map fun z => Value.int k z) = true := by
    clear hh r2
    induction zs with
    | nil => rfl
    | cons z zs ih => simpa [closedL, closed] using ih
  rw [closedL_ren ρ _ hcl] at r2
  cases r2
  rw [r3 trivial, List.append_nil] at r1
  unfold Lib.TabIs World.var?
  rw [hn]
  simp only [Option.bind_some, h2]
  exact congrArg some (Array.ext' (by simpa using r1))
theorem fsp_glob {f : FuncId} {args args' : Array Value} {v v' : Value} {hf : AH} (gl : List (Nat × AObj)) (bs : List Nat) (os ps : List AObj) (keep : List Nat) (qs : List AObj) (n : Nat)
    (S : CSp P G f args (mkH (G + bs.length) (gl ++ canonFrom G os)) v hf) (hgl : gl.all (fun x => Nat.blt x.1 G && flat x.2) = true) (hgf : gl.map (fun x => hf.get x.1) = gl.map fun x => some x.2) (hos : os.length = bs.length)
    (hps : (List.range bs.length).map (fun i => hf.get (G + i)) = ps.map some) (hqs : keep.map hf.get = qs.map some)
    (hnd : bs.Nodup) (hb : ∀ b ∈ bs, G ≤ b ∧ b < n) (hGn : G ≤ n) (fo : os.all flat = true) (fp : ps.all flat = true) (fq : qs.all (fun o => flat o && !o.ro) = true) (hk : keep.Nodup) (hkn : ∀ i ∈ keep, G + bs.length ≤ i)
    (hv : good (okI (G + bs.length) keep) v = true) (ea : mvArr (tauL G bs n) args = args') (ev : mv (tau' (G + bs.length) (tauL G bs n) keep n) v = v') :
    FSp P G f args' n (gl ++ bs.zip os) v' (gl.map (fun x => (x.1, some x.2)) ++ bs.zip (ps.map some)) qs := by
  have hpl : ps.length = bs.length := by
    have := congrArg List.length hps
    simpa using this.symm
  have hpg : ∀ i, i < bs.length → hf.get (G + i) = ps[i]? := fun i hi => by
    have h1 := congrArg (fun l : List (Option AObj) => l[i]?) hps
    simp only [List.getElem?_map] at h1
    rw [List.getElem?_range hi] at h1
    simp only [Option.map_some] at h1
    rw [List.getElem?_eq_getElem (by omega)] at h1 ⊢
    simpa using h1
  have hqg : ∀ i ∈ keep, ∃ o, hf.get i = some o ∧ o ∈ qs := fun i hi => by
    have : hf.get i ∈ keep.map hf.get := List.mem_map.2 ⟨i, hi, rfl⟩
    rw [hqs] at this
    obtain ⟨o, h1, h2⟩ := List.mem_map.1 this
    exact ⟨o, h2.symm, h1⟩
  have hglm : ∀ x ∈ gl, x.1 < G ∧ flat x.2 = true ∧ hf.get x.1 = some x.2 := fun x hx => by
    have h1 := List.all_eq_true.1 hgl x hx
    simp only [Bool.and_eq_true, Nat.blt_eq] at h1
    refine ⟨h1.1, h1.2, ?_⟩
    obtain ⟨i, hi, rfl⟩ := List.mem_iff_getElem.1 hx
    have := congrArg (fun (l : List (Option AObj)) => l[i]?) hgf
    simpa [List.getElem?_eq_getElem hi] using this
  have hfo : ∀ o ∈ os, flat o = true := fun o ho => List.all_eq_true.1 fo o ho
  have hfp : ∀ o ∈ ps, flat o = true := fun o ho => List.all_eq_true.1 fp o ho
  have hfq : ∀ o ∈ qs, flat o = true ∧ o.ro = false := fun o ho => by
    have := List.all_eq_true.1 fq o ho
    simpa using this
  have htau : ∀ i, i < bs.length → tauL G bs n (G + i) = bs.getD i 0 := fun i hi => by
    have h1 : ¬ G + i < G := by omega
    have h2 : G + i - G = i := by omega
    simp only [tauL, blt_false h1, Bool.false_eq_true, if_false, h2, List.getElem?_eq_getElem hi, List.getD, Option.getD_some]
  have htg : ∀ g, g < G → tauL G bs n g = g := fun g hg => by simp [tauL, blt_true hg]
  have hmem : ∀ x ∈ canonFrom G os, ∃ i, i < bs.length ∧ os[i]? = some x.2 ∧ x.1 = G + i ∧ tauL G bs n x.1 = bs.getD i 0 := fun x hx => by
    obtain ⟨i, h1, h2⟩ := (canon_mem os G x).1 hx
    have hi : i < bs.length := by rw [← hos]; exact (List.getElem?_eq_some_iff.1 h1).1
    exact ⟨i, hi, h1, h2, by rw [h2, htau i hi]⟩
  have hbm : ∀ i, i < bs.length → bs.getD i 0 ∈ bs := fun i hi => by
    simp only [List.getD, List.getElem?_eq_getElem hi, Option.getD_some]
    exact List.getElem_mem hi
  have R := fspec_of_spec (nc := G + bs.length) (L := gl ++ canonFrom G os) S (tauL G bs n) keep n (by omega) hGn htg
    (fun i hi => by
      have h1 : ¬ i < G := by omega
      have h2 : bs[i - G]? = none := List.getElem?_eq_none (by omega)
      simp only [tauL, blt_false h1, Bool.false_eq_true, if_false, h2]
      omega)
    (fun x hx => by
      rcases List.mem_append.1 hx with hx | hx
      · obtain ⟨h1, h2, _⟩ := hglm x hx
        exact ⟨flat_plain h2, by omega, by rw [htg _ h1]; omega⟩
      · obtain ⟨i, hi, h1, h2, h3⟩ := hmem x hx
        exact ⟨flat_plain (hfo _ (List.mem_of_getElem? h1)), by omega, by rw [h3]; exact (hb _ (hbm i hi)).2⟩)
    (fun x hx y hy e => by
      rcases List.mem_append.1 hx with hx | hx <;> rcases List.mem_append.1 hy with hy | hy
      · rw [htg _ (hglm x hx).1, htg _ (hglm y hy).1] at e; exact e
      · obtain ⟨j, hj, _, h4, h5⟩ := hmem y hy
        rw [htg _ (hglm x hx).1, h5] at e
        have := (hb _ (hbm j hj)).1
        have := (hglm x hx).1
        omega
      · obtain ⟨j, hj, _, h4, h5⟩ := hmem x hx
        rw [htg _ (hglm y hy).1, h5] at e
        have := (hb _ (hbm j hj)).1
        have := (hglm y hy).1
        omega
      · obtain ⟨i, hi, _, h2, h3⟩ := hmem x hx
        obtain ⟨j, hj, _, h4, h5⟩ := hmem y hy
        rw [h3, h5] at e
        simp only [List.getD, List.getElem?_eq_getElem hi, List.getElem?_eq_getElem hj, Option.getD_some] at e
        have a1 := hnd.idxOf_getElem i hi
        have a2 := hnd.idxOf_getElem j hj
        rw [e] at a1
        omega)
    hv
    (fun x hx o ho => by
      rcases List.mem_append.1 hx with hx | hx
      · obtain ⟨_, h2, h3⟩ := hglm x hx
        rw [h3] at ho
        cases ho
        exact flat_good _ h2
      · obtain ⟨i, hi, _, h2, _⟩ := hmem x hx
        rw [h2, hpg i hi] at ho
        exact flat_good _ (hfp o (List.mem_of_getElem? ho)))
    hk
    (fun i hi => by
      obtain ⟨o, h1, h2⟩ := hqg i hi
      exact ⟨hkn i hi, o, h1, flat_good _ (hfq o h2).1, (hfq o h2).2⟩)
  refine R.cast ea ?_ ev ?_ ?_
  · rw [List.map_append]
    congr 1
    · have : ∀ l : List (Nat × AObj), (∀ x ∈ l, x.1 < G ∧ flat x.2 = true) → l.map (fun x => (tauL G bs n x.1, mvO (tauL G bs n) x.2)) = l := by
        intro l
        induction l with
        | nil => intro _; rfl
        | cons x l ih =>
          intro hl
          obtain ⟨h1, h2⟩ := hl x (List.mem_cons_self ..)
          rw [List.map_cons, ih fun y hy => hl y (List.mem_cons_of_mem _ hy), htg _ h1, flat_mv _ h2]
      exact this gl fun x hx => ⟨(hglm x hx).1, (hglm x hx).2.1⟩
    · rw [canon_map os G fun a b => (tauL G bs n a, mvO (tauL G bs n) b)]
      refine List.ext_getElem? fun i => ?_
      rcases Nat.lt_or_ge i bs.length with hi | hi
      · have ho : i < os.length := by omega
        simp only [List.getElem?_map, List.getElem?_zipIdx, List.getElem?_eq_getElem ho, Option.map_some, Nat.zero_add, htau i hi, flat_mv _ (hfo _ (List.getElem_mem ho))]
        rw [List.getElem?_eq_getElem (by simp; omega)]
        simp [List.getD, List.getElem?_eq_getElem hi]
      · rw [List.getElem?_eq_none (by simp; omega), List.getElem?_eq_none (by simp; omega)]
  · rw [List.map_append]
    congr 1
    · have : ∀ l : List (Nat × AObj), (∀ x ∈ l, x.1 < G ∧ flat x.2 = true ∧ hf.get x.1 = some x.2) → l.map (fun x => (tauL G bs n x.1, (hf.get x.1).map (mvO (tau' (G + bs.length) (tauL G bs n) keep n)))) = l.map fun x => (x.1, some x.2) := by
        intro l
        induction l with
        | nil => intro _; rfl
        | cons x l ih =>
          intro hl
          obtain ⟨h1, h2, h3⟩ := hl x (List.mem_cons_self ..)
          rw [List.map_cons, List.map_cons, ih fun y hy => hl y (List.mem_cons_of_mem _ hy), htg _ h1, h3, Option.map_some, flat_mv _ h2]
      exact this gl hglm
    · rw [canon_map os G fun a b => (tauL G bs n a, (hf.get a).map (mvO (tau' (G + bs.length) (tauL G bs n) keep n)))]
      refine List.ext_getElem? fun i => ?_
      rcases Nat.lt_or_ge i bs.length with hi | hi
      · have ho : i < os.length := by omega
        have hp : i < ps.length := by omega
        simp only [List.getElem?_map, List.getElem?_zipIdx, List.getElem?_eq_getElem ho, Option.map_some, Nat.zero_add, htau i hi, hpg i hi, List.getElem?_eq_getElem hp, flat_mv _ (hfp _ (List.getElem_mem hp))]
        rw [List.getElem?_eq_getElem (by simp; omega)]
        simp [List.getD, List.getElem?_eq_getElem hi]
      · rw [List.getElem?_eq_none (by simp; omega), List.getElem?_eq_none (by simp; omega)]
  · have : ∀ (l : List Nat) (q : List AObj), l.map hf.get = q.map some → (∀ o ∈ q, flat o = true) → l.filterMap (fun i => (hf.get i).map (mvO (tau' (G + bs.length) (tauL G bs n) keep n))) = q := by
      intro l
      induction l with
      | nil => intro q h _; cases q <;> simp at h; rfl
      | cons i l ih =>
        intro q h hq
        cases q with
        | nil => simp at h
        | cons o q =>
          simp only [List.map_cons, List.cons.injEq] at h
          simp only [List.filterMap_cons, h.1, Option.map_some, flat_mv _ (hq o (List.mem_cons_self ..))]
          rw [ih q h.2 fun o ho => hq o (List.mem_cons_of_mem _ ho)]
    exact this keep qs hqs fun o ho => (hfq o ho).1
end
end Go.AE
namespace Go.AE
open Go
theorem fsp_move {P : Program} {G : Nat} {f : FuncId} {args args' : Array Value} {v v' : Value} {hf : AH} {os' ps' qs' : List AObj} (bs : List Nat) (os ps : List AObj) (keep : List Nat) (qs : List AObj) (n : Nat)
    (S : CSp P G f args (mkH (G + bs.length) (canonFrom G os)) v hf) (hos : os.length = bs.length) (hps : (List.range bs.length).map (fun i => hf.get (G + i)) = ps.map some) (hqs : keep.map hf.get = qs.map some)
    (hnd : bs.Nodup) (hb : ∀ b ∈ bs, G ≤ b ∧ b < n) (hGn : G ≤ n) (fo : os.all plainO = true) (fp : ps.all (goodO (okI (G + bs.length) keep)) = true) (fq : qs.all (fun o => goodO (okI (G + bs.length) keep) o && !o.ro) = true)
    (eo : os.map (mvO (tauL G bs n)) = os') (ep : ps.map (mvO (tau' (G + bs.length) (tauL G bs n) keep n)) = ps') (eq : qs.map (mvO (tau' (G + bs.length) (tauL G bs n) keep n)) = qs') (hk : keep.Nodup) (hkn : ∀ i ∈ keep, G + bs.length ≤ i)
    (hv : good (okI (G + bs.length) keep) v = true) (ea : mvArr (tauL G bs n) args = args') (ev : mv (tau' (G + bs.length) (tauL G bs n) keep n) v = v') :
    FSp P G f args' n (bs.zip os') v' (bs.zip (ps'.map some)) qs' := by
  subst eo; subst ep; subst eq
  have hpl : ps.length = bs.length := by
    have := congrArg List.length hps
    simpa using this.symm
  have hpg : ∀ i, i < bs.length → hf.get (G + i) = ps[i]? := fun i hi => by
    have h1 := congrArg (fun l : List (Option AObj) => l[i]?) hps
    simp only [List.getElem?_map] at h1
    rw [List.getElem?_range hi] at h1
    simp only [Option.map_some] at h1
    rw [List.getElem?_eq_getElem (by omega)] at h1 ⊢
    simpa using h1
  have hqg : ∀ i ∈ keep, ∃ o, hf.get i = some o ∧ o ∈ qs := fun i hi => by
    have : hf.get i ∈ keep.map hf.get := List.mem_map.2 ⟨i, hi, rfl⟩
    rw [hqs] at this
    obtain ⟨o, h1, h2⟩ := List.mem_map.1 this
    exact ⟨o, h2.symm, h1⟩
  have hfo : ∀ o ∈ os, plainO o = true := fun o ho => List.all_eq_true.1 fo o ho
  have hfp : ∀ o ∈ ps, goodO (okI (G + bs.length) keep) o = true := fun o ho => List.all_eq_true.1 fp o ho
  have hfq : ∀ o ∈ qs, goodO (okI (G + bs.length) keep) o = true ∧ o.ro = false := fun o ho => by
    have := List.all_eq_true.1 fq o ho
    simpa using this
  have htau : ∀ i, i < bs.length → tauL G bs n (G + i) = bs.getD i 0 := fun i hi => by
    have h1 : ¬ G + i < G := by omega
    have h2 : G + i - G = i := by omega
    simp only [tauL, blt_false h1, Bool.false_eq_true, if_false, h2, List.getElem?_eq_getElem hi, List.getD, Option.getD_some]
  have hmem : ∀ x ∈ canonFrom G os, ∃ i, i < bs.length ∧ os[i]? = some x.2 ∧ x.1 = G + i ∧ tauL G bs n x.1 = bs.getD i 0 := fun x hx => by
    obtain ⟨i, h1, h2⟩ := (canon_mem os G x).1 hx
    have hi : i < bs.length := by rw [← hos]; exact (List.getElem?_eq_some_iff.1 h1).1
    exact ⟨i, hi, h1, h2, by rw [h2, htau i hi]⟩
  have hbm : ∀ i, i < bs.length → bs.getD i 0 ∈ bs := fun i hi => by
    simp only [List.getD, List.getElem?_eq_getElem hi, Option.getD_some]
    exact List.getElem_mem hi
  have R := fspec_of_spec (nc := G + bs.length) (L := canonFrom G os) S (tauL G bs n) keep n (by omega) hGn (fun g hg => by simp [tauL, blt_true hg])
    (fun i hi => by
      have h1 : ¬ i < G := by omega
      have h2 : bs[i - G]? = none := List.getElem?_eq_none (by omega)
      simp only [tauL, blt_false h1, Bool.false_eq_true, if_false, h2]
      omega)
    (fun x hx => by
      obtain ⟨i, hi, h1, h2, h3⟩ := hmem x hx
      exact ⟨hfo _ (List.mem_of_getElem? h1), by omega, by rw [h3]; exact (hb _ (hbm i hi)).2⟩)
    (fun x hx y hy e => by
      obtain ⟨i, hi, _, h2, h3⟩ := hmem x hx
      obtain ⟨j, hj, _, h4, h5⟩ := hmem y hy
      rw [h3, h5] at e
      simp only [List.getD, List.getElem?_eq_getElem hi, List.getElem?_eq_getElem hj, Option.getD_some] at e
      have a1 := hnd.idxOf_getElem i hi
      have a2 := hnd.idxOf_getElem j hj
      rw [e] at a1
      omega)
    hv
    (fun x hx o ho => by
      obtain ⟨i, hi, _, h2, _⟩ := hmem x hx
      rw [h2, hpg i hi] at ho
      exact hfp o (List.mem_of_getElem? ho))
    hk
    (fun i hi => by
      obtain ⟨o, h1, h2⟩ := hqg i hi
      exact ⟨hkn i hi, o, h1, (hfq o h2).1, (hfq o h2).2⟩)
  refine R.cast ea ?_ ev ?_ ?_
  · rw [canon_map os G fun a b => (tauL G bs n a, mvO (tauL G bs n) b)]
    refine List.ext_getElem? fun i => ?_
    rcases Nat.lt_or_ge i bs.length with hi | hi
    · have ho : i < os.length := by omega
      simp only [List.getElem?_map, List.getElem?_zipIdx, List.getElem?_eq_getElem ho, Option.map_some, Nat.zero_add, htau i hi]
      rw [List.getElem?_eq_getElem (by simp; omega)]
      simp [List.getD, List.getElem?_eq_getElem hi]
    · rw [List.getElem?_eq_none (by simp; omega), List.getElem?_eq_none (by simp; omega)]
  · rw [canon_map os G fun a b => (tauL G bs n a, (hf.get a).map (mvO (tau' (G + bs.length) (tauL G bs n) keep n)))]
    refine List.ext_getElem? fun i => ?_
    rcases Nat.lt_or_ge i bs.length with hi | hi
    · have ho : i < os.length := by omega
      have hp : i < ps.length := by omega
      simp only [List.getElem?_map, List.getElem?_zipIdx, List.getElem?_eq_getElem ho, Option.map_some, Nat.zero_add, htau i hi, hpg i hi, List.getElem?_eq_getElem hp]
      rw [List.getElem?_eq_getElem (by simp; omega)]
      simp [List.getD, List.getElem?_eq_getElem hi]
    · rw [List.getElem?_eq_none (by simp; omega), List.getElem?_eq_none (by simp; omega)]
  · have : ∀ (l : List Nat) (q : List AObj), l.map hf.get = q.map some → l.filterMap (fun i => (hf.get i).map (mvO (tau' (G + bs.length) (tauL G bs n) keep n))) = q.map (mvO (tau' (G + bs.length) (tauL G bs n) keep n)) := by
      intro l
      induction l with
      | nil => intro q h; cases q <;> simp at h; rfl
      | cons i l ih =>
        intro q h
        cases q with
        | nil => simp at h
        | cons o q =>
          simp only [List.map_cons, List.cons.injEq] at h
          simp only [List.filterMap_cons, h.1, Option.map_some, List.map_cons]
          rw [ih q h.2]
    exact this keep qs hqs
end Go.AE
namespace Go.AE
open Go
theorem putAll_same {h : AH} : ∀ {l : List (Nat × AObj)}, (∀ x ∈ l, h.get x.1 = some x.2) → ∀ i, (putAll h (l.map fun x => (x.1, some x.2))).get i = h.get i ∧ (putAll h (l.map fun x => (x.1, some x.2))).next = h.next := by
  intro l hl i
  refine ⟨?_, putAll_next _ _⟩
  by_cases hm : ∃ x ∈ l, x.1 = i
  · have key : ∀ (l : List (Nat × AObj)) (g : AH), (∀ x ∈ l, h.get x.1 = some x.2) → g.get i = h.get i → (putAll g (l.map fun x => (x.1, some x.2))).get i = h.get i := by
      intro l
      induction l with
      | nil => intro g _ hg; exact hg
      | cons x l ih =>
        intro g hx hg
        refine ih (g.put x.1 (some x.2)) (fun y hy => hx y (List.mem_cons_of_mem _ hy)) ?_
        rw [AH.get_put]
        split
        · rename_i e
          rw [e]
          exact (hx x (List.mem_cons_self ..)).symm
        · exact hg
    exact key l h hl rfl
  · rw [putAll_out]
    intro x hx e
    obtain ⟨y, hy, rfl⟩ := List.mem_map.1 hx
    exact hm ⟨y, hy, e⟩
theorem fsp_of_tell {P : Program} {G : Nat} {gl : List (Nat × AObj)} {f : FuncId} {args : Array Value} {v : Value} (TG : TellG P G gl f args v) (hgl : GlOK G gl) (ha : closedArr args = true) (hv : closed v = true) (n : Nat) :
    FSp P G f args n gl v (gl.map fun x => (x.1, some x.2)) [] := by
  intro h hn hh ρ w args' HW hargs
  rw [closedArr_ren ρ _ ha] at hargs
  cases hargs
  refine (TG _ w (start_of_gl hgl HW hh)).mono ?_
  rintro e w' ⟨ρ', h', rfl, W', E⟩
  have hp : ∀ b, b < w.heap.size → w'.heap[b]? = w.heap[b]? := fun b hb => E.pres b hb fun ⟨i, o, e1, e2, _⟩ => by
    have hm : (i, o) ∈ gl := by
      rcases mkH_get gl _ i o e1 with q | q
      · exact q
      · simp [AH.get, T.get] at q
    obtain ⟨_, c, t, h2, _⟩ := hgl ρ.st _ hm
    simp only at h2
    subst h2
    cases e2
  have hs := fun i => (putAll_same hh i).1
  have hnx : (pushAll (putAll h (gl.map fun x => (x.1, some x.2))) []).next = h.next := (putAll_same hh 0).2
  have W2 : WR G ρ h w' := by
    refine ⟨fun i o e => ?_, HW.fresh, HW.inj, HW.glob, HW.gp⟩
    obtain ⟨b, x, q1, q2, q3⟩ := HW.obj i o e
    exact ⟨b, x, q1, (hp b (Array.getElem?_eq_some_iff.1 q2).1).trans q2, q3⟩
  have E2 : Ext ρ h w ρ h w' := ⟨Rho.le_refl _, fun _ _ => rfl, Nat.le_refl _, E.size, fun b hb _ => hp b hb, fun b _ q => q, E.tape, E.os, E.output⟩
  have hsub : ∀ i o, (pushAll (putAll h (gl.map fun x => (x.1, some x.2))) []).get i = some o → h.get i = some o := fun i o e => by
    rw [← hs i]; exact e
  exact ⟨ρ, v, rfl, W2.sub hnx hsub, E2.sub hnx hsub, closed_ren ρ v hv⟩
end Go.AE
namespace Go.AE
open Go
section
variable {P : Program} {G : Nat} {ρ : Rho} {h : AH} {w : World}
theorem WR.addWin (H : WR G ρ h w) {b o : Nat} {c : List Value} {arr : Array Value} {t : TypeId} {fz : Nat × Nat} (hx : w.heap[b]? = some (.cells arr t fz)) (hc : ∀ σ, renL σ c = some c) (hw : (arr.toList.drop o).take c.length = c)
    (hne : ∀ i p, h.get i = some p → ρ.blk i ≠ some b) : WR G (ρ.bind h.next b none) (h.push (.win o c)) w := by
  have hn : ρ.blk h.next = none := H.fresh _ (Nat.le_refl _)
  have hle := Rho.le_bind hn b none
  refine ⟨fun i p e => ?_, fun i hi => ?_, fun i j p q b' e1 e2 b1 b2 => ?_, fun g hgG => ?_, ?_⟩
  · rw [AH.get_push] at e
    by_cases hi : i = h.next
    · subst hi
      simp only [if_true, Option.some.injEq] at e
      subst e
      exact ⟨b, _, by simp [Rho.bind], hx, hc, hw, by simp [Rho.bind]⟩
    · rw [if_neg hi] at e
      obtain ⟨b', y, h1, h2, h3⟩ := H.obj i p e
      exact ⟨b', y, (hle _ _ h1).1, h2, h3.mono hle h1⟩
  · rw [AH.next_push] at hi
    have h2 : i ≠ h.next := by omega
    simp only [Rho.bind, h2, if_false]
    exact H.fresh i (by omega)
  · rw [AH.get_push] at e1 e2
    by_cases hi : i = h.next <;> by_cases hj : j = h.next
    · rw [hi, hj]
    · exfalso
      rw [if_neg hj] at e2
      simp only [Rho.bind, hi, if_true] at b1
      simp only [Rho.bind, hj, if_false] at b2
      cases b1
      exact hne j q e2 b2
    · exfalso
      rw [if_neg hi] at e1
      simp only [Rho.bind, hj, if_true] at b2
      simp only [Rho.bind, hi, if_false] at b1
      cases b2
      exact hne i p e1 b1
    · rw [if_neg hi] at e1
      rw [if_neg hj] at e2
      simp only [Rho.bind, hi, hj, if_false] at b1 b2
      exact H.inj i j p q b' e1 e2 b1 b2
  · have hgr : g ≠ h.next := by have := H.gp; omega
    simp only [Rho.bind, hgr, if_false]
    exact H.glob g hgG
  · rw [AH.next_push]; have := H.gp; omega
theorem ints_renL (zs : List Int) (k : IntKind) (σ : Rho) : renL σ (zs.map (Value.int k)) = some (zs.map (Value.int k)) := by
  induction zs with
  | nil => rfl
  | cons z l ih => simp only [List.map_cons, renL, ren, ih, Option.bind_some, Option.map_some]
theorem rowAt_no {fits : TypeId → Bool} {e : TypeId} (h1 : fits e = false) (h2 : ∀ fs, P.underlying e ≠ some (.struct fs)) (h3 : ∀ m e', P.underlying e = some (.array m e') → fits e' = false ∧ (∀ fs, P.underlying e' ≠ some (.struct fs)) ∧ ∀ m' e'', P.underlying e' ≠ some (.array m' e'')) :
    ∀ (d count off n : Nat), rowAt P fits d e count off n = false := by
  have base : ∀ {e : TypeId}, fits e = false → (∀ fs, P.underlying e ≠ some (.struct fs)) → (∀ m e', P.underlying e ≠ some (.array m e')) → ∀ (d count off n : Nat), rowAt P fits d e count off n = false := by
    intro e h1 h2 h3 d count off n
    cases d with
    | zero => rfl
    | succ d =>
      unfold rowAt
      simp only [h1, Bool.and_false, Bool.false_or]
      split
      · rfl
      · first
        | rfl
        | (split
           · rename_i fs hu; exact absurd hu (h2 _)
           · rename_i m e' hu; exact absurd hu (h3 _ _)
           · simp)
  intro d count off n
  cases d with
  | zero => rfl
  | succ d =>
    unfold rowAt
    simp only [h1, Bool.and_false, Bool.false_or]
    split
    · rfl
    · split
      · rename_i fs hu; exact absurd hu (h2 _)
      · rename_i m e' hu
        obtain ⟨g1, g2, g3⟩ := h3 _ _ hu
        rw [base g1 g2 g3, Bool.and_false]
      · simp
theorem liesAt_no {e u : TypeId} (hu : ∀ m u', P.underlying u ≠ some (.array m u')) (hr : ∀ (d count off n : Nat), rowAt P (sameLayout P P.depth · u) d e count off n = false) : ∀ (d count off n : Nat), liesAt P d e count off u n = false := by
  intro d count off n
  cases d with
  | zero => rfl
  | succ d =>
    unfold liesAt
    rw [hr, Bool.false_or]
    split
    · rename_i m u' h; exact absurd h (hu _ _)
    · rfl
end
end Go.AE
namespace Go.AE
def val : List Nat → Nat
  | [] => 0
  | x :: l => x + 1000000000 * val l
abbrev Lim (l : List Nat) : Prop := ∀ x ∈ l, x < 1000000000
theorem Lim.get {l : List Nat} (h : Lim l) (i : Nat) : l.getD i 0 < 1000000000 := by
  rcases Nat.lt_or_ge i l.length with q | q
  · rw [List.getD, List.getElem?_eq_getElem q]
    exact h _ (List.getElem_mem q)
  · rw [List.getD, List.getElem?_eq_none q]
    decide
theorem Lim.set {l : List Nat} (h : Lim l) {i v : Nat} (hv : v < 1000000000) : Lim (l.set i v) := fun x hx => by
  rcases List.mem_or_eq_of_mem_set hx with q | rfl
  · exact h x q
  · exact hv
theorem Lim.take {l : List Nat} (h : Lim l) (k : Nat) : Lim (l.take k) := fun x hx => h x (List.mem_of_mem_take hx)
theorem Lim.drop {l : List Nat} (h : Lim l) (k : Nat) : Lim (l.drop k) := fun x hx => h x (List.mem_of_mem_drop hx)
theorem Lim.append {l m : List Nat} (h : Lim l) (g : Lim m) : Lim (l ++ m) := fun x hx => by
  rcases List.mem_append.1 hx with q | q
  · exact h x q
  · exact g x q
theorem Lim.replicate (k : Nat) : Lim (List.replicate k 0) := fun x hx => by
  rw [(List.mem_replicate.1 hx).2]; decide
theorem pow_pos (a : Nat) : 0 < 1000000000 ^ a := Nat.pow_pos (by decide)
end Go.AE
namespace Go.AE
def ndig (n : Nat) : Nat := if h : n = 0 then 0 else ndig (n / 10) + 1
termination_by n
decreasing_by omega
theorem ndig_zero : ndig 0 = 0 := by rw [ndig]; rfl
theorem ndig_pos {n : Nat} (h : 0 < n) : ndig n = ndig (n / 10) + 1 := by rw [ndig, dif_neg (by omega)]
theorem ndig_lt : ∀ (k n : Nat), n < 10 ^ k → ndig n ≤ k
  | 0, n, h => by
    have : n = 0 := by simpa using h
    subst this
    rw [ndig_zero]; exact Nat.le_refl _
  | k + 1, n, h => by
    rcases Nat.eq_zero_or_pos n with h0 | h0
    · subst h0; rw [ndig_zero]; omega
    · rw [ndig_pos h0]
      have h1 : n / 10 < 10 ^ k := by
        rw [Nat.div_lt_iff_lt_mul (by decide), ← Nat.pow_succ]; exact h
      have := ndig_lt k (n / 10) h1
      omega
end Go.AE
namespace Go.AE
open Go
def dstr (ds : List Nat) : ByteArray := ⟨(ds.map fun d => UInt8.ofNat (48 + d)).toArray⟩
abbrev Dig (ds : List Nat) : Prop := ∀ d ∈ ds, d < 10
theorem dstr_size (ds : List Nat) : (dstr ds).size = ds.length := by simp [dstr, ByteArray.size]
def dval (ds : List Nat) : Nat := ds.foldl (fun a d => a * 10 + d) 0
theorem dval_foldl : ∀ (ds : List Nat) (a : Nat), ds.foldl (fun a d => a * 10 + d) a = a * 10 ^ ds.length + dval ds
  | [], a => by simp [dval]
  | d :: ds, a => by
    have h1 := dval_foldl ds (a * 10 + d)
    have h2 := dval_foldl ds (0 * 10 + d)
    have h3 : dval (d :: ds) = ds.foldl (fun a d => a * 10 + d) (0 * 10 + d) := rfl
    rw [List.foldl_cons, h1, h3, h2, List.length_cons, Nat.pow_succ, Nat.add_mul, Nat.add_mul, Nat.zero_mul, Nat.zero_add, Nat.mul_assoc, Nat.mul_comm 10]
    omega
theorem dval_append (a b : List Nat) : dval (a ++ b) = dval a * 10 ^ b.length + dval b := by
  rw [dval, List.foldl_append, dval_foldl]; rfl
theorem dval_snoc (a : List Nat) (d : Nat) : dval (a ++ [d]) = dval a * 10 + d := by
  rw [dval_append]; simp [dval]
theorem dval_lt : ∀ (ds : List Nat), Dig ds → dval ds < 10 ^ ds.length
  | [], _ => by simp [dval]
  | d :: ds, h => by
    have h1 := h d (List.mem_cons_self ..)
    have h2 := dval_lt ds fun x hx => h x (List.mem_cons_of_mem _ hx)
    have h3 : dval (d :: ds) = d * 10 ^ ds.length + dval ds := by
      have := dval_append [d] ds
      simpa [dval] using this
    rw [h3, List.length_cons, Nat.pow_succ]
    have h4 : (d + 1) * 10 ^ ds.length ≤ 10 * 10 ^ ds.length := Nat.mul_le_mul_right _ (by omega)
    rw [Nat.add_mul, Nat.one_mul] at h4
    omega
theorem Dig.take {ds : List Nat} (h : Dig ds) (k : Nat) : Dig (ds.take k) := fun x hx => h x (List.mem_of_mem_take hx)
theorem Dig.drop {ds : List Nat} (h : Dig ds) (k : Nat) : Dig (ds.drop k) := fun x hx => h x (List.mem_of_mem_drop hx)
theorem Dig.get {ds : List Nat} (h : Dig ds) (k : Nat) : ds.getD k 0 < 10 := by
  rcases Nat.lt_or_ge k ds.length with q | q
  · rw [List.getD, List.getElem?_eq_getElem q]; exact h _ (List.getElem_mem q)
  · rw [List.getD, List.getElem?_eq_none q]; decide
theorem dval_take_succ {ds : List Nat} {p : Nat} (h : p < ds.length) : dval (ds.take (p + 1)) = dval (ds.take p) * 10 + ds.getD p 0 := by
  rw [List.take_succ_eq_append_getElem h, dval_snoc, List.getD, List.getElem?_eq_getElem h]; rfl
theorem dstr_get {ds : List Nat} {p : Nat} (h : p < ds.length) : (dstr ds)[p]? = some (UInt8.ofNat (48 + ds.getD p 0)) := by
  have h1 : p < (dstr ds).size := by rw [dstr_size]; exact h
  rw [getElem?_pos (dstr ds) p h1]
  simp [dstr, List.getD, List.getElem?_eq_getElem h, ByteArray.getElem_eq_getElem_data]
theorem dstr_extract (ds : List Nat) (a b : Nat) : (dstr ds).extract a b = dstr ((ds.take b).drop a) := by
  apply ByteArray.ext
  simp only [ByteArray.data_extract, dstr]
  apply Array.ext'
  rw [Array.toList_extract, List.extract_eq_take_drop, List.map_drop, List.map_take, List.drop_take]
theorem decode_dstr {ds : List Nat} (h : Dig ds) {p : Nat} (hp : p < ds.length) : Utf8.decode (dstr ds) p = (48 + ds.getD p 0, 1) := by
  have h1 : p < (dstr ds).size := by rw [dstr_size]; exact hp
  have h2 := dstr_get hp
  have h3 := h.get p
  have h4 : (dstr ds)[p]'h1 = UInt8.ofNat (48 + ds.getD p 0) := by
    rw [getElem?_pos (dstr ds) p h1] at h2
    exact Option.some.inj h2
  have h5 : ((dstr ds)[p]'h1).toNat = 48 + ds.getD p 0 := by
    rw [h4, UInt8.toNat_ofNat']
    omega
  rw [decode_ascii (dstr ds) p h1 (by rw [h5]; omega), h5]
end Go.AE
namespace Go.AE
open Go
end Go.AE
namespace Go.AE
open Go
end Go.AE
namespace Go.AE
open Go
def digs (n : Nat) : List Nat := if _h : n < 10 then [n] else digs (n / 10) ++ [n % 10]
termination_by n
decreasing_by omega
theorem digs_small {n : Nat} (h : n < 10) : digs n = [n] := by rw [digs, dif_pos h]
theorem digs_big {n : Nat} (h : ¬ n < 10) : digs n = digs (n / 10) ++ [n % 10] := by rw [digs, dif_neg h]
theorem digs_dig : ∀ n, Dig (digs n) := by
  intro n
  induction n using Nat.strongRecOn with
  | ind n ih =>
    by_cases h : n < 10
    · rw [digs_small h]; intro d hd; simp at hd; omega
    · rw [digs_big h]
      intro d hd
      rcases List.mem_append.1 hd with q | q
      · exact ih (n / 10) (by omega) d q
      · simp at q; omega
theorem digs_val : ∀ n, dval (digs n) = n := by
  intro n
  induction n using Nat.strongRecOn with
  | ind n ih =>
    by_cases h : n < 10
    · rw [digs_small h]; simp [dval]
    · rw [digs_big h, dval_snoc, ih (n / 10) (by omega)]; omega
theorem digs_ne (n : Nat) : digs n ≠ [] := by
  by_cases h : n < 10
  · rw [digs_small h]; simp
  · rw [digs_big h]; simp
theorem digs_len : ∀ n, 0 < n → (digs n).length = ndig n := by
  intro n
  induction n using Nat.strongRecOn with
  | ind n ih =>
    intro h0
    by_cases h : n < 10
    · rw [digs_small h, ndig_pos h0, show n / 10 = 0 by omega, ndig_zero]; rfl
    · rw [digs_big h, List.length_append, ih (n / 10) (by omega) (by omega), ndig_pos h0]; rfl
theorem dstr_decDigits : ∀ n, dstr (digs n) = ⟨(Lib.decDigits n).toArray⟩ := by
  have key : ∀ n, (digs n).map (fun d => UInt8.ofNat (48 + d)) = Lib.decDigits n := by
    intro n
    induction n using Nat.strongRecOn with
    | ind n ih =>
      by_cases h : n < 10
      · rw [digs_small h, Lib.decDigits, dif_pos h]; rfl
      · rw [digs_big h, Lib.decDigits, dif_neg h, List.map_append, ih (n / 10) (by omega)]; rfl
  intro n
  unfold dstr
  rw [key]
def mstr (ds : List Nat) : ByteArray := ⟨(45 :: ds.map fun d => UInt8.ofNat (48 + d)).toArray⟩
def istr (z : Int) : ByteArray := if z < 0 then mstr (digs z.natAbs) else dstr (digs z.toNat)
theorem istr_itoa (z : Int) : istr z = ⟨(Lib.itoa z).toArray⟩ := by
  unfold istr Lib.itoa
  split
  · have := dstr_decDigits z.natAbs
    unfold dstr at this
    unfold mstr
    have h2 : (digs z.natAbs).map (fun d => UInt8.ofNat (48 + d)) = Lib.decDigits z.natAbs := by
      have h3 := congrArg (fun b : ByteArray => b.data.toList) this
      simpa using h3
    rw [h2]
  · exact dstr_decDigits _
theorem byte_nat {d : Nat} (h : d < 10) : (UInt8.ofNat (48 + d)).toNat = 48 + d := by
  rw [UInt8.toNat_ofNat']; omega
end Go.AE
namespace Go.AE
open Go
end Go.AE
namespace Go.AE
open Go
theorem digs_snoc {a d : Nat} (ha : 0 < a) (hd : d < 10) : digs (a * 10 + d) = digs a ++ [d] := by
  rw [digs_big (by omega), show (a * 10 + d) / 10 = a by omega, show (a * 10 + d) % 10 = d by omega]
end Go.AE
namespace Go.AE
open Go
abbrev nI (n : Nat) : Value := .int .i64 (n : Int)
abbrev nU (n : Nat) : Value := .int .u64 (n : Int)
abbrev nB (n : Nat) : Value := .int .u8 (n : Int)
abbrev nR (n : Nat) : Value := .int .i32 (n : Int)
abbrev lI (n : Nat) : Value := .int .i64 (.ofNat n)
abbrev lU (n : Nat) : Value := .int .u64 (.ofNat n)
abbrev bT : Value := .bool true
abbrev bF : Value := .bool false
abbrev uu : Value := undef
theorem tt : True := trivial
theorem aI {p q : Prop} (h : p) (g : q) : p ∧ q := ⟨h, g⟩
theorem ix (a n : Int) (o s off : Nat) (h : 0 ≤ a ∧ a < n ∧ o + Int.toNat a * s = off := by omega) : 0 ≤ a ∧ a < n ∧ o + Int.toNat a * s = off := h
theorem dT {p : Prop} [Decidable p] (h : p := by omega) : decide p = true := decide_eq_true h
theorem dF {p : Prop} [Decidable p] (h : ¬ p := by omega) : decide p = false := decide_eq_false h
theorem eF {a b : Int} (h : a ≠ b := by omega) : (a == b) = false := beq_eq_false_iff_ne.2 h
theorem nF {a b : Int} (h : a = b := by omega) : (a != b) = false := bne_eq_false_iff_eq.2 h
theorem wI64 {a r : Int} (h : a = r ∧ -9223372036854775808 ≤ a ∧ a < 9223372036854775808 := by omega) : IntKind.wrap .i64 a = r := by rw [wrap_i64 h.2.1 h.2.2]; exact h.1
theorem wU64 {a r : Int} (h : a = r ∧ 0 ≤ a ∧ a < 18446744073709551616 := by omega) : IntKind.wrap .u64 a = r := by rw [wrap_u64 h.2.1 h.2.2]; exact h.1
theorem wU8 {a r : Int} (h : a = r ∧ 0 ≤ a ∧ a < 256 := by omega) : IntKind.wrap .u8 a = r := by rw [wrap_u8 h.2.1 h.2.2]; exact h.1
theorem wI32 {a r : Int} (h : a = r ∧ -2147483648 ≤ a ∧ a < 2147483648 := by omega) : IntKind.wrap .i32 a = r := by rw [wrap_i32 h.2.1 h.2.2]; exact h.1
theorem om {p : Prop} (h : p := by omega) : p := h
theorem de {p : Prop} (h : p := by decide) : p := h
theorem sm {p : Prop} (h : p := by simp) : p := h
abbrev nS : Value := .slice none 0 0
abbrev sw (b o n c : Nat) : Value := .slice (some ⟨b, o, none⟩) n c
abbrev pp (b o : Nat) : Value := .pointer (some ⟨b, o, none⟩)
abbrev Fr (f : FuncId) (l : List Value) (t : List Item) : Frame := ⟨f, List.toArray l, t, [], .run, .normal, none⟩
theorem ff {P : Program} {G : Nat} {f : FuncId} {args args' : Array Value} {v v' : Value} {hf : AH} (bs : List Nat) (os ps : List AObj) (keep : List Nat) (qs : List AObj) (n : Nat)
    (S : CSp P G f args (mkH (G + bs.length) (canonFrom G os)) v hf) (hnd : bs.Nodup := by simp) (hb : ∀ b ∈ bs, G ≤ b ∧ b < n := by simp; omega) (hGn : G ≤ n := by omega) (fo : os.all flat = true := by simp [flat, ns_closed]) (fp : ps.all flat = true := by simp [flat, ns_closed]) (fq : qs.all (fun o => flat o && !o.ro) = true := by simp [flat, ns_closed, AObj.ro])
    (hk : keep.Nodup := by simp) (hkn : ∀ i ∈ keep, G + bs.length ≤ i := by simp) (hos : os.length = bs.length := by rfl) (hps : (List.range bs.length).map (fun i => hf.get (G + i)) = ps.map some := by rfl) (hqs : keep.map hf.get = qs.map some := by rfl) (hv : good (okI (G + bs.length) keep) v = true := by rfl) (ea : mvArr (tauL G bs n) args = args' := by rfl) (ev : mv (tau' (G + bs.length) (tauL G bs n) keep n) v = v' := by rfl) :
    FSp P G f args' n (bs.zip os) v' (bs.zip (ps.map some)) qs := fsp_flat bs os ps keep qs n S hos hps hqs hnd hb hGn fo fp fq hk hkn hv ea ev
theorem ff0 {P : Program} {G : Nat} {f : FuncId} {args args' : Array Value} {v v' : Value} {hf : AH} (n : Nat) (S : CSp P G f args (mkH (G + 0) []) v hf) (hGn : G ≤ n := by omega) (hv : good (okI (G + 0) []) v = true := by rfl) (ea : mvArr (tauL G [] n) args = args' := by rfl) (ev : mv (tau' (G + 0) (tauL G [] n) [] n) v = v' := by rfl) : FSp P G f args' n [] v' [] [] := fsp_flat [] [] [] [] [] n S rfl rfl rfl (by simp) (by simp) hGn rfl rfl rfl (by simp) (by simp) hv ea ev
def uj : Nat → List Value → List Value
  | 0, t => t
  | n + 1, t => undef :: uj n t
end Go.AE
namespace Go.AE
open Go
theorem digs_len_pos (n : Nat) : 0 < (digs n).length := List.length_pos_iff.2 (digs_ne n)
theorem digs_head : ∀ n, 0 < n → (digs n).getD 0 0 ≠ 0 := by
  intro n
  induction n using Nat.strongRecOn with
  | ind n ih =>
    intro h0
    by_cases h : n < 10
    · rw [digs_small h]
      show n ≠ 0
      omega
    · rw [digs_big h]
      have h1 := ih (n / 10) (by omega) (by omega)
      have h2 := digs_len_pos (n / 10)
      cases hd : digs (n / 10) with
      | nil => rw [hd] at h2; exact absurd h2 (by decide)
      | cons d ds => rw [hd] at h1; exact h1
theorem digs_zero : digs 0 = [0] := digs_small (by decide)
theorem digs_len_le {n k : Nat} (h : ndig n ≤ k) (hk : 0 < k) : (digs n).length ≤ k := by
  rcases Nat.eq_zero_or_pos n with q | q
  · rw [q, digs_zero]; exact hk
  · rw [digs_len n q]; exact h
theorem istr_nn (m : Nat) : istr (m : Int) = dstr (digs m) := by
  unfold istr
  rw [if_neg (by omega)]
  rfl
theorem istr_neg {m : Nat} (h : 0 < m) : istr (-(m : Int)) = mstr (digs m) := by
  unfold istr
  rw [if_pos (by omega), Int.natAbs_neg]
  rfl
theorem int_cases (a : Int) : (∃ m : Nat, a = (m : Int) ∧ a.natAbs = m) ∨ ∃ m : Nat, 0 < m ∧ a = -(m : Int) ∧ a.natAbs = m := by
  rcases (by omega : a < 0 ∨ 0 ≤ a) with h | h
  · exact Or.inr ⟨a.natAbs, by omega, by omega, rfl⟩
  · exact Or.inl ⟨a.natAbs, by omega, rfl⟩
theorem mstr_len (ds : List Nat) : (mstr ds).size = ds.length + 1 := by simp [mstr, ByteArray.size]
end Go.AE
namespace Go.AE
open Go
theorem ex_u64 (z : Int) : ∃ v : Nat, IntKind.wrap .u64 z = (v : Int) := by
  refine ⟨(IntKind.wrap .u64 z).toNat, (Int.toNat_of_nonneg ?_).symm⟩
  simp only [IntKind.wrap, IntKind.bits, IntKind.signed]
  simp
  exact Int.emod_nonneg _ (by decide)
theorem ex_shr (x k : Nat) : ∃ v : Nat, Int.fdiv (x : Int) (2 ^ k) = (v : Int) :=
  ⟨(Int.fdiv (x : Int) (2 ^ k)).toNat, (Int.toNat_of_nonneg (Int.fdiv_nonneg (by omega) (Int.le_of_lt (Int.pow_pos (by decide))))).symm⟩
theorem ints_closed : ∀ zs : List Int, closedL (zs.map (Value.int .i64)) = true
  | [] => rfl
  | x :: zs => by
    have := ints_closed zs
    simpa [closedL, closed] using this
theorem ints_get {zs : List Int} {i : Nat} (h : i < zs.length) : (zs.map (Value.int .i64))[i]? = some (.int .i64 (zs.getD i 0)) := by
  simp [List.getElem?_eq_getElem h, List.getD]
end Go.AE
namespace Go.AE
open Go
theorem digs_dval : ∀ (n : Nat) (ds : List Nat), ds.length = n + 1 → Dig ds → ds.getD 0 0 ≠ 0 → digs (dval ds) = ds ∧ 0 < dval ds := by
  intro n
  induction n with
  | zero =>
    intro ds hl hd h0
    match ds, hl with
    | [d], _ =>
      have h1 : d < 10 := hd d (List.mem_cons_self ..)
      have h2 : dval [d] = d := by simp [dval]
      rw [h2]
      exact ⟨digs_small h1, Nat.pos_of_ne_zero h0⟩
  | succ n ih =>
    intro ds hl hd h0
    have hne : ds ≠ [] := fun e => by rw [e] at hl; simp at hl
    have e := List.dropLast_concat_getLast hne
    have hl2 : ds.dropLast.length = n + 1 := by rw [List.length_dropLast]; omega
    have hd2 : Dig ds.dropLast := fun x hx => hd x (List.dropLast_subset ds hx)
    have hlast : ds.getLast hne < 10 := hd _ (List.getLast_mem hne)
    have h02 : ds.dropLast.getD 0 0 ≠ 0 := by
      match hds : ds.dropLast, hl2 with
      | x :: xs, _ => rw [← e, hds] at h0; exact h0
    obtain ⟨h1, h2⟩ := ih _ hl2 hd2 h02
    have h3 : dval ds = dval ds.dropLast * 10 + ds.getLast hne := by rw [← dval_snoc, e]
    rw [h3]
    refine ⟨?_, by omega⟩
    rw [digs_snoc h2 hlast, h1, e]
end Go.AE
namespace Go.AE
open Go
theorem mod_nz {s q : Nat} (h : s % q ≠ 0) : ((((s % q) : Nat) : Int) == (0 : Int)) = false := by
  rw [beq_eq_false_iff_ne]; omega
theorem mod_z {s q : Nat} (h : s % q = 0) : ((((s % q) : Nat) : Int) == (0 : Int)) = true := by
  rw [h]; rfl
theorem tmod_nat (s q : Nat) : Int.tmod ((s : Nat) : Int) ((q : Nat) : Int) = (((s % q) : Nat) : Int) := by
  rw [Int.tmod_eq_emod_of_nonneg (by omega)]; exact (Int.natCast_emod _ _).symm
theorem tdiv_nat (s q : Nat) : Int.tdiv ((s : Nat) : Int) ((q : Nat) : Int) = (((s / q) : Nat) : Int) := by
  rw [Int.tdiv_eq_ediv_of_nonneg (by omega)]; exact (Int.natCast_ediv _ _).symm
theorem mul_lt2 {q : Nat} (h : q < 1048576) : q * q < 1099511627776 := by
  have := Nat.mul_le_mul (show q ≤ 1048575 by omega) (show q ≤ 1048575 by omega)
  omega
theorem mul_wrap {q : Nat} (h : q < 1048576) : IntKind.wrap .i64 (((q : Nat) : Int) * ((q : Nat) : Int)) = (((q * q) : Nat) : Int) := by
  have := mul_lt2 h
  rw [← Int.natCast_mul]
  exact wrap_i64 (by omega) (by omega)
theorem not_gt {s q : Nat} (h : q * q ≤ s) : decide ((((q * q) : Nat) : Int) > ((s : Nat) : Int)) = false := by
  rw [decide_eq_false_iff_not]; omega
theorem is_gt {s q : Nat} (h : s < q * q) : decide ((((q * q) : Nat) : Int) > ((s : Nat) : Int)) = true := by
  rw [decide_eq_true_eq]; omega
end Go.AE
namespace Go.AE
open Go
def Pr (p : Nat) : Prop := 2 ≤ p ∧ ∀ d, 2 ≤ d → d < p → p % d ≠ 0
def lprod : List Nat → Nat
  | [] => 1
  | x :: l => x * lprod l
theorem lprod_snoc (l : List Nat) (x : Nat) : lprod (l ++ [x]) = lprod l * x := by
  induction l with
  | nil => simp [lprod]
  | cons y l ih => simp only [List.cons_append, lprod, ih, Nat.mul_assoc]
structure PInv (n : Nat) (ps : List Nat) (p s : Nat) : Prop where
  prod : lprod ps * s = n
  one : 1 ≤ s
  two : 2 ≤ p
  pr : ∀ x ∈ ps, Pr x
  le : ∀ x ∈ ps, x ≤ p
  asc : ps.Pairwise (· ≤ ·)
  nodiv : ∀ d, 2 ≤ d → d < p → s % d ≠ 0
theorem pinv_start {n : Nat} (h : 1 ≤ n) : PInv n [] 2 n :=
  ⟨by simp [lprod], h, Nat.le_refl _, by simp, by simp, List.Pairwise.nil, fun d h1 h2 => by omega⟩
theorem asc_snoc {ps : List Nat} {x : Nat} (h : ps.Pairwise (· ≤ ·)) (hx : ∀ y ∈ ps, y ≤ x) : (ps ++ [x]).Pairwise (· ≤ ·) := by
  rw [List.pairwise_append]
  refine ⟨h, List.pairwise_singleton _ _, fun a ha b hb => ?_⟩
  rw [List.mem_singleton] at hb
  rw [hb]; exact hx a ha
theorem div_cut {s d : Nat} (h : s % d = 0) : d * (s / d) = s := by
  have := Nat.div_add_mod s d
  omega
theorem pinv_div {n p s q : Nat} {ps : List Nat} (H : PInv n ps p s) (hpq : p ≤ q) (hq : s % q = 0) (hno : ∀ d, p ≤ d → d < q → s % d ≠ 0) : PInv n (ps ++ [q]) q (s / q) ∧ q ≤ s := by
  have h2 := H.two
  have hc := div_cut hq
  have hs1 := H.one
  have hpos : 1 ≤ s / q := by
    rcases Nat.eq_zero_or_pos (s / q) with h | h
    · rw [h, Nat.mul_zero] at hc; omega
    · exact h
  have hqs : q ≤ s := by
    have : q * 1 ≤ q * (s / q) := Nat.mul_le_mul_left q hpos
    omega
  have all : ∀ d, 2 ≤ d → d < q → s % d ≠ 0 := fun d h1 h3 => by
    rcases Nat.lt_or_ge d p with h | h
    · exact H.nodiv d h1 h
    · exact hno d h h3
  have hprq : Pr q := ⟨by omega, fun d h1 h3 h4 => all d h1 h3 (by
    have : d ∣ s := Nat.dvd_trans (Nat.dvd_of_mod_eq_zero h4) (Nat.dvd_of_mod_eq_zero hq)
    exact Nat.mod_eq_zero_of_dvd this)⟩
  refine ⟨⟨?_, hpos, by omega, fun x hx => ?_, fun x hx => ?_, asc_snoc H.asc (fun y hy => Nat.le_trans (H.le y hy) hpq), fun d h1 h3 h4 => all d h1 h3 ?_⟩, hqs⟩
  · rw [lprod_snoc, Nat.mul_assoc, hc]; exact H.prod
  · rcases List.mem_append.1 hx with h | h
    · exact H.pr x h
    · rw [List.mem_singleton] at h; rw [h]; exact hprq
  · rcases List.mem_append.1 hx with h | h
    · exact Nat.le_trans (H.le x h) hpq
    · rw [List.mem_singleton] at h; rw [h]; exact Nat.le_refl _
  · have : d ∣ s := Nat.dvd_trans (Nat.dvd_of_mod_eq_zero h4) ⟨q, by rw [Nat.mul_comm]; exact hc.symm⟩
    exact Nat.mod_eq_zero_of_dvd this
theorem pinv_last {n p s q : Nat} {ps : List Nat} (H : PInv n ps p s) (hs : 1 < s) (hlt : s < q * q) (hno : ∀ d, p ≤ d → d < q → s % d ≠ 0) : PInv n (ps ++ [s]) s (s / s) := by
  have h2 := H.two
  have all : ∀ d, 2 ≤ d → d < q → s % d ≠ 0 := fun d h1 h3 => by
    rcases Nat.lt_or_ge d p with h | h
    · exact H.nodiv d h1 h
    · exact hno d h h3
  have hps : p ≤ s := by
    rcases Nat.lt_or_ge s p with h | h
    · exact absurd (Nat.mod_self s) (H.nodiv s hs h)
    · exact h
  have hpr : Pr s := ⟨hs, fun d h1 h3 h4 => by
    have hc := div_cut h4
    have hdq : q ≤ d := by
      rcases Nat.lt_or_ge d q with h | h
      · exact absurd h4 (all d h1 h)
      · exact h
    have he2 : 2 ≤ s / d := by
      rcases Nat.lt_or_ge (s / d) 2 with h | h
      · have : d * (s / d) ≤ d * 1 := Nat.mul_le_mul_left d (by omega)
        omega
      · exact h
    have heq : s / d < q := by
      rcases Nat.lt_or_ge (s / d) q with h | h
      · exact h
      · have : q * q ≤ d * (s / d) := Nat.mul_le_mul hdq h
        omega
    exact all _ he2 heq (Nat.mod_eq_zero_of_dvd ⟨d, by rw [Nat.mul_comm]; exact hc.symm⟩)⟩
  have h1 : s / s = 1 := Nat.div_self (by omega)
  rw [h1]
  refine ⟨?_, Nat.le_refl _, hs, fun x hx => ?_, fun x hx => ?_, asc_snoc H.asc (fun y hy => Nat.le_trans (H.le y hy) hps), fun d h1 h3 => ?_⟩
  · rw [lprod_snoc, Nat.mul_one]; exact H.prod
  · rcases List.mem_append.1 hx with h | h
    · exact H.pr x h
    · rw [List.mem_singleton] at h; rw [h]; exact hpr
  · rcases List.mem_append.1 hx with h | h
    · exact Nat.le_trans (H.le x h) hps
    · rw [List.mem_singleton] at h; rw [h]; exact Nat.le_refl _
  · rw [Nat.mod_eq_of_lt (by omega)]; omega
noncomputable def fs (ps : List Nat) : List Value := ps.map fun p => Value.string (istr ((p : Nat) : Int))
theorem fs_length (ps : List Nat) : (fs ps).length = ps.length := by simp [fs]
theorem fs_snoc (ps : List Nat) (q : Nat) : fs ps ++ [.string (istr ((q : Nat) : Int))] = fs (ps ++ [q]) := by simp [fs]
theorem fs_closed (ps : List Nat) : closedL (fs ps) = true := by
  induction ps with
  | nil => rfl
  | cons p l ih => simpa [fs, closedL, closed] using ih
theorem fs_get {ps : List Nat} {i : Nat} (h : i < ps.length) : (fs ps)[i]? = some (.string (istr ((ps.getD i 0 : Nat) : Int))) := by
  simp [fs, List.getD, List.getElem?_eq_getElem h]
theorem quo_wrap {s q : Nat} (hs : s < 1099511627776) : IntKind.wrap .i64 (Int.tdiv ((s : Nat) : Int) ((q : Nat) : Int)) = (((s / q) : Nat) : Int) := by
  rw [tdiv_nat]
  have := Nat.div_le_self s q
  generalize s / q = x at *
  exact wrap_i64 (by omega) (by omega)
theorem mod_nz' {s q : Nat} (h : s % q ≠ 0) : ((((s % q) : Nat) : Int) != (0 : Int)) = true := by
  rw [bne_iff_ne]; omega
theorem mod_z' {s q : Nat} (h : s % q = 0) : ((((s % q) : Nat) : Int) != (0 : Int)) = false := by
  rw [h]; rfl
theorem lprod_len {ps : List Nat} (h : ∀ x ∈ ps, 2 ≤ x) : ps.length < lprod ps + 1 ∧ 1 ≤ lprod ps := by
  induction ps with
  | nil => simp [lprod]
  | cons x l ih =>
    have h1 := ih fun y hy => h y (List.mem_cons_of_mem _ hy)
    have h2 := h x (List.mem_cons_self ..)
    have : 2 * lprod l ≤ x * lprod l := Nat.mul_le_mul_right _ h2
    simp only [lprod, List.length_cons]
    omega
end Go.AE
namespace Go.AE
theorem lprod_pos {l : List Nat} (h : ∀ x ∈ l, 1 ≤ x) : 1 ≤ lprod l := by
  induction l with
  | nil => simp [lprod]
  | cons x l ih =>
    have h1 := ih fun y hy => h y (List.mem_cons_of_mem _ hy)
    have h2 := h x (List.mem_cons_self ..)
    simp only [lprod]
    exact Nat.mul_pos h2 h1
theorem le_lprod {l : List Nat} (h : ∀ x ∈ l, 1 ≤ x) {x : Nat} (hx : x ∈ l) : x ≤ lprod l := by
  induction l with
  | nil => cases hx
  | cons y l ih =>
    have h1 := lprod_pos (l := l) fun y hy => h y (List.mem_cons_of_mem _ hy)
    simp only [lprod]
    rcases List.mem_cons.1 hx with rfl | hx
    · exact Nat.le_mul_of_pos_right _ h1
    · have h2 := ih (fun y hy => h y (List.mem_cons_of_mem _ hy)) hx
      exact Nat.le_trans h2 (Nat.le_mul_of_pos_left _ (h y (List.mem_cons_self ..)))
end Go.AE
namespace Go.AE
open Go
theorem Pr.dvd_or {p a b : Nat} (hp : Pr p) (h : p ∣ a * b) : p ∣ a ∨ p ∣ b := by
  have hg : Nat.gcd p a ∣ p := Nat.gcd_dvd_left p a
  have h0 : 0 < Nat.gcd p a := Nat.gcd_pos_of_pos_left _ (by have := hp.1; omega)
  have hle : Nat.gcd p a ≤ p := Nat.le_of_dvd (by have := hp.1; omega) hg
  rcases (by omega : Nat.gcd p a = p ∨ Nat.gcd p a = 1 ∨ (2 ≤ Nat.gcd p a ∧ Nat.gcd p a < p)) with q | q | q
  · left; rw [← q]; exact Nat.gcd_dvd_right p a
  · right; exact Nat.Coprime.dvd_of_dvd_mul_left (show Nat.Coprime p a from q) h
  · exact absurd (Nat.mod_eq_zero_of_dvd hg) (hp.2 _ q.1 q.2)
theorem Pr.eq_of_dvd {p q : Nat} (hp : Pr p) (hq : Pr q) (h : p ∣ q) : p = q := by
  have hle : p ≤ q := Nat.le_of_dvd (by have := hq.1; omega) h
  rcases Nat.lt_or_ge p q with g | g
  · exact absurd (Nat.mod_eq_zero_of_dvd h) (hq.2 _ hp.1 g)
  · omega
theorem Pr.mem {p : Nat} (hp : Pr p) : ∀ {l : List Nat}, (∀ x ∈ l, Pr x) → p ∣ lprod l → p ∈ l
  | [], _, h => by
    have := Nat.le_of_dvd (by decide) h
    have := hp.1
    simp only [lprod] at *
    omega
  | x :: l, hl, h => by
    rcases hp.dvd_or (show p ∣ x * lprod l from h) with g | g
    · rw [hp.eq_of_dvd (hl x (List.mem_cons_self ..)) g]; exact List.mem_cons_self ..
    · exact List.mem_cons_of_mem _ (hp.mem (fun y hy => hl y (List.mem_cons_of_mem _ hy)) g)
theorem lprodPr_pos : ∀ {l : List Nat}, (∀ x ∈ l, Pr x) → 0 < lprod l
  | [], _ => by simp [lprod]
  | x :: l, h => Nat.mul_pos (by have := (h x (List.mem_cons_self ..)).1; omega) (lprodPr_pos fun y hy => h y (List.mem_cons_of_mem _ hy))
theorem lprod_ge {x : Nat} {l : List Nat} (h : ∀ y ∈ x :: l, Pr y) : 2 ≤ lprod (x :: l) := by
  have h1 := (h x (List.mem_cons_self ..)).1
  have h2 := lprodPr_pos (l := l) fun y hy => h y (List.mem_cons_of_mem _ hy)
  have : 2 * 1 ≤ x * lprod l := Nat.mul_le_mul h1 h2
  simpa [lprod] using this
theorem primes_unique : ∀ {l m : List Nat}, (∀ x ∈ l, Pr x) → (∀ x ∈ m, Pr x) → l.Pairwise (· ≤ ·) → m.Pairwise (· ≤ ·) → lprod l = lprod m → l = m
  | [], [], _, _, _, _, _ => rfl
  | [], y :: m, _, hm, _, _, h => by have := lprod_ge hm; simp only [lprod] at h this; omega
  | x :: l, [], hl, _, _, _, h => by have := lprod_ge hl; simp only [lprod] at h this; omega
  | x :: l, y :: m, hl, hm, al, am, h => by
    have hx := hl x (List.mem_cons_self ..)
    have hy := hm y (List.mem_cons_self ..)
    have h1 : x ∈ y :: m := hx.mem hm (by rw [← h]; exact ⟨lprod l, rfl⟩)
    have h2 : y ∈ x :: l := hy.mem hl (by rw [h]; exact ⟨lprod m, rfl⟩)
    have g1 : y ≤ x := by
      rcases List.mem_cons.1 h1 with e | e
      · omega
      · exact (List.pairwise_cons.1 am).1 _ e
    have g2 : x ≤ y := by
      rcases List.mem_cons.1 h2 with e | e
      · omega
      · exact (List.pairwise_cons.1 al).1 _ e
    obtain rfl : x = y := by omega
    have hc : lprod l = lprod m := Nat.eq_of_mul_eq_mul_left (by have := hx.1; omega) (show x * lprod l = x * lprod m from h)
    rw [primes_unique (fun z hz => hl z (List.mem_cons_of_mem _ hz)) (fun z hz => hm z (List.mem_cons_of_mem _ hz)) (List.pairwise_cons.1 al).2 (List.pairwise_cons.1 am).2 hc]
theorem pinv_next {n p s : Nat} {ps : List Nat} (H : PInv n ps p s) (h : s % p ≠ 0) : PInv n ps (p + 1) s :=
  ⟨H.prod, H.one, by have := H.two; omega, H.pr, fun x hx => by have := H.le x hx; omega, H.asc, fun d h1 h2 => by
    rcases (by omega : d < p ∨ d = p) with g | rfl
    · exact H.nodiv d h1 g
    · exact h⟩
theorem pinv_take {n p s : Nat} {ps : List Nat} (H : PInv n ps p s) (h : s % p = 0) : PInv n (ps ++ [p]) p (s / p) ∧ p ≤ s := pinv_div H (Nat.le_refl _) h (fun d h1 h2 => by omega)
theorem pinv_le {n p s : Nat} {ps : List Nat} (H : PInv n ps p s) (h : 1 < s) : p ≤ s := by
  rcases Nat.lt_or_ge s p with g | g
  · exact absurd (Nat.mod_self s) (H.nodiv s (by omega) g)
  · exact g
end Go.AE
namespace Go.AE
open Go
def turnT (b k i : Nat) : Nat := if Nat.blt i b then i else if Nat.blt i (b + k) then i + 2 * k else if Nat.blt i (b + 2 * k) then i - k else i + k
theorem turnT_lt {b k i : Nat} (h : i < b) : turnT b k i = i := by unfold turnT; rw [blt_true h]; rfl
theorem turnT_1 {b k i : Nat} (h : b ≤ i) (h2 : i < b + k) : turnT b k i = i + 2 * k := by
  unfold turnT; rw [blt_false (by omega), blt_true h2]; rfl
theorem turnT_2 {b k i : Nat} (h : b + k ≤ i) (h2 : i < b + 2 * k) : turnT b k i = i - k := by
  unfold turnT; rw [blt_false (by omega), blt_false (by omega), blt_true h2]; rfl
theorem turnT_3 {b k i : Nat} (h : b + 2 * k ≤ i) : turnT b k i = i + k := by
  unfold turnT; rw [blt_false (by omega), blt_false (by omega), blt_false (by omega)]; rfl
theorem turnT_inj {b k i j : Nat} (h : turnT b k i = turnT b k j) : i = j := by
  have cases4 : ∀ i, (i < b ∧ turnT b k i = i) ∨ (b ≤ i ∧ i < b + k ∧ turnT b k i = i + 2 * k) ∨ (b + k ≤ i ∧ i < b + 2 * k ∧ turnT b k i = i - k) ∨ (b + 2 * k ≤ i ∧ turnT b k i = i + k) := fun i => by
    rcases Nat.lt_or_ge i b with h1 | h1
    · exact .inl ⟨h1, turnT_lt h1⟩
    rcases Nat.lt_or_ge i (b + k) with h2 | h2
    · exact .inr (.inl ⟨h1, h2, turnT_1 h1 h2⟩)
    rcases Nat.lt_or_ge i (b + 2 * k) with h3 | h3
    · exact .inr (.inr (.inl ⟨h2, h3, turnT_2 h2 h3⟩))
    · exact .inr (.inr (.inr ⟨h3, turnT_3 h3⟩))
  rcases cases4 i with ⟨a1, a2⟩ | ⟨a1, a3, a2⟩ | ⟨a1, a3, a2⟩ | ⟨a1, a2⟩ <;> rcases cases4 j with ⟨c1, c2⟩ | ⟨c1, c3, c2⟩ | ⟨c1, c3, c2⟩ | ⟨c1, c2⟩ <;> omega
theorem gets_turn {P : Program} {G : Nat} {s0 : AS} {fr fr1 : Frame} {nx1 nx2 b k : Nat} {l1 l2 : List (Nat × AObj)} (hr : Gets P G s0 ⟨fr1, [], mkH nx1 l1⟩) (hfr : fr1 = { fr with tmps := mvArr (turnT b k) fr.tmps })
    (hd : fr.defers = []) (hm : fr.mode = .run) (hro : fr.roundOf = none) (ht : fr.todo.all plainI = true) (hG : G ≤ s0.h.next) (hb : s0.h.next ≤ b) (hbn : b + 2 * k ≤ nx2) (hn : nx1 ≤ nx2 + k)
    (hfl : (l2.map (·.2)).all plainO = true) (hmv : (l2.map (·.2)).map (mvO (turnT b k)) = l2.map (·.2)) (hl : l2.map (fun x => (mkH nx1 l1).get (turnT b k x.1)) = l2.map fun x => some x.2) : Gets P G s0 ⟨fr, [], mkH nx2 l2⟩ := by
  subst hfr
  have hflat : ∀ x ∈ l2, plainO x.2 = true := fun x hx => List.all_eq_true.1 hfl _ (List.mem_map.2 ⟨x, hx, rfl⟩)
  have hmv1 : ∀ x ∈ l2, mvO (turnT b k) x.2 = x.2 := fun x hx => by
    obtain ⟨i, hi, rfl⟩ := List.mem_iff_getElem.1 hx
    have := congrArg (fun (l : List AObj) => l[i]?) hmv
    simpa [List.getElem?_eq_getElem hi] using this
  refine gets_move (turnT b k) hr hd hm hro ht (by omega) hG (fun i hi => turnT_lt (by omega)) (fun i hi => by rw [turnT_3 (by omega)]; omega) (fun x hx => ⟨hflat x hx, ?_⟩) fun x _ y _ e => turnT_inj e
  rw [hmv1 x hx]
  obtain ⟨i, hi, rfl⟩ := List.mem_iff_getElem.1 hx
  have := congrArg (fun (l : List (Option AObj)) => l[i]?) hl
  simpa [List.getElem?_eq_getElem hi] using this
end Go.AE
namespace Go.AE
def isD (b : UInt8) : Bool := decide (48 ≤ b.toNat) && decide (b.toNat ≤ 57)
theorem dec_good {t : ByteArray} {p : Nat} (hp : p < t.size) (h : isD (t[p]'hp) = true) : Utf8.decode t p = (48 + ((t[p]'hp).toNat - 48), 1) := by
  simp only [isD, Bool.and_eq_true, decide_eq_true_eq] at h
  rw [decode_ascii t p hp (by omega)]
  congr 1; omega
theorem dec_bad {t : ByteArray} {p : Nat} (hp : p < t.size) (h : isD (t[p]'hp) = false) : ∃ r w, Utf8.decode t p = (r, w) ∧ (r < 48 ∨ 57 < r) ∧ r ≤ 1114111 := by
  have h' : (t[p]'hp).toNat < 48 ∨ 57 < (t[p]'hp).toNat := by
    rcases Nat.lt_or_ge (t[p]'hp).toNat 48 with h1 | h1
    · exact .inl h1
    · rcases Nat.lt_or_ge 57 (t[p]'hp).toNat with h2 | h2
      · exact .inr h2
      · simp [isD, h1, h2] at h
  have hg : t.get! p = t[p]'hp := by
    show t.data[p]! = t.data[p]'hp
    rw [getElem!_pos]
  simp only [Utf8.decode, Nat.add_zero, hg, Utf8.runeError]
  generalize (t[p]'hp).toNat = b0 at h' ⊢
  generalize (t.get! (p + 1)).toNat = b1
  generalize (t.get! (p + 2)).toNat = b2
  generalize (t.get! (p + 3)).toNat = b3
  split
  · exact ⟨_, _, rfl, by omega, by omega⟩
  split
  · split
    · exact ⟨_, _, rfl, by omega, by omega⟩
    · exact ⟨_, _, rfl, by omega, by omega⟩
  split
  · split
    · rename_i h3
      simp only [ge_iff_le, Bool.and_eq_true, decide_eq_true_eq] at h3
      exact ⟨_, _, rfl, by omega, by omega⟩
    · exact ⟨_, _, rfl, by omega, by omega⟩
  split
  · split
    · rename_i h3
      simp only [ge_iff_le, Utf8.valid, Bool.and_eq_true, Bool.or_eq_true, decide_eq_true_eq] at h3
      exact ⟨_, _, rfl, by omega, by omega⟩
    · exact ⟨_, _, rfl, by omega, by omega⟩
  · exact ⟨_, _, rfl, by omega, by omega⟩
def dsOf (t : ByteArray) : List Nat := t.data.toList.map fun b => b.toNat - 48
theorem dstr_dsOf {t : ByteArray} (h : t.data.toList.all isD = true) : dstr (dsOf t) = t := by
  apply ByteArray.ext
  apply Array.ext'
  simp only [dstr, dsOf, List.map_map]
  rw [← List.map_id t.data.toList]
  simp only [List.map_map]
  apply List.map_congr_left
  intro b hb
  have := List.all_eq_true.1 h b hb
  simp only [isD, Bool.and_eq_true, decide_eq_true_eq] at this
  simp only [Function.comp, id]
  rw [show 48 + (b.toNat - 48) = b.toNat from by omega]
  exact UInt8.ofNat_toNat
theorem dig_dsOf {t : ByteArray} (h : t.data.toList.all isD = true) : Dig (dsOf t) := by
  intro d hd
  simp only [dsOf, List.mem_map] at hd
  obtain ⟨b, hb, rfl⟩ := hd
  have := List.all_eq_true.1 h b hb
  simp only [isD, Bool.and_eq_true, decide_eq_true_eq] at this
  omega
theorem first_bad : ∀ (l : List UInt8), l.all isD = false → ∃ p, ∃ h : p < l.length, (∀ q (hq : q < p), isD (l[q]'(by omega)) = true) ∧ isD (l[p]'h) = false := by
  intro l
  induction l with
  | nil => intro h; simp at h
  | cons b l ih =>
    intro h
    cases hb : isD b with
    | false => exact ⟨0, by simp, fun q hq => absurd hq (by omega), by simpa using hb⟩
    | true =>
      simp only [List.all_cons, hb, Bool.true_and] at h
      obtain ⟨p, hp, h1, h2⟩ := ih h
      refine ⟨p + 1, by simp; omega, ?_, by simpa using h2⟩
      intro q hq
      cases q with
      | zero => simpa using hb
      | succ q => simpa using h1 q (by omega)
theorem bytes_cases (t : ByteArray) : (Dig (dsOf t) ∧ dstr (dsOf t) = t) ∨ ∃ p, ∃ h : p < t.size, (∀ q (hq : q < p), isD (t[q]'(by omega)) = true) ∧ isD (t[p]'h) = false := by
  cases h : t.data.toList.all isD with
  | true => exact .inl ⟨dig_dsOf h, dstr_dsOf h⟩
  | false =>
    obtain ⟨p, hp, h1, h2⟩ := first_bad _ h
    refine .inr ⟨p, by simpa using hp, ?_, by rw [ByteArray.getElem_eq_getElem_data]; simpa using h2⟩
    intro q hq
    rw [ByteArray.getElem_eq_getElem_data]
    simpa using h1 q hq
end Go.AE
namespace Go.AE.F
def val : List Nat → Nat
  | [] => 0
  | x :: l => x + 10000 * val l
abbrev Lim (l : List Nat) : Prop := ∀ x ∈ l, x < 10000
theorem Lim.get {l : List Nat} (h : Lim l) (i : Nat) : l.getD i 0 < 10000 := by
  rcases Nat.lt_or_ge i l.length with q | q
  · rw [List.getD, List.getElem?_eq_getElem q]
    exact h _ (List.getElem_mem q)
  · rw [List.getD, List.getElem?_eq_none q]
    decide
theorem Lim.set {l : List Nat} (h : Lim l) {i v : Nat} (hv : v < 10000) : Lim (l.set i v) := fun x hx => by
  rcases List.mem_or_eq_of_mem_set hx with q | rfl
  · exact h x q
  · exact hv
theorem Lim.take {l : List Nat} (h : Lim l) (k : Nat) : Lim (l.take k) := fun x hx => h x (List.mem_of_mem_take hx)
theorem Lim.drop {l : List Nat} (h : Lim l) (k : Nat) : Lim (l.drop k) := fun x hx => h x (List.mem_of_mem_drop hx)
theorem Lim.append {l m : List Nat} (h : Lim l) (g : Lim m) : Lim (l ++ m) := fun x hx => by
  rcases List.mem_append.1 hx with q | q
  · exact h x q
  · exact g x q
theorem Lim.replicate (k : Nat) : Lim (List.replicate k 0) := fun x hx => by
  rw [(List.mem_replicate.1 hx).2]; decide
theorem pow_pos (a : Nat) : 0 < 10000 ^ a := Nat.pow_pos (by decide)
end Go.AE.F
namespace Go.AE.F
end Go.AE.F
namespace Go.AE
open Go
theorem fsp_more {P : Program} {G : Nat} {f : FuncId} {args : Array Value} {n : Nat} {v : Value} {L gl : List (Nat × AObj)} (hsub : ∀ x ∈ L, x ∈ gl)
    (S : FSp P G f args n L v (L.map fun x => (x.1, some x.2)) []) : FSp P G f args n gl v (gl.map fun x => (x.1, some x.2)) [] := by
  intro h hn hh ρ w args' HW hargs
  have hL : ∀ x ∈ L, h.get x.1 = some x.2 := fun x hx => hh x (hsub x hx)
  refine (S h hn hL ρ w args' HW hargs).mono ?_
  rintro e w' ⟨ρ', v', rfl, W', E', hr⟩
  have s1 := fun i => (putAll_same hL i).1
  have s2 := fun i => (putAll_same hh i).1
  have hnx : (pushAll (putAll h (gl.map fun x => (x.1, some x.2))) []).next = (pushAll (putAll h (L.map fun x => (x.1, some x.2))) []).next := by
    show (putAll h (gl.map fun x => (x.1, some x.2))).next = (putAll h (L.map fun x => (x.1, some x.2))).next
    rw [(putAll_same hh 0).2, (putAll_same hL 0).2]
  have hsb : ∀ i o, (pushAll (putAll h (gl.map fun x => (x.1, some x.2))) []).get i = some o → (pushAll (putAll h (L.map fun x => (x.1, some x.2))) []).get i = some o := fun i o e => by
    have e' : (putAll h (gl.map fun x => (x.1, some x.2))).get i = some o := e
    show (putAll h (L.map fun x => (x.1, some x.2))).get i = some o
    rw [s1 i, ← s2 i]; exact e'
  exact ⟨ρ', v', rfl, W'.sub hnx hsb, E'.sub hnx hsb, hr⟩
end Go.AE
