import Derived.Test.YtlfjnddmeeigfabGreatDoorA19
namespace Go.AE
open Go

mutual
def veq : Value → Value → Bool
  | .bool a, .bool b => a == b
  | .int k n, .int k' n' => decide (k = k') && decide (n = n')
  | .string a, .string b => decide (a.data.toList = b.data.toList)
  | .pointer a, .pointer b => decide (a = b)
  | .slice a n c, .slice b m d => decide (a = b) && (n.beq m && c.beq d)
  | .map a, .map b => decide (a = b)
  | .func f x y, .func g z u => decide (f = g) && (veqA x z && veqA y u)
  | .nilFunc, .nilFunc => true
  | .iface t v, .iface u x => t.beq u && veq v x
  | .nilIface, .nilIface => true
  | .agg x, .agg y => veqA x y
  | .tuple x, .tuple y => veqA x y
  | _, _ => false
def veqA : Array Value → Array Value → Bool
  | ⟨x⟩, ⟨y⟩ => veqL x y
def veqL : List Value → List Value → Bool
  | [], [] => true
  | v :: l, u :: m => veq v u && veqL l m
  | _, _ => false
end

mutual
theorem veq_sound : ∀ a b, veq a b = true → a = b
  | .bool a, .bool b, h => by simp [veq] at h; rw [h]
  | .int k n, .int k' n', h => by simp [veq] at h; rw [h.1, h.2]
  | .string a, .string b, h => by
    simp only [veq, decide_eq_true_eq] at h
    congr 1
    cases a; cases b
    simp at h
    rw [h]
  | .pointer a, .pointer b, h => by simp [veq] at h; rw [h]
  | .slice a n c, .slice b m d, h => by simp [veq] at h; rw [h.1, h.2.1, h.2.2]
  | .map a, .map b, h => by simp [veq] at h; rw [h]
  | .func f x y, .func g z u, h => by
    simp only [veq, Bool.and_eq_true, decide_eq_true_eq] at h
    rw [h.1, veqA_sound x z h.2.1, veqA_sound y u h.2.2]
  | .nilFunc, .nilFunc, _ => rfl
  | .iface t v, .iface u x, h => by
    simp only [veq, Bool.and_eq_true] at h
    rw [Nat.eq_of_beq_eq_true h.1, veq_sound v x h.2]
  | .nilIface, .nilIface, _ => rfl
  | .agg x, .agg y, h => by
    simp only [veq] at h
    rw [veqA_sound x y h]
  | .tuple x, .tuple y, h => by
    simp only [veq] at h
    rw [veqA_sound x y h]
  | .bool _, .int .., h | .bool _, .float .., h | .bool _, .complex .., h | .bool _, .string .., h | .bool _, .pointer .., h | .bool _, .slice .., h | .bool _, .map .., h | .bool _, .chan .., h | .bool _, .func .., h | .bool _, .nilFunc, h | .bool _, .iface .., h | .bool _, .nilIface, h | .bool _, .agg .., h | .bool _, .tuple .., h => by simp [veq] at h
  | .int .., .bool .., h | .int .., .float .., h | .int .., .complex .., h | .int .., .string .., h | .int .., .pointer .., h | .int .., .slice .., h | .int .., .map .., h | .int .., .chan .., h | .int .., .func .., h | .int .., .nilFunc, h | .int .., .iface .., h | .int .., .nilIface, h | .int .., .agg .., h | .int .., .tuple .., h => by simp [veq] at h
  | .float .., _, h => by simp [veq] at h
  | .complex .., _, h => by simp [veq] at h
  | .chan .., _, h => by simp [veq] at h
  | .string .., .bool .., h | .string .., .int .., h | .string .., .float .., h | .string .., .complex .., h | .string .., .pointer .., h | .string .., .slice .., h | .string .., .map .., h | .string .., .chan .., h | .string .., .func .., h | .string .., .nilFunc, h | .string .., .iface .., h | .string .., .nilIface, h | .string .., .agg .., h | .string .., .tuple .., h => by simp [veq] at h
  | .pointer .., .bool .., h | .pointer .., .int .., h | .pointer .., .float .., h | .pointer .., .complex .., h | .pointer .., .string .., h | .pointer .., .slice .., h | .pointer .., .map .., h | .pointer .., .chan .., h | .pointer .., .func .., h | .pointer .., .nilFunc, h | .pointer .., .iface .., h | .pointer .., .nilIface, h | .pointer .., .agg .., h | .pointer .., .tuple .., h => by simp [veq] at h
  | .slice .., .bool .., h | .slice .., .int .., h | .slice .., .float .., h | .slice .., .complex .., h | .slice .., .string .., h | .slice .., .pointer .., h | .slice .., .map .., h | .slice .., .chan .., h | .slice .., .func .., h | .slice .., .nilFunc, h | .slice .., .iface .., h | .slice .., .nilIface, h | .slice .., .agg .., h | .slice .., .tuple .., h => by simp [veq] at h
  | .map .., .bool .., h | .map .., .int .., h | .map .., .float .., h | .map .., .complex .., h | .map .., .string .., h | .map .., .pointer .., h | .map .., .slice .., h | .map .., .chan .., h | .map .., .func .., h | .map .., .nilFunc, h | .map .., .iface .., h | .map .., .nilIface, h | .map .., .agg .., h | .map .., .tuple .., h => by simp [veq] at h
  | .func .., .bool .., h | .func .., .int .., h | .func .., .float .., h | .func .., .complex .., h | .func .., .string .., h | .func .., .pointer .., h | .func .., .slice .., h | .func .., .map .., h | .func .., .chan .., h | .func .., .nilFunc, h | .func .., .iface .., h | .func .., .nilIface, h | .func .., .agg .., h | .func .., .tuple .., h => by simp [veq] at h
  | .nilFunc, .bool .., h | .nilFunc, .int .., h | .nilFunc, .float .., h | .nilFunc, .complex .., h | .nilFunc, .string .., h | .nilFunc, .pointer .., h | .nilFunc, .slice .., h | .nilFunc, .map .., h | .nilFunc, .chan .., h | .nilFunc, .func .., h | .nilFunc, .iface .., h | .nilFunc, .nilIface, h | .nilFunc, .agg .., h | .nilFunc, .tuple .., h => by simp [veq] at h
  | .iface .., .bool .., h | .iface .., .int .., h | .iface .., .float .., h | .iface .., .complex .., h | .iface .., .string .., h | .iface .., .pointer .., h | .iface .., .slice .., h | .iface .., .map .., h | .iface .., .chan .., h | .iface .., .func .., h | .iface .., .nilFunc, h | .iface .., .nilIface, h | .iface .., .agg .., h | .iface .., .tuple .., h => by simp [veq] at h
  | .nilIface, .bool .., h | .nilIface, .int .., h | .nilIface, .float .., h | .nilIface, .complex .., h | .nilIface, .string .., h | .nilIface, .pointer .., h | .nilIface, .slice .., h | .nilIface, .map .., h | .nilIface, .chan .., h | .nilIface, .func .., h | .nilIface, .nilFunc, h | .nilIface, .iface .., h | .nilIface, .agg .., h | .nilIface, .tuple .., h => by simp [veq] at h
  | .agg .., .bool .., h | .agg .., .int .., h | .agg .., .float .., h | .agg .., .complex .., h | .agg .., .string .., h | .agg .., .pointer .., h | .agg .., .slice .., h | .agg .., .map .., h | .agg .., .chan .., h | .agg .., .func .., h | .agg .., .nilFunc, h | .agg .., .iface .., h | .agg .., .nilIface, h | .agg .., .tuple .., h => by simp [veq] at h
  | .tuple .., .bool .., h | .tuple .., .int .., h | .tuple .., .float .., h | .tuple .., .complex .., h | .tuple .., .string .., h | .tuple .., .pointer .., h | .tuple .., .slice .., h | .tuple .., .map .., h | .tuple .., .chan .., h | .tuple .., .func .., h | .tuple .., .nilFunc, h | .tuple .., .iface .., h | .tuple .., .nilIface, h | .tuple .., .agg .., h => by simp [veq] at h
theorem veqA_sound : ∀ a b, veqA a b = true → a = b
  | ⟨x⟩, ⟨y⟩, h => by
    simp only [veqA] at h
    rw [veqL_sound x y h]
theorem veqL_sound : ∀ a b, veqL a b = true → a = b
  | [], [], _ => rfl
  | v :: l, u :: m, h => by
    simp only [veqL, Bool.and_eq_true] at h
    rw [veq_sound v u h.1, veqL_sound l m h.2]
  | [], _ :: _, h | _ :: _, [], h => by simp [veqL] at h
end

def aoeq : AObj → AObj → Bool
  | .cells c t o r, .cells c' t' o' r' => veqL c c' && (t.beq t' && (decide (o = o') && r == r'))
  | .iter s p, .iter s' p' => decide (s.data.toList = s'.data.toList) && p.beq p'
  | .defd none, .defd none => true
  | _, _ => false
theorem aoeq_sound : ∀ a b, aoeq a b = true → a = b := by
  intro a b h
  unfold aoeq at h
  split at h
  · simp only [Bool.and_eq_true, decide_eq_true_eq, beq_iff_eq] at h
    rw [veqL_sound _ _ h.1, Nat.eq_of_beq_eq_true h.2.1, h.2.2.1, h.2.2.2]
  · rename_i s p s' p'
    simp only [Bool.and_eq_true, decide_eq_true_eq] at h
    have : s = s' := by
      cases s; cases s'
      simp at h
      rw [h.1]
    rw [this, Nat.eq_of_beq_eq_true h.2]
  · rfl
  · cases h

def ooeq : Option AObj → Option AObj → Bool
  | none, none => true
  | some a, some b => aoeq a b
  | _, _ => false
theorem ooeq_sound : ∀ a b, ooeq a b = true → a = b
  | none, none, _ => rfl
  | some a, some b, h => by rw [aoeq_sound a b h]
  | none, some _, h | some _, none, h => by simp [ooeq] at h

def teq : T AObj → T AObj → Bool
  | .lf, .lf => true
  | .nd l o r, .nd l' o' r' => ooeq o o' && (teq l l' && teq r r')
  | _, _ => false
theorem teq_sound : ∀ a b, teq a b = true → a = b
  | .lf, .lf, _ => rfl
  | .nd l o r, .nd l' o' r', h => by
    simp only [teq, Bool.and_eq_true] at h
    rw [ooeq_sound _ _ h.1, teq_sound l l' h.2.1, teq_sound r r' h.2.2]
  | .lf, .nd .., h | .nd .., .lf, h => by simp [teq] at h
end Go.AE
