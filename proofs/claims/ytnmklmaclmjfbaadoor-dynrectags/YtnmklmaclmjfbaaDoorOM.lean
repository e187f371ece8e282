/- Plain mathematics for layer 1: bytes and numbers. No Go here. -/
namespace Go.Proofs.YtnmklmaclmjfbaaDoor
namespace Num

theorem snoc_ind {α : Type} {P : List α → Prop} (h0 : P []) (h1 : ∀ l b, P l → P (l ++ [b])) (l : List α) : P l := by
  have h : ∀ r : List α, P r.reverse := by
    intro r
    induction r with
    | nil => exact h0
    | cons b r ih => rw [List.reverse_cons]; exact h1 _ _ ih
  have := h l.reverse
  rwa [List.reverse_reverse] at this

/-- The number of bytes, highest first. -/
def horner (l : List UInt8) : Nat := l.foldl (fun a b => 256 * a + b.toNat) 0
theorem horner_nil : horner [] = 0 := rfl
theorem horner_snoc (l : List UInt8) (b : UInt8) : horner (l ++ [b]) = 256 * horner l + b.toNat := by simp [horner]
theorem horner_lt (l : List UInt8) : horner l < 256 ^ l.length := by
  refine snoc_ind (P := fun l => horner l < 256 ^ l.length) (by simp [horner]) ?_ l
  intro l b ih
  rw [horner_snoc, List.length_append, List.length_singleton, Nat.pow_succ]
  have := b.toNat_lt
  omega
theorem horner_cons (b : UInt8) (l : List UInt8) : horner (b :: l) = b.toNat * 256 ^ l.length + horner l := by
  refine snoc_ind (P := fun l => horner (b :: l) = b.toNat * 256 ^ l.length + horner l) (by simp [horner]) ?_ l
  intro l c ih
  rw [← List.cons_append, horner_snoc, horner_snoc, ih, List.length_append, List.length_singleton, Nat.pow_succ]
  rw [Nat.mul_add, Nat.add_assoc, ← Nat.mul_assoc, ← Nat.mul_assoc, Nat.mul_comm 256 b.toNat, Nat.mul_assoc b.toNat 256, Nat.mul_assoc b.toNat, Nat.mul_comm 256 (256 ^ l.length)]

/-- The k lowest bytes of n, lowest first. -/
def leB (n : Nat) : Nat → List UInt8
  | 0 => []
  | k + 1 => leB n k ++ [UInt8.ofNat (n / 256 ^ k)]
theorem leB_length (n k : Nat) : (leB n k).length = k := by
  induction k with
  | zero => rfl
  | succ k ih => simp [leB, ih]
theorem leB_cons (n k : Nat) : leB n (k + 1) = UInt8.ofNat n :: leB (n / 256) k := by
  induction k with
  | zero => simp [leB]
  | succ k ih =>
    rw [leB, ih, List.cons_append, leB, Nat.pow_succ, Nat.div_div_eq_div_mul, Nat.mul_comm]
theorem ofNat_add_mul (b : UInt8) (m : Nat) : UInt8.ofNat (256 * m + b.toNat) = b := by
  apply UInt8.toNat_inj.1
  rw [UInt8.toNat_ofNat']
  have := b.toNat_lt
  omega
theorem leB_horner (l : List UInt8) : leB (horner l) l.length = l.reverse := by
  refine snoc_ind (P := fun l => leB (horner l) l.length = l.reverse) rfl ?_ l
  intro l b ih
  rw [List.length_append, List.length_singleton, leB_cons, horner_snoc, ofNat_add_mul, List.reverse_append]
  have : (256 * horner l + b.toNat) / 256 = horner l := by have := b.toNat_lt; omega
  rw [this, ih]
  rfl

/-- The bytes of n in size of them, highest first if big; none if that size may not be. -/
def putL (big : Bool) (n : Nat) (size : Int) : List UInt8 :=
  if 1 ≤ size ∧ size ≤ 8 then (if big then (leB n size.toNat).reverse else leB n size.toNat) else []
/-- The number of bytes; 0 for more than eight. -/
def getN (big : Bool) (l : List UInt8) : Nat :=
  if l.length ≤ 8 then (if big then horner l else horner l.reverse) else 0
end Num
end Go.Proofs.YtnmklmaclmjfbaaDoor
