/- Bits: what &, | are over the numbers of a head. -/
import Derived.Test.YtflhjbcpffhanaaH1
namespace Go.Proofs.Ytflhjbcpffhanaa
open Go.RowKit
set_option linter.unusedVariables false

/-- The low bits of a number. -/
theorem bits_and_low (j : Nat) (hj : j ≤ 20) (x : Int) : bits .and .i64 x ((2 ^ j - 1 : Nat) : Int) = x % ((2 ^ j : Nat) : Int) := by
  have hp : (2 : Nat) ^ j ≤ 2 ^ 20 := Nat.pow_le_pow_right (by omega) hj
  have hp0 : 0 < (2 : Nat) ^ j := Nat.two_pow_pos j
  have hdv : ((2 ^ j : Nat) : Int) ∣ (2 : Int) ^ 64 := ⟨((2 ^ (64 - j) : Nat) : Int), by rw [← Int.natCast_mul, ← Nat.pow_add]; rw [show j + (64 - j) = 64 by omega]; rfl⟩
  have e1 : (BitVec.ofInt 64 x).toNat = (x % 2 ^ 64).toNat := by simp [BitVec.toNat_ofInt]
  have e2 : (BitVec.ofInt 64 ((2 ^ j - 1 : Nat) : Int)).toNat = 2 ^ j - 1 := by
    rw [BitVec.toNat_ofInt]; omega
  have e3 : (BitVec.ofInt 64 x &&& BitVec.ofInt 64 ((2 ^ j - 1 : Nat) : Int)).toNat = (x % 2 ^ 64).toNat % 2 ^ j := by
    rw [BitVec.toNat_and, e1, e2, Nat.and_two_pow_sub_one_eq_mod]
  have e4 : (((x % 2 ^ 64).toNat % 2 ^ j : Nat) : Int) = x % ((2 ^ j : Nat) : Int) := by
    rw [Int.natCast_emod, Int.toNat_of_nonneg (Int.emod_nonneg _ (by decide)), Int.emod_emod_of_dvd _ hdv]
  have e5 : bits .and .i64 x ((2 ^ j - 1 : Nat) : Int) = IntKind.i64.wrap (((x % 2 ^ 64).toNat % 2 ^ j : Nat) : Int) := by rw [← e3]; rfl
  rw [e5, e4, IntWalk.i64_in _ (by have := Int.emod_nonneg x (b := ((2 ^ j : Nat) : Int)) (by omega); have := Int.emod_lt_of_pos x (b := ((2 ^ j : Nat) : Int)) (by omega); omega)]
theorem bits_and_1 (x : Int) : bits .and .i64 x 1 = x % 2 := bits_and_low 1 (by omega) x
theorem bits_and_15 (x : Int) : bits .and .i64 x 15 = x % 16 := bits_and_low 4 (by omega) x
theorem bits_and_4095 (x : Int) : bits .and .i64 x 4095 = x % 4096 := bits_and_low 12 (by omega) x
/-- Bits that do not meet are a sum. -/
theorem bits_or_add (j : Nat) (x q : Int) (h0 : 0 ≤ x) (h1 : x < ((2 ^ j : Nat) : Int)) (h2 : 0 ≤ q) (h3 : x + q * ((2 ^ j : Nat) : Int) < 2 ^ 62) (h4 : 0 ≤ q * ((2 ^ j : Nat) : Int)) :
    bits .or .i64 x (q * ((2 ^ j : Nat) : Int)) = x + q * ((2 ^ j : Nat) : Int) := by
  obtain ⟨X, rfl⟩ : ∃ X : Nat, x = X := ⟨x.toNat, by omega⟩
  obtain ⟨Q, rfl⟩ : ∃ Q : Nat, q = Q := ⟨q.toNat, by omega⟩
  have hX : X < 2 ^ j := by omega
  have hm : ((Q : Int) * ((2 ^ j : Nat) : Int)) = ((2 ^ j * Q : Nat) : Int) := by rw [Nat.mul_comm]; simp
  rw [hm] at h3 h4 ⊢
  have e1 : (BitVec.ofInt 64 (X : Int)).toNat = X := by rw [BitVec.toNat_ofInt]; omega
  have e2 : (BitVec.ofInt 64 ((2 ^ j * Q : Nat) : Int)).toNat = 2 ^ j * Q := by rw [BitVec.toNat_ofInt]; omega
  have e3 : (BitVec.ofInt 64 (X : Int) ||| BitVec.ofInt 64 ((2 ^ j * Q : Nat) : Int)).toNat = 2 ^ j * Q + X := by
    rw [BitVec.toNat_or, e1, e2, Nat.or_comm, Nat.two_pow_add_eq_or_of_lt hX]
  have e5 : bits .or .i64 (X : Int) ((2 ^ j * Q : Nat) : Int) = IntKind.i64.wrap ((2 ^ j * Q + X : Nat) : Int) := by rw [← e3]; rfl
  rw [e5, IntWalk.i64_in _ (by omega)]
  omega
/-- The first word of a head. -/
theorem pack_bits (s m o : Int) (h1 : 0 ≤ s ∧ s ≤ 12) (h2 : 0 ≤ m ∧ m ≤ 4095) (h3 : 0 ≤ o ∧ o ≤ 3) :
    bits .or .i64 (bits .or .i64 (bits .or .i64 1 (s * 2)) (m * 32)) (o * 131072) = 1 + 2 * (s + 16 * (m + 4096 * o)) := by
  rw [show bits .or .i64 1 (s * 2) = 1 + s * 2 from bits_or_add 1 1 s (by omega) (by omega) h1.1 (by omega) (by omega)]
  rw [show bits .or .i64 (1 + s * 2) (m * 32) = 1 + s * 2 + m * 32 from bits_or_add 5 _ m (by omega) (by omega) h2.1 (by omega) (by omega)]
  rw [show bits .or .i64 (1 + s * 2 + m * 32) (o * 131072) = 1 + s * 2 + m * 32 + o * 131072 from bits_or_add 17 _ o (by omega) (by omega) h3.1 (by omega) (by omega)]
  omega

end Go.Proofs.Ytflhjbcpffhanaa
