/- l2Power. -/
import Derived.Test.YtflhjbcpffhanaaS2
namespace Go.Proofs.Ytflhjbcpffhanaa
open Go.RowKit
set_option linter.unusedVariables false

/-- 2 to the power of a number. -/
def P2 (s : Int) : Int := 2 ^ s.toNat
theorem P2_succ (i : Nat) : P2 ((i : Int) + 1) = P2 i * 2 := by
  unfold P2
  have : ((i : Int) + 1).toNat = (i : Int).toNat + 1 := by omega
  rw [this, Int.pow_succ]
theorem P2_nat (n : Nat) : P2 n = ((2 ^ n : Nat) : Int) := by simp [P2]
theorem P2_pos (s : Int) : 1 ≤ P2 s := by
  unfold P2
  have : (0 : Int) < 2 ^ s.toNat := Int.pow_pos (by omega)
  omega
theorem P2_le {s : Int} (h : s ≤ 12) : P2 s ≤ 4096 := by
  unfold P2
  have h1 : s.toNat ≤ 12 := by omega
  have : (2 : Nat) ^ s.toNat ≤ 2 ^ 12 := Nat.pow_le_pow_right (by omega) h1
  have e : ((2 ^ s.toNat : Nat) : Int) = (2 : Int) ^ s.toNat := by simp
  rw [← e]; omega

set_option maxHeartbeats 400000 in
theorem power_any (n : Nat) (w : World) (hn : n ≤ 12) :
    Calls Try.prog 51 #[.int .i64 (n : Int)] w fun e w' => e = .returned (.int .i64 (P2 n)) ∧ w = w' := by
  go_enter Try.func51, Try.ntmps51
  go_wp2
  go_loop [3, 0] (fun q p => ∃ i : Nat, i ≤ n ∧ q = .int .i64 (P2 i) ∧ p = .int .i64 ((n : Int) - i)) (fun _ p => (intOf p).toNat)
  case atStart => exact ⟨0, Nat.zero_le _, rfl, by simp⟩
  case round =>
    obtain ⟨i, hi, rfl, rfl⟩ := hrel
    by_cases hlt : i < n
    · have h1 : 0 < (n : Int) - (i : Int) := by omega
      have h2 := P2_pos i
      have h3 := P2_le (s := (i : Int)) (by omega)
      go_wp2
      go_round
      case rel => exact ⟨i + 1, by omega, by rw [Int.natCast_succ, P2_succ], by simp; omega⟩
      case measure => simp [intOf]; omega
    · obtain rfl : i = n := by omega
      go_wp2
      go_ret
      exact ⟨rfl, rfl⟩

end Go.Proofs.Ytflhjbcpffhanaa
