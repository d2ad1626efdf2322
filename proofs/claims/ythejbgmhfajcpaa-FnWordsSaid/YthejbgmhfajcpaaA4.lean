/- Contracts: rows compared (eqInt64S, slices.Equal, l1Same, lwNums). -/
import Derived.Test.YthejbgmhfajcpaaA3
namespace Go.Proofs.Ythejbgmhfajcpaa
open Go.RowKit

/-- Are two rows the same? -/
def eqB (n m : Nat) (f g : Nat → Int) : Bool := decide (n = m ∧ ∀ i, i < n → f i = g i)
theorem eqB_no_len {n m : Nat} {f g : Nat → Int} (h : ¬ n = m) : eqB n m f g = false := by simp [eqB, h]
theorem eqB_no {n : Nat} {f g : Nat → Int} (i : Nat) (hi : i < n) (h : ¬ f i = g i) : eqB n n f g = false := by
  simp only [eqB, true_and, decide_eq_false_iff_not]; exact fun k => h (k i hi)
theorem eqB_yes {n : Nat} {f g : Nat → Int} (h : ∀ i, i < n → f i = g i) : eqB n n f g = true := by
  simp only [eqB, true_and, decide_eq_true_eq]; exact h
theorem eqB_true {n m : Nat} {f g : Nat → Int} (h : eqB n m f g = true) : n = m ∧ ∀ i, i < n → f i = g i := by simpa [eqB] using h

/-- A Bool comes back; nothing that was there is turned. -/
def RetBool (W : World) (r : Bool) (e : Ending) (w' : World) : Prop := e = .returned (.bool r) ∧ Below W.heap.size W w'
theorem below_drewN {B : Nat} {a w : World} (h : Below B a w) (k : Nat) : Below B a (w.drewN k) := h.trans ⟨rfl, rfl, rfl, Nat.le_refl _, fun _ _ => rfl⟩

set_option maxHeartbeats 400000 in
theorem eqInts_lens (a1 a2 : Option Addr) (n m c1 c2 : Nat) (w : World) (h : ¬ n = m) :
    Calls Try.prog 67 #[.slice a1 n c1, .slice a2 m c2] w (RetBool w false) := by
  have hd : ((n : Int) == (m : Int)) = false := by simp; omega
  go_enter Try.func67, Try.ntmps67
  go_wp2
  go_ret
  exact ⟨rfl, Below.refl _ _⟩

set_option maxHeartbeats 400000 in
theorem eqInts_same (a1 a2 : Option Addr) (n c1 c2 : Nat) (f g : Nat → Int) (w : World) (s1 : Src w a1 n f) (s2 : Src w a2 n g) (hn : n ≤ 1048576) :
    Calls Try.prog 67 #[.slice a1 n c1, .slice a2 n c2] w (RetBool w (eqB n n f g)) := by
  have S1 := Lib.hid s1
  have S2 := Lib.hid s2
  clear s1 s2
  go_enter Try.func67, Try.ntmps67
  go_wp2
  go_loopw [5] (fun k wr => ∃ i : Nat, i ≤ n ∧ k = .int .i64 i ∧ Hid (Below w.heap.size w wr) ∧ Hid (∀ j, j < i → f j = g j)) (fun k _ => n - (intOf k).toNat)
  case atStart => exact ⟨0, Nat.zero_le _, rfl, Below.refl _ _, fun j hj => by omega⟩
  case round =>
    obtain ⟨i, hi, rfl, HB, HE⟩ := hrel
    by_cases hlt : i < n
    · obtain ⟨b1, o1, rfl, hb1, hc1⟩ := src_some (S1.out.below HB.out) (by omega)
      obtain ⟨b2, o2, rfl, hb2, hc2⟩ := src_some (S2.out.below HB.out) (by omega)
      have d1 := hc1 i hlt
      have d2 := hc2 i hlt
      have hlt' : (i : Int) < (n : Int) := by omega
      clear hc1 hc2
      by_cases he : f i = g i
      · go_wp2
        go_quiet (fail)
        go_wp2
        go_roundw
        case rel => exact ⟨i + 1, by omega, by go_num, below_drewN HB.out _, fun j hj => by
            rcases Nat.lt_succ_iff_lt_or_eq.mp hj with h | h
            · exact HE.out j h
            · subst h; exact he⟩
        case measure => simp [intOf]; omega
      · have hd2 : (f i != g i) = true := by simpa using he
        go_wp2
        go_quiet (fail)
        go_wp2
        go_ret
        exact ⟨by rw [eqB_no i hlt he]; rfl, below_drewN HB.out _⟩
    · go_wp2
      go_ret
      exact ⟨by rw [eqB_yes fun j hj => HE.out j (by omega)]; rfl, HB.out⟩
set_option maxHeartbeats 400000 in
theorem slEqual_lens (a1 a2 : Option Addr) (n m c1 c2 : Nat) (w : World) (h : ¬ n = m) :
    Calls Try.prog 60 #[.slice a1 n c1, .slice a2 m c2] w (RetBool w false) := by
  have hd : ((n : Int) == (m : Int)) = false := by simp; omega
  go_enter Try.func60, Try.ntmps60
  go_wp2
  go_ret
  exact ⟨rfl, Below.refl _ _⟩

set_option maxHeartbeats 400000 in
theorem slEqual_same (a1 a2 : Option Addr) (n c1 c2 : Nat) (f g : Nat → Int) (w : World) (s1 : Src w a1 n f) (s2 : Src w a2 n g) (hn : n ≤ 1048576) :
    Calls Try.prog 60 #[.slice a1 n c1, .slice a2 n c2] w (RetBool w (eqB n n f g)) := by
  have S1 := Lib.hid s1
  have S2 := Lib.hid s2
  clear s1 s2
  go_enter Try.func60, Try.ntmps60
  go_wp2
  go_loopw [13] (fun k wr => ∃ i : Nat, i ≤ n ∧ k = .int .i64 i ∧ Hid (Below w.heap.size w wr) ∧ Hid (∀ j, j < i → f j = g j)) (fun k _ => n - (intOf k).toNat)
  case atStart => exact ⟨0, Nat.zero_le _, rfl, Below.refl _ _, fun j hj => by omega⟩
  case round =>
    obtain ⟨i, hi, rfl, HB, HE⟩ := hrel
    by_cases hlt : i < n
    · obtain ⟨b1, o1, rfl, hb1, hc1⟩ := src_some (S1.out.below HB.out) (by omega)
      obtain ⟨b2, o2, rfl, hb2, hc2⟩ := src_some (S2.out.below HB.out) (by omega)
      have d1 := hc1 i hlt
      have d2 := hc2 i hlt
      have hlt' : (i : Int) < (n : Int) := by omega
      clear hc1 hc2
      by_cases he : f i = g i
      · go_wp2
        go_quiet (fail)
        go_wp2
        go_roundw
        case rel => exact ⟨i + 1, by omega, by go_num, below_drewN HB.out _, fun j hj => by
            rcases Nat.lt_succ_iff_lt_or_eq.mp hj with h | h
            · exact HE.out j h
            · subst h; exact he⟩
        case measure => simp [intOf]; omega
      · have hd2 : (f i != g i) = true := by simpa using he
        go_wp2
        go_quiet (fail)
        go_wp2
        go_ret
        exact ⟨by rw [eqB_no i hlt he]; rfl, below_drewN HB.out _⟩
    · go_wp2
      go_ret
      exact ⟨by rw [eqB_yes fun j hj => HE.out j (by omega)]; rfl, HB.out⟩
set_option maxHeartbeats 400000 in
theorem l1Same_lens (a1 a2 : Option Addr) (n m c1 c2 : Nat) (w : World) (h : ¬ n = m) :
    Calls Try.prog 61 #[.slice a1 n c1, .slice a2 m c2] w (RetBool w false) := by
  have hd : ((n : Int) == (m : Int)) = false := by simp; omega
  go_enter Try.func61, Try.ntmps61
  go_wp2
  go_ret
  exact ⟨rfl, Below.refl _ _⟩

set_option maxHeartbeats 400000 in
theorem l1Same_same (a1 a2 : Option Addr) (n c1 c2 : Nat) (f g : Nat → Int) (w : World) (s1 : Src w a1 n f) (s2 : Src w a2 n g) (hn : n ≤ 1048576) :
    Calls Try.prog 61 #[.slice a1 n c1, .slice a2 n c2] w (RetBool w (eqB n n f g)) := by
  have S1 := Lib.hid s1
  have S2 := Lib.hid s2
  clear s1 s2
  go_enter Try.func61, Try.ntmps61
  go_wp2
  go_loopw [5] (fun k wr => ∃ i : Nat, i ≤ n ∧ k = .int .i64 i ∧ Hid (Below w.heap.size w wr) ∧ Hid (∀ j, j < i → f j = g j)) (fun k _ => n - (intOf k).toNat)
  case atStart => exact ⟨0, Nat.zero_le _, rfl, Below.refl _ _, fun j hj => by omega⟩
  case round =>
    obtain ⟨i, hi, rfl, HB, HE⟩ := hrel
    by_cases hlt : i < n
    · obtain ⟨b1, o1, rfl, hb1, hc1⟩ := src_some (S1.out.below HB.out) (by omega)
      obtain ⟨b2, o2, rfl, hb2, hc2⟩ := src_some (S2.out.below HB.out) (by omega)
      have d1 := hc1 i hlt
      have d2 := hc2 i hlt
      have hlt' : (i : Int) < (n : Int) := by omega
      clear hc1 hc2
      by_cases he : f i = g i
      · go_wp2
        go_quiet (fail)
        go_wp2
        go_roundw
        case rel => exact ⟨i + 1, by omega, by go_num, below_drewN HB.out _, fun j hj => by
            rcases Nat.lt_succ_iff_lt_or_eq.mp hj with h | h
            · exact HE.out j h
            · subst h; exact he⟩
        case measure => simp [intOf]; omega
      · have hd2 : (f i != g i) = true := by simpa using he
        go_wp2
        go_quiet (fail)
        go_wp2
        go_ret
        exact ⟨by rw [eqB_no i hlt he]; rfl, below_drewN HB.out _⟩
    · go_wp2
      go_ret
      exact ⟨by rw [eqB_yes fun j hj => HE.out j (by omega)]; rfl, HB.out⟩
set_option maxHeartbeats 400000 in
theorem lwNums_lens (a1 a2 : Option Addr) (n m c1 c2 : Nat) (w : World) (h : ¬ n = m) :
    Calls Try.prog 35 #[.slice a1 n c1, .slice a2 m c2] w (RetBool w false) := by
  have hd : ((n : Int) == (m : Int)) = false := by simp; omega
  go_enter Try.func35, Try.ntmps35
  go_wp2
  go_ret
  exact ⟨rfl, Below.refl _ _⟩

set_option maxHeartbeats 400000 in
theorem lwNums_same (a1 a2 : Option Addr) (n c1 c2 : Nat) (f g : Nat → Int) (w : World) (s1 : Src w a1 n f) (s2 : Src w a2 n g) (hn : n ≤ 1048576) :
    Calls Try.prog 35 #[.slice a1 n c1, .slice a2 n c2] w (RetBool w (eqB n n f g)) := by
  have S1 := Lib.hid s1
  have S2 := Lib.hid s2
  clear s1 s2
  go_enter Try.func35, Try.ntmps35
  go_wp2
  go_loopw [5] (fun k wr => ∃ i : Nat, i ≤ n ∧ k = .int .i64 i ∧ Hid (Below w.heap.size w wr) ∧ Hid (∀ j, j < i → f j = g j)) (fun k _ => n - (intOf k).toNat)
  case atStart => exact ⟨0, Nat.zero_le _, rfl, Below.refl _ _, fun j hj => by omega⟩
  case round =>
    obtain ⟨i, hi, rfl, HB, HE⟩ := hrel
    by_cases hlt : i < n
    · obtain ⟨b1, o1, rfl, hb1, hc1⟩ := src_some (S1.out.below HB.out) (by omega)
      obtain ⟨b2, o2, rfl, hb2, hc2⟩ := src_some (S2.out.below HB.out) (by omega)
      have d1 := hc1 i hlt
      have d2 := hc2 i hlt
      have hlt' : (i : Int) < (n : Int) := by omega
      clear hc1 hc2
      by_cases he : f i = g i
      · go_wp2
        go_quiet (fail)
        go_wp2
        go_roundw
        case rel => exact ⟨i + 1, by omega, by go_num, below_drewN HB.out _, fun j hj => by
            rcases Nat.lt_succ_iff_lt_or_eq.mp hj with h | h
            · exact HE.out j h
            · subst h; exact he⟩
        case measure => simp [intOf]; omega
      · have hd2 : (f i != g i) = true := by simpa using he
        go_wp2
        go_quiet (fail)
        go_wp2
        go_ret
        exact ⟨by rw [eqB_no i hlt he]; rfl, below_drewN HB.out _⟩
    · go_wp2
      go_ret
      exact ⟨by rw [eqB_yes fun j hj => HE.out j (by omega)]; rfl, HB.out⟩
end Go.Proofs.Ythejbgmhfajcpaa
