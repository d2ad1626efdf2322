/- try -/
import Derived.Test.YthejbgmhfajcpaaA1
namespace Go.Proofs.Ythejbgmhfajcpaa
open Go.RowKit

/-- Three cells hold one bound. -/
def B3 (w : World) (b o : Nat) (v l g : Int) : Prop :=
  w.cell? ⟨b, o, none⟩ = some (.int .i64 v) ∧ w.cell? ⟨b, o + 1, none⟩ = some (.int .i64 l) ∧ w.cell? ⟨b, o + 2, none⟩ = some (.int .i64 g)
theorem B3.below {w w' : World} {b o : Nat} {v l g : Int} {B : Nat} (h : B3 w b o v l g) (hb : Below B w w') (hlt : b < B) : B3 w' b o v l g :=
  ⟨(hb.cell (p := ⟨b, o, none⟩) hlt).trans h.1, (hb.cell (p := ⟨b, o + 1, none⟩) hlt).trans h.2.1, (hb.cell (p := ⟨b, o + 2, none⟩) hlt).trans h.2.2⟩

-- All bounds hold.
set_option maxHeartbeats 400000 in
theorem isOut_no (b n : Nat) (v l g : Nat → Int) (w : World) (hn : n ≤ 3) (hb : b < w.heap.size)
   (h0 : ∀ i, i < n → B3 w b (i * 3) (v i) (l i) (g i)) (h1 : ∀ i, i < n → l i ≤ v i ∧ v i ≤ g i) :
    Calls Try.prog 47 #[.slice (some ⟨b, 0, none⟩) n n] w fun e w' => e = .returned (.bool false) ∧ Below w.heap.size w w' := by
  go_enter Try.func47, Try.ntmps47
  go_wp2
  go_loopw [7] (fun k wr => ∃ i : Nat, i ≤ n ∧ k = .int .i64 i ∧ Below w.heap.size w wr) (fun k _ => n - (intOf k).toNat)
  case atStart => exact ⟨0, Nat.zero_le _, rfl, Below.refl _ _⟩
  case round =>
    obtain ⟨i, hi, rfl, hbel⟩ := hrel
    by_cases hlt : i < n
    · obtain ⟨c1, c2, c3⟩ := (h0 i hlt).below hbel hb
      obtain ⟨d1, d2⟩ := h1 i hlt
      have hs := hbel.size
      clear h0 h1
      go_wp2
      go_roundw
      case rel => exact ⟨i + 1, by omega, by go_num, hbel.alloc hs _⟩
      case measure => simp [intOf]; omega
    · clear h0 h1
      go_wp2
      go_ret
      exact ⟨rfl, hbel⟩

-- Some bound does not hold.
set_option maxHeartbeats 400000 in
theorem isOut_yes (b n : Nat) (v l g : Nat → Int) (w : World) (hn : n ≤ 3) (hb : b < w.heap.size)
   (h0 : ∀ i, i < n → B3 w b (i * 3) (v i) (l i) (g i)) (h1 : ∃ i, i < n ∧ ¬ (l i ≤ v i ∧ v i ≤ g i)) :
    Calls Try.prog 47 #[.slice (some ⟨b, 0, none⟩) n n] w fun e w' => e = .returned (.bool true) ∧ Below w.heap.size w w' := by
  have H1 := Lib.hid h1
  clear h1
  go_enter Try.func47, Try.ntmps47
  go_wp2
  go_loopw [7] (fun k wr => ∃ i : Nat, i ≤ n ∧ k = .int .i64 i ∧ Below w.heap.size w wr ∧ Hid (∀ j, j < i → l j ≤ v j ∧ v j ≤ g j)) (fun k _ => n - (intOf k).toNat)
  case atStart => exact ⟨0, Nat.zero_le _, rfl, Below.refl _ _, fun j hj => by omega⟩
  case round =>
    obtain ⟨i, hi, rfl, hbel, hH⟩ := hrel
    by_cases hlt : i < n
    · obtain ⟨c1, c2, c3⟩ := (h0 i hlt).below hbel hb
      have hs := hbel.size
      clear h0
      by_cases e1 : v i < l i
      · go_wp2
        go_ret
        exact ⟨rfl, hbel.alloc hs _⟩
      · by_cases e2 : g i < v i
        · go_wp2
          go_ret
          exact ⟨rfl, hbel.alloc hs _⟩
        · go_wp2
          go_roundw
          case rel => exact ⟨i + 1, by omega, by go_num, hbel.alloc hs _, fun j hj => by
            rcases Nat.lt_succ_iff_lt_or_eq.mp hj with h | h
            · exact hH.out j h
            · subst h; omega⟩
          case measure => simp [intOf]; omega
    · exfalso
      obtain ⟨j, hj, hj'⟩ := H1.out
      exact hj' (hH.out j (by omega))
end Go.Proofs.Ythejbgmhfajcpaa
