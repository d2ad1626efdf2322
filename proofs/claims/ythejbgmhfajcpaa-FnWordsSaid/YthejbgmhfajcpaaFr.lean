/- How an argument of the type laws.Arena is opened. -/
import Derived.Test.YthejbgmhfajcpaaMem
import Derived.Test.YthejbgmhfajcpaaRows
import Derived.ProofKit
import Derived.Lib.SmallJoins
namespace Go.Proofs.Ythejbgmhfajcpaa
open Go.ChangeShapes Go.WideShapes Go.ChangeAt Go.RowKit Go.Joins

theorem Try.own : ownKnob Try.prog.godebug = none := by kernel_rfl
theorem Try.laidOut : laidOutB Try.prog = true := by kernel_rfl
theorem Try.cells45 : Try.prog.cellsOf 45 = 4 := by kernel_rfl

/-- What came in: an arena whose words are read. -/
theorem open_arena {H : Type} {enc : TypeId × Value → H} {W : World} {base : Nat} {v0 : Value} {d0 : DataW H} {p0 : List MemPlace}
    (hv : Value.okWide Try.prog W .any base 45 v0) (h0 : DataW.Trod enc Try.prog W 0 (fun _ => true) true 45 v0 d0 p0) (hlt : ∀ x ∈ p0, x.block < W.heap.size) :
    ∃ (h ac bu : Int) (a : Option Addr) (n c : Nat) (f : Nat → Int), v0 = .agg #[.int .i64 h, .slice a n c, .int .i64 ac, .int .i64 bu] ∧ Src W a n f ∧ n ≤ maxLen := by
  obtain ⟨c0, c1, c2, c3, y0, y1, y2, y3, m, rfl, rfl, rfl, hy0, hy1, hy2, hy3⟩ := open_agg4 Try.underlying45 (by kernel_rfl) Try.cells45 hv h0
  obtain ⟨h, e0, _, _⟩ := DataW.trod_int Try.underlying2 hy0
  obtain ⟨ac, e2, _, _⟩ := DataW.trod_int Try.underlying2 hy2
  obtain ⟨bu, e3, _, _⟩ := DataW.trod_int Try.underlying2 hy3
  simp only [List.cons.injEq, and_true] at e0 e2 e3
  subst e0 e2 e3
  rcases open_ints Try.underlying24 Try.underlying2 (by kernel_rfl) hy1 with ⟨hcs, _⟩ | ⟨x, l, c, zs, hcs, _, hl, hm, hz, _, hcell, hwz⟩
  · simp only [List.cons.injEq, and_true] at hcs
    subst hcs
    exact ⟨h, ac, bu, none, 0, 0, fun _ => 0, rfl, .inl rfl, Nat.zero_le _⟩
  · simp only [List.cons.injEq, and_true] at hcs
    subst hcs
    refine ⟨h, ac, bu, some x, l, c, fun i => zs.getD i 0, rfl, ?_, by omega⟩
    by_cases h0 : l = 0
    · exact .inl h0
    · right
      have hlz : l ≤ zs.length := by
        rw [hz]; split
        · exact hl
        · exact Nat.le_refl _
      obtain ⟨b, off, spot⟩ := x
      have hc := hcell 0 (by omega)
      have hspot : spot = none := by simpa [Addr.add] using World.cell?_spot hc
      subst hspot
      refine ⟨b, off, rfl, World.block_lt_of_cell? W _ (by simpa [Addr.add] using hc), fun i hi => ?_⟩
      have := hcell i (by omega)
      rcases i with _ | i
      · simpa [Addr.add] using this
      · simpa [Addr.add] using this
end Go.Proofs.Ythejbgmhfajcpaa
