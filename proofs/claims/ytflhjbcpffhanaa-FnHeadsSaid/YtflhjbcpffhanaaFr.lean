/- How arguments are opened: a head, a row of numbers. -/
import Derived.Test.YtflhjbcpffhanaaS4
import Derived.ProofKit
import Derived.Lib.SmallJoins
import Derived.OpenShut
namespace Go.Proofs.Ytflhjbcpffhanaa
open Go.ChangeShapes Go.WideShapes Go.ChangeAt Go.RowKit Go.Joins
set_option linter.unusedVariables false

theorem Try.own : ownKnob Try.prog.godebug = none := by kernel_rfl
theorem Try.laidOut : laidOutB Try.prog = true := by kernel_rfl
theorem Try.cells43 : Try.prog.cellsOf 43 = 4 := by kernel_rfl

/-- What came in: a head, four numbers. -/
theorem open_head {H : Type} {enc : TypeId × Value → H} {W : World} {base : Nat} {v0 : Value} {d0 : DataW H} {p0 : List MemPlace}
    (hv : Value.okWide Try.prog W .any base 43 v0) (h0 : DataW.Trod enc Try.prog W 0 (fun _ => true) true 43 v0 d0 p0) :
    ∃ (s m o h : Int), v0 = .agg #[.int .i64 s, .int .i64 m, .int .i64 o, .int .i64 h] := by
  obtain ⟨c0, c1, c2, c3, y0, y1, y2, y3, m, rfl, rfl, rfl, hy0, hy1, hy2, hy3⟩ := open_agg4 Try.underlying43 (by kernel_rfl) Try.cells43 hv h0
  obtain ⟨a0, e0, _, _⟩ := DataW.trod_int Try.underlying2 hy0
  obtain ⟨a1, e1, _, _⟩ := DataW.trod_int Try.underlying2 hy1
  obtain ⟨a2, e2, _, _⟩ := DataW.trod_int Try.underlying2 hy2
  obtain ⟨a3, e3, _, _⟩ := DataW.trod_int Try.underlying2 hy3
  simp only [List.cons.injEq, and_true] at e0 e1 e2 e3
  subst e0 e1 e2 e3
  exact ⟨a0, a1, a2, a3, rfl⟩

/-- What came in: a row of numbers. -/
theorem open_row {H : Type} {enc : TypeId × Value → H} {W : World} {base : Nat} {v0 : Value} {d0 : DataW H} {p0 : List MemPlace}
    (hv : Value.okWide Try.prog W .any base 27 v0) (h0 : DataW.Trod enc Try.prog W 0 (fun _ => true) true 27 v0 d0 p0) :
    ∃ (a : Option Addr) (n c : Nat) (f : Nat → Int), v0 = .slice a n c ∧ Src W a n f ∧ n ≤ maxLen := by
  obtain ⟨a0, len0, cap0, rfl⟩ := okWide_slice Try.underlying27 hv
  obtain ⟨fuel, hf⟩ := h0
  rcases open_ints Try.underlying27 Try.underlying2 (by kernel_rfl) hf with ⟨hcs, _⟩ | ⟨x, l, c, zs, hcs, _, hl, hm, hz, _, hcell, hwz⟩
  · simp [Value.cells] at hcs
    obtain ⟨rfl, rfl, rfl⟩ := hcs
    exact ⟨none, 0, 0, fun _ => 0, rfl, .inl rfl, Nat.zero_le _⟩
  · simp [Value.cells] at hcs
    obtain ⟨rfl, rfl, rfl⟩ := hcs
    refine ⟨some x, len0, cap0, fun i => zs.getD i 0, rfl, ?_, by omega⟩
    by_cases h0 : len0 = 0
    · exact .inl h0
    · right
      have hlz : len0 ≤ zs.length := by
        rw [hz]; split
        · exact hl
        · exact Nat.le_refl _
      obtain ⟨b, off, spot⟩ := x
      have hc := hcell 0 (by omega)
      have hspot : spot = none := by simpa [Addr.add] using World.cell?_spot hc
      subst hspot
      refine ⟨b, off, rfl, World.block_lt_of_cell? W _ (by simpa [Addr.add] using hc), fun i hi => ?_⟩
      have := hcell i (by omega)
      rcases i with _ | i
      · simpa [Addr.add] using this
      · simpa [Addr.add] using this

end Go.Proofs.Ytflhjbcpffhanaa
