/- Draws: DrawPackHead, DrawForwardWord, DrawReadForward. -/
import Derived.Test.YtflhjbcpffhanaaD2
import Derived.Test.YtflhjbcpffhanaaH6
namespace Go.Proofs.Ytflhjbcpffhanaa
open Go.RowKit
set_option linter.unusedVariables false

/-- A number is drawn; nothing that was there is turned. -/
def RetNum (W : World) (e : Ending) (w' : World) : Prop := ∃ x, e = .returned (.int .i64 x) ∧ I64 x ∧ Below W.heap.size W w'
set_option maxHeartbeats 800000 in
theorem drawPack_any (ca : Option Addr) (k kc : Nat) (B : Nat → Int) (w : World) (hs : SrcB w w.heap.size ca k B) (hk0 : k ≤ 1048576) : Calls Try.prog 12 #[.slice ca k kc] w (RetAny w) := by
  have HS := Lib.hid hs
  clear hs
  go_enter Try.func12, Try.ntmps12
  go_wp2_with fail
  refine (drawHF_any ca k kc B _ ((HS.out.alloc _).mono (by simp)) hk0).mono ?_
  rintro e w1 ⟨s, m, o, h, rfl, hb⟩
  have HB := Lib.hid (thru1 (Below.refl _ _) hb)
  have R := Lib.hid ((Blk.new_at (w := w) (cs := #[.int .i64 0, .int .i64 0, .int .i64 0, .int .i64 0]) (t := 25) (w.heap.size) rfl).below hb)
  clear hb
  have hz := HB.out.size
  have lR := R.out.1
  have cR0 := R.out.at 0 rfl; have cR1 := R.out.at 1 rfl; have cR2 := R.out.at 2 rfl; have cR3 := R.out.at 3 rfl
  have fR0 := R.out.free 0 rfl; have fR1 := R.out.free 1 rfl; have fR2 := R.out.free 2 rfl; have fR3 := R.out.free 3 rfl
  go_wp2
  refine bodyPost_ret (v := .agg #[.int .i64 s, .int .i64 m, .int .i64 o, .int .i64 h]) (by simp [results, Try.results12, go_sem, cR0, cR1, cR2, cR3]) rfl ⟨s, m, o, h, rfl, ?_⟩
  repeat (with_reducible refine Below.setCell ?_ (by (try simp); (try omega)) _)
  exact HB.out

set_option maxHeartbeats 3200000 in
theorem drawFW_any (ca : Option Addr) (k kc : Nat) (B : Nat → Int) (w : World) (hs : SrcB w w.heap.size ca k B) (hk0 : k ≤ 1048576) :
    Calls Try.prog 16 #[.slice ca k kc] w (RetNum w) := by
  have hS0 := Lib.hid hs
  clear hs
  go_enter Try.func16, Try.ntmps16
  go_wp2_with fail
  refine (source_any ca k kc _).mono ?_
  rintro e w' ⟨rfl, rfl⟩
  have HW : Hid (Below w.heap.size w (w.alloc (.cells #[.slice ca k kc, .int .i64 0] 76))) := ((Below.refl _ _).alloc (Nat.le_refl _) _)
  have S_0 : Hid (Blk (w.alloc (.cells #[.slice ca k kc, .int .i64 0] 76)) w.heap.size [.slice ca k kc, .int .i64 ((0 : Nat) : Int)]) := Blk.new_at w.heap.size (by simp)
  have B_0 : Hid (SrcB (w.alloc (.cells #[.slice ca k kc, .int .i64 0] 76)) w.heap.size ca k B) := (hS0.out.alloc _)
  have HK_0 : Hid (Keeps (w.alloc (.cells #[.slice ca k kc, .int .i64 0] 76)) (w.alloc (.cells #[.slice ca k kc, .int .i64 0] 76)) w.heap.size (w.heap.size + 1)) := Keeps.refl _ _ _
  have za : w.heap.size + 1 ≤ (w.alloc (.cells #[.slice ca k kc, .int .i64 0] 76)).heap.size := by simp
  have hS : w.heap.size ≤ w.heap.size := by omega
  clear hS0
  generalize w.alloc (.cells #[.slice ca k kc, .int .i64 0] 76) = wa at *
  go_wp2_with fail
  refine (of_any [0, 1, 7, 399, 400, -1] w.heap.size w.heap.size _ ca k kc (0) 6 B _ _ S_0.out B_0.out hS hk0 (by omega) rfl (by simp) (by simp) rfl (by simp)).mono ?_
  rintro e w1 ⟨x, rfl, mx, hB, hk⟩
  have z1 : wa.heap.size + 1 ≤ w1.heap.size := by have := hk.size; simp at this; omega
  have HK_1 := Lib.hid ((HK_0.out.alloc _).trans hk)
  have S_1 := Lib.hid ((src_cast hB))
  have B_1 := Lib.hid ((B_0.out.alloc _).keeps hk hS)
  clear hk hB S_0 B_0 HK_0
  have hx : -10 ≤ x ∧ x ≤ 1000 := by
    simp only [List.mem_cons, List.mem_nil_iff, or_false] at mx
    omega
  clear mx
  have hz := HK_1.out.size
  go_wp2
  go_ret
  exact ⟨x, rfl, ⟨by omega, by omega⟩, HW.out.trans (HK_1.out.below (by omega) (by omega))⟩

set_option maxHeartbeats 3200000 in
theorem drawRF_any (ca : Option Addr) (k kc : Nat) (B : Nat → Int) (w : World) (hs : SrcB w w.heap.size ca k B) (hk0 : k ≤ 1048576) :
    Calls Try.prog 18 #[.slice ca k kc] w (RetNum w) := by
  have hS0 := Lib.hid hs
  clear hs
  go_enter Try.func18, Try.ntmps18
  go_wp2_with fail
  refine (source_any ca k kc _).mono ?_
  rintro e w' ⟨rfl, rfl⟩
  have HW : Hid (Below w.heap.size w (w.alloc (.cells #[.slice ca k kc, .int .i64 0] 76))) := ((Below.refl _ _).alloc (Nat.le_refl _) _)
  have S_0 : Hid (Blk (w.alloc (.cells #[.slice ca k kc, .int .i64 0] 76)) w.heap.size [.slice ca k kc, .int .i64 ((0 : Nat) : Int)]) := Blk.new_at w.heap.size (by simp)
  have B_0 : Hid (SrcB (w.alloc (.cells #[.slice ca k kc, .int .i64 0] 76)) w.heap.size ca k B) := (hS0.out.alloc _)
  have HK_0 : Hid (Keeps (w.alloc (.cells #[.slice ca k kc, .int .i64 0] 76)) (w.alloc (.cells #[.slice ca k kc, .int .i64 0] 76)) w.heap.size (w.heap.size + 1)) := Keeps.refl _ _ _
  have za : w.heap.size + 1 ≤ (w.alloc (.cells #[.slice ca k kc, .int .i64 0] 76)).heap.size := by simp
  have hS : w.heap.size ≤ w.heap.size := by omega
  clear hS0
  generalize w.alloc (.cells #[.slice ca k kc, .int .i64 0] 76) = wa at *
  go_wp2_with fail
  refine (of_any [2, 4, 16, 800, 802, 0, 3, -2, 1] w.heap.size w.heap.size _ ca k kc (0) 9 B _ _ S_0.out B_0.out hS hk0 (by omega) rfl (by simp) (by simp) rfl (by simp)).mono ?_
  rintro e w1 ⟨x, rfl, mx, hB, hk⟩
  have z1 : wa.heap.size + 1 ≤ w1.heap.size := by have := hk.size; simp at this; omega
  have HK_1 := Lib.hid ((HK_0.out.alloc _).trans hk)
  have S_1 := Lib.hid ((src_cast hB))
  have B_1 := Lib.hid ((B_0.out.alloc _).keeps hk hS)
  clear hk hB S_0 B_0 HK_0
  have hx : -10 ≤ x ∧ x ≤ 1000 := by
    simp only [List.mem_cons, List.mem_nil_iff, or_false] at mx
    omega
  clear mx
  have hz := HK_1.out.size
  go_wp2
  go_ret
  exact ⟨x, rfl, ⟨by omega, by omega⟩, HW.out.trans (HK_1.out.below (by omega) (by omega))⟩

end Go.Proofs.Ytflhjbcpffhanaa
