/- Draws: DrawHeadFault. -/
import Derived.Test.YtflhjbcpffhanaaD1
namespace Go.Proofs.Ytflhjbcpffhanaa
open Go.RowKit
set_option linter.unusedVariables false

/-- Some head is drawn; nothing that was there is turned. -/
def RetAny (W : World) (e : Ending) (w' : World) : Prop := ∃ s m o h, e = .returned (.agg #[.int .i64 s, .int .i64 m, .int .i64 o, .int .i64 h]) ∧ Below W.heap.size W w'
theorem max_any (n : Nat) (w : World) : Calls Try.prog 56 #[.int .i64 (n : Int), .int .i64 0] w fun e w' => e = .returned (.int .i64 (n : Int)) ∧ w = w' := by
  by_cases h : (0 : Int) < (n : Int)
  · go_enter Try.func56, Try.ntmps56
    go_wp2
    go_ret
    exact ⟨rfl, rfl⟩
  · obtain rfl : n = 0 := by omega
    go_enter Try.func56, Try.ntmps56
    go_wp2
    go_ret
    exact ⟨rfl, rfl⟩

set_option maxHeartbeats 3200000 in
theorem drawHF_any (ca : Option Addr) (k kc : Nat) (B : Nat → Int) (w : World) (hs : SrcB w w.heap.size ca k B) (hk0 : k ≤ 1048576) :
    Calls Try.prog 39 #[.slice ca k kc] w (RetAny w) := by
  have hS0 := Lib.hid hs
  clear hs
  go_enter Try.func39, Try.ntmps39
  go_wp2_with fail
  refine (source_any ca k kc _).mono ?_
  rintro e w' ⟨rfl, rfl⟩
  have HW : Hid (Below w.heap.size w ((w.alloc (.cells #[.int .i64 0, .int .i64 0, .int .i64 0, .int .i64 0] 25)).alloc (.cells #[.slice ca k kc, .int .i64 0] 76))) := (((Below.refl _ _).alloc (Nat.le_refl _) _).alloc (by simp) _)
  have S_0 : Hid (Blk ((w.alloc (.cells #[.int .i64 0, .int .i64 0, .int .i64 0, .int .i64 0] 25)).alloc (.cells #[.slice ca k kc, .int .i64 0] 76)) (w.heap.size + 1) [.slice ca k kc, .int .i64 ((0 : Nat) : Int)]) := Blk.new_at (w.heap.size + 1) (by simp)
  have B_0 : Hid (SrcB ((w.alloc (.cells #[.int .i64 0, .int .i64 0, .int .i64 0, .int .i64 0] 25)).alloc (.cells #[.slice ca k kc, .int .i64 0] 76)) w.heap.size ca k B) := ((hS0.out.alloc _).alloc _)
  have HK_0 : Hid (Keeps ((w.alloc (.cells #[.int .i64 0, .int .i64 0, .int .i64 0, .int .i64 0] 25)).alloc (.cells #[.slice ca k kc, .int .i64 0] 76)) ((w.alloc (.cells #[.int .i64 0, .int .i64 0, .int .i64 0, .int .i64 0] 25)).alloc (.cells #[.slice ca k kc, .int .i64 0] 76)) (w.heap.size + 1) ((w.heap.size + 1) + 1)) := Keeps.refl _ _ _
  have R_0 : Hid (Blk ((w.alloc (.cells #[.int .i64 0, .int .i64 0, .int .i64 0, .int .i64 0] 25)).alloc (.cells #[.slice ca k kc, .int .i64 0] 76)) w.heap.size [.int .i64 0, .int .i64 0, .int .i64 0, .int .i64 0]) := (Blk.new_at (w.heap.size) rfl).alloc _
  have za : w.heap.size + 2 ≤ ((w.alloc (.cells #[.int .i64 0, .int .i64 0, .int .i64 0, .int .i64 0] 25)).alloc (.cells #[.slice ca k kc, .int .i64 0] 76)).heap.size := by simp
  have hS : w.heap.size ≤ (w.heap.size + 1) := by omega
  clear hS0
  generalize (w.alloc (.cells #[.int .i64 0, .int .i64 0, .int .i64 0, .int .i64 0] 25)).alloc (.cells #[.slice ca k kc, .int .i64 0] 76) = wa at *
  go_wp2_with fail
  refine (l2Draw_any (w.heap.size + 1) w.heap.size ca k kc 0 B _ S_0.out B_0.out hS hk0 (by omega)).mono ?_
  rintro e w1 ⟨s, m, o, h, rfl, hok, hB, hk⟩
  have z1 : wa.heap.size ≤ w1.heap.size := hk.size
  have HK_1 := Lib.hid (HK_0.out.trans hk)
  have S_1 := Lib.hid (hB)
  have B_1 := Lib.hid (B_0.out.keeps hk hS)
  have R_1 := Lib.hid (R_0.out.keeps hk (by omega))
  clear hk hB S_0 B_0 HK_0 R_0
  have h0 := hok.1
  obtain ⟨N, rfl⟩ : ∃ N : Nat, s = N := ⟨s.toNat, by omega⟩
  have hN : N ≤ 12 := by omega
  clear h0 hok
  go_wp2_with fail
  refine (next_is 10 (w.heap.size + 1) w.heap.size ca k kc (0 + 1 + 1 + 1 + 1) 10 B _ rfl (S_1.out.alloc _) (B_1.out.alloc _) hS hk0 (by omega) (by omega) (by omega)).mono ?_
  rintro e w2 ⟨v, rfl, hv, hB, hk⟩
  have z2 : w1.heap.size + 1 ≤ w2.heap.size := by have := hk.size; simp at this; omega
  have HK_2 := Lib.hid ((HK_1.out.alloc _).trans hk)
  have S_2 := Lib.hid ((src_cast hB))
  have B_2 := Lib.hid ((B_1.out.alloc _).keeps hk hS)
  have R_2 := Lib.hid ((R_1.out.alloc _).keeps hk (by omega))
  have T_2 := Lib.hid ((Blk.new_at (w1.heap.size) (by simp)).keeps hk (by omega))
  clear hk hB HK_1 S_1 B_1 R_1
  have lR2 := R_2.out.1; have lT2 := T_2.out.1; have zw := HW.out.size
  rcases (by omega : v = 0 ∨ v = 1 ∨ v = 2 ∨ v = 3 ∨ 4 ≤ v) with hv0 | hv0 | hv0 | hv0 | hv0
  · have d0 : ((v : Int) == 0) = true := by simp; omega
    have d1 : ((v : Int) == 1) = false := by simp; omega
    have d2 : ((v : Int) == 2) = false := by simp; omega
    have d3 : ((v : Int) == 3) = false := by simp; omega
    go_wp2_with fail
    refine (of_any [-1, 13] (w.heap.size + 1) w.heap.size _ ca k kc (0 + 1 + 1 + 1 + 1 + 1) 2 B _ _ S_2.out B_2.out hS hk0 (by omega) rfl (by simp) (by simp) rfl (by simp)).mono ?_
    rintro e w3 ⟨x, rfl, _, hB, hk⟩
    have z3 : w2.heap.size + 1 ≤ w3.heap.size := by have := hk.size; simp at this; omega
    have HK_3 := Lib.hid ((HK_2.out.alloc _).trans hk)
    have S_3 := Lib.hid ((src_cast hB))
    have B_3 := Lib.hid ((B_2.out.alloc _).keeps hk hS)
    have R_3 := Lib.hid ((R_2.out.alloc _).keeps hk (by omega))
    have T_3 := Lib.hid ((T_2.out.alloc _).keeps hk (by omega))
    clear hk hB HK_2 S_2 B_2 R_2 T_2
    have hz := HK_3.out.size
    have lR := R_3.out.1; have lT := T_3.out.1
    have cR0 := R_3.out.at 0 rfl; have fR0 := R_3.out.free 0 rfl; have cT0 := T_3.out.at 0 rfl; have fT0 := T_3.out.free 0 rfl; have cR1 := R_3.out.at 1 rfl; have fR1 := R_3.out.free 1 rfl; have cT1 := T_3.out.at 1 rfl; have fT1 := T_3.out.free 1 rfl; have cR2 := R_3.out.at 2 rfl; have fR2 := R_3.out.free 2 rfl; have cT2 := T_3.out.at 2 rfl; have fT2 := T_3.out.free 2 rfl; have cR3 := R_3.out.at 3 rfl; have fR3 := R_3.out.free 3 rfl; have cT3 := T_3.out.at 3 rfl; have fT3 := T_3.out.free 3 rfl
    go_wp2
    refine bodyPost_ret (v := .agg #[.int .i64 x, .int .i64 m, .int .i64 o, .int .i64 h]) (by simp [results, Try.results39, go_sem, cR0, cR1, cR2, cR3]) rfl ⟨_, _, _, _, rfl, ?_⟩
    repeat (with_reducible refine Below.setCell ?_ (by (try simp); (try omega)) _)
    exact HW.out.trans (HK_3.out.below (by omega) (by omega))
  · have d0 : ((v : Int) == 0) = false := by simp; omega
    have d1 : ((v : Int) == 1) = true := by simp; omega
    have d2 : ((v : Int) == 2) = false := by simp; omega
    have d3 : ((v : Int) == 3) = false := by simp; omega
    have cT0 := T_2.out.at 0 rfl; have cT1 := T_2.out.at 1 rfl; have cT2 := T_2.out.at 2 rfl; have cT3 := T_2.out.at 3 rfl
    go_wp2_with fail
    (with_reducible refine (max_any N _).mono ?_)
    rintro e w' ⟨rfl, rfl⟩
    go_wp2_with fail
    (with_reducible refine (power_any N _ hN).mono ?_)
    rintro e w' ⟨rfl, rfl⟩
    clear cT0 cT1 cT2 cT3
    go_wp2_with fail
    refine (of_any [-1, (P2 (N : Int))] (w.heap.size + 1) w.heap.size _ ca k kc (0 + 1 + 1 + 1 + 1 + 1) 2 B _ _ S_2.out B_2.out hS hk0 (by omega) rfl (by simp) (by simp) rfl (by simp)).mono ?_
    rintro e w3 ⟨x, rfl, _, hB, hk⟩
    have z3 : w2.heap.size + 1 ≤ w3.heap.size := by have := hk.size; simp at this; omega
    have HK_3 := Lib.hid ((HK_2.out.alloc _).trans hk)
    have S_3 := Lib.hid ((src_cast hB))
    have B_3 := Lib.hid ((B_2.out.alloc _).keeps hk hS)
    have R_3 := Lib.hid ((R_2.out.alloc _).keeps hk (by omega))
    have T_3 := Lib.hid ((T_2.out.alloc _).keeps hk (by omega))
    clear hk hB HK_2 S_2 B_2 R_2 T_2
    have hz := HK_3.out.size
    have lR := R_3.out.1; have lT := T_3.out.1
    have cR0 := R_3.out.at 0 rfl; have fR0 := R_3.out.free 0 rfl; have cT0 := T_3.out.at 0 rfl; have fT0 := T_3.out.free 0 rfl; have cR1 := R_3.out.at 1 rfl; have fR1 := R_3.out.free 1 rfl; have cT1 := T_3.out.at 1 rfl; have fT1 := T_3.out.free 1 rfl; have cR2 := R_3.out.at 2 rfl; have fR2 := R_3.out.free 2 rfl; have cT2 := T_3.out.at 2 rfl; have fT2 := T_3.out.free 2 rfl; have cR3 := R_3.out.at 3 rfl; have fR3 := R_3.out.free 3 rfl; have cT3 := T_3.out.at 3 rfl; have fT3 := T_3.out.free 3 rfl
    go_wp2
    refine bodyPost_ret (v := .agg #[.int .i64 (N : Int), .int .i64 x, .int .i64 o, .int .i64 h]) (by simp [results, Try.results39, go_sem, cR0, cR1, cR2, cR3]) rfl ⟨_, _, _, _, rfl, ?_⟩
    repeat (with_reducible refine Below.setCell ?_ (by (try simp); (try omega)) _)
    exact HW.out.trans (HK_3.out.below (by omega) (by omega))
  · have d0 : ((v : Int) == 0) = false := by simp; omega
    have d1 : ((v : Int) == 1) = false := by simp; omega
    have d2 : ((v : Int) == 2) = true := by simp; omega
    have d3 : ((v : Int) == 3) = false := by simp; omega
    go_wp2_with fail
    refine (of_any [-1, 4] (w.heap.size + 1) w.heap.size _ ca k kc (0 + 1 + 1 + 1 + 1 + 1) 2 B _ _ S_2.out B_2.out hS hk0 (by omega) rfl (by simp) (by simp) rfl (by simp)).mono ?_
    rintro e w3 ⟨x, rfl, _, hB, hk⟩
    have z3 : w2.heap.size + 1 ≤ w3.heap.size := by have := hk.size; simp at this; omega
    have HK_3 := Lib.hid ((HK_2.out.alloc _).trans hk)
    have S_3 := Lib.hid ((src_cast hB))
    have B_3 := Lib.hid ((B_2.out.alloc _).keeps hk hS)
    have R_3 := Lib.hid ((R_2.out.alloc _).keeps hk (by omega))
    have T_3 := Lib.hid ((T_2.out.alloc _).keeps hk (by omega))
    clear hk hB HK_2 S_2 B_2 R_2 T_2
    have hz := HK_3.out.size
    have lR := R_3.out.1; have lT := T_3.out.1
    have cR0 := R_3.out.at 0 rfl; have fR0 := R_3.out.free 0 rfl; have cT0 := T_3.out.at 0 rfl; have fT0 := T_3.out.free 0 rfl; have cR1 := R_3.out.at 1 rfl; have fR1 := R_3.out.free 1 rfl; have cT1 := T_3.out.at 1 rfl; have fT1 := T_3.out.free 1 rfl; have cR2 := R_3.out.at 2 rfl; have fR2 := R_3.out.free 2 rfl; have cT2 := T_3.out.at 2 rfl; have fT2 := T_3.out.free 2 rfl; have cR3 := R_3.out.at 3 rfl; have fR3 := R_3.out.free 3 rfl; have cT3 := T_3.out.at 3 rfl; have fT3 := T_3.out.free 3 rfl
    go_wp2
    refine bodyPost_ret (v := .agg #[.int .i64 (N : Int), .int .i64 m, .int .i64 x, .int .i64 h]) (by simp [results, Try.results39, go_sem, cR0, cR1, cR2, cR3]) rfl ⟨_, _, _, _, rfl, ?_⟩
    repeat (with_reducible refine Below.setCell ?_ (by (try simp); (try omega)) _)
    exact HW.out.trans (HK_3.out.below (by omega) (by omega))
  · have d0 : ((v : Int) == 0) = false := by simp; omega
    have d1 : ((v : Int) == 1) = false := by simp; omega
    have d2 : ((v : Int) == 2) = false := by simp; omega
    have d3 : ((v : Int) == 3) = true := by simp; omega
    go_wp2_with fail
    refine (of_any [-1, 100000] (w.heap.size + 1) w.heap.size _ ca k kc (0 + 1 + 1 + 1 + 1 + 1) 2 B _ _ S_2.out B_2.out hS hk0 (by omega) rfl (by simp) (by simp) rfl (by simp)).mono ?_
    rintro e w3 ⟨x, rfl, _, hB, hk⟩
    have z3 : w2.heap.size + 1 ≤ w3.heap.size := by have := hk.size; simp at this; omega
    have HK_3 := Lib.hid ((HK_2.out.alloc _).trans hk)
    have S_3 := Lib.hid ((src_cast hB))
    have B_3 := Lib.hid ((B_2.out.alloc _).keeps hk hS)
    have R_3 := Lib.hid ((R_2.out.alloc _).keeps hk (by omega))
    have T_3 := Lib.hid ((T_2.out.alloc _).keeps hk (by omega))
    clear hk hB HK_2 S_2 B_2 R_2 T_2
    have hz := HK_3.out.size
    have lR := R_3.out.1; have lT := T_3.out.1
    have cR0 := R_3.out.at 0 rfl; have fR0 := R_3.out.free 0 rfl; have cT0 := T_3.out.at 0 rfl; have fT0 := T_3.out.free 0 rfl; have cR1 := R_3.out.at 1 rfl; have fR1 := R_3.out.free 1 rfl; have cT1 := T_3.out.at 1 rfl; have fT1 := T_3.out.free 1 rfl; have cR2 := R_3.out.at 2 rfl; have fR2 := R_3.out.free 2 rfl; have cT2 := T_3.out.at 2 rfl; have fT2 := T_3.out.free 2 rfl; have cR3 := R_3.out.at 3 rfl; have fR3 := R_3.out.free 3 rfl; have cT3 := T_3.out.at 3 rfl; have fT3 := T_3.out.free 3 rfl
    go_wp2
    refine bodyPost_ret (v := .agg #[.int .i64 (N : Int), .int .i64 m, .int .i64 o, .int .i64 x]) (by simp [results, Try.results39, go_sem, cR0, cR1, cR2, cR3]) rfl ⟨_, _, _, _, rfl, ?_⟩
    repeat (with_reducible refine Below.setCell ?_ (by (try simp); (try omega)) _)
    exact HW.out.trans (HK_3.out.below (by omega) (by omega))
  · have d0 : ((v : Int) == 0) = false := by simp; omega
    have d1 : ((v : Int) == 1) = false := by simp; omega
    have d2 : ((v : Int) == 2) = false := by simp; omega
    have d3 : ((v : Int) == 3) = false := by simp; omega
    have hz := HK_2.out.size
    have lR := R_2.out.1; have lT := T_2.out.1
    have cR0 := R_2.out.at 0 rfl; have fR0 := R_2.out.free 0 rfl; have cT0 := T_2.out.at 0 rfl; have fT0 := T_2.out.free 0 rfl; have cR1 := R_2.out.at 1 rfl; have fR1 := R_2.out.free 1 rfl; have cT1 := T_2.out.at 1 rfl; have fT1 := T_2.out.free 1 rfl; have cR2 := R_2.out.at 2 rfl; have fR2 := R_2.out.free 2 rfl; have cT2 := T_2.out.at 2 rfl; have fT2 := T_2.out.free 2 rfl; have cR3 := R_2.out.at 3 rfl; have fR3 := R_2.out.free 3 rfl; have cT3 := T_2.out.at 3 rfl; have fT3 := T_2.out.free 3 rfl
    go_wp2
    refine bodyPost_ret (v := .agg #[.int .i64 (N : Int), .int .i64 m, .int .i64 o, .int .i64 h]) (by simp [results, Try.results39, go_sem, cR0, cR1, cR2, cR3]) rfl ⟨_, _, _, _, rfl, ?_⟩
    repeat (with_reducible refine Below.setCell ?_ (by (try simp); (try omega)) _)
    exact HW.out.trans (HK_2.out.below (by omega) (by omega))

end Go.Proofs.Ytflhjbcpffhanaa
