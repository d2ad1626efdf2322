/- The walk of FnExactArenaFault. -/
import Derived.Test.YthejbgmhfajcpaaA6
namespace Go.Proofs.Ythejbgmhfajcpaa
open Go.RowKit

set_option maxHeartbeats 400000 in
theorem e1_far (h ac bu : Int) (a : Option Addr) (n c : Nat) (w : World) (hn : n ≤ maxLen) (hbig : 1048576 < n) :
    Calls Try.prog 5 #[.agg #[.int .i64 h, .slice a n c, .int .i64 ac, .int .i64 bu]] w (RetBool w true) := by
  go_enter Try.func5, Try.ntmps5
  go_wp2_with (go_at_call 36; (with_reducible refine (szArena_no _ _ _ _ _ _ _ _ (by omega) (by omega) hn (by omega)).mono ?_); rintro e w1 ⟨rfl, hb⟩; obtain ⟨hc, hf⟩ := bcell hb; have HB := Lib.hid hb; have hz := hb.size; clear hb)
  go_ret
  exact ⟨rfl, ((Below.refl _ _).alloc (Nat.le_refl _) _).trans (HB.out.mono (by simp; try omega))⟩

set_option maxHeartbeats 800000 in
theorem e1_near (h ac bu : Int) (a : Option Addr) (n c : Nat) (f : Nat → Int) (w : World) (hs : Src w a n f) (hbig : n ≤ 1048576) :
    Calls Try.prog 5 #[.agg #[.int .i64 h, .slice a n c, .int .i64 ac, .int .i64 bu]] w (RetBool w true) := by
  obtain ⟨k, hk⟩ := isFault_some h n f ac bu
  have HK := Lib.hid hk
  have HS := Lib.hid hs
  clear hk hs
  go_enter Try.func5, Try.ntmps5
  go_wp2_with fail
  refine (szArena_ok _ _ _ _ _ _ _ _ (by omega) (by omega) (by unfold maxLen; omega) (by omega)).mono ?_
  rintro e w1 ⟨rfl, hb⟩
  have HB1 : Hid (Below w.heap.size w w1) := ((Below.refl _ _).alloc (Nat.le_refl _) _).trans (hb.mono (by simp))
  have HA1 := Lib.hid ((Blk.new w _ _).below hb)
  have a0 := HA1.out.at 0 rfl; have a1 := HA1.out.at 1 rfl; have a2 := HA1.out.at 2 rfl; have a3 := HA1.out.at 3 rfl
  have HS1 := Lib.hid (HS.out.below HB1.out)
  clear hb
  go_wp2_with fail
  refine (toArena_any _ _ _ _ _ _ f _ HS1.out hbig).mono ?_
  rintro e w2 ⟨u2, c2, rfl, ho, hb, hc2, hcm2, hn2⟩
  have HB2 := Lib.hid (HB1.out.trans (hb.mono HB1.out.size))
  have HA2 := Lib.hid (HA1.out.below hb)
  have HS2 := Lib.hid (HS1.out.below hb)
  have HO2 := Lib.hid ho
  clear hb ho a0 a1 a2 a3 HA1 HB1 HS1 hn2
  go_wp2_with fail
  refine (specFault_any _ _ _ _ _ _ f k _ HO2.out.src HK.out).mono ?_
  rintro e w3 ⟨rfl, hb⟩
  have HB3 := Lib.hid (HB2.out.trans (hb.mono HB2.out.size))
  have HA3 := Lib.hid (HA2.out.below hb)
  have HS3 := Lib.hid (HS2.out.below hb)
  have a0 := HA3.out.at 0 rfl; have a1 := HA3.out.at 1 rfl; have a2 := HA3.out.at 2 rfl; have a3 := HA3.out.at 3 rfl
  clear hb HB2 HA2 HS2 HO2
  go_wp2_with fail
  refine (toArena_any _ _ _ _ _ _ f _ HS3.out hbig).mono ?_
  rintro e w4 ⟨u4, c4, rfl, ho, hb, hc4, hcm4, hn4⟩
  have HB4 := Lib.hid (HB3.out.trans (hb.mono HB3.out.size))
  have HA4 := Lib.hid (HA3.out.below hb)
  have HS4 := Lib.hid (HS3.out.below hb)
  have HO4 := Lib.hid ho
  clear hb ho a0 a1 a2 a3 HA3 HB3 HS3 hn4
  go_wp2_with fail
  refine (implFault_any _ _ _ _ _ _ f k _ (HO4.out.src.alloc _) HK.out).mono ?_
  rintro e w5 ⟨rfl, hb⟩
  have HB5 := Lib.hid ((HB4.out.alloc HB4.out.size _).trans (hb.mono (by have := HB4.out.size; simp; omega)))
  have HA5 := Lib.hid ((HA4.out.alloc _).below hb)
  have HX5 := Lib.hid ((Blk.new w4 _ _).below hb)
  have HS5 := Lib.hid ((HS4.out.alloc _).below hb)
  have HO5 := Lib.hid ((HO4.out.alloc _).below hb)
  have a0 := HA5.out.at 0 rfl; have a1 := HA5.out.at 1 rfl; have a2 := HA5.out.at 2 rfl; have a3 := HA5.out.at 3 rfl
  have x0 := HX5.out.at 0 rfl; have x1 := HX5.out.at 1 rfl; have x2 := HX5.out.at 2 rfl; have x3 := HX5.out.at 3 rfl
  clear hb HB4 HA4 HS4 HO4
  go_wp2_with fail
  have HB5' := Lib.hid HB5.out.drew
  have HA5' := Lib.hid HA5.out.drew
  have HX5' := Lib.hid HX5.out.drew
  have HO5' := Lib.hid HO5.out.drew
  go_region_held3 (fun w' => w'.cell? ⟨w.heap.size, 0, none⟩ = some (.int .i64 h) ∧ w'.cell? ⟨w.heap.size, 1, none⟩ = some (.slice a n c) ∧ w'.cell? ⟨w.heap.size, 2, none⟩ = some (.int .i64 ac) ∧ w'.cell? ⟨w.heap.size, 3, none⟩ = some (.int .i64 bu) ∧
      w'.cell? ⟨w4.heap.size, 0, none⟩ = some (.int .i64 h) ∧ w'.cell? ⟨w4.heap.size, 1, none⟩ = some (.slice u4 n c4) ∧ w'.cell? ⟨w4.heap.size, 2, none⟩ = some (.int .i64 ac) ∧ w'.cell? ⟨w4.heap.size, 3, none⟩ = some (.int .i64 bu))
    (first
      | exact ⟨HA5'.out.at 0 rfl, HA5'.out.at 1 rfl, HA5'.out.at 2 rfl, HA5'.out.at 3 rfl, HX5'.out.at 0 rfl, HX5'.out.at 1 rfl, HX5'.out.at 2 rfl, HX5'.out.at 3 rfl⟩
      | exact ⟨HA6.out.at 0 rfl, HA6.out.at 1 rfl, HA6.out.at 2 rfl, HA6.out.at 3 rfl, HX6.out.at 0 rfl, HX6.out.at 1 rfl, HX6.out.at 2 rfl, HX6.out.at 3 rfl⟩
      | exact ⟨HA7.out.at 0 rfl, HA7.out.at 1 rfl, HA7.out.at 2 rfl, HA7.out.at 3 rfl, HX7.out.at 0 rfl, HX7.out.at 1 rfl, HX7.out.at 2 rfl, HX7.out.at 3 rfl⟩)
    (first
      | (go_at_call 37; refine (toArena_any _ _ _ _ _ _ f _ HS5.out.drew hbig).mono ?_; rintro e w6 ⟨u6, c6, rfl, ho, hb, hc6, hcm6, hn6⟩; have HB6 := Lib.hid (HB5'.out.trans (hb.mono HB5'.out.size)); have HA6 := Lib.hid (HA5'.out.below hb); have HX6 := Lib.hid (HX5'.out.below hb); have HU6 := Lib.hid (HO5'.out.below hb); have HO6 := Lib.hid ho; clear hb ho hn6)
      | (go_at_call 38; refine (eqArena_same _ _ _ _ _ _ _ _ f f _ HU6.out.src HO6.out.src hbig (fun _ _ => rfl)).mono ?_; rintro e w7 ⟨rfl, hb⟩; have HB7 := Lib.hid (HB6.out.trans (hb.mono HB6.out.size)); have HA7 := Lib.hid (HA6.out.below hb); have HX7 := Lib.hid (HX6.out.below hb); clear hb))
  go_wp2
  go_ret
  exact ⟨rfl, HB7.out⟩
end Go.Proofs.Ythejbgmhfajcpaa
