/- The walk of FnExactWriteAt. -/
import Derived.Test.YthejbgmhfajcpaaA10
import Derived.Test.YthejbgmhfajcpaaE7
namespace Go.Proofs.Ythejbgmhfajcpaa
open Go.RowKit
set_option linter.unusedVariables false

theorem implWrite_any (h ac bu at_ v : Int) (a : Option Addr) (n c : Nat) (f : Nat → Int) (r : AR) (w : World) (hs : Src w a n f) (hcn : n ≤ c) (hcm : c ≤ maxLen) (hr : IsWrite h n f ac bu at_ v r) :
    Calls Try.prog 15 #[.agg #[.int .i64 h, .slice a n c, .int .i64 ac, .int .i64 bu], .int .i64 at_, .int .i64 v] w (RetRes w r) := by
  rcases hr with ⟨k, h1, h2, rfl⟩ | ⟨h1, h2, rfl⟩ | ⟨h1, h2, rfl⟩
  · exact implWrite_fault h ac bu at_ v a n c f k w hs hcn hcm h1 h2
  · exact implWrite_range h ac bu at_ v a n c f w hs hcn hcm h1 h2
  · obtain ⟨⟨⟨g1, g2⟩, _, _⟩, gn, _⟩ := isFault_ok h1
    obtain ⟨m, rfl⟩ : ∃ m : Nat, h = m := ⟨h.toNat, by omega⟩
    obtain rfl : n = 2 * m := by omega
    obtain ⟨k, rfl⟩ : ∃ k : Nat, at_ = k := ⟨at_.toNat, by omega⟩
    exact implWrite_ok m k ac bu v a c f w hs hcn hcm h1 (by omega) h2.2
theorem specWrite_any (h ac bu at_ v : Int) (a : Option Addr) (n c : Nat) (f : Nat → Int) (r : AR) (w : World) (hs : Src w a n f) (hcn : n ≤ c) (hcm : c ≤ maxLen) (hr : IsWrite h n f ac bu at_ v r) :
    Calls Try.prog 18 #[.agg #[.int .i64 h, .slice a n c, .int .i64 ac, .int .i64 bu], .int .i64 at_, .int .i64 v] w (RetRes w r) := by
  rcases hr with ⟨k, h1, h2, rfl⟩ | ⟨h1, h2, rfl⟩ | ⟨h1, h2, rfl⟩
  · exact specWrite_fault h ac bu at_ v a n c f k w hs hcn hcm h1 h2
  · exact specWrite_range h ac bu at_ v a n c f w hs hcn hcm h1 h2
  · obtain ⟨⟨⟨g1, g2⟩, _, _⟩, gn, _⟩ := isFault_ok h1
    obtain ⟨m, rfl⟩ : ∃ m : Nat, h = m := ⟨h.toNat, by omega⟩
    obtain rfl : n = 2 * m := by omega
    obtain ⟨k, rfl⟩ : ∃ k : Nat, at_ = k := ⟨at_.toNat, by omega⟩
    exact specWrite_ok m k ac bu v a c f w hs hcn hcm h1 (by omega) h2.2

set_option maxHeartbeats 400000 in
theorem e8_far (h ac bu : Int) (a : Option Addr) (n c : Nat) (at_ v : Int) (w : World) (hn : n ≤ maxLen) (hbig : 1048576 < n) :
    Calls Try.prog 8 #[.agg #[.int .i64 h, .slice a n c, .int .i64 ac, .int .i64 bu], .int .i64 at_, .int .i64 v] w (RetBool w true) := by
  go_enter Try.func8, Try.ntmps8
  go_wp2_with (go_at_call 36; (with_reducible refine (szArena_no _ _ _ _ _ _ _ _ (by omega) (by omega) hn (by omega)).mono ?_); rintro e w1 ⟨rfl, hb⟩; obtain ⟨hc, hf⟩ := bcell hb; have HB := Lib.hid hb; have hz := hb.size; clear hb)
  go_ret
  exact ⟨rfl, ((Below.refl _ _).alloc (Nat.le_refl _) _).trans (HB.out.mono (by simp; try omega))⟩

set_option maxHeartbeats 3200000 in
theorem e8_near (h ac bu : Int) (a : Option Addr) (n c : Nat) (f : Nat → Int) (at_ v : Int) (w : World) (hs : Src w a n f) (hbig : n ≤ 1048576) :
    Calls Try.prog 8 #[.agg #[.int .i64 h, .slice a n c, .int .i64 ac, .int .i64 bu], .int .i64 at_, .int .i64 v] w (RetBool w true) := by
  obtain ⟨⟨co, h1, n1, f1, ac1, bu1, at1⟩, hr⟩ := isWrite_some h n f ac bu at_ v
  have hn1 : n1 ≤ 1048576 := Nat.le_trans (isWrite_small hr) (by omega)
  have HR := Lib.hid hr
  have HS := Lib.hid hs
  clear hr hs
  have HS0 := HS
  go_enter Try.func8, Try.ntmps8
  go_wp2_with fail
  refine (szArena_ok _ _ _ _ _ _ _ _ (by omega) (by omega) (by unfold maxLen; omega) (by omega)).mono ?_
  rintro e w1 ⟨rfl, hb⟩
  have HB1 : Hid (Below w.heap.size w w1) := thru1 (Below.refl _ _) hb
  have z1 : w.heap.size + 1 ≤ w1.heap.size := by have := hb.size; simp at this; omega
  have HS_1 := Lib.hid ((HS.out.alloc _).below hb)
  have A_1 := Lib.hid ((Blk.new_at (w.heap.size) (by simp)).below hb)
  clear hb HS
  have lA := A_1.out.1
  have cA0 := A_1.out.at 0 rfl
  have cA1 := A_1.out.at 1 rfl
  have cA2 := A_1.out.at 2 rfl
  have cA3 := A_1.out.at 3 rfl
  go_wp2_with fail
  refine (toArena_any _ _ _ _ _ _ f _ HS_1.out hbig).mono ?_
  rintro e w2 ⟨u2, c2, rfl, ho, hb, hc2, hcm2, hn2⟩
  have HB2 : Hid (Below w.heap.size w w2) := thru0 HB1.out hb
  have z2 : w1.heap.size ≤ w2.heap.size := hb.size
  have HS_2 := Lib.hid (HS_1.out.below hb)
  have A_2 := Lib.hid (A_1.out.below hb)
  have RA_2 : Hid (OwnIn w2 (w1.heap.size) w2.heap.size u2 n f) := ho.into
  clear hb lA cA0 cA1 cA2 cA3 HS_1 A_1 HB1 ho
  go_wp2_with fail
  refine (specWrite_any _ _ _ _ _ _ _ _ f _ _ RA_2.out.src hc2 hcm2 HR.out).mono ?_
  rintro e w3 ⟨u3, c3, rfl, ho, hb⟩
  have HB3 : Hid (Below w.heap.size w w3) := thru0 HB2.out hb
  have z3 : w2.heap.size ≤ w3.heap.size := hb.size
  have HS_3 := Lib.hid (HS_2.out.below hb)
  have A_3 := Lib.hid (A_2.out.below hb)
  have RA_3 := Lib.hid (RA_2.out.below hb)
  have RW_3 : Hid (OwnIn w3 (w2.heap.size) w3.heap.size u3 n1 f1) := ho.into
  clear hb HS_2 A_2 RA_2 HB2 ho
  clear RA_3
  have lA := A_3.out.1
  have cA0 := A_3.out.at 0 rfl
  have cA1 := A_3.out.at 1 rfl
  have cA2 := A_3.out.at 2 rfl
  have cA3 := A_3.out.at 3 rfl
  go_wp2_with fail
  refine (toArena_any _ _ _ _ _ _ f _ (HS_3.out.alloc _) hbig).mono ?_
  rintro e w4 ⟨u4, c4, rfl, ho, hb, hc4, hcm4, hn4⟩
  have HB4 : Hid (Below w.heap.size w w4) := thru1 HB3.out hb
  have z4 : w3.heap.size + 1 ≤ w4.heap.size := by have := hb.size; simp at this; omega
  have HS_4 := Lib.hid ((HS_3.out.alloc _).below hb)
  have A_4 := Lib.hid ((A_3.out.alloc _).below hb)
  have RW_4 := Lib.hid ((RW_3.out.alloc _).below hb)
  have W_4 := Lib.hid ((Blk.new_at (w3.heap.size) (by simp)).below hb)
  have RX_4 : Hid (OwnIn w4 (w3.heap.size + 1) w4.heap.size u4 n f) := (ho.mono (by simp)).into
  clear hb lA cA0 cA1 cA2 cA3 HS_3 A_3 RW_3 HB3 ho
  go_wp2_with fail
  refine (implWrite_any _ _ _ _ _ _ _ _ f _ _ (RX_4.out.alloc _).src hc4 hcm4 HR.out).mono ?_
  rintro e w5 ⟨u5, c5, rfl, ho, hb⟩
  have HB5 : Hid (Below w.heap.size w w5) := thru1 HB4.out hb
  have z5 : w4.heap.size + 1 ≤ w5.heap.size := by have := hb.size; simp at this; omega
  have HS_5 := Lib.hid ((HS_4.out.alloc _).below hb)
  have A_5 := Lib.hid ((A_4.out.alloc _).below hb)
  have RW_5 := Lib.hid ((RW_4.out.alloc _).below hb)
  have W_5 := Lib.hid ((W_4.out.alloc _).below hb)
  have RX_5 := Lib.hid ((RX_4.out.alloc _).below hb)
  have X_5 := Lib.hid ((Blk.new_at (w4.heap.size) (by simp)).below hb)
  have RG_5 : Hid (OwnIn w5 (w4.heap.size + 1) w5.heap.size u5 n1 f1) := (ho.mono (by simp)).into
  clear hb HS_4 A_4 RW_4 W_4 RX_4 HB4 ho
  have lW := W_5.out.1
  have cW0 := W_5.out.at 0 rfl
  have cW1 := W_5.out.at 1 rfl
  have cW2 := W_5.out.at 2 rfl
  have cW3 := W_5.out.at 3 rfl
  have cW4 := W_5.out.at 4 rfl
  have cW5 := W_5.out.at 5 rfl
  have lA := A_5.out.1
  have cA0 := A_5.out.at 0 rfl
  have cA1 := A_5.out.at 1 rfl
  have cA2 := A_5.out.at 2 rfl
  have cA3 := A_5.out.at 3 rfl
  have lX := X_5.out.1
  have cX0 := X_5.out.at 0 rfl
  have cX1 := X_5.out.at 1 rfl
  have cX2 := X_5.out.at 2 rfl
  have cX3 := X_5.out.at 3 rfl
  go_wp2_with fail
  refine (eqArenaResult_same _ _ _ _ _ _ _ _ _ _ f1 f1 _ (RG_5.out.alloc _).src (RW_5.out.alloc _).src hn1 (fun _ _ => rfl)).mono ?_
  rintro e w6 ⟨rfl, hb⟩
  have HB6 : Hid (Below w.heap.size w w6) := thru1 HB5.out hb
  have z6 : w5.heap.size + 1 ≤ w6.heap.size := by have := hb.size; simp at this; omega
  have HS_6 := Lib.hid ((HS_5.out.alloc _).below hb)
  have A_6 := Lib.hid ((A_5.out.alloc _).below hb)
  have RW_6 := Lib.hid ((RW_5.out.alloc _).below hb)
  have W_6 := Lib.hid ((W_5.out.alloc _).below hb)
  have RX_6 := Lib.hid ((RX_5.out.alloc _).below hb)
  have X_6 := Lib.hid ((X_5.out.alloc _).below hb)
  have RG_6 := Lib.hid ((RG_5.out.alloc _).below hb)
  have G_6 := Lib.hid ((Blk.new_at (w5.heap.size) (by simp)).below hb)
  clear hb lW cW0 cW1 cW2 cW3 cW4 cW5 lA cA0 cA1 cA2 cA3 lX cX0 cX1 cX2 cX3 HS_5 A_5 RW_5 W_5 RX_5 X_5 RG_5 HB5
  have lA := A_6.out.1
  have cA0 := A_6.out.at 0 rfl
  have cA1 := A_6.out.at 1 rfl
  have cA2 := A_6.out.at 2 rfl
  have cA3 := A_6.out.at 3 rfl
  have lX := X_6.out.1
  have cX0 := X_6.out.at 0 rfl
  have cX1 := X_6.out.at 1 rfl
  have cX2 := X_6.out.at 2 rfl
  have cX3 := X_6.out.at 3 rfl
  go_wp2_with fail
  have HS_6d := Lib.hid HS_6.out.drew
  have A_6d := Lib.hid A_6.out.drew
  have RW_6d := Lib.hid RW_6.out.drew
  have W_6d := Lib.hid W_6.out.drew
  have RX_6d := Lib.hid RX_6.out.drew
  have X_6d := Lib.hid X_6.out.drew
  have RG_6d := Lib.hid RG_6.out.drew
  have G_6d := Lib.hid G_6.out.drew
  have HB6d := Lib.hid HB6.out.drew
  go_region_held3 (fun w' => w'.cell? ⟨w.heap.size, 0, none⟩ = some (.int .i64 h) ∧ w'.cell? ⟨w.heap.size, 1, none⟩ = some (.slice a n c) ∧ w'.cell? ⟨w.heap.size, 2, none⟩ = some (.int .i64 ac) ∧ w'.cell? ⟨w.heap.size, 3, none⟩ = some (.int .i64 bu) ∧ w'.cell? ⟨w4.heap.size, 0, none⟩ = some (.int .i64 h) ∧ w'.cell? ⟨w4.heap.size, 1, none⟩ = some (.slice u4 n c4) ∧ w'.cell? ⟨w4.heap.size, 2, none⟩ = some (.int .i64 ac) ∧ w'.cell? ⟨w4.heap.size, 3, none⟩ = some (.int .i64 bu))
    (first | exact ⟨A_6d.out.at 0 rfl, A_6d.out.at 1 rfl, A_6d.out.at 2 rfl, A_6d.out.at 3 rfl, X_6d.out.at 0 rfl, X_6d.out.at 1 rfl, X_6d.out.at 2 rfl, X_6d.out.at 3 rfl⟩ | exact ⟨A_7.out.at 0 rfl, A_7.out.at 1 rfl, A_7.out.at 2 rfl, A_7.out.at 3 rfl, X_7.out.at 0 rfl, X_7.out.at 1 rfl, X_7.out.at 2 rfl, X_7.out.at 3 rfl⟩ | exact ⟨A_8.out.at 0 rfl, A_8.out.at 1 rfl, A_8.out.at 2 rfl, A_8.out.at 3 rfl, X_8.out.at 0 rfl, X_8.out.at 1 rfl, X_8.out.at 2 rfl, X_8.out.at 3 rfl⟩)
    (first | (go_at_call 37; refine (toArena_any _ _ _ _ _ _ f _ HS_6d.out hbig).mono ?_; rintro e w7 ⟨u7, c7, rfl, ho, hb, hc7, hcm7, hn7⟩; have HB7 := Lib.hid (thru0 HB6d.out hb); have z7 : w6.heap.size ≤ w7.heap.size := hb.size; have HS_7 := Lib.hid (HS_6d.out.below hb); have A_7 := Lib.hid (A_6d.out.below hb); have RW_7 := Lib.hid (RW_6d.out.below hb); have W_7 := Lib.hid (W_6d.out.below hb); have RX_7 := Lib.hid (RX_6d.out.below hb); have X_7 := Lib.hid (X_6d.out.below hb); have RG_7 := Lib.hid (RG_6d.out.below hb); have G_7 := Lib.hid (G_6d.out.below hb); have RT_7 : Hid (OwnIn w7 w6.heap.size w7.heap.size u7 n f) := ho.into; clear hb ho) | (go_at_call 38; refine (eqArena_same _ _ _ _ _ _ _ _ f f _ RX_7.out.src RT_7.out.src hbig (fun _ _ => rfl)).mono ?_; rintro e w8 ⟨rfl, hb⟩; have HB8 := Lib.hid (thru0 HB7.out hb); have z8 : w7.heap.size ≤ w8.heap.size := hb.size; have HS_8 := Lib.hid (HS_7.out.below hb); have A_8 := Lib.hid (A_7.out.below hb); have RW_8 := Lib.hid (RW_7.out.below hb); have W_8 := Lib.hid (W_7.out.below hb); have RX_8 := Lib.hid (RX_7.out.below hb); have X_8 := Lib.hid (X_7.out.below hb); have RG_8 := Lib.hid (RG_7.out.below hb); have G_8 := Lib.hid (G_7.out.below hb); have RT_8 := Lib.hid (RT_7.out.below hb); clear hb))

  have lX := X_8.out.1
  have cX0 := X_8.out.at 0 rfl
  have cX1 := X_8.out.at 1 rfl
  have cX2 := X_8.out.at 2 rfl
  have cX3 := X_8.out.at 3 rfl
  go_wp2_with fail
  clear HS_8
  refine (markArena_any _ _ _ _ _ _ _ _ _ _ _ RX_8.out hbig (by omega) (by omega)).mono ?_
  rintro e w9 ⟨rfl, ho, hk⟩
  have HB9 : Hid (Below w.heap.size w w9) := HB8.out.trans (hk.below (by omega) HB8.out.size)
  have z9 : w8.heap.size ≤ w9.heap.size := hk.size
  have A_9 := Lib.hid (A_8.out.keeps hk (by omega))
  have RW_9 := Lib.hid (RW_8.out.keeps hk (by omega))
  have W_9 := Lib.hid (W_8.out.keeps hk (by omega))
  have X_9 := Lib.hid (X_8.out.keeps hk (by omega))
  have RG_9 := Lib.hid (RG_8.out.keeps hk (by omega))
  have G_9 := Lib.hid (G_8.out.keeps hk (by omega))
  have RX_9 : Hid (OwnIn w9 (w3.heap.size + 1) w4.heap.size u4 n (fun i => 1 + i)) := ho
  clear hk lX cX0 cX1 cX2 cX3 A_8 RW_8 W_8 RX_8 X_8 RG_8 G_8 HB8 ho
  have lW := W_9.out.1
  have cW0 := W_9.out.at 0 rfl
  have cW1 := W_9.out.at 1 rfl
  have cW2 := W_9.out.at 2 rfl
  have cW3 := W_9.out.at 3 rfl
  have cW4 := W_9.out.at 4 rfl
  have cW5 := W_9.out.at 5 rfl
  have lG := G_9.out.1
  have cG0 := G_9.out.at 0 rfl
  have cG1 := G_9.out.at 1 rfl
  have cG2 := G_9.out.at 2 rfl
  have cG3 := G_9.out.at 3 rfl
  have cG4 := G_9.out.at 4 rfl
  have cG5 := G_9.out.at 5 rfl
  go_wp2_with fail
  refine (eqArenaResult_same _ _ _ _ _ _ _ _ _ _ f1 f1 _ RG_9.out.src RW_9.out.src hn1 (fun _ _ => rfl)).mono ?_
  rintro e w10 ⟨rfl, hb⟩
  have HB10 : Hid (Below w.heap.size w w10) := thru0 HB9.out hb
  have z10 : w9.heap.size ≤ w10.heap.size := hb.size
  have A_10 := Lib.hid (A_9.out.below hb)
  have RW_10 := Lib.hid (RW_9.out.below hb)
  have W_10 := Lib.hid (W_9.out.below hb)
  have X_10 := Lib.hid (X_9.out.below hb)
  have RG_10 := Lib.hid (RG_9.out.below hb)
  have G_10 := Lib.hid (G_9.out.below hb)
  have RX_10 := Lib.hid (RX_9.out.below hb)
  clear hb lW cW0 cW1 cW2 cW3 cW4 cW5 lG cG0 cG1 cG2 cG3 cG4 cG5 A_9 RW_9 W_9 X_9 RG_9 G_9 RX_9 HB9
  have lG := G_10.out.1
  have cG0 := G_10.out.at 0 rfl
  have cG1 := G_10.out.at 1 rfl
  have cG2 := G_10.out.at 2 rfl
  have cG3 := G_10.out.at 3 rfl
  have cG4 := G_10.out.at 4 rfl
  have cG5 := G_10.out.at 5 rfl
  go_wp2_with fail
  refine (markResult_any _ _ _ _ _ _ _ _ _ _ _ _ _ RG_10.out hn1 (by omega) (by omega)).mono ?_
  rintro e w11 ⟨rfl, ho, hk⟩
  have HB11 : Hid (Below w.heap.size w w11) := HB10.out.trans (hk.below (by omega) HB10.out.size)
  have z11 : w10.heap.size ≤ w11.heap.size := hk.size
  have A_11 := Lib.hid (A_10.out.keeps hk (by omega))
  have RW_11 := Lib.hid (RW_10.out.keeps hk (by omega))
  have W_11 := Lib.hid (W_10.out.keeps hk (by omega))
  have X_11 := Lib.hid (X_10.out.keeps hk (by omega))
  have G_11 := Lib.hid (G_10.out.keeps hk (by omega))
  have RX_11 := Lib.hid (RX_10.out.keeps hk (by omega))
  have RG_11 : Hid (OwnIn w11 (w4.heap.size + 1) w5.heap.size u5 n1 (fun i => 1 + i)) := ho
  clear hk lG cG0 cG1 cG2 cG3 cG4 cG5 A_10 RW_10 W_10 X_10 RG_10 G_10 RX_10 HB10 ho
  have lG := G_11.out.1
  have cG0 := G_11.out.at 0 rfl
  have cG1 := G_11.out.at 1 rfl
  have cG2 := G_11.out.at 2 rfl
  have cG3 := G_11.out.at 3 rfl
  have cG4 := G_11.out.at 4 rfl
  have cG5 := G_11.out.at 5 rfl
  go_wp2_with fail
  refine (heldResult_any _ _ _ _ _ _ _ _ 1 _ RG_11.out.src hn1 (by omega) (by omega)).mono ?_
  rintro e w12 ⟨rfl, hb⟩
  have HB12 : Hid (Below w.heap.size w w12) := thru0 HB11.out hb
  have z12 : w11.heap.size ≤ w12.heap.size := hb.size
  have A_12 := Lib.hid (A_11.out.below hb)
  have RW_12 := Lib.hid (RW_11.out.below hb)
  have W_12 := Lib.hid (W_11.out.below hb)
  have X_12 := Lib.hid (X_11.out.below hb)
  have G_12 := Lib.hid (G_11.out.below hb)
  have RX_12 := Lib.hid (RX_11.out.below hb)
  have RG_12 := Lib.hid (RG_11.out.below hb)
  clear hb lG cG0 cG1 cG2 cG3 cG4 cG5 A_11 RW_11 W_11 X_11 G_11 RX_11 RG_11 HB11
  have lA := A_12.out.1
  have cA0 := A_12.out.at 0 rfl
  have cA1 := A_12.out.at 1 rfl
  have cA2 := A_12.out.at 2 rfl
  have cA3 := A_12.out.at 3 rfl
  go_wp2_with fail
  have HSk := Lib.hid (HS0.out.below HB12.out)
  refine (toArena_any _ _ _ _ _ _ f _ HSk.out hbig).mono ?_
  rintro e w13 ⟨u13, c13, rfl, ho, hb, hc13, hcm13, hn13⟩
  have HB13 : Hid (Below w.heap.size w w13) := thru0 HB12.out hb
  have z13 : w12.heap.size ≤ w13.heap.size := hb.size
  have A_13 := Lib.hid (A_12.out.below hb)
  have RW_13 := Lib.hid (RW_12.out.below hb)
  have W_13 := Lib.hid (W_12.out.below hb)
  have X_13 := Lib.hid (X_12.out.below hb)
  have G_13 := Lib.hid (G_12.out.below hb)
  have RX_13 := Lib.hid (RX_12.out.below hb)
  have RG_13 := Lib.hid (RG_12.out.below hb)
  have HS_13 := Lib.hid (HSk.out.below hb)
  have RT_13 : Hid (OwnIn w13 (w12.heap.size) w13.heap.size u13 n f) := ho.into
  clear hb lA cA0 cA1 cA2 cA3 A_12 RW_12 W_12 X_12 G_12 RX_12 RG_12 HSk HB12 ho
  go_wp2_with fail
  refine (implWrite_any _ _ _ _ _ _ _ _ f _ _ RT_13.out.src hc13 hcm13 HR.out).mono ?_
  rintro e w14 ⟨u14, c14, rfl, ho, hb⟩
  have HB14 : Hid (Below w.heap.size w w14) := thru0 HB13.out hb
  have z14 : w13.heap.size ≤ w14.heap.size := hb.size
  have A_14 := Lib.hid (A_13.out.below hb)
  have RW_14 := Lib.hid (RW_13.out.below hb)
  have W_14 := Lib.hid (W_13.out.below hb)
  have X_14 := Lib.hid (X_13.out.below hb)
  have G_14 := Lib.hid (G_13.out.below hb)
  have RX_14 := Lib.hid (RX_13.out.below hb)
  have RG_14 := Lib.hid (RG_13.out.below hb)
  have HS_14 := Lib.hid (HS_13.out.below hb)
  have RT_14 := Lib.hid (RT_13.out.below hb)
  have RH_14 : Hid (OwnIn w14 (w13.heap.size) w14.heap.size u14 n1 f1) := ho.into
  clear hb A_13 RW_13 W_13 X_13 G_13 RX_13 RG_13 HS_13 RT_13 HB13 ho
  clear RT_14
  have lW := W_14.out.1
  have cW0 := W_14.out.at 0 rfl
  have cW1 := W_14.out.at 1 rfl
  have cW2 := W_14.out.at 2 rfl
  have cW3 := W_14.out.at 3 rfl
  have cW4 := W_14.out.at 4 rfl
  have cW5 := W_14.out.at 5 rfl
  have lG := G_14.out.1
  have cG0 := G_14.out.at 0 rfl
  have cG1 := G_14.out.at 1 rfl
  have cG2 := G_14.out.at 2 rfl
  have cG3 := G_14.out.at 3 rfl
  have cG4 := G_14.out.at 4 rfl
  have cG5 := G_14.out.at 5 rfl
  go_wp2_with fail
  refine (eqArenaResult_same _ _ _ _ _ _ _ _ _ _ f1 f1 _ (RH_14.out.alloc _).src (RW_14.out.alloc _).src hn1 (fun _ _ => rfl)).mono ?_
  rintro e w15 ⟨rfl, hb⟩
  have HB15 : Hid (Below w.heap.size w w15) := thru1 HB14.out hb
  have z15 : w14.heap.size + 1 ≤ w15.heap.size := by have := hb.size; simp at this; omega
  have A_15 := Lib.hid ((A_14.out.alloc _).below hb)
  have RW_15 := Lib.hid ((RW_14.out.alloc _).below hb)
  have W_15 := Lib.hid ((W_14.out.alloc _).below hb)
  have X_15 := Lib.hid ((X_14.out.alloc _).below hb)
  have G_15 := Lib.hid ((G_14.out.alloc _).below hb)
  have RX_15 := Lib.hid ((RX_14.out.alloc _).below hb)
  have RG_15 := Lib.hid ((RG_14.out.alloc _).below hb)
  have HS_15 := Lib.hid ((HS_14.out.alloc _).below hb)
  have RH_15 := Lib.hid ((RH_14.out.alloc _).below hb)
  clear hb lW cW0 cW1 cW2 cW3 cW4 cW5 lG cG0 cG1 cG2 cG3 cG4 cG5 A_14 RW_14 W_14 X_14 G_14 RX_14 RG_14 HS_14 RH_14 HB14
  have lG := G_15.out.1
  have cG0 := G_15.out.at 0 rfl
  have cG1 := G_15.out.at 1 rfl
  have cG2 := G_15.out.at 2 rfl
  have cG3 := G_15.out.at 3 rfl
  have cG4 := G_15.out.at 4 rfl
  have cG5 := G_15.out.at 5 rfl
  go_wp2_with fail
  refine (heldResult_any _ _ _ _ _ _ _ _ 1 _ RG_15.out.src hn1 (by omega) (by omega)).mono ?_
  rintro e w16 ⟨rfl, hb⟩
  have HB16 : Hid (Below w.heap.size w w16) := thru0 HB15.out hb
  have z16 : w15.heap.size ≤ w16.heap.size := hb.size
  have A_16 := Lib.hid (A_15.out.below hb)
  have RW_16 := Lib.hid (RW_15.out.below hb)
  have W_16 := Lib.hid (W_15.out.below hb)
  have X_16 := Lib.hid (X_15.out.below hb)
  have G_16 := Lib.hid (G_15.out.below hb)
  have RX_16 := Lib.hid (RX_15.out.below hb)
  have RG_16 := Lib.hid (RG_15.out.below hb)
  have HS_16 := Lib.hid (HS_15.out.below hb)
  have RH_16 := Lib.hid (RH_15.out.below hb)
  clear hb lG cG0 cG1 cG2 cG3 cG4 cG5 A_15 RW_15 W_15 X_15 G_15 RX_15 RG_15 HS_15 RH_15 HB15
  go_wp2
  go_ret
  exact ⟨rfl, HB16.out⟩

theorem e8_any (h ac bu : Int) (a : Option Addr) (n c : Nat) (f : Nat → Int) (at_ v : Int) (w : World) (hs : Src w a n f) (hn : n ≤ maxLen) : Calls Try.prog 8 #[.agg #[.int .i64 h, .slice a n c, .int .i64 ac, .int .i64 bu], .int .i64 at_, .int .i64 v] w (RetBool w true) := by
  by_cases hb : n ≤ 1048576
  · exact e8_near h ac bu a n c f at_ v w hs hb
  · exact e8_far h ac bu a n c at_ v w hn (by omega)

end Go.Proofs.Ythejbgmhfajcpaa
