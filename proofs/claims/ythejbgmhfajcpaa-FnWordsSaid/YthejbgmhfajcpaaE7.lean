/- The walk of FnExactReadAt. -/
import Derived.Test.YthejbgmhfajcpaaA8
namespace Go.Proofs.Ythejbgmhfajcpaa
open Go.RowKit
set_option linter.unusedVariables false


/-- What ReadAt answers. -/
def IsRead (h : Int) (n : Nat) (f : Nat → Int) (ac bu at_ co v : Int) : Prop :=
  (IsFault h n f ac bu co ∧ ¬ co = 0 ∧ v = 0) ∨ (IsFault h n f ac bu 0 ∧ ¬ (0 ≤ at_ ∧ at_ ≤ 2 * h - 1) ∧ co = 3 ∧ v = 0) ∨ (IsFault h n f ac bu 0 ∧ (0 ≤ at_ ∧ at_ ≤ 2 * h - 1) ∧ co = 0 ∧ v = f at_.toNat)
theorem isRead_some (h : Int) (n : Nat) (f : Nat → Int) (ac bu at_ : Int) : ∃ co v, IsRead h n f ac bu at_ co v := by
  obtain ⟨k, hk⟩ := isFault_some h n f ac bu
  by_cases h0 : k = 0
  · subst h0
    by_cases hp : 0 ≤ at_ ∧ at_ ≤ 2 * h - 1
    · exact ⟨_, _, .inr (.inr ⟨hk, hp, rfl, rfl⟩)⟩
    · exact ⟨_, _, .inr (.inl ⟨hk, hp, rfl, rfl⟩)⟩
  · exact ⟨k, 0, .inl ⟨hk, h0, rfl⟩⟩
theorem implRead_any (h ac bu at_ co v : Int) (a : Option Addr) (n c : Nat) (f : Nat → Int) (w : World) (hs : Src w a n f) (hr : IsRead h n f ac bu at_ co v) :
    Calls Try.prog 20 #[.agg #[.int .i64 h, .slice a n c, .int .i64 ac, .int .i64 bu], .int .i64 at_] w (RetPair w co v) := by
  rcases hr with ⟨h1, h2, rfl⟩ | ⟨h1, h2, rfl, rfl⟩ | ⟨h1, h2, rfl, rfl⟩
  · exact implRead_fault h ac bu at_ co a n c f w hs h1 h2
  · exact implRead_range h ac bu at_ a n c f w hs h1 h2
  · exact implRead_ok h ac bu at_ a n c f w hs h1 h2
theorem specRead_any (h ac bu at_ co v : Int) (a : Option Addr) (n c : Nat) (f : Nat → Int) (w : World) (hs : Src w a n f) (hr : IsRead h n f ac bu at_ co v) :
    Calls Try.prog 21 #[.agg #[.int .i64 h, .slice a n c, .int .i64 ac, .int .i64 bu], .int .i64 at_] w (RetPair w co v) := by
  rcases hr with ⟨h1, h2, rfl⟩ | ⟨h1, h2, rfl, rfl⟩ | ⟨h1, h2, rfl, rfl⟩
  · exact specRead_fault h ac bu at_ co a n c f w hs h1 h2
  · exact specRead_range h ac bu at_ a n c f w hs h1 h2
  · exact specRead_ok h ac bu at_ a n c f w hs h1 h2

set_option maxHeartbeats 400000 in
theorem e7_far (h ac bu : Int) (a : Option Addr) (n c : Nat) (at_ : Int) (w : World) (hn : n ≤ maxLen) (hbig : 1048576 < n) :
    Calls Try.prog 7 #[.agg #[.int .i64 h, .slice a n c, .int .i64 ac, .int .i64 bu], .int .i64 at_] w (RetBool w true) := by
  go_enter Try.func7, Try.ntmps7
  go_wp2_with (go_at_call 36; (with_reducible refine (szArena_no _ _ _ _ _ _ _ _ (by omega) (by omega) hn (by omega)).mono ?_); rintro e w1 ⟨rfl, hb⟩; obtain ⟨hc, hf⟩ := bcell hb; have HB := Lib.hid hb; have hz := hb.size; clear hb)
  go_ret
  exact ⟨rfl, ((Below.refl _ _).alloc (Nat.le_refl _) _).trans (HB.out.mono (by simp; try omega))⟩

set_option maxHeartbeats 1600000 in
theorem e7_near (h ac bu : Int) (a : Option Addr) (n c : Nat) (f : Nat → Int) (at_ : Int) (w : World) (hs : Src w a n f) (hbig : n ≤ 1048576) :
    Calls Try.prog 7 #[.agg #[.int .i64 h, .slice a n c, .int .i64 ac, .int .i64 bu], .int .i64 at_] w (RetBool w true) := by
  obtain ⟨co, v, hr⟩ := isRead_some h n f ac bu at_
  have HR := Lib.hid hr
  have HS := Lib.hid hs
  clear hr hs
  go_enter Try.func7, Try.ntmps7
  go_wp2_with fail
  refine (szArena_ok _ _ _ _ _ _ _ _ (by omega) (by omega) (by unfold maxLen; omega) (by omega)).mono ?_
  rintro e w1 ⟨rfl, hb⟩
  have HB1 : Hid (Below w.heap.size w w1) := thru1 (Below.refl _ _) hb
  have z1 : w.heap.size + 1 ≤ w1.heap.size := by have := hb.size; simp at this; omega
  have HS_1 := Lib.hid ((HS.out.alloc _).below hb)
  have A_1 := Lib.hid ((Blk.new_at (w.heap.size) (by simp)).below hb)
  clear hb HS
  have lA := A_1.out.1
  have cA0 := A_1.out.at 0 rfl
  have cA1 := A_1.out.at 1 rfl
  have cA2 := A_1.out.at 2 rfl
  have cA3 := A_1.out.at 3 rfl
  go_wp2_with fail
  refine (toArena_any _ _ _ _ _ _ f _ HS_1.out hbig).mono ?_
  rintro e w2 ⟨u2, c2, rfl, ho, hb, hc2, hcm2, hn2⟩
  have HB2 : Hid (Below w.heap.size w w2) := thru0 HB1.out hb
  have z2 : w1.heap.size ≤ w2.heap.size := hb.size
  have HS_2 := Lib.hid (HS_1.out.below hb)
  have A_2 := Lib.hid (A_1.out.below hb)
  have RA_2 : Hid (OwnIn w2 w1.heap.size w2.heap.size u2 n f) := ho.into
  clear hb lA cA0 cA1 cA2 cA3 HS_1 A_1 HB1 ho
  go_wp2_with fail
  refine (specRead_any _ _ _ _ _ _ _ _ _ f _ RA_2.out.src HR.out).mono ?_
  rintro e w3 ⟨rfl, hb⟩
  have HB3 : Hid (Below w.heap.size w w3) := thru0 HB2.out hb
  have z3 : w2.heap.size ≤ w3.heap.size := hb.size
  have HS_3 := Lib.hid (HS_2.out.below hb)
  have A_3 := Lib.hid (A_2.out.below hb)
  have RA_3 := Lib.hid (RA_2.out.below hb)
  clear hb HS_2 A_2 RA_2 HB2
  clear RA_3
  have lA := A_3.out.1
  have cA0 := A_3.out.at 0 rfl
  have cA1 := A_3.out.at 1 rfl
  have cA2 := A_3.out.at 2 rfl
  have cA3 := A_3.out.at 3 rfl
  go_wp2_with fail
  refine (toArena_any _ _ _ _ _ _ f _ (HS_3.out.alloc _) hbig).mono ?_
  rintro e w4 ⟨u4, c4, rfl, ho, hb, hc4, hcm4, hn4⟩
  have HB4 : Hid (Below w.heap.size w w4) := thru1 HB3.out hb
  have z4 : w3.heap.size + 1 ≤ w4.heap.size := by have := hb.size; simp at this; omega
  have HS_4 := Lib.hid ((HS_3.out.alloc _).below hb)
  have A_4 := Lib.hid ((A_3.out.alloc _).below hb)
  have W_4 := Lib.hid ((Blk.new_at (w3.heap.size) (by simp)).below hb)
  have RX_4 : Hid (OwnIn w4 (w3.heap.size + 1) w4.heap.size u4 n f) := (ho.mono (by simp)).into
  clear hb lA cA0 cA1 cA2 cA3 HS_3 A_3 HB3 ho
  go_wp2_with fail
  refine (implRead_any _ _ _ _ _ _ _ _ _ f _ (RX_4.out.alloc _).src HR.out).mono ?_
  rintro e w5 ⟨rfl, hb⟩
  have HB5 : Hid (Below w.heap.size w w5) := thru1 HB4.out hb
  have z5 : w4.heap.size + 1 ≤ w5.heap.size := by have := hb.size; simp at this; omega
  have HS_5 := Lib.hid ((HS_4.out.alloc _).below hb)
  have A_5 := Lib.hid ((A_4.out.alloc _).below hb)
  have W_5 := Lib.hid ((W_4.out.alloc _).below hb)
  have RX_5 := Lib.hid ((RX_4.out.alloc _).below hb)
  have X_5 := Lib.hid ((Blk.new_at (w4.heap.size) (by simp)).below hb)
  clear hb HS_4 A_4 W_4 RX_4 HB4
  have lW := W_5.out.1
  have cW0 := W_5.out.at 0 rfl
  have cW1 := W_5.out.at 1 rfl
  have lA := A_5.out.1
  have cA0 := A_5.out.at 0 rfl
  have cA1 := A_5.out.at 1 rfl
  have cA2 := A_5.out.at 2 rfl
  have cA3 := A_5.out.at 3 rfl
  have lX := X_5.out.1
  have cX0 := X_5.out.at 0 rfl
  have cX1 := X_5.out.at 1 rfl
  have cX2 := X_5.out.at 2 rfl
  have cX3 := X_5.out.at 3 rfl
  go_wp2_with fail
  refine (eqIntResult_same _ _ _).mono ?_
  rintro e w6 ⟨rfl, hb⟩
  have HB6 : Hid (Below w.heap.size w w6) := thru1 HB5.out hb
  have z6 : w5.heap.size + 1 ≤ w6.heap.size := by have := hb.size; simp at this; omega
  have HS_6 := Lib.hid ((HS_5.out.alloc _).below hb)
  have A_6 := Lib.hid ((A_5.out.alloc _).below hb)
  have W_6 := Lib.hid ((W_5.out.alloc _).below hb)
  have RX_6 := Lib.hid ((RX_5.out.alloc _).below hb)
  have X_6 := Lib.hid ((X_5.out.alloc _).below hb)
  clear hb lW cW0 cW1 lA cA0 cA1 cA2 cA3 lX cX0 cX1 cX2 cX3 HS_5 A_5 W_5 RX_5 X_5 HB5
  have lA := A_6.out.1
  have cA0 := A_6.out.at 0 rfl
  have cA1 := A_6.out.at 1 rfl
  have cA2 := A_6.out.at 2 rfl
  have cA3 := A_6.out.at 3 rfl
  have lX := X_6.out.1
  have cX0 := X_6.out.at 0 rfl
  have cX1 := X_6.out.at 1 rfl
  have cX2 := X_6.out.at 2 rfl
  have cX3 := X_6.out.at 3 rfl
  go_wp2_with fail
  have HS_6d := Lib.hid HS_6.out.drew
  have A_6d := Lib.hid A_6.out.drew
  have W_6d := Lib.hid W_6.out.drew
  have RX_6d := Lib.hid RX_6.out.drew
  have X_6d := Lib.hid X_6.out.drew
  have HB6d := Lib.hid HB6.out.drew
  go_region_held3 (fun w' => w'.cell? ⟨w.heap.size, 0, none⟩ = some (.int .i64 h) ∧ w'.cell? ⟨w.heap.size, 1, none⟩ = some (.slice a n c) ∧ w'.cell? ⟨w.heap.size, 2, none⟩ = some (.int .i64 ac) ∧ w'.cell? ⟨w.heap.size, 3, none⟩ = some (.int .i64 bu) ∧ w'.cell? ⟨w4.heap.size, 0, none⟩ = some (.int .i64 h) ∧ w'.cell? ⟨w4.heap.size, 1, none⟩ = some (.slice u4 n c4) ∧ w'.cell? ⟨w4.heap.size, 2, none⟩ = some (.int .i64 ac) ∧ w'.cell? ⟨w4.heap.size, 3, none⟩ = some (.int .i64 bu))
    (first | exact ⟨A_6d.out.at 0 rfl, A_6d.out.at 1 rfl, A_6d.out.at 2 rfl, A_6d.out.at 3 rfl, X_6d.out.at 0 rfl, X_6d.out.at 1 rfl, X_6d.out.at 2 rfl, X_6d.out.at 3 rfl⟩ | exact ⟨A_7.out.at 0 rfl, A_7.out.at 1 rfl, A_7.out.at 2 rfl, A_7.out.at 3 rfl, X_7.out.at 0 rfl, X_7.out.at 1 rfl, X_7.out.at 2 rfl, X_7.out.at 3 rfl⟩ | exact ⟨A_8.out.at 0 rfl, A_8.out.at 1 rfl, A_8.out.at 2 rfl, A_8.out.at 3 rfl, X_8.out.at 0 rfl, X_8.out.at 1 rfl, X_8.out.at 2 rfl, X_8.out.at 3 rfl⟩)
    (first | (go_at_call 37; refine (toArena_any _ _ _ _ _ _ f _ HS_6d.out hbig).mono ?_; rintro e w7 ⟨u7, c7, rfl, ho, hb, hc7, hcm7, hn7⟩; have HB7 := Lib.hid (thru0 HB6d.out hb); have z7 : w6.heap.size ≤ w7.heap.size := hb.size; have HS_7 := Lib.hid (HS_6d.out.below hb); have A_7 := Lib.hid (A_6d.out.below hb); have W_7 := Lib.hid (W_6d.out.below hb); have RX_7 := Lib.hid (RX_6d.out.below hb); have X_7 := Lib.hid (X_6d.out.below hb); have RT_7 : Hid (OwnIn w7 w6.heap.size w7.heap.size u7 n f) := ho.into; clear hb ho) | (go_at_call 38; refine (eqArena_same _ _ _ _ _ _ _ _ f f _ RX_7.out.src RT_7.out.src hbig (fun _ _ => rfl)).mono ?_; rintro e w8 ⟨rfl, hb⟩; have HB8 := Lib.hid (thru0 HB7.out hb); have z8 : w7.heap.size ≤ w8.heap.size := hb.size; have HS_8 := Lib.hid (HS_7.out.below hb); have A_8 := Lib.hid (A_7.out.below hb); have W_8 := Lib.hid (W_7.out.below hb); have RX_8 := Lib.hid (RX_7.out.below hb); have X_8 := Lib.hid (X_7.out.below hb); have RT_8 := Lib.hid (RT_7.out.below hb); clear hb))

  go_wp2
  go_ret
  exact ⟨rfl, HB8.out⟩

theorem e7_any (h ac bu : Int) (a : Option Addr) (n c : Nat) (f : Nat → Int) (at_ : Int) (w : World) (hs : Src w a n f) (hn : n ≤ maxLen) : Calls Try.prog 7 #[.agg #[.int .i64 h, .slice a n c, .int .i64 ac, .int .i64 bu], .int .i64 at_] w (RetBool w true) := by
  by_cases hb : n ≤ 1048576
  · exact e7_near h ac bu a n c f at_ w hs hb
  · exact e7_far h ac bu a n c at_ w hn (by omega)

end Go.Proofs.Ythejbgmhfajcpaa
