/- Contracts: TakeWords, where it is refused. -/
import Derived.Test.YthejbgmhfajcpaaA11
namespace Go.Proofs.Ythejbgmhfajcpaa
open Go.RowKit
set_option linter.unusedVariables false


/-- What TakeWords answers. -/
def IsTake (h : Int) (n : Nat) (f : Nat → Int) (ac bu q : Int) (r : AR) : Prop :=
  (∃ k, IsFault h n f ac bu k ∧ ¬ k = 0 ∧ r = errAR k) ∨ (IsFault h n f ac bu 0 ∧ ¬ (1 ≤ q ∧ q ≤ h) ∧ r = errAR 3) ∨ (IsFault h n f ac bu 0 ∧ (1 ≤ q ∧ q ≤ h) ∧ h < bu + q ∧ r = errAR 7) ∨
  (IsFault h n f ac bu 0 ∧ (1 ≤ q ∧ q ≤ h) ∧ bu + q ≤ h ∧ r = ⟨0, h, n, f, ac, bu + q, baseI ac h + bu⟩)
theorem isTake_some (h : Int) (n : Nat) (f : Nat → Int) (ac bu q : Int) : ∃ r, IsTake h n f ac bu q r := by
  obtain ⟨k, hk⟩ := isFault_some h n f ac bu
  by_cases h0 : k = 0
  · subst h0
    by_cases hp : 1 ≤ q ∧ q ≤ h
    · by_cases hq : h < bu + q
      · exact ⟨_, .inr (.inr (.inl ⟨hk, hp, hq, rfl⟩))⟩
      · exact ⟨_, .inr (.inr (.inr ⟨hk, hp, by omega, rfl⟩))⟩
    · exact ⟨_, .inr (.inl ⟨hk, hp, rfl⟩)⟩
  · exact ⟨_, .inl ⟨k, hk, h0, rfl⟩⟩
theorem isTake_small {h : Int} {n : Nat} {f : Nat → Int} {ac bu q : Int} {r : AR} (hr : IsTake h n f ac bu q r) : r.n ≤ 400 := by
  rcases hr with ⟨k, _, _, rfl⟩ | ⟨_, _, rfl⟩ | ⟨_, _, _, rfl⟩ | ⟨hk, _, _, rfl⟩
  · exact Nat.zero_le _
  · exact Nat.zero_le _
  · exact Nat.zero_le _
  · exact fault_small hk
theorem ext_drew (w : World) (o : Obj) : Ext w.drew (w.alloc o).drew := .inr ⟨o, rfl⟩
/-- The world of a state that goes on is named, with what is known of it. -/
theorem then_named {K : Act → World → Prop} {Q : Exit → Act → World → Prop} {e : Exit} {a : Act} {W : World} (p : World → Prop) (hp : p W) (h : ∀ w', p w' → Exit.then K Q e a w') : Exit.then K Q e a W := h W hp

set_option maxHeartbeats 400000 in
theorem implTake_fault (h ac bu q : Int) (a : Option Addr) (n c : Nat) (f : Nat → Int) (k : Int) (w : World) (hs : Src w a n f) (hcn : n ≤ c) (hcm : c ≤ maxLen) (hk : IsFault h n f ac bu k) (h0 : ¬ k = 0) :
    Calls Try.prog 27 #[.agg #[.int .i64 h, .slice a n c, .int .i64 ac, .int .i64 bu], .int .i64 q] w (RetRes w (errAR k)) := by
  have HS := Lib.hid hs
  have HK := Lib.hid hk
  clear hs hk
  have hd : (k != 0) = true := by simpa using h0
  go_enter Try.func27, Try.ntmps27
  go_wp2_with fail
  refine (implFault_any _ _ _ _ _ _ f k _ ((HS.out.alloc _).alloc _) HK.out).mono ?_
  rintro e w1 ⟨rfl, hb⟩
  have HB1 : Hid (Below w.heap.size w w1) := thru2 (Below.refl _ _) hb
  have z1 : w.heap.size + 2 ≤ w1.heap.size := by have := hb.size; simp at this; omega
  have HS_1 := Lib.hid (((HS.out.alloc _).alloc _).below hb)
  have R_1 := Lib.hid ((Blk.new_at (w.heap.size + 1) (by simp)).below hb)
  clear hb HS
  have lR := R_1.out.1
  have cR0 := R_1.out.at 0 rfl
  have cR1 := R_1.out.at 1 rfl
  have cR2 := R_1.out.at 2 rfl
  have cR3 := R_1.out.at 3 rfl
  have cR4 := R_1.out.at 4 rfl
  have cR5 := R_1.out.at 5 rfl
  have fR0 := R_1.out.free 0 rfl
  have fR1 := R_1.out.free 1 rfl
  have fR2 := R_1.out.free 2 rfl
  have fR3 := R_1.out.free 3 rfl
  have fR4 := R_1.out.free 4 rfl
  have fR5 := R_1.out.free 5 rfl
  go_wp2
  have hz := HB1.out.size
  refine bodyPost_ret (v := .agg #[.int .i64 k, .int .i64 0, .slice none 0 0, .int .i64 0, .int .i64 0, .int .i64 0]) (by simp [results, Try.results27, go_sem, cR0, cR1, cR2, cR3, cR4, cR5]) rfl ⟨none, 0, rfl, .inl rfl, ?_⟩
  repeat (with_reducible refine Below.setCell ?_ (by (try simp); (try omega)) _)
  exact HB1.out

set_option maxHeartbeats 400000 in
theorem implTake_range (h ac bu q : Int) (a : Option Addr) (n c : Nat) (f : Nat → Int) (w : World) (hs : Src w a n f) (hcn : n ≤ c) (hcm : c ≤ maxLen) (hk : IsFault h n f ac bu 0) (hp : ¬ (1 ≤ q ∧ q ≤ h)) :
    Calls Try.prog 27 #[.agg #[.int .i64 h, .slice a n c, .int .i64 ac, .int .i64 bu], .int .i64 q] w (RetRes w (errAR 3)) := by
  obtain ⟨⟨⟨g1, g2⟩, ⟨g3, g4⟩, g5, g6⟩, gn, _⟩ := isFault_ok hk
  have HS := Lib.hid hs
  have HK := Lib.hid hk
  have HP := Lib.hid hp
  clear hs hk hp
  clear gn
  go_enter Try.func27, Try.ntmps27
  go_wp2_with fail
  refine (implFault_any _ _ _ _ _ _ f 0 _ ((HS.out.alloc _).alloc _) HK.out).mono ?_
  rintro e w1 ⟨rfl, hb⟩
  have HB1 : Hid (Below w.heap.size w w1) := thru2 (Below.refl _ _) hb
  have z1 : w.heap.size + 2 ≤ w1.heap.size := by have := hb.size; simp at this; omega
  have HS_1 := Lib.hid (((HS.out.alloc _).alloc _).below hb)
  have A_1 := Lib.hid (((Blk.new_at (w.heap.size) (by simp)).alloc _).below hb)
  have R_1 := Lib.hid ((Blk.new_at (w.heap.size + 1) (by simp)).below hb)
  clear hb HS
  have lA := A_1.out.1
  have cA0 := A_1.out.at 0 rfl
  have cA1 := A_1.out.at 1 rfl
  have cA2 := A_1.out.at 2 rfl
  have cA3 := A_1.out.at 3 rfl
  go_wp2_with fail
  refine (isOut1 _ _ _ _ _ true rfl (.inr ⟨rfl, HP.out⟩)).mono ?_
  rintro e w2 ⟨rfl, hb⟩
  have HB2 : Hid (Below w.heap.size w w2) := thru1 HB1.out hb
  have z2 : w1.heap.size + 1 ≤ w2.heap.size := by have := hb.size; simp at this; omega
  have HS_2 := Lib.hid ((HS_1.out.alloc _).below hb)
  have A_2 := Lib.hid ((A_1.out.alloc _).below hb)
  have R_2 := Lib.hid ((R_1.out.alloc _).below hb)
  clear hb lA cA0 cA1 cA2 cA3 HS_1 A_1 R_1 HB1
  have lA := A_2.out.1
  have cA0 := A_2.out.at 0 rfl
  have cA1 := A_2.out.at 1 rfl
  have cA2 := A_2.out.at 2 rfl
  have cA3 := A_2.out.at 3 rfl
  have lR := R_2.out.1
  have cR0 := R_2.out.at 0 rfl
  have cR1 := R_2.out.at 1 rfl
  have cR2 := R_2.out.at 2 rfl
  have cR3 := R_2.out.at 3 rfl
  have cR4 := R_2.out.at 4 rfl
  have cR5 := R_2.out.at 5 rfl
  have fR0 := R_2.out.free 0 rfl
  have fR1 := R_2.out.free 1 rfl
  have fR2 := R_2.out.free 2 rfl
  have fR3 := R_2.out.free 3 rfl
  have fR4 := R_2.out.free 4 rfl
  have fR5 := R_2.out.free 5 rfl
  go_wp2
  have hz := HB2.out.size
  refine bodyPost_ret (v := .agg #[.int .i64 3, .int .i64 0, .slice none 0 0, .int .i64 0, .int .i64 0, .int .i64 0]) (by simp [results, Try.results27, go_sem, cR0, cR1, cR2, cR3, cR4, cR5]) rfl ⟨none, 0, rfl, .inl rfl, ?_⟩
  repeat (with_reducible refine Below.setCell ?_ (by (try simp); (try omega)) _)
  exact HB2.out

set_option maxHeartbeats 400000 in
theorem implTake_full (h ac bu q : Int) (a : Option Addr) (n c : Nat) (f : Nat → Int) (w : World) (hs : Src w a n f) (hcn : n ≤ c) (hcm : c ≤ maxLen) (hk : IsFault h n f ac bu 0) (hp : 1 ≤ q ∧ q ≤ h) (hq : h < bu + q) :
    Calls Try.prog 27 #[.agg #[.int .i64 h, .slice a n c, .int .i64 ac, .int .i64 bu], .int .i64 q] w (RetRes w (errAR 7)) := by
  obtain ⟨⟨⟨g1, g2⟩, ⟨g3, g4⟩, g5, g6⟩, gn, _⟩ := isFault_ok hk
  have HS := Lib.hid hs
  have HK := Lib.hid hk
  have HP := Lib.hid hp
  clear hs hk hp
  clear gn
  have hp1 := HP.out.1
  have hp2 := HP.out.2
  go_enter Try.func27, Try.ntmps27
  go_wp2_with fail
  refine (implFault_any _ _ _ _ _ _ f 0 _ ((HS.out.alloc _).alloc _) HK.out).mono ?_
  rintro e w1 ⟨rfl, hb⟩
  have HB1 : Hid (Below w.heap.size w w1) := thru2 (Below.refl _ _) hb
  have z1 : w.heap.size + 2 ≤ w1.heap.size := by have := hb.size; simp at this; omega
  have HS_1 := Lib.hid (((HS.out.alloc _).alloc _).below hb)
  have A_1 := Lib.hid (((Blk.new_at (w.heap.size) (by simp)).alloc _).below hb)
  have R_1 := Lib.hid ((Blk.new_at (w.heap.size + 1) (by simp)).below hb)
  clear hb HS
  have lA := A_1.out.1
  have cA0 := A_1.out.at 0 rfl
  have cA1 := A_1.out.at 1 rfl
  have cA2 := A_1.out.at 2 rfl
  have cA3 := A_1.out.at 3 rfl
  go_wp2_with fail
  refine (isOut1 _ _ _ _ _ false rfl (.inl ⟨rfl, HP.out⟩)).mono ?_
  rintro e w2 ⟨rfl, hb⟩
  have HB2 : Hid (Below w.heap.size w w2) := thru1 HB1.out hb
  have z2 : w1.heap.size + 1 ≤ w2.heap.size := by have := hb.size; simp at this; omega
  have HS_2 := Lib.hid ((HS_1.out.alloc _).below hb)
  have A_2 := Lib.hid ((A_1.out.alloc _).below hb)
  have R_2 := Lib.hid ((R_1.out.alloc _).below hb)
  clear hb lA cA0 cA1 cA2 cA3 HS_1 A_1 R_1 HB1
  have lA := A_2.out.1
  have cA0 := A_2.out.at 0 rfl
  have cA1 := A_2.out.at 1 rfl
  have cA2 := A_2.out.at 2 rfl
  have cA3 := A_2.out.at 3 rfl
  have lR := R_2.out.1
  have cR0 := R_2.out.at 0 rfl
  have cR1 := R_2.out.at 1 rfl
  have cR2 := R_2.out.at 2 rfl
  have cR3 := R_2.out.at 3 rfl
  have cR4 := R_2.out.at 4 rfl
  have cR5 := R_2.out.at 5 rfl
  have fR0 := R_2.out.free 0 rfl
  have fR1 := R_2.out.free 1 rfl
  have fR2 := R_2.out.free 2 rfl
  have fR3 := R_2.out.free 3 rfl
  have fR4 := R_2.out.free 4 rfl
  have fR5 := R_2.out.free 5 rfl
  go_wp2
  have hz := HB2.out.size
  refine bodyPost_ret (v := .agg #[.int .i64 7, .int .i64 0, .slice none 0 0, .int .i64 0, .int .i64 0, .int .i64 0]) (by simp [results, Try.results27, go_sem, cR0, cR1, cR2, cR3, cR4, cR5]) rfl ⟨none, 0, rfl, .inl rfl, ?_⟩
  repeat (with_reducible refine Below.setCell ?_ (by (try simp); (try omega)) _)
  exact HB2.out

set_option maxHeartbeats 400000 in
theorem specTake_fault (h ac bu q : Int) (a : Option Addr) (n c : Nat) (f : Nat → Int) (k : Int) (w : World) (hs : Src w a n f) (hcn : n ≤ c) (hcm : c ≤ maxLen) (hk : IsFault h n f ac bu k) (h0 : ¬ k = 0) :
    Calls Try.prog 32 #[.agg #[.int .i64 h, .slice a n c, .int .i64 ac, .int .i64 bu], .int .i64 q] w (RetRes w (errAR k)) := by
  have HS := Lib.hid hs
  have HK := Lib.hid hk
  clear hs hk
  have hd : (k != 0) = true := by simpa using h0
  go_enter Try.func32, Try.ntmps32
  go_wp2_with fail
  refine (specFault_any _ _ _ _ _ _ f k _ ((HS.out.alloc _).alloc _) HK.out).mono ?_
  rintro e w1 ⟨rfl, hb⟩
  have HB1 : Hid (Below w.heap.size w w1) := thru2 (Below.refl _ _) hb
  have z1 : w.heap.size + 2 ≤ w1.heap.size := by have := hb.size; simp at this; omega
  have HS_1 := Lib.hid (((HS.out.alloc _).alloc _).below hb)
  have R_1 := Lib.hid ((Blk.new_at (w.heap.size + 1) (by simp)).below hb)
  clear hb HS
  have lR := R_1.out.1
  have cR0 := R_1.out.at 0 rfl
  have cR1 := R_1.out.at 1 rfl
  have cR2 := R_1.out.at 2 rfl
  have cR3 := R_1.out.at 3 rfl
  have cR4 := R_1.out.at 4 rfl
  have cR5 := R_1.out.at 5 rfl
  have fR0 := R_1.out.free 0 rfl
  have fR1 := R_1.out.free 1 rfl
  have fR2 := R_1.out.free 2 rfl
  have fR3 := R_1.out.free 3 rfl
  have fR4 := R_1.out.free 4 rfl
  have fR5 := R_1.out.free 5 rfl
  go_wp2
  have hz := HB1.out.size
  refine bodyPost_ret (v := .agg #[.int .i64 k, .int .i64 0, .slice none 0 0, .int .i64 0, .int .i64 0, .int .i64 0]) (by simp [results, Try.results32, go_sem, cR0, cR1, cR2, cR3, cR4, cR5]) rfl ⟨none, 0, rfl, .inl rfl, ?_⟩
  repeat (with_reducible refine Below.setCell ?_ (by (try simp); (try omega)) _)
  exact HB1.out

set_option maxHeartbeats 400000 in
theorem specTake_range (h ac bu q : Int) (a : Option Addr) (n c : Nat) (f : Nat → Int) (w : World) (hs : Src w a n f) (hcn : n ≤ c) (hcm : c ≤ maxLen) (hk : IsFault h n f ac bu 0) (hp : ¬ (1 ≤ q ∧ q ≤ h)) :
    Calls Try.prog 32 #[.agg #[.int .i64 h, .slice a n c, .int .i64 ac, .int .i64 bu], .int .i64 q] w (RetRes w (errAR 3)) := by
  obtain ⟨⟨⟨g1, g2⟩, ⟨g3, g4⟩, g5, g6⟩, gn, _⟩ := isFault_ok hk
  have HS := Lib.hid hs
  have HK := Lib.hid hk
  have HP := Lib.hid hp
  clear hs hk hp
  clear gn
  go_enter Try.func32, Try.ntmps32
  go_wp2_with fail
  refine (specFault_any _ _ _ _ _ _ f 0 _ ((HS.out.alloc _).alloc _) HK.out).mono ?_
  rintro e w1 ⟨rfl, hb⟩
  have HB1 : Hid (Below w.heap.size w w1) := thru2 (Below.refl _ _) hb
  have z1 : w.heap.size + 2 ≤ w1.heap.size := by have := hb.size; simp at this; omega
  have HS_1 := Lib.hid (((HS.out.alloc _).alloc _).below hb)
  have A_1 := Lib.hid (((Blk.new_at (w.heap.size) (by simp)).alloc _).below hb)
  have R_1 := Lib.hid ((Blk.new_at (w.heap.size + 1) (by simp)).below hb)
  clear hb HS
  have lA := A_1.out.1
  have cA0 := A_1.out.at 0 rfl
  have cA1 := A_1.out.at 1 rfl
  have cA2 := A_1.out.at 2 rfl
  have cA3 := A_1.out.at 3 rfl
  go_wp2_with fail
  refine (l1In_no _ _ _ _ HP.out).mono ?_
  rintro e w' ⟨rfl, rfl⟩
  clear lA cA0 cA1 cA2 cA3
  have lA := A_1.out.1
  have cA0 := A_1.out.at 0 rfl
  have cA1 := A_1.out.at 1 rfl
  have cA2 := A_1.out.at 2 rfl
  have cA3 := A_1.out.at 3 rfl
  have lR := R_1.out.1
  have cR0 := R_1.out.at 0 rfl
  have cR1 := R_1.out.at 1 rfl
  have cR2 := R_1.out.at 2 rfl
  have cR3 := R_1.out.at 3 rfl
  have cR4 := R_1.out.at 4 rfl
  have cR5 := R_1.out.at 5 rfl
  have fR0 := R_1.out.free 0 rfl
  have fR1 := R_1.out.free 1 rfl
  have fR2 := R_1.out.free 2 rfl
  have fR3 := R_1.out.free 3 rfl
  have fR4 := R_1.out.free 4 rfl
  have fR5 := R_1.out.free 5 rfl
  go_wp2
  have hz := HB1.out.size
  refine bodyPost_ret (v := .agg #[.int .i64 3, .int .i64 0, .slice none 0 0, .int .i64 0, .int .i64 0, .int .i64 0]) (by simp [results, Try.results32, go_sem, cR0, cR1, cR2, cR3, cR4, cR5]) rfl ⟨none, 0, rfl, .inl rfl, ?_⟩
  repeat (with_reducible refine Below.setCell ?_ (by (try simp); (try omega)) _)
  exact HB1.out

set_option maxHeartbeats 400000 in
theorem specTake_full (h ac bu q : Int) (a : Option Addr) (n c : Nat) (f : Nat → Int) (w : World) (hs : Src w a n f) (hcn : n ≤ c) (hcm : c ≤ maxLen) (hk : IsFault h n f ac bu 0) (hp : 1 ≤ q ∧ q ≤ h) (hq : h < bu + q) :
    Calls Try.prog 32 #[.agg #[.int .i64 h, .slice a n c, .int .i64 ac, .int .i64 bu], .int .i64 q] w (RetRes w (errAR 7)) := by
  obtain ⟨⟨⟨g1, g2⟩, ⟨g3, g4⟩, g5, g6⟩, gn, _⟩ := isFault_ok hk
  have HS := Lib.hid hs
  have HK := Lib.hid hk
  have HP := Lib.hid hp
  clear hs hk hp
  clear gn
  have hp1 := HP.out.1
  have hp2 := HP.out.2
  go_enter Try.func32, Try.ntmps32
  go_wp2_with fail
  refine (specFault_any _ _ _ _ _ _ f 0 _ ((HS.out.alloc _).alloc _) HK.out).mono ?_
  rintro e w1 ⟨rfl, hb⟩
  have HB1 : Hid (Below w.heap.size w w1) := thru2 (Below.refl _ _) hb
  have z1 : w.heap.size + 2 ≤ w1.heap.size := by have := hb.size; simp at this; omega
  have HS_1 := Lib.hid (((HS.out.alloc _).alloc _).below hb)
  have A_1 := Lib.hid (((Blk.new_at (w.heap.size) (by simp)).alloc _).below hb)
  have R_1 := Lib.hid ((Blk.new_at (w.heap.size + 1) (by simp)).below hb)
  clear hb HS
  have lA := A_1.out.1
  have cA0 := A_1.out.at 0 rfl
  have cA1 := A_1.out.at 1 rfl
  have cA2 := A_1.out.at 2 rfl
  have cA3 := A_1.out.at 3 rfl
  go_wp2_with fail
  refine (l1In_yes _ _ _ _ HP.out.1 HP.out.2).mono ?_
  rintro e w' ⟨rfl, rfl⟩
  clear lA cA0 cA1 cA2 cA3
  have lA := A_1.out.1
  have cA0 := A_1.out.at 0 rfl
  have cA1 := A_1.out.at 1 rfl
  have cA2 := A_1.out.at 2 rfl
  have cA3 := A_1.out.at 3 rfl
  have lR := R_1.out.1
  have cR0 := R_1.out.at 0 rfl
  have cR1 := R_1.out.at 1 rfl
  have cR2 := R_1.out.at 2 rfl
  have cR3 := R_1.out.at 3 rfl
  have cR4 := R_1.out.at 4 rfl
  have cR5 := R_1.out.at 5 rfl
  have fR0 := R_1.out.free 0 rfl
  have fR1 := R_1.out.free 1 rfl
  have fR2 := R_1.out.free 2 rfl
  have fR3 := R_1.out.free 3 rfl
  have fR4 := R_1.out.free 4 rfl
  have fR5 := R_1.out.free 5 rfl
  go_wp2
  have hz := HB1.out.size
  refine bodyPost_ret (v := .agg #[.int .i64 7, .int .i64 0, .slice none 0 0, .int .i64 0, .int .i64 0, .int .i64 0]) (by simp [results, Try.results32, go_sem, cR0, cR1, cR2, cR3, cR4, cR5]) rfl ⟨none, 0, rfl, .inl rfl, ?_⟩
  repeat (with_reducible refine Below.setCell ?_ (by (try simp); (try omega)) _)
  exact HB1.out

end Go.Proofs.Ythejbgmhfajcpaa
