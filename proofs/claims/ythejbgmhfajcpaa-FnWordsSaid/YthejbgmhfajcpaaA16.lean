/- Contracts: ZeroRange. -/
import Derived.Test.YthejbgmhfajcpaaA12
namespace Go.Proofs.Ythejbgmhfajcpaa
open Go.RowKit
set_option linter.unusedVariables false


/-- What ZeroRange answers. -/
def IsZero (h : Int) (n : Nat) (f : Nat → Int) (ac bu p q : Int) (r : AR) : Prop :=
  (∃ k, IsFault h n f ac bu k ∧ ¬ k = 0 ∧ r = errAR k) ∨ (IsFault h n f ac bu 0 ∧ ¬ (0 ≤ p ∧ p ≤ 2 * h) ∧ r = errAR 3) ∨ (IsFault h n f ac bu 0 ∧ (0 ≤ p ∧ p ≤ 2 * h) ∧ ¬ (0 ≤ q ∧ q ≤ 2 * h - p) ∧ r = errAR 3) ∨
  (IsFault h n f ac bu 0 ∧ (0 ≤ p ∧ p ≤ 2 * h) ∧ (0 ≤ q ∧ q ≤ 2 * h - p) ∧ r = ⟨0, h, n, zeroR f p.toNat q.toNat, ac, bu, 0⟩)
theorem isZero_some (h : Int) (n : Nat) (f : Nat → Int) (ac bu p q : Int) : ∃ r, IsZero h n f ac bu p q r := by
  obtain ⟨k, hk⟩ := isFault_some h n f ac bu
  by_cases h0 : k = 0
  · subst h0
    by_cases hp : 0 ≤ p ∧ p ≤ 2 * h
    · by_cases hq : 0 ≤ q ∧ q ≤ 2 * h - p
      · exact ⟨_, .inr (.inr (.inr ⟨hk, hp, hq, rfl⟩))⟩
      · exact ⟨_, .inr (.inr (.inl ⟨hk, hp, hq, rfl⟩))⟩
    · exact ⟨_, .inr (.inl ⟨hk, hp, rfl⟩)⟩
  · exact ⟨_, .inl ⟨k, hk, h0, rfl⟩⟩
theorem isZero_small {h : Int} {n : Nat} {f : Nat → Int} {ac bu p q : Int} {r : AR} (hr : IsZero h n f ac bu p q r) : r.n ≤ 400 := by
  rcases hr with ⟨k, _, _, rfl⟩ | ⟨_, _, rfl⟩ | ⟨_, _, _, rfl⟩ | ⟨hk, _, _, rfl⟩
  · exact Nat.zero_le _
  · exact Nat.zero_le _
  · exact Nat.zero_le _
  · exact fault_small hk
theorem put_is (X : Int) (lo mid hi : Nat) (a1 a2 : Option Addr) (c1 c2 m k : Nat) (F : Nat → Int) (v : Int) (w : World) (hX : X = (k : Int)) (hh : Halves w lo mid hi a1 a2 m F) (h1 : lo ≤ mid) (h2 : mid ≤ hi) (h3 : hi ≤ w.heap.size) (hm : m ≤ 200) (hk : k < 2 * m) :
    Calls Try.prog 51 #[.agg #[.slice a1 m c1, .slice a2 m c2], .int .i64 X, .int .i64 v] w (RetPut w lo mid hi a1 a2 m (upd F k v)) := hX ▸ put_any lo mid hi a1 a2 c1 c2 m k F v w hh h1 h2 h3 hm hk
theorem Halves.congr {w : World} {lo mid hi : Nat} {a1 a2 : Option Addr} {m : Nat} {F G : Nat → Int} (h : Halves w lo mid hi a1 a2 m F) (e : ∀ i, i < 2 * m → F i = G i) : Halves w lo mid hi a1 a2 m G :=
  ⟨h.1.congr fun i hi => e i (by omega), h.2.congr fun i hi => e (m + i) (by omega)⟩
theorem upd_zero (f : Nat → Int) (p i : Nat) : ∀ j, upd (zeroR f p i) (p + i) 0 j = zeroR f p (i + 1) j := by
  intro j
  simp only [upd, zeroR]
  by_cases e : j = p + i
  · rw [if_pos e, if_pos (by omega)]
  · rw [if_neg e]; congr 1; simp only [eq_iff_iff]; omega

set_option maxHeartbeats 400000 in
theorem implZero_fault (h ac bu p q : Int) (a : Option Addr) (n c : Nat) (f : Nat → Int) (k : Int) (w : World) (hs : Src w a n f) (hcn : n ≤ c) (hcm : c ≤ maxLen) (hk : IsFault h n f ac bu k) (h0 : ¬ k = 0) :
    Calls Try.prog 17 #[.agg #[.int .i64 h, .slice a n c, .int .i64 ac, .int .i64 bu], .int .i64 p, .int .i64 q] w (RetRes w (errAR k)) := by
  have HS := Lib.hid hs
  have HK := Lib.hid hk
  clear hs hk
  have hd : (k != 0) = true := by simpa using h0
  go_enter Try.func17, Try.ntmps17
  go_wp2_with fail
  refine (implFault_any _ _ _ _ _ _ f k _ ((HS.out.alloc _).alloc _) HK.out).mono ?_
  rintro e w1 ⟨rfl, hb⟩
  have HB1 : Hid (Below w.heap.size w w1) := thru2 (Below.refl _ _) hb
  have z1 : w.heap.size + 2 ≤ w1.heap.size := by have := hb.size; simp at this; omega
  have HS_1 := Lib.hid (((HS.out.alloc _).alloc _).below hb)
  have R_1 := Lib.hid ((Blk.new_at (w.heap.size + 1) (by simp)).below hb)
  clear hb HS
  have lR := R_1.out.1
  have cR0 := R_1.out.at 0 rfl
  have cR1 := R_1.out.at 1 rfl
  have cR2 := R_1.out.at 2 rfl
  have cR3 := R_1.out.at 3 rfl
  have cR4 := R_1.out.at 4 rfl
  have cR5 := R_1.out.at 5 rfl
  have fR0 := R_1.out.free 0 rfl
  have fR1 := R_1.out.free 1 rfl
  have fR2 := R_1.out.free 2 rfl
  have fR3 := R_1.out.free 3 rfl
  have fR4 := R_1.out.free 4 rfl
  have fR5 := R_1.out.free 5 rfl
  go_wp2
  have hz := HB1.out.size
  refine bodyPost_ret (v := .agg #[.int .i64 k, .int .i64 0, .slice none 0 0, .int .i64 0, .int .i64 0, .int .i64 0]) (by simp [results, Try.results17, go_sem, cR0, cR1, cR2, cR3, cR4, cR5]) rfl ⟨none, 0, rfl, .inl rfl, ?_⟩
  repeat (with_reducible refine Below.setCell ?_ (by (try simp); (try omega)) _)
  exact HB1.out

set_option maxHeartbeats 800000 in
theorem implZero_from (h ac bu p q : Int) (a : Option Addr) (n c : Nat) (f : Nat → Int) (w : World) (hs : Src w a n f) (hcn : n ≤ c) (hcm : c ≤ maxLen) (hk : IsFault h n f ac bu 0) (hp : ¬ (0 ≤ p ∧ p ≤ 2 * h)) :
    Calls Try.prog 17 #[.agg #[.int .i64 h, .slice a n c, .int .i64 ac, .int .i64 bu], .int .i64 p, .int .i64 q] w (RetRes w (errAR 3)) := by
  obtain ⟨⟨⟨g1, g2⟩, ⟨g3, g4⟩, g5, g6⟩, gn, _⟩ := isFault_ok hk
  have HS := Lib.hid hs
  have HK := Lib.hid hk
  have HP := Lib.hid hp
  clear hs hk hp
  clear gn
  go_enter Try.func17, Try.ntmps17
  go_wp2_with fail
  refine (implFault_any _ _ _ _ _ _ f 0 _ ((HS.out.alloc _).alloc _) HK.out).mono ?_
  rintro e w1 ⟨rfl, hb⟩
  have HB1 : Hid (Below w.heap.size w w1) := thru2 (Below.refl _ _) hb
  have z1 : w.heap.size + 2 ≤ w1.heap.size := by have := hb.size; simp at this; omega
  have HS_1 := Lib.hid (((HS.out.alloc _).alloc _).below hb)
  have A_1 := Lib.hid (((Blk.new_at (w.heap.size) (by simp)).alloc _).below hb)
  have R_1 := Lib.hid ((Blk.new_at (w.heap.size + 1) (by simp)).below hb)
  clear hb HS
  have lA := A_1.out.1
  have cA0 := A_1.out.at 0 rfl
  have cA1 := A_1.out.at 1 rfl
  have cA2 := A_1.out.at 2 rfl
  have cA3 := A_1.out.at 3 rfl
  go_wp2_with fail
  refine (isOut1 _ _ _ _ _ true rfl (.inr ⟨rfl, HP.out⟩)).mono ?_
  rintro e w2 ⟨rfl, hb⟩
  have HB2 : Hid (Below w.heap.size w w2) := thru1 HB1.out hb
  have z2 : w1.heap.size + 1 ≤ w2.heap.size := by have := hb.size; simp at this; omega
  have HS_2 := Lib.hid ((HS_1.out.alloc _).below hb)
  have A_2 := Lib.hid ((A_1.out.alloc _).below hb)
  have R_2 := Lib.hid ((R_1.out.alloc _).below hb)
  clear hb lA cA0 cA1 cA2 cA3 HS_1 A_1 R_1 HB1
  have lR := R_2.out.1
  have cR0 := R_2.out.at 0 rfl
  have cR1 := R_2.out.at 1 rfl
  have cR2 := R_2.out.at 2 rfl
  have cR3 := R_2.out.at 3 rfl
  have cR4 := R_2.out.at 4 rfl
  have cR5 := R_2.out.at 5 rfl
  have fR0 := R_2.out.free 0 rfl
  have fR1 := R_2.out.free 1 rfl
  have fR2 := R_2.out.free 2 rfl
  have fR3 := R_2.out.free 3 rfl
  have fR4 := R_2.out.free 4 rfl
  have fR5 := R_2.out.free 5 rfl
  go_wp2
  have hz := HB2.out.size
  refine bodyPost_ret (v := .agg #[.int .i64 3, .int .i64 0, .slice none 0 0, .int .i64 0, .int .i64 0, .int .i64 0]) (by simp [results, Try.results17, go_sem, cR0, cR1, cR2, cR3, cR4, cR5]) rfl ⟨none, 0, rfl, .inl rfl, ?_⟩
  repeat (with_reducible refine Below.setCell ?_ (by (try simp); (try omega)) _)
  exact HB2.out

set_option maxHeartbeats 800000 in
theorem implZero_count (h ac bu p q : Int) (a : Option Addr) (n c : Nat) (f : Nat → Int) (w : World) (hs : Src w a n f) (hcn : n ≤ c) (hcm : c ≤ maxLen) (hk : IsFault h n f ac bu 0) (hp : 0 ≤ p ∧ p ≤ 2 * h) (hq : ¬ (0 ≤ q ∧ q ≤ 2 * h - p)) :
    Calls Try.prog 17 #[.agg #[.int .i64 h, .slice a n c, .int .i64 ac, .int .i64 bu], .int .i64 p, .int .i64 q] w (RetRes w (errAR 3)) := by
  obtain ⟨⟨⟨g1, g2⟩, ⟨g3, g4⟩, g5, g6⟩, gn, _⟩ := isFault_ok hk
  have HS := Lib.hid hs
  have HK := Lib.hid hk
  have HP := Lib.hid hp
  clear hs hk hp
  clear gn
  have HQ := Lib.hid hq
  clear hq
  have hp1 := HP.out.1
  have hp2 := HP.out.2
  go_enter Try.func17, Try.ntmps17
  go_wp2_with fail
  refine (implFault_any _ _ _ _ _ _ f 0 _ ((HS.out.alloc _).alloc _) HK.out).mono ?_
  rintro e w1 ⟨rfl, hb⟩
  have HB1 : Hid (Below w.heap.size w w1) := thru2 (Below.refl _ _) hb
  have z1 : w.heap.size + 2 ≤ w1.heap.size := by have := hb.size; simp at this; omega
  have HS_1 := Lib.hid (((HS.out.alloc _).alloc _).below hb)
  have A_1 := Lib.hid (((Blk.new_at (w.heap.size) (by simp)).alloc _).below hb)
  have R_1 := Lib.hid ((Blk.new_at (w.heap.size + 1) (by simp)).below hb)
  clear hb HS
  have lA := A_1.out.1
  have cA0 := A_1.out.at 0 rfl
  have cA1 := A_1.out.at 1 rfl
  have cA2 := A_1.out.at 2 rfl
  have cA3 := A_1.out.at 3 rfl
  go_wp2_with fail
  refine (isOut1 _ _ _ _ _ false rfl (.inl ⟨rfl, HP.out⟩)).mono ?_
  rintro e w2 ⟨rfl, hb⟩
  have HB2 : Hid (Below w.heap.size w w2) := thru1 HB1.out hb
  have z2 : w1.heap.size + 1 ≤ w2.heap.size := by have := hb.size; simp at this; omega
  have HS_2 := Lib.hid ((HS_1.out.alloc _).below hb)
  have A_2 := Lib.hid ((A_1.out.alloc _).below hb)
  have R_2 := Lib.hid ((R_1.out.alloc _).below hb)
  clear hb lA cA0 cA1 cA2 cA3 HS_1 A_1 R_1 HB1
  go_wp2_with fail
  refine (isOut1 _ _ _ _ _ true rfl (.inr ⟨rfl, HQ.out⟩)).mono ?_
  rintro e w3 ⟨rfl, hb⟩
  have HB3 : Hid (Below w.heap.size w w3) := thru1 HB2.out hb
  have z3 : w2.heap.size + 1 ≤ w3.heap.size := by have := hb.size; simp at this; omega
  have HS_3 := Lib.hid ((HS_2.out.alloc _).below hb)
  have A_3 := Lib.hid ((A_2.out.alloc _).below hb)
  have R_3 := Lib.hid ((R_2.out.alloc _).below hb)
  clear hb HS_2 A_2 R_2 HB2
  have lR := R_3.out.1
  have cR0 := R_3.out.at 0 rfl
  have cR1 := R_3.out.at 1 rfl
  have cR2 := R_3.out.at 2 rfl
  have cR3 := R_3.out.at 3 rfl
  have cR4 := R_3.out.at 4 rfl
  have cR5 := R_3.out.at 5 rfl
  have fR0 := R_3.out.free 0 rfl
  have fR1 := R_3.out.free 1 rfl
  have fR2 := R_3.out.free 2 rfl
  have fR3 := R_3.out.free 3 rfl
  have fR4 := R_3.out.free 4 rfl
  have fR5 := R_3.out.free 5 rfl
  go_wp2
  have hz := HB3.out.size
  refine bodyPost_ret (v := .agg #[.int .i64 3, .int .i64 0, .slice none 0 0, .int .i64 0, .int .i64 0, .int .i64 0]) (by simp [results, Try.results17, go_sem, cR0, cR1, cR2, cR3, cR4, cR5]) rfl ⟨none, 0, rfl, .inl rfl, ?_⟩
  repeat (with_reducible refine Below.setCell ?_ (by (try simp); (try omega)) _)
  exact HB3.out

set_option maxHeartbeats 400000 in
theorem specZero_fault (h ac bu p q : Int) (a : Option Addr) (n c : Nat) (f : Nat → Int) (k : Int) (w : World) (hs : Src w a n f) (hcn : n ≤ c) (hcm : c ≤ maxLen) (hk : IsFault h n f ac bu k) (h0 : ¬ k = 0) :
    Calls Try.prog 19 #[.agg #[.int .i64 h, .slice a n c, .int .i64 ac, .int .i64 bu], .int .i64 p, .int .i64 q] w (RetRes w (errAR k)) := by
  have HS := Lib.hid hs
  have HK := Lib.hid hk
  clear hs hk
  have hd : (k != 0) = true := by simpa using h0
  go_enter Try.func19, Try.ntmps19
  go_wp2_with fail
  refine (specFault_any _ _ _ _ _ _ f k _ ((HS.out.alloc _).alloc _) HK.out).mono ?_
  rintro e w1 ⟨rfl, hb⟩
  have HB1 : Hid (Below w.heap.size w w1) := thru2 (Below.refl _ _) hb
  have z1 : w.heap.size + 2 ≤ w1.heap.size := by have := hb.size; simp at this; omega
  have HS_1 := Lib.hid (((HS.out.alloc _).alloc _).below hb)
  have R_1 := Lib.hid ((Blk.new_at (w.heap.size + 1) (by simp)).below hb)
  clear hb HS
  have lR := R_1.out.1
  have cR0 := R_1.out.at 0 rfl
  have cR1 := R_1.out.at 1 rfl
  have cR2 := R_1.out.at 2 rfl
  have cR3 := R_1.out.at 3 rfl
  have cR4 := R_1.out.at 4 rfl
  have cR5 := R_1.out.at 5 rfl
  have fR0 := R_1.out.free 0 rfl
  have fR1 := R_1.out.free 1 rfl
  have fR2 := R_1.out.free 2 rfl
  have fR3 := R_1.out.free 3 rfl
  have fR4 := R_1.out.free 4 rfl
  have fR5 := R_1.out.free 5 rfl
  go_wp2
  have hz := HB1.out.size
  refine bodyPost_ret (v := .agg #[.int .i64 k, .int .i64 0, .slice none 0 0, .int .i64 0, .int .i64 0, .int .i64 0]) (by simp [results, Try.results19, go_sem, cR0, cR1, cR2, cR3, cR4, cR5]) rfl ⟨none, 0, rfl, .inl rfl, ?_⟩
  repeat (with_reducible refine Below.setCell ?_ (by (try simp); (try omega)) _)
  exact HB1.out

set_option maxHeartbeats 800000 in
theorem specZero_from (h ac bu p q : Int) (a : Option Addr) (n c : Nat) (f : Nat → Int) (w : World) (hs : Src w a n f) (hcn : n ≤ c) (hcm : c ≤ maxLen) (hk : IsFault h n f ac bu 0) (hp : ¬ (0 ≤ p ∧ p ≤ 2 * h)) :
    Calls Try.prog 19 #[.agg #[.int .i64 h, .slice a n c, .int .i64 ac, .int .i64 bu], .int .i64 p, .int .i64 q] w (RetRes w (errAR 3)) := by
  obtain ⟨⟨⟨g1, g2⟩, ⟨g3, g4⟩, g5, g6⟩, gn, _⟩ := isFault_ok hk
  have HS := Lib.hid hs
  have HK := Lib.hid hk
  have HP := Lib.hid hp
  clear hs hk hp
  clear gn
  go_enter Try.func19, Try.ntmps19
  go_wp2_with fail
  refine (specFault_any _ _ _ _ _ _ f 0 _ ((HS.out.alloc _).alloc _) HK.out).mono ?_
  rintro e w1 ⟨rfl, hb⟩
  have HB1 : Hid (Below w.heap.size w w1) := thru2 (Below.refl _ _) hb
  have z1 : w.heap.size + 2 ≤ w1.heap.size := by have := hb.size; simp at this; omega
  have HS_1 := Lib.hid (((HS.out.alloc _).alloc _).below hb)
  have A_1 := Lib.hid (((Blk.new_at (w.heap.size) (by simp)).alloc _).below hb)
  have R_1 := Lib.hid ((Blk.new_at (w.heap.size + 1) (by simp)).below hb)
  clear hb HS
  have lA := A_1.out.1
  have cA0 := A_1.out.at 0 rfl
  have cA1 := A_1.out.at 1 rfl
  have cA2 := A_1.out.at 2 rfl
  have cA3 := A_1.out.at 3 rfl
  go_wp2_with fail
  refine (l1In_no _ _ _ _ HP.out).mono ?_
  rintro e w' ⟨rfl, rfl⟩
  clear lA cA0 cA1 cA2 cA3
  have lR := R_1.out.1
  have cR0 := R_1.out.at 0 rfl
  have cR1 := R_1.out.at 1 rfl
  have cR2 := R_1.out.at 2 rfl
  have cR3 := R_1.out.at 3 rfl
  have cR4 := R_1.out.at 4 rfl
  have cR5 := R_1.out.at 5 rfl
  have fR0 := R_1.out.free 0 rfl
  have fR1 := R_1.out.free 1 rfl
  have fR2 := R_1.out.free 2 rfl
  have fR3 := R_1.out.free 3 rfl
  have fR4 := R_1.out.free 4 rfl
  have fR5 := R_1.out.free 5 rfl
  go_wp2
  have hz := HB1.out.size
  refine bodyPost_ret (v := .agg #[.int .i64 3, .int .i64 0, .slice none 0 0, .int .i64 0, .int .i64 0, .int .i64 0]) (by simp [results, Try.results19, go_sem, cR0, cR1, cR2, cR3, cR4, cR5]) rfl ⟨none, 0, rfl, .inl rfl, ?_⟩
  repeat (with_reducible refine Below.setCell ?_ (by (try simp); (try omega)) _)
  exact HB1.out

set_option maxHeartbeats 800000 in
theorem specZero_count (h ac bu p q : Int) (a : Option Addr) (n c : Nat) (f : Nat → Int) (w : World) (hs : Src w a n f) (hcn : n ≤ c) (hcm : c ≤ maxLen) (hk : IsFault h n f ac bu 0) (hp : 0 ≤ p ∧ p ≤ 2 * h) (hq : ¬ (0 ≤ q ∧ q ≤ 2 * h - p)) :
    Calls Try.prog 19 #[.agg #[.int .i64 h, .slice a n c, .int .i64 ac, .int .i64 bu], .int .i64 p, .int .i64 q] w (RetRes w (errAR 3)) := by
  obtain ⟨⟨⟨g1, g2⟩, ⟨g3, g4⟩, g5, g6⟩, gn, _⟩ := isFault_ok hk
  have HS := Lib.hid hs
  have HK := Lib.hid hk
  have HP := Lib.hid hp
  clear hs hk hp
  clear gn
  have HQ := Lib.hid hq
  clear hq
  have hp1 := HP.out.1
  have hp2 := HP.out.2
  go_enter Try.func19, Try.ntmps19
  go_wp2_with fail
  refine (specFault_any _ _ _ _ _ _ f 0 _ ((HS.out.alloc _).alloc _) HK.out).mono ?_
  rintro e w1 ⟨rfl, hb⟩
  have HB1 : Hid (Below w.heap.size w w1) := thru2 (Below.refl _ _) hb
  have z1 : w.heap.size + 2 ≤ w1.heap.size := by have := hb.size; simp at this; omega
  have HS_1 := Lib.hid (((HS.out.alloc _).alloc _).below hb)
  have A_1 := Lib.hid (((Blk.new_at (w.heap.size) (by simp)).alloc _).below hb)
  have R_1 := Lib.hid ((Blk.new_at (w.heap.size + 1) (by simp)).below hb)
  clear hb HS
  have lA := A_1.out.1
  have cA0 := A_1.out.at 0 rfl
  have cA1 := A_1.out.at 1 rfl
  have cA2 := A_1.out.at 2 rfl
  have cA3 := A_1.out.at 3 rfl
  go_wp2_with fail
  refine (l1In_yes _ _ _ _ HP.out.1 HP.out.2).mono ?_
  rintro e w' ⟨rfl, rfl⟩
  go_wp2_with fail
  refine (l1In_no _ _ _ _ HQ.out).mono ?_
  rintro e w' ⟨rfl, rfl⟩
  clear lA cA0 cA1 cA2 cA3
  have lR := R_1.out.1
  have cR0 := R_1.out.at 0 rfl
  have cR1 := R_1.out.at 1 rfl
  have cR2 := R_1.out.at 2 rfl
  have cR3 := R_1.out.at 3 rfl
  have cR4 := R_1.out.at 4 rfl
  have cR5 := R_1.out.at 5 rfl
  have fR0 := R_1.out.free 0 rfl
  have fR1 := R_1.out.free 1 rfl
  have fR2 := R_1.out.free 2 rfl
  have fR3 := R_1.out.free 3 rfl
  have fR4 := R_1.out.free 4 rfl
  have fR5 := R_1.out.free 5 rfl
  go_wp2
  have hz := HB1.out.size
  refine bodyPost_ret (v := .agg #[.int .i64 3, .int .i64 0, .slice none 0 0, .int .i64 0, .int .i64 0, .int .i64 0]) (by simp [results, Try.results19, go_sem, cR0, cR1, cR2, cR3, cR4, cR5]) rfl ⟨none, 0, rfl, .inl rfl, ?_⟩
  repeat (with_reducible refine Below.setCell ?_ (by (try simp); (try omega)) _)
  exact HB1.out

set_option maxHeartbeats 1600000 in
theorem specZero_ok (m p q : Nat) (ac bu : Int) (a : Option Addr) (c : Nat) (f : Nat → Int) (w : World) (hs : Src w a (2 * m) f) (hcn : 2 * m ≤ c) (hcm : c ≤ maxLen) (hk : IsFault (m : Int) (2 * m) f ac bu 0) (hpq : p + q ≤ 2 * m) :
    Calls Try.prog 19 #[.agg #[.int .i64 (m : Int), .slice a (2 * m) c, .int .i64 ac, .int .i64 bu], .int .i64 (p : Int), .int .i64 (q : Int)] w (RetRes w ⟨0, m, 2 * m, zeroR f p q, ac, bu, 0⟩) := by
  obtain ⟨⟨⟨g1, g2⟩, _, _⟩, _, _⟩ := isFault_ok hk
  have HS := Lib.hid hs
  have HK := Lib.hid hk
  clear hs hk
  go_enter Try.func19, Try.ntmps19
  go_wp2_with fail
  refine (specFault_any _ _ _ _ _ _ f 0 _ ((HS.out.alloc _).alloc _) HK.out).mono ?_
  rintro e w1 ⟨rfl, hb⟩
  have HB1 : Hid (Below w.heap.size w w1) := thru2 (Below.refl _ _) hb
  have z1 : w.heap.size + 2 ≤ w1.heap.size := by have := hb.size; simp at this; omega
  have HS_1 := Lib.hid (((HS.out.alloc _).alloc _).below hb)
  have A_1 := Lib.hid (((Blk.new_at (w.heap.size) (by simp)).alloc _).below hb)
  have R_1 := Lib.hid ((Blk.new_at (w.heap.size + 1) (by simp)).below hb)
  clear hb HS
  have lA := A_1.out.1
  have cA0 := A_1.out.at 0 rfl
  have cA1 := A_1.out.at 1 rfl
  have cA2 := A_1.out.at 2 rfl
  have cA3 := A_1.out.at 3 rfl
  go_wp2_with fail
  refine (l1In_yes _ _ _ _ (by omega) (by omega)).mono ?_
  rintro e w' ⟨rfl, rfl⟩
  go_wp2_with fail
  refine (l1In_yes _ _ _ _ (by omega) (by omega)).mono ?_
  rintro e w' ⟨rfl, rfl⟩
  go_wp2_with fail
  refine (l1Copy_any _ _ _ _ _ _ _ f _ A_1.out HS_1.out (by omega) (by omega)).mono ?_
  rintro e w2 ⟨u2, c2, rfl, ho, hb, hc2, hcm2, hn2⟩
  have HB2 : Hid (Below w.heap.size w w2) := thru0 HB1.out hb
  have z2 : w1.heap.size ≤ w2.heap.size := hb.size
  have HS_2 := Lib.hid (HS_1.out.below hb)
  have A_2 := Lib.hid (A_1.out.below hb)
  have R_2 := Lib.hid (R_1.out.below hb)
  have RW_2 : Hid (OwnIn w2 w1.heap.size w2.heap.size u2 (2 * m) f) := ho.into
  clear hb lA cA0 cA1 cA2 cA3 HS_1 A_1 R_1 HB1 ho
  clear HS_2
  go_wp2_with fail
  refine (l1Zero_any _ _ _ p q _ _ _ _ _ _ f _ (Blk.new_at (w2.heap.size) rfl) (RW_2.out.alloc _) (.inr (Nat.le_refl _)) (by omega) (by omega)).mono ?_
  rintro e w3 ⟨rfl, ho, hk⟩
  have HB3 : Hid (Below w.heap.size w w3) := (HB2.out.alloc HB2.out.size _).trans (hk.below (by omega) (by simp; omega))
  have z3 : w2.heap.size + 1 ≤ w3.heap.size := by have := hk.size; simp at this; omega
  have A_3 := Lib.hid ((A_2.out.alloc _).keeps hk (by omega))
  have R_3 := Lib.hid ((R_2.out.alloc _).keeps hk (by omega))
  have C_3 := Lib.hid ((Blk.new_at (w2.heap.size) (by simp)).keeps hk (by omega))
  have RW_3 : Hid (OwnIn w3 w1.heap.size w2.heap.size u2 (2 * m) (zeroR f p q)) := ho
  clear hk A_2 R_2 RW_2 HB2 ho
  have lC := C_3.out.1
  have cC0 := C_3.out.at 0 rfl
  have cC1 := C_3.out.at 1 rfl
  have cC2 := C_3.out.at 2 rfl
  have cC3 := C_3.out.at 3 rfl
  have lR := R_3.out.1
  have cR0 := R_3.out.at 0 rfl
  have cR1 := R_3.out.at 1 rfl
  have cR2 := R_3.out.at 2 rfl
  have cR3 := R_3.out.at 3 rfl
  have cR4 := R_3.out.at 4 rfl
  have cR5 := R_3.out.at 5 rfl
  have fR0 := R_3.out.free 0 rfl
  have fR1 := R_3.out.free 1 rfl
  have fR2 := R_3.out.free 2 rfl
  have fR3 := R_3.out.free 3 rfl
  have fR4 := R_3.out.free 4 rfl
  have fR5 := R_3.out.free 5 rfl
  go_wp2
  have hz := HB3.out.size
  refine bodyPost_ret (v := .agg #[.int .i64 0, .int .i64 (m : Int), .slice u2 (2 * m) c2, .int .i64 ac, .int .i64 bu, .int .i64 0]) (by simp [results, Try.results19, go_sem, cR0, cR1, cR2, cR3, cR4, cR5]) rfl ⟨_, _, rfl, ?_, ?_⟩
  · refine Own.mono (B := w.heap.size + 2) ?_ (by omega)
    repeat (with_reducible refine Own.setCell ?_ (by (try simp); (try omega)) _)
    exact (RW_3.out.widen (by omega) (Nat.le_refl _)).out
  · repeat (with_reducible refine Below.setCell ?_ (by (try simp); (try omega)) _)
    exact HB3.out

set_option maxHeartbeats 3200000 in
theorem implZero_ok (m p q : Nat) (ac bu : Int) (a : Option Addr) (c : Nat) (f : Nat → Int) (w : World) (hs : Src w a (2 * m) f) (hcn : 2 * m ≤ c) (hcm : c ≤ maxLen) (hk : IsFault (m : Int) (2 * m) f ac bu 0) (hpq : p + q ≤ 2 * m) :
    Calls Try.prog 17 #[.agg #[.int .i64 (m : Int), .slice a (2 * m) c, .int .i64 ac, .int .i64 bu], .int .i64 (p : Int), .int .i64 (q : Int)] w (RetRes w ⟨0, m, 2 * m, zeroR f p q, ac, bu, 0⟩) := by
  obtain ⟨⟨⟨g1, g2⟩, _, _⟩, _, _⟩ := isFault_ok hk
  obtain ⟨ab, ao, rfl, hab, hac⟩ := src_some hs (by omega)
  clear hac
  have HS := Lib.hid hs
  have HK := Lib.hid hk
  have HCM := Lib.hid hcm
  clear hs hk hcm
  go_enter Try.func17, Try.ntmps17
  go_wp2_with fail
  refine (implFault_any _ _ _ _ _ _ f 0 _ ((HS.out.alloc _).alloc _) HK.out).mono ?_
  rintro e w1 ⟨rfl, hb⟩
  have HB1 : Hid (Below w.heap.size w w1) := thru2 (Below.refl _ _) hb
  have z1 : w.heap.size + 2 ≤ w1.heap.size := by have := hb.size; simp at this; omega
  have HS_1 := Lib.hid (((HS.out.alloc _).alloc _).below hb)
  have A_1 := Lib.hid (((Blk.new_at (w.heap.size) (by simp)).alloc _).below hb)
  have R_1 := Lib.hid ((Blk.new_at (w.heap.size + 1) (by simp)).below hb)
  clear hb HS
  have lA := A_1.out.1
  have cA0 := A_1.out.at 0 rfl
  have cA1 := A_1.out.at 1 rfl
  have cA2 := A_1.out.at 2 rfl
  have cA3 := A_1.out.at 3 rfl
  go_wp2_with fail
  refine (isOut1 _ _ _ _ _ false rfl (.inl ⟨rfl, by omega, by omega⟩)).mono ?_
  rintro e w2 ⟨rfl, hb⟩
  have HB2 : Hid (Below w.heap.size w w2) := thru1 HB1.out hb
  have z2 : w1.heap.size + 1 ≤ w2.heap.size := by have := hb.size; simp at this; omega
  have HS_2 := Lib.hid ((HS_1.out.alloc _).below hb)
  have A_2 := Lib.hid ((A_1.out.alloc _).below hb)
  have R_2 := Lib.hid ((R_1.out.alloc _).below hb)
  clear hb lA cA0 cA1 cA2 cA3 HS_1 A_1 R_1 HB1
  go_wp2_with fail
  refine (isOut1 _ _ _ _ _ false rfl (.inl ⟨rfl, by omega, by omega⟩)).mono ?_
  rintro e w3 ⟨rfl, hb⟩
  have HB3 : Hid (Below w.heap.size w w3) := thru1 HB2.out hb
  have z3 : w2.heap.size + 1 ≤ w3.heap.size := by have := hb.size; simp at this; omega
  have HS_3 := Lib.hid ((HS_2.out.alloc _).below hb)
  have A_3 := Lib.hid ((A_2.out.alloc _).below hb)
  have R_3 := Lib.hid ((R_2.out.alloc _).below hb)
  clear hb HS_2 A_2 R_2 HB2
  have lA := A_3.out.1
  have cA0 := A_3.out.at 0 rfl
  have cA1 := A_3.out.at 1 rfl
  have cA2 := A_3.out.at 2 rfl
  have cA3 := A_3.out.at 3 rfl
  go_wp2_with fail
  refine (halvesOf_any _ _ _ _ _ _ f _ HS_3.out (by omega) (by omega) hcn HCM.out).mono ?_
  rintro e w4 ⟨u1, e1, u2, e2, mid, rfl, ho, hb, hm1, hm2⟩
  have HB4 : Hid (Below w.heap.size w w4) := thru0 HB3.out hb
  have z4 : w3.heap.size ≤ w4.heap.size := hb.size
  have HS_4 := Lib.hid (HS_3.out.below hb)
  have A_4 := Lib.hid (A_3.out.below hb)
  have R_4 := Lib.hid (R_3.out.below hb)
  have HL_4 : Hid (Halves w4 w3.heap.size mid w4.heap.size u1 u2 m f) := ho
  clear hb lA cA0 cA1 cA2 cA3 HS_3 A_3 R_3 HB3 ho
  clear HS_4
  go_wp2_with fail
  have HB5 : Hid (Below w.heap.size w (w4.alloc (.cells #[.slice u1 m e1, .slice u2 m e2] 66))) := HB4.out.alloc HB4.out.size _
  have A_5 := Lib.hid (A_4.out.alloc (.cells #[.slice u1 m e1, .slice u2 m e2] 66))
  have R_5 := Lib.hid (R_4.out.alloc (.cells #[.slice u1 m e1, .slice u2 m e2] 66))
  have H_5 : Hid (Blk (w4.alloc (.cells #[.slice u1 m e1, .slice u2 m e2] 66)) w4.heap.size [.slice u1 m e1, .slice u2 m e2]) := Blk.new_at (w4.heap.size) rfl
  have HL_5 := Lib.hid (HL_4.out.alloc (.cells #[.slice u1 m e1, .slice u2 m e2] 66))
  have z5 : w4.heap.size + 1 ≤ (w4.alloc (.cells #[.slice u1 m e1, .slice u2 m e2] 66)).heap.size := by simp
  clear HB4 A_4 R_4 HL_4
  generalize w4.alloc (.cells #[.slice u1 m e1, .slice u2 m e2] 66) = w5 at *
  go_loopw [38] (fun k wr => ∃ i : Nat, i ≤ q ∧ k = .int .i64 i ∧ Hid (Keeps w5 wr w3.heap.size w4.heap.size) ∧ Hid (Halves wr w3.heap.size mid w4.heap.size u1 u2 m (zeroR f p i))) (fun k _ => q - (intOf k).toNat)
  case atStart => exact ⟨0, Nat.zero_le _, rfl, Keeps.refl _ _ _, HL_5.out.congr fun i _ => by simp only [zeroR]; rw [if_neg (by omega)]⟩
  case round =>
    obtain ⟨i, hi, rfl, HKr, HLr⟩ := hrel
    have zr : w5.heap.size ≤ wr.heap.size := HKr.out.size
    have HBr : Hid (Below w.heap.size w wr) := HB5.out.trans (HKr.out.below (by omega) HB5.out.size)
    have A_r := Lib.hid (A_5.out.keeps HKr.out (by omega))
    have R_r := Lib.hid (R_5.out.keeps HKr.out (by omega))
    have H_r := Lib.hid (H_5.out.keeps HKr.out (by omega))
    have cH0 := H_r.out.at 0 rfl; have cH1 := H_r.out.at 1 rfl
    by_cases hlt : i < q
    · have hlt' : (i : Int) < (q : Int) := by omega
      have hx1 : (0 : Int) ≤ (p : Int) + (i : Int) := by omega
      have hx2 : (p : Int) + (i : Int) ≤ 400 := by omega
      go_wp2_with (go_at_call 51; (refine (put_is _ _ _ _ u1 u2 _ _ m (p + i) (zeroR f p i) 0 _ (by omega) HLr.out (by omega) (by omega) (by omega) (by omega) (by omega)).mono ?_); rintro e w6 ⟨rfl, ho, hk⟩; have HK6 := Lib.hid hk; have HL6 := Lib.hid ho; clear ho hk)
      go_roundw
      case rel => exact ⟨i + 1, by omega, by go_num, HKr.out.trans HK6.out, HL6.out.congr fun j _ => upd_zero f p i j⟩
      case measure => simp [intOf]; omega
    · obtain rfl : i = q := by omega
      have cA0 := A_r.out.at 0 rfl; have cA1 := A_r.out.at 1 rfl; have cA2 := A_r.out.at 2 rfl; have cA3 := A_r.out.at 3 rfl
      go_wp2_with fail
      refine (withHalves_any _ _ _ _ u1 u2 _ _ m m _ _ (zeroR f p i) (fun j => zeroR f p i (m + j)) _ HLr.out.1.src HLr.out.2.src (by omega) (by omega) (by omega) (by omega)).mono ?_
      rintro e w7 ⟨u7, e7, rfl, ho, hb, hc7, hcm7, hn7⟩
      have HB7 := Lib.hid (thru0 HBr.out hb)
      have R_7 := Lib.hid (R_r.out.below hb)
      have RW_7 : Hid (OwnIn w7 wr.heap.size w7.heap.size u7 (m + m) (cat m (zeroR f p i) (fun j => zeroR f p i (m + j)))) := ho.into
      clear hb ho hn7 cA0 cA1 cA2 cA3 cH0 cH1 HLr HBr A_r R_r H_r HKr
      have cR0 := R_7.out.at 0 rfl; have fR0 := R_7.out.free 0 rfl
      have cR1 := R_7.out.at 1 rfl; have fR1 := R_7.out.free 1 rfl
      have cR2 := R_7.out.at 2 rfl; have fR2 := R_7.out.free 2 rfl
      have cR3 := R_7.out.at 3 rfl; have fR3 := R_7.out.free 3 rfl
      have cR4 := R_7.out.at 4 rfl; have fR4 := R_7.out.free 4 rfl
      have cR5 := R_7.out.at 5 rfl; have fR5 := R_7.out.free 5 rfl
      have lR := R_7.out.1
      go_wp2
      have hz := HB7.out.size
      refine bodyPost_ret (v := .agg #[.int .i64 0, .int .i64 (m : Int), .slice u7 (m + m) e7, .int .i64 ac, .int .i64 bu, .int .i64 0]) (by simp [results, Try.results17, go_sem, cR0, cR1, cR2, cR3, cR4, cR5]) rfl (retHalf ?_ ?_)
      · refine Own.mono (B := w.heap.size + 2) ?_ (by omega)
        repeat (with_reducible refine Own.setCell ?_ (by (try simp); (try omega)) _)
        exact (RW_7.out.widen (by omega) (Nat.le_refl _)).out
      · repeat (with_reducible refine Below.setCell ?_ (by (try simp); (try omega)) _)
        exact HB7.out

end Go.Proofs.Ythejbgmhfajcpaa
