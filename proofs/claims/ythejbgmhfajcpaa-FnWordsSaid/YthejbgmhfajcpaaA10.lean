/- Contracts: WriteAt. -/
import Derived.Test.YthejbgmhfajcpaaA9
import Derived.Deep.Cut
namespace Go.Proofs.Ythejbgmhfajcpaa
open Go.RowKit
set_option linter.unusedVariables false


/-- What WriteAt answers. -/
def IsWrite (h : Int) (n : Nat) (f : Nat → Int) (ac bu at_ v : Int) (r : AR) : Prop :=
  (∃ k, IsFault h n f ac bu k ∧ ¬ k = 0 ∧ r = errAR k) ∨ (IsFault h n f ac bu 0 ∧ ¬ ((0 ≤ at_ ∧ at_ ≤ 2 * h - 1) ∧ (-1000000000 ≤ v ∧ v ≤ 1000000000)) ∧ r = errAR 3) ∨
  (IsFault h n f ac bu 0 ∧ ((0 ≤ at_ ∧ at_ ≤ 2 * h - 1) ∧ (-1000000000 ≤ v ∧ v ≤ 1000000000)) ∧ r = ⟨0, h, n, upd f at_.toNat v, ac, bu, 0⟩)
theorem isWrite_some (h : Int) (n : Nat) (f : Nat → Int) (ac bu at_ v : Int) : ∃ r, IsWrite h n f ac bu at_ v r := by
  obtain ⟨k, hk⟩ := isFault_some h n f ac bu
  by_cases h0 : k = 0
  · subst h0
    by_cases hp : (0 ≤ at_ ∧ at_ ≤ 2 * h - 1) ∧ (-1000000000 ≤ v ∧ v ≤ 1000000000)
    · exact ⟨_, .inr (.inr ⟨hk, hp, rfl⟩)⟩
    · exact ⟨_, .inr (.inl ⟨hk, hp, rfl⟩)⟩
  · exact ⟨_, .inl ⟨k, hk, h0, rfl⟩⟩
theorem fault_small {h : Int} {n : Nat} {f : Nat → Int} {ac bu : Int} (hk : IsFault h n f ac bu 0) : n ≤ 400 := by
  obtain ⟨⟨⟨_, _⟩, _, _⟩, gn, _⟩ := isFault_ok hk; omega
theorem isWrite_small {h : Int} {n : Nat} {f : Nat → Int} {ac bu at_ v : Int} {r : AR} (hr : IsWrite h n f ac bu at_ v r) : r.n ≤ 400 := by
  rcases hr with ⟨k, _, _, rfl⟩ | ⟨_, _, rfl⟩ | ⟨hk, _, rfl⟩
  · exact Nat.zero_le _
  · exact Nat.zero_le _
  · exact fault_small hk

set_option maxHeartbeats 400000 in
theorem implWrite_fault (h ac bu at_ v : Int) (a : Option Addr) (n c : Nat) (f : Nat → Int) (k : Int) (w : World) (hs : Src w a n f) (hcn : n ≤ c) (hcm : c ≤ maxLen) (hk : IsFault h n f ac bu k) (h0 : ¬ k = 0) :
    Calls Try.prog 15 #[.agg #[.int .i64 h, .slice a n c, .int .i64 ac, .int .i64 bu], .int .i64 at_, .int .i64 v] w (RetRes w (errAR k)) := by
  have HS := Lib.hid hs
  have HK := Lib.hid hk
  clear hs hk
  have hd : (k != 0) = true := by simpa using h0
  go_enter Try.func15, Try.ntmps15
  go_wp2_with fail
  refine (implFault_any _ _ _ _ _ _ f k _ ((HS.out.alloc _).alloc _) HK.out).mono ?_
  rintro e w1 ⟨rfl, hb⟩
  have HB1 : Hid (Below w.heap.size w w1) := thru2 (Below.refl _ _) hb
  have z1 : w.heap.size + 2 ≤ w1.heap.size := by have := hb.size; simp at this; omega
  have HS_1 := Lib.hid (((HS.out.alloc _).alloc _).below hb)
  have R_1 := Lib.hid ((Blk.new_at (w.heap.size + 1) (by simp)).below hb)
  clear hb HS
  have lR := R_1.out.1
  have cR0 := R_1.out.at 0 rfl
  have cR1 := R_1.out.at 1 rfl
  have cR2 := R_1.out.at 2 rfl
  have cR3 := R_1.out.at 3 rfl
  have cR4 := R_1.out.at 4 rfl
  have cR5 := R_1.out.at 5 rfl
  have fR0 := R_1.out.free 0 rfl
  have fR1 := R_1.out.free 1 rfl
  have fR2 := R_1.out.free 2 rfl
  have fR3 := R_1.out.free 3 rfl
  have fR4 := R_1.out.free 4 rfl
  have fR5 := R_1.out.free 5 rfl
  go_wp2
  have hz := HB1.out.size
  refine bodyPost_ret (v := .agg #[.int .i64 k, .int .i64 0, .slice none 0 0, .int .i64 0, .int .i64 0, .int .i64 0]) (by simp [results, Try.results15, go_sem, cR0, cR1, cR2, cR3, cR4, cR5]) rfl ⟨none, 0, rfl, .inl rfl, ?_⟩
  repeat (with_reducible refine Below.setCell ?_ (by (try simp); (try omega)) _)
  exact HB1.out

set_option maxHeartbeats 400000 in
theorem implWrite_range (h ac bu at_ v : Int) (a : Option Addr) (n c : Nat) (f : Nat → Int) (w : World) (hs : Src w a n f) (hcn : n ≤ c) (hcm : c ≤ maxLen) (hk : IsFault h n f ac bu 0) (hp : ¬ ((0 ≤ at_ ∧ at_ ≤ 2 * h - 1) ∧ (-1000000000 ≤ v ∧ v ≤ 1000000000))) :
    Calls Try.prog 15 #[.agg #[.int .i64 h, .slice a n c, .int .i64 ac, .int .i64 bu], .int .i64 at_, .int .i64 v] w (RetRes w (errAR 3)) := by
  obtain ⟨⟨⟨g1, g2⟩, _, _⟩, gn, _⟩ := isFault_ok hk
  have HS := Lib.hid hs
  have HK := Lib.hid hk
  have HP := Lib.hid hp
  clear hs hk hp
  clear gn
  go_enter Try.func15, Try.ntmps15
  go_wp2_with fail
  refine (implFault_any _ _ _ _ _ _ f 0 _ ((HS.out.alloc _).alloc _) HK.out).mono ?_
  rintro e w1 ⟨rfl, hb⟩
  have HB1 : Hid (Below w.heap.size w w1) := thru2 (Below.refl _ _) hb
  have z1 : w.heap.size + 2 ≤ w1.heap.size := by have := hb.size; simp at this; omega
  have HS_1 := Lib.hid (((HS.out.alloc _).alloc _).below hb)
  have A_1 := Lib.hid (((Blk.new_at (w.heap.size) (by simp)).alloc _).below hb)
  have R_1 := Lib.hid ((Blk.new_at (w.heap.size + 1) (by simp)).below hb)
  clear hb HS
  have lA := A_1.out.1
  have cA0 := A_1.out.at 0 rfl
  have cA1 := A_1.out.at 1 rfl
  have cA2 := A_1.out.at 2 rfl
  have cA3 := A_1.out.at 3 rfl
  go_wp2_with fail
  refine (placeBound_any _ _ _ _ _ _ _ _ g1 g2).mono ?_
  rintro e w2 ⟨rfl, hb⟩
  have HB2 : Hid (Below w.heap.size w w2) := thru0 HB1.out hb
  have z2 : w1.heap.size ≤ w2.heap.size := hb.size
  have HS_2 := Lib.hid (HS_1.out.below hb)
  have A_2 := Lib.hid (A_1.out.below hb)
  have R_2 := Lib.hid (R_1.out.below hb)
  clear hb lA cA0 cA1 cA2 cA3 HS_1 A_1 R_1 HB1
  go_wp2_with fail
  refine (wordBound_any _ _).mono ?_
  rintro e w3 ⟨rfl, hb⟩
  have HB3 : Hid (Below w.heap.size w w3) := thru0 HB2.out hb
  have z3 : w2.heap.size ≤ w3.heap.size := hb.size
  have HS_3 := Lib.hid (HS_2.out.below hb)
  have A_3 := Lib.hid (A_2.out.below hb)
  have R_3 := Lib.hid (R_2.out.below hb)
  clear hb HS_2 A_2 R_2 HB2
  go_wp2_with fail
  refine (isOut2 _ _ _ _ _ _ _ _ true rfl (.inr ⟨rfl, HP.out⟩)).mono ?_
  rintro e w4 ⟨rfl, hb⟩
  have HB4 : Hid (Below w.heap.size w w4) := thru1 HB3.out hb
  have z4 : w3.heap.size + 1 ≤ w4.heap.size := by have := hb.size; simp at this; omega
  have HS_4 := Lib.hid ((HS_3.out.alloc _).below hb)
  have A_4 := Lib.hid ((A_3.out.alloc _).below hb)
  have R_4 := Lib.hid ((R_3.out.alloc _).below hb)
  clear hb HS_3 A_3 R_3 HB3
  have lR := R_4.out.1
  have cR0 := R_4.out.at 0 rfl
  have cR1 := R_4.out.at 1 rfl
  have cR2 := R_4.out.at 2 rfl
  have cR3 := R_4.out.at 3 rfl
  have cR4 := R_4.out.at 4 rfl
  have cR5 := R_4.out.at 5 rfl
  have fR0 := R_4.out.free 0 rfl
  have fR1 := R_4.out.free 1 rfl
  have fR2 := R_4.out.free 2 rfl
  have fR3 := R_4.out.free 3 rfl
  have fR4 := R_4.out.free 4 rfl
  have fR5 := R_4.out.free 5 rfl
  go_wp2
  have hz := HB4.out.size
  refine bodyPost_ret (v := .agg #[.int .i64 3, .int .i64 0, .slice none 0 0, .int .i64 0, .int .i64 0, .int .i64 0]) (by simp [results, Try.results15, go_sem, cR0, cR1, cR2, cR3, cR4, cR5]) rfl ⟨none, 0, rfl, .inl rfl, ?_⟩
  repeat (with_reducible refine Below.setCell ?_ (by (try simp); (try omega)) _)
  exact HB4.out

set_option maxHeartbeats 1600000 in
theorem implWrite_ok (m k : Nat) (ac bu v : Int) (a : Option Addr) (c : Nat) (f : Nat → Int) (w : World) (hs : Src w a (2 * m) f) (hcn : 2 * m ≤ c) (hcm : c ≤ maxLen) (hk : IsFault (m : Int) (2 * m) f ac bu 0) (hkm : k < 2 * m) (hw : -1000000000 ≤ v ∧ v ≤ 1000000000) :
    Calls Try.prog 15 #[.agg #[.int .i64 (m : Int), .slice a (2 * m) c, .int .i64 ac, .int .i64 bu], .int .i64 (k : Int), .int .i64 v] w (RetRes w ⟨0, m, 2 * m, upd f k v, ac, bu, 0⟩) := by
  obtain ⟨⟨⟨g1, g2⟩, _, _⟩, _, _⟩ := isFault_ok hk
  obtain ⟨ab, ao, rfl, hab, hac⟩ := src_some hs (by omega)
  clear hac
  have HS := Lib.hid hs
  have HK := Lib.hid hk
  have HW := Lib.hid hw
  have HCM := Lib.hid hcm
  clear hs hk hw hcm
  go_enter Try.func15, Try.ntmps15
  go_wp2_with fail
  refine (implFault_any _ _ _ _ _ _ f 0 _ ((HS.out.alloc _).alloc _) HK.out).mono ?_
  rintro e w1 ⟨rfl, hb⟩
  have HB1 : Hid (Below w.heap.size w w1) := thru2 (Below.refl _ _) hb
  have z1 : w.heap.size + 2 ≤ w1.heap.size := by have := hb.size; simp at this; omega
  have HS_1 := Lib.hid (((HS.out.alloc _).alloc _).below hb)
  have A_1 := Lib.hid (((Blk.new_at (w.heap.size) (by simp)).alloc _).below hb)
  have R_1 := Lib.hid ((Blk.new_at (w.heap.size + 1) (by simp)).below hb)
  clear hb HS
  have lA := A_1.out.1
  have cA0 := A_1.out.at 0 rfl
  have cA1 := A_1.out.at 1 rfl
  have cA2 := A_1.out.at 2 rfl
  have cA3 := A_1.out.at 3 rfl
  go_wp2_with fail
  refine (placeBound_any _ _ _ _ _ _ _ _ g1 g2).mono ?_
  rintro e w2 ⟨rfl, hb⟩
  have HB2 : Hid (Below w.heap.size w w2) := thru0 HB1.out hb
  have z2 : w1.heap.size ≤ w2.heap.size := hb.size
  have HS_2 := Lib.hid (HS_1.out.below hb)
  have A_2 := Lib.hid (A_1.out.below hb)
  have R_2 := Lib.hid (R_1.out.below hb)
  clear hb lA cA0 cA1 cA2 cA3 HS_1 A_1 R_1 HB1
  go_wp2_with fail
  refine (wordBound_any _ _).mono ?_
  rintro e w3 ⟨rfl, hb⟩
  have HB3 : Hid (Below w.heap.size w w3) := thru0 HB2.out hb
  have z3 : w2.heap.size ≤ w3.heap.size := hb.size
  have HS_3 := Lib.hid (HS_2.out.below hb)
  have A_3 := Lib.hid (A_2.out.below hb)
  have R_3 := Lib.hid (R_2.out.below hb)
  clear hb HS_2 A_2 R_2 HB2
  go_wp2_with fail
  refine (isOut2 _ _ _ _ _ _ _ _ false rfl (.inl ⟨rfl, ⟨by omega, by omega⟩, HW.out⟩)).mono ?_
  rintro e w4 ⟨rfl, hb⟩
  have HB4 : Hid (Below w.heap.size w w4) := thru1 HB3.out hb
  have z4 : w3.heap.size + 1 ≤ w4.heap.size := by have := hb.size; simp at this; omega
  have HS_4 := Lib.hid ((HS_3.out.alloc _).below hb)
  have A_4 := Lib.hid ((A_3.out.alloc _).below hb)
  have R_4 := Lib.hid ((R_3.out.alloc _).below hb)
  clear hb HS_3 A_3 R_3 HB3
  have lA := A_4.out.1
  have cA0 := A_4.out.at 0 rfl
  have cA1 := A_4.out.at 1 rfl
  have cA2 := A_4.out.at 2 rfl
  have cA3 := A_4.out.at 3 rfl
  go_wp2_with fail
  refine (halvesOf_any _ _ _ _ _ _ f _ HS_4.out (by omega) (by omega) hcn HCM.out).mono ?_
  rintro e w5 ⟨u1, e1, u2, e2, mid, rfl, ho, hb, hm1, hm2⟩
  have HB5 : Hid (Below w.heap.size w w5) := thru0 HB4.out hb
  have z5 : w4.heap.size ≤ w5.heap.size := hb.size
  have HS_5 := Lib.hid (HS_4.out.below hb)
  have A_5 := Lib.hid (A_4.out.below hb)
  have R_5 := Lib.hid (R_4.out.below hb)
  have HL_5 : Hid (Halves w5 w4.heap.size mid w5.heap.size u1 u2 m f) := ho
  clear hb lA cA0 cA1 cA2 cA3 HS_4 A_4 R_4 HB4 ho
  go_wp2_with fail
  clear HS_5
  refine (put_any _ _ _ u1 u2 _ _ m k f v _ (HL_5.out.alloc _) (by omega) (by omega) (by simp) (by omega) hkm).mono ?_
  rintro e w6 ⟨rfl, ho, hk⟩
  have HB6 : Hid (Below w.heap.size w w6) := (HB5.out.alloc HB5.out.size _).trans (hk.below (by omega) (by simp; omega))
  have z6 : w5.heap.size + 1 ≤ w6.heap.size := by have := hk.size; simp at this; omega
  have A_6 := Lib.hid ((A_5.out.alloc _).keeps hk (by omega))
  have R_6 := Lib.hid ((R_5.out.alloc _).keeps hk (by omega))
  have H_6 := Lib.hid ((Blk.new_at (w5.heap.size) (by simp)).keeps hk (by omega))
  have HL_6 : Hid (Halves w6 w4.heap.size mid w5.heap.size u1 u2 m (upd f k v)) := ho
  clear hk A_5 R_5 HL_5 HB5 ho
  have lA := A_6.out.1
  have cA0 := A_6.out.at 0 rfl
  have cA1 := A_6.out.at 1 rfl
  have cA2 := A_6.out.at 2 rfl
  have cA3 := A_6.out.at 3 rfl
  have lH := H_6.out.1
  have cH0 := H_6.out.at 0 rfl
  have cH1 := H_6.out.at 1 rfl
  go_wp2_with fail
  refine (withHalves_any _ _ _ _ u1 u2 _ _ m m _ _ (upd f k v) (fun i => upd f k v (m + i)) _ HL_6.out.1.src HL_6.out.2.src (by omega) (by omega) (by omega) (by omega)).mono ?_
  rintro e w7 ⟨u7, e7, rfl, ho, hb, hc7, hcm7, hn7⟩
  have HB7 : Hid (Below w.heap.size w w7) := thru0 HB6.out hb
  have z7 : w6.heap.size ≤ w7.heap.size := hb.size
  have A_7 := Lib.hid (A_6.out.below hb)
  have R_7 := Lib.hid (R_6.out.below hb)
  have H_7 := Lib.hid (H_6.out.below hb)
  have HL_7 := Lib.hid (HL_6.out.below hb)
  have RW_7 : Hid (OwnIn w7 w6.heap.size w7.heap.size u7 (m + m) (cat m (upd f k v) (fun i => upd f k v (m + i)))) := ho.into
  clear hb lA cA0 cA1 cA2 cA3 lH cH0 cH1 A_6 R_6 H_6 HL_6 HB6 ho
  have lR := R_7.out.1
  have cR0 := R_7.out.at 0 rfl
  have cR1 := R_7.out.at 1 rfl
  have cR2 := R_7.out.at 2 rfl
  have cR3 := R_7.out.at 3 rfl
  have cR4 := R_7.out.at 4 rfl
  have cR5 := R_7.out.at 5 rfl
  have fR0 := R_7.out.free 0 rfl
  have fR1 := R_7.out.free 1 rfl
  have fR2 := R_7.out.free 2 rfl
  have fR3 := R_7.out.free 3 rfl
  have fR4 := R_7.out.free 4 rfl
  have fR5 := R_7.out.free 5 rfl
  go_wp2
  have hz := HB7.out.size
  refine bodyPost_ret (v := .agg #[.int .i64 0, .int .i64 (m : Int), .slice u7 (m + m) e7, .int .i64 ac, .int .i64 bu, .int .i64 0]) (by simp [results, Try.results15, go_sem, cR0, cR1, cR2, cR3, cR4, cR5]) rfl (retHalf ?_ ?_)
  · refine Own.mono (B := w.heap.size + 2) ?_ (by omega)
    repeat (with_reducible refine Own.setCell ?_ (by (try simp); (try omega)) _)
    exact (RW_7.out.widen (by omega) (Nat.le_refl _)).out
  · repeat (with_reducible refine Below.setCell ?_ (by (try simp); (try omega)) _)
    exact HB7.out

set_option maxHeartbeats 400000 in
theorem specWrite_fault (h ac bu at_ v : Int) (a : Option Addr) (n c : Nat) (f : Nat → Int) (k : Int) (w : World) (hs : Src w a n f) (hcn : n ≤ c) (hcm : c ≤ maxLen) (hk : IsFault h n f ac bu k) (h0 : ¬ k = 0) :
    Calls Try.prog 18 #[.agg #[.int .i64 h, .slice a n c, .int .i64 ac, .int .i64 bu], .int .i64 at_, .int .i64 v] w (RetRes w (errAR k)) := by
  have HS := Lib.hid hs
  have HK := Lib.hid hk
  clear hs hk
  have hd : (k != 0) = true := by simpa using h0
  go_enter Try.func18, Try.ntmps18
  go_wp2_with fail
  refine (specFault_any _ _ _ _ _ _ f k _ ((HS.out.alloc _).alloc _) HK.out).mono ?_
  rintro e w1 ⟨rfl, hb⟩
  have HB1 : Hid (Below w.heap.size w w1) := thru2 (Below.refl _ _) hb
  have z1 : w.heap.size + 2 ≤ w1.heap.size := by have := hb.size; simp at this; omega
  have HS_1 := Lib.hid (((HS.out.alloc _).alloc _).below hb)
  have R_1 := Lib.hid ((Blk.new_at (w.heap.size + 1) (by simp)).below hb)
  clear hb HS
  have lR := R_1.out.1
  have cR0 := R_1.out.at 0 rfl
  have cR1 := R_1.out.at 1 rfl
  have cR2 := R_1.out.at 2 rfl
  have cR3 := R_1.out.at 3 rfl
  have cR4 := R_1.out.at 4 rfl
  have cR5 := R_1.out.at 5 rfl
  have fR0 := R_1.out.free 0 rfl
  have fR1 := R_1.out.free 1 rfl
  have fR2 := R_1.out.free 2 rfl
  have fR3 := R_1.out.free 3 rfl
  have fR4 := R_1.out.free 4 rfl
  have fR5 := R_1.out.free 5 rfl
  go_wp2
  have hz := HB1.out.size
  refine bodyPost_ret (v := .agg #[.int .i64 k, .int .i64 0, .slice none 0 0, .int .i64 0, .int .i64 0, .int .i64 0]) (by simp [results, Try.results18, go_sem, cR0, cR1, cR2, cR3, cR4, cR5]) rfl ⟨none, 0, rfl, .inl rfl, ?_⟩
  repeat (with_reducible refine Below.setCell ?_ (by (try simp); (try omega)) _)
  exact HB1.out

set_option maxHeartbeats 400000 in
theorem specWrite_range (h ac bu at_ v : Int) (a : Option Addr) (n c : Nat) (f : Nat → Int) (w : World) (hs : Src w a n f) (hcn : n ≤ c) (hcm : c ≤ maxLen) (hk : IsFault h n f ac bu 0) (hp : ¬ ((0 ≤ at_ ∧ at_ ≤ 2 * h - 1) ∧ (-1000000000 ≤ v ∧ v ≤ 1000000000))) :
    Calls Try.prog 18 #[.agg #[.int .i64 h, .slice a n c, .int .i64 ac, .int .i64 bu], .int .i64 at_, .int .i64 v] w (RetRes w (errAR 3)) := by
  obtain ⟨⟨⟨g1, g2⟩, _, _⟩, gn, _⟩ := isFault_ok hk
  have HS := Lib.hid hs
  have HK := Lib.hid hk
  have HP := Lib.hid hp
  clear hs hk hp
  clear gn
  by_cases hpl : PlaceOk h at_
  all_goals have HPL := Lib.hid hpl
  all_goals clear hpl
  · go_enter Try.func18, Try.ntmps18
    go_wp2_with fail
    refine (specFault_any _ _ _ _ _ _ f 0 _ ((HS.out.alloc _).alloc _) HK.out).mono ?_
    rintro e w1 ⟨rfl, hb⟩
    have HB1 : Hid (Below w.heap.size w w1) := thru2 (Below.refl _ _) hb
    have z1 : w.heap.size + 2 ≤ w1.heap.size := by have := hb.size; simp at this; omega
    have HS_1 := Lib.hid (((HS.out.alloc _).alloc _).below hb)
    have A_1 := Lib.hid (((Blk.new_at (w.heap.size) (by simp)).alloc _).below hb)
    have R_1 := Lib.hid ((Blk.new_at (w.heap.size + 1) (by simp)).below hb)
    clear hb HS
    have lA := A_1.out.1
    have cA0 := A_1.out.at 0 rfl
    have cA1 := A_1.out.at 1 rfl
    have cA2 := A_1.out.at 2 rfl
    have cA3 := A_1.out.at 3 rfl
    go_wp2_with fail
    refine (l1Place_yes _ _ _ _ cA0 g1 g2 HPL.out).mono ?_
    rintro e w' ⟨rfl, rfl⟩
    go_wp2_with fail
    refine (l1Value_no _ _ (fun hw => HP.out ⟨HPL.out, hw⟩)).mono ?_
    rintro e w' ⟨rfl, rfl⟩
    have lR := R_1.out.1
    have cR0 := R_1.out.at 0 rfl
    have cR1 := R_1.out.at 1 rfl
    have cR2 := R_1.out.at 2 rfl
    have cR3 := R_1.out.at 3 rfl
    have cR4 := R_1.out.at 4 rfl
    have cR5 := R_1.out.at 5 rfl
    have fR0 := R_1.out.free 0 rfl
    have fR1 := R_1.out.free 1 rfl
    have fR2 := R_1.out.free 2 rfl
    have fR3 := R_1.out.free 3 rfl
    have fR4 := R_1.out.free 4 rfl
    have fR5 := R_1.out.free 5 rfl
    go_wp2
    have hz := HB1.out.size
    refine bodyPost_ret (v := .agg #[.int .i64 3, .int .i64 0, .slice none 0 0, .int .i64 0, .int .i64 0, .int .i64 0]) (by simp [results, Try.results18, go_sem, cR0, cR1, cR2, cR3, cR4, cR5]) rfl ⟨none, 0, rfl, .inl rfl, ?_⟩
    repeat (with_reducible refine Below.setCell ?_ (by (try simp); (try omega)) _)
    exact HB1.out
  · go_enter Try.func18, Try.ntmps18
    go_wp2_with fail
    refine (specFault_any _ _ _ _ _ _ f 0 _ ((HS.out.alloc _).alloc _) HK.out).mono ?_
    rintro e w1 ⟨rfl, hb⟩
    have HB1 : Hid (Below w.heap.size w w1) := thru2 (Below.refl _ _) hb
    have z1 : w.heap.size + 2 ≤ w1.heap.size := by have := hb.size; simp at this; omega
    have HS_1 := Lib.hid (((HS.out.alloc _).alloc _).below hb)
    have A_1 := Lib.hid (((Blk.new_at (w.heap.size) (by simp)).alloc _).below hb)
    have R_1 := Lib.hid ((Blk.new_at (w.heap.size + 1) (by simp)).below hb)
    clear hb HS
    have lA := A_1.out.1
    have cA0 := A_1.out.at 0 rfl
    have cA1 := A_1.out.at 1 rfl
    have cA2 := A_1.out.at 2 rfl
    have cA3 := A_1.out.at 3 rfl
    go_wp2_with fail
    refine (l1Place_no _ _ _ _ cA0 g1 g2 HPL.out).mono ?_
    rintro e w' ⟨rfl, rfl⟩
    have lR := R_1.out.1
    have cR0 := R_1.out.at 0 rfl
    have cR1 := R_1.out.at 1 rfl
    have cR2 := R_1.out.at 2 rfl
    have cR3 := R_1.out.at 3 rfl
    have cR4 := R_1.out.at 4 rfl
    have cR5 := R_1.out.at 5 rfl
    have fR0 := R_1.out.free 0 rfl
    have fR1 := R_1.out.free 1 rfl
    have fR2 := R_1.out.free 2 rfl
    have fR3 := R_1.out.free 3 rfl
    have fR4 := R_1.out.free 4 rfl
    have fR5 := R_1.out.free 5 rfl
    go_wp2
    have hz := HB1.out.size
    refine bodyPost_ret (v := .agg #[.int .i64 3, .int .i64 0, .slice none 0 0, .int .i64 0, .int .i64 0, .int .i64 0]) (by simp [results, Try.results18, go_sem, cR0, cR1, cR2, cR3, cR4, cR5]) rfl ⟨none, 0, rfl, .inl rfl, ?_⟩
    repeat (with_reducible refine Below.setCell ?_ (by (try simp); (try omega)) _)
    exact HB1.out

set_option maxHeartbeats 1600000 in
theorem specWrite_ok (m k : Nat) (ac bu v : Int) (a : Option Addr) (c : Nat) (f : Nat → Int) (w : World) (hs : Src w a (2 * m) f) (hcn : 2 * m ≤ c) (hcm : c ≤ maxLen) (hk : IsFault (m : Int) (2 * m) f ac bu 0) (hkm : k < 2 * m) (hw : -1000000000 ≤ v ∧ v ≤ 1000000000) :
    Calls Try.prog 18 #[.agg #[.int .i64 (m : Int), .slice a (2 * m) c, .int .i64 ac, .int .i64 bu], .int .i64 (k : Int), .int .i64 v] w (RetRes w ⟨0, m, 2 * m, upd f k v, ac, bu, 0⟩) := by
  obtain ⟨⟨⟨g1, g2⟩, _, _⟩, _, _⟩ := isFault_ok hk
  obtain ⟨ab, ao, rfl, hab, hac⟩ := src_some hs (by omega)
  clear hac
  have HS := Lib.hid hs
  have HK := Lib.hid hk
  have HW := Lib.hid hw
  have HCM := Lib.hid hcm
  clear hs hk hw hcm
  go_enter Try.func18, Try.ntmps18
  go_wp2_with fail
  refine (specFault_any _ _ _ _ _ _ f 0 _ ((HS.out.alloc _).alloc _) HK.out).mono ?_
  rintro e w1 ⟨rfl, hb⟩
  have HB1 : Hid (Below w.heap.size w w1) := thru2 (Below.refl _ _) hb
  have z1 : w.heap.size + 2 ≤ w1.heap.size := by have := hb.size; simp at this; omega
  have HS_1 := Lib.hid (((HS.out.alloc _).alloc _).below hb)
  have A_1 := Lib.hid (((Blk.new_at (w.heap.size) (by simp)).alloc _).below hb)
  have R_1 := Lib.hid ((Blk.new_at (w.heap.size + 1) (by simp)).below hb)
  clear hb HS
  have lA := A_1.out.1
  have cA0 := A_1.out.at 0 rfl
  have cA1 := A_1.out.at 1 rfl
  have cA2 := A_1.out.at 2 rfl
  have cA3 := A_1.out.at 3 rfl
  go_wp2_with fail
  refine (l1Place_yes _ _ _ _ cA0 g1 g2 ⟨by omega, by omega⟩).mono ?_
  rintro e w' ⟨rfl, rfl⟩
  go_wp2_with fail
  refine (l1Value_yes _ _ HW.out).mono ?_
  rintro e w' ⟨rfl, rfl⟩
  go_wp2_with fail
  refine (l1Copy_any _ _ _ _ _ _ _ f _ A_1.out HS_1.out (by omega) (by omega)).mono ?_
  rintro e w2 ⟨u2, c2, rfl, ho, hb, hc2, hcm2, hn2⟩
  have HB2 : Hid (Below w.heap.size w w2) := thru0 HB1.out hb
  have z2 : w1.heap.size ≤ w2.heap.size := hb.size
  have HS_2 := Lib.hid (HS_1.out.below hb)
  have A_2 := Lib.hid (A_1.out.below hb)
  have R_2 := Lib.hid (R_1.out.below hb)
  have RW_2 : Hid (OwnIn w2 w1.heap.size w2.heap.size u2 (2 * m) f) := ho.into
  clear hb lA cA0 cA1 cA2 cA3 HS_1 A_1 R_1 HB1 ho
  obtain ⟨b2, o2, rfl, hlo2, hb2, hcc2⟩ := ownIn_some RW_2.out (by omega)
  have hlo2b := hlo2.2
  have hk1 : (k : Int) < 2 * (m : Int) := by omega
  have d1 : ∀ o, (w2.alloc o).cell? ⟨b2, o2 + k, none⟩ = some (.int .i64 (f k)) := fun o => by rw [World.cell?_alloc_past _ _ _ hb2]; exact (hcc2 k hkm).1
  have d2 : ∀ o, (w2.alloc o).frozen? ⟨b2, o2 + k, none⟩ = false := fun o => by rw [World.frozen?_alloc_past _ _ _ hb2]; exact (hcc2 k hkm).2
  have st := Lib.hid (RW_2.out.stored k hkm v)
  clear hcc2
  go_upto_region 8 with (fail)
  have HB3 : Hid (Below w.heap.size w ((w2.setCell ⟨b2, o2 + k, none⟩ (.int .i64 v)).alloc (.cells #[.int .i64 (m : Int), .slice (some ⟨b2, o2, none⟩) (2 * m) c2, .int .i64 ac, .int .i64 bu] 26))) := (HB2.out.setCell (by simp; omega) _).alloc (by simp; omega) _
  have RW_3 : Hid (OwnIn ((w2.setCell ⟨b2, o2 + k, none⟩ (.int .i64 v)).alloc (.cells #[.int .i64 (m : Int), .slice (some ⟨b2, o2, none⟩) (2 * m) c2, .int .i64 ac, .int .i64 bu] 26)) w1.heap.size w2.heap.size (some ⟨b2, o2, none⟩) (2 * m) (upd f k v)) := st.out.1.alloc _
  have R_3 := Lib.hid ((R_2.out.keeps st.out.2 (.inl (by omega))).alloc (.cells #[.int .i64 (m : Int), .slice (some ⟨b2, o2, none⟩) (2 * m) c2, .int .i64 ac, .int .i64 bu] 26))
  have C_3 : Hid (Blk ((w2.setCell ⟨b2, o2 + k, none⟩ (.int .i64 v)).alloc (.cells #[.int .i64 (m : Int), .slice (some ⟨b2, o2, none⟩) (2 * m) c2, .int .i64 ac, .int .i64 bu] 26)) w2.heap.size [.int .i64 (m : Int), .slice (some ⟨b2, o2, none⟩) (2 * m) c2, .int .i64 ac, .int .i64 bu]) := Blk.new_at (w2.heap.size) (by simp)
  have z3 : w2.heap.size + 1 ≤ ((w2.setCell ⟨b2, o2 + k, none⟩ (.int .i64 v)).alloc (.cells #[.int .i64 (m : Int), .slice (some ⟨b2, o2, none⟩) (2 * m) c2, .int .i64 ac, .int .i64 bu] 26)).heap.size := by simp
  clear R_2 A_2 RW_2 HB2 st HS_2 d1 d2 hlo2 hlo2b hb2 hk1
  generalize (w2.setCell ⟨b2, o2 + k, none⟩ (.int .i64 v)).alloc (.cells #[.int .i64 (m : Int), .slice (some ⟨b2, o2, none⟩) (2 * m) c2, .int .i64 ac, .int .i64 bu] 26) = w3 at *
  have lC := C_3.out.1
  have cC0 := C_3.out.at 0 rfl
  have cC1 := C_3.out.at 1 rfl
  have cC2 := C_3.out.at 2 rfl
  have cC3 := C_3.out.at 3 rfl
  have lR := R_3.out.1
  have cR0 := R_3.out.at 0 rfl
  have cR1 := R_3.out.at 1 rfl
  have cR2 := R_3.out.at 2 rfl
  have cR3 := R_3.out.at 3 rfl
  have cR4 := R_3.out.at 4 rfl
  have cR5 := R_3.out.at 5 rfl
  have fR0 := R_3.out.free 0 rfl
  have fR1 := R_3.out.free 1 rfl
  have fR2 := R_3.out.free 2 rfl
  have fR3 := R_3.out.free 3 rfl
  have fR4 := R_3.out.free 4 rfl
  have fR5 := R_3.out.free 5 rfl
  go_wp2
  have hz := HB3.out.size
  refine bodyPost_ret (v := .agg #[.int .i64 0, .int .i64 (m : Int), .slice (some ⟨b2, o2, none⟩) (2 * m) c2, .int .i64 ac, .int .i64 bu, .int .i64 0]) (by simp [results, Try.results18, go_sem, cR0, cR1, cR2, cR3, cR4, cR5]) rfl ⟨_, _, rfl, ?_, ?_⟩
  · refine Own.mono (B := w.heap.size + 2) ?_ (by omega)
    repeat (with_reducible refine Own.setCell ?_ (by (try simp); (try omega)) _)
    exact (RW_3.out.widen (by omega) (Nat.le_refl _)).out
  · repeat (with_reducible refine Below.setCell ?_ (by (try simp); (try omega)) _)
    exact HB3.out

end Go.Proofs.Ythejbgmhfajcpaa
