/- IsPointer, of the program and of the model. -/
import Derived.Test.YtflhjbcpffhanaaH3
import Derived.Test.YtflhjbcpffhanaaH5
namespace Go.Proofs.Ytflhjbcpffhanaa
open Go.RowKit
set_option linter.unusedVariables false

/-- What IsPointer answers. -/
def IsIP (s m o h i : Int) (r : Bool) : Prop := ((HOk s m o h ∧ (0 ≤ i ∧ i ≤ s - 1)) ∧ r = (m / P2 i % 2 == 1)) ∨ (¬ (HOk s m o h ∧ (0 ≤ i ∧ i ≤ s - 1)) ∧ r = false)
theorem isIP_some (s m o h i : Int) : ∃ r, IsIP s m o h i r := by
  by_cases x : HOk s m o h ∧ (0 ≤ i ∧ i ≤ s - 1)
  · exact ⟨_, .inl ⟨x, rfl⟩⟩
  · exact ⟨false, .inr ⟨x, rfl⟩⟩

set_option maxHeartbeats 800000 in
theorem implIP_bad (s m o h i : Int) (w : World) (hk : ¬ HOk s m o h) :
    Calls Try.prog 28 #[.agg #[.int .i64 s, .int .i64 m, .int .i64 o, .int .i64 h], .int .i64 i] w (RetBool w false) := by
  have hk' : IsHF s m o h 3 := .inr ⟨hk, rfl⟩
  have HK := Lib.hid hk'
  clear hk'
  go_enter Try.func28, Try.ntmps28
  go_wp2_with fail
  refine (implHF_any s m o h 3 _ HK.out).mono ?_
  rintro e w1 ⟨rfl, hb⟩
  have HB1 : Hid (Below w.heap.size w w1) := thru1 (Below.refl _ _) hb
  have z1 : w.heap.size + 1 ≤ w1.heap.size := by have := hb.size; simp at this; omega
  have H_1 := Lib.hid ((Blk.new_at (w.heap.size) (by simp)).below hb)
  clear hb
  go_wp2
  go_ret
  exact ⟨rfl, HB1.out⟩

set_option maxHeartbeats 1600000 in
theorem implIP_out (s m o h i : Int) (w : World) (hk : HOk s m o h) (h0 : ¬ (0 ≤ i ∧ i ≤ s - 1)) :
    Calls Try.prog 28 #[.agg #[.int .i64 s, .int .i64 m, .int .i64 o, .int .i64 h], .int .i64 i] w (RetBool w false) := by
  obtain ⟨q1, q2⟩ := hk.1
  have H0 := Lib.hid h0
  have hk' : IsHF s m o h 0 := .inl ⟨hk, rfl⟩
  have HK := Lib.hid hk'
  clear hk'
  clear h0 hk
  go_enter Try.func28, Try.ntmps28
  go_wp2_with fail
  refine (implHF_any s m o h 0 _ HK.out).mono ?_
  rintro e w1 ⟨rfl, hb⟩
  have HB1 : Hid (Below w.heap.size w w1) := thru1 (Below.refl _ _) hb
  have z1 : w.heap.size + 1 ≤ w1.heap.size := by have := hb.size; simp at this; omega
  have H_1 := Lib.hid ((Blk.new_at (w.heap.size) (by simp)).below hb)
  clear hb
  have lH := H_1.out.1
  have cH0 := H_1.out.at 0 rfl
  go_wp2_with fail
  refine (isOut1 _ _ _ _ _ true (by simp) (.inr ⟨rfl, H0.out⟩)).mono ?_
  rintro e w2 ⟨rfl, hb⟩
  have HB2 : Hid (Below w.heap.size w w2) := thru1 HB1.out hb
  have z2 : w1.heap.size + 1 ≤ w2.heap.size := by have := hb.size; simp at this; omega
  have H_2 := Lib.hid ((H_1.out.alloc _).below hb)
  clear hb lH cH0 H_1 HB1
  go_wp2
  go_ret
  exact ⟨rfl, HB2.out⟩

set_option maxHeartbeats 1600000 in
theorem implIP_in (s m o h i : Int) (w : World) (hk : HOk s m o h) (h0 : 0 ≤ i ∧ i ≤ s - 1) :
    Calls Try.prog 28 #[.agg #[.int .i64 s, .int .i64 m, .int .i64 o, .int .i64 h], .int .i64 i] w (RetBool w (m / P2 i % 2 == 1)) := by
  obtain ⟨q1, q2⟩ := hk.1
  have H0 := Lib.hid h0
  have hk' : IsHF s m o h 0 := .inl ⟨hk, rfl⟩
  have HK := Lib.hid hk'
  clear hk'
  obtain ⟨q3, q4⟩ := h0
  have q5 := hk.2.1.1
  have hmin : min i.toNat 64 = i.toNat := by omega
  have hpow : (2 : Int) ^ i.toNat = P2 i := rfl
  have hbit : bits .and .i64 (m / P2 i) 1 = m / P2 i % 2 := bits_and_1 _
  clear hk
  go_enter Try.func28, Try.ntmps28
  go_wp2_with fail
  refine (implHF_any s m o h 0 _ HK.out).mono ?_
  rintro e w1 ⟨rfl, hb⟩
  have HB1 : Hid (Below w.heap.size w w1) := thru1 (Below.refl _ _) hb
  have z1 : w.heap.size + 1 ≤ w1.heap.size := by have := hb.size; simp at this; omega
  have H_1 := Lib.hid ((Blk.new_at (w.heap.size) (by simp)).below hb)
  clear hb
  have lH := H_1.out.1
  have cH0 := H_1.out.at 0 rfl
  have cH1 := H_1.out.at 1 rfl
  go_wp2_with fail
  refine (isOut1 _ _ _ _ _ false (by simp) (.inl ⟨rfl, H0.out⟩)).mono ?_
  rintro e w2 ⟨rfl, hb⟩
  have HB2 : Hid (Below w.heap.size w w2) := thru1 HB1.out hb
  have z2 : w1.heap.size + 1 ≤ w2.heap.size := by have := hb.size; simp at this; omega
  have H_2 := Lib.hid ((H_1.out.alloc _).below hb)
  clear hb lH cH0 cH1 H_1 HB1
  have lH := H_2.out.1
  have cH0 := H_2.out.at 0 rfl
  have cH1 := H_2.out.at 1 rfl
  go_wp2
  go_ret
  exact ⟨rfl, HB2.out⟩

theorem implIP_any (s m o h i : Int) (r : Bool) (w : World) (hk : IsIP s m o h i r) : Calls Try.prog 28 #[.agg #[.int .i64 s, .int .i64 m, .int .i64 o, .int .i64 h], .int .i64 i] w (RetBool w r) := by
  rcases hk with ⟨⟨h1, h2⟩, rfl⟩ | ⟨h1, rfl⟩
  · exact implIP_in s m o h i w h1 h2
  · by_cases x : HOk s m o h
    · exact implIP_out s m o h i w x (fun y => h1 ⟨x, y⟩)
    · exact implIP_bad s m o h i w x

set_option maxHeartbeats 800000 in
theorem l2Pointer_any (b I : Nat) (s m o h : Int) (w : World) (hB : Blk w b [.int .i64 s, .int .i64 m, .int .i64 o, .int .i64 h]) (hm : 0 ≤ m ∧ m ≤ 4095) (hI : I ≤ 12) :
    Calls Try.prog 55 #[.pointer (some ⟨b, 0, none⟩), .int .i64 (I : Int)] w fun e w' => e = .returned (.bool (m / P2 I % 2 == 1)) ∧ Below w.heap.size w w' := by
  have c1 := hB.at 1 rfl
  obtain ⟨m1, m2⟩ := hm
  have p1 := P2_pos (I : Int)
  have p2 := P2_le (s := (I : Int)) (by omega)
  have hne : ¬ P2 (I : Int) = 0 := by omega
  have hq : m.tdiv (P2 I) = m / P2 I := Int.tdiv_eq_ediv_of_nonneg m1
  have g1 : 0 ≤ m / P2 I := Int.ediv_nonneg m1 (by omega)
  have g2 : m / P2 I ≤ m := Int.ediv_le_self _ m1
  have hr : (m / P2 I).tmod 2 = m / P2 I % 2 := Int.tmod_eq_emod_of_nonneg g1
  clear hB
  go_enter Try.func55, Try.ntmps55
  go_wp2
  go_quiet (with_reducible exact Calls.quiet_of_same (Calls.mono (power_any I _ hI) fun _ _ hh => ⟨hh.1, hh.2.symm⟩))
  go_wp2
  go_ret
  exact ⟨rfl, below_drewN (Below.refl _ _) _⟩

set_option maxHeartbeats 800000 in
theorem specIP_bad (s m o h i : Int) (w : World) (hk : ¬ HOk s m o h) :
    Calls Try.prog 38 #[.agg #[.int .i64 s, .int .i64 m, .int .i64 o, .int .i64 h], .int .i64 i] w (RetBool w false) := by
  have hk' : IsHF s m o h 3 := .inr ⟨hk, rfl⟩
  have HK := Lib.hid hk'
  clear hk'
  go_enter Try.func38, Try.ntmps38
  go_wp2_with fail
  refine (specHF_any s m o h 3 _ HK.out).mono ?_
  rintro e w1 ⟨rfl, hb⟩
  have HB1 : Hid (Below w.heap.size w w1) := thru1 (Below.refl _ _) hb
  have z1 : w.heap.size + 1 ≤ w1.heap.size := by have := hb.size; simp at this; omega
  have H_1 := Lib.hid ((Blk.new_at (w.heap.size) (by simp)).below hb)
  clear hb
  go_wp2
  go_ret
  exact ⟨rfl, HB1.out⟩

set_option maxHeartbeats 1600000 in
theorem specIP_out (s m o h i : Int) (w : World) (hk : HOk s m o h) (h0 : ¬ (0 ≤ i ∧ i ≤ s - 1)) :
    Calls Try.prog 38 #[.agg #[.int .i64 s, .int .i64 m, .int .i64 o, .int .i64 h], .int .i64 i] w (RetBool w false) := by
  obtain ⟨q1, q2⟩ := hk.1
  have H0 := Lib.hid h0
  have hk' : IsHF s m o h 0 := .inl ⟨hk, rfl⟩
  have HK := Lib.hid hk'
  clear hk'
  clear h0 hk
  go_enter Try.func38, Try.ntmps38
  go_wp2_with fail
  refine (specHF_any s m o h 0 _ HK.out).mono ?_
  rintro e w1 ⟨rfl, hb⟩
  have HB1 : Hid (Below w.heap.size w w1) := thru1 (Below.refl _ _) hb
  have z1 : w.heap.size + 1 ≤ w1.heap.size := by have := hb.size; simp at this; omega
  have H_1 := Lib.hid ((Blk.new_at (w.heap.size) (by simp)).below hb)
  clear hb
  have lH := H_1.out.1
  have cH0 := H_1.out.at 0 rfl
  go_wp2_with fail
  (with_reducible refine (l1In_no _ _ _ _ H0.out).mono ?_)
  rintro e w' ⟨rfl, rfl⟩
  go_wp2
  go_ret
  exact ⟨rfl, HB1.out⟩

set_option maxHeartbeats 1600000 in
theorem specIP_in (s m o h : Int) (I : Nat) (w : World) (hk : HOk s m o h) (h0 : (I : Int) ≤ s - 1) :
    Calls Try.prog 38 #[.agg #[.int .i64 s, .int .i64 m, .int .i64 o, .int .i64 h], .int .i64 (I : Int)] w (RetBool w (m / P2 I % 2 == 1)) := by
  obtain ⟨q1, q2⟩ := hk.1
  have q5 := hk.2.1
  have q6 := P2_le q2
  have hk' : IsHF s m o h 0 := .inl ⟨hk, rfl⟩
  have HK := Lib.hid hk'
  clear hk'
  clear hk
  go_enter Try.func38, Try.ntmps38
  go_wp2_with fail
  refine (specHF_any s m o h 0 _ HK.out).mono ?_
  rintro e w1 ⟨rfl, hb⟩
  have HB1 : Hid (Below w.heap.size w w1) := thru1 (Below.refl _ _) hb
  have z1 : w.heap.size + 1 ≤ w1.heap.size := by have := hb.size; simp at this; omega
  have H_1 := Lib.hid ((Blk.new_at (w.heap.size) (by simp)).below hb)
  clear hb
  have lH := H_1.out.1
  have cH0 := H_1.out.at 0 rfl
  go_wp2_with fail
  (with_reducible refine (l1In_yes _ _ _ _ (by omega) h0).mono ?_)
  rintro e w' ⟨rfl, rfl⟩
  go_wp2_with fail
  refine (l2Pointer_any _ I s m o h _ H_1.out ⟨q5.1, by omega⟩ (by omega)).mono ?_
  rintro e w2 ⟨rfl, hb⟩
  have HB2 : Hid (Below w.heap.size w w2) := thru0 HB1.out hb
  have z2 : w1.heap.size ≤ w2.heap.size := hb.size
  have H_2 := Lib.hid (H_1.out.below hb)
  clear hb lH cH0 H_1 HB1
  go_wp2
  go_ret
  exact ⟨rfl, HB2.out⟩

theorem specIP_any (s m o h i : Int) (r : Bool) (w : World) (hk : IsIP s m o h i r) : Calls Try.prog 38 #[.agg #[.int .i64 s, .int .i64 m, .int .i64 o, .int .i64 h], .int .i64 i] w (RetBool w r) := by
  rcases hk with ⟨⟨h1, h2⟩, rfl⟩ | ⟨h1, rfl⟩
  · obtain ⟨I, rfl⟩ : ∃ I : Nat, i = I := ⟨i.toNat, by omega⟩
    exact specIP_in s m o h I w h1 h2.2
  · by_cases x : HOk s m o h
    · exact specIP_out s m o h i w x (fun y => h1 ⟨x, y⟩)
    · exact specIP_bad s m o h i w x

end Go.Proofs.Ytflhjbcpffhanaa
