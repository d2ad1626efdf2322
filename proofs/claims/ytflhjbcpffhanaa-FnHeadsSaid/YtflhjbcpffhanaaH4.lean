/- WordsOf and ForwardWord, of the program and of the model. -/
import Derived.Test.YtflhjbcpffhanaaH3
namespace Go.Proofs.Ytflhjbcpffhanaa
open Go.RowKit
set_option linter.unusedVariables false

/-- What WordsOf answers. -/
def IsWO (s m o h c v : Int) : Prop := (HOk s m o h ∧ c = 0 ∧ v = s + 2) ∨ (¬ HOk s m o h ∧ c = 3 ∧ v = 0)
theorem isWO_some (s m o h : Int) : ∃ c v, IsWO s m o h c v := by
  by_cases x : HOk s m o h
  · exact ⟨0, _, .inl ⟨x, rfl, rfl⟩⟩
  · exact ⟨3, 0, .inr ⟨x, rfl, rfl⟩⟩
/-- What ForwardWord answers. -/
def IsFW (at_ c v : Int) : Prop := ((0 ≤ at_ ∧ at_ ≤ 399) ∧ c = 0 ∧ v = 2 * at_ + 2) ∨ (¬ (0 ≤ at_ ∧ at_ ≤ 399) ∧ c = 3 ∧ v = 0)
theorem isFW_some (at_ : Int) : ∃ c v, IsFW at_ c v := by
  by_cases x : 0 ≤ at_ ∧ at_ ≤ 399
  · exact ⟨0, _, .inl ⟨x, rfl, rfl⟩⟩
  · exact ⟨3, 0, .inr ⟨x, rfl, rfl⟩⟩
set_option maxHeartbeats 400000 in
theorem l2Words_any (b : Nat) (s m o h : Int) (w : World) (hB : Blk w b [.int .i64 s, .int .i64 m, .int .i64 o, .int .i64 h]) (h0 : 0 ≤ s ∧ s ≤ 12) :
    Calls Try.prog 50 #[.pointer (some ⟨b, 0, none⟩)] w fun e w' => e = .returned (.int .i64 (s + 2)) ∧ w = w' := by
  have c0 := hB.at 0 rfl
  obtain ⟨h1, h2⟩ := h0
  clear hB
  go_enter Try.func50, Try.ntmps50
  go_wp2
  go_ret
  exact ⟨rfl, rfl⟩

set_option maxHeartbeats 800000 in
theorem implWO_no (s m o h : Int) (w : World) (hk : ¬ HOk s m o h) :
    Calls Try.prog 24 #[.agg #[.int .i64 s, .int .i64 m, .int .i64 o, .int .i64 h]] w (RetPair w 3 0) := by
  have hk' : IsHF s m o h 3 := .inr ⟨hk, rfl⟩
  have HK := Lib.hid hk'
  clear hk'
  go_enter Try.func24, Try.ntmps24
  go_wp2_with fail
  refine (implHF_any s m o h 3 _ HK.out).mono ?_
  rintro e w1 ⟨rfl, hb⟩
  have HB1 : Hid (Below w.heap.size w w1) := thru2 (Below.refl _ _) hb
  have z1 : w.heap.size + 2 ≤ w1.heap.size := by have := hb.size; simp at this; omega
  have H_1 := Lib.hid (((Blk.new_at (w.heap.size) (by simp)).alloc _).below hb)
  have R_1 := Lib.hid ((Blk.new_at (w.heap.size + 1) (by simp)).below hb)
  clear hb
  have lR := R_1.out.1
  have cR0 := R_1.out.at 0 rfl
  have cR1 := R_1.out.at 1 rfl
  have fR0 := R_1.out.free 0 rfl
  have fR1 := R_1.out.free 1 rfl
  go_wp2
  have hz := HB1.out.size
  refine bodyPost_ret (v := .agg #[.int .i64 3, .int .i64 0]) (by simp [results, Try.results24, go_sem, cR0, cR1]) rfl ⟨rfl, ?_⟩
  repeat (with_reducible refine Below.setCell ?_ (by (try simp); (try omega)) _)
  exact HB1.out

set_option maxHeartbeats 800000 in
theorem implWO_yes (s m o h : Int) (w : World) (hk : HOk s m o h) :
    Calls Try.prog 24 #[.agg #[.int .i64 s, .int .i64 m, .int .i64 o, .int .i64 h]] w (RetPair w 0 (s + 2)) := by
  have hk' : IsHF s m o h 0 := .inl ⟨hk, rfl⟩
  have h0 := hk.1
  have h1 := h0.1
  have h2 := h0.2
  have HK := Lib.hid hk'
  clear hk'
  go_enter Try.func24, Try.ntmps24
  go_wp2_with fail
  refine (implHF_any s m o h 0 _ HK.out).mono ?_
  rintro e w1 ⟨rfl, hb⟩
  have HB1 : Hid (Below w.heap.size w w1) := thru2 (Below.refl _ _) hb
  have z1 : w.heap.size + 2 ≤ w1.heap.size := by have := hb.size; simp at this; omega
  have H_1 := Lib.hid (((Blk.new_at (w.heap.size) (by simp)).alloc _).below hb)
  have R_1 := Lib.hid ((Blk.new_at (w.heap.size + 1) (by simp)).below hb)
  clear hb
  have lR := R_1.out.1
  have cR0 := R_1.out.at 0 rfl
  have cR1 := R_1.out.at 1 rfl
  have lH := H_1.out.1
  have cH0 := H_1.out.at 0 rfl
  have fR0 := R_1.out.free 0 rfl
  have fR1 := R_1.out.free 1 rfl
  go_wp2
  have hz := HB1.out.size
  refine bodyPost_ret (v := .agg #[.int .i64 0, .int .i64 (s + 2)]) (by simp [results, Try.results24, go_sem, cR0, cR1]) rfl ⟨rfl, ?_⟩
  repeat (with_reducible refine Below.setCell ?_ (by (try simp); (try omega)) _)
  exact HB1.out

theorem implWO_any (s m o h c v : Int) (w : World) (hk : IsWO s m o h c v) : Calls Try.prog 24 #[.agg #[.int .i64 s, .int .i64 m, .int .i64 o, .int .i64 h]] w (RetPair w c v) := by
  rcases hk with ⟨h1, rfl, rfl⟩ | ⟨h1, rfl, rfl⟩
  · exact implWO_yes s m o h w h1
  · exact implWO_no s m o h w h1

set_option maxHeartbeats 800000 in
theorem specWO_no (s m o h : Int) (w : World) (hk : ¬ HOk s m o h) :
    Calls Try.prog 25 #[.agg #[.int .i64 s, .int .i64 m, .int .i64 o, .int .i64 h]] w (RetPair w 3 0) := by
  have hk' : IsHF s m o h 3 := .inr ⟨hk, rfl⟩
  have HK := Lib.hid hk'
  clear hk'
  go_enter Try.func25, Try.ntmps25
  go_wp2_with fail
  refine (specHF_any s m o h 3 _ HK.out).mono ?_
  rintro e w1 ⟨rfl, hb⟩
  have HB1 : Hid (Below w.heap.size w w1) := thru2 (Below.refl _ _) hb
  have z1 : w.heap.size + 2 ≤ w1.heap.size := by have := hb.size; simp at this; omega
  have H_1 := Lib.hid (((Blk.new_at (w.heap.size) (by simp)).alloc _).below hb)
  have R_1 := Lib.hid ((Blk.new_at (w.heap.size + 1) (by simp)).below hb)
  clear hb
  have lR := R_1.out.1
  have cR0 := R_1.out.at 0 rfl
  have cR1 := R_1.out.at 1 rfl
  have fR0 := R_1.out.free 0 rfl
  have fR1 := R_1.out.free 1 rfl
  go_wp2
  have hz := HB1.out.size
  refine bodyPost_ret (v := .agg #[.int .i64 3, .int .i64 0]) (by simp [results, Try.results25, go_sem, cR0, cR1]) rfl ⟨rfl, ?_⟩
  repeat (with_reducible refine Below.setCell ?_ (by (try simp); (try omega)) _)
  exact HB1.out

set_option maxHeartbeats 800000 in
theorem specWO_yes (s m o h : Int) (w : World) (hk : HOk s m o h) :
    Calls Try.prog 25 #[.agg #[.int .i64 s, .int .i64 m, .int .i64 o, .int .i64 h]] w (RetPair w 0 (s + 2)) := by
  have hk' : IsHF s m o h 0 := .inl ⟨hk, rfl⟩
  have h0 := hk.1
  have h1 := h0.1
  have h2 := h0.2
  have HK := Lib.hid hk'
  clear hk'
  go_enter Try.func25, Try.ntmps25
  go_wp2_with fail
  refine (specHF_any s m o h 0 _ HK.out).mono ?_
  rintro e w1 ⟨rfl, hb⟩
  have HB1 : Hid (Below w.heap.size w w1) := thru2 (Below.refl _ _) hb
  have z1 : w.heap.size + 2 ≤ w1.heap.size := by have := hb.size; simp at this; omega
  have H_1 := Lib.hid (((Blk.new_at (w.heap.size) (by simp)).alloc _).below hb)
  have R_1 := Lib.hid ((Blk.new_at (w.heap.size + 1) (by simp)).below hb)
  clear hb
  have lR := R_1.out.1
  have cR0 := R_1.out.at 0 rfl
  have cR1 := R_1.out.at 1 rfl
  have lH := H_1.out.1
  have cH0 := H_1.out.at 0 rfl
  have fR0 := R_1.out.free 0 rfl
  have fR1 := R_1.out.free 1 rfl
  go_wp2_with fail
  (with_reducible refine (l2Words_any _ s m o h _ H_1.out h0).mono ?_)
  rintro e w' ⟨rfl, rfl⟩
  go_wp2
  have hz := HB1.out.size
  refine bodyPost_ret (v := .agg #[.int .i64 0, .int .i64 (s + 2)]) (by simp [results, Try.results25, go_sem, cR0, cR1]) rfl ⟨rfl, ?_⟩
  repeat (with_reducible refine Below.setCell ?_ (by (try simp); (try omega)) _)
  exact HB1.out

theorem specWO_any (s m o h c v : Int) (w : World) (hk : IsWO s m o h c v) : Calls Try.prog 25 #[.agg #[.int .i64 s, .int .i64 m, .int .i64 o, .int .i64 h]] w (RetPair w c v) := by
  rcases hk with ⟨h1, rfl, rfl⟩ | ⟨h1, rfl, rfl⟩
  · exact specWO_yes s m o h w h1
  · exact specWO_no s m o h w h1

set_option maxHeartbeats 800000 in
theorem implFW_yes (a : Int) (w : World) (h0 : 0 ≤ a ∧ a ≤ 399) :
    Calls Try.prog 17 #[.int .i64 a] w (RetPair w 0 (2 * a + 2)) := by
  have H0 := Lib.hid h0
  obtain ⟨h1, h2⟩ := h0
  go_enter Try.func17, Try.ntmps17
  go_wp2_with fail
  refine (isOut1 _ _ _ _ _ false (by simp) (.inl ⟨rfl, H0.out⟩)).mono ?_
  rintro e w1 ⟨rfl, hb⟩
  have HB1 : Hid (Below w.heap.size w w1) := thru2 (Below.refl _ _) hb
  have z1 : w.heap.size + 2 ≤ w1.heap.size := by have := hb.size; simp at this; omega
  have R_1 := Lib.hid (((Blk.new_at (w.heap.size) (by simp)).alloc _).below hb)
  clear hb
  have lR := R_1.out.1
  have cR0 := R_1.out.at 0 rfl
  have cR1 := R_1.out.at 1 rfl
  have fR0 := R_1.out.free 0 rfl
  have fR1 := R_1.out.free 1 rfl
  go_wp2
  have hz := HB1.out.size
  refine bodyPost_ret (v := .agg #[.int .i64 0, .int .i64 (2 * a + 2)]) (by simp [results, Try.results17, go_sem, cR0, cR1]) rfl ⟨rfl, ?_⟩
  repeat (with_reducible refine Below.setCell ?_ (by (try simp); (try omega)) _)
  exact HB1.out

set_option maxHeartbeats 800000 in
theorem implFW_no (a : Int) (w : World) (h0 : ¬ (0 ≤ a ∧ a ≤ 399)) :
    Calls Try.prog 17 #[.int .i64 a] w (RetPair w 3 0) := by
  have H0 := Lib.hid h0
  clear h0
  go_enter Try.func17, Try.ntmps17
  go_wp2_with fail
  refine (isOut1 _ _ _ _ _ true (by simp) (.inr ⟨rfl, H0.out⟩)).mono ?_
  rintro e w1 ⟨rfl, hb⟩
  have HB1 : Hid (Below w.heap.size w w1) := thru2 (Below.refl _ _) hb
  have z1 : w.heap.size + 2 ≤ w1.heap.size := by have := hb.size; simp at this; omega
  have R_1 := Lib.hid (((Blk.new_at (w.heap.size) (by simp)).alloc _).below hb)
  clear hb
  have lR := R_1.out.1
  have cR0 := R_1.out.at 0 rfl
  have cR1 := R_1.out.at 1 rfl
  have fR0 := R_1.out.free 0 rfl
  have fR1 := R_1.out.free 1 rfl
  go_wp2
  have hz := HB1.out.size
  refine bodyPost_ret (v := .agg #[.int .i64 3, .int .i64 0]) (by simp [results, Try.results17, go_sem, cR0, cR1]) rfl ⟨rfl, ?_⟩
  repeat (with_reducible refine Below.setCell ?_ (by (try simp); (try omega)) _)
  exact HB1.out

theorem implFW_any (a c v : Int) (w : World) (hk : IsFW a c v) : Calls Try.prog 17 #[.int .i64 a] w (RetPair w c v) := by
  rcases hk with ⟨h1, rfl, rfl⟩ | ⟨h1, rfl, rfl⟩
  · exact implFW_yes a w h1
  · exact implFW_no a w h1

set_option maxHeartbeats 800000 in
theorem specFW_yes (a : Int) (w : World) (h0 : 0 ≤ a ∧ a ≤ 399) :
    Calls Try.prog 22 #[.int .i64 a] w (RetPair w 0 (2 * a + 2)) := by
  have H0 := Lib.hid h0
  obtain ⟨h1, h2⟩ := h0
  go_enter Try.func22, Try.ntmps22
  go_wp2_with fail
  (with_reducible refine (l1In_yes a 0 399 _ H0.out.1 H0.out.2).mono ?_)
  rintro e w' ⟨rfl, rfl⟩
  go_wp2
  exact bodyPost_ret (v := .agg #[.int .i64 0, .int .i64 (2 * a + 2)]) (by simp [results, Try.results22, go_sem]) rfl ⟨rfl, (Below.refl _ _).alloc (Nat.le_refl _) _⟩

set_option maxHeartbeats 800000 in
theorem specFW_no (a : Int) (w : World) (h0 : ¬ (0 ≤ a ∧ a ≤ 399)) :
    Calls Try.prog 22 #[.int .i64 a] w (RetPair w 3 0) := by
  have H0 := Lib.hid h0
  clear h0
  go_enter Try.func22, Try.ntmps22
  go_wp2_with fail
  (with_reducible refine (l1In_no a 0 399 _ H0.out).mono ?_)
  rintro e w' ⟨rfl, rfl⟩
  go_wp2
  exact bodyPost_ret (v := .agg #[.int .i64 3, .int .i64 0]) (by simp [results, Try.results22, go_sem]) rfl ⟨rfl, (Below.refl _ _).alloc (Nat.le_refl _) _⟩

theorem specFW_any (a c v : Int) (w : World) (hk : IsFW a c v) : Calls Try.prog 22 #[.int .i64 a] w (RetPair w c v) := by
  rcases hk with ⟨h1, rfl, rfl⟩ | ⟨h1, rfl, rfl⟩
  · exact specFW_yes a w h1
  · exact specFW_no a w h1

end Go.Proofs.Ytflhjbcpffhanaa
