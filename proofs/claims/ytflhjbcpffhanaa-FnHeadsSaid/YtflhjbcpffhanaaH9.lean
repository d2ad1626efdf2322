/- PackHead, of the program and of the model. -/
import Derived.Test.YtflhjbcpffhanaaH4
import Derived.Test.YtflhjbcpffhanaaH5
import Derived.Test.YtflhjbcpffhanaaS3
namespace Go.Proofs.Ytflhjbcpffhanaa
open Go.RowKit
set_option linter.unusedVariables false

/-- Two numbers in a row. -/
def two (a b : Int) : Nat → Int := fun i => if i = 0 then a else b
/-- What PackHead answers: the code, how many words, the words. -/
def IsPH (s m o h c : Int) (n : Nat) (f : Nat → Int) : Prop :=
  (HOk s m o h ∧ c = 0 ∧ n = 2 ∧ f = two (1 + 2 * (s + 16 * (m + 4096 * o))) h) ∨ (¬ HOk s m o h ∧ c = 3 ∧ n = 0 ∧ f = fun _ => 0)
theorem isPH_some (s m o h : Int) : ∃ c n f, IsPH s m o h c n f := by
  by_cases x : HOk s m o h
  · exact ⟨0, 2, _, .inl ⟨x, rfl, rfl, rfl⟩⟩
  · exact ⟨3, 0, _, .inr ⟨x, rfl, rfl, rfl⟩⟩
theorem isPH_small {s m o h c : Int} {n : Nat} {f : Nat → Int} (hk : IsPH s m o h c n f) : n ≤ 2 := by
  rcases hk with ⟨_, _, rfl, _⟩ | ⟨_, _, rfl, _⟩ <;> omega
/-- A code and a row of the call's own. -/
def RetIR (W : World) (c : Int) (n : Nat) (f : Nat → Int) (e : Ending) (w' : World) : Prop :=
  ∃ a cap, e = .returned (.agg #[.int .i64 c, .slice a n cap]) ∧ Own w' W.heap.size a n f ∧ Below W.heap.size W w'
theorem own_two {W w' : World} {b : Nat} {x y : Int} (hB : Blk w' b [.int .i64 x, .int .i64 y]) (hb : W.heap.size ≤ b) : Own w' W.heap.size (some ⟨b, 0, none⟩) 2 (two x y) := by
  refine .inr ⟨b, 0, rfl, hb, hB.1, fun i hi => ?_⟩
  rcases (by omega : i = 0 ∨ i = 1) with rfl | rfl
  · exact ⟨hB.at 0 rfl, hB.free 0 rfl⟩
  · exact ⟨hB.at 1 rfl, hB.free 1 rfl⟩

set_option maxHeartbeats 800000 in
theorem implPH_no (s m o h : Int) (w : World) (hk : ¬ HOk s m o h) :
    Calls Try.prog 13 #[.agg #[.int .i64 s, .int .i64 m, .int .i64 o, .int .i64 h]] w (RetIR w 3 0 (fun _ => 0)) := by
  have hk' : IsHF s m o h 3 := .inr ⟨hk, rfl⟩
  have HK := Lib.hid hk'
  clear hk'
  go_enter Try.func13, Try.ntmps13
  go_wp2_with fail
  refine (implHF_any s m o h 3 _ HK.out).mono ?_
  rintro e w1 ⟨rfl, hb⟩
  have HB1 : Hid (Below w.heap.size w w1) := thru2 (Below.refl _ _) hb
  have z1 : w.heap.size + 2 ≤ w1.heap.size := by have := hb.size; simp at this; omega
  have H_1 := Lib.hid (((Blk.new_at (w.heap.size) (by simp)).alloc _).below hb)
  have R_1 := Lib.hid ((Blk.new_at (w.heap.size + 1) (by simp)).below hb)
  clear hb
  have lR := R_1.out.1
  have cR0 := R_1.out.at 0 rfl
  have cR1 := R_1.out.at 1 rfl
  have fR0 := R_1.out.free 0 rfl
  have fR1 := R_1.out.free 1 rfl
  go_wp2
  have hz := HB1.out.size
  refine bodyPost_ret (v := .agg #[.int .i64 3, .slice none 0 0]) (by simp [results, Try.results13, go_sem, cR0, cR1]) rfl ⟨none, 0, rfl, .inl rfl, ?_⟩
  repeat (first | (with_reducible refine Below.setCell ?_ (by (try simp); (try omega)) _) | (with_reducible refine Below.alloc ?_ (by (try simp); (try omega)) _))
  exact HB1.out

set_option maxHeartbeats 800000 in
theorem specPH_no (s m o h : Int) (w : World) (hk : ¬ HOk s m o h) :
    Calls Try.prog 20 #[.agg #[.int .i64 s, .int .i64 m, .int .i64 o, .int .i64 h]] w (RetIR w 3 0 (fun _ => 0)) := by
  have hk' : IsHF s m o h 3 := .inr ⟨hk, rfl⟩
  have HK := Lib.hid hk'
  clear hk'
  go_enter Try.func20, Try.ntmps20
  go_wp2_with fail
  refine (specHF_any s m o h 3 _ HK.out).mono ?_
  rintro e w1 ⟨rfl, hb⟩
  have HB1 : Hid (Below w.heap.size w w1) := thru2 (Below.refl _ _) hb
  have z1 : w.heap.size + 2 ≤ w1.heap.size := by have := hb.size; simp at this; omega
  have H_1 := Lib.hid (((Blk.new_at (w.heap.size) (by simp)).alloc _).below hb)
  have R_1 := Lib.hid ((Blk.new_at (w.heap.size + 1) (by simp)).below hb)
  clear hb
  have lR := R_1.out.1
  have cR0 := R_1.out.at 0 rfl
  have cR1 := R_1.out.at 1 rfl
  have fR0 := R_1.out.free 0 rfl
  have fR1 := R_1.out.free 1 rfl
  go_wp2
  have hz := HB1.out.size
  refine bodyPost_ret (v := .agg #[.int .i64 3, .slice none 0 0]) (by simp [results, Try.results20, go_sem, cR0, cR1]) rfl ⟨none, 0, rfl, .inl rfl, ?_⟩
  repeat (first | (with_reducible refine Below.setCell ?_ (by (try simp); (try omega)) _) | (with_reducible refine Below.alloc ?_ (by (try simp); (try omega)) _))
  exact HB1.out

set_option maxHeartbeats 1600000 in
theorem implPH_yes (s m o h : Int) (w : World) (hk : HOk s m o h) :
    Calls Try.prog 13 #[.agg #[.int .i64 s, .int .i64 m, .int .i64 o, .int .i64 h]] w (RetIR w 0 2 (two (1 + 2 * (s + 16 * (m + 4096 * o))) h)) := by
  have hk' : IsHF s m o h 0 := .inl ⟨hk, rfl⟩
  obtain ⟨⟨q1, q2⟩, ⟨q3, q4⟩, ⟨q5, q6⟩, q7, q8⟩ := hk
  have q9 := P2_le q2
  have hpk := pack_bits s m o ⟨q1, q2⟩ ⟨q3, by omega⟩ ⟨q5, q6⟩
  have q4' : m ≤ 4095 := by omega
  clear q4 q9
  have HK := Lib.hid hk'
  clear hk'
  go_enter Try.func13, Try.ntmps13
  go_wp2_with fail
  refine (implHF_any s m o h 0 _ HK.out).mono ?_
  rintro e w1 ⟨rfl, hb⟩
  have HB1 : Hid (Below w.heap.size w w1) := thru2 (Below.refl _ _) hb
  have z1 : w.heap.size + 2 ≤ w1.heap.size := by have := hb.size; simp at this; omega
  have H_1 := Lib.hid (((Blk.new_at (w.heap.size) (by simp)).alloc _).below hb)
  have R_1 := Lib.hid ((Blk.new_at (w.heap.size + 1) (by simp)).below hb)
  clear hb
  have lR := R_1.out.1
  have cR0 := R_1.out.at 0 rfl
  have cR1 := R_1.out.at 1 rfl
  have lH := H_1.out.1
  have cH0 := H_1.out.at 0 rfl
  have cH1 := H_1.out.at 1 rfl
  have cH2 := H_1.out.at 2 rfl
  have cH3 := H_1.out.at 3 rfl
  have fR0 := R_1.out.free 0 rfl
  have fR1 := R_1.out.free 1 rfl
  go_wp2
  have hz := HB1.out.size
  refine bodyPost_ret (v := .agg #[.int .i64 0, .slice (some ⟨w1.heap.size, 0, none⟩) 2 2]) (by simp [results, Try.results13, go_sem, cR0, cR1, lR]) rfl ⟨_, _, rfl, own_two (Blk.new_at (w1.heap.size) (by simp)) (by omega), ?_⟩
  repeat (first | (with_reducible refine Below.setCell ?_ (by (try simp); (try omega)) _) | (with_reducible refine Below.alloc ?_ (by (try simp); (try omega)) _))
  exact HB1.out


set_option maxHeartbeats 1600000 in
theorem l2Pack_any (b : Nat) (s m o h : Int) (w : World) (hB : Blk w b [.int .i64 s, .int .i64 m, .int .i64 o, .int .i64 h]) (hk : HOk s m o h) :
    Calls Try.prog 42 #[.pointer (some ⟨b, 0, none⟩)] w fun e w' => e = .returned (.slice (some ⟨w.heap.size, 0, none⟩) 2 2) ∧ Blk w' w.heap.size [.int .i64 (1 + 2 * (s + 16 * (m + 4096 * o))), .int .i64 h] ∧ Below w.heap.size w w' := by
  obtain ⟨⟨q1, q2⟩, ⟨q3, q4⟩, ⟨q5, q6⟩, q7, q8⟩ := hk
  have q9 := P2_le q2
  have q4' : m ≤ 4095 := by omega
  have H1 := Lib.hid hB
  have H2 := Lib.hid hB.drew
  have lB := hB.1
  clear hB q4 q9
  go_enter Try.func42, Try.ntmps42
  go_wp2
  go_region_held3 (fun w' => w'.cell? ⟨b, 0, none⟩ = some (.int .i64 s) ∧ w'.cell? ⟨b, 1, none⟩ = some (.int .i64 m) ∧ w'.cell? ⟨b, 2, none⟩ = some (.int .i64 o) ∧ w'.cell? ⟨b, 3, none⟩ = some (.int .i64 h))
    (first | (with_reducible exact ⟨(H1.out).at 0 rfl, (H1.out).at 1 rfl, (H1.out).at 2 rfl, (H1.out).at 3 rfl⟩) | (with_reducible exact ⟨(H2.out).at 0 rfl, (H2.out).at 1 rfl, (H2.out).at 2 rfl, (H2.out).at 3 rfl⟩) | (with_reducible exact ⟨((H1.out.alloc _).drew).at 0 rfl, ((H1.out.alloc _).drew).at 1 rfl, ((H1.out.alloc _).drew).at 2 rfl, ((H1.out.alloc _).drew).at 3 rfl⟩))
    (fail)
  have hw : IntKind.i64.wrap (1 + IntKind.i64.wrap (2 * IntKind.i64.wrap (s + IntKind.i64.wrap (16 * IntKind.i64.wrap (m + IntKind.i64.wrap (4096 * o)))))) = (1 + 2 * (s + 16 * (m + 4096 * o))) := by
    rw [IntWalk.i64_in (4096 * o) (by omega), IntWalk.i64_in (m + 4096 * o) (by omega), IntWalk.i64_in (16 * (m + 4096 * o)) (by omega), IntWalk.i64_in (s + 16 * (m + 4096 * o)) (by omega), IntWalk.i64_in (2 * (s + 16 * (m + 4096 * o))) (by omega), IntWalk.i64_in _ (by omega)]
  rw [hw]
  clear hw
  go_wp2
  go_ret
  exact ⟨rfl, (Blk.new_at (w.heap.size) rfl).drew, ((Below.refl _ _).alloc (Nat.le_refl _) _).drew⟩

set_option maxHeartbeats 1600000 in
theorem specPH_yes (s m o h : Int) (w : World) (hk : HOk s m o h) :
    Calls Try.prog 20 #[.agg #[.int .i64 s, .int .i64 m, .int .i64 o, .int .i64 h]] w (RetIR w 0 2 (two (1 + 2 * (s + 16 * (m + 4096 * o))) h)) := by
  have hk' : IsHF s m o h 0 := .inl ⟨hk, rfl⟩
  have HO := Lib.hid hk
  clear hk
  have HK := Lib.hid hk'
  clear hk'
  go_enter Try.func20, Try.ntmps20
  go_wp2_with fail
  refine (specHF_any s m o h 0 _ HK.out).mono ?_
  rintro e w1 ⟨rfl, hb⟩
  have HB1 : Hid (Below w.heap.size w w1) := thru2 (Below.refl _ _) hb
  have z1 : w.heap.size + 2 ≤ w1.heap.size := by have := hb.size; simp at this; omega
  have H_1 := Lib.hid (((Blk.new_at (w.heap.size) (by simp)).alloc _).below hb)
  have R_1 := Lib.hid ((Blk.new_at (w.heap.size + 1) (by simp)).below hb)
  clear hb
  go_wp2_with fail
  refine (l2Pack_any _ s m o h _ H_1.out HO.out).mono ?_
  rintro e w2 ⟨rfl, ht, hb⟩
  have HB2 : Hid (Below w.heap.size w w2) := thru0 HB1.out hb
  have z2 : w1.heap.size ≤ w2.heap.size := hb.size
  have H_2 := Lib.hid (H_1.out.below hb)
  have R_2 := Lib.hid (R_1.out.below hb)
  have T_2 : Hid (Blk w2 w1.heap.size [.int .i64 (1 + 2 * (s + 16 * (m + 4096 * o))), .int .i64 h]) := ht
  clear ht
  clear hb H_1 R_1 HB1
  have lR := R_2.out.1
  have cR0 := R_2.out.at 0 rfl
  have cR1 := R_2.out.at 1 rfl
  have fR0 := R_2.out.free 0 rfl
  have fR1 := R_2.out.free 1 rfl
  go_wp2
  have hz := HB2.out.size
  refine bodyPost_ret (v := .agg #[.int .i64 0, .slice (some ⟨w1.heap.size, 0, none⟩) 2 2]) (by simp [results, Try.results20, go_sem, cR0, cR1]) rfl ⟨_, _, rfl, own_two (((T_2.out.other (by (try simp); (try omega)) _).other (by (try simp); (try omega)) _)) (by omega), ?_⟩
  repeat (first | (with_reducible refine Below.setCell ?_ (by (try simp); (try omega)) _) | (with_reducible refine Below.alloc ?_ (by (try simp); (try omega)) _))
  exact HB2.out

theorem implPH_any (s m o h c : Int) (n : Nat) (f : Nat → Int) (w : World) (hk : IsPH s m o h c n f) : Calls Try.prog 13 #[.agg #[.int .i64 s, .int .i64 m, .int .i64 o, .int .i64 h]] w (RetIR w c n f) := by
  rcases hk with ⟨h1, rfl, rfl, rfl⟩ | ⟨h1, rfl, rfl, rfl⟩
  · exact implPH_yes s m o h w h1
  · exact implPH_no s m o h w h1

theorem specPH_any (s m o h c : Int) (n : Nat) (f : Nat → Int) (w : World) (hk : IsPH s m o h c n f) : Calls Try.prog 20 #[.agg #[.int .i64 s, .int .i64 m, .int .i64 o, .int .i64 h]] w (RetIR w c n f) := by
  rcases hk with ⟨h1, rfl, rfl, rfl⟩ | ⟨h1, rfl, rfl, rfl⟩
  · exact specPH_yes s m o h w h1
  · exact specPH_no s m o h w h1

end Go.Proofs.Ytflhjbcpffhanaa
