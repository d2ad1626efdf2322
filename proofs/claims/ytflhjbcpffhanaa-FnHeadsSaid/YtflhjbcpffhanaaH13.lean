/- ReadHead, of the model. -/
import Derived.Test.YtflhjbcpffhanaaH11
import Derived.Test.YtflhjbcpffhanaaS3
import Derived.Deep.Cut
namespace Go.Proofs.Ytflhjbcpffhanaa
open Go.RowKit
set_option linter.unusedVariables false

/-- What l2Read answers. -/
def RetRead (W : World) (a b : Int) (r : Bool) (e : Ending) (w' : World) : Prop :=
  ∃ s m o h, e = .returned (.tuple #[.agg #[.int .i64 s, .int .i64 m, .int .i64 o, .int .i64 h], .bool r]) ∧ Below W.heap.size W w' ∧ (r = true → s = a / 2 % 16 ∧ m = a / 32 % 4096 ∧ o = a / 131072 ∧ h = b)

set_option maxHeartbeats 800000 in
theorem l2Read_small (a b : Int) (w : World) (h0 : a < 1) :
    Calls Try.prog 48 #[.int .i64 a, .int .i64 b] w (RetRead w a b false) := by
  go_enter Try.func48, Try.ntmps48
  go_wp2
  exact bodyPost_ret (v := .tuple #[.agg #[.int .i64 0, .int .i64 0, .int .i64 0, .int .i64 0], .bool false]) (by simp [results, Try.results48, go_sem]) rfl ⟨0, 0, 0, 0, rfl, (Below.refl _ _).alloc (Nat.le_refl _) _, fun h => by cases h⟩

set_option maxHeartbeats 800000 in
theorem l2Read_even (a b : Int) (w : World) (h0 : ¬ a < 1) (h1 : a % 2 = 0) :
    Calls Try.prog 48 #[.int .i64 a, .int .i64 b] w (RetRead w a b false) := by
  have ht : a.tmod 2 = a % 2 := Int.tmod_eq_emod_of_nonneg (by omega)
  have hd : (a % 2 == 0) = true := by rw [h1]; rfl
  go_enter Try.func48, Try.ntmps48
  go_wp2
  exact bodyPost_ret (v := .tuple #[.agg #[.int .i64 0, .int .i64 0, .int .i64 0, .int .i64 0], .bool false]) (by simp [results, Try.results48, go_sem]) rfl ⟨0, 0, 0, 0, rfl, (Below.refl _ _).alloc (Nat.le_refl _) _, fun h => by cases h⟩

set_option maxHeartbeats 3200000 in
theorem l2Read_true (a b : Int) (w : World) (h0 : ¬ a < 1) (h1 : ¬ a % 2 = 0) (hb64 : a ≤ 9223372036854775807) (hk : HOk (a / 2 % 16) (a / 32 % 4096) (a / 131072) b) :
    Calls Try.prog 48 #[.int .i64 a, .int .i64 b] w (RetRead w a b true) := by
  have ht : a.tmod 2 = a % 2 := Int.tmod_eq_emod_of_nonneg (by omega)
  have hd : (a % 2 == 0) = false := by simpa using h1
  have hq : a.tdiv 2 = a / 2 := Int.tdiv_eq_ediv_of_nonneg (by omega)
  have g0 : 0 ≤ a / 2 := by omega
  have e1 : (a / 2).tmod 16 = a / 2 % 16 := Int.tmod_eq_emod_of_nonneg (by omega)
  have e2 : (a / 2).tdiv 16 = a / 32 := by rw [Int.tdiv_eq_ediv_of_nonneg (by omega)]; omega
  have e3 : (a / 32).tmod 4096 = a / 32 % 4096 := Int.tmod_eq_emod_of_nonneg (by omega)
  have e4 : (a / 2).tdiv 65536 = a / 131072 := by rw [Int.tdiv_eq_ediv_of_nonneg (by omega)]; omega
  have hk' : IsHF (a / 2 % 16) (a / 32 % 4096) (a / 131072) b 0 := .inl ⟨hk, rfl⟩
  clear hk
  have HK := Lib.hid hk'
  clear hk'
  go_enter Try.func48, Try.ntmps48
  go_upto_region 5 with (fail)
  have HB0 : Hid (Below w.heap.size w ((w.alloc (.cells #[.int .i64 0, .int .i64 0, .int .i64 0, .int .i64 0] 25)).alloc (.cells #[.int .i64 (a / 2 % 16), .int .i64 (a / 32 % 4096), .int .i64 (a / 131072), .int .i64 b] 25))) := ((Below.refl _ _).alloc (Nat.le_refl _) _).alloc (by simp) _
  have R0 : Hid (Blk ((w.alloc (.cells #[.int .i64 0, .int .i64 0, .int .i64 0, .int .i64 0] 25)).alloc (.cells #[.int .i64 (a / 2 % 16), .int .i64 (a / 32 % 4096), .int .i64 (a / 131072), .int .i64 b] 25)) w.heap.size [.int .i64 0, .int .i64 0, .int .i64 0, .int .i64 0]) := (Blk.new_at (w.heap.size) rfl).alloc _
  have U0 : Hid (Blk ((w.alloc (.cells #[.int .i64 0, .int .i64 0, .int .i64 0, .int .i64 0] 25)).alloc (.cells #[.int .i64 (a / 2 % 16), .int .i64 (a / 32 % 4096), .int .i64 (a / 131072), .int .i64 b] 25)) (w.heap.size + 1) [.int .i64 (a / 2 % 16), .int .i64 (a / 32 % 4096), .int .i64 (a / 131072), .int .i64 b]) := Blk.new_at (w.heap.size + 1) (by simp)
  generalize (w.alloc (.cells #[.int .i64 0, .int .i64 0, .int .i64 0, .int .i64 0] 25)).alloc (.cells #[.int .i64 (a / 2 % 16), .int .i64 (a / 32 % 4096), .int .i64 (a / 131072), .int .i64 b] 25) = w0 at *
  have HBd := Lib.hid HB0.out.drew
  have Rd := Lib.hid R0.out.drew
  have Ud := Lib.hid U0.out.drew
  clear ht hd hq e1 e2 e3 e4 hb64
  go_region_held3 (fun w' => w'.cell? ⟨w.heap.size + 1, 0, none⟩ = some (.int .i64 (a / 2 % 16)) ∧ w'.cell? ⟨w.heap.size + 1, 1, none⟩ = some (.int .i64 (a / 32 % 4096)) ∧ w'.cell? ⟨w.heap.size + 1, 2, none⟩ = some (.int .i64 (a / 131072)) ∧ w'.cell? ⟨w.heap.size + 1, 3, none⟩ = some (.int .i64 b))
    (first | (with_reducible exact ⟨(U0.out).at 0 rfl, (U0.out).at 1 rfl, (U0.out).at 2 rfl, (U0.out).at 3 rfl⟩) | (with_reducible exact ⟨(Ud.out).at 0 rfl, (Ud.out).at 1 rfl, (Ud.out).at 2 rfl, (Ud.out).at 3 rfl⟩) | (with_reducible exact ⟨(U1.out).at 0 rfl, (U1.out).at 1 rfl, (U1.out).at 2 rfl, (U1.out).at 3 rfl⟩) | (exact ⟨(((((U1.out.other (by (try simp); (try omega)) _).other (by (try simp); (try omega)) _).other (by (try simp); (try omega)) _).other (by (try simp); (try omega)) _)).at 0 rfl, (((((U1.out.other (by (try simp); (try omega)) _).other (by (try simp); (try omega)) _).other (by (try simp); (try omega)) _).other (by (try simp); (try omega)) _)).at 1 rfl, (((((U1.out.other (by (try simp); (try omega)) _).other (by (try simp); (try omega)) _).other (by (try simp); (try omega)) _).other (by (try simp); (try omega)) _)).at 2 rfl, (((((U1.out.other (by (try simp); (try omega)) _).other (by (try simp); (try omega)) _).other (by (try simp); (try omega)) _).other (by (try simp); (try omega)) _)).at 3 rfl⟩))
    (first | (go_at_call 29; refine (specHF_any (a / 2 % 16) (a / 32 % 4096) (a / 131072) b 0 _ HK.out).mono ?_; rintro e w1 ⟨rfl, hb⟩; have HB1 := Lib.hid (thru0 HBd.out hb); have R1 := Lib.hid (Rd.out.below hb); have U1 := Lib.hid (Ud.out.below hb); have hz := HB1.out.size; have lR := R1.out.1; clear hb; have cR0 := R1.out.at 0 rfl; have fR0 := R1.out.free 0 rfl; have cR1 := R1.out.at 1 rfl; have fR1 := R1.out.free 1 rfl; have cR2 := R1.out.at 2 rfl; have fR2 := R1.out.free 2 rfl; have cR3 := R1.out.at 3 rfl; have fR3 := R1.out.free 3 rfl))
  go_wp2
  refine bodyPost_ret (v := .tuple #[.agg #[.int .i64 (a / 2 % 16), .int .i64 (a / 32 % 4096), .int .i64 (a / 131072), .int .i64 b], .bool true]) (by simp [results, Try.results48, go_sem, cR0, cR1, cR2, cR3]) rfl ⟨_, _, _, _, rfl, ?_, fun _ => ⟨rfl, rfl, rfl, rfl⟩⟩
  repeat (with_reducible refine Below.setCell ?_ (by (try simp); (try omega)) _)
  exact HB1.out

set_option maxHeartbeats 3200000 in
theorem l2Read_false (a b : Int) (w : World) (h0 : ¬ a < 1) (h1 : ¬ a % 2 = 0) (hb64 : a ≤ 9223372036854775807) (hk : ¬ HOk (a / 2 % 16) (a / 32 % 4096) (a / 131072) b) :
    Calls Try.prog 48 #[.int .i64 a, .int .i64 b] w (RetRead w a b false) := by
  have ht : a.tmod 2 = a % 2 := Int.tmod_eq_emod_of_nonneg (by omega)
  have hd : (a % 2 == 0) = false := by simpa using h1
  have hq : a.tdiv 2 = a / 2 := Int.tdiv_eq_ediv_of_nonneg (by omega)
  have g0 : 0 ≤ a / 2 := by omega
  have e1 : (a / 2).tmod 16 = a / 2 % 16 := Int.tmod_eq_emod_of_nonneg (by omega)
  have e2 : (a / 2).tdiv 16 = a / 32 := by rw [Int.tdiv_eq_ediv_of_nonneg (by omega)]; omega
  have e3 : (a / 32).tmod 4096 = a / 32 % 4096 := Int.tmod_eq_emod_of_nonneg (by omega)
  have e4 : (a / 2).tdiv 65536 = a / 131072 := by rw [Int.tdiv_eq_ediv_of_nonneg (by omega)]; omega
  have hk' : IsHF (a / 2 % 16) (a / 32 % 4096) (a / 131072) b 3 := .inr ⟨hk, rfl⟩
  clear hk
  have HK := Lib.hid hk'
  clear hk'
  go_enter Try.func48, Try.ntmps48
  go_upto_region 5 with (fail)
  have HB0 : Hid (Below w.heap.size w ((w.alloc (.cells #[.int .i64 0, .int .i64 0, .int .i64 0, .int .i64 0] 25)).alloc (.cells #[.int .i64 (a / 2 % 16), .int .i64 (a / 32 % 4096), .int .i64 (a / 131072), .int .i64 b] 25))) := ((Below.refl _ _).alloc (Nat.le_refl _) _).alloc (by simp) _
  have R0 : Hid (Blk ((w.alloc (.cells #[.int .i64 0, .int .i64 0, .int .i64 0, .int .i64 0] 25)).alloc (.cells #[.int .i64 (a / 2 % 16), .int .i64 (a / 32 % 4096), .int .i64 (a / 131072), .int .i64 b] 25)) w.heap.size [.int .i64 0, .int .i64 0, .int .i64 0, .int .i64 0]) := (Blk.new_at (w.heap.size) rfl).alloc _
  have U0 : Hid (Blk ((w.alloc (.cells #[.int .i64 0, .int .i64 0, .int .i64 0, .int .i64 0] 25)).alloc (.cells #[.int .i64 (a / 2 % 16), .int .i64 (a / 32 % 4096), .int .i64 (a / 131072), .int .i64 b] 25)) (w.heap.size + 1) [.int .i64 (a / 2 % 16), .int .i64 (a / 32 % 4096), .int .i64 (a / 131072), .int .i64 b]) := Blk.new_at (w.heap.size + 1) (by simp)
  generalize (w.alloc (.cells #[.int .i64 0, .int .i64 0, .int .i64 0, .int .i64 0] 25)).alloc (.cells #[.int .i64 (a / 2 % 16), .int .i64 (a / 32 % 4096), .int .i64 (a / 131072), .int .i64 b] 25) = w0 at *
  have HBd := Lib.hid HB0.out.drew
  have Rd := Lib.hid R0.out.drew
  have Ud := Lib.hid U0.out.drew
  clear ht hd hq e1 e2 e3 e4 hb64
  go_region_held3 (fun w' => w'.cell? ⟨w.heap.size + 1, 0, none⟩ = some (.int .i64 (a / 2 % 16)) ∧ w'.cell? ⟨w.heap.size + 1, 1, none⟩ = some (.int .i64 (a / 32 % 4096)) ∧ w'.cell? ⟨w.heap.size + 1, 2, none⟩ = some (.int .i64 (a / 131072)) ∧ w'.cell? ⟨w.heap.size + 1, 3, none⟩ = some (.int .i64 b))
    (first | (with_reducible exact ⟨(U0.out).at 0 rfl, (U0.out).at 1 rfl, (U0.out).at 2 rfl, (U0.out).at 3 rfl⟩) | (with_reducible exact ⟨(Ud.out).at 0 rfl, (Ud.out).at 1 rfl, (Ud.out).at 2 rfl, (Ud.out).at 3 rfl⟩) | (with_reducible exact ⟨(U1.out).at 0 rfl, (U1.out).at 1 rfl, (U1.out).at 2 rfl, (U1.out).at 3 rfl⟩) | (exact ⟨(((((U1.out.other (by (try simp); (try omega)) _).other (by (try simp); (try omega)) _).other (by (try simp); (try omega)) _).other (by (try simp); (try omega)) _)).at 0 rfl, (((((U1.out.other (by (try simp); (try omega)) _).other (by (try simp); (try omega)) _).other (by (try simp); (try omega)) _).other (by (try simp); (try omega)) _)).at 1 rfl, (((((U1.out.other (by (try simp); (try omega)) _).other (by (try simp); (try omega)) _).other (by (try simp); (try omega)) _).other (by (try simp); (try omega)) _)).at 2 rfl, (((((U1.out.other (by (try simp); (try omega)) _).other (by (try simp); (try omega)) _).other (by (try simp); (try omega)) _).other (by (try simp); (try omega)) _)).at 3 rfl⟩))
    (first | (go_at_call 29; refine (specHF_any (a / 2 % 16) (a / 32 % 4096) (a / 131072) b 3 _ HK.out).mono ?_; rintro e w1 ⟨rfl, hb⟩; have HB1 := Lib.hid (thru0 HBd.out hb); have R1 := Lib.hid (Rd.out.below hb); have U1 := Lib.hid (Ud.out.below hb); have hz := HB1.out.size; have lR := R1.out.1; clear hb; have cR0 := R1.out.at 0 rfl; have fR0 := R1.out.free 0 rfl; have cR1 := R1.out.at 1 rfl; have fR1 := R1.out.free 1 rfl; have cR2 := R1.out.at 2 rfl; have fR2 := R1.out.free 2 rfl; have cR3 := R1.out.at 3 rfl; have fR3 := R1.out.free 3 rfl))
  go_wp2
  refine bodyPost_ret (v := .tuple #[.agg #[.int .i64 (a / 2 % 16), .int .i64 (a / 32 % 4096), .int .i64 (a / 131072), .int .i64 b], .bool false]) (by simp [results, Try.results48, go_sem, cR0, cR1, cR2, cR3]) rfl ⟨_, _, _, _, rfl, ?_, fun _ => ⟨rfl, rfl, rfl, rfl⟩⟩
  repeat (with_reducible refine Below.setCell ?_ (by (try simp); (try omega)) _)
  exact HB1.out

theorem l2Read_yes (a b : Int) (w : World) (hb64 : a ≤ 9223372036854775807) (hk : ROk a b) : Calls Try.prog 48 #[.int .i64 a, .int .i64 b] w (RetRead w a b true) := by
  obtain ⟨h1, h2⟩ := hk
  have h3 := h2.2.2.1.1
  exact l2Read_true a b w (by omega) (by omega) hb64 h2
theorem l2Read_no (a b : Int) (w : World) (hb64 : a ≤ 9223372036854775807) (hk : ¬ ROk a b) : Calls Try.prog 48 #[.int .i64 a, .int .i64 b] w (RetRead w a b false) := by
  by_cases h0 : a < 1
  · exact l2Read_small a b w h0
  · by_cases h1 : a % 2 = 0
    · exact l2Read_even a b w h0 h1
    · exact l2Read_false a b w h0 h1 hb64 (fun h => hk ⟨by omega, h⟩)

end Go.Proofs.Ytflhjbcpffhanaa
