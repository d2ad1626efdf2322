/- Texts merged: H13 to K21. -/
import Derived.Test.YtbhjmomphajnnaaPCO1
import Derived.Deep.RegionLaw
import Derived.ProofKit
import Derived.Lib.SmallJoins
import Derived.OpenShut
import Derived.Deep.AppendLies
import Derived.Deep.DeepCutAuto
namespace Go.Proofs.Ytbhjmomphajnnaa
open Go.RowKit
set_option linter.unusedVariables false

/-- What l2Read answers. -/
def RetRead (W : World) (a b : Int) (r : Bool) (e : Ending) (w' : World) : Prop :=
  ∃ s m o h, e = .returned (.tuple #[.agg #[.int .i64 s, .int .i64 m, .int .i64 o, .int .i64 h], .bool r]) ∧ Below W.heap.size W w' ∧ (r = true → s = a / 2 % 16 ∧ m = a / 32 % 4096 ∧ o = a / 131072 ∧ h = b)

set_option maxRecDepth 100000 in
set_option maxHeartbeats 800000 in
theorem l2Read_small (a b : Int) (w : World) (h0 : a < 1) :
    Calls Try.prog 194 #[.int .i64 a, .int .i64 b] w (RetRead w a b false) := by
  go_enter Try.func194, Try.ntmps194
  go_wp2
  exact bodyPost_ret (v := .tuple #[.agg #[.int .i64 0, .int .i64 0, .int .i64 0, .int .i64 0], .bool false]) (by simp [results, Try.results194, go_sem]) rfl ⟨0, 0, 0, 0, rfl, (Below.refl _ _).alloc (Nat.le_refl _) _, fun h => by cases h⟩

set_option maxRecDepth 100000 in
set_option maxHeartbeats 800000 in
theorem l2Read_even (a b : Int) (w : World) (h0 : ¬ a < 1) (h1 : a % 2 = 0) :
    Calls Try.prog 194 #[.int .i64 a, .int .i64 b] w (RetRead w a b false) := by
  have ht : a.tmod 2 = a % 2 := Int.tmod_eq_emod_of_nonneg (by omega)
  have hd : (a % 2 == 0) = true := by rw [h1]; rfl
  go_enter Try.func194, Try.ntmps194
  go_wp2
  exact bodyPost_ret (v := .tuple #[.agg #[.int .i64 0, .int .i64 0, .int .i64 0, .int .i64 0], .bool false]) (by simp [results, Try.results194, go_sem]) rfl ⟨0, 0, 0, 0, rfl, (Below.refl _ _).alloc (Nat.le_refl _) _, fun h => by cases h⟩

set_option maxRecDepth 100000 in
set_option maxHeartbeats 3200000 in
theorem l2Read_true (a b : Int) (w : World) (h0 : ¬ a < 1) (h1 : ¬ a % 2 = 0) (hb64 : a ≤ 9223372036854775807) (hk : HOk (a / 2 % 16) (a / 32 % 4096) (a / 131072) b) :
    Calls Try.prog 194 #[.int .i64 a, .int .i64 b] w (RetRead w a b true) := by
  have ht : a.tmod 2 = a % 2 := Int.tmod_eq_emod_of_nonneg (by omega)
  have hd : (a % 2 == 0) = false := by simpa using h1
  have hq : a.tdiv 2 = a / 2 := Int.tdiv_eq_ediv_of_nonneg (by omega)
  have g0 : 0 ≤ a / 2 := by omega
  have e1 : (a / 2).tmod 16 = a / 2 % 16 := Int.tmod_eq_emod_of_nonneg (by omega)
  have e2 : (a / 2).tdiv 16 = a / 32 := by rw [Int.tdiv_eq_ediv_of_nonneg (by omega)]; omega
  have e3 : (a / 32).tmod 4096 = a / 32 % 4096 := Int.tmod_eq_emod_of_nonneg (by omega)
  have e4 : (a / 2).tdiv 65536 = a / 131072 := by rw [Int.tdiv_eq_ediv_of_nonneg (by omega)]; omega
  have hk' : IsHF (a / 2 % 16) (a / 32 % 4096) (a / 131072) b 0 := .inl ⟨hk, rfl⟩
  clear hk
  have HK := Lib.hid hk'
  clear hk'
  go_enter Try.func194, Try.ntmps194
  go_upto_region 5 with (fail)
  have HB0 : Hid (Below w.heap.size w ((w.alloc (.cells #[.int .i64 0, .int .i64 0, .int .i64 0, .int .i64 0] 109)).alloc (.cells #[.int .i64 (a / 2 % 16), .int .i64 (a / 32 % 4096), .int .i64 (a / 131072), .int .i64 b] 109))) := ((Below.refl _ _).alloc (Nat.le_refl _) _).alloc (by simp) _
  have R0 : Hid (Blk ((w.alloc (.cells #[.int .i64 0, .int .i64 0, .int .i64 0, .int .i64 0] 109)).alloc (.cells #[.int .i64 (a / 2 % 16), .int .i64 (a / 32 % 4096), .int .i64 (a / 131072), .int .i64 b] 109)) w.heap.size [.int .i64 0, .int .i64 0, .int .i64 0, .int .i64 0]) := (Blk.new_at (w.heap.size) rfl).alloc _
  have U0 : Hid (Blk ((w.alloc (.cells #[.int .i64 0, .int .i64 0, .int .i64 0, .int .i64 0] 109)).alloc (.cells #[.int .i64 (a / 2 % 16), .int .i64 (a / 32 % 4096), .int .i64 (a / 131072), .int .i64 b] 109)) (w.heap.size + 1) [.int .i64 (a / 2 % 16), .int .i64 (a / 32 % 4096), .int .i64 (a / 131072), .int .i64 b]) := Blk.new_at (w.heap.size + 1) (by simp)
  generalize (w.alloc (.cells #[.int .i64 0, .int .i64 0, .int .i64 0, .int .i64 0] 109)).alloc (.cells #[.int .i64 (a / 2 % 16), .int .i64 (a / 32 % 4096), .int .i64 (a / 131072), .int .i64 b] 109) = w0 at *
  have HBd := Lib.hid HB0.out.drew
  have Rd := Lib.hid R0.out.drew
  have Ud := Lib.hid U0.out.drew
  clear ht hd hq e1 e2 e3 e4 hb64
  go_region_held3 (fun w' => w'.cell? ⟨w.heap.size + 1, 0, none⟩ = some (.int .i64 (a / 2 % 16)) ∧ w'.cell? ⟨w.heap.size + 1, 1, none⟩ = some (.int .i64 (a / 32 % 4096)) ∧ w'.cell? ⟨w.heap.size + 1, 2, none⟩ = some (.int .i64 (a / 131072)) ∧ w'.cell? ⟨w.heap.size + 1, 3, none⟩ = some (.int .i64 b))
    (first | (with_reducible exact ⟨(U0.out).at 0 rfl, (U0.out).at 1 rfl, (U0.out).at 2 rfl, (U0.out).at 3 rfl⟩) | (with_reducible exact ⟨(Ud.out).at 0 rfl, (Ud.out).at 1 rfl, (Ud.out).at 2 rfl, (Ud.out).at 3 rfl⟩) | (with_reducible exact ⟨(U1.out).at 0 rfl, (U1.out).at 1 rfl, (U1.out).at 2 rfl, (U1.out).at 3 rfl⟩) | (exact ⟨(((((U1.out.other (by (try simp); (try omega)) _).other (by (try simp); (try omega)) _).other (by (try simp); (try omega)) _).other (by (try simp); (try omega)) _)).at 0 rfl, (((((U1.out.other (by (try simp); (try omega)) _).other (by (try simp); (try omega)) _).other (by (try simp); (try omega)) _).other (by (try simp); (try omega)) _)).at 1 rfl, (((((U1.out.other (by (try simp); (try omega)) _).other (by (try simp); (try omega)) _).other (by (try simp); (try omega)) _).other (by (try simp); (try omega)) _)).at 2 rfl, (((((U1.out.other (by (try simp); (try omega)) _).other (by (try simp); (try omega)) _).other (by (try simp); (try omega)) _).other (by (try simp); (try omega)) _)).at 3 rfl⟩))
    (first | (go_at_call 203; refine (specHF_any (a / 2 % 16) (a / 32 % 4096) (a / 131072) b 0 _ HK.out).mono ?_; rintro e w1 ⟨rfl, hb⟩; have HB1 := Lib.hid (thru0 HBd.out hb); have R1 := Lib.hid (Rd.out.below hb); have U1 := Lib.hid (Ud.out.below hb); have hz := HB1.out.size; have lR := R1.out.1; clear hb; have cR0 := R1.out.at 0 rfl; have fR0 := R1.out.free 0 rfl; have cR1 := R1.out.at 1 rfl; have fR1 := R1.out.free 1 rfl; have cR2 := R1.out.at 2 rfl; have fR2 := R1.out.free 2 rfl; have cR3 := R1.out.at 3 rfl; have fR3 := R1.out.free 3 rfl))
  go_wp2
  refine bodyPost_ret (v := .tuple #[.agg #[.int .i64 (a / 2 % 16), .int .i64 (a / 32 % 4096), .int .i64 (a / 131072), .int .i64 b], .bool true]) (by simp [results, Try.results194, go_sem, cR0, cR1, cR2, cR3]) rfl ⟨_, _, _, _, rfl, ?_, fun _ => ⟨rfl, rfl, rfl, rfl⟩⟩
  repeat (with_reducible refine Below.setCell ?_ (by (try simp); (try omega)) _)
  exact HB1.out

set_option maxRecDepth 100000 in
set_option maxHeartbeats 3200000 in
theorem l2Read_false (a b : Int) (w : World) (h0 : ¬ a < 1) (h1 : ¬ a % 2 = 0) (hb64 : a ≤ 9223372036854775807) (hk : ¬ HOk (a / 2 % 16) (a / 32 % 4096) (a / 131072) b) :
    Calls Try.prog 194 #[.int .i64 a, .int .i64 b] w (RetRead w a b false) := by
  have ht : a.tmod 2 = a % 2 := Int.tmod_eq_emod_of_nonneg (by omega)
  have hd : (a % 2 == 0) = false := by simpa using h1
  have hq : a.tdiv 2 = a / 2 := Int.tdiv_eq_ediv_of_nonneg (by omega)
  have g0 : 0 ≤ a / 2 := by omega
  have e1 : (a / 2).tmod 16 = a / 2 % 16 := Int.tmod_eq_emod_of_nonneg (by omega)
  have e2 : (a / 2).tdiv 16 = a / 32 := by rw [Int.tdiv_eq_ediv_of_nonneg (by omega)]; omega
  have e3 : (a / 32).tmod 4096 = a / 32 % 4096 := Int.tmod_eq_emod_of_nonneg (by omega)
  have e4 : (a / 2).tdiv 65536 = a / 131072 := by rw [Int.tdiv_eq_ediv_of_nonneg (by omega)]; omega
  have hk' : IsHF (a / 2 % 16) (a / 32 % 4096) (a / 131072) b 3 := .inr ⟨hk, rfl⟩
  clear hk
  have HK := Lib.hid hk'
  clear hk'
  go_enter Try.func194, Try.ntmps194
  go_upto_region 5 with (fail)
  have HB0 : Hid (Below w.heap.size w ((w.alloc (.cells #[.int .i64 0, .int .i64 0, .int .i64 0, .int .i64 0] 109)).alloc (.cells #[.int .i64 (a / 2 % 16), .int .i64 (a / 32 % 4096), .int .i64 (a / 131072), .int .i64 b] 109))) := ((Below.refl _ _).alloc (Nat.le_refl _) _).alloc (by simp) _
  have R0 : Hid (Blk ((w.alloc (.cells #[.int .i64 0, .int .i64 0, .int .i64 0, .int .i64 0] 109)).alloc (.cells #[.int .i64 (a / 2 % 16), .int .i64 (a / 32 % 4096), .int .i64 (a / 131072), .int .i64 b] 109)) w.heap.size [.int .i64 0, .int .i64 0, .int .i64 0, .int .i64 0]) := (Blk.new_at (w.heap.size) rfl).alloc _
  have U0 : Hid (Blk ((w.alloc (.cells #[.int .i64 0, .int .i64 0, .int .i64 0, .int .i64 0] 109)).alloc (.cells #[.int .i64 (a / 2 % 16), .int .i64 (a / 32 % 4096), .int .i64 (a / 131072), .int .i64 b] 109)) (w.heap.size + 1) [.int .i64 (a / 2 % 16), .int .i64 (a / 32 % 4096), .int .i64 (a / 131072), .int .i64 b]) := Blk.new_at (w.heap.size + 1) (by simp)
  generalize (w.alloc (.cells #[.int .i64 0, .int .i64 0, .int .i64 0, .int .i64 0] 109)).alloc (.cells #[.int .i64 (a / 2 % 16), .int .i64 (a / 32 % 4096), .int .i64 (a / 131072), .int .i64 b] 109) = w0 at *
  have HBd := Lib.hid HB0.out.drew
  have Rd := Lib.hid R0.out.drew
  have Ud := Lib.hid U0.out.drew
  clear ht hd hq e1 e2 e3 e4 hb64
  go_region_held3 (fun w' => w'.cell? ⟨w.heap.size + 1, 0, none⟩ = some (.int .i64 (a / 2 % 16)) ∧ w'.cell? ⟨w.heap.size + 1, 1, none⟩ = some (.int .i64 (a / 32 % 4096)) ∧ w'.cell? ⟨w.heap.size + 1, 2, none⟩ = some (.int .i64 (a / 131072)) ∧ w'.cell? ⟨w.heap.size + 1, 3, none⟩ = some (.int .i64 b))
    (first | (with_reducible exact ⟨(U0.out).at 0 rfl, (U0.out).at 1 rfl, (U0.out).at 2 rfl, (U0.out).at 3 rfl⟩) | (with_reducible exact ⟨(Ud.out).at 0 rfl, (Ud.out).at 1 rfl, (Ud.out).at 2 rfl, (Ud.out).at 3 rfl⟩) | (with_reducible exact ⟨(U1.out).at 0 rfl, (U1.out).at 1 rfl, (U1.out).at 2 rfl, (U1.out).at 3 rfl⟩) | (exact ⟨(((((U1.out.other (by (try simp); (try omega)) _).other (by (try simp); (try omega)) _).other (by (try simp); (try omega)) _).other (by (try simp); (try omega)) _)).at 0 rfl, (((((U1.out.other (by (try simp); (try omega)) _).other (by (try simp); (try omega)) _).other (by (try simp); (try omega)) _).other (by (try simp); (try omega)) _)).at 1 rfl, (((((U1.out.other (by (try simp); (try omega)) _).other (by (try simp); (try omega)) _).other (by (try simp); (try omega)) _).other (by (try simp); (try omega)) _)).at 2 rfl, (((((U1.out.other (by (try simp); (try omega)) _).other (by (try simp); (try omega)) _).other (by (try simp); (try omega)) _).other (by (try simp); (try omega)) _)).at 3 rfl⟩))
    (first | (go_at_call 203; refine (specHF_any (a / 2 % 16) (a / 32 % 4096) (a / 131072) b 3 _ HK.out).mono ?_; rintro e w1 ⟨rfl, hb⟩; have HB1 := Lib.hid (thru0 HBd.out hb); have R1 := Lib.hid (Rd.out.below hb); have U1 := Lib.hid (Ud.out.below hb); have hz := HB1.out.size; have lR := R1.out.1; clear hb; have cR0 := R1.out.at 0 rfl; have fR0 := R1.out.free 0 rfl; have cR1 := R1.out.at 1 rfl; have fR1 := R1.out.free 1 rfl; have cR2 := R1.out.at 2 rfl; have fR2 := R1.out.free 2 rfl; have cR3 := R1.out.at 3 rfl; have fR3 := R1.out.free 3 rfl))
  go_wp2
  refine bodyPost_ret (v := .tuple #[.agg #[.int .i64 (a / 2 % 16), .int .i64 (a / 32 % 4096), .int .i64 (a / 131072), .int .i64 b], .bool false]) (by simp [results, Try.results194, go_sem, cR0, cR1, cR2, cR3]) rfl ⟨_, _, _, _, rfl, ?_, fun _ => ⟨rfl, rfl, rfl, rfl⟩⟩
  repeat (with_reducible refine Below.setCell ?_ (by (try simp); (try omega)) _)
  exact HB1.out

theorem l2Read_yes (a b : Int) (w : World) (hb64 : a ≤ 9223372036854775807) (hk : ROk a b) : Calls Try.prog 194 #[.int .i64 a, .int .i64 b] w (RetRead w a b true) := by
  obtain ⟨h1, h2⟩ := hk
  have h3 := h2.2.2.1.1
  exact l2Read_true a b w (by omega) (by omega) hb64 h2

theorem l2Read_no (a b : Int) (w : World) (hb64 : a ≤ 9223372036854775807) (hk : ¬ ROk a b) : Calls Try.prog 194 #[.int .i64 a, .int .i64 b] w (RetRead w a b false) := by
  by_cases h0 : a < 1
  · exact l2Read_small a b w h0
  · by_cases h1 : a % 2 = 0
    · exact l2Read_even a b w h0 h1
    · exact l2Read_false a b w h0 h1 hb64 (fun h => hk ⟨by omega, h⟩)
end Go.Proofs.Ytbhjmomphajnnaa

namespace Go.Proofs.Ytbhjmomphajnnaa
open Go.RowKit
set_option linter.unusedVariables false

theorem src_other {w : World} {ab ao n : Nat} {f : Nat → Int} (h : Src w (some ⟨ab, ao, none⟩) n f) {p : Addr} (hp : p.block ≠ ab) (u : Value) : Src (w.setCell p u) (some ⟨ab, ao, none⟩) n f :=
  h.keeps (keeps_setCell (Nat.le_refl p.block) (Nat.lt_succ_self _) u) (fun b off h => by simp only [Option.some.injEq, Addr.mk.injEq, and_true] at h; omega)

/-- What ReadHead answers. -/
def IsRH (n : Nat) (f : Nat → Int) (c s m o h : Int) : Prop :=
  (¬ n = 2 ∧ c = 2 ∧ s = 0 ∧ m = 0 ∧ o = 0 ∧ h = 0) ∨ (n = 2 ∧ ROk (f 0) (f 1) ∧ c = 0 ∧ s = f 0 / 2 % 16 ∧ m = f 0 / 32 % 4096 ∧ o = f 0 / 131072 ∧ h = f 1) ∨ (n = 2 ∧ ¬ ROk (f 0) (f 1) ∧ c = 1 ∧ s = 0 ∧ m = 0 ∧ o = 0 ∧ h = 0)

theorem implRH_any (a : Option Addr) (n cap : Nat) (f : Nat → Int) (c s m o h : Int) (w : World) (hs : Src w a n f) (hn : n ≤ 1048576) (hk : IsRH n f c s m o h) : Calls Try.prog 228 #[.slice a n cap] w (RetHR w c s m o h) := by
  rcases hk with ⟨h2, rfl, rfl, rfl, rfl, rfl⟩ | ⟨rfl, x, rfl, rfl, rfl, rfl, rfl⟩ | ⟨rfl, x, rfl, rfl, rfl, rfl, rfl⟩
  · exact implRH_many a n cap w hn h2
  · exact implRH_ok a cap f w hs x
  · exact implRH_bad a cap f w hs x
end Go.Proofs.Ytbhjmomphajnnaa

namespace Go.Proofs.Ytbhjmomphajnnaa
open Go.RowKit
set_option linter.unusedVariables false

/-- A right head is drawn; the source's block alone is written. -/
def RetHead (W : World) (b : Nat) (ca : Option Addr) (k kc t : Nat) (e : Ending) (w' : World) : Prop :=
  ∃ s m o h, e = .returned (.agg #[.int .i64 s, .int .i64 m, .int .i64 o, .int .i64 h]) ∧ HOk s m o h ∧ Blk w' b [.slice ca k kc, .int .i64 ((t + 1 + 1 + 1 + 1 : Nat) : Int)] ∧ Keeps W w' b (b + 1)

set_option maxRecDepth 100000 in
set_option maxHeartbeats 3200000 in
theorem l2Draw_any (b S : Nat) (ca : Option Addr) (k kc t : Nat) (B : Nat → Int) (w : World) (hB0 : Blk w b [.slice ca k kc, .int .i64 (t : Int)]) (hs : SrcB w S ca k B) (hS : S ≤ b) (hk0 : k ≤ 1048576) (ht : t ≤ 100) :
    Calls Try.prog 222 #[.pointer (some ⟨b, 0, none⟩)] w (RetHead w b ca k kc t) := by
  have S_0 := Lib.hid hB0
  have B_0 := Lib.hid hs
  have HK_0 := Lib.hid (Keeps.refl w b (b + 1))
  have lb := hB0.1
  clear hB0 hs
  go_enter Try.func222, Try.ntmps222
  go_wp2_with fail
  refine (of_any [0, 1, 2, 3, 12] b S _ ca k kc (t) 5 B _ _ (S_0.out.alloc _) (B_0.out.alloc _) hS hk0 (by omega) rfl (by simp) (by simp) rfl (by simp)).mono ?_
  rintro e w1 ⟨s, rfl, ms, hB, hk⟩
  have z1 : w.heap.size + 2 ≤ w1.heap.size := by have := hk.size; simp at this; omega
  have HK_1 := Lib.hid (((HK_0.out.alloc _).alloc _).trans hk)
  have S_1 := Lib.hid (src_cast hB)
  have B_1 := Lib.hid (((B_0.out.alloc _).alloc _).keeps hk hS)
  have R_1 := Lib.hid (((Blk.new_at (w.heap.size) (by simp)).alloc _).keeps hk (by omega))
  clear hk hB S_0 B_0 HK_0
  go_wp2_with fail
  refine (next_is 4 b S ca k kc (t + 1) 4 B _ rfl S_1.out B_1.out hS hk0 (by omega) (by omega) (by omega)).mono ?_
  rintro e w2 ⟨o, rfl, ho, hB, hk⟩
  have z2 : w1.heap.size ≤ w2.heap.size := hk.size
  have HK_2 := Lib.hid (HK_1.out.trans hk)
  have S_2 := Lib.hid (src_cast hB)
  have B_2 := Lib.hid (B_1.out.keeps hk hS)
  have R_2 := Lib.hid (R_1.out.keeps hk (by omega))
  clear hk hB HK_1 S_1 B_1 R_1
  go_wp2_with fail
  refine (of_any [0, 1, 5, 99999] b S _ ca k kc (t + 1 + 1) 4 B _ _ S_2.out B_2.out hS hk0 (by omega) rfl (by simp) (by simp) rfl (by simp)).mono ?_
  rintro e w3 ⟨h, rfl, mh, hB, hk⟩
  have z3 : w2.heap.size + 1 ≤ w3.heap.size := by have := hk.size; simp at this; omega
  have HK_3 := Lib.hid ((HK_2.out.alloc _).trans hk)
  have S_3 := Lib.hid (src_cast hB)
  have B_3 := Lib.hid ((B_2.out.alloc _).keeps hk hS)
  have R_3 := Lib.hid ((R_2.out.alloc _).keeps hk (by omega))
  clear hk hB HK_2 S_2 B_2 R_2
  have hs1 : ∃ N : Nat, s = (N : Int) ∧ N ≤ 12 := by
    simp only [List.mem_cons, List.mem_nil_iff, or_false] at ms
    rcases ms with rfl | rfl | rfl | rfl | rfl
    · exact ⟨0, rfl, by omega⟩
    · exact ⟨1, rfl, by omega⟩
    · exact ⟨2, rfl, by omega⟩
    · exact ⟨3, rfl, by omega⟩
    · exact ⟨12, rfl, by omega⟩
  have hh1 : 0 ≤ h ∧ h ≤ 99999 := by
    simp only [List.mem_cons, List.mem_nil_iff, or_false] at mh
    omega
  obtain ⟨N, rfl, hN⟩ := hs1
  clear ms mh
  go_wp2_with fail
  (with_reducible refine (power_any N _ hN).mono ?_)
  rintro e w' ⟨rfl, rfl⟩
  have hp1 : 1 ≤ 2 ^ N := Nat.one_le_two_pow
  have hp2 : 2 ^ N ≤ 4096 := (Nat.pow_le_pow_right (n := 2) (by omega) hN)
  go_wp2_with fail
  refine (next_is (P2 (N : Int)) b S ca k kc (t + 1 + 1 + 1) (2 ^ N) B _ (P2_nat N) (S_3.out.alloc _) (B_3.out.alloc _) hS hk0 (by omega) hp1 (by omega)).mono ?_
  rintro e w4 ⟨m, rfl, hm, hB, hk⟩
  have z4 : w3.heap.size + 1 ≤ w4.heap.size := by have := hk.size; simp at this; omega
  have HK_4 := Lib.hid ((HK_3.out.alloc _).trans hk)
  have S_4 := Lib.hid (src_cast hB)
  have B_4 := Lib.hid ((B_3.out.alloc _).keeps hk hS)
  have R_4 := Lib.hid ((R_3.out.alloc _).keeps hk (by omega))
  have T_4 := Lib.hid ((Blk.new_at (w3.heap.size) (by simp)).keeps hk (by omega))
  clear hk hB HK_3 S_3 B_3 R_3
  have e2 := P2_nat N
  have hz := HK_4.out.size
  have lR := R_4.out.1; have lT := T_4.out.1
  have cR0 := R_4.out.at 0 rfl; have fR0 := R_4.out.free 0 rfl; have cT0 := T_4.out.at 0 rfl; have cR1 := R_4.out.at 1 rfl; have fR1 := R_4.out.free 1 rfl; have cT1 := T_4.out.at 1 rfl; have cR2 := R_4.out.at 2 rfl; have fR2 := R_4.out.free 2 rfl; have cT2 := T_4.out.at 2 rfl; have cR3 := R_4.out.at 3 rfl; have fR3 := R_4.out.free 3 rfl; have cT3 := T_4.out.at 3 rfl
  have fT1 := T_4.out.free 1 rfl
  go_wp2
  refine bodyPost_ret (v := .agg #[.int .i64 (N : Int), .int .i64 (m : Int), .int .i64 (o : Int), .int .i64 h]) (by simp [results, Try.results222, go_sem, cR0, cR1, cR2, cR3]) rfl ⟨_, _, _, _, rfl, ?_, ?_, ?_⟩
  · exact ⟨⟨by omega, by omega⟩, ⟨by omega, by omega⟩, ⟨by omega, by omega⟩, hh1⟩
  · repeat (with_reducible refine Blk.other ?_ (by (try simp); (try omega)) _)
    exact S_4.out
  · repeat (with_reducible refine Keeps.setNew ?_ (by (try simp); (try omega)) _)
    exact HK_4.out
end Go.Proofs.Ytbhjmomphajnnaa

namespace Go.Proofs.Ytbhjmomphajnnaa
open Go.RowKit
set_option linter.unusedVariables false

theorem of_blk (l : List Int) (b S q : Nat) (ca : Option Addr) (k kc t n : Nat) (B : Nat → Int) (V : World) (hB : Blk V b [.slice ca k kc, .int .i64 (t : Int)]) (hs : SrcB V S ca k B) (hS : S ≤ b) (hk : k ≤ 1048576) (ht : t ≤ 10000)
    (hn : n = l.length) (hl1 : 1 ≤ l.length) (hl2 : l.length ≤ 200) (hq : Src V (some ⟨q, 0, none⟩) n (fun i => l.getD i 0)) (hqb : q ≠ b) :
    Calls Try.prog 79 #[.pointer (some ⟨b, 0, none⟩), .slice (some ⟨q, 0, none⟩) n n] V (RetOf V b ca k kc t l) := by
  subst hn
  refine (pick_any b S q ca k kc t l.length B (fun i => l.getD i 0) _ hB hs hS hk ht hl1 hl2 hq hqb).mono ?_
  rintro e w' ⟨i, rfl, hi, hB', hk'⟩
  exact ⟨_, rfl, by simp [hi], hB', hk'⟩
end Go.Proofs.Ytbhjmomphajnnaa

namespace Go.Proofs.Ytbhjmomphajnnaa
open Go.ChangeShapes Go.WideShapes Go.ChangeAt Go.RowKit Go.Joins
set_option linter.unusedVariables false
set_option maxRecDepth 100000

theorem Try.own : ownKnob Try.prog.godebug = none := by kernel_rfl

theorem Try.laidOut : laidOutB Try.prog = true := by kernel_rfl
end Go.Proofs.Ytbhjmomphajnnaa

namespace Go.Proofs.Ytbhjmomphajnnaa
open Go.ChangeShapes Go.WideShapes Go.ChangeAt Go.RowKit Go.Joins
set_option linter.unusedVariables false
set_option maxRecDepth 100000

/-- What came in: bytes that are read. -/
theorem open_bytes {H : Type} {enc : TypeId × Value → H} {W : World} {base : Nat} {v0 : Value} {d0 : DataW H} {p0 : List MemPlace}
    (hv : Value.okWide Try.prog W .any base 22 v0) (h0 : DataW.Trod enc Try.prog W 0 (fun _ => true) true 22 v0 d0 p0) :
    ∃ (a : Option Addr) (n c : Nat) (B : Nat → Int), v0 = .slice a n c ∧ SrcB W W.heap.size a n B ∧ n ≤ maxLen := by
  obtain ⟨a0, len0, cap0, rfl⟩ := okWide_slice Try.underlying22 hv
  obtain ⟨fuel, hf⟩ := h0
  rcases open_ints Try.underlying22 Try.underlying5 (by kernel_rfl) hf with ⟨hcs, _⟩ | ⟨x, l, c, zs, hcs, _, hl, hm, hz, _, hcell, hwz⟩
  · simp [Value.cells] at hcs
    obtain ⟨rfl, rfl, rfl⟩ := hcs
    exact ⟨none, 0, 0, fun _ => 0, rfl, .inl rfl, Nat.zero_le _⟩
  · simp [Value.cells] at hcs
    obtain ⟨rfl, rfl, rfl⟩ := hcs
    refine ⟨some x, len0, cap0, fun i => zs.getD i 0, rfl, ?_, by omega⟩
    by_cases h0 : len0 = 0
    · exact .inl h0
    · right
      have hlz : len0 ≤ zs.length := by
        rw [hz]; split
        · exact hl
        · exact Nat.le_refl _
      obtain ⟨b, off, spot⟩ := x
      have hc := hcell 0 (by omega)
      have hspot : spot = none := by simpa [Addr.add] using World.cell?_spot hc
      subst hspot
      have hbw : b < W.heap.size := World.block_lt_of_cell? W _ (by simpa [Addr.add] using hc)
      refine ⟨b, off, rfl, hbw, hbw, fun i hi => ⟨?_, ?_⟩⟩
      · have := hcell i (by omega)
        rcases i with _ | i
        · simpa [Addr.add] using this
        · simpa [Addr.add] using this
      · have hmem : zs.getD i 0 ∈ zs := by
          rw [List.getD_eq_getElem?_getD, List.getElem?_eq_getElem (by omega)]
          exact List.getElem_mem _
        have := bounds_u8 (hwz _ hmem)
        omega
end Go.Proofs.Ytbhjmomphajnnaa

namespace Go.Proofs.Ytbhjmomphajnnaa
open Go.RowKit
set_option linter.unusedVariables false

/-- An object as the model tells it: its place and its head. -/
structure Ob where
  at_ : Int
  s : Int
  m : Int
  o : Int
  h : Int

def szOf (f : Nat → Int) (a : Nat) : Nat := (f a / 2 % 16).toNat

def objAt (f : Nat → Int) (a : Nat) : Ob := ⟨(a : Int), f a / 2 % 16, f a / 32 % 4096, f a / 131072, f (a + 1)⟩

/-- There is an object at a place, that ends at e at the latest. -/
def Good (f : Nat → Int) (e a : Nat) : Prop := a + 2 ≤ e ∧ ROk (f a) (f (a + 1)) ∧ a + 2 + szOf f a ≤ e

instance (a b : Int) : Decidable (ROk a b) := by unfold ROk HOk; exact inferInstance

instance (f : Nat → Int) (e a : Nat) : Decidable (Good f e a) := by unfold Good; exact inferInstance

/-- The objects from a place on, up to e; none: something is no object. -/
def parse (f : Nat → Int) (e a : Nat) : Option (List Ob) :=
  if _h : a < e then
    if Good f e a then (parse f e (a + 2 + szOf f a)).map (objAt f a :: ·) else none
  else some []
termination_by e - a
decreasing_by omega

theorem parse_stop {f : Nat → Int} {e a : Nat} (h : ¬ a < e) : parse f e a = some [] := by rw [parse, dif_neg h]

theorem parse_bad {f : Nat → Int} {e a : Nat} (h : a < e) (hb : ¬ Good f e a) : parse f e a = none := by rw [parse, dif_pos h, if_neg hb]

theorem parse_good {f : Nat → Int} {e a : Nat} (h : a < e) (hb : Good f e a) : parse f e a = (parse f e (a + 2 + szOf f a)).map (objAt f a :: ·) := by
  rw [parse, dif_pos h, if_pos hb]

theorem good_size {f : Nat → Int} {e a : Nat} (hb : Good f e a) : 0 ≤ f a / 2 % 16 ∧ f a / 2 % 16 ≤ 12 ∧ ((szOf f a : Nat) : Int) = f a / 2 % 16 := by
  have h := hb.2.1.2.1
  refine ⟨h.1, h.2, ?_⟩
  unfold szOf; omega

/-- Some objects have been told: what is told in all. -/
theorem parse_step {f : Nat → Int} {e b a : Nat} {L : List Ob} (hp : parse f e b = (parse f e a).map (L ++ ·)) (h : a < e) (hb : Good f e a) :
    parse f e b = (parse f e (a + 2 + szOf f a)).map ((L ++ [objAt f a]) ++ ·) := by
  rw [hp, parse_good h hb, Option.map_map]
  congr 1
  funext l
  simp

/-- An object in memory: where its fields are. -/
structure OM where
  x : Ob
  g : Nat
  c : Nat

def OM.cells (t : OM) : List Value := [.int .i64 t.x.at_, .int .i64 t.x.s, .int .i64 t.x.m, .int .i64 t.x.o, .int .i64 t.x.h, .slice (some ⟨t.g, 0, none⟩) t.x.s.toNat t.c]

def rowCells (M : List OM) : List Value := M.flatMap OM.cells

theorem rowCells_snoc (M : List OM) (t : OM) : rowCells (M ++ [t]) = rowCells M ++ t.cells := by simp [rowCells]

/-- Each object's fields are a row of their own, in the order of the objects. -/
def Flds (w : World) (lo : Nat) (f : Nat → Int) (v : Value) (M : List OM) : Prop :=
  (∀ t ∈ M, lo ≤ t.g ∧ t.g < w.heap.size ∧ some t.g ≠ v.ownBlock ∧ ∀ k, k < t.x.s.toNat → w.cell? ⟨t.g, k, none⟩ = some (.int .i64 (f (t.x.at_.toNat + 2 + k))) ∧ w.frozen? ⟨t.g, k, none⟩ = false) ∧ M.Pairwise (fun t u => t.g < u.g)

theorem ownsRow_below {w w' : World} {base e size n : Nat} {v : Value} {xs : List Value} (h : w.ownsRow base e size v n xs) (hb : Below w.heap.size w w') : w'.ownsRow base e size v n xs := by
  refine ⟨h.1, ?_⟩
  rcases h.2 with h0 | ⟨g, cap, cur, h1, h2, h3, h4⟩
  · exact .inl h0
  · have hg : g < w.heap.size := by
      rcases Nat.lt_or_ge g w.heap.size with hlt | hge
      · exact hlt
      · rw [Array.getElem?_eq_none hge] at h3; cases h3
    exact .inr ⟨g, cap, cur, h1, h2, (hb.block g hg).trans h3, h4⟩

theorem Flds.below {w w' : World} {lo : Nat} {f : Nat → Int} {v : Value} {M : List OM} (h : Flds w lo f v M) (hb : Below w.heap.size w w') : Flds w' lo f v M :=
  ⟨fun t ht => by
    obtain ⟨h1, h2, h3, h4⟩ := h.1 t ht
    exact ⟨h1, Nat.lt_of_lt_of_le h2 hb.size, h3, fun k hk => ⟨(hb.cell (p := ⟨t.g, k, none⟩) h2).trans (h4 k hk).1, (hb.frozen (p := ⟨t.g, k, none⟩) h2).trans (h4 k hk).2⟩⟩, h.2⟩

/-- A row is copied into memory of the call's own, at a block that is named. -/
def RetCopy (W : World) (n : Nat) (f : Nat → Int) (e : Ending) (w' : World) : Prop :=
  ∃ g cap, e = .returned (.slice (some ⟨g, 0, none⟩) n cap) ∧ W.heap.size ≤ g ∧ g < w'.heap.size ∧ (∀ k, k < n → w'.cell? ⟨g, k, none⟩ = some (.int .i64 (f k)) ∧ w'.frozen? ⟨g, k, none⟩ = false) ∧ Below W.heap.size W w' ∧ n ≤ cap ∧ cap ≤ maxLen

theorem retCopy_of {W w' : World} {n : Nat} {f : Nat → Int} {v : Value} (h : w'.ownsRow W.heap.size 2 1 v n (nums n f)) (hne : v ≠ .slice none 0 0) (hb : Below W.heap.size W w') : RetCopy W n f (.returned v) w' := by
  have h0 := h
  rcases h.2 with ⟨h1, _⟩ | ⟨g, cap, cur, h1, hB, hg, hnc, hcm, _⟩
  · exact absurd h1 hne
  · subst h1
    refine ⟨g, cap, rfl, hB, ?_, fun k hk => ?_, hb, hnc, hcm⟩
    · rcases Nat.lt_or_ge g w'.heap.size with hlt | hge
      · exact hlt
      · rw [Array.getElem?_eq_none hge] at hg; cases hg
    · have := h0.cellAt k (by omega)
      rw [nums_get n f k hk] at this
      exact ⟨by simpa using this, by simpa using h0.frozenAt k⟩

set_option maxHeartbeats 400000 in
theorem l1Ints_all (ad : Addr) (n cap : Nat) (f : Nat → Int) (w : World) (hs : Src w (some ad) n f) (hn : n ≤ 1048576) :
    Calls Try.prog 196 #[.slice (some ad) n cap] w (RetCopy w n f) := by
  obtain ⟨i0, hi, hz0, hz1, hz2⟩ := info_parts Try.info2
  have hc' : ∀ (j : Nat) (u : Value), (nums n f)[j]? = some u → (w.alloc (.cells #[] 2)).cell? (ad.add j) = some u := fun j u h => by
    by_cases hp : 0 < n
    · obtain ⟨b, off, he, hb, hc⟩ := src_some hs hp
      cases he
      have := news_at hc j u h
      exact (((Below.refl w.heap.size w).alloc (Nat.le_refl _) _).cell (p := (⟨b, off, none⟩ : Addr).add j) (by rcases j with _ | j <;> simpa [Addr.add] using hb)).trans this
    · obtain rfl : n = 0 := by omega
      simp [nums] at h
  have HC := Lib.hid hc'
  clear hc' hs
  go_enter Try.func196, Try.ntmps196
  go_wp2_with (at_builtin; refine wpList_append_own _ rfl _ _ 24 rfl w.heap.size 2 i0 (.int .i64 0) 1 8 Try.underlying24 hi hz0 hz1 hz2 rfl (by decide) _ 0 [] rfl (World.ownsRow_lit w #[] 0 (Nat.le_refl _) (by simp [maxLen]) rfl) ad n cap (nums n f) rfl (by simp [nums]) HC.out (nums_one n f) (by unfold maxLen; omega) (by omega) (by simp) ?_; intro v' w1 hown hgrow hnil)
  go_ret
  exact retCopy_of (by simpa using hown) (fun h => by cases (hnil.mp h).1) (((Below.refl _ _).alloc (Nat.le_refl _) _).grown hgrow (by simp) (by intro k hk; cases hk; exact Nat.le_refl _))
end Go.Proofs.Ytbhjmomphajnnaa

namespace Go.Proofs.Ytbhjmomphajnnaa
open Go.RowKit
set_option linter.unusedVariables false

/-- What l3Objects answers: nothing, or the objects in memory of the call's own. -/
def RetObs (W : World) (f : Nat → Int) (r : Option (List Ob)) (e : Ending) (w' : World) : Prop :=
  Below W.heap.size W w' ∧ ((r = none ∧ e = .returned (.tuple #[.slice none 0 0, .bool false])) ∨
    ∃ v M, r = some (M.map OM.x) ∧ e = .returned (.tuple #[v, .bool true]) ∧ w'.ownsRow W.heap.size 111 6 v M.length (rowCells M) ∧ Flds w' W.heap.size f v M)

theorem l1Base_eq (X : Int) (b : Nat) (h ac bu : Int) (a : Option Addr) (n c : Nat) (w : World) (hX : baseI ac h = X) (hB : Blk w b [.int .i64 h, .slice a n c, .int .i64 ac, .int .i64 bu]) (h1 : 8 ≤ h) (h2 : h ≤ 200) (h3 : 0 ≤ ac) (h4 : ac ≤ 1) :
    Calls Try.prog 193 #[.pointer (some ⟨b, 0, none⟩)] w (RetInt w X) := by
  subst hX
  exact l1Base_any b h ac bu a n c w hB h1 h2 h3 h4

theorem ownBlock_lt {w : World} {base e size n : Nat} {v : Value} {xs : List Value} (h : w.ownsRow base e size v n xs) {g : Nat} (hg : v.ownBlock = some g) : g < w.heap.size := by
  rcases h.2 with ⟨rfl, _⟩ | ⟨g', cap, cur, rfl, _, hg', _⟩
  · simp [Value.ownBlock] at hg
  · simp only [Value.ownBlock, Option.some.injEq] at hg
    subst hg
    rcases Nat.lt_or_ge g' w.heap.size with hlt | hge
    · exact hlt
    · rw [Array.getElem?_eq_none hge] at hg'; cases hg'

theorem Try.info111 : (Try.prog.info? 111).map (fun i => (i.zero, i.size, i.bytes)) = some (some (.agg #[.int .i64 0, .int .i64 0, .int .i64 0, .int .i64 0, .int .i64 0, .slice none 0 0]), 6, 64) := by kernel_rfl

theorem src_w0 {w : World} {ab ao n : Nat} {f : Nat → Int} (h : Src w (some ⟨ab, ao, none⟩) n f) (i : Nat) (hi : i < n) : w.cell? ⟨ab, ao + i, none⟩ = some (.int .i64 (f i)) := h.at i hi

theorem src_w1 {w : World} {ab ao n : Nat} {f : Nat → Int} (h : Src w (some ⟨ab, ao, none⟩) n f) (i : Nat) (hi : i + 1 < n) : w.cell? ⟨ab, ao + (i + 1), none⟩ = some (.int .i64 (f (i + 1))) := h.at (i + 1) hi

theorem src_sub {w : World} {ab ao n m d : Nat} {f : Nat → Int} (h : Src w (some ⟨ab, ao, none⟩) n f) (hd : d + m ≤ n) : Src w (some ⟨ab, ao + d, none⟩) m (fun k => f (d + k)) := by
  rcases h with h | ⟨b', o', he, hb, hc⟩
  · exact .inl (by omega)
  · cases he
    exact .inr ⟨ab, ao + d, rfl, hb, fun i hi => by have := hc (d + i) (by omega); rw [Nat.add_assoc]; exact this⟩

theorem ownBlock_ge {w : World} {base e size n : Nat} {v : Value} {xs : List Value} (h : w.ownsRow base e size v n xs) {g : Nat} (hg : v.ownBlock = some g) : base ≤ g := by
  rcases h.2 with ⟨rfl, _⟩ | ⟨g', cap, cur, rfl, hb, _⟩
  · simp [Value.ownBlock] at hg
  · simp only [Value.ownBlock, Option.some.injEq] at hg
    omega

/-- One object more. -/
theorem flds_append {w0 w1 w2 : World} {lo : Nat} {f : Nat → Int} {v : Value} {M : List OM} {g2 n2 cap2 : Nat} (x : Ob) (g c : Nat) (h : Flds w0 lo f v M) (hb : Below w0.heap.size w0 w1) (hg : w1.grownBy w2 v.ownBlock)
    (hat : v.ownBlock = some g2 ∨ g2 = w1.heap.size) (hgl : w0.heap.size ≤ g) (hgu : g < w1.heap.size) (hlo : lo ≤ w0.heap.size) (hv : ∀ k, v.ownBlock = some k → k < w0.heap.size)
    (hc : ∀ k, k < x.s.toNat → w1.cell? ⟨g, k, none⟩ = some (.int .i64 (f (x.at_.toNat + 2 + k))) ∧ w1.frozen? ⟨g, k, none⟩ = false) :
    Flds w2 lo f (.slice (some ⟨g2, 0, none⟩) n2 cap2) (M ++ [⟨x, g, c⟩]) := by
  have hz := hb.size
  refine ⟨fun t ht => ?_, ?_⟩
  · rcases List.mem_append.mp ht with ht | ht
    · obtain ⟨a1, a2, a3, a4⟩ := h.1 t ht
      refine ⟨a1, Nat.lt_of_lt_of_le (Nat.lt_of_lt_of_le a2 hz) hg.size, ?_, fun k hk => ?_⟩
      · intro he
        simp only [Value.ownBlock, Option.some.injEq] at he
        rcases hat with hat | hat
        · exact a3 (by rw [hat, he])
        · omega
      · obtain ⟨b1, b2⟩ := a4 k hk
        have e1 := hg.cell_far ⟨t.g, k, none⟩ (Nat.lt_of_lt_of_le a2 hz) a3
        have e2 := hg.frozen_far ⟨t.g, k, none⟩ (Nat.lt_of_lt_of_le a2 hz) a3
        exact ⟨e1.trans ((hb.cell (p := ⟨t.g, k, none⟩) a2).trans b1), e2.trans ((hb.frozen (p := ⟨t.g, k, none⟩) a2).trans b2)⟩
    · simp only [List.mem_singleton] at ht
      subst ht
      have hne : some g ≠ v.ownBlock := fun he => by have := hv g he.symm; omega
      refine ⟨Nat.le_trans hlo hgl, Nat.lt_of_lt_of_le hgu hg.size, ?_, fun k hk => ?_⟩
      · intro he
        simp only [Value.ownBlock, Option.some.injEq] at he
        rcases hat with hat | hat
        · exact hne (by rw [hat, he])
        · omega
      · obtain ⟨b1, b2⟩ := hc k hk
        exact ⟨(hg.cell_far ⟨g, k, none⟩ hgu hne).trans b1, (hg.frozen_far ⟨g, k, none⟩ hgu hne).trans b2⟩
  · rw [List.pairwise_append]
    refine ⟨h.2, by simp, fun t ht u hu => ?_⟩
    simp only [List.mem_singleton] at hu
    subst hu
    exact Nat.lt_of_lt_of_le (h.1 t ht).2.1 hgl

set_option maxRecDepth 100000 in
set_option maxHeartbeats 6400000 in
theorem l3Objects_any (b P U : Nat) (h ac : Int) (ab ao n c : Nat) (f : Nat → Int) (w : World) (hB : Blk w b [.int .i64 h, .slice (some ⟨ab, ao, none⟩) n c, .int .i64 ac, .int .i64 (U : Int)]) (hs : Src w (some ⟨ab, ao, none⟩) n f) (h1 : 8 ≤ h) (h2 : h ≤ 200) (h3 : 0 ≤ ac) (h4 : ac ≤ 1) (hP : baseI ac h = (P : Int)) (hU : P + U ≤ n) (hn : n ≤ 400) (hcn : n ≤ c) (hcm : c ≤ maxLen) (hf : ∀ i, i < n → f i ≤ 9223372036854775807) :
    Calls Try.prog 139 #[.pointer (some ⟨b, 0, none⟩)] w (RetObs w f (parse f (P + U) P)) := by
  have HB0 := Lib.hid hB
  have HS0 := Lib.hid hs
  have lb := hB.1
  have HF := Lib.hid hf
  have HCM := Lib.hid hcm
  clear hB hs hf hcm
  go_enter Try.func139, Try.ntmps139
  go_wp2_with fail
  have HBa : Hid (Below w.heap.size w (w.alloc (.cells #[] 111))) := (Below.refl _ _).alloc (Nat.le_refl _) _
  have OWa : Hid ((w.alloc (.cells #[] 111)).ownsRow w.heap.size 111 6 (.slice (some ⟨w.heap.size, 0, none⟩) 0 0) 0 []) := World.ownsRow_lit w #[] 0 (Nat.le_refl _) (by simp [maxLen]) rfl
  have za : w.heap.size + 1 ≤ (w.alloc (.cells #[] 111)).heap.size := by simp
  generalize w.alloc (.cells #[] 111) = wa at *
  have BA_a := Lib.hid (HB0.out.below HBa.out)
  have BA_d := Lib.hid BA_a.out.drew
  have HBd := Lib.hid HBa.out.drew
  have hza := HBa.out.size
  have OWd := Lib.hid (ownsRow_below OWa.out (Below.refl _ _).drew)
  have hw : IntKind.i64.wrap ((P : Int) + (U : Int)) = ((P + U : Nat) : Int) := by rw [IntWalk.i64_in _ (by omega)]; omega
  go_region_held3 (fun w' => w'.cell? ⟨b, 0, none⟩ = some (.int .i64 h) ∧ w'.cell? ⟨b, 1, none⟩ = some (.slice (some ⟨ab, ao, none⟩) n c) ∧ w'.cell? ⟨b, 2, none⟩ = some (.int .i64 ac) ∧ w'.cell? ⟨b, 3, none⟩ = some (.int .i64 (U : Int)))
    (first | (with_reducible exact ⟨(BA_a.out).at 0 rfl, (BA_a.out).at 1 rfl, (BA_a.out).at 2 rfl, (BA_a.out).at 3 rfl⟩) | (with_reducible exact ⟨(BA_d.out).at 0 rfl, (BA_d.out).at 1 rfl, (BA_d.out).at 2 rfl, (BA_d.out).at 3 rfl⟩) | (with_reducible exact ⟨(BA_1.out).at 0 rfl, (BA_1.out).at 1 rfl, (BA_1.out).at 2 rfl, (BA_1.out).at 3 rfl⟩))
    (first | (go_at_call 193; refine (l1Base_eq (P : Int) b h ac (U : Int) (some ⟨ab, ao, none⟩) n c _ hP BA_d.out h1 h2 h3 h4).mono ?_; rintro e w1 ⟨rfl, hb⟩; have HB1 := Lib.hid (HBd.out.trans (hb.mono (by simpa using hza))); have BA_1 := Lib.hid (BA_d.out.below hb); have OW1 := Lib.hid (ownsRow_below OWd.out hb); clear hb))
  clear HBa OWa BA_a BA_d HBd OWd
  go_wp2_with fail
  refine (l1Base_eq (P : Int) b h ac (U : Int) (some ⟨ab, ao, none⟩) n c _ hP BA_1.out h1 h2 h3 h4).mono ?_
  rintro e w2 ⟨rfl, hb⟩
  have hz1 := HB1.out.size
  have HB2 := Lib.hid (HB1.out.trans (hb.mono hz1))
  have OW2 := Lib.hid (ownsRow_below OW1.out hb)
  clear hb HB1 OW1 BA_1
  have z2 := HB2.out.size
  have z3 : w.heap.size + 1 ≤ w2.heap.size := ownBlock_lt OW2.out rfl
  go_wp2
  go_loopw [4, 6] (fun v q wr => ∃ (i : Nat) (M : List OM), i ≤ P + U ∧ q = .int .i64 (i : Int) ∧ Hid (Below w.heap.size w wr) ∧ w.heap.size + 1 ≤ wr.heap.size ∧ Hid (wr.ownsRow w.heap.size 111 6 v M.length (rowCells M)) ∧ Hid (Flds wr w.heap.size f v M) ∧ Hid (parse f (P + U) P = (parse f (P + U) i).map (M.map OM.x ++ ·)) ∧ M.length + M.length ≤ i) (fun _ q _ => P + U - (intOf q).toNat)
  case atStart => exact ⟨P, [], by omega, rfl, HB2, z3, OW2, ⟨(by intro t ht; cases ht), List.Pairwise.nil⟩, Lib.hid (by simp), by simp⟩
  case round =>
    obtain ⟨i, M, hi, rfl, HB_r, zr, OW_r, FL_r, HPA, hml⟩ := hrel
    clear HB2 OW2 z2 z3
    have BA_r := Lib.hid (HB0.out.below HB_r.out)
    have hzr := HB_r.out.size
    by_cases hlt : i < P + U
    · have hlt' : (i : Int) < ((P + U : Nat) : Int) := by omega
      by_cases h2e : i + 2 ≤ P + U
      · have h2e' : ¬ ((P + U : Nat) : Int) < (i : Int) + 2 := by omega
        have hi0 : (0 : Int) ≤ (i : Int) := by omega
        have hi1 : (i : Int) < (n : Int) := by omega
        have hi2 : (i : Int) + 1 < (n : Int) := by omega
        have hi3 : (0 : Int) ≤ (i : Int) + 1 := by omega
        have ht1 : ((i : Int) + 1).toNat = i + 1 := by omega
        have hwi : IntKind.i64.wrap ((i : Int) + 1) = (i : Int) + 1 := IntWalk.i64_in _ (by omega)
        go_wp2_with fail
        have SA_r := Lib.hid (HS0.out.below HB_r.out)
        have BA_d := Lib.hid BA_r.out.drew
        have SA_d := Lib.hid SA_r.out.drew
        obtain ⟨hab, hac⟩ : ab < wr.heap.size ∧ True := ⟨by rcases SA_r.out with h0 | ⟨b', o', he, hb', _⟩; omega; cases he; exact hb', trivial⟩
        have lbr : b < wr.heap.size := by omega
        have HFi := Lib.hid (HF.out i (by omega))
        by_cases hro : ROk (f i) (f (i + 1))
        · have HRO := Lib.hid hro
          have hs12 := hro.2.1
          obtain ⟨sN, hS⟩ : ∃ sN : Nat, f i / 2 % 16 = (sN : Int) := ⟨(f i / 2 % 16).toNat, by omega⟩
          have hsz : szOf f i = sN := by unfold szOf; omega
          have hs13 : sN ≤ 12 := by omega
          have HS0' := Lib.hid hS
          clear hS hs12
          go_region_held3 (fun w' => w'.cell? ⟨b, 1, none⟩ = some (.slice (some ⟨ab, ao, none⟩) n c) ∧ w'.cell? ⟨ab, ao + i, none⟩ = some (.int .i64 (f i)) ∧ w'.cell? ⟨ab, ao + (i + 1), none⟩ = some (.int .i64 (f (i + 1))))
            (first | (with_reducible exact ⟨(BA_r.out).at 1 rfl, src_w0 (SA_r.out) i (by omega), src_w1 (SA_r.out) i (by omega)⟩) | (with_reducible exact ⟨(BA_d.out).at 1 rfl, src_w0 (SA_d.out) i (by omega), src_w1 (SA_d.out) i (by omega)⟩) | (with_reducible exact ⟨((BA_r.out.alloc _).drew).at 1 rfl, src_w0 ((SA_r.out.alloc _).drew) i (by omega), src_w1 ((SA_r.out.alloc _).drew) i (by omega)⟩) | (with_reducible exact ⟨(BA_5.out).at 1 rfl, src_w0 (SA_5.out) i (by omega), src_w1 (SA_5.out) i (by omega)⟩) | (with_reducible exact ⟨(BA_5.out.alloc _).at 1 rfl, src_w0 (SA_5.out.alloc _) i (by omega), src_w1 (SA_5.out.alloc _) i (by omega)⟩) | (exact ⟨(((((BA_5.out.other (by (try simp); (try omega)) _).other (by (try simp); (try omega)) _).other (by (try simp); (try omega)) _).other (by (try simp); (try omega)) _)).at 1 rfl, src_w0 (src_other (src_other (src_other (src_other SA_5.out (by (try simp); (try omega)) _) (by (try simp); (try omega)) _) (by (try simp); (try omega)) _) (by (try simp); (try omega)) _) i (by omega), src_w1 (src_other (src_other (src_other (src_other SA_5.out (by (try simp); (try omega)) _) (by (try simp); (try omega)) _) (by (try simp); (try omega)) _) (by (try simp); (try omega)) _) i (by omega)⟩))
            (first | (go_at_call 194; refine (l2Read_yes (f i) (f (i + 1)) _ HFi.out HRO.out).mono ?_; rintro e w5 ⟨s1, m1, o1, h5, rfl, hb, hv⟩; obtain ⟨rfl, rfl, rfl, rfl⟩ := hv (by trivial); have HB5 := Lib.hid (thru0 (below_ext (Below.refl wr.heap.size wr).drew (by first | exact .inl rfl | exact ext_drew _ _ | exact .inr ⟨_, rfl⟩)) hb); have SA_5 := Lib.hid ((SA_d.out.ext (by first | exact .inl rfl | exact ext_drew _ _ | exact .inr ⟨_, rfl⟩)).below hb); have BA_5 := Lib.hid ((BA_d.out.ext (by first | exact .inl rfl | exact ext_drew _ _ | exact .inr ⟨_, rfl⟩)).below hb); have z5 : wr.heap.size ≤ w5.heap.size := (by have := hb.size; simp at this; omega); (first | (have T5 := Lib.hid ((Blk.new_at (w := wr) (cs := #[.int .i64 0, .int .i64 0, .int .i64 0, .int .i64 0]) (t := 109) (wr.heap.size) rfl).drew.below hb)) | skip); clear hb; (first | (have lT := T5.out.1; have cT0 := T5.out.at 0 rfl; have fT0 := T5.out.free 0 rfl; have cT1 := T5.out.at 1 rfl; have fT1 := T5.out.free 1 rfl; have cT2 := T5.out.at 2 rfl; have fT2 := T5.out.free 2 rfl; have cT3 := T5.out.at 3 rfl; have fT3 := T5.out.free 3 rfl) | skip)))
          all_goals have hS := HS0'.out
          · refine then_named (fun w6 => Hid (Below wr.heap.size wr w6) ∧ Hid (Blk w6 (w5.heap.size) [.int .i64 (f i / 2 % 16), .int .i64 (f i / 32 % 4096), .int .i64 (f i / 131072), .int .i64 (f (i + 1))])) ⟨HB5.out.alloc HB5.out.size _, Blk.new_at _ rfl⟩ (fun w6 hF => ?_)
            obtain ⟨HB6, T6⟩ := hF
            clear HB5 SA_5 BA_5 SA_d BA_d
            rw [hS] at T6
            have z6 := HB6.out.size
            have lT6 := T6.out.1
            by_cases hfit : i + 2 + sN ≤ P + U
            · have hft : ¬ (P : Int) + (U : Int) < (i : Int) + ((sN : Int) + 2) := by omega
              go_wp2_with fail
              refine (l2Words_any _ (sN : Int) _ _ _ _ T6.out ⟨by omega, by omega⟩).mono ?_
              rintro e w' ⟨rfl, rfl⟩
              go_wp2_with fail
              refine (l2Words_any _ (sN : Int) _ _ _ _ T6.out ⟨by omega, by omega⟩).mono ?_
              rintro e w' ⟨rfl, rfl⟩
              go_wp2_with fail
              have BA6 := Lib.hid (BA_r.out.below HB6.out)
              have SA6 := Lib.hid (SA_r.out.below HB6.out)
              have OW6 := Lib.hid (ownsRow_below OW_r.out HB6.out)
              have FL6 := Lib.hid (FL_r.out.below HB6.out)
              have HB7 := Lib.hid (HB_r.out.trans (HB6.out.mono hzr))
              have hz7 := HB7.out.size
              have cB1 := BA6.out.at 1 rfl
              have cT0 := T6.out.at 0 rfl; have cT1 := T6.out.at 1 rfl; have cT2 := T6.out.at 2 rfl; have cT3 := T6.out.at 3 rfl
              have lb6 : b < w6.heap.size := by omega
              have hwj : IntKind.i64.wrap ((i : Int) + 2) = (i : Int) + 2 := IntWalk.i64_in _ (by omega)
              have hl0 : (0 : Int) ≤ (i : Int) + 2 := by omega
              have hl1 : (i : Int) + 2 ≤ (i : Int) + ((sN : Int) + 2) := by omega
              have hl2 : (i : Int) + ((sN : Int) + 2) ≤ (c : Int) := by omega
              have hl3 : ¬ (c : Int) < (i : Int) + ((sN : Int) + 2) := by omega
              have hl4 : ¬ (i : Int) + ((sN : Int) + 2) < (i : Int) + 2 := by omega
              have hl5 : ((i : Int) + 2).toNat = i + 2 := by omega
              have hl6 : ((i : Int) + ((sN : Int) + 2)).toNat = i + (sN + 2) := by omega
              have hl7 : i + (sN + 2) - (i + 2) = sN := by omega
              obtain ⟨ad, hif, hsrc⟩ : ∃ ad, (if c = i + 2 then some (⟨ab, ao, none⟩ : Addr) else some ⟨ab, ao + (i + 2), none⟩) = some ad ∧ Hid (Src w6 (some ad) sN (fun k => f (i + 2 + k))) := by
                by_cases hc2 : c = i + 2
                · exact ⟨_, by rw [if_pos hc2], Lib.hid (.inl (by omega))⟩
                · exact ⟨_, by rw [if_neg hc2], Lib.hid (src_sub SA6.out (by omega))⟩
              obtain ⟨j0, hj, hj0, hj1, hj2⟩ := info_parts Try.info111
              have hv4 : Hid (∀ k, Value.ownBlock u4 = some k → k < w6.heap.size) := Lib.hid (fun k hk => ownBlock_lt OW6.out hk)
              have hv5 : Hid (∀ k, Value.ownBlock u4 = some k → w.heap.size ≤ k) := Lib.hid (fun k hk => ownBlock_ge OW6.out hk)
              go_region_law (first | (go_simp; go_at_call 196; refine (l1Ints_all ad sN _ (fun k => f (i + 2 + k)) _ hsrc.out.drew (by omega)).mono ?_; rintro e w8 ⟨g, cap, rfl, hg1, hg2, hcl, hb, hca1, hca2⟩; have hg3 : w6.heap.size ≤ g := (by simpa using hg1); have HB8 := Lib.hid (thru0 (Below.refl w6.heap.size w6).drew hb); have z8 : w6.heap.size ≤ w8.heap.size := (by have := hb.size; simpa using this); have OW8 := Lib.hid (ownsRow_below OW6.out HB8.out); have HC8 := Lib.hid hcl; have T8 := Lib.hid (T6.out.below HB8.out); have dT0 := T8.out.at 0 rfl; have dT1 := T8.out.at 1 rfl; have dT2 := T8.out.at 2 rfl; have dT3 := T8.out.at 3 rfl; clear hb hcl hg1) | (refine step_append_lies _ rfl (.tmp 58) (.tmp 71) 98 rfl w.heap.size 111 j0 _ 6 64 Try.underlying98 hj hj0 hj1 hj2 rfl (by decide) u4 M.length (rowCells M) rfl (ownsRow_below OW8.out ((Below.refl _ _).alloc (Nat.le_refl _) _)) ⟨w8.heap.size, 0, none⟩ 1 1 [.int .i64 (i : Int), .int .i64 (sN : Int), .int .i64 (f i / 32 % 4096), .int .i64 (f i / 131072), .int .i64 (f (i + 1)), .slice (some ⟨g, 0, none⟩) sN cap] rfl rfl (fun j u hu => (by have := (Blk.new_at (w := w8) (cs := #[.int .i64 (i : Int), .int .i64 (sN : Int), .int .i64 (f i / 32 % 4096), .int .i64 (f i / 131072), .int .i64 (f (i + 1)), .slice (some ⟨g, 0, none⟩) sN cap]) (t := 111) (w8.heap.size) rfl).at j hu; rcases j with _ | j <;> simpa [Addr.add] using this)) (by intro u hu; simp only [List.mem_cons, List.mem_nil_iff, or_false] at hu; rcases hu with rfl | rfl | rfl | rfl | rfl | rfl <;> rfl) (by omega) (by unfold maxLen; omega) (by omega) (by simp; omega) (w8.heap.size + 1) (by simp) ?_; intro g2 cap2 w9 hown hgrow hat hlt9))
              all_goals have HB9 : Hid (Below w.heap.size w w9) := ((HB7.out.trans (HB8.out.mono hz7)).alloc (by omega) _).grown hgrow (by simp; omega) (fun k hk => hv5.out k hk)
              all_goals have z9 : w.heap.size + 1 ≤ w9.heap.size := by have := hgrow.size; simp at this; omega
              all_goals have heq : OM.cells ⟨objAt f i, g, cap⟩ = [.int .i64 (i : Int), .int .i64 (sN : Int), .int .i64 (f i / 32 % 4096), .int .i64 (f i / 131072), .int .i64 (f (i + 1)), .slice (some ⟨g, 0, none⟩) sN cap] := by simp [OM.cells, objAt, hS]
              all_goals have OW9 : Hid (w9.ownsRow w.heap.size 111 6 (.slice (some ⟨g2, 0, none⟩) (M.length + 1) cap2) (M ++ [(⟨objAt f i, g, cap⟩ : OM)]).length (rowCells (M ++ [(⟨objAt f i, g, cap⟩ : OM)]))) := Lib.hid (by have e : (M ++ [(⟨objAt f i, g, cap⟩ : OM)]).length = M.length + 1 := (by simp); rw [e, rowCells_snoc, heq]; exact hown)
              all_goals have FL9 : Hid (Flds w9 w.heap.size f (.slice (some ⟨g2, 0, none⟩) (M.length + 1) cap2) (M ++ [(⟨objAt f i, g, cap⟩ : OM)])) := Lib.hid (flds_append (objAt f i) g cap FL6.out (HB8.out.alloc HB8.out.size _) hgrow (by simpa using hat) hg3 (by simp; omega) hz7 hv4.out (fun k hk => by have hk' : k < sN := (by have : (objAt f i).s.toNat = sN := (by simp [objAt, hS]); omega); have hal := (Below.refl w8.heap.size w8).alloc (Nat.le_refl _) (.cells #[.int .i64 (i : Int), .int .i64 (sN : Int), .int .i64 (f i / 32 % 4096), .int .i64 (f i / 131072), .int .i64 (f (i + 1)), .slice (some ⟨g, 0, none⟩) sN cap] 111); exact ⟨(hal.cell (p := ⟨g, k, none⟩) hg2).trans (HC8.out k hk').1, (hal.frozen (p := ⟨g, k, none⟩) hg2).trans (HC8.out k hk').2⟩))
              all_goals have HPA9 : Hid (parse f (P + U) P = (parse f (P + U) (i + 2 + sN)).map ((M ++ [(⟨objAt f i, g, cap⟩ : OM)]).map OM.x ++ ·)) := Lib.hid (by have hg := parse_step HPA.out hlt ⟨by omega, hro, by rw [hsz]; omega⟩; rw [hsz] at hg; rw [List.map_append]; exact hg)
              all_goals clear hown hgrow hat HB8 OW8 HC8 T8 BA6 SA6 OW6 FL6 hsrc hv4 hv5 hif HPA FL_r OW_r
              all_goals go_wp2
              all_goals go_roundw
              all_goals first | exact ⟨i + 2 + sN, M ++ [⟨objAt f i, g, cap⟩], by omega, by congr 1; omega, HB9, z9, OW9, FL9, HPA9, by simp; omega⟩ | ((repeat apply Exists.intro); exact ⟨⟨i + 2 + sN, M ++ [⟨objAt f i, g, cap⟩], by omega, by congr 1; omega, HB9, z9, OW9, FL9, HPA9, by simp; omega⟩, rfl⟩) | (simp [intOf]; omega)
            · have hft : (P : Int) + (U : Int) < (i : Int) + ((sN : Int) + 2) := by omega
              have HPN : Hid (parse f (P + U) P = none) := Lib.hid (by rw [HPA.out, parse_bad hlt (fun hg => hfit (by have := hg.2.2; rw [hsz] at this; exact this))]; rfl)
              have HB7 := Lib.hid (HB_r.out.trans (HB6.out.mono hzr))
              go_wp2_with fail
              refine (l2Words_any _ (sN : Int) _ _ _ _ T6.out ⟨by omega, by omega⟩).mono ?_
              rintro e w' ⟨rfl, rfl⟩
              go_wp2
              exact bodyPost_ret (v := .tuple #[.slice none 0 0, .bool false]) (by simp [results, Try.results139, go_sem]) rfl ⟨HB7.out, .inl ⟨HPN.out, rfl⟩⟩
          · refine then_named (fun w6 => Hid (Below wr.heap.size wr w6) ∧ Hid (Blk w6 (wr.heap.size) [.int .i64 (f i / 2 % 16), .int .i64 (f i / 32 % 4096), .int .i64 (f i / 131072), .int .i64 (f (i + 1))])) ⟨((((HB5.out.setCell (by (try simp); (try omega)) _).setCell (by (try simp); (try omega)) _).setCell (by (try simp); (try omega)) _).setCell (by (try simp); (try omega)) _), ((((T5.out.set 0 (by simp) _).set 1 (by simp) _).set 2 (by simp) _).set 3 (by simp) _)⟩ (fun w6 hF => ?_)
            obtain ⟨HB6, T6⟩ := hF
            clear HB5 SA_5 BA_5 SA_d BA_d T5 lT cT0 fT0 cT1 fT1 cT2 fT2 cT3 fT3
            rw [hS] at T6
            have z6 := HB6.out.size
            have lT6 := T6.out.1
            by_cases hfit : i + 2 + sN ≤ P + U
            · have hft : ¬ (P : Int) + (U : Int) < (i : Int) + ((sN : Int) + 2) := by omega
              go_wp2_with fail
              refine (l2Words_any _ (sN : Int) _ _ _ _ T6.out ⟨by omega, by omega⟩).mono ?_
              rintro e w' ⟨rfl, rfl⟩
              go_wp2_with fail
              refine (l2Words_any _ (sN : Int) _ _ _ _ T6.out ⟨by omega, by omega⟩).mono ?_
              rintro e w' ⟨rfl, rfl⟩
              go_wp2_with fail
              have BA6 := Lib.hid (BA_r.out.below HB6.out)
              have SA6 := Lib.hid (SA_r.out.below HB6.out)
              have OW6 := Lib.hid (ownsRow_below OW_r.out HB6.out)
              have FL6 := Lib.hid (FL_r.out.below HB6.out)
              have HB7 := Lib.hid (HB_r.out.trans (HB6.out.mono hzr))
              have hz7 := HB7.out.size
              have cB1 := BA6.out.at 1 rfl
              have cT0 := T6.out.at 0 rfl; have cT1 := T6.out.at 1 rfl; have cT2 := T6.out.at 2 rfl; have cT3 := T6.out.at 3 rfl
              have lb6 : b < w6.heap.size := by omega
              have hwj : IntKind.i64.wrap ((i : Int) + 2) = (i : Int) + 2 := IntWalk.i64_in _ (by omega)
              have hl0 : (0 : Int) ≤ (i : Int) + 2 := by omega
              have hl1 : (i : Int) + 2 ≤ (i : Int) + ((sN : Int) + 2) := by omega
              have hl2 : (i : Int) + ((sN : Int) + 2) ≤ (c : Int) := by omega
              have hl3 : ¬ (c : Int) < (i : Int) + ((sN : Int) + 2) := by omega
              have hl4 : ¬ (i : Int) + ((sN : Int) + 2) < (i : Int) + 2 := by omega
              have hl5 : ((i : Int) + 2).toNat = i + 2 := by omega
              have hl6 : ((i : Int) + ((sN : Int) + 2)).toNat = i + (sN + 2) := by omega
              have hl7 : i + (sN + 2) - (i + 2) = sN := by omega
              obtain ⟨ad, hif, hsrc⟩ : ∃ ad, (if c = i + 2 then some (⟨ab, ao, none⟩ : Addr) else some ⟨ab, ao + (i + 2), none⟩) = some ad ∧ Hid (Src w6 (some ad) sN (fun k => f (i + 2 + k))) := by
                by_cases hc2 : c = i + 2
                · exact ⟨_, by rw [if_pos hc2], Lib.hid (.inl (by omega))⟩
                · exact ⟨_, by rw [if_neg hc2], Lib.hid (src_sub SA6.out (by omega))⟩
              obtain ⟨j0, hj, hj0, hj1, hj2⟩ := info_parts Try.info111
              have hv4 : Hid (∀ k, Value.ownBlock u4 = some k → k < w6.heap.size) := Lib.hid (fun k hk => ownBlock_lt OW6.out hk)
              have hv5 : Hid (∀ k, Value.ownBlock u4 = some k → w.heap.size ≤ k) := Lib.hid (fun k hk => ownBlock_ge OW6.out hk)
              go_region_law (first | (go_simp; go_at_call 196; refine (l1Ints_all ad sN _ (fun k => f (i + 2 + k)) _ hsrc.out.drew (by omega)).mono ?_; rintro e w8 ⟨g, cap, rfl, hg1, hg2, hcl, hb, hca1, hca2⟩; have hg3 : w6.heap.size ≤ g := (by simpa using hg1); have HB8 := Lib.hid (thru0 (Below.refl w6.heap.size w6).drew hb); have z8 : w6.heap.size ≤ w8.heap.size := (by have := hb.size; simpa using this); have OW8 := Lib.hid (ownsRow_below OW6.out HB8.out); have HC8 := Lib.hid hcl; have T8 := Lib.hid (T6.out.below HB8.out); have dT0 := T8.out.at 0 rfl; have dT1 := T8.out.at 1 rfl; have dT2 := T8.out.at 2 rfl; have dT3 := T8.out.at 3 rfl; clear hb hcl hg1) | (refine step_append_lies _ rfl (.tmp 58) (.tmp 71) 98 rfl w.heap.size 111 j0 _ 6 64 Try.underlying98 hj hj0 hj1 hj2 rfl (by decide) u4 M.length (rowCells M) rfl (ownsRow_below OW8.out ((Below.refl _ _).alloc (Nat.le_refl _) _)) ⟨w8.heap.size, 0, none⟩ 1 1 [.int .i64 (i : Int), .int .i64 (sN : Int), .int .i64 (f i / 32 % 4096), .int .i64 (f i / 131072), .int .i64 (f (i + 1)), .slice (some ⟨g, 0, none⟩) sN cap] rfl rfl (fun j u hu => (by have := (Blk.new_at (w := w8) (cs := #[.int .i64 (i : Int), .int .i64 (sN : Int), .int .i64 (f i / 32 % 4096), .int .i64 (f i / 131072), .int .i64 (f (i + 1)), .slice (some ⟨g, 0, none⟩) sN cap]) (t := 111) (w8.heap.size) rfl).at j hu; rcases j with _ | j <;> simpa [Addr.add] using this)) (by intro u hu; simp only [List.mem_cons, List.mem_nil_iff, or_false] at hu; rcases hu with rfl | rfl | rfl | rfl | rfl | rfl <;> rfl) (by omega) (by unfold maxLen; omega) (by omega) (by simp; omega) (w8.heap.size + 1) (by simp) ?_; intro g2 cap2 w9 hown hgrow hat hlt9))
              all_goals have HB9 : Hid (Below w.heap.size w w9) := ((HB7.out.trans (HB8.out.mono hz7)).alloc (by omega) _).grown hgrow (by simp; omega) (fun k hk => hv5.out k hk)
              all_goals have z9 : w.heap.size + 1 ≤ w9.heap.size := by have := hgrow.size; simp at this; omega
              all_goals have heq : OM.cells ⟨objAt f i, g, cap⟩ = [.int .i64 (i : Int), .int .i64 (sN : Int), .int .i64 (f i / 32 % 4096), .int .i64 (f i / 131072), .int .i64 (f (i + 1)), .slice (some ⟨g, 0, none⟩) sN cap] := by simp [OM.cells, objAt, hS]
              all_goals have OW9 : Hid (w9.ownsRow w.heap.size 111 6 (.slice (some ⟨g2, 0, none⟩) (M.length + 1) cap2) (M ++ [(⟨objAt f i, g, cap⟩ : OM)]).length (rowCells (M ++ [(⟨objAt f i, g, cap⟩ : OM)]))) := Lib.hid (by have e : (M ++ [(⟨objAt f i, g, cap⟩ : OM)]).length = M.length + 1 := (by simp); rw [e, rowCells_snoc, heq]; exact hown)
              all_goals have FL9 : Hid (Flds w9 w.heap.size f (.slice (some ⟨g2, 0, none⟩) (M.length + 1) cap2) (M ++ [(⟨objAt f i, g, cap⟩ : OM)])) := Lib.hid (flds_append (objAt f i) g cap FL6.out (HB8.out.alloc HB8.out.size _) hgrow (by simpa using hat) hg3 (by simp; omega) hz7 hv4.out (fun k hk => by have hk' : k < sN := (by have : (objAt f i).s.toNat = sN := (by simp [objAt, hS]); omega); have hal := (Below.refl w8.heap.size w8).alloc (Nat.le_refl _) (.cells #[.int .i64 (i : Int), .int .i64 (sN : Int), .int .i64 (f i / 32 % 4096), .int .i64 (f i / 131072), .int .i64 (f (i + 1)), .slice (some ⟨g, 0, none⟩) sN cap] 111); exact ⟨(hal.cell (p := ⟨g, k, none⟩) hg2).trans (HC8.out k hk').1, (hal.frozen (p := ⟨g, k, none⟩) hg2).trans (HC8.out k hk').2⟩))
              all_goals have HPA9 : Hid (parse f (P + U) P = (parse f (P + U) (i + 2 + sN)).map ((M ++ [(⟨objAt f i, g, cap⟩ : OM)]).map OM.x ++ ·)) := Lib.hid (by have hg := parse_step HPA.out hlt ⟨by omega, hro, by rw [hsz]; omega⟩; rw [hsz] at hg; rw [List.map_append]; exact hg)
              all_goals clear hown hgrow hat HB8 OW8 HC8 T8 BA6 SA6 OW6 FL6 hsrc hv4 hv5 hif HPA FL_r OW_r
              all_goals go_wp2
              all_goals go_roundw
              all_goals first | exact ⟨i + 2 + sN, M ++ [⟨objAt f i, g, cap⟩], by omega, by congr 1; omega, HB9, z9, OW9, FL9, HPA9, by simp; omega⟩ | ((repeat apply Exists.intro); exact ⟨⟨i + 2 + sN, M ++ [⟨objAt f i, g, cap⟩], by omega, by congr 1; omega, HB9, z9, OW9, FL9, HPA9, by simp; omega⟩, rfl⟩) | (simp [intOf]; omega)
            · have hft : (P : Int) + (U : Int) < (i : Int) + ((sN : Int) + 2) := by omega
              have HPN : Hid (parse f (P + U) P = none) := Lib.hid (by rw [HPA.out, parse_bad hlt (fun hg => hfit (by have := hg.2.2; rw [hsz] at this; exact this))]; rfl)
              have HB7 := Lib.hid (HB_r.out.trans (HB6.out.mono hzr))
              go_wp2_with fail
              refine (l2Words_any _ (sN : Int) _ _ _ _ T6.out ⟨by omega, by omega⟩).mono ?_
              rintro e w' ⟨rfl, rfl⟩
              go_wp2
              exact bodyPost_ret (v := .tuple #[.slice none 0 0, .bool false]) (by simp [results, Try.results139, go_sem]) rfl ⟨HB7.out, .inl ⟨HPN.out, rfl⟩⟩
        · have HRO := Lib.hid hro
          have hpn0 : Hid (parse f (P + U) P = none) := Lib.hid (by rw [HPA.out, parse_bad hlt (fun hg => hro hg.2.1)]; rfl)
          go_region_held3 (fun w' => w'.cell? ⟨b, 1, none⟩ = some (.slice (some ⟨ab, ao, none⟩) n c) ∧ w'.cell? ⟨ab, ao + i, none⟩ = some (.int .i64 (f i)) ∧ w'.cell? ⟨ab, ao + (i + 1), none⟩ = some (.int .i64 (f (i + 1))))
            (first | (with_reducible exact ⟨(BA_r.out).at 1 rfl, src_w0 (SA_r.out) i (by omega), src_w1 (SA_r.out) i (by omega)⟩) | (with_reducible exact ⟨(BA_d.out).at 1 rfl, src_w0 (SA_d.out) i (by omega), src_w1 (SA_d.out) i (by omega)⟩) | (with_reducible exact ⟨((BA_r.out.alloc _).drew).at 1 rfl, src_w0 ((SA_r.out.alloc _).drew) i (by omega), src_w1 ((SA_r.out.alloc _).drew) i (by omega)⟩) | (with_reducible exact ⟨(BA_5.out).at 1 rfl, src_w0 (SA_5.out) i (by omega), src_w1 (SA_5.out) i (by omega)⟩) | (with_reducible exact ⟨(BA_5.out.alloc _).at 1 rfl, src_w0 (SA_5.out.alloc _) i (by omega), src_w1 (SA_5.out.alloc _) i (by omega)⟩) | (exact ⟨(((((BA_5.out.other (by (try simp); (try omega)) _).other (by (try simp); (try omega)) _).other (by (try simp); (try omega)) _).other (by (try simp); (try omega)) _)).at 1 rfl, src_w0 (src_other (src_other (src_other (src_other SA_5.out (by (try simp); (try omega)) _) (by (try simp); (try omega)) _) (by (try simp); (try omega)) _) (by (try simp); (try omega)) _) i (by omega), src_w1 (src_other (src_other (src_other (src_other SA_5.out (by (try simp); (try omega)) _) (by (try simp); (try omega)) _) (by (try simp); (try omega)) _) (by (try simp); (try omega)) _) i (by omega)⟩))
            (first | (go_at_call 194; refine (l2Read_no (f i) (f (i + 1)) _ HFi.out HRO.out).mono ?_; rintro e w5 ⟨s1, m1, o1, h5, rfl, hb, hv⟩; clear hv; have HB5 := Lib.hid (thru0 (below_ext (Below.refl wr.heap.size wr).drew (by first | exact .inl rfl | exact ext_drew _ _ | exact .inr ⟨_, rfl⟩)) hb); have SA_5 := Lib.hid ((SA_d.out.ext (by first | exact .inl rfl | exact ext_drew _ _ | exact .inr ⟨_, rfl⟩)).below hb); have BA_5 := Lib.hid ((BA_d.out.ext (by first | exact .inl rfl | exact ext_drew _ _ | exact .inr ⟨_, rfl⟩)).below hb); have z5 : wr.heap.size ≤ w5.heap.size := (by have := hb.size; simp at this; omega); (first | (have T5 := Lib.hid ((Blk.new_at (w := wr) (cs := #[.int .i64 0, .int .i64 0, .int .i64 0, .int .i64 0]) (t := 109) (wr.heap.size) rfl).drew.below hb)) | skip); clear hb; (first | (have lT := T5.out.1; have cT0 := T5.out.at 0 rfl; have fT0 := T5.out.free 0 rfl; have cT1 := T5.out.at 1 rfl; have fT1 := T5.out.free 1 rfl; have cT2 := T5.out.at 2 rfl; have fT2 := T5.out.free 2 rfl; have cT3 := T5.out.at 3 rfl; have fT3 := T5.out.free 3 rfl) | skip)))
          · refine then_named (fun w6 => Hid (Below wr.heap.size wr w6) ∧ Hid (Blk w6 (w5.heap.size) [.int .i64 s1, .int .i64 m1, .int .i64 o1, .int .i64 h5])) ⟨HB5.out.alloc HB5.out.size _, Blk.new_at _ rfl⟩ (fun w6 hF => ?_)
            obtain ⟨HB6, T6⟩ := hF
            clear HB5 SA_5 BA_5 SA_d BA_d
            have hpn := hpn0.out
            have HB7 := Lib.hid (HB_r.out.trans (HB6.out.mono hzr))
            have HPN := Lib.hid hpn
            clear hpn
            go_wp2
            exact bodyPost_ret (v := .tuple #[.slice none 0 0, .bool false]) (by simp [results, Try.results139, go_sem]) rfl ⟨HB7.out, .inl ⟨HPN.out, rfl⟩⟩
          · refine then_named (fun w6 => Hid (Below wr.heap.size wr w6) ∧ Hid (Blk w6 (wr.heap.size) [.int .i64 s1, .int .i64 m1, .int .i64 o1, .int .i64 h5])) ⟨((((HB5.out.setCell (by (try simp); (try omega)) _).setCell (by (try simp); (try omega)) _).setCell (by (try simp); (try omega)) _).setCell (by (try simp); (try omega)) _), ((((T5.out.set 0 (by simp) _).set 1 (by simp) _).set 2 (by simp) _).set 3 (by simp) _)⟩ (fun w6 hF => ?_)
            obtain ⟨HB6, T6⟩ := hF
            clear HB5 SA_5 BA_5 SA_d BA_d T5 lT cT0 fT0 cT1 fT1 cT2 fT2 cT3 fT3
            have hpn := hpn0.out
            have HB7 := Lib.hid (HB_r.out.trans (HB6.out.mono hzr))
            have HPN := Lib.hid hpn
            clear hpn
            go_wp2
            exact bodyPost_ret (v := .tuple #[.slice none 0 0, .bool false]) (by simp [results, Try.results139, go_sem]) rfl ⟨HB7.out, .inl ⟨HPN.out, rfl⟩⟩
      · have h2e' : ((P + U : Nat) : Int) < (i : Int) + 2 := by omega
        have hpn : Hid (parse f (P + U) P = none) := Lib.hid (by rw [HPA.out, parse_bad hlt (fun hg => h2e (by have := hg.1; omega))]; rfl)
        go_wp2
        exact bodyPost_ret (v := .tuple #[.slice none 0 0, .bool false]) (by simp [results, Try.results139, go_sem]) rfl ⟨HB_r.out, .inl ⟨hpn.out, rfl⟩⟩
    · have hlt' : ¬ (i : Int) < ((P + U : Nat) : Int) := by omega
      have hpn : Hid (parse f (P + U) P = some (M.map OM.x)) := Lib.hid (by rw [HPA.out, parse_stop hlt]; simp)
      go_wp2
      exact bodyPost_ret (v := .tuple #[u4, .bool true]) (by simp [results, Try.results139, go_sem]) rfl ⟨HB_r.out, .inr ⟨_, M, hpn.out, rfl, OW_r.out, FL_r.out⟩⟩
end Go.Proofs.Ytbhjmomphajnnaa

namespace Go.Proofs.Ytbhjmomphajnnaa
open Go.RowKit
set_option linter.unusedVariables false

theorem rowCells_get : ∀ (M : List OM) (i : Nat) (t : OM), M[i]? = some t → ∀ j, j < 6 → (rowCells M)[i * 6 + j]? = t.cells[j]?
  | [], i, t, h, j, hj => by simp at h
  | u :: M, 0, t, h, j, hj => by
    simp only [List.getElem?_cons_zero, Option.some.injEq] at h
    subst h
    simp only [rowCells, List.flatMap_cons, Nat.zero_mul, Nat.zero_add]
    rw [List.getElem?_append_left (by simp [OM.cells]; omega)]
  | u :: M, i + 1, t, h, j, hj => by
    have ih := rowCells_get M i t (by simpa using h) j hj
    simp only [rowCells, List.flatMap_cons] at ih ⊢
    rw [List.getElem?_append_right (by simp [OM.cells]; omega)]
    have e : (i + 1) * 6 + j - u.cells.length = i * 6 + j := by simp [OM.cells]; omega
    rw [e]; exact ih

/-- What a row of objects holds at a place. -/
def ObAt (w : World) (gb i : Nat) (t : OM) : Prop := ∀ j u, t.cells[j]? = some u → w.cell? ⟨gb, i * 6 + j, none⟩ = some u

theorem row_form {w : World} {base : Nat} {v : Value} {M : List OM} (h : w.ownsRow base 111 6 v M.length (rowCells M)) (h0 : 0 < M.length) :
    ∃ gb cap, v = .slice (some ⟨gb, 0, none⟩) M.length cap ∧ base ≤ gb ∧ gb < w.heap.size ∧ ∀ i t, M[i]? = some t → ObAt w gb i t := by
  obtain ⟨gb, cap, rfl, hb, hlt⟩ := h.form h0
  refine ⟨gb, cap, rfl, hb, hlt, fun i t ht j u hu => ?_⟩
  have hi : i < M.length := (List.getElem?_eq_some_iff.mp ht).1
  have hj : j < 6 := by
    have := (List.getElem?_eq_some_iff.mp hu).1
    simpa [OM.cells] using this
  have hc := h.cellAt (i * 6 + j) (by omega)
  rw [rowCells_get M i t ht j hj, hu] at hc
  simpa using hc

theorem row_nil {w : World} {base : Nat} {v : Value} {M : List OM} (h : w.ownsRow base 111 6 v M.length (rowCells M)) : ∃ a cap, v = .slice a M.length cap := by
  rcases h.2 with ⟨h1, h2⟩ | ⟨g, cap, cur, h1, _⟩
  · exact ⟨none, 0, by rw [h1, h2]⟩
  · exact ⟨_, cap, h1⟩

/-- The fields of an object in memory. -/
theorem Flds.src {w : World} {lo : Nat} {f : Nat → Int} {v : Value} {M : List OM} (h : Flds w lo f v M) {t : OM} (ht : t ∈ M) : Src w (some ⟨t.g, 0, none⟩) t.x.s.toNat (fun k => f (t.x.at_.toNat + 2 + k)) := by
  obtain ⟨_, a2, _, a4⟩ := h.1 t ht
  exact .inr ⟨t.g, 0, rfl, a2, fun k hk => by rw [Nat.zero_add]; exact (a4 k hk).1⟩

theorem ObAt.below {w w' : World} {gb i : Nat} {t : OM} (h : ObAt w gb i t) (hb : Below w.heap.size w w') (hg : gb < w.heap.size) : ObAt w' gb i t := fun j u hu => (hb.cell (p := ⟨gb, i * 6 + j, none⟩) hg).trans (h j u hu)

/-- The six cells of an object, written out. -/
def Six (w : World) (gb o : Nat) (x : Ob) (g c : Nat) : Prop := w.cell? ⟨gb, o, none⟩ = some (.int .i64 x.at_) ∧ w.cell? ⟨gb, o + 1, none⟩ = some (.int .i64 x.s) ∧ w.cell? ⟨gb, o + 2, none⟩ = some (.int .i64 x.m) ∧ w.cell? ⟨gb, o + 3, none⟩ = some (.int .i64 x.o) ∧ w.cell? ⟨gb, o + 4, none⟩ = some (.int .i64 x.h) ∧ w.cell? ⟨gb, o + 5, none⟩ = some (.slice (some ⟨g, 0, none⟩) x.s.toNat c)

theorem ObAt.six {w : World} {gb i : Nat} {t : OM} (h : ObAt w gb i t) : Six w gb (i * 6) t.x t.g t.c :=
  ⟨h 0 _ rfl, h 1 _ rfl, h 2 _ rfl, h 3 _ rfl, h 4 _ rfl, h 5 _ rfl⟩

theorem Six.below {w w' : World} {gb o : Nat} {x : Ob} {g c : Nat} (h : Six w gb o x g c) (hb : Below w.heap.size w w') (hg : gb < w.heap.size) : Six w' gb o x g c :=
  ⟨(hb.cell (p := ⟨gb, o, none⟩) hg).trans h.1, (hb.cell (p := ⟨gb, o + 1, none⟩) hg).trans h.2.1, (hb.cell (p := ⟨gb, o + 2, none⟩) hg).trans h.2.2.1, (hb.cell (p := ⟨gb, o + 3, none⟩) hg).trans h.2.2.2.1, (hb.cell (p := ⟨gb, o + 4, none⟩) hg).trans h.2.2.2.2.1, (hb.cell (p := ⟨gb, o + 5, none⟩) hg).trans h.2.2.2.2.2⟩
end Go.Proofs.Ytbhjmomphajnnaa

namespace Go.Proofs.Ytbhjmomphajnnaa
open Go.RowKit
set_option linter.unusedVariables false

/-- A code and objects come back, in memory of the call's own. -/
def RetOR (W : World) (f : Nat → Int) (co : Int) (L : List Ob) (e : Ending) (w' : World) : Prop :=
  ∃ v M, e = .returned (.agg #[.int .i64 co, v]) ∧ M.map OM.x = L ∧ w'.ownsRow W.heap.size 111 6 v M.length (rowCells M) ∧ Flds w' W.heap.size f v M ∧ Below W.heap.size W w'

/-- What ObjectsIn answers. -/
def IsOI (h : Int) (n : Nat) (f : Nat → Int) (ac bu co : Int) (L : List Ob) : Prop :=
  (∃ k, IsFault h n f ac bu k ∧ ¬ k = 0 ∧ co = k ∧ L = []) ∨
  (IsFault h n f ac bu 0 ∧ parse f ((baseI ac h).toNat + bu.toNat) (baseI ac h).toNat = none ∧ co = 1 ∧ L = []) ∨
  (IsFault h n f ac bu 0 ∧ parse f ((baseI ac h).toNat + bu.toNat) (baseI ac h).toNat = some L ∧ co = 0)

theorem isOI_some (h : Int) (n : Nat) (f : Nat → Int) (ac bu : Int) : ∃ co L, IsOI h n f ac bu co L := by
  obtain ⟨k, hk⟩ := isFault_some h n f ac bu
  by_cases h0 : k = 0
  · subst h0
    cases hp : parse f ((baseI ac h).toNat + bu.toNat) (baseI ac h).toNat with
    | none => exact ⟨1, [], .inr (.inl ⟨hk, hp, rfl, rfl⟩)⟩
    | some L => exact ⟨0, L, .inr (.inr ⟨hk, hp, rfl⟩)⟩
  · exact ⟨k, [], .inl ⟨k, hk, h0, rfl, rfl⟩⟩

theorem ownsRow_mono {w : World} {base base' e size n : Nat} {v : Value} {xs : List Value} (h : w.ownsRow base e size v n xs) (hb : base' ≤ base) : w.ownsRow base' e size v n xs := by
  refine ⟨h.1, ?_⟩
  rcases h.2 with h0 | ⟨g, cap, cur, h1, h2, h3⟩
  · exact .inl h0
  · exact .inr ⟨g, cap, cur, h1, by omega, h3⟩

theorem ownsRow_other {w : World} {base e size n : Nat} {v : Value} {xs : List Value} (h : w.ownsRow base e size v n xs) {p : Addr} (hp : p.block < base) (u : Value) : (w.setCell p u).ownsRow base e size v n xs := by
  refine ⟨h.1, ?_⟩
  rcases h.2 with h0 | ⟨g, cap, cur, h1, h2, h3, h4⟩
  · exact .inl h0
  · exact .inr ⟨g, cap, cur, h1, h2, (Below.heap_setCell w p u g (by omega)).trans h3, h4⟩

theorem Flds.mono {w : World} {lo lo' : Nat} {f : Nat → Int} {v : Value} {M : List OM} (h : Flds w lo f v M) (hl : lo' ≤ lo) : Flds w lo' f v M :=
  ⟨fun t ht => by obtain ⟨a1, a2⟩ := h.1 t ht; exact ⟨Nat.le_trans hl a1, a2⟩, h.2⟩

theorem Flds.other {w : World} {lo : Nat} {f : Nat → Int} {v : Value} {M : List OM} (h : Flds w lo f v M) {p : Addr} (hp : p.block < lo) (u : Value) : Flds (w.setCell p u) lo f v M :=
  ⟨fun t ht => by
    obtain ⟨a1, a2, a3, a4⟩ := h.1 t ht
    have e : (w.setCell p u).heap[t.g]? = w.heap[t.g]? := Below.heap_setCell w p u t.g (by omega)
    exact ⟨a1, by simpa using a2, a3, fun k hk => ⟨(World.cell?_of_block (w := w) (a := ⟨t.g, k, none⟩) e).trans (a4 k hk).1, (World.frozen?_of_block (w := w) (a := ⟨t.g, k, none⟩) e).trans (a4 k hk).2⟩⟩, h.2⟩

theorem flds_nil (w : World) (lo : Nat) (f : Nat → Int) (v : Value) : Flds w lo f v [] := ⟨fun t ht => (by cases ht), List.Pairwise.nil⟩

theorem retOR_err {W w' : World} {f : Nat → Int} {co : Int} (hb : Below W.heap.size W w') : RetOR W f co [] (.returned (.agg #[.int .i64 co, .slice none 0 0])) w' :=
  ⟨.slice none 0 0, [], rfl, rfl, ⟨rfl, .inl ⟨rfl, rfl⟩⟩, flds_nil _ _ _ _, hb⟩

/-- No object of an arena has more than twelve fields. -/
theorem parse_sizes {f : Nat → Int} {e : Nat} : ∀ (d a : Nat) (L : List Ob), e - a ≤ d → parse f e a = some L → ∀ x ∈ L, 0 ≤ x.s ∧ x.s ≤ 12
  | 0, a, L, hd, hp, x, hx => by
    rw [parse_stop (by omega)] at hp
    cases hp; cases hx
  | d + 1, a, L, hd, hp, x, hx => by
    by_cases h : a < e
    · by_cases hg : Good f e a
      · rw [parse_good h hg] at hp
        obtain ⟨L', hp', rfl⟩ := Option.map_eq_some_iff.mp hp
        rcases List.mem_cons.mp hx with rfl | hx
        · have := good_size hg; exact ⟨this.1, this.2.1⟩
        · exact parse_sizes d _ L' (by omega) hp' x hx
      · rw [parse_bad h hg] at hp; cases hp
    · rw [parse_stop h] at hp
      cases hp; cases hx

theorem parse_length {f : Nat → Int} {e : Nat} : ∀ (d a : Nat) (L : List Ob), e - a ≤ d → parse f e a = some L → L.length ≤ e - a
  | 0, a, L, hd, hp => by
    rw [parse_stop (by omega)] at hp
    cases hp; simp
  | d + 1, a, L, hd, hp => by
    by_cases h : a < e
    · by_cases hg : Good f e a
      · rw [parse_good h hg] at hp
        obtain ⟨L', hp', rfl⟩ := Option.map_eq_some_iff.mp hp
        have ih := parse_length d _ L' (by omega) hp'
        simp only [List.length_cons]; omega
      · rw [parse_bad h hg] at hp; cases hp
    · rw [parse_stop h] at hp
      cases hp; simp

set_option maxHeartbeats 800000 in
theorem specOI_fault (h ac bu : Int) (a : Option Addr) (n c : Nat) (f : Nat → Int) (k : Int) (w : World) (hs : Src w a n f) (hcn : n ≤ c) (hcm : c ≤ maxLen) (hk : IsFault h n f ac bu k) (h0 : ¬ k = 0) :
    Calls Try.prog 191 #[.agg #[.int .i64 h, .slice a n c, .int .i64 ac, .int .i64 bu]] w (RetOR w f k []) := by
  have hd : (k != 0) = true := by simpa using h0
  have HS := Lib.hid hs
  have HK := Lib.hid hk
  clear hs hk
  go_enter Try.func191, Try.ntmps191
  go_wp2_with fail
  refine (specFault_any _ _ _ _ _ _ f k _ ((HS.out.alloc _).alloc _) HK.out).mono ?_
  rintro e w1 ⟨rfl, hb⟩
  have HB1 : Hid (Below w.heap.size w w1) := thru2 (Below.refl _ _) hb
  have z1 : w.heap.size + 2 ≤ w1.heap.size := by have := hb.size; simp at this; omega
  have HS_1 := Lib.hid (((HS.out.alloc _).alloc _).below hb)
  have H_1 := Lib.hid (((Blk.new_at (w.heap.size) (by simp)).alloc _).below hb)
  have R_1 := Lib.hid ((Blk.new_at (w.heap.size + 1) (by simp)).below hb)
  clear hb HS
  have lR := R_1.out.1
  have cR0 := R_1.out.at 0 rfl
  have cR1 := R_1.out.at 1 rfl
  have fR0 := R_1.out.free 0 rfl
  have fR1 := R_1.out.free 1 rfl
  go_wp2
  have hz := HB1.out.size
  refine bodyPost_ret (v := .agg #[.int .i64 k, .slice none 0 0]) (by simp [results, Try.results191, go_sem, cR0, cR1]) rfl (retOR_err ?_)
  repeat (with_reducible refine Below.setCell ?_ (by (try simp); (try omega)) _)
  exact HB1.out

set_option maxHeartbeats 1600000 in
theorem specOI_none (h ac : Int) (P U : Nat) (ab ao n c : Nat) (f : Nat → Int) (L : List Ob) (w : World) (hs : Src w (some ⟨ab, ao, none⟩) n f) (hcn : n ≤ c) (hcm : c ≤ maxLen) (hk : IsFault h n f ac (U : Int) 0) (hP : baseI ac h = (P : Int)) (hp : parse f (P + U) P = none) :
    Calls Try.prog 191 #[.agg #[.int .i64 h, .slice (some ⟨ab, ao, none⟩) n c, .int .i64 ac, .int .i64 (U : Int)]] w (RetOR w f 1 []) := by
  obtain ⟨⟨⟨g1, g2⟩, ⟨g3, g4⟩, g5, g6⟩, gn, gw⟩ := isFault_ok hk
  have HWD : Hid (∀ i, i < n → f i ≤ 9223372036854775807) := Lib.hid (fun i hi => by have := gw i hi; unfold Word at this; omega)
  have hPU : P + U ≤ n := by rcases (by omega : ac = 0 ∨ ac = 1) with rfl | rfl <;> simp [baseI] at hP <;> omega
  have hn4 : n ≤ 400 := by omega
  clear gn gw
  have HS := Lib.hid hs
  have HK := Lib.hid hk
  have HPP := Lib.hid hp
  have HCM := Lib.hid hcm
  clear hs hk hp hcm
  go_enter Try.func191, Try.ntmps191
  go_wp2_with fail
  refine (specFault_any _ _ _ _ _ _ f 0 _ ((HS.out.alloc _).alloc _) HK.out).mono ?_
  rintro e w1 ⟨rfl, hb⟩
  have HB1 : Hid (Below w.heap.size w w1) := thru2 (Below.refl _ _) hb
  have z1 : w.heap.size + 2 ≤ w1.heap.size := by have := hb.size; simp at this; omega
  have HS_1 := Lib.hid (((HS.out.alloc _).alloc _).below hb)
  have H_1 := Lib.hid (((Blk.new_at (w.heap.size) (by simp)).alloc _).below hb)
  have R_1 := Lib.hid ((Blk.new_at (w.heap.size + 1) (by simp)).below hb)
  clear hb HS
  go_wp2_with fail
  refine (l3Objects_any (w.heap.size) P U h ac ab ao n c f _ H_1.out HS_1.out g1 g2 g3 g4 hP hPU hn4 hcn HCM.out HWD.out).mono ?_
  rintro e w2 ⟨hb, hr⟩
  rw [HPP.out] at hr
  have HB2 := Lib.hid (thru0 HB1.out hb)
  have R_2 := Lib.hid (R_1.out.below hb)
  have hz12 : w1.heap.size ≤ w2.heap.size := hb.size
  clear hb R_1 H_1 HS_1
  obtain ⟨_, rfl⟩ | ⟨v, M, hx, _⟩ := hr
  case inr => cases hx
  have cR0 := R_2.out.at 0 rfl; have cR1 := R_2.out.at 1 rfl; have fR0 := R_2.out.free 0 rfl; have fR1 := R_2.out.free 1 rfl; have lR := R_2.out.1
  go_wp2
  have hz := HB2.out.size
  refine bodyPost_ret (v := .agg #[.int .i64 1, .slice none 0 0]) (by simp [results, Try.results191, go_sem, cR0, cR1]) rfl (retOR_err ?_)
  repeat (with_reducible refine Below.setCell ?_ (by (try simp); (try omega)) _)
  exact HB2.out

set_option maxHeartbeats 1600000 in
theorem specOI_some (h ac : Int) (P U : Nat) (ab ao n c : Nat) (f : Nat → Int) (L : List Ob) (w : World) (hs : Src w (some ⟨ab, ao, none⟩) n f) (hcn : n ≤ c) (hcm : c ≤ maxLen) (hk : IsFault h n f ac (U : Int) 0) (hP : baseI ac h = (P : Int)) (hp : parse f (P + U) P = some L) :
    Calls Try.prog 191 #[.agg #[.int .i64 h, .slice (some ⟨ab, ao, none⟩) n c, .int .i64 ac, .int .i64 (U : Int)]] w (RetOR w f 0 L) := by
  obtain ⟨⟨⟨g1, g2⟩, ⟨g3, g4⟩, g5, g6⟩, gn, gw⟩ := isFault_ok hk
  have HWD : Hid (∀ i, i < n → f i ≤ 9223372036854775807) := Lib.hid (fun i hi => by have := gw i hi; unfold Word at this; omega)
  have hPU : P + U ≤ n := by rcases (by omega : ac = 0 ∨ ac = 1) with rfl | rfl <;> simp [baseI] at hP <;> omega
  have hn4 : n ≤ 400 := by omega
  clear gn gw
  have HS := Lib.hid hs
  have HK := Lib.hid hk
  have HPP := Lib.hid hp
  have HCM := Lib.hid hcm
  clear hs hk hp hcm
  go_enter Try.func191, Try.ntmps191
  go_wp2_with fail
  refine (specFault_any _ _ _ _ _ _ f 0 _ ((HS.out.alloc _).alloc _) HK.out).mono ?_
  rintro e w1 ⟨rfl, hb⟩
  have HB1 : Hid (Below w.heap.size w w1) := thru2 (Below.refl _ _) hb
  have z1 : w.heap.size + 2 ≤ w1.heap.size := by have := hb.size; simp at this; omega
  have HS_1 := Lib.hid (((HS.out.alloc _).alloc _).below hb)
  have H_1 := Lib.hid (((Blk.new_at (w.heap.size) (by simp)).alloc _).below hb)
  have R_1 := Lib.hid ((Blk.new_at (w.heap.size + 1) (by simp)).below hb)
  clear hb HS
  go_wp2_with fail
  refine (l3Objects_any (w.heap.size) P U h ac ab ao n c f _ H_1.out HS_1.out g1 g2 g3 g4 hP hPU hn4 hcn HCM.out HWD.out).mono ?_
  rintro e w2 ⟨hb, hr⟩
  rw [HPP.out] at hr
  have HB2 := Lib.hid (thru0 HB1.out hb)
  have R_2 := Lib.hid (R_1.out.below hb)
  have hz12 : w1.heap.size ≤ w2.heap.size := hb.size
  clear hb R_1 H_1 HS_1
  obtain ⟨hx, _⟩ | ⟨v, M, hx, rfl, hown, hfl⟩ := hr
  case inl => cases hx
  simp only [Option.some.injEq] at hx
  subst hx
  have OW2 := Lib.hid hown
  have FL2 := Lib.hid hfl
  clear hown hfl HPP
  obtain ⟨av, kv, hv⟩ := row_nil OW2.out
  have HV := Lib.hid hv
  clear hv
  have cR0 := R_2.out.at 0 rfl; have cR1 := R_2.out.at 1 rfl; have fR0 := R_2.out.free 0 rfl; have fR1 := R_2.out.free 1 rfl; have lR := R_2.out.1
  have hz := HB2.out.size
  have hv0 := HV.out
  generalize hm : M.length = mm at hv0
  subst hv0
  go_wp2
  refine bodyPost_ret (v := .agg #[.int .i64 0, .slice av mm kv]) (by simp [results, Try.results191, go_sem, cR0, cR1]) rfl ⟨.slice av mm kv, M, rfl, rfl, ?_, ?_, ?_⟩
  · refine ownsRow_mono (base := w1.heap.size) ?_ (by omega)
    repeat (with_reducible refine ownsRow_other ?_ (by (try simp); (try omega)) _)
    exact OW2.out
  · refine Flds.mono (lo := w1.heap.size) ?_ (by omega)
    repeat (with_reducible refine Flds.other ?_ (by (try simp); (try omega)) _)
    exact FL2.out
  · repeat (with_reducible refine Below.setCell ?_ (by (try simp); (try omega)) _)
    exact HB2.out

theorem specOI_any (h ac bu : Int) (a : Option Addr) (n c : Nat) (f : Nat → Int) (co : Int) (L : List Ob) (w : World) (hs : Src w a n f) (hcn : n ≤ c) (hcm : c ≤ maxLen) (hk : IsOI h n f ac bu co L) : Calls Try.prog 191 #[.agg #[.int .i64 h, .slice a n c, .int .i64 ac, .int .i64 bu]] w (RetOR w f co L) := by
  rcases hk with ⟨k, h1, h2, rfl, rfl⟩ | ⟨h1, h2, rfl, rfl⟩ | ⟨h1, h2, rfl⟩
  · exact specOI_fault h ac bu a n c f co w hs hcn hcm h1 h2
  · obtain ⟨⟨⟨g1, g2⟩, ⟨g3, g4⟩, g5, g6⟩, gn, gw⟩ := isFault_ok h1
    have hb := baseI_bd (ac := ac) g1
    obtain ⟨P, hP⟩ : ∃ P : Nat, baseI ac h = (P : Int) := ⟨(baseI ac h).toNat, by omega⟩
    obtain ⟨U, rfl⟩ : ∃ U : Nat, bu = (U : Int) := ⟨bu.toNat, by omega⟩
    obtain ⟨ab, ao, rfl, hab, hac⟩ := src_some hs (by omega)
    rw [hP, Int.toNat_natCast, Int.toNat_natCast] at h2
    exact specOI_none h ac P U ab ao n c f [] w hs hcn hcm h1 hP h2
  · obtain ⟨⟨⟨g1, g2⟩, ⟨g3, g4⟩, g5, g6⟩, gn, gw⟩ := isFault_ok h1
    have hb := baseI_bd (ac := ac) g1
    obtain ⟨P, hP⟩ : ∃ P : Nat, baseI ac h = (P : Int) := ⟨(baseI ac h).toNat, by omega⟩
    obtain ⟨U, rfl⟩ : ∃ U : Nat, bu = (U : Int) := ⟨bu.toNat, by omega⟩
    obtain ⟨ab, ao, rfl, hab, hac⟩ := src_some hs (by omega)
    rw [hP, Int.toNat_natCast, Int.toNat_natCast] at h2
    exact specOI_some h ac P U ab ao n c f L w hs hcn hcm h1 hP h2
end Go.Proofs.Ytbhjmomphajnnaa

namespace Go.Proofs.Ytbhjmomphajnnaa
open Go.RowKit
set_option linter.unusedVariables false

/-- The object at a place. -/
def findO (L : List Ob) (a : Int) : Option Ob := L.find? (fun x => x.at_ == a)

theorem findO_drop {L : List Ob} {a : Int} {i : Nat} {x : Ob} (hx : L[i]? = some x) : findO (L.drop i) a = if x.at_ == a then some x else findO (L.drop (i + 1)) a := by
  obtain ⟨hi, he⟩ := List.getElem?_eq_some_iff.mp hx
  rw [List.drop_eq_getElem_cons hi, he, findO, List.find?_cons]
  split <;> simp_all [findO]

/-- A pointer of an owner leads to an object of its own, or nowhere. -/
def leadsB (L : List Ob) (owner value : Int) : Bool := if value = 0 then true else match findO L (value - 1) with | some x => x.o == owner | none => false

def RetFind (W : World) (L : List Ob) (a : Int) (e : Ending) (w' : World) : Prop :=
  W = w' ∧ ((findO L a = none ∧ e = .returned (.int .i64 (-1))) ∨ ∃ (i : Nat) (x : Ob), findO L a = some x ∧ L[i]? = some x ∧ e = .returned (.int .i64 (i : Int)))

set_option maxRecDepth 100000 in
set_option maxHeartbeats 800000 in
theorem l3Find_any (v : Value) (M : List OM) (base : Nat) (a : Int) (w : World) (h : w.ownsRow base 111 6 v M.length (rowCells M)) (hl : M.length ≤ 400) :
    Calls Try.prog 72 #[v, .int .i64 a] w (RetFind w (M.map OM.x) a) := by
  have H := Lib.hid h
  obtain ⟨a1, k1, rfl⟩ := row_nil h
  clear h
  go_enter Try.func72, Try.ntmps72
  go_wp2
  go_loop [5] (fun p => ∃ i : Nat, i ≤ M.length ∧ p = .int .i64 (i : Int) ∧ Hid (findO (M.map OM.x) a = findO ((M.map OM.x).drop i) a)) (fun p => M.length - (intOf p).toNat)
  case atStart => exact ⟨0, Nat.zero_le _, rfl, Lib.hid (by simp)⟩
  case round =>
    obtain ⟨i, hi, rfl, HD⟩ := hrel
    by_cases hlt : i < M.length
    · have hlt' : (i : Int) < (M.length : Int) := by omega
      have hi0 : (0 : Int) ≤ (i : Int) := by omega
      obtain ⟨g1, c1, e1, _, l1, o1⟩ := row_form H.out (by omega)
      simp only [Value.slice.injEq] at e1
      obtain ⟨rfl, -, rfl⟩ := e1
      have ht := (o1 i M[i] (List.getElem?_eq_getElem hlt)).six
      have hx : (M.map OM.x)[i]? = some M[i].x := by simp [hlt]
      have hd := findO_drop (a := a) hx
      generalize M[i] = t at *
      have x0 := ht.1
      have HT := Lib.hid ht; have HX := Lib.hid hx; have HDD := Lib.hid hd
      clear o1 ht hx hd
      by_cases hat : t.x.at_ = a
      · have hb : (t.x.at_ == a) = true := by simpa using hat
        go_wp2
        go_ret
        exact ⟨rfl, .inr ⟨i, t.x, by rw [HD.out, HDD.out, if_pos hb], HX.out, rfl⟩⟩
      · have hb : (t.x.at_ == a) = false := by simpa using hat
        go_wp2
        go_round
        case rel => exact ⟨i + 1, by omega, by go_num, Lib.hid (by rw [HD.out, HDD.out, hb]; rfl)⟩
        case measure => simp [intOf]; omega
    · have hlt' : ¬ (i : Int) < (M.length : Int) := by omega
      go_wp2
      go_ret
      exact ⟨rfl, .inl ⟨by rw [HD.out, List.drop_eq_nil_of_le (by simp; omega)]; rfl, rfl⟩⟩

set_option maxRecDepth 100000 in
set_option maxHeartbeats 800000 in
theorem l3Leads_any (v : Value) (M : List OM) (base : Nat) (owner value : Int) (w : World) (h : w.ownsRow base 111 6 v M.length (rowCells M)) (hl : M.length ≤ 400) (hv : -1000000000 ≤ value ∧ value ≤ 1000000000) :
    Calls Try.prog 227 #[v, .int .i64 owner, .int .i64 value] w fun e w' => e = .returned (.bool (leadsB (M.map OM.x) owner value)) ∧ w = w' := by
  have H := Lib.hid h
  obtain ⟨hv1, hv2⟩ := hv
  obtain ⟨a1, k1, rfl⟩ := row_nil h
  clear h
  by_cases h0 : value = 0
  · have hb : (value == 0) = true := by simpa using h0
    have hr : leadsB (M.map OM.x) owner value = true := by simp [leadsB, h0]
    have HR := Lib.hid hr
    clear hr
    go_enter Try.func227, Try.ntmps227
    go_wp2
    go_ret
    exact ⟨by rw [HR.out]; rfl, rfl⟩
  · have hb : (value == 0) = false := by simpa using h0
    go_enter Try.func227, Try.ntmps227
    go_wp2_with fail
    refine (l3Find_any _ M base (value - 1) _ H.out hl).mono ?_
    rintro e w' ⟨rfl, hf⟩
    rcases hf with ⟨hf, rfl⟩ | ⟨i, x, hf, hx, rfl⟩
    · have hr : leadsB (M.map OM.x) owner value = false := by simp [leadsB, h0, hf]
      have HR := Lib.hid hr
      clear hr hf
      go_wp2
      go_ret
      exact ⟨by rw [HR.out]; rfl, rfl⟩
    · have hr : leadsB (M.map OM.x) owner value = (x.o == owner) := by simp [leadsB, h0, hf]
      have HR := Lib.hid hr
      have hlt : i < M.length := by have := (List.getElem?_eq_some_iff.mp hx).1; simpa using this
      have hlt' : (i : Int) < (M.length : Int) := by omega
      have hi0 : (0 : Int) ≤ (i : Int) := by omega
      obtain ⟨g1, c1, e1, _, l1, o1⟩ := row_form H.out (by omega)
      simp only [Value.slice.injEq] at e1
      obtain ⟨rfl, -, rfl⟩ := e1
      have ht := (o1 i M[i] (List.getElem?_eq_getElem hlt)).six
      have hx' : M[i].x = x := by simpa [hlt] using hx
      rw [hx'] at ht
      have x3 := ht.2.2.2.1
      clear hr hf hx hx' ht o1
      go_wp2
      go_ret
      exact ⟨by rw [HR.out]; rfl, rfl⟩
end Go.Proofs.Ytbhjmomphajnnaa

namespace Go.Proofs.Ytbhjmomphajnnaa
open Go.RowKit
set_option linter.unusedVariables false

/-- All pointers lead where they may. -/
def Points (f : Nat → Int) (L : List Ob) : Prop := ∀ x ∈ L, ∀ k : Nat, (k : Int) < x.s → x.m / P2 k % 2 = 1 → leadsB L x.o (f (x.at_.toNat + 2 + k)) = true

/-- What is not taken is nothing. -/
def Rest (f : Nat → Int) (n P U : Nat) : Prop := ∀ i, i < n → ¬ (P ≤ i ∧ i < P + U) → f i = 0

def IsShape (f : Nat → Int) (n P U : Nat) (L : List Ob) (r : Bool) : Prop := (Points f L ∧ Rest f n P U ∧ r = true) ∨ (¬ (Points f L ∧ Rest f n P U) ∧ r = false)

set_option maxHeartbeats 800000 in
theorem l2Pointer_at (b off I : Nat) (m : Int) (r : Bool) (w : World) (c1 : w.cell? ⟨b, off + 1, none⟩ = some (.int .i64 m)) (hm : 0 ≤ m ∧ m ≤ 4095) (hI : I ≤ 12) (hr : r = (m / P2 I % 2 == 1)) :
    Calls Try.prog 143 #[.pointer (some ⟨b, off, none⟩), .int .i64 (I : Int)] w fun e w' => e = .returned (.bool r) ∧ ∃ q, w' = w.drewN q := by
  subst hr
  obtain ⟨m1, m2⟩ := hm
  have p1 := P2_pos (I : Int)
  have p2 := P2_le (s := (I : Int)) (by omega)
  have hne : ¬ P2 (I : Int) = 0 := by omega
  have hq : m.tdiv (P2 I) = m / P2 I := Int.tdiv_eq_ediv_of_nonneg m1
  have g1 : 0 ≤ m / P2 I := Int.ediv_nonneg m1 (by omega)
  have g2 : m / P2 I ≤ m := Int.ediv_le_self _ m1
  have hr : (m / P2 I).tmod 2 = m / P2 I % 2 := Int.tmod_eq_emod_of_nonneg g1
  go_enter Try.func143, Try.ntmps143
  go_wp2
  go_quiet (with_reducible exact Calls.quiet_of_same (Calls.mono (power_any I _ hI) fun _ _ hh => ⟨hh.1, hh.2.symm⟩))
  go_wp2
  go_ret
  exact ⟨rfl, _, rfl⟩

theorem drewN_below (w : World) (q : Nat) : Below w.heap.size w (w.drewN q) := below_drewN (Below.refl _ _) q

set_option maxRecDepth 100000 in
set_option maxHeartbeats 3200000 in
theorem l3Shape_any (b P U : Nat) (h ac : Int) (ab ao n c : Nat) (f : Nat → Int) (v : Value) (M : List OM) (base lo : Nat) (r : Bool) (w : World) (hB : Blk w b [.int .i64 h, .slice (some ⟨ab, ao, none⟩) n c, .int .i64 ac, .int .i64 (U : Int)]) (hs : Src w (some ⟨ab, ao, none⟩) n f) (h1 : 8 ≤ h) (h2 : h ≤ 200) (h3 : 0 ≤ ac) (h4 : ac ≤ 1) (hP : baseI ac h = (P : Int)) (hn : (n : Int) = 2 * h) (hU : P + U ≤ n)
    (how : w.ownsRow base 111 6 v M.length (rowCells M)) (hfl : Flds w lo f v M) (hl : M.length ≤ 400) (hok : ∀ t ∈ M, (0 ≤ t.x.s ∧ t.x.s ≤ 12) ∧ (0 ≤ t.x.m ∧ t.x.m ≤ 4095) ∧ ∀ k, k < t.x.s.toNat → -1000000000 ≤ f (t.x.at_.toNat + 2 + k) ∧ f (t.x.at_.toNat + 2 + k) ≤ 1000000000) (hr : IsShape f n P U (M.map OM.x) r) :
    Calls Try.prog 192 #[.pointer (some ⟨b, 0, none⟩), v] w (RetBool w r) := by
  have H := Lib.hid how; have FL := Lib.hid hfl; have HOK := Lib.hid hok; have HR := Lib.hid hr; have HB0 := Lib.hid hB; have HS0 := Lib.hid hs; have HN := Lib.hid hn
  have lb := hB.1
  obtain ⟨a1, k1, rfl⟩ := row_nil how
  clear how hfl hok hr hB hs hn
  go_enter Try.func192, Try.ntmps192
  go_wp2
  go_loopw [5] (fun p wr => ∃ i : Nat, i ≤ M.length ∧ p = .int .i64 (i : Int) ∧ Hid (Below w.heap.size w wr) ∧ Hid (∀ j x, j < i → (M.map OM.x)[j]? = some x → ∀ k : Nat, (k : Int) < x.s → x.m / P2 k % 2 = 1 → leadsB (M.map OM.x) x.o (f (x.at_.toNat + 2 + k)) = true)) (fun p _ => M.length - (intOf p).toNat)
  case atStart => exact ⟨0, Nat.zero_le _, rfl, Below.refl _ _, Lib.hid (fun j x hj => by omega)⟩
  case round =>
    obtain ⟨i, hi, rfl, HBr, HPT⟩ := hrel
    by_cases hlt : i < M.length
    · have hlt' : (i : Int) < (M.length : Int) := by omega
      have hi0 : (0 : Int) ≤ (i : Int) := by omega
      obtain ⟨g1, c1, e1, _, l1, o1⟩ := row_form H.out (by omega)
      simp only [Value.slice.injEq] at e1
      obtain ⟨rfl, -, rfl⟩ := e1
      have ht := (o1 i M[i] (List.getElem?_eq_getElem hlt)).six
      have hx : (M.map OM.x)[i]? = some M[i].x := by simp [hlt]
      have hs := FL.out.1 M[i] (List.getElem_mem hlt)
      have hk := HOK.out M[i] (List.getElem_mem hlt)
      generalize M[i] = t at *
      obtain ⟨⟨s0, s1⟩, hm, hwd⟩ := hk
      obtain ⟨_, lg, _, hfc⟩ := hs
      have HX := Lib.hid hx; have HWD := Lib.hid hwd; have HFC := Lib.hid hfc; have HT := Lib.hid ht
      clear o1 hx hwd hfc ht
      have z0 := HBr.out.size
      go_wp2
      go_loopw [7] (fun p wq => ∃ k : Nat, (k : Int) ≤ t.x.s ∧ p = .int .i64 (k : Int) ∧ Hid (Below w.heap.size w wq) ∧ Hid (∀ k' : Nat, k' < k → t.x.m / P2 k' % 2 = 1 → leadsB (M.map OM.x) t.x.o (f (t.x.at_.toNat + 2 + k')) = true)) (fun p _ => t.x.s.toNat - (intOf p).toNat)
      case atStart => exact ⟨0, by omega, rfl, HBr, Lib.hid (fun k' hk' => by omega)⟩
      case round =>
        obtain ⟨k, hk, rfl, HBq, HPK⟩ := hrel
        have T1 := Lib.hid (HT.out.below HBq.out l1)
        have zq := HBq.out.size
        have x1 := T1.out.2.1
        by_cases hks : (k : Int) < t.x.s
        · have hk0 : (0 : Int) ≤ (k : Int) := by omega
          have hkt : k < t.x.s.toNat := by omega
          have hkn : (k : Int) < (t.x.s.toNat : Int) := by omega
          have x2 := T1.out.2.2.1; have x3 := T1.out.2.2.2.1; have x5 := T1.out.2.2.2.2.2
          have fk := (HBq.out.cell (p := ⟨t.g, k, none⟩) lg).trans (HFC.out k hkt).1
          have hwk := HWD.out k hkt
          have l1q : g1 < wr.heap.size := by omega
          have HQ9 := Lib.hid (fun q => below_drewN HBq.out q)
          have hdd : t.x.m / P2 k % 2 = 1 ∨ t.x.m / P2 k % 2 = 0 := by omega
          rcases hdd with hd | hd
          · cases hle : leadsB (M.map OM.x) t.x.o (f (t.x.at_.toNat + 2 + k))
            · have hrf : Hid (r = false) := Lib.hid (by
                rcases HR.out with ⟨hp, _, _⟩ | ⟨_, hp⟩
                · have := hp t.x (List.mem_of_getElem? HX.out) k hks hd
                  rw [hle] at this; cases this
                · exact hp)
              go_wp2_with fail
              go_quiet (first | exact Calls.quiet_of (l2Pointer_at g1 (i * 6 + 1) k t.x.m true _ (((drewN_below wr _).cell (p := ⟨g1, i * 6 + 1 + 1, none⟩) l1q).trans x2) hm (by omega) (by rw [hd]; rfl)) | exact Calls.quiet_of_same (Calls.mono (l3Leads_any _ M base t.x.o (f (t.x.at_.toNat + 2 + k)) _ (ownsRow_below (ownsRow_below H.out HBq.out) (drewN_below wr _)) hl hwk) fun _ _ hh => ⟨by rw [hh.1, hle], hh.2.symm⟩))
              go_wp2
              go_ret
              exact ⟨by rw [hrf.out]; rfl, HQ9.out _⟩
            · have HLE := Lib.hid hle
              go_wp2_with fail
              go_quiet (first | exact Calls.quiet_of (l2Pointer_at g1 (i * 6 + 1) k t.x.m true _ (((drewN_below wr _).cell (p := ⟨g1, i * 6 + 1 + 1, none⟩) l1q).trans x2) hm (by omega) (by rw [hd]; rfl)) | exact Calls.quiet_of_same (Calls.mono (l3Leads_any _ M base t.x.o (f (t.x.at_.toNat + 2 + k)) _ (ownsRow_below (ownsRow_below H.out HBq.out) (drewN_below wr _)) hl hwk) fun _ _ hh => ⟨by rw [hh.1, hle], hh.2.symm⟩))
              have HDD := Lib.hid hd
              clear hle hd
              go_wp2
              go_roundw
              case rel => first | exact ⟨k + 1, by omega, by go_num, HQ9.out _, Lib.hid (fun k' hk' hb' => by rcases Nat.lt_succ_iff_lt_or_eq.mp hk' with h' | h'; exact HPK.out k' h' hb'; subst h'; exact HLE.out)⟩ | ((repeat apply Exists.intro); exact ⟨⟨k + 1, by omega, by go_num, HQ9.out _, Lib.hid (fun k' hk' hb' => by rcases Nat.lt_succ_iff_lt_or_eq.mp hk' with h' | h'; exact HPK.out k' h' hb'; subst h'; exact HLE.out)⟩, rfl⟩)
              case measure => simp [intOf]; omega
          · have hle : True := trivial
            go_wp2_with fail
            go_quiet (first | exact Calls.quiet_of (l2Pointer_at g1 (i * 6 + 1) k t.x.m false _ (((drewN_below wr _).cell (p := ⟨g1, i * 6 + 1 + 1, none⟩) l1q).trans x2) hm (by omega) (by rw [hd]; rfl)))
            have HDD := Lib.hid hd
            clear hd
            go_wp2
            go_roundw
            case rel => first | exact ⟨k + 1, by omega, by go_num, HQ9.out _, Lib.hid (fun k' hk' hb' => by rcases Nat.lt_succ_iff_lt_or_eq.mp hk' with h' | h'; exact HPK.out k' h' hb'; subst h'; have := HDD.out; omega)⟩ | ((repeat apply Exists.intro); exact ⟨⟨k + 1, by omega, by go_num, HQ9.out _, Lib.hid (fun k' hk' hb' => by rcases Nat.lt_succ_iff_lt_or_eq.mp hk' with h' | h'; exact HPK.out k' h' hb'; subst h'; have := HDD.out; omega)⟩, rfl⟩)
            case measure => simp [intOf]; omega
        · go_wp2
          go_roundw
          case rel => first | exact ⟨i + 1, by omega, by go_num, HBq, Lib.hid (fun j x hj hx k' hk' hb' => by rcases Nat.lt_succ_iff_lt_or_eq.mp hj with h' | h'; exact HPT.out j x h' hx k' hk' hb'; subst h'; rw [HX.out] at hx; cases hx; exact HPK.out k' (by omega) hb')⟩ | ((repeat apply Exists.intro); exact ⟨⟨i + 1, by omega, by go_num, HBq, Lib.hid (fun j x hj hx k' hk' hb' => by rcases Nat.lt_succ_iff_lt_or_eq.mp hj with h' | h'; exact HPT.out j x h' hx k' hk' hb'; subst h'; rw [HX.out] at hx; cases hx; exact HPK.out k' (by omega) hb')⟩, rfl⟩)
          case measure => simp [intOf]; omega
    · have HPS : Hid (Points f (M.map OM.x)) := Lib.hid (fun x hx k hk hb => by
        obtain ⟨j, hj, rfl⟩ := List.getElem_of_mem hx
        have hj' : j < M.length := by simpa using hj
        exact HPT.out j _ (by omega) (List.getElem?_eq_getElem hj) k hk hb)
      have hlt' : ¬ (i : Int) < (M.length : Int) := by omega
      have BA := Lib.hid (HB0.out.below HBr.out)
      have zr := HBr.out.size
      go_wp2_with fail
      refine (l1Base_eq (P : Int) b h ac (U : Int) (some ⟨ab, ao, none⟩) n c _ hP BA.out h1 h2 h3 h4).mono ?_
      rintro e w2 ⟨rfl, hb⟩
      have HB2 := Lib.hid (HBr.out.trans (hb.mono zr))
      clear hb BA HBr zr HPT
      have hnn := HN.out
      have hPUn : (P : Int) + (U : Int) ≤ 400 := by omega
      clear hnn
      go_wp2
      go_loopw [9] (fun p wr => ∃ j : Nat, j ≤ n ∧ p = .int .i64 (j : Int) ∧ Hid (Below w.heap.size w wr) ∧ Hid (∀ k, k < j → ¬ (P ≤ k ∧ k < P + U) → f k = 0)) (fun p _ => n - (intOf p).toNat)
      case atStart => exact ⟨0, Nat.zero_le _, rfl, HB2, Lib.hid (fun k hk => by omega)⟩
      case round =>
        obtain ⟨j, hj, rfl, HBr, HRS⟩ := hrel
        clear HB2
        have BA := Lib.hid (HB0.out.below HBr.out)
        have SA := Lib.hid (HS0.out.below HBr.out)
        have zr := HBr.out.size
        have lbr : b < wr.heap.size := by omega
        have b0 := BA.out.at 0 rfl; have b1 := BA.out.at 1 rfl; have b3 := BA.out.at 3 rfl
        by_cases hjn : j < n
        · have hjn' : (j : Int) < 2 * h := by have := HN.out; omega
          have hj0 : (0 : Int) ≤ (j : Int) := by omega
          have hjn2 : (j : Int) < (n : Int) := by omega
          by_cases hin : P ≤ j ∧ j < P + U
          · have HI := Lib.hid hin
            go_wp2_with fail
            refine (l1In_yes (j : Int) (P : Int) ((P : Int) + (U : Int) - 1) _ (by have := HI.out; omega) (by have := HI.out; omega)).mono ?_
            rintro e w' ⟨rfl, rfl⟩
            go_wp2
            go_roundw
            case rel => first | exact ⟨j + 1, by omega, by go_num, HBr, Lib.hid (fun k hk hb => by rcases Nat.lt_succ_iff_lt_or_eq.mp hk with h' | h'; exact HRS.out k h' hb; subst h'; exact absurd HI.out hb)⟩ | ((repeat apply Exists.intro); exact ⟨⟨j + 1, by omega, by go_num, HBr, Lib.hid (fun k hk hb => by rcases Nat.lt_succ_iff_lt_or_eq.mp hk with h' | h'; exact HRS.out k h' hb; subst h'; exact absurd HI.out hb)⟩, rfl⟩)
            case measure => simp [intOf]; omega
          · have HI := Lib.hid hin
            have fj := SA.out.at j hjn
            by_cases hfz : f j = 0
            · have hd : (f j != 0) = false := by simpa using hfz
              have HZ := Lib.hid hfz
              clear hfz hin
              go_wp2_with fail
              refine (l1In_no (j : Int) (P : Int) ((P : Int) + (U : Int) - 1) _ (fun x => HI.out ⟨by omega, by omega⟩)).mono ?_
              rintro e w' ⟨rfl, rfl⟩
              go_wp2
              go_roundw
              case rel => first | exact ⟨j + 1, by omega, by go_num, HBr, Lib.hid (fun k hk hb => by rcases Nat.lt_succ_iff_lt_or_eq.mp hk with h' | h'; exact HRS.out k h' hb; subst h'; exact HZ.out)⟩ | ((repeat apply Exists.intro); exact ⟨⟨j + 1, by omega, by go_num, HBr, Lib.hid (fun k hk hb => by rcases Nat.lt_succ_iff_lt_or_eq.mp hk with h' | h'; exact HRS.out k h' hb; subst h'; exact HZ.out)⟩, rfl⟩)
              case measure => simp [intOf]; omega
            · have hd : (f j != 0) = true := by simpa using hfz
              have hrf : Hid (r = false) := Lib.hid (by
                rcases HR.out with ⟨_, hp, _⟩ | ⟨_, hp⟩
                · exact absurd (hp j hjn hin) hfz
                · exact hp)
              clear hfz hin
              go_wp2_with fail
              refine (l1In_no (j : Int) (P : Int) ((P : Int) + (U : Int) - 1) _ (fun x => HI.out ⟨by omega, by omega⟩)).mono ?_
              rintro e w' ⟨rfl, rfl⟩
              go_wp2
              go_ret
              exact ⟨by rw [hrf.out]; rfl, HBr.out⟩
        · have hjn' : ¬ (j : Int) < 2 * h := by have := HN.out; omega
          have hrt : Hid (r = true) := Lib.hid (by
            rcases HR.out with ⟨_, _, hp⟩ | ⟨hp, _⟩
            · exact hp
            · exact absurd ⟨HPS.out, fun k hk hb => HRS.out k (by omega) hb⟩ hp)
          go_wp2
          go_ret
          exact ⟨by rw [hrt.out]; rfl, HBr.out⟩
end Go.Proofs.Ytbhjmomphajnnaa

namespace Go.Proofs.Ytbhjmomphajnnaa
open Go.RowKit
set_option linter.unusedVariables false

/-- Every object that is told stands somewhere. -/
theorem parse_all {f : Nat → Int} {e : Nat} : ∀ (d a : Nat) (L : List Ob), e - a ≤ d → parse f e a = some L → ∀ x ∈ L, ∃ a', x = objAt f a' ∧ Good f e a'
  | 0, a, L, hd, hp, x, hx => by
    rw [parse_stop (by omega)] at hp
    cases hp; cases hx
  | d + 1, a, L, hd, hp, x, hx => by
    by_cases h : a < e
    · by_cases hg : Good f e a
      · rw [parse_good h hg] at hp
        obtain ⟨L', hp', rfl⟩ := Option.map_eq_some_iff.mp hp
        rcases List.mem_cons.mp hx with rfl | hx
        · exact ⟨a, rfl, hg⟩
        · exact parse_all d _ L' (by omega) hp' x hx
      · rw [parse_bad h hg] at hp; cases hp
    · rw [parse_stop h] at hp
      cases hp; cases hx

/-- What is known of each object of a right arena. -/
theorem parse_ok {f : Nat → Int} {n e a : Nat} {L : List Ob} (hp : parse f e a = some L) (he : e ≤ n) (hw : ∀ i, i < n → Word (f i)) : ∀ x ∈ L, (0 ≤ x.s ∧ x.s ≤ 12) ∧ (0 ≤ x.m ∧ x.m ≤ 4095) ∧ (0 ≤ x.o ∧ x.o ≤ 3) ∧ (0 ≤ x.at_ ∧ x.at_.toNat + 2 + x.s.toNat ≤ e) ∧ ∀ k, k < x.s.toNat → -1000000000 ≤ f (x.at_.toNat + 2 + k) ∧ f (x.at_.toNat + 2 + k) ≤ 1000000000 := fun x hx => by
  obtain ⟨a', rfl, hg⟩ := parse_all (e - a) a L (Nat.le_refl _) hp x hx
  have h1 := hg.2.1.2
  have h2 := P2_le h1.1.2
  have h3 := hg.2.2
  have h4 := h1.2.1
  have h5 := h1.2.2.1
  have h6 := h1.1
  have e1 : (objAt f a').at_.toNat = a' := by simp [objAt]
  have e2 : (objAt f a').s.toNat = szOf f a' := rfl
  refine ⟨h1.1, ⟨h4.1, ?_⟩, h5, ⟨by simp [objAt], by rw [e1, e2]; exact h3⟩, fun k hk => ?_⟩
  · have : (objAt f a').m = f a' / 32 % 4096 := rfl
    rw [this]; omega
  · rw [e1]
    rw [e2] at hk
    exact hw _ (by omega)

/-- What ShapeFault answers. -/
def IsSF (h : Int) (n : Nat) (f : Nat → Int) (ac bu k : Int) : Prop :=
  (∃ L, IsOI h n f ac bu k L ∧ ¬ k = 0) ∨ (∃ L, IsOI h n f ac bu 0 L ∧ IsShape f n (baseI ac h).toNat bu.toNat L false ∧ k = 8) ∨ (∃ L, IsOI h n f ac bu 0 L ∧ IsShape f n (baseI ac h).toNat bu.toNat L true ∧ k = 0)

theorem isShape_some (f : Nat → Int) (n P U : Nat) (L : List Ob) : ∃ r, IsShape f n P U L r := by
  by_cases x : Points f L ∧ Rest f n P U
  · exact ⟨true, .inl ⟨x.1, x.2, rfl⟩⟩
  · exact ⟨false, .inr ⟨x, rfl⟩⟩

theorem isSF_some (h : Int) (n : Nat) (f : Nat → Int) (ac bu : Int) : ∃ k, IsSF h n f ac bu k := by
  obtain ⟨co, L, ho⟩ := isOI_some h n f ac bu
  by_cases h0 : co = 0
  · subst h0
    obtain ⟨r, hr⟩ := isShape_some f n (baseI ac h).toNat bu.toNat L
    cases r
    · exact ⟨8, .inr (.inl ⟨L, ho, hr, rfl⟩)⟩
    · exact ⟨0, .inr (.inr ⟨L, ho, hr, rfl⟩)⟩
  · exact ⟨co, .inl ⟨L, ho, h0⟩⟩

theorem isOI_zero {h : Int} {n : Nat} {f : Nat → Int} {ac bu : Int} {L : List Ob} (ho : IsOI h n f ac bu 0 L) : IsFault h n f ac bu 0 ∧ parse f ((baseI ac h).toNat + bu.toNat) (baseI ac h).toNat = some L := by
  rcases ho with ⟨k, _, h2, h3, _⟩ | ⟨_, _, h3, _⟩ | ⟨h1, h2, _⟩
  · exact absurd h3.symm h2
  · cases h3
  · exact ⟨h1, h2⟩

set_option maxHeartbeats 800000 in
theorem specSF_code (h ac bu : Int) (a : Option Addr) (n c : Nat) (f : Nat → Int) (co : Int) (L : List Ob) (w : World) (hs : Src w a n f) (hcn : n ≤ c) (hcm : c ≤ maxLen) (ho : IsOI h n f ac bu co L) (h0 : ¬ co = 0) :
    Calls Try.prog 138 #[.agg #[.int .i64 h, .slice a n c, .int .i64 ac, .int .i64 bu]] w (RetInt w co) := by
  have hd : (co != 0) = true := by simpa using h0
  have HCM := Lib.hid hcm
  clear hcm
  have HS := Lib.hid hs
  have HO := Lib.hid ho
  clear hs ho
  go_enter Try.func138, Try.ntmps138
  go_wp2_with fail
  refine (specOI_any h ac bu a n c f co L _ (HS.out.alloc _) hcn HCM.out HO.out).mono ?_
  rintro e w1 ⟨v, M, rfl, hM, how, hfl, hb⟩
  have HB1 := Lib.hid (thru1 (Below.refl _ _) hb)
  obtain ⟨av, kv, hv⟩ := row_nil how
  subst hv
  clear how hfl hM hb
  go_wp2
  go_ret
  exact ⟨rfl, HB1.out.alloc HB1.out.size _⟩

set_option maxHeartbeats 1600000 in
theorem specSF_false (h ac : Int) (P U : Nat) (ab ao n c : Nat) (f : Nat → Int) (L : List Ob) (w : World) (hs : Src w (some ⟨ab, ao, none⟩) n f) (hcn : n ≤ c) (hcm : c ≤ maxLen) (ho : IsOI h n f ac (U : Int) 0 L) (hk : IsFault h n f ac (U : Int) 0) (hP : baseI ac h = (P : Int)) (hp : parse f (P + U) P = some L) (hr : IsShape f n P U L false) :
    Calls Try.prog 138 #[.agg #[.int .i64 h, .slice (some ⟨ab, ao, none⟩) n c, .int .i64 ac, .int .i64 (U : Int)]] w (RetInt w 8) := by
  obtain ⟨⟨⟨g1, g2⟩, ⟨g3, g4⟩, g5, g6⟩, gn, gw⟩ := isFault_ok hk
  have hPU : P + U ≤ n := by rcases (by omega : ac = 0 ∨ ac = 1) with rfl | rfl <;> simp [baseI] at hP <;> omega
  have HPO := Lib.hid (parse_ok hp hPU gw)
  have hln := parse_length (P + U - P) P L (Nat.le_refl _) hp
  have hl4 : L.length ≤ 400 := by omega
  have HGN := Lib.hid gn
  have HCM := Lib.hid hcm
  clear hcm gn gw hk hln
  have HS := Lib.hid hs
  have HO := Lib.hid ho
  have HR := Lib.hid hr
  clear hs ho hr
  go_enter Try.func138, Try.ntmps138
  go_wp2_with fail
  refine (specOI_any h ac (U : Int) _ n c f 0 L _ (HS.out.alloc _) hcn HCM.out HO.out).mono ?_
  rintro e w1 ⟨v, M, rfl, hM, how, hfl, hb⟩
  have A_1 := Lib.hid ((Blk.new_at (w := w) (cs := #[.int .i64 h, .slice (some ⟨ab, ao, none⟩) n c, .int .i64 ac, .int .i64 (U : Int)]) (t := 26) (w.heap.size) rfl).below hb)
  have S_1 := Lib.hid ((HS.out.alloc _).below hb)
  have HB1 := Lib.hid (thru1 (Below.refl _ _) hb)
  have OW1 := Lib.hid how
  have FL1 := Lib.hid hfl
  subst hM
  clear how hfl hb HS
  obtain ⟨av, kv, hv⟩ := row_nil OW1.out
  have HV := Lib.hid hv
  clear hv
  have hv0 := HV.out
  generalize hm : M.length = mm at hv0
  subst hv0
  go_wp2_with fail
  refine (l3Shape_any (w.heap.size) P U h ac ab ao n c f (.slice av mm kv) M _ _ false _ (A_1.out.alloc _) (S_1.out.alloc _) g1 g2 g3 g4 hP HGN.out hPU (ownsRow_below OW1.out ((Below.refl _ _).alloc (Nat.le_refl _) _)) (FL1.out.below ((Below.refl _ _).alloc (Nat.le_refl _) _)) (by have := hl4; simpa using this) (fun t ht => by have := HPO.out t.x (List.mem_map_of_mem ht); exact ⟨this.1, this.2.1, this.2.2.2.2⟩) HR.out).mono ?_
  rintro e w2 ⟨rfl, hb⟩
  have HB2 := Lib.hid (thru1 HB1.out hb)
  clear hb
  go_wp2
  go_ret
  exact ⟨rfl, HB2.out⟩

set_option maxHeartbeats 1600000 in
theorem specSF_true (h ac : Int) (P U : Nat) (ab ao n c : Nat) (f : Nat → Int) (L : List Ob) (w : World) (hs : Src w (some ⟨ab, ao, none⟩) n f) (hcn : n ≤ c) (hcm : c ≤ maxLen) (ho : IsOI h n f ac (U : Int) 0 L) (hk : IsFault h n f ac (U : Int) 0) (hP : baseI ac h = (P : Int)) (hp : parse f (P + U) P = some L) (hr : IsShape f n P U L true) :
    Calls Try.prog 138 #[.agg #[.int .i64 h, .slice (some ⟨ab, ao, none⟩) n c, .int .i64 ac, .int .i64 (U : Int)]] w (RetInt w 0) := by
  obtain ⟨⟨⟨g1, g2⟩, ⟨g3, g4⟩, g5, g6⟩, gn, gw⟩ := isFault_ok hk
  have hPU : P + U ≤ n := by rcases (by omega : ac = 0 ∨ ac = 1) with rfl | rfl <;> simp [baseI] at hP <;> omega
  have HPO := Lib.hid (parse_ok hp hPU gw)
  have hln := parse_length (P + U - P) P L (Nat.le_refl _) hp
  have hl4 : L.length ≤ 400 := by omega
  have HGN := Lib.hid gn
  have HCM := Lib.hid hcm
  clear hcm gn gw hk hln
  have HS := Lib.hid hs
  have HO := Lib.hid ho
  have HR := Lib.hid hr
  clear hs ho hr
  go_enter Try.func138, Try.ntmps138
  go_wp2_with fail
  refine (specOI_any h ac (U : Int) _ n c f 0 L _ (HS.out.alloc _) hcn HCM.out HO.out).mono ?_
  rintro e w1 ⟨v, M, rfl, hM, how, hfl, hb⟩
  have A_1 := Lib.hid ((Blk.new_at (w := w) (cs := #[.int .i64 h, .slice (some ⟨ab, ao, none⟩) n c, .int .i64 ac, .int .i64 (U : Int)]) (t := 26) (w.heap.size) rfl).below hb)
  have S_1 := Lib.hid ((HS.out.alloc _).below hb)
  have HB1 := Lib.hid (thru1 (Below.refl _ _) hb)
  have OW1 := Lib.hid how
  have FL1 := Lib.hid hfl
  subst hM
  clear how hfl hb HS
  obtain ⟨av, kv, hv⟩ := row_nil OW1.out
  have HV := Lib.hid hv
  clear hv
  have hv0 := HV.out
  generalize hm : M.length = mm at hv0
  subst hv0
  go_wp2_with fail
  refine (l3Shape_any (w.heap.size) P U h ac ab ao n c f (.slice av mm kv) M _ _ true _ (A_1.out.alloc _) (S_1.out.alloc _) g1 g2 g3 g4 hP HGN.out hPU (ownsRow_below OW1.out ((Below.refl _ _).alloc (Nat.le_refl _) _)) (FL1.out.below ((Below.refl _ _).alloc (Nat.le_refl _) _)) (by have := hl4; simpa using this) (fun t ht => by have := HPO.out t.x (List.mem_map_of_mem ht); exact ⟨this.1, this.2.1, this.2.2.2.2⟩) HR.out).mono ?_
  rintro e w2 ⟨rfl, hb⟩
  have HB2 := Lib.hid (thru1 HB1.out hb)
  clear hb
  go_wp2
  go_ret
  exact ⟨rfl, HB2.out⟩

theorem specSF_any (h ac bu : Int) (a : Option Addr) (n c : Nat) (f : Nat → Int) (k : Int) (w : World) (hs : Src w a n f) (hcn : n ≤ c) (hcm : c ≤ maxLen) (hk : IsSF h n f ac bu k) : Calls Try.prog 138 #[.agg #[.int .i64 h, .slice a n c, .int .i64 ac, .int .i64 bu]] w (RetInt w k) := by
  have key : ∀ L r, IsOI h n f ac bu 0 L → IsShape f n (baseI ac h).toNat bu.toNat L r → Calls Try.prog 138 #[.agg #[.int .i64 h, .slice a n c, .int .i64 ac, .int .i64 bu]] w (RetInt w (if r then 0 else 8)) := fun L r ho hr => by
    obtain ⟨h1, h2⟩ := isOI_zero ho
    obtain ⟨⟨⟨g1, g2⟩, ⟨g3, g4⟩, g5, g6⟩, gn, gw⟩ := isFault_ok h1
    have hb := baseI_bd (ac := ac) g1
    obtain ⟨P, hP⟩ : ∃ P : Nat, baseI ac h = (P : Int) := ⟨(baseI ac h).toNat, by omega⟩
    obtain ⟨U, rfl⟩ : ∃ U : Nat, bu = (U : Int) := ⟨bu.toNat, by omega⟩
    obtain ⟨ab, ao, rfl, hab, hac⟩ := src_some hs (by omega)
    rw [hP, Int.toNat_natCast, Int.toNat_natCast] at h2 hr
    cases r
    · exact specSF_false h ac P U ab ao n c f L w hs hcn hcm ho h1 hP h2 hr
    · exact specSF_true h ac P U ab ao n c f L w hs hcn hcm ho h1 hP h2 hr
  rcases hk with ⟨L, ho, h0⟩ | ⟨L, ho, hr, rfl⟩ | ⟨L, ho, hr, rfl⟩
  · exact specSF_code h ac bu a n c f k L w hs hcn hcm ho h0
  · exact key L false ho hr
  · exact key L true ho hr
end Go.Proofs.Ytbhjmomphajnnaa

namespace Go.Proofs.Ytbhjmomphajnnaa
open Go.RowKit
set_option linter.unusedVariables false

theorem isSF_zero {h : Int} {n : Nat} {f : Nat → Int} {ac bu : Int} (hk : IsSF h n f ac bu 0) : ∃ L, IsOI h n f ac bu 0 L := by
  rcases hk with ⟨L, _, h0⟩ | ⟨L, _, _, h0⟩ | ⟨L, ho, _⟩
  · exact absurd rfl h0
  · cases h0
  · exact ⟨L, ho⟩
end Go.Proofs.Ytbhjmomphajnnaa

namespace Go.Proofs.Ytbhjmomphajnnaa
open Go.RowKit
set_option linter.unusedVariables false

theorem blk_under {w w' : World} {B b : Nat} {cs : List Value} (h : Blk w b cs) (hb : Below B w w') (hB : b < B) : Blk w' b cs :=
  ⟨Nat.lt_of_lt_of_le h.1 hb.size, fun i u hu => ⟨(hb.cell (p := ⟨b, i, none⟩) hB).trans (h.2 i u hu).1, (hb.frozen (p := ⟨b, i, none⟩) hB).trans (h.2 i u hu).2⟩⟩

theorem own_put {w : World} {B g q n : Nat} {f : Nat → Int} (h : Own w B (some ⟨g, q, none⟩) n f) (k : Nat) (hk : k < n) (v : Int) : Own (w.setCell ⟨g, q + k, none⟩ (.int .i64 v)) B (some ⟨g, q, none⟩) n (upd f k v) := by
  exact ((h.into.stored k hk v).1).out

theorem own_other {w : World} {B g q n : Nat} {f : Nat → Int} (h : Own w B (some ⟨g, q, none⟩) n f) {p : Addr} (hp : p.block ≠ g) (u : Value) : Own (w.setCell p u) B (some ⟨g, q, none⟩) n f := by
  rcases h with h0 | ⟨b', o', he, h1, hb', hc'⟩
  · exact .inl h0
  · cases he
    refine .inr ⟨g, q, rfl, h1, by simpa using hb', fun i hi => ⟨?_, ?_⟩⟩
    · rw [World.cell?_setCell_other _ _ _ _ (fun e => hp (by rw [e]))]; exact (hc' i hi).1
    · rw [World.frozen?_setCell]; exact (hc' i hi).2

theorem own_get {w : World} {B g q n : Nat} {f : Nat → Int} (h : Own w B (some ⟨g, q, none⟩) n f) (hn : 0 < n) : g < w.heap.size ∧ ∀ k, k < n → w.cell? ⟨g, q + k, none⟩ = some (.int .i64 (f k)) ∧ w.frozen? ⟨g, q + k, none⟩ = false := by
  rcases h with h0 | ⟨b', o', he, _, hb', hc'⟩
  · omega
  · cases he
    exact ⟨hb', hc'⟩

set_option maxHeartbeats 1600000 in
theorem l3Put_any (B b d g q P U K : Nat) (h ac s m o hh : Int) (n c : Nat) (f : Nat → Int) (w : World) (hBb : B ≤ b ∧ B ≤ g ∧ b ≠ g ∧ d ≠ b ∧ d ≠ g) (lB : B ≤ w.heap.size) (lg0 : g < w.heap.size)
    (hB : Blk w b [.int .i64 h, .slice (some ⟨g, q, none⟩) n c, .int .i64 ac, .int .i64 (U : Int)]) (hD : Blk w d [.int .i64 s, .int .i64 m, .int .i64 o, .int .i64 hh]) (ho : Own w B (some ⟨g, q, none⟩) n f)
    (h1 : 8 ≤ h) (h2 : h ≤ 200) (h3 : 0 ≤ ac) (h4 : ac ≤ 1) (hP : baseI ac h = (P : Int)) (hn : (n : Int) = 2 * h) (hKe : K = P + U) (hU : K + 2 ≤ n) (hk : HOk s m o hh) :
    Calls Try.prog 142 #[.pointer (some ⟨b, 0, none⟩), .pointer (some ⟨d, 0, none⟩)] w fun e w' => e = .returned (.int .i64 (K : Int)) ∧ Blk w' b [.int .i64 h, .slice (some ⟨g, q, none⟩) n c, .int .i64 ac, .int .i64 ((U : Int) + (s + 2))] ∧ Own w' B (some ⟨g, q, none⟩) n (upd (upd f K (1 + 2 * (s + 16 * (m + 4096 * o)))) (K + 1) hh) ∧ Below B w w' := by
  have c0 := hB.at 0 rfl; have c1 := hB.at 1 rfl; have c2 := hB.at 2 rfl; have c3 := hB.at 3 rfl
  have l0 := hB.1; have ld := hD.1
  have HB := Lib.hid hB; have HD := Lib.hid hD; have HO := Lib.hid ho; have HK := Lib.hid hk; have HN := Lib.hid hn; have HP := Lib.hid hP
  clear hB hD ho hk hn hP
  go_enter Try.func142, Try.ntmps142
  have HB2 := Lib.hid HB.out.drew
  go_wp2_with fail
  have hw : IntKind.i64.wrap ((P : Int) + (U : Int)) = (K : Int) := by have := HN.out; rw [IntWalk.i64_in _ (by omega)]; omega
  go_region_held3 (fun w' => w'.cell? ⟨b, 0, none⟩ = some (.int .i64 h) ∧ w'.cell? ⟨b, 1, none⟩ = some (.slice (some ⟨g, q, none⟩) n c) ∧ w'.cell? ⟨b, 2, none⟩ = some (.int .i64 ac) ∧ w'.cell? ⟨b, 3, none⟩ = some (.int .i64 (U : Int)))
    (first | (with_reducible exact ⟨(HB.out).at 0 rfl, (HB.out).at 1 rfl, (HB.out).at 2 rfl, (HB.out).at 3 rfl⟩) | (with_reducible exact ⟨(HB2.out).at 0 rfl, (HB2.out).at 1 rfl, (HB2.out).at 2 rfl, (HB2.out).at 3 rfl⟩) | (with_reducible exact ⟨(HB1.out).at 0 rfl, (HB1.out).at 1 rfl, (HB1.out).at 2 rfl, (HB1.out).at 3 rfl⟩))
    (first | (go_at_call 193; refine (l1Base_eq (P : Int) b h ac (U : Int) (some ⟨g, q, none⟩) n c _ HP.out HB2.out h1 h2 h3 h4).mono ?_; rintro e w1 ⟨rfl, hb⟩; have HB1 := Lib.hid (HB2.out.below hb); have HD1 := Lib.hid (HD.out.drew.below hb); have HO1 := Lib.hid (HO.out.drew.below hb); have HW1 := Lib.hid ((Below.refl B w).drew.trans (hb.mono (by simpa using lB))); clear hb))
  clear HB HB2 HD HO
  rw [show (P : Int) + (U : Int) = (K : Int) from by omega]
  clear hw
  have HKe := Lib.hid hKe
  clear hKe
  go_wp2_with fail
  refine (l2Pack_any d s m o hh _ HD1.out HK.out).mono ?_
  rintro e w2 ⟨rfl, hw2, hb⟩
  have z1 : w.heap.size ≤ w1.heap.size := HW1.out.size
  have z2 : w1.heap.size ≤ w2.heap.size := hb.size
  have HB2 := Lib.hid (HB1.out.below hb); have HD2 := Lib.hid (HD1.out.below hb); have HO2 := Lib.hid (HO1.out.below hb); have HW2 := Lib.hid (HW1.out.trans (hb.mono (by omega))); have HV2 := Lib.hid hw2
  clear HB1 HD1 HO1 HW1 hw2 hb
  have z0 : B ≤ w2.heap.size := by omega
  have b0 := HB2.out.at 0 rfl; have b1 := HB2.out.at 1 rfl; have b3 := HB2.out.at 3 rfl; have b3f := HB2.out.free 3 rfl; have v0 := HV2.out.at 0 rfl; have v1 := HV2.out.at 1 rfl
  obtain ⟨lg, hg⟩ := own_get HO2.out (by omega)
  have g0 := (hg K (by omega)).1; have g0f := (hg K (by omega)).2; have g1 := (hg (K + 1) (by omega)).1; have g1f := (hg (K + 1) (by omega)).2
  clear hg
  have lv := HV2.out.1; have lb2 := HB2.out.1
  clear c0 c1 c2 c3 l0 ld
  have hPU : K + 2 ≤ 400 := by have := HN.out; omega
  have hK0 : (0 : Int) ≤ (K : Int) := by omega
  have hPn : (K : Int) < (n : Int) := by omega
  have hPn1 : (K : Int) + 1 < (n : Int) := by omega
  go_wp2
  have HBd := Lib.hid HB2.out.drew; have HVd := Lib.hid HV2.out.drew; have HDd := Lib.hid HD2.out.drew
  have hgb : g ≠ b := fun e => hBb.2.2.1 e.symm
  have hgd : g ≠ d := fun e => hBb.2.2.2.2 e.symm
  have hgv : g ≠ w1.heap.size := by omega
  go_region_held3 (fun w' => w'.cell? ⟨b, 1, none⟩ = some (.slice (some ⟨g, q, none⟩) n c) ∧ w'.cell? ⟨w1.heap.size, 0, none⟩ = some (.int .i64 (1 + 2 * (s + 16 * (m + 4096 * o)))))
    (first | (with_reducible exact ⟨HB2.out.at 1 rfl, HV2.out.at 0 rfl⟩) | (with_reducible exact ⟨HBd.out.at 1 rfl, HVd.out.at 0 rfl⟩) | (with_reducible exact ⟨(HBd.out.other (p := ⟨g, q + K, none⟩) hgb _).at 1 rfl, (HVd.out.other (p := ⟨g, q + K, none⟩) hgv _).at 0 rfl⟩) | (with_reducible exact ⟨((HB2.out.other (p := ⟨g, q + K, none⟩) hgb _).drew).at 1 rfl, ((HV2.out.other (p := ⟨g, q + K, none⟩) hgv _).drew).at 0 rfl⟩))
    (fail)
  have HB3 := Lib.hid (HB2.out.other (p := ⟨g, q + K, none⟩) hgb (.int .i64 (1 + 2 * (s + 16 * (m + 4096 * o))))).drew
  have HD3 := Lib.hid (HD2.out.other (p := ⟨g, q + K, none⟩) hgd (.int .i64 (1 + 2 * (s + 16 * (m + 4096 * o))))).drew
  have HV3 := Lib.hid (HV2.out.other (p := ⟨g, q + K, none⟩) hgv (.int .i64 (1 + 2 * (s + 16 * (m + 4096 * o))))).drew
  have HO3 := Lib.hid (own_put HO2.out K (by omega) (1 + 2 * (s + 16 * (m + 4096 * o)))).drew
  have HW3 := Lib.hid (HW2.out.setCell (p := ⟨g, q + K, none⟩) hBb.2.1 (.int .i64 (1 + 2 * (s + 16 * (m + 4096 * o))))).drew
  have z3 : w2.heap.size ≤ (w2.setCell ⟨g, q + K, none⟩ (.int .i64 (1 + 2 * (s + 16 * (m + 4096 * o))))).drew.heap.size := by simp
  clear b0 b1 b3 b3f v0 v1 lg g0 g0f g1 g1f lv lb2 HBd HVd HDd HB2 HD2 HV2 HO2 HW2
  generalize (w2.setCell ⟨g, q + K, none⟩ (.int .i64 (1 + 2 * (s + 16 * (m + 4096 * o))))).drew = w3 at *
  have lb3 := HB3.out.1
  have b1 := HB3.out.at 1 rfl; have v1 := HV3.out.at 1 rfl; have lv := HV3.out.1
  obtain ⟨lg, hg⟩ := own_get HO3.out (by omega)
  have g1 := (hg (K + 1) (by omega)).1; have g1f := (hg (K + 1) (by omega)).2
  clear hg
  go_wp2
  have hw1 : IntKind.i64.wrap ((K : Int) + 1) = (K : Int) + 1 := IntWalk.i64_in _ (by omega)
  have hK1 : (0 : Int) ≤ (K : Int) + 1 := by omega
  have hK2 : ((K : Int) + 1).toNat = K + 1 := by omega
  have HBd := Lib.hid HB3.out.drew; have HVd := Lib.hid HV3.out.drew
  go_region_held3 (fun w' => w'.cell? ⟨b, 1, none⟩ = some (.slice (some ⟨g, q, none⟩) n c) ∧ w'.cell? ⟨w1.heap.size, 1, none⟩ = some (.int .i64 hh))
    (first | (with_reducible exact ⟨HB3.out.at 1 rfl, HV3.out.at 1 rfl⟩) | (with_reducible exact ⟨HBd.out.at 1 rfl, HVd.out.at 1 rfl⟩) | (with_reducible exact ⟨(HBd.out.other (p := ⟨g, q + (K + 1), none⟩) hgb _).at 1 rfl, (HVd.out.other (p := ⟨g, q + (K + 1), none⟩) hgv _).at 1 rfl⟩) | (with_reducible exact ⟨((HB3.out.other (p := ⟨g, q + (K + 1), none⟩) hgb _).drew).at 1 rfl, ((HV3.out.other (p := ⟨g, q + (K + 1), none⟩) hgv _).drew).at 1 rfl⟩))
    (fail)
  have HB4 := Lib.hid (HB3.out.other (p := ⟨g, q + (K + 1), none⟩) hgb (.int .i64 hh)).drew
  have HD4 := Lib.hid (HD3.out.other (p := ⟨g, q + (K + 1), none⟩) hgd (.int .i64 hh)).drew
  have HO4 := Lib.hid (own_put HO3.out (K + 1) (by omega) hh).drew
  have HW4 := Lib.hid (HW3.out.setCell (p := ⟨g, q + (K + 1), none⟩) hBb.2.1 (.int .i64 hh)).drew
  have z4 : w3.heap.size ≤ (w3.setCell ⟨g, q + (K + 1), none⟩ (.int .i64 hh)).drew.heap.size := by simp
  clear b1 v1 lv lg g1 g1f lb3 HBd HVd HB3 HD3 HV3 HO3 HW3
  generalize (w3.setCell ⟨g, q + (K + 1), none⟩ (.int .i64 hh)).drew = w4 at *
  have lb4 := HB4.out.1
  have b3 := HB4.out.at 3 rfl; have b3f := HB4.out.free 3 rfl
  have hs := HK.out.1
  go_wp2_with fail
  have HDx := Lib.hid HD4.out.drew
  have hU0 := HKe.out
  have hs2 := hs.1; have hs3 := hs.2
  have hHS := Lib.hid hs
  have hU1 : (U : Int) ≤ 400 := by omega
  clear hs hU0
  have hwU : IntKind.i64.wrap ((U : Int) + (s + 2)) = (U : Int) + (s + 2) := IntWalk.i64_in _ (by omega)
  go_region_law (first | (go_simp; go_at_call 195; refine (l2Words_any d s m o hh _ HDx.out hHS.out).mono ?_; rintro e w' ⟨rfl, rfl⟩) | (go_at_call 195; refine (l2Words_any d s m o hh _ HDx.out hHS.out).mono ?_; rintro e w' ⟨rfl, rfl⟩))
  all_goals (
    go_wp2
    go_ret
    exact ⟨rfl, (HB4.out.set 3 (by simp) _).drew, (own_other HO4.out (p := ⟨b, 3, none⟩) hBb.2.2.1 _).drew, (HW4.out.setCell (p := ⟨b, 3, none⟩) hBb.1 _).drew⟩)
end Go.Proofs.Ytbhjmomphajnnaa

namespace Go.Proofs.Ytbhjmomphajnnaa
open Go.RowKit
set_option linter.unusedVariables false

/-- An object in memory, whatever it holds. -/
structure GM where
  at_ : Int
  s : Int
  m : Int
  o : Int
  h : Int
  a : Option Addr
  n : Nat
  c : Nat
  f : Nat → Int

def GM.g (t : GM) : Nat := match t.a with | some p => p.block | none => 0

def SixG (w : World) (b o : Nat) (t : GM) : Prop := w.cell? ⟨b, o, none⟩ = some (.int .i64 t.at_) ∧ w.cell? ⟨b, o + 1, none⟩ = some (.int .i64 t.s) ∧ w.cell? ⟨b, o + 2, none⟩ = some (.int .i64 t.m) ∧ w.cell? ⟨b, o + 3, none⟩ = some (.int .i64 t.o) ∧ w.cell? ⟨b, o + 4, none⟩ = some (.int .i64 t.h) ∧ w.cell? ⟨b, o + 5, none⟩ = some (.slice t.a t.n t.c)

def SixF (w : World) (b o : Nat) : Prop := w.frozen? ⟨b, o, none⟩ = false ∧ w.frozen? ⟨b, o + 1, none⟩ = false ∧ w.frozen? ⟨b, o + 2, none⟩ = false ∧ w.frozen? ⟨b, o + 3, none⟩ = false ∧ w.frozen? ⟨b, o + 4, none⟩ = false ∧ w.frozen? ⟨b, o + 5, none⟩ = false

theorem SixG.block {w w' : World} {b o : Nat} {t : GM} (h : SixG w b o t) (e : w'.heap[b]? = w.heap[b]?) : SixG w' b o t :=
  ⟨(World.cell?_of_block (w := w) (a := ⟨b, o, none⟩) e).trans h.1, (World.cell?_of_block (w := w) (a := ⟨b, o + 1, none⟩) e).trans h.2.1, (World.cell?_of_block (w := w) (a := ⟨b, o + 2, none⟩) e).trans h.2.2.1, (World.cell?_of_block (w := w) (a := ⟨b, o + 3, none⟩) e).trans h.2.2.2.1, (World.cell?_of_block (w := w) (a := ⟨b, o + 4, none⟩) e).trans h.2.2.2.2.1, (World.cell?_of_block (w := w) (a := ⟨b, o + 5, none⟩) e).trans h.2.2.2.2.2⟩

theorem SixF.block {w w' : World} {b o : Nat} (h : SixF w b o) (e : w'.heap[b]? = w.heap[b]?) : SixF w' b o :=
  ⟨(World.frozen?_of_block (w := w) (a := ⟨b, o, none⟩) e).trans h.1, (World.frozen?_of_block (w := w) (a := ⟨b, o + 1, none⟩) e).trans h.2.1, (World.frozen?_of_block (w := w) (a := ⟨b, o + 2, none⟩) e).trans h.2.2.1, (World.frozen?_of_block (w := w) (a := ⟨b, o + 3, none⟩) e).trans h.2.2.2.1, (World.frozen?_of_block (w := w) (a := ⟨b, o + 4, none⟩) e).trans h.2.2.2.2.1, (World.frozen?_of_block (w := w) (a := ⟨b, o + 5, none⟩) e).trans h.2.2.2.2.2⟩

theorem SixG.below {w w' : World} {b o : Nat} {t : GM} (h : SixG w b o t) (hb : Below w.heap.size w w') (hl : b < w.heap.size) : SixG w' b o t := h.block (hb.block b hl)

theorem SixF.below {w w' : World} {b o : Nat} (h : SixF w b o) (hb : Below w.heap.size w w') (hl : b < w.heap.size) : SixF w' b o := h.block (hb.block b hl)

theorem SixG.keeps {w w' : World} {b o lo hi : Nat} {t : GM} (h : SixG w b o t) (hk : Keeps w w' lo hi) (hl : b < w.heap.size) (hd : b < lo ∨ hi ≤ b) : SixG w' b o t := h.block (hk.block b hl hd)

theorem SixF.keeps {w w' : World} {b o lo hi : Nat} (h : SixF w b o) (hk : Keeps w w' lo hi) (hl : b < w.heap.size) (hd : b < lo ∨ hi ≤ b) : SixF w' b o := h.block (hk.block b hl hd)

/-- A row of objects is read. -/
structure GSrc (w : World) (b q N : Nat) (T : Nat → GM) : Prop where
  lt : b < w.heap.size
  six : ∀ i, i < N → SixG w b (q + i * 6) (T i)
  flds : ∀ i, i < N → Src w (T i).a (T i).n (T i).f

/-- A row of objects of the call's own, in blocks from lo to hi. -/
structure GOwn (w : World) (lo hi b q N : Nat) (T : Nat → GM) : Prop where
  glo : lo ≤ b
  ghi : b < hi
  lt : b < w.heap.size
  six : ∀ i, i < N → SixG w b (q + i * 6) (T i)
  free : ∀ i, i < N → SixF w b (q + i * 6)
  flds : ∀ i, i < N → OwnIn w lo hi (T i).a (T i).n (T i).f
  off : ∀ i, i < N → (T i).n = 0 ∨ (T i).g ≠ b
  apart : ∀ i j, i < N → j < N → i ≠ j → (T i).n = 0 ∨ (T j).n = 0 ∨ (T i).g ≠ (T j).g

theorem GOwn.src {w : World} {lo hi b q N : Nat} {T : Nat → GM} (h : GOwn w lo hi b q N T) : GSrc w b q N T := ⟨h.lt, h.six, fun i hi => (h.flds i hi).src⟩

theorem GSrc.below {w w' : World} {b q N : Nat} {T : Nat → GM} (h : GSrc w b q N T) (hb : Below w.heap.size w w') : GSrc w' b q N T :=
  ⟨Nat.lt_of_lt_of_le h.lt hb.size, fun i hi => (h.six i hi).below hb h.lt, fun i hi => (h.flds i hi).below hb⟩

theorem GOwn.below {w w' : World} {lo hi b q N : Nat} {T : Nat → GM} (h : GOwn w lo hi b q N T) (hb : Below w.heap.size w w') : GOwn w' lo hi b q N T :=
  ⟨h.glo, h.ghi, Nat.lt_of_lt_of_le h.lt hb.size, fun i hi => (h.six i hi).below hb h.lt, fun i hi => (h.free i hi).below hb h.lt, fun i hi => (h.flds i hi).below hb, h.off, h.apart⟩

theorem GOwn.keeps {w w' : World} {lo hi lo' hi' b q N : Nat} {T : Nat → GM} (h : GOwn w lo hi b q N T) (hk : Keeps w w' lo' hi') (hd : hi ≤ lo' ∨ hi' ≤ lo) : GOwn w' lo hi b q N T := by
  have h1 := h.glo; have h2 := h.ghi
  exact ⟨h.glo, h.ghi, Nat.lt_of_lt_of_le h.lt hk.size, fun i hi => (h.six i hi).keeps hk h.lt (by omega), fun i hi => (h.free i hi).keeps hk h.lt (by omega), fun i hi => (h.flds i hi).keeps hk hd, h.off, h.apart⟩

theorem GSrc.keeps {w w' : World} {lo hi b q N : Nat} {T : Nat → GM} (h : GSrc w b q N T) (hk : Keeps w w' lo hi) (hd : b < lo ∨ hi ≤ b) (hf : ∀ i, i < N → (T i).n = 0 ∨ (T i).g < lo ∨ hi ≤ (T i).g) : GSrc w' b q N T := by
  refine ⟨Nat.lt_of_lt_of_le h.lt hk.size, fun i hi => (h.six i hi).keeps hk h.lt hd, fun i hi => ?_⟩
  rcases h.flds i hi with h0 | ⟨b', o', he, hl, hc⟩
  · exact .inl h0
  · rcases hf i hi with h0 | hf
    · exact .inl h0
    · have hg : (T i).g = b' := by simp [GM.g, he]
      have e := hk.block b' hl (by omega)
      exact .inr ⟨b', o', he, Nat.lt_of_lt_of_le hl hk.size, fun k hk' => (World.cell?_of_block (w := w) (a := ⟨b', o' + k, none⟩) e).trans (hc k hk')⟩

theorem GSrc.drew {w : World} {b q N : Nat} {T : Nat → GM} (h : GSrc w b q N T) : GSrc w.drew b q N T := h.below (Below.refl _ _).drew

theorem GSrc.alloc {w : World} {b q N : Nat} {T : Nat → GM} (h : GSrc w b q N T) (o : Obj) : GSrc (w.alloc o) b q N T := h.below ((Below.refl _ _).alloc (Nat.le_refl _) o)

theorem GOwn.drew {w : World} {lo hi b q N : Nat} {T : Nat → GM} (h : GOwn w lo hi b q N T) : GOwn w.drew lo hi b q N T := h.below (Below.refl _ _).drew

theorem GOwn.alloc {w : World} {lo hi b q N : Nat} {T : Nat → GM} (h : GOwn w lo hi b q N T) (o : Obj) : GOwn (w.alloc o) lo hi b q N T := h.below ((Below.refl _ _).alloc (Nat.le_refl _) o)

theorem GSrc.congr {w : World} {b q N : Nat} {T U : Nat → GM} (h : GSrc w b q N T) (e : ∀ i, i < N → T i = U i) : GSrc w b q N U :=
  ⟨h.lt, fun i hi => by rw [← e i hi]; exact h.six i hi, fun i hi => by rw [← e i hi]; exact h.flds i hi⟩

theorem GOwn.congr {w : World} {lo hi b q N : Nat} {T U : Nat → GM} (h : GOwn w lo hi b q N T) (e : ∀ i, i < N → T i = U i) : GOwn w lo hi b q N U :=
  ⟨h.glo, h.ghi, h.lt, fun i hi => by rw [← e i hi]; exact h.six i hi, h.free, fun i hi => by rw [← e i hi]; exact h.flds i hi, fun i hi => by rw [← e i hi]; exact h.off i hi, fun i j hi hj hij => by rw [← e i hi, ← e j hj]; exact h.apart i j hi hj hij⟩
end Go.Proofs.Ytbhjmomphajnnaa

namespace Go.Proofs.Ytbhjmomphajnnaa
open Go.RowKit
set_option linter.unusedVariables false

/-- Two objects hold the same. -/
def GSame (t u : GM) : Prop := t.at_ = u.at_ ∧ t.s = u.s ∧ t.m = u.m ∧ t.o = u.o ∧ t.h = u.h ∧ t.n = u.n ∧ ∀ k, k < t.n → t.f k = u.f k

def GV (w : World) (a : Option Addr) (N : Nat) (T : Nat → GM) : Prop := N = 0 ∨ ∃ b q, a = some ⟨b, q, none⟩ ∧ GSrc w b q N T

def GVO (w : World) (lo hi : Nat) (a : Option Addr) (N : Nat) (T : Nat → GM) : Prop := N = 0 ∨ ∃ b q, a = some ⟨b, q, none⟩ ∧ GOwn w lo hi b q N T

theorem GVO.src {w : World} {lo hi N : Nat} {a : Option Addr} {T : Nat → GM} (h : GVO w lo hi a N T) : GV w a N T := by
  rcases h with h0 | ⟨b, q, e, h⟩
  · exact .inl h0
  · exact .inr ⟨b, q, e, h.src⟩

theorem GV.below {w w' : World} {a : Option Addr} {N : Nat} {T : Nat → GM} (h : GV w a N T) (hb : Below w.heap.size w w') : GV w' a N T := by
  rcases h with h0 | ⟨b, q, e, h⟩
  · exact .inl h0
  · exact .inr ⟨b, q, e, h.below hb⟩

theorem GVO.below {w w' : World} {lo hi N : Nat} {a : Option Addr} {T : Nat → GM} (h : GVO w lo hi a N T) (hb : Below w.heap.size w w') : GVO w' lo hi a N T := by
  rcases h with h0 | ⟨b, q, e, h⟩
  · exact .inl h0
  · exact .inr ⟨b, q, e, h.below hb⟩

theorem GVO.keeps {w w' : World} {lo hi lo' hi' N : Nat} {a : Option Addr} {T : Nat → GM} (h : GVO w lo hi a N T) (hk : Keeps w w' lo' hi') (hd : hi ≤ lo' ∨ hi' ≤ lo) : GVO w' lo hi a N T := by
  rcases h with h0 | ⟨b, q, e, h⟩
  · exact .inl h0
  · exact .inr ⟨b, q, e, h.keeps hk hd⟩

theorem GV.drew {w : World} {a : Option Addr} {N : Nat} {T : Nat → GM} (h : GV w a N T) : GV w.drew a N T := h.below (Below.refl _ _).drew

theorem GV.alloc {w : World} {a : Option Addr} {N : Nat} {T : Nat → GM} (h : GV w a N T) (o : Obj) : GV (w.alloc o) a N T := h.below ((Below.refl _ _).alloc (Nat.le_refl _) o)

theorem GVO.drew {w : World} {lo hi N : Nat} {a : Option Addr} {T : Nat → GM} (h : GVO w lo hi a N T) : GVO w.drew lo hi a N T := h.below (Below.refl _ _).drew

theorem GVO.alloc {w : World} {lo hi N : Nat} {a : Option Addr} {T : Nat → GM} (h : GVO w lo hi a N T) (o : Obj) : GVO (w.alloc o) lo hi a N T := h.below ((Below.refl _ _).alloc (Nat.le_refl _) o)
end Go.Proofs.Ytbhjmomphajnnaa

namespace Go.Proofs.Ytbhjmomphajnnaa
open Go.RowKit
set_option linter.unusedVariables false

/-- The six cells of an object are written. -/
def sixW (w : World) (b o : Nat) (t : GM) : World := ((((((w.setCell ⟨b, o, none⟩ (.int .i64 t.at_)).setCell ⟨b, o + 1, none⟩ (.int .i64 t.s)).setCell ⟨b, o + 2, none⟩ (.int .i64 t.m)).setCell ⟨b, o + 3, none⟩ (.int .i64 t.o)).setCell ⟨b, o + 4, none⟩ (.int .i64 t.h)).setCell ⟨b, o + 5, none⟩ (.slice t.a t.n t.c))

theorem sixW_at {w : World} {b o : Nat} {t0 : GM} (h : SixG w b o t0) (t : GM) : SixG (sixW w b o t) b o t := by
  obtain ⟨x0, x1, x2, x3, x4, x5⟩ := h
  simp [sixW, SixG, x0, x1, x2, x3, x4, x5, World.cell?_setCell_other, World.cell?_setCell_same']

theorem sixW_other {w : World} {b o o' : Nat} {u : GM} (h : SixG w b o u) (hd : o + 6 ≤ o' ∨ o' + 6 ≤ o) (t : GM) : SixG (sixW w b o' t) b o u := by
  have g : ∀ x, x < 6 → ∀ y, y < 6 → (⟨b, o' + y, none⟩ : Addr) ≠ ⟨b, o + x, none⟩ := fun x hx y hy e => by simp at e; try omega
  have k : ∀ x, x < 6 → (sixW w b o' t).cell? ⟨b, o + x, none⟩ = w.cell? ⟨b, o + x, none⟩ := fun x hx => by
    unfold sixW
    rw [World.cell?_setCell_other _ _ _ _ (g x hx 5 (by omega)), World.cell?_setCell_other _ _ _ _ (g x hx 4 (by omega)), World.cell?_setCell_other _ _ _ _ (g x hx 3 (by omega)), World.cell?_setCell_other _ _ _ _ (g x hx 2 (by omega)), World.cell?_setCell_other _ _ _ _ (g x hx 1 (by omega)), World.cell?_setCell_other _ _ _ _ (show (⟨b, o', none⟩ : Addr) ≠ ⟨b, o + x, none⟩ from g x hx 0 (by omega))]
  exact ⟨(k 0 (by omega)).trans h.1, (k 1 (by omega)).trans h.2.1, (k 2 (by omega)).trans h.2.2.1, (k 3 (by omega)).trans h.2.2.2.1, (k 4 (by omega)).trans h.2.2.2.2.1, (k 5 (by omega)).trans h.2.2.2.2.2⟩

theorem sixW_frozen (w : World) (b o : Nat) (t : GM) (p : Addr) : (sixW w b o t).frozen? p = w.frozen? p := by simp [sixW, World.frozen?_setCell]

theorem sixW_keeps (w : World) (b o : Nat) (t : GM) : Keeps w (sixW w b o t) b (b + 1) := by
  unfold sixW
  refine Keeps.trans ?_ (keeps_setCell (p := ⟨b, o + 5, none⟩) (Nat.le_refl b) (Nat.lt_succ_self b) _)
  refine Keeps.trans ?_ (keeps_setCell (p := ⟨b, o + 4, none⟩) (Nat.le_refl b) (Nat.lt_succ_self b) _)
  refine Keeps.trans ?_ (keeps_setCell (p := ⟨b, o + 3, none⟩) (Nat.le_refl b) (Nat.lt_succ_self b) _)
  refine Keeps.trans ?_ (keeps_setCell (p := ⟨b, o + 2, none⟩) (Nat.le_refl b) (Nat.lt_succ_self b) _)
  refine Keeps.trans ?_ (keeps_setCell (p := ⟨b, o + 1, none⟩) (Nat.le_refl b) (Nat.lt_succ_self b) _)
  refine Keeps.trans ?_ (keeps_setCell (p := ⟨b, o, none⟩) (Nat.le_refl b) (Nat.lt_succ_self b) _)
  exact Keeps.refl _ _ _
end Go.Proofs.Ytbhjmomphajnnaa

namespace Go.Proofs.Ytbhjmomphajnnaa
open Go.RowKit
set_option linter.unusedVariables false

def obG (f : Nat → Int) (y : Ob) : GM := ⟨y.at_, y.s, y.m, y.o, y.h, none, y.s.toNat, 0, fun k => f (y.at_.toNat + 2 + k)⟩

def gzero : GM := ⟨0, 0, 0, 0, 0, none, 0, 0, fun _ => 0⟩

def xT (f : Nat → Int) (x : Option Ob) : GM := match x with | none => gzero | some y => obG f y

def obT (f : Nat → Int) (L : List Ob) (i : Nat) : GM := xT f L[i]?

theorem GSame.refl (t : GM) : GSame t t := ⟨rfl, rfl, rfl, rfl, rfl, rfl, fun _ _ => rfl⟩

/-- A row of objects comes back, with a code. -/
def RetORG (W : World) (f : Nat → Int) (co : Int) (L : List Ob) (e : Ending) (w' : World) : Prop :=
  ∃ a c T, e = .returned (.agg #[.int .i64 co, .slice a L.length c]) ∧ GVO w' W.heap.size w'.heap.size a L.length T ∧ (∀ i, i < L.length → GSame (T i) (obT f L i)) ∧ Below W.heap.size W w' ∧ L.length ≤ c ∧ c ≤ maxLen

theorem row_cap {w : World} {base e size n c : Nat} {a : Option Addr} {xs : List Value} (h : w.ownsRow base e size (.slice a n c) n xs) : n ≤ c ∧ c ≤ maxLen := by
  rcases h.2 with ⟨h1, h2⟩ | ⟨g, cap, cur, h1, _, _, h4, h5, _⟩
  · simp only [Value.slice.injEq] at h1
    obtain ⟨_, rfl, rfl⟩ := h1
    exact ⟨Nat.le_refl _, Nat.zero_le _⟩
  · simp only [Value.slice.injEq] at h1
    obtain ⟨_, _, rfl⟩ := h1
    exact ⟨h4, h5⟩

theorem gvo_mono {w : World} {lo lo' hi N : Nat} {a : Option Addr} {T : Nat → GM} (h : GVO w lo hi a N T) (hl : lo' ≤ lo) : GVO w lo' hi a N T := by
  rcases h with h0 | ⟨b, q, e, h⟩
  · exact .inl h0
  · exact .inr ⟨b, q, e, Nat.le_trans hl h.glo, h.ghi, h.lt, h.six, h.free, fun i hi => (h.flds i hi).widen hl (Nat.le_refl _), h.off, h.apart⟩

theorem isOI_small {h : Int} {n : Nat} {f : Nat → Int} {ac bu co : Int} {L : List Ob} (hk : IsOI h n f ac bu co L) : L.length ≤ 400 ∧ ∀ y ∈ L, 0 ≤ y.s ∧ y.s ≤ 12 := by
  rcases hk with ⟨_, _, _, _, rfl⟩ | ⟨_, _, _, rfl⟩ | ⟨h4, h5, _⟩
  · exact ⟨Nat.zero_le _, fun y hy => by cases hy⟩
  · exact ⟨Nat.zero_le _, fun y hy => by cases hy⟩
  · obtain ⟨⟨⟨g1, g2⟩, ⟨g3, g4⟩, g5, g6⟩, gn, _⟩ := isFault_ok h4
    have hl := parse_length _ _ L (Nat.le_refl _) h5
    have hb := baseI_bd (ac := ac) g1
    exact ⟨by omega, parse_sizes _ _ L (Nat.le_refl _) h5⟩

/-- What is owed of the program's function. -/
def ImplSF : Prop := ∀ (h ac bu : Int) (a : Option Addr) (n c : Nat) (f : Nat → Int) (k : Int) (w : World), Src w a n f → n ≤ c → c ≤ maxLen → IsSF h n f ac bu k → Calls Try.prog 14 #[.agg #[.int .i64 h, .slice a n c, .int .i64 ac, .int .i64 bu]] w (fun e w' => e = .returned (.int .i64 k) ∧ Below w.heap.size w w')

/-- What is owed of the program's function. -/
def ImplOI : Prop := ∀ (h ac bu : Int) (a : Option Addr) (n c : Nat) (f : Nat → Int) (co : Int) (L : List Ob) (w : World), Src w a n f → n ≤ c → c ≤ maxLen → IsOI h n f ac bu co L → Calls Try.prog 75 #[.agg #[.int .i64 h, .slice a n c, .int .i64 ac, .int .i64 bu]] w (RetORG w f co L)

/-- What is owed of the program's function. -/
def ImplSO : Prop := ∀ (a1 a2 : Option Addr) (N N' k1 k2 : Nat) (T U : Nat → GM) (r : Bool) (w : World), GV w a1 N T → GV w a2 N' U → (r = true ↔ N = N' ∧ ∀ i, i < N → GSame (T i) (U i)) → N ≤ 1048576 → N' ≤ 1048576 → (∀ i, i < N → (T i).n ≤ 1048576) → (∀ i, i < N' → (U i).n ≤ 1048576) →
    Calls Try.prog 70 #[.slice a1 N k1, .slice a2 N' k2] w (RetBool w r)
end Go.Proofs.Ytbhjmomphajnnaa

namespace Go.Proofs.Ytbhjmomphajnnaa
open Go.RowKit
set_option linter.unusedVariables false

def RetMin (W : World) (x y : Int) (e : Ending) (w' : World) : Prop := (∃ z : Int, (z = x ∨ z = y) ∧ e = .returned (.int .i64 z)) ∧ W = w'

theorem min_any (x y : Int) (w : World) : Calls Try.prog 150 #[.int .i64 x, .int .i64 y] w (RetMin w x y) := by
  by_cases h : x < y
  · go_enter Try.func150, Try.ntmps150
    go_wp2
    go_ret
    exact ⟨⟨x, .inl rfl, rfl⟩, rfl⟩
  · go_enter Try.func150, Try.ntmps150
    go_wp2
    go_ret
    exact ⟨⟨y, .inr rfl, rfl⟩, rfl⟩

theorem upd_word {f : Nat → Int} (h : ∀ j, Word (f j)) (k : Nat) (v : Int) (hv : Word v) : ∀ j, Word (upd f k v j) := fun j => by
  unfold upd; split
  · exact hv
  · exact h j

/-- How many fields the objects from a place on have. -/
def tot (M : List OM) (i : Nat) : Nat := ((M.drop i).map (fun t => t.x.s.toNat)).sum

theorem tot_step {M : List OM} {i : Nat} {t : OM} (h : M[i]? = some t) : tot M i = t.x.s.toNat + tot M (i + 1) := by
  obtain ⟨hi, he⟩ := List.getElem?_eq_some_iff.mp h
  unfold tot
  rw [List.drop_eq_getElem_cons hi, he]; simp

theorem parse_tot {f : Nat → Int} {e : Nat} : ∀ (d a : Nat) (L : List Ob), e - a ≤ d → parse f e a = some L → (L.map (fun x => x.s.toNat)).sum ≤ e - a
  | 0, a, L, hd, hp => by
    rw [parse_stop (by omega)] at hp
    cases hp; simp
  | d + 1, a, L, hd, hp => by
    by_cases h : a < e
    · by_cases hg : Good f e a
      · rw [parse_good h hg] at hp
        obtain ⟨L', hp', rfl⟩ := Option.map_eq_some_iff.mp hp
        have ih := parse_tot d _ L' (by omega) hp'
        have h2 := hg.2.2
        simp only [List.map_cons, List.sum_cons, objAt]
        unfold szOf at h2 ih
        omega
      · rw [parse_bad h hg] at hp; cases hp
    · rw [parse_stop h] at hp
      cases hp; simp

theorem tot_zero {f : Nat → Int} {e a : Nat} {M : List OM} (hp : parse f e a = some (M.map OM.x)) : tot M 0 ≤ e - a := by
  have := parse_tot (e - a) a _ (Nat.le_refl _) hp
  simp only [List.map_map] at this
  unfold tot
  simp only [List.drop_zero]
  exact this

theorem ownsRow_keeps {w w' : World} {base e size n lo hi : Nat} {v : Value} {xs : List Value} (h : w.ownsRow base e size v n xs) (hk : Keeps w w' lo hi) (hb : hi ≤ base) : w'.ownsRow base e size v n xs := by
  refine ⟨h.1, ?_⟩
  rcases h.2 with h0 | ⟨g, cap, cur, h1, h2, h3, h4⟩
  · exact .inl h0
  · have hg : g < w.heap.size := by
      rcases Nat.lt_or_ge g w.heap.size with hlt | hge
      · exact hlt
      · rw [Array.getElem?_eq_none hge] at h3; cases h3
    exact .inr ⟨g, cap, cur, h1, h2, (hk.block g hg (.inr (by omega))).trans h3, h4⟩

theorem row_six {w : World} {base gq cq i : Nat} {M : List OM} {ti : OM} (h : w.ownsRow base 111 6 (.slice (some ⟨gq, 0, none⟩) M.length cq) M.length (rowCells M)) (hi : M[i]? = some ti) : Six w gq (i * 6) ti.x ti.g ti.c ∧ gq < w.heap.size := by
  have h0 : 0 < M.length := by have := (List.getElem?_eq_some_iff.mp hi).1; omega
  obtain ⟨gq', cq', e1, _, lk, ok⟩ := row_form h h0
  simp only [Value.slice.injEq, Option.some.injEq, Addr.mk.injEq, and_true] at e1
  obtain ⟨rfl, -, rfl⟩ := e1
  exact ⟨(ok i ti hi).six, lk⟩

theorem keeps_under {w wr w' : World} {lo hi B : Nat} (h : Keeps w wr lo hi) (hb : Below B wr w') (hB : w.heap.size ≤ B) : Keeps w w' lo hi :=
  ⟨hb.os.trans h.os, hb.tape.trans h.tape, hb.output.trans h.output, Nat.le_trans h.size hb.size, fun k hk hd => (hb.block k (by omega)).trans (h.block k hk hd)⟩

theorem own_in {w : World} {lo hi ub uo n : Nat} {f : Nat → Int} (h : Own w lo (some ⟨ub, uo, none⟩) n f) (hh : ub < hi) : OwnIn w lo hi (some ⟨ub, uo, none⟩) n f := by
  rcases h with h0 | ⟨b', o', he, h1, h2, h3⟩
  · exact .inl h0
  · cases he
    exact .inr ⟨ub, uo, rfl, ⟨h1, hh⟩, h2, h3⟩

theorem srcB_under {w w' : World} {S D : Nat} {a : Option Addr} {k : Nat} {B : Nat → Int} (h : SrcB w S a k B) (hb : Below D w w') (hS : S ≤ D) : SrcB w' S a k B := by
  rcases h with h | ⟨b, off, h1, h2, h3, h4⟩
  · exact .inl h
  · have e := hb.block b (by omega)
    exact .inr ⟨b, off, h1, h2, Nat.lt_of_lt_of_le h3 hb.size, fun i hi => ⟨(World.cell?_of_block (w := w) (a := ⟨b, off + i, none⟩) e).trans (h4 i hi).1, (h4 i hi).2⟩⟩

def RetDraw3 (W : World) (b : Nat) (ca : Option Addr) (k kc t : Nat) (e : Ending) (w' : World) : Prop :=
  ∃ (m c t' : Nat) (a : Option Addr) (f : Nat → Int) (ac bu : Int), (12 ≤ m ∧ m ≤ 60 ∧ 0 ≤ ac ∧ ac ≤ 1 ∧ 0 ≤ bu ∧ bu ≤ (m : Int)) ∧ e = .returned (.agg #[.int .i64 (m : Int), .slice a (2 * m) c, .int .i64 ac, .int .i64 bu]) ∧ OwnIn w' W.heap.size w'.heap.size a (2 * m) f ∧
    Blk w' b [.slice ca k kc, .int .i64 (t' : Int)] ∧ t' ≤ t + 300 ∧ Keeps W w' b (b + 1) ∧ 2 * m ≤ c ∧ c ≤ maxLen

set_option maxRecDepth 100000 in
set_option maxHeartbeats 3200000 in
theorem draw3_any (b S : Nat) (ca : Option Addr) (k kc t : Nat) (B : Nat → Int) (w : World) (hB0 : Blk w b [.slice ca k kc, .int .i64 (t : Int)]) (hs : SrcB w S ca k B) (hS : S ≤ b) (hk0 : k ≤ 1048576) (ht : t ≤ 30) :
    Calls Try.prog 183 #[.pointer (some ⟨b, 0, none⟩)] w (RetDraw3 w b ca k kc t) := by
  have hbw := hB0.1
  have S_0 := Lib.hid hB0
  have B_0 := Lib.hid hs
  clear hB0 hs
  go_enter Try.func183, Try.ntmps183
  go_wp2_with fail
  refine (of_any [12, 24, 40, 60] b S _ ca k kc t 4 B _ _ (S_0.out.alloc _) (B_0.out.alloc _) hS hk0 (by omega) rfl (by simp) (by simp) rfl (by simp)).mono ?_
  rintro e w1 ⟨v, rfl, hv, hB, hk⟩
  obtain ⟨m, rfl, hm⟩ : ∃ m : Nat, v = (m : Int) ∧ (m = 12 ∨ m = 24 ∨ m = 40 ∨ m = 60) := by
    simp only [List.mem_cons, List.not_mem_nil, or_false] at hv
    rcases hv with rfl | rfl | rfl | rfl
    · exact ⟨12, rfl, by omega⟩
    · exact ⟨24, rfl, by omega⟩
    · exact ⟨40, rfl, by omega⟩
    · exact ⟨60, rfl, by omega⟩
  have hm1 : m ≤ 60 := by omega
  have hm2 : 12 ≤ m := by omega
  clear hv
  have HK_1 : Hid (Keeps w w1 b (b + 1)) := (((Keeps.refl w b (b + 1)).alloc _).alloc _).trans hk
  have z1 : w.heap.size + 2 ≤ w1.heap.size := by have := hk.size; simp at this; omega
  have S_1 := Lib.hid (src_cast hB)
  have B_1 := Lib.hid (((B_0.out.alloc _).alloc _).keeps hk hS)
  have R_1 := Lib.hid (((Blk.new_at (w.heap.size) (by simp)).alloc _).keeps hk (by omega))
  clear hk hB S_0 B_0
  go_wp2_with fail
  refine (l1New_any m _ (by omega)).mono ?_
  rintro e w2 ⟨u, cu, rfl, ho, hb, hcu, hcm, hnu⟩
  have hk := keeps_of_below hb b (b + 1)
  have HK_2 : Hid (Keeps w w2 b (b + 1)) := HK_1.out.trans hk
  have z2 : w1.heap.size ≤ w2.heap.size := hk.size
  have S_2 := Lib.hid (S_1.out.below hb)
  have B_2 := Lib.hid (B_1.out.below hb)
  have R_2 := Lib.hid (R_1.out.below hb)
  have RW_2 : Hid (OwnIn w2 w1.heap.size w2.heap.size u (2 * m) (fun _ => 0)) := ho.into
  clear hk hb HK_1 S_1 B_1 R_1 ho
  go_wp2_with fail
  refine (next_is _ b S ca k kc (t + 1) 2 B _ rfl (S_2.out.alloc _) (B_2.out.alloc _) hS hk0 (by omega) (by omega) (by omega)).mono ?_
  rintro e w3 ⟨v3, rfl, hv3, hB, hk⟩
  have HK_3 : Hid (Keeps w w3 b (b + 1)) := (HK_2.out.alloc _).trans hk
  have z3 : w2.heap.size + 1 ≤ w3.heap.size := by have := hk.size; simp at this; omega
  have S_3 := Lib.hid (src_cast hB)
  have B_3 := Lib.hid ((B_2.out.alloc _).keeps hk hS)
  have R_3 := Lib.hid ((R_2.out.alloc _).keeps hk (by omega))
  have RW_3 := Lib.hid ((RW_2.out.alloc _).keeps hk (by omega))
  have T_3 := Lib.hid ((Blk.new_at (w2.heap.size) (by simp)).keeps hk (by omega))
  clear hk hB HK_2 S_2 B_2 R_2 RW_2
  have lT := T_3.out.1
  have cT0 := T_3.out.at 0 rfl
  have fT0 := T_3.out.free 0 rfl
  have cT1 := T_3.out.at 1 rfl
  have fT1 := T_3.out.free 1 rfl
  have cT2 := T_3.out.at 2 rfl
  have fT2 := T_3.out.free 2 rfl
  have cT3 := T_3.out.at 3 rfl
  have fT3 := T_3.out.free 3 rfl
  go_upto_region 3 with (fail)
  have S_4 : Hid (Blk (w3.setCell ⟨w2.heap.size, 2, none⟩ (.int .i64 (v3 : Int))) b [.slice ca k kc, .int .i64 ((t + 1 + 1 : Nat) : Int)]) := S_3.out.other (by (try simp); (try omega)) _
  have B_4 : Hid (SrcB (w3.setCell ⟨w2.heap.size, 2, none⟩ (.int .i64 (v3 : Int))) S ca k B) := B_3.out.setCell (by (try simp); (try omega)) _
  have R_4 : Hid (Blk (w3.setCell ⟨w2.heap.size, 2, none⟩ (.int .i64 (v3 : Int))) w.heap.size [.int .i64 0, .slice none 0 0, .int .i64 0, .int .i64 0]) := R_3.out.other (by (try simp); (try omega)) _
  have T_4 : Hid (Blk (w3.setCell ⟨w2.heap.size, 2, none⟩ (.int .i64 (v3 : Int))) w2.heap.size [.int .i64 (m : Int), .slice u (2 * m) cu, .int .i64 (v3 : Int), .int .i64 0]) := T_3.out.set 2 (by simp) _
  have RW_4 : Hid (OwnIn (w3.setCell ⟨w2.heap.size, 2, none⟩ (.int .i64 (v3 : Int))) w1.heap.size w2.heap.size u (2 * m) (fun _ => 0)) := RW_3.out.setCell (by (try simp); (try omega)) _
  have HK_4 : Hid (Keeps w (w3.setCell ⟨w2.heap.size, 2, none⟩ (.int .i64 (v3 : Int))) b (b + 1)) := HK_3.out.setNew (by (try simp); (try omega)) _
  have z4 : w3.heap.size ≤ (w3.setCell ⟨w2.heap.size, 2, none⟩ (.int .i64 (v3 : Int))).heap.size := by simp
  clear HK_3 S_3 B_3 R_3 RW_3 T_3 lT cT0 fT0 cT1 fT1 cT2 fT2 cT3 fT3
  generalize w3.setCell ⟨w2.heap.size, 2, none⟩ (.int .i64 (v3 : Int)) = w4 at *
  go_wp2_with fail
  refine (next_is _ b S ca k kc (t + 1 + 1) 9 B _ rfl S_4.out B_4.out hS hk0 (by omega) (by omega) (by omega)).mono ?_
  rintro e w5 ⟨v5, rfl, hv5, hB, hk⟩
  have HK_5 : Hid (Keeps w w5 b (b + 1)) := HK_4.out.trans hk
  have z5 : w4.heap.size ≤ w5.heap.size := hk.size
  have S_5 := Lib.hid (src_cast hB)
  have B_5 := Lib.hid (B_4.out.keeps hk hS)
  have R_5 := Lib.hid (R_4.out.keeps hk (by omega))
  have T_5 := Lib.hid (T_4.out.keeps hk (by omega))
  have RW_5 := Lib.hid (RW_4.out.keeps hk (by omega))
  clear hk hB S_4 B_4 R_4 T_4 RW_4 HK_4
  obtain ⟨ub, uo, rfl, hub, hubw, _⟩ := ownIn_some RW_5.out (by omega)
  have hub1 := hub.1; have hub2 := hub.2
  clear hub
  go_wp2
  go_loopw [4] (fun q wr => ∃ (i t' U : Nat) (f : Nat → Int), i ≤ 8 ∧ q = .int .i64 (i : Int) ∧ t' + 7 * i ≤ t + 60 ∧ U ≤ m ∧ w5.heap.size ≤ wr.heap.size ∧ (∀ j, Word (f j)) ∧ Hid (Blk wr b [.slice ca k kc, .int .i64 ((t' : Nat) : Int)]) ∧ Hid (SrcB wr S ca k B) ∧ Hid (Blk wr w.heap.size [.int .i64 0, .slice none 0 0, .int .i64 0, .int .i64 0]) ∧ Hid (Blk wr w2.heap.size [.int .i64 (m : Int), .slice (some ⟨ub, uo, none⟩) (2 * m) cu, .int .i64 (v3 : Int), .int .i64 (U : Int)]) ∧ Hid (OwnIn wr w1.heap.size w2.heap.size (some ⟨ub, uo, none⟩) (2 * m) f) ∧ Hid (Keeps w wr b (b + 1))) (fun q _ => (intOf q).toNat)
  case atStart => exact ⟨v5, _, 0, _, by omega, rfl, by omega, by omega, Nat.le_refl _, (fun j => (show Word 0 by unfold Word; omega)), S_5, B_5, R_5, T_5, RW_5, HK_5⟩
  case round =>
    obtain ⟨i, t', U, f, hi, rfl, ht', hU, zr, hf, S_r, B_r, R_r, T_r, RW_r, HK_r⟩ := hrel
    have HF := Lib.hid hf
    clear hf S_5 B_5 R_5 T_5 RW_5 HK_5
    by_cases h0 : 0 < i
    · have h0' : (0 : Int) < (i : Int) := by omega
      go_wp2_with fail
      refine (l2Draw_any b S ca k kc t' B _ S_r.out B_r.out hS hk0 (by omega)).mono ?_
      rintro e w8 ⟨s, mm, o, hh, rfl, hok, hB, hk⟩
      have z8 : wr.heap.size ≤ w8.heap.size := hk.size
      have S_8 := Lib.hid hB; have B_8 := Lib.hid (B_r.out.keeps hk hS); have R_8 := Lib.hid (R_r.out.keeps hk (by omega)); have T_8 := Lib.hid (T_r.out.keeps hk (by omega)); have RW_8 := Lib.hid (RW_r.out.keeps hk (by omega)); have HK_8 := Lib.hid (HK_r.out.trans hk)
      have HOK := Lib.hid hok
      obtain ⟨⟨hs0, hs12⟩, _, _, hh0, hh1⟩ := hok
      clear hB hk S_r B_r R_r T_r RW_r HK_r
      go_upto_region 7 with (fail)
      have S_9 := Lib.hid (S_8.out.alloc (.cells #[.int .i64 s, .int .i64 mm, .int .i64 o, .int .i64 hh] 109)); have B_9 := Lib.hid (B_8.out.alloc (.cells #[.int .i64 s, .int .i64 mm, .int .i64 o, .int .i64 hh] 109)); have R_9 := Lib.hid (R_8.out.alloc (.cells #[.int .i64 s, .int .i64 mm, .int .i64 o, .int .i64 hh] 109)); have T_9 := Lib.hid (T_8.out.alloc (.cells #[.int .i64 s, .int .i64 mm, .int .i64 o, .int .i64 hh] 109)); have RW_9 := Lib.hid (RW_8.out.alloc (.cells #[.int .i64 s, .int .i64 mm, .int .i64 o, .int .i64 hh] 109)); have HK_9 := Lib.hid (HK_8.out.alloc (.cells #[.int .i64 s, .int .i64 mm, .int .i64 o, .int .i64 hh] 109))
      have H_9 : Hid (Blk (w8.alloc (.cells #[.int .i64 s, .int .i64 mm, .int .i64 o, .int .i64 hh] 109)) w8.heap.size [.int .i64 s, .int .i64 mm, .int .i64 o, .int .i64 hh]) := Lib.hid (Blk.new_at (w := w8) (w8.heap.size) rfl)
      have z9 : w8.heap.size + 1 ≤ (w8.alloc (.cells #[.int .i64 s, .int .i64 mm, .int .i64 o, .int .i64 hh] 109)).heap.size := by simp
      clear S_8 B_8 R_8 T_8 RW_8 HK_8
      generalize (w8.alloc (.cells #[.int .i64 s, .int .i64 mm, .int .i64 o, .int .i64 hh] 109)) = w9 at *
      go_cut [5] (fun s5 wx => s5 = .pointer (some ⟨w8.heap.size, 0, none⟩) ∧ w9.heap.size ≤ wx.heap.size ∧ ∃ X : Nat, X ≤ 12 ∧ Hid (Blk wx w8.heap.size [.int .i64 (X : Int), .int .i64 mm, .int .i64 o, .int .i64 hh]) ∧ Hid (Blk wx b [.slice ca k kc, .int .i64 ((t' + 1 + 1 + 1 + 1 + 1 : Nat) : Int)]) ∧ Hid (SrcB wx S ca k B) ∧ Hid (Blk wx w.heap.size [.int .i64 0, .slice none 0 0, .int .i64 0, .int .i64 0]) ∧ Hid (Blk wx w2.heap.size [.int .i64 (m : Int), .slice (some ⟨ub, uo, none⟩) (2 * m) cu, .int .i64 (v3 : Int), .int .i64 (U : Int)]) ∧ Hid (OwnIn wx w1.heap.size w2.heap.size (some ⟨ub, uo, none⟩) (2 * m) f) ∧ Hid (Keeps w wx b (b + 1)))
      case first =>
        have cH0 := H_9.out.at 0 rfl; have fH0 := H_9.out.free 0 rfl; have lH := H_9.out.1
        go_region_law (first | (go_simp; go_at_call 79; refine (of_drew [1, 2, 3] b S _ ca k kc (t' + 1 + 1 + 1 + 1) 3 B _ w9 S_9.out.drew B_9.out.drew hS hk0 (by omega) rfl (by simp) (by simp) rfl (by simp)).mono ?_; rintro e w10 ⟨x, rfl, mx, hB, hk⟩; have hx : 1 ≤ x ∧ x ≤ 3 := (by simp only [List.mem_cons, List.mem_nil_iff, or_false] at mx; omega); have z10 : w9.heap.size + 1 ≤ w10.heap.size := (by have := hk.size; simp at this; omega); have S_10 := Lib.hid (src_cast hB); have B_10 := Lib.hid ((B_9.out.drew.alloc _).keeps hk hS); have R_10 := Lib.hid ((R_9.out.drew.alloc _).keeps hk (by omega)); have T_10 := Lib.hid ((T_9.out.drew.alloc _).keeps hk (by omega)); have RW_10 := Lib.hid ((RW_9.out.drew.alloc _).keeps hk (by omega)); have H_10 := Lib.hid ((H_9.out.drew.alloc _).keeps hk (by omega)); have HK_10 := Lib.hid (((HK_9.out.trans (keeps_of_below (Below.refl _ _).drew _ _)).alloc _).trans hk); have gH0 := H_10.out.at 0 rfl; have gF0 := H_10.out.free 0 rfl; have gL := H_10.out.1; clear mx hB hk) | (go_at_call 79; refine (of_drew [1, 2, 3] b S _ ca k kc (t' + 1 + 1 + 1 + 1) 3 B _ w9 S_9.out.drew B_9.out.drew hS hk0 (by omega) rfl (by simp) (by simp) rfl (by simp)).mono ?_; rintro e w10 ⟨x, rfl, mx, hB, hk⟩; have hx : 1 ≤ x ∧ x ≤ 3 := (by simp only [List.mem_cons, List.mem_nil_iff, or_false] at mx; omega); have z10 : w9.heap.size + 1 ≤ w10.heap.size := (by have := hk.size; simp at this; omega); have S_10 := Lib.hid (src_cast hB); have B_10 := Lib.hid ((B_9.out.drew.alloc _).keeps hk hS); have R_10 := Lib.hid ((R_9.out.drew.alloc _).keeps hk (by omega)); have T_10 := Lib.hid ((T_9.out.drew.alloc _).keeps hk (by omega)); have RW_10 := Lib.hid ((RW_9.out.drew.alloc _).keeps hk (by omega)); have H_10 := Lib.hid ((H_9.out.drew.alloc _).keeps hk (by omega)); have HK_10 := Lib.hid (((HK_9.out.trans (keeps_of_below (Below.refl _ _).drew _ _)).alloc _).trans hk); have gH0 := H_10.out.at 0 rfl; have gF0 := H_10.out.free 0 rfl; have gL := H_10.out.1; clear mx hB hk) | (go_simp; go_at_call 150; refine (min_any s x _).mono ?_; rintro e w' ⟨⟨z, hz, rfl⟩, rfl⟩) | (go_at_call 150; refine (min_any s x _).mono ?_; rintro e w' ⟨⟨z, hz, rfl⟩, rfl⟩))
        all_goals (obtain ⟨X, rfl⟩ : ∃ X : Nat, z = X := ⟨z.toNat, by omega⟩; go_wp2_with fail; go_meet; exact ⟨rfl, by (try simp); omega, X, by omega, H_10.out.set 0 (by simp) _, S_10.out.other (by (try simp); (try omega)) _, B_10.out.setCell (by (try simp); (try omega)) _, R_10.out.other (by (try simp); (try omega)) _, T_10.out.other (by (try simp); (try omega)) _, RW_10.out.setCell (by (try simp); (try omega)) _, HK_10.out.setNew (by (try simp); (try omega)) _⟩)
      case rest =>
        obtain ⟨rfl, z11, X, hX, H_11, S_11, B_11, R_11, T_11, RW_11, HK_11⟩ := hcut
        clear S_9 B_9 R_9 T_9 RW_9 HK_9 H_9
        rename World => w11
        have lH := H_11.out.1; have cH0 := H_11.out.at 0 rfl; have fH0 := H_11.out.free 0 rfl; have cH1 := H_11.out.at 1 rfl; have fH1 := H_11.out.free 1 rfl; have cH2 := H_11.out.at 2 rfl; have fH2 := H_11.out.free 2 rfl; have cH3 := H_11.out.at 3 rfl; have fH3 := H_11.out.free 3 rfl
        go_wp2_with fail
        (with_reducible refine (power_any X _ hX).mono ?_)
        rintro e w' ⟨rfl, rfl⟩
        have hp1 : 1 ≤ 2 ^ X := Nat.one_le_two_pow
        have hp2 : 2 ^ X ≤ 4096 := (Nat.pow_le_pow_right (n := 2) (by omega) hX)
        have HP2 := Lib.hid (P2_nat X)
        go_wp2_with fail
        refine (next_is (P2 (X : Int)) b S ca k kc (t' + 1 + 1 + 1 + 1 + 1) (2 ^ X) B _ HP2.out S_11.out B_11.out hS hk0 (by omega) hp1 (by omega)).mono ?_
        rintro e w12 ⟨v12, rfl, hv12, hB, hk⟩
        have z12 : w11.heap.size ≤ w12.heap.size := hk.size
        have S_12 := Lib.hid (src_cast hB); have B_12 := Lib.hid (B_11.out.keeps hk hS); have HK_12 := Lib.hid (HK_11.out.trans hk); have R_12 := Lib.hid (R_11.out.keeps hk (by omega)); have T_12 := Lib.hid (T_11.out.keeps hk (by omega)); have RW_12 := Lib.hid (RW_11.out.keeps hk (by omega)); have H_12 := Lib.hid (H_11.out.keeps hk (by omega))
        clear hk hB S_11 B_11 R_11 T_11 RW_11 HK_11 H_11 lH cH0 fH0 cH1 fH1 cH2 fH2 cH3 fH3
        have lH := H_12.out.1; have cH0 := H_12.out.at 0 rfl; have fH0 := H_12.out.free 0 rfl; have cH1 := H_12.out.at 1 rfl; have fH1 := H_12.out.free 1 rfl; have cH2 := H_12.out.at 2 rfl; have fH2 := H_12.out.free 2 rfl; have cH3 := H_12.out.at 3 rfl; have fH3 := H_12.out.free 3 rfl
        go_upto_region 9 with (fail)
        have S_13 := Lib.hid (S_12.out.other (p := ⟨w8.heap.size, 1, none⟩) (by (try simp); (try omega)) (.int .i64 (v12 : Int))); have B_13 := Lib.hid (B_12.out.setCell (p := ⟨w8.heap.size, 1, none⟩) (by (try simp); (try omega)) (.int .i64 (v12 : Int))); have R_13 := Lib.hid (R_12.out.other (p := ⟨w8.heap.size, 1, none⟩) (by (try simp); (try omega)) (.int .i64 (v12 : Int))); have T_13 := Lib.hid (T_12.out.other (p := ⟨w8.heap.size, 1, none⟩) (by (try simp); (try omega)) (.int .i64 (v12 : Int))); have RW_13 := Lib.hid (RW_12.out.setCell (p := ⟨w8.heap.size, 1, none⟩) (by (try simp); (try omega)) (.int .i64 (v12 : Int))); have HK_13 := Lib.hid (HK_12.out.setNew (p := ⟨w8.heap.size, 1, none⟩) (by (try simp); (try omega)) (.int .i64 (v12 : Int)))
        have H_13 : Hid (Blk (w12.setCell ⟨w8.heap.size, 1, none⟩ (.int .i64 (v12 : Int))) w8.heap.size [.int .i64 (X : Int), .int .i64 (v12 : Int), .int .i64 o, .int .i64 hh]) := Lib.hid (H_12.out.set 1 (by simp) _)
        have z13 : w12.heap.size ≤ (w12.setCell ⟨w8.heap.size, 1, none⟩ (.int .i64 (v12 : Int))).heap.size := by simp
        clear S_12 B_12 R_12 T_12 RW_12 HK_12 H_12 lH cH0 fH0 cH1 fH1 cH2 fH2 cH3 fH3
        generalize (w12.setCell ⟨w8.heap.size, 1, none⟩ (.int .i64 (v12 : Int))) = w13 at *
        have lH := H_13.out.1; have cH0 := H_13.out.at 0 rfl; have fH0 := H_13.out.free 0 rfl; have cH1 := H_13.out.at 1 rfl; have fH1 := H_13.out.free 1 rfl; have cH2 := H_13.out.at 2 rfl; have fH2 := H_13.out.free 2 rfl; have cH3 := H_13.out.at 3 rfl; have fH3 := H_13.out.free 3 rfl
        go_wp2_with fail
        refine (next_is 2 b S ca k kc (t' + 1 + 1 + 1 + 1 + 1 + 1) 2 B _ rfl S_13.out B_13.out hS hk0 (by omega) (by omega) (by omega)).mono ?_
        rintro e w14 ⟨v14, rfl, hv14, hB, hk⟩
        have z14 : w13.heap.size ≤ w14.heap.size := hk.size
        have S_14 := Lib.hid (src_cast hB); have B_14 := Lib.hid (B_13.out.keeps hk hS); have HK_14 := Lib.hid (HK_13.out.trans hk); have R_14 := Lib.hid (R_13.out.keeps hk (by omega)); have T_14 := Lib.hid (T_13.out.keeps hk (by omega)); have RW_14 := Lib.hid (RW_13.out.keeps hk (by omega)); have H_14 := Lib.hid (H_13.out.keeps hk (by omega))
        clear hk hB S_13 B_13 R_13 T_13 RW_13 HK_13 H_13 lH cH0 fH0 cH1 fH1 cH2 fH2 cH3 fH3
        have lH := H_14.out.1; have cH0 := H_14.out.at 0 rfl; have fH0 := H_14.out.free 0 rfl; have cH1 := H_14.out.at 1 rfl; have fH1 := H_14.out.free 1 rfl; have cH2 := H_14.out.at 2 rfl; have fH2 := H_14.out.free 2 rfl; have cH3 := H_14.out.at 3 rfl; have fH3 := H_14.out.free 3 rfl
        go_upto_region 10 with (fail)
        have S_15 := Lib.hid (S_14.out.other (p := ⟨w8.heap.size, 2, none⟩) (by (try simp); (try omega)) (.int .i64 (v14 : Int))); have B_15 := Lib.hid (B_14.out.setCell (p := ⟨w8.heap.size, 2, none⟩) (by (try simp); (try omega)) (.int .i64 (v14 : Int))); have R_15 := Lib.hid (R_14.out.other (p := ⟨w8.heap.size, 2, none⟩) (by (try simp); (try omega)) (.int .i64 (v14 : Int))); have T_15 := Lib.hid (T_14.out.other (p := ⟨w8.heap.size, 2, none⟩) (by (try simp); (try omega)) (.int .i64 (v14 : Int))); have RW_15 := Lib.hid (RW_14.out.setCell (p := ⟨w8.heap.size, 2, none⟩) (by (try simp); (try omega)) (.int .i64 (v14 : Int))); have HK_15 := Lib.hid (HK_14.out.setNew (p := ⟨w8.heap.size, 2, none⟩) (by (try simp); (try omega)) (.int .i64 (v14 : Int)))
        have H_15 : Hid (Blk (w14.setCell ⟨w8.heap.size, 2, none⟩ (.int .i64 (v14 : Int))) w8.heap.size [.int .i64 (X : Int), .int .i64 (v12 : Int), .int .i64 (v14 : Int), .int .i64 hh]) := Lib.hid (H_14.out.set 2 (by simp) _)
        have z15 : w14.heap.size ≤ (w14.setCell ⟨w8.heap.size, 2, none⟩ (.int .i64 (v14 : Int))).heap.size := by simp
        clear S_14 B_14 R_14 T_14 RW_14 HK_14 H_14 lH cH0 fH0 cH1 fH1 cH2 fH2 cH3 fH3
        generalize (w14.setCell ⟨w8.heap.size, 2, none⟩ (.int .i64 (v14 : Int))) = w15 at *
        have T_d := Lib.hid T_15.out.drew; have H_d := Lib.hid H_15.out.drew; have RW_d := Lib.hid RW_15.out.drew; have S_d := Lib.hid S_15.out.drew; have B_d := Lib.hid B_15.out.drew; have R_d := Lib.hid R_15.out.drew; have HK_d := Lib.hid (HK_15.out.trans (keeps_of_below (Below.refl _ _).drew _ _))
        have lT := T_15.out.1; have lH := H_15.out.1
        have HXB := Lib.hid (show 0 ≤ (X : Int) ∧ (X : Int) ≤ 12 from ⟨by omega, by omega⟩)
        have hwS : IntKind.i64.wrap ((U : Int) + ((X : Int) + 2)) = (U : Int) + ((X : Int) + 2) := IntWalk.i64_in _ (by omega)
        have hze : w8.heap.size ≤ w15.heap.size := by omega
        obtain ⟨P, hP⟩ : ∃ P : Nat, baseI (v3 : Int) (m : Int) = (P : Int) := ⟨(baseI (v3 : Int) (m : Int)).toNat, by have := baseI_bd (ac := (v3 : Int)) (h := (m : Int)) (by omega); omega⟩
        have hPm : P ≤ m := by have := baseI_bd (ac := (v3 : Int)) (h := (m : Int)) (by omega); omega
        have HPH := Lib.hid hP
        clear hP
        by_cases hroom : U + (X + 2) ≤ m
        · have hr1 : (U : Int) + ((X : Int) + 2) ≤ (m : Int) := by omega
          go_wp2_with fail
          go_region_held3 (fun w' => w'.cell? ⟨w2.heap.size, 0, none⟩ = some (.int .i64 (m : Int)) ∧ w'.cell? ⟨w2.heap.size, 3, none⟩ = some (.int .i64 (U : Int)))
            (first | (with_reducible exact ⟨T_15.out.at 0 rfl, T_15.out.at 3 rfl⟩) | (with_reducible exact ⟨T_d.out.at 0 rfl, T_d.out.at 3 rfl⟩))
            (first | (go_at_call 195; refine (l2Words_any w8.heap.size (X : Int) (v12 : Int) (v14 : Int) hh _ H_d.out HXB.out).mono ?_; rintro e w' ⟨rfl, rfl⟩))
          go_wp2_with fail
          refine (l3Put_any w1.heap.size w2.heap.size w8.heap.size ub uo P U (P + U) (m : Int) (v3 : Int) (X : Int) (v12 : Int) (v14 : Int) hh (2 * m) cu f _ ⟨by omega, hub1, by omega, by omega, by omega⟩ (by (try simp); omega) (by (try simp); omega) T_d.out H_d.out RW_d.out.out (by omega) (by omega) (by omega) (by omega) HPH.out (by omega) rfl (by omega) ⟨HXB.out, ⟨by omega, by have := HP2.out; omega⟩, ⟨by omega, by omega⟩, by omega, by omega⟩).mono ?_
          rintro e w16 ⟨rfl, hT, ho, hb⟩
          have z16 : w15.heap.size ≤ w16.heap.size := by have := hb.size; simpa using this
          have S_16 := Lib.hid (blk_under S_d.out hb (by omega)); have B_16 := Lib.hid (srcB_under B_d.out hb (by omega)); have R_16 := Lib.hid (blk_under R_d.out hb (by omega)); have HK_16 := Lib.hid (keeps_under HK_d.out hb (by omega)); have RW_16 := Lib.hid (own_in ho hub2)
          have T_16 : Hid (Blk w16 w2.heap.size [.int .i64 (m : Int), .slice (some ⟨ub, uo, none⟩) (2 * m) cu, .int .i64 (v3 : Int), .int .i64 ((U + (X + 2) : Nat) : Int)]) := Lib.hid (by rw [show ((U + (X + 2) : Nat) : Int) = (U : Int) + ((X : Int) + 2) from by omega]; exact hT)
          have HF' := Lib.hid (upd_word (upd_word HF.out (P + U) (1 + 2 * ((X : Int) + 16 * ((v12 : Int) + 4096 * (v14 : Int)))) (by unfold Word; omega)) (P + U + 1) hh (by unfold Word; omega))
          clear hT ho hb hwS
          go_wp2
          go_roundw
          case rel => exact ⟨i - 1, t' + 1 + 1 + 1 + 1 + 1 + 1 + 1, U + (X + 2), _, by omega, by go_num, by omega, by omega, by omega, HF'.out, S_16, B_16, R_16, T_16, RW_16, HK_16⟩
          case measure => simp [intOf]; omega
        · have hr1 : ¬ (U : Int) + ((X : Int) + 2) ≤ (m : Int) := by omega
          go_wp2_with fail
          go_region_held3 (fun w' => w'.cell? ⟨w2.heap.size, 0, none⟩ = some (.int .i64 (m : Int)) ∧ w'.cell? ⟨w2.heap.size, 3, none⟩ = some (.int .i64 (U : Int)))
            (first | (with_reducible exact ⟨T_15.out.at 0 rfl, T_15.out.at 3 rfl⟩) | (with_reducible exact ⟨T_d.out.at 0 rfl, T_d.out.at 3 rfl⟩))
            (first | (go_at_call 195; refine (l2Words_any w8.heap.size (X : Int) (v12 : Int) (v14 : Int) hh _ H_d.out HXB.out).mono ?_; rintro e w' ⟨rfl, rfl⟩))
          go_wp2
          go_roundw
          case rel => exact ⟨i - 1, t' + 1 + 1 + 1 + 1 + 1 + 1 + 1, U, f, by omega, by go_num, by omega, by omega, by (try simp); omega, HF.out, S_d, B_d, R_d, T_d, RW_d, HK_d⟩
          case measure => simp [intOf]; omega
    · obtain rfl : i = 0 := by omega
      obtain ⟨P, hP⟩ : ∃ P : Nat, baseI (v3 : Int) (m : Int) = (P : Int) := ⟨(baseI (v3 : Int) (m : Int)).toNat, by have := baseI_bd (ac := (v3 : Int)) (h := (m : Int)) (by omega); omega⟩
      have hPm : P ≤ m := by have := baseI_bd (ac := (v3 : Int)) (h := (m : Int)) (by omega); omega
      have HPH := Lib.hid hP
      clear hP
      have HWD : Hid (∀ j, j < 2 * m → f j ≤ 9223372036854775807) := Lib.hid (fun j _ => by have := HF.out j; unfold Word at this; omega)
      have HCM := Lib.hid hcm
      go_wp2_with fail
      refine (l3Objects_any w2.heap.size P U (m : Int) (v3 : Int) ub uo (2 * m) cu f _ T_r.out RW_r.out.src (by omega) (by omega) (by omega) (by omega) HPH.out (by omega) (by omega) hcu HCM.out HWD.out).mono ?_
      rintro e w8 ⟨hb, hr⟩
      have z8 : wr.heap.size ≤ w8.heap.size := hb.size
      have S_8 := Lib.hid (S_r.out.below hb); have B_8 := Lib.hid (B_r.out.below hb); have R_8 := Lib.hid (R_r.out.below hb); have T_8 := Lib.hid (T_r.out.below hb); have RW_8 := Lib.hid (RW_r.out.below hb); have HK_8 := Lib.hid (keeps_under HK_r.out hb (by omega))
      clear hb S_r B_r R_r T_r RW_r HK_r
      rcases hr with ⟨_, rfl⟩ | ⟨v, M, hp, rfl, hown, hfl⟩
      · go_wp2
        go_loopw [8] (fun p wr2 => p = .int .i64 0 ∧ wr2 = w8) (fun _ _ => 0)
        case atStart => exact ⟨rfl, rfl⟩
        case round =>
          obtain ⟨rfl, rfl⟩ := hrel
          have cR0 := R_8.out.at 0 rfl; have cR1 := R_8.out.at 1 rfl; have cR2 := R_8.out.at 2 rfl; have cR3 := R_8.out.at 3 rfl; have fR0 := R_8.out.free 0 rfl; have fR1 := R_8.out.free 1 rfl; have fR2 := R_8.out.free 2 rfl; have fR3 := R_8.out.free 3 rfl; have lR := R_8.out.1
          have cT0 := T_8.out.at 0 rfl; have cT1 := T_8.out.at 1 rfl; have cT2 := T_8.out.at 2 rfl; have cT3 := T_8.out.at 3 rfl; have lT := T_8.out.1
          go_wp2
          refine bodyPost_ret (v := .agg #[.int .i64 (m : Int), .slice (some ⟨ub, uo, none⟩) (2 * m) cu, .int .i64 (v3 : Int), .int .i64 (U : Int)]) (by simp [results, Try.results183, go_sem, cR0, cR1, cR2, cR3]) rfl ⟨m, cu, t', some ⟨ub, uo, none⟩, f, _, _, by omega, rfl, ?_, ?_, by omega, ?_, hcu, HCM.out⟩
          · refine OwnIn.widen (lo := w1.heap.size) (hi := w2.heap.size) ?_ (by omega) (by (try simp); (try omega))
            repeat (with_reducible refine OwnIn.setCell ?_ (.inl (by (try simp); (try omega))) _)
            exact RW_8.out
          · repeat (with_reducible refine Blk.other ?_ (by (try simp); (try omega)) _)
            exact S_8.out
          · repeat (with_reducible refine Keeps.setNew ?_ (by (try simp); (try omega)) _)
            exact HK_8.out
      · obtain ⟨aq, kq, hv⟩ := row_nil hown
        have hlM : M.length ≤ 60 := by have := parse_length (P + U - P) P _ (Nat.le_refl _) hp; simp at this; omega
        have htot : tot M 0 ≤ 60 := by have := tot_zero hp; omega
        have hpk := parse_ok hp (show P + U ≤ 2 * m by omega) (fun j _ => HF.out j)
        have HPK := Lib.hid hpk
        have OW_8 := Lib.hid hown
        clear hpk hp hfl hown
        subst hv
        obtain ⟨Bq, hBq⟩ : ∃ Bq, Bq = wr.heap.size := ⟨_, rfl⟩
        rw [← hBq] at OW_8
        have hB1 : w2.heap.size ≤ Bq := by omega
        have hB2 : Bq ≤ w8.heap.size := by omega
        clear hBq
        go_wp2
        go_loopw [8] (fun p wq => ∃ (i t2 : Nat) (g : Nat → Int), i ≤ M.length ∧ p = .int .i64 (i : Int) ∧ t2 + 3 * tot M i ≤ t + 240 ∧ w8.heap.size ≤ wq.heap.size ∧ Hid (Blk wq b [.slice ca k kc, .int .i64 ((t2 : Nat) : Int)]) ∧ Hid (SrcB wq S ca k B) ∧ Hid (Blk wq w.heap.size [.int .i64 0, .slice none 0 0, .int .i64 0, .int .i64 0]) ∧ Hid (Blk wq w2.heap.size [.int .i64 (m : Int), .slice (some ⟨ub, uo, none⟩) (2 * m) cu, .int .i64 (v3 : Int), .int .i64 (U : Int)]) ∧ Hid (OwnIn wq w1.heap.size w2.heap.size (some ⟨ub, uo, none⟩) (2 * m) g) ∧ Hid (Keeps w wq b (b + 1)) ∧ Hid (wq.ownsRow Bq 111 6 (.slice aq M.length kq) M.length (rowCells M))) (fun p _ => M.length - (intOf p).toNat)
        case atStart => exact ⟨0, t', f, Nat.zero_le _, rfl, by omega, Nat.le_refl _, S_8, B_8, R_8, T_8, RW_8, HK_8, OW_8⟩
        case round =>
          obtain ⟨i, t2, g, hi9, rfl, ht2, zq, S_q, B_q, R_q, T_q, RW_q, HK_q, OW_q⟩ := hrel
          clear S_8 B_8 R_8 T_8 RW_8 HK_8 OW_8
          by_cases hlt : i < M.length
          · have hlt' : (i : Int) < (M.length : Int) := by omega
            have hi0 : (0 : Int) ≤ (i : Int) := by omega
            obtain ⟨gq, cq, e1, hgq, lq, oq⟩ := row_form OW_q.out (by omega)
            simp only [Value.slice.injEq] at e1
            obtain ⟨rfl, -, rfl⟩ := e1
            have hget := List.getElem?_eq_getElem hlt
            have hts := tot_step hget
            have hmem : M[i].x ∈ M.map OM.x := List.mem_map_of_mem (List.getElem_mem hlt)
            have hpx := HPK.out _ hmem
            have hsx := (oq i M[i] hget).six
            generalize hTI : M[i] = ti at *
            have HGET := Lib.hid hget
            obtain ⟨⟨p1, p2⟩, ⟨p3, p4⟩, ⟨p5, p6⟩, ⟨p7, p8⟩, -⟩ := hpx
            clear hmem hTI hget oq
            have HSX := Lib.hid hsx
            obtain ⟨x0, x1, x2, x3, x4, x5⟩ := hsx
            go_wp2
            go_loopw [10] (fun p wk => ∃ (k9 t3 : Nat) (g' : Nat → Int), k9 ≤ ti.x.s.toNat ∧ p = .int .i64 (k9 : Int) ∧ t3 + 3 * (ti.x.s.toNat - k9) + 3 * tot M (i + 1) ≤ t + 240 ∧ w8.heap.size ≤ wk.heap.size ∧ Hid (Blk wk b [.slice ca k kc, .int .i64 ((t3 : Nat) : Int)]) ∧ Hid (SrcB wk S ca k B) ∧ Hid (Blk wk w.heap.size [.int .i64 0, .slice none 0 0, .int .i64 0, .int .i64 0]) ∧ Hid (Blk wk w2.heap.size [.int .i64 (m : Int), .slice (some ⟨ub, uo, none⟩) (2 * m) cu, .int .i64 (v3 : Int), .int .i64 (U : Int)]) ∧ Hid (OwnIn wk w1.heap.size w2.heap.size (some ⟨ub, uo, none⟩) (2 * m) g') ∧ Hid (Keeps w wk b (b + 1)) ∧ Hid (wk.ownsRow Bq 111 6 (.slice (some ⟨gq, 0, none⟩) M.length kq) M.length (rowCells M))) (fun p _ => ti.x.s.toNat - (intOf p).toNat)
            case atStart => exact ⟨0, t2, g, Nat.zero_le _, rfl, by omega, zq, S_q, B_q, R_q, T_q, RW_q, HK_q, OW_q⟩
            case round =>
              obtain ⟨k9, t3, g', hk9, rfl, ht3, zk, S_k, B_k, R_k, T_k, RW_k, HK_k, OW_k⟩ := hrel
              clear x0 x1 x2 x3 x4 x5
              obtain ⟨gq', cq', e1, _, lk, ok⟩ := row_form OW_k.out (by omega)
              simp only [Value.slice.injEq, Option.some.injEq, Addr.mk.injEq, and_true] at e1
              obtain ⟨rfl, -, rfl⟩ := e1
              have hsk := (ok i ti HGET.out).six
              have HSK := Lib.hid hsk
              obtain ⟨x0, x1, x2, x3, x4, x5⟩ := hsk
              by_cases hkl : k9 < ti.x.s.toNat
              · have hkl' : (k9 : Int) < ti.x.s := by omega
                have hk0' : (0 : Int) ≤ (k9 : Int) := by omega
                go_wp2_with fail
                refine (next_is 99 b S ca k kc t3 99 B _ rfl S_k.out B_k.out hS hk0 (by omega) (by omega) (by omega)).mono ?_
                rintro e w20 ⟨v20, rfl, hv20, hB, hk⟩
                have z20 : wr.heap.size + 0 ≤ w20.heap.size := by have := hk.size; (try simp at this); omega
                have S_20 := Lib.hid (src_cast hB); have B_20 := Lib.hid (B_k.out.keeps hk hS); have HK_20 := Lib.hid (HK_k.out.trans hk); have R_20 := Lib.hid (R_k.out.keeps hk (by omega)); have T_20 := Lib.hid (T_k.out.keeps hk (by omega)); have RW_20 := Lib.hid (RW_k.out.keeps hk (by omega)); have OW_20 := Lib.hid (ownsRow_keeps OW_k.out hk (by omega))
                clear hk hB S_k B_k R_k T_k RW_k HK_k OW_k HSK x0 x1 x2 x3 x4 x5
                go_wp2_with fail
                refine (of_any [5, -3, (v20 : Int)] b S _ ca k kc (t3 + 1) 3 B _ _ S_20.out B_20.out hS hk0 (by omega) rfl (by simp) (by simp) rfl (by simp)).mono ?_
                rintro e w21 ⟨v21, rfl, _, hB, hk⟩
                have z21 : w20.heap.size + 1 ≤ w21.heap.size := by have := hk.size; (try simp at this); omega
                have S_21 := Lib.hid (src_cast hB); have B_21 := Lib.hid ((B_20.out.alloc _).keeps hk hS); have HK_21 := Lib.hid ((HK_20.out.alloc _).trans hk); have R_21 := Lib.hid ((R_20.out.alloc _).keeps hk (by omega)); have T_21 := Lib.hid ((T_20.out.alloc _).keeps hk (by omega)); have RW_21 := Lib.hid ((RW_20.out.alloc _).keeps hk (by omega)); have OW_21 := Lib.hid (ownsRow_keeps (ownsRow_below OW_20.out ((Below.refl _ _).alloc (Nat.le_refl _) _)) hk (by omega))
                clear hk hB S_20 B_20 R_20 T_20 RW_20 HK_20 OW_20
                have hs21 := row_six OW_21.out HGET.out
                have lq21 := hs21.2
                have HP4 := Lib.hid (show 0 ≤ ti.x.m ∧ ti.x.m ≤ 4095 from ⟨p3, p4⟩)
                go_wp2_with fail
                refine (l2Pointer_at gq (i * 6 + 1) k9 ti.x.m _ _ hs21.1.2.2.1 HP4.out (by omega) rfl).mono ?_
                rintro e w' ⟨rfl, q, rfl⟩
                have hdn := drewN_below w21 q
                have z22 : w21.heap.size ≤ (w21.drewN q).heap.size := hdn.size
                have S_22 := Lib.hid (S_21.out.below hdn); have B_22 := Lib.hid (B_21.out.below hdn); have R_22 := Lib.hid (R_21.out.below hdn); have T_22 := Lib.hid (T_21.out.below hdn); have RW_22 := Lib.hid (RW_21.out.below hdn); have HK_22 := Lib.hid (HK_21.out.trans (keeps_of_below hdn _ _)); have OW_22 := Lib.hid (ownsRow_below OW_21.out hdn)
                clear hdn hs21 lq21 S_21 B_21 R_21 T_21 RW_21 HK_21 OW_21
                generalize w21.drewN q = w22 at *
                generalize (ti.x.m / P2 (k9 : Int) % 2 == 1) = r
                cases r
                · obtain ⟨⟨y0, y1, y2, y3, y4, y5⟩, lq6⟩ := row_six OW_22.out HGET.out
                  obtain ⟨A, hA⟩ : ∃ A : Nat, ti.x.at_ = (A : Int) := ⟨ti.x.at_.toNat, by omega⟩
                  have hKn : A + 2 + k9 < 2 * m := by omega
                  have hA9 : (A : Int) ≤ 400 := by omega
                  rw [hA] at y0
                  clear hA
                  have hw1 : IntKind.i64.wrap ((A : Int) + 2) = (A : Int) + 2 := IntWalk.i64_in _ (by omega)
                  have hw2 : IntKind.i64.wrap ((A : Int) + 2 + (k9 : Int)) = (A : Int) + 2 + (k9 : Int) := IntWalk.i64_in _ (by omega)
                  obtain ⟨st, stf⟩ := ownIn_cell RW_22.out (A + 2 + k9) hKn
                  have hn1 : ub ≠ w2.heap.size := by omega
                  have hn2 : ub ≠ gq := by omega
                  have hn3 : ub ≠ b := by omega
                  have hn4 : ub ≠ w.heap.size := by omega
                  have lT := T_22.out.1; have cT1 := T_22.out.at 1 rfl
                  have T_d := Lib.hid T_22.out.drew; have y0d : (w22.drew).cell? ⟨gq, i * 6, none⟩ = some (.int .i64 (A : Int)) := y0
                  have hne9 : (⟨ub, uo + (A + 2 + k9), none⟩ : Addr) ≠ ⟨gq, i * 6, none⟩ := fun e => hn2 (congrArg Addr.block e)
                  have y0s : ∀ u, ((w22.setCell ⟨ub, uo + (A + 2 + k9), none⟩ u).drew).cell? ⟨gq, i * 6, none⟩ = some (.int .i64 (A : Int)) := fun u => (World.cell?_setCell_other _ _ _ _ hne9).trans y0
                  have hTN : ((A : Int) + 2 + (k9 : Int)).toNat = A + 2 + k9 := by omega
                  have hI0 : (0 : Int) ≤ (A : Int) + 2 + (k9 : Int) := by omega
                  have hI1 : (A : Int) + 2 + (k9 : Int) < 2 * (m : Int) := by omega
                  have HY := Lib.hid y0s
                  clear y0s hne9 y1 y2 y3 y4 y5
                  go_wp2_with fail
                  go_region_held3 (fun w' => w'.cell? ⟨w2.heap.size, 1, none⟩ = some (.slice (some ⟨ub, uo, none⟩) (2 * m) cu) ∧ w'.cell? ⟨gq, i * 6, none⟩ = some (.int .i64 (A : Int)))
                    (first | (with_reducible exact ⟨T_22.out.at 1 rfl, y0⟩) | (with_reducible exact ⟨T_d.out.at 1 rfl, y0d⟩) | (with_reducible exact ⟨((T_22.out.other (p := ⟨ub, uo + (A + 2 + k9), none⟩) hn1 _).drew).at 1 rfl, HY.out _⟩))
                    (fail)
                  have hst := RW_22.out.stored (A + 2 + k9) hKn v21
                  go_wp2
                  go_roundw
                  case rel => exact ⟨k9 + 1, t3 + 1 + 1, _, by omega, by go_num, by omega, by (try simp); omega, (S_22.out.other hn3 _).drew, (B_22.out.setCell (by (try simp); (try omega)) _).drew, (R_22.out.other hn4 _).drew, (T_22.out.other hn1 _).drew, hst.1.drew, (HK_22.out.setNew (by (try simp); (try omega)) _).trans (keeps_of_below (Below.refl _ _).drew _ _), ownsRow_below (ownsRow_other OW_22.out (by (try simp); (try omega)) _) (Below.refl _ _).drew⟩
                  case measure => simp [intOf]; omega
                · have hM1 : 1 ≤ M.length := by omega
                  go_wp2_with fail
                  refine (next_is (M.length : Int) b S ca k kc (t3 + 1 + 1) M.length B _ rfl S_22.out B_22.out hS hk0 (by omega) hM1 (by omega)).mono ?_
                  rintro e w23 ⟨v23, rfl, hv23, hB, hk⟩
                  have z23 : w22.heap.size ≤ w23.heap.size := hk.size
                  have S_23 := Lib.hid (src_cast hB); have B_23 := Lib.hid (B_22.out.keeps hk hS); have HK_23 := Lib.hid (HK_22.out.trans hk); have R_23 := Lib.hid (R_22.out.keeps hk (by omega)); have T_23 := Lib.hid (T_22.out.keeps hk (by omega)); have RW_23 := Lib.hid (RW_22.out.keeps hk (by omega)); have OW_23 := Lib.hid (ownsRow_keeps OW_22.out hk (by omega))
                  clear hk hB S_22 B_22 R_22 T_22 RW_22 HK_22 OW_22
                  have hv0 : (0 : Int) ≤ (v23 : Int) := by omega
                  have hv1 : (v23 : Int) < (M.length : Int) := by omega
                  have hgj := List.getElem?_eq_getElem hv23
                  have hpj := HPK.out M[v23].x (List.mem_map_of_mem (List.getElem_mem hv23))
                  generalize M[v23] = tj at *
                  have HGJ := Lib.hid hgj
                  obtain ⟨-, -, -, ⟨pj7, pj8⟩, -⟩ := hpj
                  clear hgj
                  have hwj : IntKind.i64.wrap (tj.x.at_ + 1) = tj.x.at_ + 1 := IntWalk.i64_in _ (by omega)
                  obtain ⟨⟨z0, z1, z2, z3, z4, z5⟩, lqj⟩ := row_six OW_23.out HGJ.out
                  obtain ⟨⟨y0, y1, y2, y3, y4, y5⟩, _⟩ := row_six OW_23.out HGET.out
                  have z3d : w23.drew.cell? ⟨gq, v23 * 6 + 3, none⟩ = some (.int .i64 tj.x.o) := z3
                  have y3d : w23.drew.cell? ⟨gq, i * 6 + 3, none⟩ = some (.int .i64 ti.x.o) := y3
                  clear z1 z2 z4 z5 y0 y1 y2 y4 y5
                  by_cases hoo : tj.x.o = ti.x.o
                  · have hdo : (tj.x.o == ti.x.o) = true := by simpa using hoo
                    go_wp2_with fail
                    go_region_held3 (fun w' => w'.cell? ⟨gq, v23 * 6 + 3, none⟩ = some (.int .i64 tj.x.o) ∧ w'.cell? ⟨gq, i * 6 + 3, none⟩ = some (.int .i64 ti.x.o))
                      (first | (with_reducible exact ⟨z3, y3⟩) | (with_reducible exact ⟨z3d, y3d⟩))
                      (fail)
                    have S_24 := Lib.hid S_23.out.drew; have B_24 := Lib.hid B_23.out.drew; have R_24 := Lib.hid R_23.out.drew; have T_24 := Lib.hid T_23.out.drew; have RW_24 := Lib.hid RW_23.out.drew; have HK_24 := Lib.hid (HK_23.out.trans (keeps_of_below (Below.refl _ _).drew _ _)); have OW_24 := Lib.hid (ownsRow_below OW_23.out (Below.refl _ _).drew)
                    have z0' : w23.drew.cell? ⟨gq, v23 * 6, none⟩ = some (.int .i64 tj.x.at_) := z0
                    have z24 : w23.heap.size ≤ w23.drew.heap.size := Nat.le_refl _
                    clear z0 z3 y3 z3d y3d S_23 B_23 R_23 T_23 RW_23 HK_23 OW_23
                    generalize w23.drew = w24 at *
                    obtain ⟨⟨y0, y1, y2, y3, y4, y5⟩, lq6⟩ := row_six OW_24.out HGET.out
                    obtain ⟨A, hA⟩ : ∃ A : Nat, ti.x.at_ = (A : Int) := ⟨ti.x.at_.toNat, by omega⟩
                    have hKn : A + 2 + k9 < 2 * m := by omega
                    have hA9 : (A : Int) ≤ 400 := by omega
                    rw [hA] at y0
                    clear hA
                    have hw1 : IntKind.i64.wrap ((A : Int) + 2) = (A : Int) + 2 := IntWalk.i64_in _ (by omega)
                    have hw2 : IntKind.i64.wrap ((A : Int) + 2 + (k9 : Int)) = (A : Int) + 2 + (k9 : Int) := IntWalk.i64_in _ (by omega)
                    obtain ⟨st, stf⟩ := ownIn_cell RW_24.out (A + 2 + k9) hKn
                    have hn1 : ub ≠ w2.heap.size := by omega
                    have hn2 : ub ≠ gq := by omega
                    have hn3 : ub ≠ b := by omega
                    have hn4 : ub ≠ w.heap.size := by omega
                    have lT := T_24.out.1; have cT1 := T_24.out.at 1 rfl
                    have T_d := Lib.hid T_24.out.drew; have y0d : (w24.drew).cell? ⟨gq, i * 6, none⟩ = some (.int .i64 (A : Int)) := y0
                    have hne9 : (⟨ub, uo + (A + 2 + k9), none⟩ : Addr) ≠ ⟨gq, i * 6, none⟩ := fun e => hn2 (congrArg Addr.block e)
                    have y0s : ∀ u, ((w24.setCell ⟨ub, uo + (A + 2 + k9), none⟩ u).drew).cell? ⟨gq, i * 6, none⟩ = some (.int .i64 (A : Int)) := fun u => (World.cell?_setCell_other _ _ _ _ hne9).trans y0
                    have hTN : ((A : Int) + 2 + (k9 : Int)).toNat = A + 2 + k9 := by omega
                    have hI0 : (0 : Int) ≤ (A : Int) + 2 + (k9 : Int) := by omega
                    have hI1 : (A : Int) + 2 + (k9 : Int) < 2 * (m : Int) := by omega
                    have HY := Lib.hid y0s
                    clear y0s hne9 y1 y2 y3 y4 y5
                    go_wp2_with fail
                    go_region_held3 (fun w' => w'.cell? ⟨w2.heap.size, 1, none⟩ = some (.slice (some ⟨ub, uo, none⟩) (2 * m) cu) ∧ w'.cell? ⟨gq, i * 6, none⟩ = some (.int .i64 (A : Int)))
                      (first | (with_reducible exact ⟨T_24.out.at 1 rfl, y0⟩) | (with_reducible exact ⟨T_d.out.at 1 rfl, y0d⟩) | (with_reducible exact ⟨((T_24.out.other (p := ⟨ub, uo + (A + 2 + k9), none⟩) hn1 _).drew).at 1 rfl, HY.out _⟩))
                      (fail)
                    have hst := RW_24.out.stored (A + 2 + k9) hKn (tj.x.at_ + 1)
                    go_wp2
                    go_roundw
                    case rel => exact ⟨k9 + 1, t3 + 1 + 1 + 1, _, by omega, by go_num, by omega, by (try simp); omega, (S_24.out.other hn3 _).drew, (B_24.out.setCell (by (try simp); (try omega)) _).drew, (R_24.out.other hn4 _).drew, (T_24.out.other hn1 _).drew, hst.1.drew, (HK_24.out.setNew (by (try simp); (try omega)) _).trans (keeps_of_below (Below.refl _ _).drew _ _), ownsRow_below (ownsRow_other OW_24.out (by (try simp); (try omega)) _) (Below.refl _ _).drew⟩
                    case measure => simp [intOf]; omega
                  · have hdo : (tj.x.o == ti.x.o) = false := by simpa using hoo
                    go_wp2_with fail
                    go_region_held3 (fun w' => w'.cell? ⟨gq, v23 * 6 + 3, none⟩ = some (.int .i64 tj.x.o) ∧ w'.cell? ⟨gq, i * 6 + 3, none⟩ = some (.int .i64 ti.x.o))
                      (first | (with_reducible exact ⟨z3, y3⟩) | (with_reducible exact ⟨z3d, y3d⟩))
                      (fail)
                    have S_24 := Lib.hid S_23.out.drew; have B_24 := Lib.hid B_23.out.drew; have R_24 := Lib.hid R_23.out.drew; have T_24 := Lib.hid T_23.out.drew; have RW_24 := Lib.hid RW_23.out.drew; have HK_24 := Lib.hid (HK_23.out.trans (keeps_of_below (Below.refl _ _).drew _ _)); have OW_24 := Lib.hid (ownsRow_below OW_23.out (Below.refl _ _).drew)
                    have z0' : w23.drew.cell? ⟨gq, v23 * 6, none⟩ = some (.int .i64 tj.x.at_) := z0
                    have z24 : w23.heap.size ≤ w23.drew.heap.size := Nat.le_refl _
                    clear z0 z3 y3 z3d y3d S_23 B_23 R_23 T_23 RW_23 HK_23 OW_23
                    generalize w23.drew = w24 at *
                    obtain ⟨⟨y0, y1, y2, y3, y4, y5⟩, lq6⟩ := row_six OW_24.out HGET.out
                    obtain ⟨A, hA⟩ : ∃ A : Nat, ti.x.at_ = (A : Int) := ⟨ti.x.at_.toNat, by omega⟩
                    have hKn : A + 2 + k9 < 2 * m := by omega
                    have hA9 : (A : Int) ≤ 400 := by omega
                    rw [hA] at y0
                    clear hA
                    have hw1 : IntKind.i64.wrap ((A : Int) + 2) = (A : Int) + 2 := IntWalk.i64_in _ (by omega)
                    have hw2 : IntKind.i64.wrap ((A : Int) + 2 + (k9 : Int)) = (A : Int) + 2 + (k9 : Int) := IntWalk.i64_in _ (by omega)
                    obtain ⟨st, stf⟩ := ownIn_cell RW_24.out (A + 2 + k9) hKn
                    have hn1 : ub ≠ w2.heap.size := by omega
                    have hn2 : ub ≠ gq := by omega
                    have hn3 : ub ≠ b := by omega
                    have hn4 : ub ≠ w.heap.size := by omega
                    have lT := T_24.out.1; have cT1 := T_24.out.at 1 rfl
                    have T_d := Lib.hid T_24.out.drew; have y0d : (w24.drew).cell? ⟨gq, i * 6, none⟩ = some (.int .i64 (A : Int)) := y0
                    have hne9 : (⟨ub, uo + (A + 2 + k9), none⟩ : Addr) ≠ ⟨gq, i * 6, none⟩ := fun e => hn2 (congrArg Addr.block e)
                    have y0s : ∀ u, ((w24.setCell ⟨ub, uo + (A + 2 + k9), none⟩ u).drew).cell? ⟨gq, i * 6, none⟩ = some (.int .i64 (A : Int)) := fun u => (World.cell?_setCell_other _ _ _ _ hne9).trans y0
                    have hTN : ((A : Int) + 2 + (k9 : Int)).toNat = A + 2 + k9 := by omega
                    have hI0 : (0 : Int) ≤ (A : Int) + 2 + (k9 : Int) := by omega
                    have hI1 : (A : Int) + 2 + (k9 : Int) < 2 * (m : Int) := by omega
                    have HY := Lib.hid y0s
                    clear y0s hne9 y1 y2 y3 y4 y5
                    go_wp2_with fail
                    go_region_held3 (fun w' => w'.cell? ⟨w2.heap.size, 1, none⟩ = some (.slice (some ⟨ub, uo, none⟩) (2 * m) cu) ∧ w'.cell? ⟨gq, i * 6, none⟩ = some (.int .i64 (A : Int)))
                      (first | (with_reducible exact ⟨T_24.out.at 1 rfl, y0⟩) | (with_reducible exact ⟨T_d.out.at 1 rfl, y0d⟩) | (with_reducible exact ⟨((T_24.out.other (p := ⟨ub, uo + (A + 2 + k9), none⟩) hn1 _).drew).at 1 rfl, HY.out _⟩))
                      (fail)
                    have hst := RW_24.out.stored (A + 2 + k9) hKn 0
                    go_wp2
                    go_roundw
                    case rel => exact ⟨k9 + 1, t3 + 1 + 1 + 1, _, by omega, by go_num, by omega, by (try simp); omega, (S_24.out.other hn3 _).drew, (B_24.out.setCell (by (try simp); (try omega)) _).drew, (R_24.out.other hn4 _).drew, (T_24.out.other hn1 _).drew, hst.1.drew, (HK_24.out.setNew (by (try simp); (try omega)) _).trans (keeps_of_below (Below.refl _ _).drew _ _), ownsRow_below (ownsRow_other OW_24.out (by (try simp); (try omega)) _) (Below.refl _ _).drew⟩
                    case measure => simp [intOf]; omega
              · have hkl' : ¬ (k9 : Int) < ti.x.s := by omega
                obtain rfl : k9 = ti.x.s.toNat := by omega
                go_wp2
                go_roundw
                case rel => exact ⟨i + 1, t3, g', by omega, by go_num, by omega, by omega, S_k, B_k, R_k, T_k, RW_k, HK_k, OW_k⟩
                case measure => simp [intOf]; omega
          · obtain rfl : i = M.length := by omega
            have cR0 := R_q.out.at 0 rfl; have cR1 := R_q.out.at 1 rfl; have cR2 := R_q.out.at 2 rfl; have cR3 := R_q.out.at 3 rfl; have fR0 := R_q.out.free 0 rfl; have fR1 := R_q.out.free 1 rfl; have fR2 := R_q.out.free 2 rfl; have fR3 := R_q.out.free 3 rfl; have lR := R_q.out.1
            have cT0 := T_q.out.at 0 rfl; have cT1 := T_q.out.at 1 rfl; have cT2 := T_q.out.at 2 rfl; have cT3 := T_q.out.at 3 rfl; have lT := T_q.out.1
            go_wp2
            refine bodyPost_ret (v := .agg #[.int .i64 (m : Int), .slice (some ⟨ub, uo, none⟩) (2 * m) cu, .int .i64 (v3 : Int), .int .i64 (U : Int)]) (by simp [results, Try.results183, go_sem, cR0, cR1, cR2, cR3]) rfl ⟨m, cu, t2, some ⟨ub, uo, none⟩, g, _, _, by omega, rfl, ?_, ?_, by omega, ?_, hcu, HCM.out⟩
            · refine OwnIn.widen (lo := w1.heap.size) (hi := w2.heap.size) ?_ (by omega) (by (try simp); (try omega))
              repeat (with_reducible refine OwnIn.setCell ?_ (.inl (by (try simp); (try omega))) _)
              exact RW_q.out
            · repeat (with_reducible refine Blk.other ?_ (by (try simp); (try omega)) _)
              exact S_q.out
            · repeat (with_reducible refine Keeps.setNew ?_ (by (try simp); (try omega)) _)
              exact HK_q.out
end Go.Proofs.Ytbhjmomphajnnaa

