/- unpackHead. -/
import Derived.Test.YtflhjbcpffhanaaH4
import Derived.Test.YtflhjbcpffhanaaH5
namespace Go.Proofs.Ytflhjbcpffhanaa
open Go.RowKit
set_option linter.unusedVariables false

/-- Two words are those of a head. -/
def ROk (a b : Int) : Prop := a % 2 = 1 ∧ HOk (a / 2 % 16) (a / 32 % 4096) (a / 131072) b
/-- A call panics with a value that is no nil; nothing that was there is turned. -/
def Panics (W : World) (e : Ending) (w' : World) : Prop := (∃ pv, e = .panicked [{ v := .iface 9 pv, recovered := false }]) ∧ Below W.heap.size W w'

set_option maxHeartbeats 1600000 in
theorem unpack_ok (a b : Int) (w : World) (hk : ROk a b) :
    Calls Try.prog 46 #[.int .i64 a, .int .i64 b] w (fun e w' => e = .returned (.agg #[.int .i64 (a / 2 % 16), .int .i64 (a / 32 % 4096), .int .i64 (a / 131072), .int .i64 b]) ∧ Below w.heap.size w w') := by
  have e1 := bits_and_15 (a / 2)
  have e2 := bits_and_4095 (a / 32)
  have e3 := bits_and_1 a
  have hd : (a % 2 == 0) = false := by rw [hk.1]; rfl
  have hk' : IsHF (a / 2 % 16) (a / 32 % 4096) (a / 131072) b 0 := .inl ⟨hk.2, rfl⟩
  clear hk
  have HK := Lib.hid hk'
  clear hk'
  go_enter Try.func46, Try.ntmps46
  go_wp2_with fail
  refine (implHF_any (a / 2 % 16) (a / 32 % 4096) (a / 131072) b 0 _ HK.out).mono ?_
  rintro e w1 ⟨rfl, hb⟩
  have HB1 : Hid (Below w.heap.size w w1) := thru2 (Below.refl _ _) hb
  have z1 : w.heap.size + 2 ≤ w1.heap.size := by have := hb.size; simp at this; omega
  have R_1 := Lib.hid (((Blk.new_at (w.heap.size) (by simp)).alloc _).below hb)
  have U_1 := Lib.hid ((Blk.new_at (w.heap.size + 1) (by simp)).below hb)
  clear hb
  have lR := R_1.out.1
  have cR0 := R_1.out.at 0 rfl
  have cR1 := R_1.out.at 1 rfl
  have cR2 := R_1.out.at 2 rfl
  have cR3 := R_1.out.at 3 rfl
  have lU := U_1.out.1
  have cU0 := U_1.out.at 0 rfl
  have cU1 := U_1.out.at 1 rfl
  have cU2 := U_1.out.at 2 rfl
  have cU3 := U_1.out.at 3 rfl
  have fR0 := R_1.out.free 0 rfl
  have fR1 := R_1.out.free 1 rfl
  have fR2 := R_1.out.free 2 rfl
  have fR3 := R_1.out.free 3 rfl
  go_wp2
  have hz := HB1.out.size
  refine bodyPost_ret (v := .agg #[.int .i64 (a / 2 % 16), .int .i64 (a / 32 % 4096), .int .i64 (a / 131072), .int .i64 b]) (by simp [results, Try.results46, go_sem, cR0, cR1, cR2, cR3]) rfl ⟨rfl, ?_⟩
  repeat (first | (with_reducible refine Below.setCell ?_ (by (try simp); (try omega)) _) | (with_reducible refine Below.alloc ?_ (by (try simp); (try omega)) _))
  exact HB1.out

set_option maxHeartbeats 1600000 in
theorem unpack_bad (a b : Int) (w : World) (h1 : a % 2 = 1) (hk : ¬ HOk (a / 2 % 16) (a / 32 % 4096) (a / 131072) b) :
    Calls Try.prog 46 #[.int .i64 a, .int .i64 b] w (Panics w) := by
  have e1 := bits_and_15 (a / 2)
  have e2 := bits_and_4095 (a / 32)
  have e3 := bits_and_1 a
  have hd : (a % 2 == 0) = false := by rw [h1]; rfl
  have hk' : IsHF (a / 2 % 16) (a / 32 % 4096) (a / 131072) b 3 := .inr ⟨hk, rfl⟩
  clear hk
  have HK := Lib.hid hk'
  clear hk'
  go_enter Try.func46, Try.ntmps46
  go_wp2_with fail
  refine (implHF_any (a / 2 % 16) (a / 32 % 4096) (a / 131072) b 3 _ HK.out).mono ?_
  rintro e w1 ⟨rfl, hb⟩
  have HB1 : Hid (Below w.heap.size w w1) := thru2 (Below.refl _ _) hb
  have z1 : w.heap.size + 2 ≤ w1.heap.size := by have := hb.size; simp at this; omega
  have R_1 := Lib.hid (((Blk.new_at (w.heap.size) (by simp)).alloc _).below hb)
  have U_1 := Lib.hid ((Blk.new_at (w.heap.size + 1) (by simp)).below hb)
  clear hb
  go_wp2
  exact ⟨rfl, ⟨_, rfl⟩, HB1.out⟩

set_option maxHeartbeats 1600000 in
theorem unpack_even (a b : Int) (w : World) (h1 : a % 2 = 0) :
    Calls Try.prog 46 #[.int .i64 a, .int .i64 b] w (Panics w) := by
  have e1 := bits_and_15 (a / 2)
  have e2 := bits_and_4095 (a / 32)
  have e3 := bits_and_1 a
  have hd : (a % 2 == 0) = true := by rw [h1]; rfl
  go_enter Try.func46, Try.ntmps46
  go_wp2
  exact ⟨rfl, ⟨_, rfl⟩, ((Below.refl _ _).alloc (Nat.le_refl _) _).alloc (by simp) _⟩

theorem unpack_no (a b : Int) (w : World) (hk : ¬ ROk a b) : Calls Try.prog 46 #[.int .i64 a, .int .i64 b] w (Panics w) := by
  by_cases h1 : a % 2 = 1
  · exact unpack_bad a b w h1 (fun x => hk ⟨h1, x⟩)
  · exact unpack_even a b w (by omega)

end Go.Proofs.Ytflhjbcpffhanaa
