/- Draws of heads. -/
import Derived.Test.YtflhjbcpffhanaaS4
import Derived.Test.YtflhjbcpffhanaaH9
namespace Go.Proofs.Ytflhjbcpffhanaa
open Go.RowKit
set_option linter.unusedVariables false

theorem src_cast {w : World} {b : Nat} {ca : Option Addr} {k kc t : Nat} (h : Blk w b [.slice ca k kc, .int .i64 ((t : Int) + 1)]) : Blk w b [.slice ca k kc, .int .i64 ((t + 1 : Nat) : Int)] := h
theorem SrcB.mono {w : World} {S S' : Nat} {a : Option Addr} {k : Nat} {B : Nat → Int} (h : SrcB w S a k B) (hS : S ≤ S') : SrcB w S' a k B := by
  rcases h with h | ⟨b, off, h1, h2, h3, h4⟩
  · exact .inl h
  · exact .inr ⟨b, off, h1, by omega, h3, h4⟩
/-- A right head is drawn; the source's block alone is written. -/
def RetHead (W : World) (b : Nat) (ca : Option Addr) (k kc t : Nat) (e : Ending) (w' : World) : Prop :=
  ∃ s m o h, e = .returned (.agg #[.int .i64 s, .int .i64 m, .int .i64 o, .int .i64 h]) ∧ HOk s m o h ∧ Blk w' b [.slice ca k kc, .int .i64 ((t + 1 + 1 + 1 + 1 : Nat) : Int)] ∧ Keeps W w' b (b + 1)

set_option maxHeartbeats 3200000 in
theorem l2Draw_any (b S : Nat) (ca : Option Addr) (k kc t : Nat) (B : Nat → Int) (w : World) (hB0 : Blk w b [.slice ca k kc, .int .i64 (t : Int)]) (hs : SrcB w S ca k B) (hS : S ≤ b) (hk0 : k ≤ 1048576) (ht : t ≤ 100) :
    Calls Try.prog 41 #[.pointer (some ⟨b, 0, none⟩)] w (RetHead w b ca k kc t) := by
  have S_0 := Lib.hid hB0
  have B_0 := Lib.hid hs
  have HK_0 := Lib.hid (Keeps.refl w b (b + 1))
  have lb := hB0.1
  clear hB0 hs
  go_enter Try.func41, Try.ntmps41
  go_wp2_with fail
  refine (of_any [0, 1, 2, 3, 12] b S _ ca k kc (t) 5 B _ _ (S_0.out.alloc _) (B_0.out.alloc _) hS hk0 (by omega) rfl (by simp) (by simp) rfl (by simp)).mono ?_
  rintro e w1 ⟨s, rfl, ms, hB, hk⟩
  have z1 : w.heap.size + 2 ≤ w1.heap.size := by have := hk.size; simp at this; omega
  have HK_1 := Lib.hid (((HK_0.out.alloc _).alloc _).trans hk)
  have S_1 := Lib.hid (src_cast hB)
  have B_1 := Lib.hid (((B_0.out.alloc _).alloc _).keeps hk hS)
  have R_1 := Lib.hid (((Blk.new_at (w.heap.size) (by simp)).alloc _).keeps hk (by omega))
  clear hk hB S_0 B_0 HK_0
  go_wp2_with fail
  refine (next_is 4 b S ca k kc (t + 1) 4 B _ rfl S_1.out B_1.out hS hk0 (by omega) (by omega) (by omega)).mono ?_
  rintro e w2 ⟨o, rfl, ho, hB, hk⟩
  have z2 : w1.heap.size ≤ w2.heap.size := hk.size
  have HK_2 := Lib.hid (HK_1.out.trans hk)
  have S_2 := Lib.hid (src_cast hB)
  have B_2 := Lib.hid (B_1.out.keeps hk hS)
  have R_2 := Lib.hid (R_1.out.keeps hk (by omega))
  clear hk hB HK_1 S_1 B_1 R_1
  go_wp2_with fail
  refine (of_any [0, 1, 5, 99999] b S _ ca k kc (t + 1 + 1) 4 B _ _ S_2.out B_2.out hS hk0 (by omega) rfl (by simp) (by simp) rfl (by simp)).mono ?_
  rintro e w3 ⟨h, rfl, mh, hB, hk⟩
  have z3 : w2.heap.size + 1 ≤ w3.heap.size := by have := hk.size; simp at this; omega
  have HK_3 := Lib.hid ((HK_2.out.alloc _).trans hk)
  have S_3 := Lib.hid (src_cast hB)
  have B_3 := Lib.hid ((B_2.out.alloc _).keeps hk hS)
  have R_3 := Lib.hid ((R_2.out.alloc _).keeps hk (by omega))
  clear hk hB HK_2 S_2 B_2 R_2
  have hs1 : ∃ N : Nat, s = (N : Int) ∧ N ≤ 12 := by
    simp only [List.mem_cons, List.mem_nil_iff, or_false] at ms
    rcases ms with rfl | rfl | rfl | rfl | rfl
    · exact ⟨0, rfl, by omega⟩
    · exact ⟨1, rfl, by omega⟩
    · exact ⟨2, rfl, by omega⟩
    · exact ⟨3, rfl, by omega⟩
    · exact ⟨12, rfl, by omega⟩
  have hh1 : 0 ≤ h ∧ h ≤ 99999 := by
    simp only [List.mem_cons, List.mem_nil_iff, or_false] at mh
    omega
  obtain ⟨N, rfl, hN⟩ := hs1
  clear ms mh
  go_wp2_with fail
  (with_reducible refine (power_any N _ hN).mono ?_)
  rintro e w' ⟨rfl, rfl⟩
  have hp1 : 1 ≤ 2 ^ N := Nat.one_le_two_pow
  have hp2 : 2 ^ N ≤ 4096 := (Nat.pow_le_pow_right (n := 2) (by omega) hN)
  go_wp2_with fail
  refine (next_is (P2 (N : Int)) b S ca k kc (t + 1 + 1 + 1) (2 ^ N) B _ (P2_nat N) (S_3.out.alloc _) (B_3.out.alloc _) hS hk0 (by omega) hp1 (by omega)).mono ?_
  rintro e w4 ⟨m, rfl, hm, hB, hk⟩
  have z4 : w3.heap.size + 1 ≤ w4.heap.size := by have := hk.size; simp at this; omega
  have HK_4 := Lib.hid ((HK_3.out.alloc _).trans hk)
  have S_4 := Lib.hid (src_cast hB)
  have B_4 := Lib.hid ((B_3.out.alloc _).keeps hk hS)
  have R_4 := Lib.hid ((R_3.out.alloc _).keeps hk (by omega))
  have T_4 := Lib.hid ((Blk.new_at (w3.heap.size) (by simp)).keeps hk (by omega))
  clear hk hB HK_3 S_3 B_3 R_3
  have e2 := P2_nat N
  have hz := HK_4.out.size
  have lR := R_4.out.1; have lT := T_4.out.1
  have cR0 := R_4.out.at 0 rfl; have fR0 := R_4.out.free 0 rfl; have cT0 := T_4.out.at 0 rfl; have cR1 := R_4.out.at 1 rfl; have fR1 := R_4.out.free 1 rfl; have cT1 := T_4.out.at 1 rfl; have cR2 := R_4.out.at 2 rfl; have fR2 := R_4.out.free 2 rfl; have cT2 := T_4.out.at 2 rfl; have cR3 := R_4.out.at 3 rfl; have fR3 := R_4.out.free 3 rfl; have cT3 := T_4.out.at 3 rfl
  have fT1 := T_4.out.free 1 rfl
  go_wp2
  refine bodyPost_ret (v := .agg #[.int .i64 (N : Int), .int .i64 (m : Int), .int .i64 (o : Int), .int .i64 h]) (by simp [results, Try.results41, go_sem, cR0, cR1, cR2, cR3]) rfl ⟨_, _, _, _, rfl, ?_, ?_, ?_⟩
  · exact ⟨⟨by omega, by omega⟩, ⟨by omega, by omega⟩, ⟨by omega, by omega⟩, hh1⟩
  · repeat (with_reducible refine Blk.other ?_ (by (try simp); (try omega)) _)
    exact S_4.out
  · repeat (with_reducible refine Keeps.setNew ?_ (by (try simp); (try omega)) _)
    exact HK_4.out

end Go.Proofs.Ytflhjbcpffhanaa
