/- The walk of FnHeads. -/
import Derived.Test.YtflhjbcpffhanaaD4
import Derived.Test.YtflhjbcpffhanaaH8
import Derived.Test.YtflhjbcpffhanaaH15
import Derived.Deep.DeepCutAuto
namespace Go.Proofs.Ytflhjbcpffhanaa
open Go.RowKit
set_option linter.unusedVariables false

theorem SrcB.now {w : World} {S : Nat} {a : Option Addr} {k : Nat} {B : Nat → Int} (h : SrcB w S a k B) : SrcB w w.heap.size a k B := by
  rcases h with h | ⟨b, off, h1, h2, h3, h4⟩
  · exact .inl h
  · exact .inr ⟨b, off, h1, h3, h3, h4⟩
theorem run_code (x : Int) (v : Value) (w : World) : (Instr.field 29 (.agg #[.int .i64 x, v]) 0).run Try.prog w = .ok (.int .i64 x) w := by kernel_rfl
theorem run_list (x : Int) (v : Value) (w : World) : (Instr.field 29 (.agg #[.int .i64 x, v]) 1).run Try.prog w = .ok v w := by kernel_rfl
theorem run_code2 (x y : Int) (w : World) : (Instr.field 37 (.agg #[.int .i64 x, .int .i64 y]) 0).run Try.prog w = .ok (.int .i64 x) w := by kernel_rfl
set_option maxRecDepth 100000 in
set_option maxHeartbeats 400000 in
theorem e3_far (ca : Option Addr) (k kc : Nat) (w : World) (hk : k ≤ maxLen) (h : 1048576 < k) : Calls Try.prog 3 #[.slice ca k kc] w (RetBool w true) := by
  go_enter Try.func3, Try.ntmps3
  go_wp2_with (go_at_call 11; refine (big_yes _ _ _ _ hk h).mono ?_; rintro e w' ⟨rfl, rfl⟩)
  go_ret
  exact ⟨rfl, Below.refl _ _⟩

theorem isRH_cases {n : Nat} {f : Nat → Int} {c s m o h : Int} (hk : IsRH n f c s m o h) : (n = 2 ∧ ROk (f 0) (f 1) ∧ c = 0 ∧ s = f 0 / 2 % 16 ∧ m = f 0 / 32 % 4096 ∧ o = f 0 / 131072 ∧ h = f 1) ∨ (c == 0) = false := by
  rcases hk with ⟨_, rfl, _⟩ | hk | ⟨_, _, rfl, _⟩
  · exact .inr rfl
  · exact .inl hk
  · exact .inr rfl
theorem isRF_cases {a c v : Int} (hk : IsRF a c v) : (RFOk a ∧ c = 0 ∧ v = a / 2 - 1) ∨ (c == 0) = false := by
  rcases hk with hk | ⟨_, rfl, _⟩
  · exact .inl hk
  · exact .inr rfl
theorem isFW_cases {a c v : Int} (hk : IsFW a c v) : ((0 ≤ a ∧ a ≤ 399) ∧ c = 0 ∧ v = 2 * a + 2) ∨ (c == 0) = false := by
  rcases hk with hk | ⟨_, rfl, _⟩
  · exact .inl hk
  · exact .inr rfl
theorem eqB_two {a b : Int} {f : Nat → Int} (h0 : a = f 0) (h1 : b = f 1) : eqB 2 2 (two a b) f = true := eqB_yes (fun i hi => by
  rcases (by omega : i = 0 ∨ i = 1) with rfl | rfl
  · exact h0
  · exact h1)

theorem pack_back {s m o h : Int} (hk : HOk s m o h) : IsRH 2 (two (1 + 2 * (s + 16 * (m + 4096 * o))) h) 0 s m o h := by
  have hk' := hk
  obtain ⟨⟨q1, q2⟩, ⟨q3, q4⟩, ⟨q5, q6⟩, q7, q8⟩ := hk
  have q9 := P2_le q2
  have e0 : two (1 + 2 * (s + 16 * (m + 4096 * o))) h 0 = (1 + 2 * (s + 16 * (m + 4096 * o))) := rfl
  have e1 : two (1 + 2 * (s + 16 * (m + 4096 * o))) h 1 = h := rfl
  have a1 : (1 + 2 * (s + 16 * (m + 4096 * o))) / 2 % 16 = s := by omega
  have a2 : (1 + 2 * (s + 16 * (m + 4096 * o))) / 32 % 4096 = m := by omega
  have a3 : (1 + 2 * (s + 16 * (m + 4096 * o))) / 131072 = o := by omega
  refine .inr (.inl ⟨rfl, ⟨?_, ?_⟩, rfl, ?_, ?_, ?_, ?_⟩)
  · rw [e0]; omega
  · rw [e0, e1, a1, a2, a3]; exact hk'
  · rw [e0, a1]
  · rw [e0, a2]
  · rw [e0, a3]
  · rw [e1]
theorem mask_next {m : Int} (i : Nat) (hm : 0 ≤ m) : m % P2 ((i : Int) + 1) = m % P2 i + P2 i * (m / P2 i % 2) := by
  obtain ⟨M, rfl⟩ : ∃ M : Nat, m = M := ⟨m.toNat, by omega⟩
  rw [P2_succ, P2_nat]
  have h := Nat.mod_mul (a := 2 ^ i) (b := 2) (x := M)
  have h' := congrArg (Nat.cast (R := Int)) h
  simpa using h'

theorem src_c0 {w : World} {ub uo : Nat} {a b : Int} (h : Src w (some ⟨ub, uo, none⟩) 2 (two a b)) : w.cell? ⟨ub, uo, none⟩ = some (.int .i64 a) := h.at 0 (by omega)

set_option maxRecDepth 100000 in
set_option maxHeartbeats 6400000 in
theorem e3_near (ca : Option Addr) (k kc : Nat) (B : Nat → Int) (w : World) (hs : SrcB w w.heap.size ca k B) (hk : k ≤ 1048576) :
    Calls Try.prog 3 #[.slice ca k kc] w (RetBool w true) := by
  have SB := Lib.hid hs
  clear hs
  go_enter Try.func3, Try.ntmps3
  go_wp2_with fail
  refine (big_no _ _ _ _ hk).mono ?_
  rintro e w' ⟨rfl, rfl⟩
  go_wp2_with fail
  refine (drawPack_any ca k kc B _ SB.out.now hk).mono ?_
  rintro e w1 ⟨s, m, o, h, rfl, hb⟩
  have HB1 : Hid (Below w.heap.size w w1) := thru0 (Below.refl _ _) hb
  have z1 : w.heap.size ≤ w1.heap.size := hb.size
  have SB_1 := Lib.hid (SB.out.below hb)
  clear hb SB
  obtain ⟨cp, np, fp, hp⟩ := isPH_some s m o h
  have HP := Lib.hid hp
  have np2 := isPH_small hp
  obtain ⟨cw, vw, hw⟩ := isWO_some s m o h
  have HWO := Lib.hid hw
  clear hp hw
  go_wp2_with fail
  refine (implPH_any s m o h cp np fp _ HP.out).mono ?_
  rintro e w2 ⟨u2, c2, rfl, ho, hb⟩
  have HB2 : Hid (Below w.heap.size w w2) := thru1 HB1.out hb
  have z2 : w1.heap.size + 1 ≤ w2.heap.size := by have := hb.size; simp at this; omega
  have SB_2 := Lib.hid ((SB_1.out.alloc _).below hb)
  have H_2 := Lib.hid ((Blk.new_at (w1.heap.size) (by simp)).below hb)
  have RP_2 : Hid (Src w2 u2 np fp) := ho.src
  clear hb SB_1 HB1 ho
  go_wp2_with fail
  refine (drawRH_any ca k kc B _ (SB_2.out.alloc _).now hk).mono ?_
  rintro e w3 ⟨q3, n3, f3, rfl, hn3, ho, hb, hf3⟩
  have HB3 : Hid (Below w.heap.size w w3) := thru1 HB2.out hb
  have z3 : w2.heap.size + 1 ≤ w3.heap.size := by have := hb.size; simp at this; omega
  have SB_3 := Lib.hid ((SB_2.out.alloc _).below hb)
  have H_3 := Lib.hid ((H_2.out.alloc _).below hb)
  have RP_3 := Lib.hid ((RP_2.out.alloc _).below hb)
  have P_3 := Lib.hid ((Blk.new_at (w2.heap.size) (by simp)).below hb)
  have RX_3 : Hid (Src w3 (some ⟨q3, 0, none⟩) n3 f3) := ho.src
  clear hb SB_2 H_2 RP_2 HB2 ho
  have HF3 := Lib.hid hf3
  have hn3' : n3 ≤ 1048576 := by omega
  obtain ⟨c4, s4, m4, o4, h4, hr⟩ := isRH_some n3 f3
  have HR := Lib.hid hr
  clear hr hf3
  go_wp2_with fail
  refine (implRH_any _ n3 2 f3 c4 s4 m4 o4 h4 _ RX_3.out hn3' HR.out).mono ?_
  rintro e w4 ⟨rfl, hb⟩
  have HB4 : Hid (Below w.heap.size w w4) := thru0 HB3.out hb
  have z4 : w3.heap.size ≤ w4.heap.size := hb.size
  have SB_4 := Lib.hid (SB_3.out.below hb)
  have H_4 := Lib.hid (H_3.out.below hb)
  have RP_4 := Lib.hid (RP_3.out.below hb)
  have P_4 := Lib.hid (P_3.out.below hb)
  have RX_4 := Lib.hid (RX_3.out.below hb)
  clear hb SB_3 H_3 RP_3 P_3 RX_3 HB3
  go_wp2_with fail
  refine (drawFW_any ca k kc B _ (SB_4.out.alloc _).now hk).mono ?_
  rintro e w5 ⟨x5, rfl, hx5, hb⟩
  have HB5 : Hid (Below w.heap.size w w5) := thru1 HB4.out hb
  have z5 : w4.heap.size + 1 ≤ w5.heap.size := by have := hb.size; simp at this; omega
  have SB_5 := Lib.hid ((SB_4.out.alloc _).below hb)
  have H_5 := Lib.hid ((H_4.out.alloc _).below hb)
  have RP_5 := Lib.hid ((RP_4.out.alloc _).below hb)
  have P_5 := Lib.hid ((P_4.out.alloc _).below hb)
  have RX_5 := Lib.hid ((RX_4.out.alloc _).below hb)
  have R_5 := Lib.hid ((Blk.new_at (w4.heap.size) (by simp)).below hb)
  clear hb SB_4 H_4 RP_4 P_4 RX_4 HB4
  obtain ⟨c6, v6, hfw⟩ := isFW_some x5
  have HFW := Lib.hid hfw
  have HX5 := Lib.hid hx5
  clear hfw hx5
  go_wp2_with fail
  refine (implFW_any x5 c6 v6 _ HFW.out).mono ?_
  rintro e w6 ⟨rfl, hb⟩
  have HB6 : Hid (Below w.heap.size w w6) := thru0 HB5.out hb
  have z6 : w5.heap.size ≤ w6.heap.size := hb.size
  have SB_6 := Lib.hid (SB_5.out.below hb)
  have H_6 := Lib.hid (H_5.out.below hb)
  have RP_6 := Lib.hid (RP_5.out.below hb)
  have P_6 := Lib.hid (P_5.out.below hb)
  have RX_6 := Lib.hid (RX_5.out.below hb)
  have R_6 := Lib.hid (R_5.out.below hb)
  clear hb SB_5 H_5 RP_5 P_5 RX_5 R_5 HB5
  go_wp2_with fail
  refine (drawRF_any ca k kc B _ (SB_6.out.alloc _).now hk).mono ?_
  rintro e w7 ⟨x7, rfl, hx7, hb⟩
  have HB7 : Hid (Below w.heap.size w w7) := thru1 HB6.out hb
  have z7 : w6.heap.size + 1 ≤ w7.heap.size := by have := hb.size; simp at this; omega
  have SB_7 := Lib.hid ((SB_6.out.alloc _).below hb)
  have H_7 := Lib.hid ((H_6.out.alloc _).below hb)
  have RP_7 := Lib.hid ((RP_6.out.alloc _).below hb)
  have P_7 := Lib.hid ((P_6.out.alloc _).below hb)
  have RX_7 := Lib.hid ((RX_6.out.alloc _).below hb)
  have R_7 := Lib.hid ((R_6.out.alloc _).below hb)
  have F_7 := Lib.hid ((Blk.new_at (w6.heap.size) (by simp)).below hb)
  clear hb SB_6 H_6 RP_6 P_6 RX_6 R_6 HB6
  obtain ⟨c8, v8, hrf⟩ := isRF_some x7
  have HRF := Lib.hid hrf
  have HX7 := Lib.hid hx7
  clear hrf hx7
  go_wp2_with fail
  clear SB_7
  refine (implRF_any x7 c8 v8 _ HX7.out HRF.out).mono ?_
  rintro e w8 ⟨rfl, hb⟩
  have HB8 : Hid (Below w.heap.size w w8) := thru0 HB7.out hb
  have z8 : w7.heap.size ≤ w8.heap.size := hb.size
  have H_8 := Lib.hid (H_7.out.below hb)
  have RP_8 := Lib.hid (RP_7.out.below hb)
  have P_8 := Lib.hid (P_7.out.below hb)
  have RX_8 := Lib.hid (RX_7.out.below hb)
  have R_8 := Lib.hid (R_7.out.below hb)
  have F_8 := Lib.hid (F_7.out.below hb)
  clear hb H_7 RP_7 P_7 RX_7 R_7 F_7 HB7
  go_wp2_with fail
  have H_9 := Lib.hid (H_8.out.alloc (.cells #[.int .i64 c8, .int .i64 v8] 37))
  have RP_9 := Lib.hid (RP_8.out.alloc (.cells #[.int .i64 c8, .int .i64 v8] 37))
  have P_9 := Lib.hid (P_8.out.alloc (.cells #[.int .i64 c8, .int .i64 v8] 37))
  have RX_9 := Lib.hid (RX_8.out.alloc (.cells #[.int .i64 c8, .int .i64 v8] 37))
  have R_9 := Lib.hid (R_8.out.alloc (.cells #[.int .i64 c8, .int .i64 v8] 37))
  have F_9 := Lib.hid (F_8.out.alloc (.cells #[.int .i64 c8, .int .i64 v8] 37))
  have G_9 : Hid (Blk (w8.alloc (.cells #[.int .i64 c8, .int .i64 v8] 37)) w8.heap.size [.int .i64 c8, .int .i64 v8]) := Blk.new_at (w8.heap.size) rfl
  have HB9 : Hid (Below w.heap.size w (w8.alloc (.cells #[.int .i64 c8, .int .i64 v8] 37))) := HB8.out.alloc HB8.out.size _
  have y9 : w8.heap.size + 1 ≤ (w8.alloc (.cells #[.int .i64 c8, .int .i64 v8] 37)).heap.size := by simp
  clear HB8 H_8 RP_8 P_8 RX_8 R_8 F_8
  generalize w8.alloc (.cells #[.int .i64 c8, .int .i64 v8] 37) = w9 at *
  have H_d := Lib.hid H_9.out.drew
  have P_d := Lib.hid P_9.out.drew
  have R_d := Lib.hid R_9.out.drew
  have F_d := Lib.hid F_9.out.drew
  have G_d := Lib.hid G_9.out.drew
  have RP_d := Lib.hid RP_9.out.drew
  have RX_d := Lib.hid RX_9.out.drew
  have HB_d := Lib.hid HB9.out.drew
  clear HB9 H_9 P_9 R_9 F_9 G_9 RP_9 RX_9
  have hhf : IsHF s m o h cp := by rcases HP.out with ⟨x, y, _⟩ | ⟨x, y, _⟩; exact .inl ⟨x, y⟩; exact .inr ⟨x, y⟩
  have HHF := Lib.hid hhf
  clear hhf
  have hfld := run_code
  go_region_held3 (fun w' => w'.cell? ⟨w1.heap.size, 0, none⟩ = some (.int .i64 s) ∧ w'.cell? ⟨w1.heap.size, 1, none⟩ = some (.int .i64 m) ∧ w'.cell? ⟨w1.heap.size, 2, none⟩ = some (.int .i64 o) ∧ w'.cell? ⟨w1.heap.size, 3, none⟩ = some (.int .i64 h) ∧ w'.cell? ⟨w2.heap.size, 0, none⟩ = some (.int .i64 cp) ∧ w'.cell? ⟨w4.heap.size, 0, none⟩ = some (.int .i64 c4) ∧ w'.cell? ⟨w4.heap.size, 1, none⟩ = some (.int .i64 s4) ∧ w'.cell? ⟨w4.heap.size, 2, none⟩ = some (.int .i64 m4) ∧ w'.cell? ⟨w4.heap.size, 3, none⟩ = some (.int .i64 o4) ∧ w'.cell? ⟨w4.heap.size, 4, none⟩ = some (.int .i64 h4) ∧ w'.cell? ⟨w6.heap.size, 0, none⟩ = some (.int .i64 c6) ∧ w'.cell? ⟨w6.heap.size, 1, none⟩ = some (.int .i64 v6) ∧ w'.cell? ⟨w8.heap.size, 0, none⟩ = some (.int .i64 c8) ∧ w'.cell? ⟨w8.heap.size, 1, none⟩ = some (.int .i64 v8))
    (first | (with_reducible exact ⟨H_d.out.at 0 rfl, H_d.out.at 1 rfl, H_d.out.at 2 rfl, H_d.out.at 3 rfl, P_d.out.at 0 rfl, R_d.out.at 0 rfl, R_d.out.at 1 rfl, R_d.out.at 2 rfl, R_d.out.at 3 rfl, R_d.out.at 4 rfl, F_d.out.at 0 rfl, F_d.out.at 1 rfl, G_d.out.at 0 rfl, G_d.out.at 1 rfl⟩) | (with_reducible exact ⟨H_10.out.at 0 rfl, H_10.out.at 1 rfl, H_10.out.at 2 rfl, H_10.out.at 3 rfl, P_10.out.at 0 rfl, R_10.out.at 0 rfl, R_10.out.at 1 rfl, R_10.out.at 2 rfl, R_10.out.at 3 rfl, R_10.out.at 4 rfl, F_10.out.at 0 rfl, F_10.out.at 1 rfl, G_10.out.at 0 rfl, G_10.out.at 1 rfl⟩) | (with_reducible exact ⟨H_11.out.at 0 rfl, H_11.out.at 1 rfl, H_11.out.at 2 rfl, H_11.out.at 3 rfl, P_11.out.at 0 rfl, R_11.out.at 0 rfl, R_11.out.at 1 rfl, R_11.out.at 2 rfl, R_11.out.at 3 rfl, R_11.out.at 4 rfl, F_11.out.at 0 rfl, F_11.out.at 1 rfl, G_11.out.at 0 rfl, G_11.out.at 1 rfl⟩) | (with_reducible exact ⟨H_12.out.at 0 rfl, H_12.out.at 1 rfl, H_12.out.at 2 rfl, H_12.out.at 3 rfl, P_12.out.at 0 rfl, R_12.out.at 0 rfl, R_12.out.at 1 rfl, R_12.out.at 2 rfl, R_12.out.at 3 rfl, R_12.out.at 4 rfl, F_12.out.at 0 rfl, F_12.out.at 1 rfl, G_12.out.at 0 rfl, G_12.out.at 1 rfl⟩) | (with_reducible exact ⟨H_13.out.at 0 rfl, H_13.out.at 1 rfl, H_13.out.at 2 rfl, H_13.out.at 3 rfl, P_13.out.at 0 rfl, R_13.out.at 0 rfl, R_13.out.at 1 rfl, R_13.out.at 2 rfl, R_13.out.at 3 rfl, R_13.out.at 4 rfl, F_13.out.at 0 rfl, F_13.out.at 1 rfl, G_13.out.at 0 rfl, G_13.out.at 1 rfl⟩) | (with_reducible exact ⟨H_14.out.at 0 rfl, H_14.out.at 1 rfl, H_14.out.at 2 rfl, H_14.out.at 3 rfl, P_14.out.at 0 rfl, R_14.out.at 0 rfl, R_14.out.at 1 rfl, R_14.out.at 2 rfl, R_14.out.at 3 rfl, R_14.out.at 4 rfl, F_14.out.at 0 rfl, F_14.out.at 1 rfl, G_14.out.at 0 rfl, G_14.out.at 1 rfl⟩) | (with_reducible exact ⟨H_15.out.at 0 rfl, H_15.out.at 1 rfl, H_15.out.at 2 rfl, H_15.out.at 3 rfl, P_15.out.at 0 rfl, R_15.out.at 0 rfl, R_15.out.at 1 rfl, R_15.out.at 2 rfl, R_15.out.at 3 rfl, R_15.out.at 4 rfl, F_15.out.at 0 rfl, F_15.out.at 1 rfl, G_15.out.at 0 rfl, G_15.out.at 1 rfl⟩) | (with_reducible exact ⟨H_16.out.at 0 rfl, H_16.out.at 1 rfl, H_16.out.at 2 rfl, H_16.out.at 3 rfl, P_16.out.at 0 rfl, R_16.out.at 0 rfl, R_16.out.at 1 rfl, R_16.out.at 2 rfl, R_16.out.at 3 rfl, R_16.out.at 4 rfl, F_16.out.at 0 rfl, F_16.out.at 1 rfl, G_16.out.at 0 rfl, G_16.out.at 1 rfl⟩))
    (first | (go_at_call 20; refine (specPH_any s m o h cp np fp _ HP.out).mono ?_; rintro e w10 ⟨_, _, rfl, ho, hb⟩; have HB10 := Lib.hid (thru0 HB_d.out hb); have H_10 := Lib.hid (H_d.out.below hb); have P_10 := Lib.hid (P_d.out.below hb); have R_10 := Lib.hid (R_d.out.below hb); have F_10 := Lib.hid (F_d.out.below hb); have G_10 := Lib.hid (G_d.out.below hb); have RP_10 := Lib.hid (RP_d.out.below hb); have RX_10 := Lib.hid (RX_d.out.below hb); clear hb ho) | (go_at_call 21; refine (specRH_any _ n3 2 f3 c4 s4 m4 o4 h4 _ RX_10.out hn3' HF3.out HR.out).mono ?_; rintro e w11 ⟨rfl, hb⟩; have HB11 := Lib.hid (thru0 HB10.out hb); have H_11 := Lib.hid (H_10.out.below hb); have P_11 := Lib.hid (P_10.out.below hb); have R_11 := Lib.hid (R_10.out.below hb); have F_11 := Lib.hid (F_10.out.below hb); have G_11 := Lib.hid (G_10.out.below hb); have RP_11 := Lib.hid (RP_10.out.below hb); have RX_11 := Lib.hid (RX_10.out.below hb); clear hb) | (go_at_call 22; refine (specFW_any x5 c6 v6 _ HFW.out).mono ?_; rintro e w12 ⟨rfl, hb⟩; have HB12 := Lib.hid (thru0 HB11.out hb); have H_12 := Lib.hid (H_11.out.below hb); have P_12 := Lib.hid (P_11.out.below hb); have R_12 := Lib.hid (R_11.out.below hb); have F_12 := Lib.hid (F_11.out.below hb); have G_12 := Lib.hid (G_11.out.below hb); have RP_12 := Lib.hid (RP_11.out.below hb); have RX_12 := Lib.hid (RX_11.out.below hb); clear hb) | (go_at_call 23; refine (specRF_any x7 c8 v8 _ HX7.out HRF.out).mono ?_; rintro e w13 ⟨rfl, hb⟩; have HB13 := Lib.hid (thru0 HB12.out hb); have H_13 := Lib.hid (H_12.out.below hb); have P_13 := Lib.hid (P_12.out.below hb); have R_13 := Lib.hid (R_12.out.below hb); have F_13 := Lib.hid (F_12.out.below hb); have G_13 := Lib.hid (G_12.out.below hb); have RP_13 := Lib.hid (RP_12.out.below hb); have RX_13 := Lib.hid (RX_12.out.below hb); clear hb) | (go_at_call 24; refine (implWO_any s m o h cw vw _ HWO.out).mono ?_; rintro e w14 ⟨rfl, hb⟩; have HB14 := Lib.hid (thru0 HB13.out hb); have H_14 := Lib.hid (H_13.out.below hb); have P_14 := Lib.hid (P_13.out.below hb); have R_14 := Lib.hid (R_13.out.below hb); have F_14 := Lib.hid (F_13.out.below hb); have G_14 := Lib.hid (G_13.out.below hb); have RP_14 := Lib.hid (RP_13.out.below hb); have RX_14 := Lib.hid (RX_13.out.below hb); clear hb) | (go_at_call 25; refine (specWO_any s m o h cw vw _ HWO.out).mono ?_; rintro e w15 ⟨rfl, hb⟩; have HB15 := Lib.hid (thru0 HB14.out hb); have H_15 := Lib.hid (H_14.out.below hb); have P_15 := Lib.hid (P_14.out.below hb); have R_15 := Lib.hid (R_14.out.below hb); have F_15 := Lib.hid (F_14.out.below hb); have G_15 := Lib.hid (G_14.out.below hb); have RP_15 := Lib.hid (RP_14.out.below hb); have RX_15 := Lib.hid (RX_14.out.below hb); clear hb) | (go_at_call 26; refine (implHF_any s m o h cp _ HHF.out).mono ?_; rintro e w16 ⟨rfl, hb⟩; have HB16 := Lib.hid (thru0 HB15.out hb); have H_16 := Lib.hid (H_15.out.below hb); have P_16 := Lib.hid (P_15.out.below hb); have R_16 := Lib.hid (R_15.out.below hb); have F_16 := Lib.hid (F_15.out.below hb); have G_16 := Lib.hid (G_15.out.below hb); have RP_16 := Lib.hid (RP_15.out.below hb); have RX_16 := Lib.hid (RX_15.out.below hb); clear hb))
  clear hfld H_d P_d R_d F_d G_d RP_d RX_d H_10 P_10 R_10 F_10 G_10 RP_10 RX_10 H_11 P_11 R_11 F_11 G_11 RP_11 RX_11 H_12 P_12 R_12 F_12 G_12 RP_12 RX_12 H_13 P_13 R_13 F_13 G_13 RP_13 RX_13 H_14 P_14 R_14 F_14 G_14 RP_14 RX_14 H_15 P_15 R_15 F_15 G_15 RP_15 RX_15 HB_d HB10 HB11 HB12 HB13 HB14 HB15
  have hfl1 := run_list
  have hfl2 := run_code2
  go_upto_region 13 with (fail)
  go_cut [107] (fun s107 wx => s107 = .bool false ∧ Hid (Below w.heap.size w wx) ∧ Hid (Blk wx w1.heap.size [.int .i64 s, .int .i64 m, .int .i64 o, .int .i64 h]) ∧ Hid (Blk wx w2.heap.size [.int .i64 cp, .slice u2 np c2]) ∧ Hid (Src wx u2 np fp))
  case first =>
    rcases isRH_cases HR.out with ⟨rfl, hro', rfl, rfl, rfl, rfl, rfl⟩ | hc4
    · have hro := Lib.hid hro'
      have hw0 : Hid ((1 + 2 * ((f3 0 / 2 % 16) + 16 * ((f3 0 / 32 % 4096) + 4096 * (f3 0 / 131072)))) = f3 0) := Lib.hid (by have := hro'.1; omega)
      clear hro'
      rcases isRF_cases HRF.out with hgc | hgc
      · obtain ⟨⟨hg1, hg2, hg3⟩, rfl, rfl⟩ := hgc
        have HG : Hid (0 ≤ x7 / 2 - 1 ∧ x7 / 2 - 1 ≤ 399) := ⟨by omega, by omega⟩
        have HGV : Hid (x7 = 2 * (x7 / 2 - 1) + 2) := Lib.hid (by omega)
        clear hg1 hg2 hg3
        rcases isFW_cases HFW.out with hfc | hfc
        · obtain ⟨hx, rfl, rfl⟩ := hfc
          have HI6 : Hid (I64 (2 * x5 + 2)) := ⟨by omega, by omega⟩
          have HF6 : Hid (RFOk (2 * x5 + 2)) := ⟨by omega, by omega, by omega⟩
          have HFV : Hid (x5 = (2 * x5 + 2) / 2 - 1) := Lib.hid (by omega)
          clear hx
          have cR0 := R_16.out.at 0 rfl; have cR1 := R_16.out.at 1 rfl; have cR2 := R_16.out.at 2 rfl; have cR3 := R_16.out.at 3 rfl; have cR4 := R_16.out.at 4 rfl
          have cG0 := G_16.out.at 0 rfl; have cG1 := G_16.out.at 1 rfl
          have cF0 := F_16.out.at 0 rfl; have cF1 := F_16.out.at 1 rfl
          go_wp2_with fail
          refine (implPH_any (f3 0 / 2 % 16) (f3 0 / 32 % 4096) (f3 0 / 131072) (f3 1) 0 2 (two (1 + 2 * ((f3 0 / 2 % 16) + 16 * ((f3 0 / 32 % 4096) + 4096 * (f3 0 / 131072)))) (f3 1)) _ (.inl ⟨hro.out.2, rfl, rfl, rfl⟩)).mono ?_
          rintro e w17 ⟨u9, c9, rfl, ho, hb⟩
          have HB17 := Lib.hid (thru0 HB16.out hb); have H_17 := Lib.hid (H_16.out.below hb); have P_17 := Lib.hid (P_16.out.below hb); have R_17 := Lib.hid (R_16.out.below hb); have F_17 := Lib.hid (F_16.out.below hb); have G_17 := Lib.hid (G_16.out.below hb); have RP_17 := Lib.hid (RP_16.out.below hb); have RX_17 := Lib.hid (RX_16.out.below hb)
          have U_17 := Lib.hid ho.src
          clear ho
          clear cR0 cR1 cR2 cR3 cR4 cG0 cG1 cF0 cF1 hb
          have cR0 := R_17.out.at 0 rfl; have cR1 := R_17.out.at 1 rfl; have cR2 := R_17.out.at 2 rfl; have cR3 := R_17.out.at 3 rfl; have cR4 := R_17.out.at 4 rfl
          have cG0 := G_17.out.at 0 rfl; have cG1 := G_17.out.at 1 rfl
          have cF0 := F_17.out.at 0 rfl; have cF1 := F_17.out.at 1 rfl
          go_wp2_with fail
          refine (lwNums_same _ _ 2 _ _ (two (1 + 2 * ((f3 0 / 2 % 16) + 16 * ((f3 0 / 32 % 4096) + 4096 * (f3 0 / 131072)))) (f3 1)) f3 _ U_17.out RX_17.out (by omega)).mono ?_
          rw [eqB_two hw0.out rfl]
          rintro e w18 ⟨rfl, hb⟩
          have HB18 := Lib.hid (thru0 HB17.out hb); have H_18 := Lib.hid (H_17.out.below hb); have P_18 := Lib.hid (P_17.out.below hb); have R_18 := Lib.hid (R_17.out.below hb); have F_18 := Lib.hid (F_17.out.below hb); have G_18 := Lib.hid (G_17.out.below hb); have RP_18 := Lib.hid (RP_17.out.below hb); have RX_18 := Lib.hid (RX_17.out.below hb); have U_18 := Lib.hid (U_17.out.below hb)
          clear cR0 cR1 cR2 cR3 cR4 cG0 cG1 cF0 cF1 hb
          have cR0 := R_18.out.at 0 rfl; have cR1 := R_18.out.at 1 rfl; have cR2 := R_18.out.at 2 rfl; have cR3 := R_18.out.at 3 rfl; have cR4 := R_18.out.at 4 rfl
          have cG0 := G_18.out.at 0 rfl; have cG1 := G_18.out.at 1 rfl
          have cF0 := F_18.out.at 0 rfl; have cF1 := F_18.out.at 1 rfl
          go_wp2_with fail
          refine (implFW_any (x7 / 2 - 1) 0 x7 _ (.inl ⟨HG.out, rfl, HGV.out⟩)).mono ?_
          rintro e w19 ⟨rfl, hb⟩
          have HB19 := Lib.hid (thru0 HB18.out hb); have H_19 := Lib.hid (H_18.out.below hb); have P_19 := Lib.hid (P_18.out.below hb); have R_19 := Lib.hid (R_18.out.below hb); have F_19 := Lib.hid (F_18.out.below hb); have G_19 := Lib.hid (G_18.out.below hb); have RP_19 := Lib.hid (RP_18.out.below hb); have RX_19 := Lib.hid (RX_18.out.below hb); have U_19 := Lib.hid (U_18.out.below hb)
          clear cR0 cR1 cR2 cR3 cR4 cG0 cG1 cF0 cF1 hb
          have cR0 := R_19.out.at 0 rfl; have cR1 := R_19.out.at 1 rfl; have cR2 := R_19.out.at 2 rfl; have cR3 := R_19.out.at 3 rfl; have cR4 := R_19.out.at 4 rfl
          have cG0 := G_19.out.at 0 rfl; have cG1 := G_19.out.at 1 rfl
          have cF0 := F_19.out.at 0 rfl; have cF1 := F_19.out.at 1 rfl
          go_wp2_with fail
          refine (implRF_any (2 * x5 + 2) 0 x5 _ HI6.out (.inl ⟨HF6.out, rfl, HFV.out⟩)).mono ?_
          rintro e w20 ⟨rfl, hb⟩
          have HB20 := Lib.hid (thru0 HB19.out hb); have H_20 := Lib.hid (H_19.out.below hb); have P_20 := Lib.hid (P_19.out.below hb); have R_20 := Lib.hid (R_19.out.below hb); have F_20 := Lib.hid (F_19.out.below hb); have G_20 := Lib.hid (G_19.out.below hb); have RP_20 := Lib.hid (RP_19.out.below hb); have RX_20 := Lib.hid (RX_19.out.below hb); have U_20 := Lib.hid (U_19.out.below hb)
          clear cR0 cR1 cR2 cR3 cR4 cG0 cG1 cF0 cF1 hb
          have cR0 := R_20.out.at 0 rfl; have cR1 := R_20.out.at 1 rfl; have cR2 := R_20.out.at 2 rfl; have cR3 := R_20.out.at 3 rfl; have cR4 := R_20.out.at 4 rfl
          have cG0 := G_20.out.at 0 rfl; have cG1 := G_20.out.at 1 rfl
          have cF0 := F_20.out.at 0 rfl; have cF1 := F_20.out.at 1 rfl
          go_wp2_with fail
          go_meet
          exact ⟨rfl, HB20, H_20, P_20, RP_20⟩
        · have hc6 := hfc
          have cR0 := R_16.out.at 0 rfl; have cR1 := R_16.out.at 1 rfl; have cR2 := R_16.out.at 2 rfl; have cR3 := R_16.out.at 3 rfl; have cR4 := R_16.out.at 4 rfl
          have cG0 := G_16.out.at 0 rfl; have cG1 := G_16.out.at 1 rfl
          have cF0 := F_16.out.at 0 rfl; have cF1 := F_16.out.at 1 rfl
          go_wp2_with fail
          refine (implPH_any (f3 0 / 2 % 16) (f3 0 / 32 % 4096) (f3 0 / 131072) (f3 1) 0 2 (two (1 + 2 * ((f3 0 / 2 % 16) + 16 * ((f3 0 / 32 % 4096) + 4096 * (f3 0 / 131072)))) (f3 1)) _ (.inl ⟨hro.out.2, rfl, rfl, rfl⟩)).mono ?_
          rintro e w17 ⟨u9, c9, rfl, ho, hb⟩
          have HB17 := Lib.hid (thru0 HB16.out hb); have H_17 := Lib.hid (H_16.out.below hb); have P_17 := Lib.hid (P_16.out.below hb); have R_17 := Lib.hid (R_16.out.below hb); have F_17 := Lib.hid (F_16.out.below hb); have G_17 := Lib.hid (G_16.out.below hb); have RP_17 := Lib.hid (RP_16.out.below hb); have RX_17 := Lib.hid (RX_16.out.below hb)
          have U_17 := Lib.hid ho.src
          clear ho
          clear cR0 cR1 cR2 cR3 cR4 cG0 cG1 cF0 cF1 hb
          have cR0 := R_17.out.at 0 rfl; have cR1 := R_17.out.at 1 rfl; have cR2 := R_17.out.at 2 rfl; have cR3 := R_17.out.at 3 rfl; have cR4 := R_17.out.at 4 rfl
          have cG0 := G_17.out.at 0 rfl; have cG1 := G_17.out.at 1 rfl
          have cF0 := F_17.out.at 0 rfl; have cF1 := F_17.out.at 1 rfl
          go_wp2_with fail
          refine (lwNums_same _ _ 2 _ _ (two (1 + 2 * ((f3 0 / 2 % 16) + 16 * ((f3 0 / 32 % 4096) + 4096 * (f3 0 / 131072)))) (f3 1)) f3 _ U_17.out RX_17.out (by omega)).mono ?_
          rw [eqB_two hw0.out rfl]
          rintro e w18 ⟨rfl, hb⟩
          have HB18 := Lib.hid (thru0 HB17.out hb); have H_18 := Lib.hid (H_17.out.below hb); have P_18 := Lib.hid (P_17.out.below hb); have R_18 := Lib.hid (R_17.out.below hb); have F_18 := Lib.hid (F_17.out.below hb); have G_18 := Lib.hid (G_17.out.below hb); have RP_18 := Lib.hid (RP_17.out.below hb); have RX_18 := Lib.hid (RX_17.out.below hb); have U_18 := Lib.hid (U_17.out.below hb)
          clear cR0 cR1 cR2 cR3 cR4 cG0 cG1 cF0 cF1 hb
          have cR0 := R_18.out.at 0 rfl; have cR1 := R_18.out.at 1 rfl; have cR2 := R_18.out.at 2 rfl; have cR3 := R_18.out.at 3 rfl; have cR4 := R_18.out.at 4 rfl
          have cG0 := G_18.out.at 0 rfl; have cG1 := G_18.out.at 1 rfl
          have cF0 := F_18.out.at 0 rfl; have cF1 := F_18.out.at 1 rfl
          go_wp2_with fail
          refine (implFW_any (x7 / 2 - 1) 0 x7 _ (.inl ⟨HG.out, rfl, HGV.out⟩)).mono ?_
          rintro e w19 ⟨rfl, hb⟩
          have HB19 := Lib.hid (thru0 HB18.out hb); have H_19 := Lib.hid (H_18.out.below hb); have P_19 := Lib.hid (P_18.out.below hb); have R_19 := Lib.hid (R_18.out.below hb); have F_19 := Lib.hid (F_18.out.below hb); have G_19 := Lib.hid (G_18.out.below hb); have RP_19 := Lib.hid (RP_18.out.below hb); have RX_19 := Lib.hid (RX_18.out.below hb); have U_19 := Lib.hid (U_18.out.below hb)
          clear cR0 cR1 cR2 cR3 cR4 cG0 cG1 cF0 cF1 hb
          have cR0 := R_19.out.at 0 rfl; have cR1 := R_19.out.at 1 rfl; have cR2 := R_19.out.at 2 rfl; have cR3 := R_19.out.at 3 rfl; have cR4 := R_19.out.at 4 rfl
          have cG0 := G_19.out.at 0 rfl; have cG1 := G_19.out.at 1 rfl
          have cF0 := F_19.out.at 0 rfl; have cF1 := F_19.out.at 1 rfl
          go_wp2_with fail
          go_meet
          exact ⟨rfl, HB19, H_19, P_19, RP_19⟩
      · have hc8 := hgc
        rcases isFW_cases HFW.out with hfc | hfc
        · obtain ⟨hx, rfl, rfl⟩ := hfc
          have HI6 : Hid (I64 (2 * x5 + 2)) := ⟨by omega, by omega⟩
          have HF6 : Hid (RFOk (2 * x5 + 2)) := ⟨by omega, by omega, by omega⟩
          have HFV : Hid (x5 = (2 * x5 + 2) / 2 - 1) := Lib.hid (by omega)
          clear hx
          have cR0 := R_16.out.at 0 rfl; have cR1 := R_16.out.at 1 rfl; have cR2 := R_16.out.at 2 rfl; have cR3 := R_16.out.at 3 rfl; have cR4 := R_16.out.at 4 rfl
          have cG0 := G_16.out.at 0 rfl; have cG1 := G_16.out.at 1 rfl
          have cF0 := F_16.out.at 0 rfl; have cF1 := F_16.out.at 1 rfl
          go_wp2_with fail
          refine (implPH_any (f3 0 / 2 % 16) (f3 0 / 32 % 4096) (f3 0 / 131072) (f3 1) 0 2 (two (1 + 2 * ((f3 0 / 2 % 16) + 16 * ((f3 0 / 32 % 4096) + 4096 * (f3 0 / 131072)))) (f3 1)) _ (.inl ⟨hro.out.2, rfl, rfl, rfl⟩)).mono ?_
          rintro e w17 ⟨u9, c9, rfl, ho, hb⟩
          have HB17 := Lib.hid (thru0 HB16.out hb); have H_17 := Lib.hid (H_16.out.below hb); have P_17 := Lib.hid (P_16.out.below hb); have R_17 := Lib.hid (R_16.out.below hb); have F_17 := Lib.hid (F_16.out.below hb); have G_17 := Lib.hid (G_16.out.below hb); have RP_17 := Lib.hid (RP_16.out.below hb); have RX_17 := Lib.hid (RX_16.out.below hb)
          have U_17 := Lib.hid ho.src
          clear ho
          clear cR0 cR1 cR2 cR3 cR4 cG0 cG1 cF0 cF1 hb
          have cR0 := R_17.out.at 0 rfl; have cR1 := R_17.out.at 1 rfl; have cR2 := R_17.out.at 2 rfl; have cR3 := R_17.out.at 3 rfl; have cR4 := R_17.out.at 4 rfl
          have cG0 := G_17.out.at 0 rfl; have cG1 := G_17.out.at 1 rfl
          have cF0 := F_17.out.at 0 rfl; have cF1 := F_17.out.at 1 rfl
          go_wp2_with fail
          refine (lwNums_same _ _ 2 _ _ (two (1 + 2 * ((f3 0 / 2 % 16) + 16 * ((f3 0 / 32 % 4096) + 4096 * (f3 0 / 131072)))) (f3 1)) f3 _ U_17.out RX_17.out (by omega)).mono ?_
          rw [eqB_two hw0.out rfl]
          rintro e w18 ⟨rfl, hb⟩
          have HB18 := Lib.hid (thru0 HB17.out hb); have H_18 := Lib.hid (H_17.out.below hb); have P_18 := Lib.hid (P_17.out.below hb); have R_18 := Lib.hid (R_17.out.below hb); have F_18 := Lib.hid (F_17.out.below hb); have G_18 := Lib.hid (G_17.out.below hb); have RP_18 := Lib.hid (RP_17.out.below hb); have RX_18 := Lib.hid (RX_17.out.below hb); have U_18 := Lib.hid (U_17.out.below hb)
          clear cR0 cR1 cR2 cR3 cR4 cG0 cG1 cF0 cF1 hb
          have cR0 := R_18.out.at 0 rfl; have cR1 := R_18.out.at 1 rfl; have cR2 := R_18.out.at 2 rfl; have cR3 := R_18.out.at 3 rfl; have cR4 := R_18.out.at 4 rfl
          have cG0 := G_18.out.at 0 rfl; have cG1 := G_18.out.at 1 rfl
          have cF0 := F_18.out.at 0 rfl; have cF1 := F_18.out.at 1 rfl
          go_wp2_with fail
          refine (implRF_any (2 * x5 + 2) 0 x5 _ HI6.out (.inl ⟨HF6.out, rfl, HFV.out⟩)).mono ?_
          rintro e w19 ⟨rfl, hb⟩
          have HB19 := Lib.hid (thru0 HB18.out hb); have H_19 := Lib.hid (H_18.out.below hb); have P_19 := Lib.hid (P_18.out.below hb); have R_19 := Lib.hid (R_18.out.below hb); have F_19 := Lib.hid (F_18.out.below hb); have G_19 := Lib.hid (G_18.out.below hb); have RP_19 := Lib.hid (RP_18.out.below hb); have RX_19 := Lib.hid (RX_18.out.below hb); have U_19 := Lib.hid (U_18.out.below hb)
          clear cR0 cR1 cR2 cR3 cR4 cG0 cG1 cF0 cF1 hb
          have cR0 := R_19.out.at 0 rfl; have cR1 := R_19.out.at 1 rfl; have cR2 := R_19.out.at 2 rfl; have cR3 := R_19.out.at 3 rfl; have cR4 := R_19.out.at 4 rfl
          have cG0 := G_19.out.at 0 rfl; have cG1 := G_19.out.at 1 rfl
          have cF0 := F_19.out.at 0 rfl; have cF1 := F_19.out.at 1 rfl
          go_wp2_with fail
          go_meet
          exact ⟨rfl, HB19, H_19, P_19, RP_19⟩
        · have hc6 := hfc
          have cR0 := R_16.out.at 0 rfl; have cR1 := R_16.out.at 1 rfl; have cR2 := R_16.out.at 2 rfl; have cR3 := R_16.out.at 3 rfl; have cR4 := R_16.out.at 4 rfl
          have cG0 := G_16.out.at 0 rfl; have cG1 := G_16.out.at 1 rfl
          have cF0 := F_16.out.at 0 rfl; have cF1 := F_16.out.at 1 rfl
          go_wp2_with fail
          refine (implPH_any (f3 0 / 2 % 16) (f3 0 / 32 % 4096) (f3 0 / 131072) (f3 1) 0 2 (two (1 + 2 * ((f3 0 / 2 % 16) + 16 * ((f3 0 / 32 % 4096) + 4096 * (f3 0 / 131072)))) (f3 1)) _ (.inl ⟨hro.out.2, rfl, rfl, rfl⟩)).mono ?_
          rintro e w17 ⟨u9, c9, rfl, ho, hb⟩
          have HB17 := Lib.hid (thru0 HB16.out hb); have H_17 := Lib.hid (H_16.out.below hb); have P_17 := Lib.hid (P_16.out.below hb); have R_17 := Lib.hid (R_16.out.below hb); have F_17 := Lib.hid (F_16.out.below hb); have G_17 := Lib.hid (G_16.out.below hb); have RP_17 := Lib.hid (RP_16.out.below hb); have RX_17 := Lib.hid (RX_16.out.below hb)
          have U_17 := Lib.hid ho.src
          clear ho
          clear cR0 cR1 cR2 cR3 cR4 cG0 cG1 cF0 cF1 hb
          have cR0 := R_17.out.at 0 rfl; have cR1 := R_17.out.at 1 rfl; have cR2 := R_17.out.at 2 rfl; have cR3 := R_17.out.at 3 rfl; have cR4 := R_17.out.at 4 rfl
          have cG0 := G_17.out.at 0 rfl; have cG1 := G_17.out.at 1 rfl
          have cF0 := F_17.out.at 0 rfl; have cF1 := F_17.out.at 1 rfl
          go_wp2_with fail
          refine (lwNums_same _ _ 2 _ _ (two (1 + 2 * ((f3 0 / 2 % 16) + 16 * ((f3 0 / 32 % 4096) + 4096 * (f3 0 / 131072)))) (f3 1)) f3 _ U_17.out RX_17.out (by omega)).mono ?_
          rw [eqB_two hw0.out rfl]
          rintro e w18 ⟨rfl, hb⟩
          have HB18 := Lib.hid (thru0 HB17.out hb); have H_18 := Lib.hid (H_17.out.below hb); have P_18 := Lib.hid (P_17.out.below hb); have R_18 := Lib.hid (R_17.out.below hb); have F_18 := Lib.hid (F_17.out.below hb); have G_18 := Lib.hid (G_17.out.below hb); have RP_18 := Lib.hid (RP_17.out.below hb); have RX_18 := Lib.hid (RX_17.out.below hb); have U_18 := Lib.hid (U_17.out.below hb)
          clear cR0 cR1 cR2 cR3 cR4 cG0 cG1 cF0 cF1 hb
          have cR0 := R_18.out.at 0 rfl; have cR1 := R_18.out.at 1 rfl; have cR2 := R_18.out.at 2 rfl; have cR3 := R_18.out.at 3 rfl; have cR4 := R_18.out.at 4 rfl
          have cG0 := G_18.out.at 0 rfl; have cG1 := G_18.out.at 1 rfl
          have cF0 := F_18.out.at 0 rfl; have cF1 := F_18.out.at 1 rfl
          go_wp2_with fail
          go_meet
          exact ⟨rfl, HB18, H_18, P_18, RP_18⟩
    · have hc4' := hc4
      rcases isRF_cases HRF.out with hgc | hgc
      · obtain ⟨⟨hg1, hg2, hg3⟩, rfl, rfl⟩ := hgc
        have HG : Hid (0 ≤ x7 / 2 - 1 ∧ x7 / 2 - 1 ≤ 399) := ⟨by omega, by omega⟩
        have HGV : Hid (x7 = 2 * (x7 / 2 - 1) + 2) := Lib.hid (by omega)
        clear hg1 hg2 hg3
        rcases isFW_cases HFW.out with hfc | hfc
        · obtain ⟨hx, rfl, rfl⟩ := hfc
          have HI6 : Hid (I64 (2 * x5 + 2)) := ⟨by omega, by omega⟩
          have HF6 : Hid (RFOk (2 * x5 + 2)) := ⟨by omega, by omega, by omega⟩
          have HFV : Hid (x5 = (2 * x5 + 2) / 2 - 1) := Lib.hid (by omega)
          clear hx
          have cR0 := R_16.out.at 0 rfl; have cR1 := R_16.out.at 1 rfl; have cR2 := R_16.out.at 2 rfl; have cR3 := R_16.out.at 3 rfl; have cR4 := R_16.out.at 4 rfl
          have cG0 := G_16.out.at 0 rfl; have cG1 := G_16.out.at 1 rfl
          have cF0 := F_16.out.at 0 rfl; have cF1 := F_16.out.at 1 rfl
          go_wp2_with fail
          refine (implFW_any (x7 / 2 - 1) 0 x7 _ (.inl ⟨HG.out, rfl, HGV.out⟩)).mono ?_
          rintro e w17 ⟨rfl, hb⟩
          have HB17 := Lib.hid (thru0 HB16.out hb); have H_17 := Lib.hid (H_16.out.below hb); have P_17 := Lib.hid (P_16.out.below hb); have R_17 := Lib.hid (R_16.out.below hb); have F_17 := Lib.hid (F_16.out.below hb); have G_17 := Lib.hid (G_16.out.below hb); have RP_17 := Lib.hid (RP_16.out.below hb); have RX_17 := Lib.hid (RX_16.out.below hb)
          clear cR0 cR1 cR2 cR3 cR4 cG0 cG1 cF0 cF1 hb
          have cR0 := R_17.out.at 0 rfl; have cR1 := R_17.out.at 1 rfl; have cR2 := R_17.out.at 2 rfl; have cR3 := R_17.out.at 3 rfl; have cR4 := R_17.out.at 4 rfl
          have cG0 := G_17.out.at 0 rfl; have cG1 := G_17.out.at 1 rfl
          have cF0 := F_17.out.at 0 rfl; have cF1 := F_17.out.at 1 rfl
          go_wp2_with fail
          refine (implRF_any (2 * x5 + 2) 0 x5 _ HI6.out (.inl ⟨HF6.out, rfl, HFV.out⟩)).mono ?_
          rintro e w18 ⟨rfl, hb⟩
          have HB18 := Lib.hid (thru0 HB17.out hb); have H_18 := Lib.hid (H_17.out.below hb); have P_18 := Lib.hid (P_17.out.below hb); have R_18 := Lib.hid (R_17.out.below hb); have F_18 := Lib.hid (F_17.out.below hb); have G_18 := Lib.hid (G_17.out.below hb); have RP_18 := Lib.hid (RP_17.out.below hb); have RX_18 := Lib.hid (RX_17.out.below hb)
          clear cR0 cR1 cR2 cR3 cR4 cG0 cG1 cF0 cF1 hb
          have cR0 := R_18.out.at 0 rfl; have cR1 := R_18.out.at 1 rfl; have cR2 := R_18.out.at 2 rfl; have cR3 := R_18.out.at 3 rfl; have cR4 := R_18.out.at 4 rfl
          have cG0 := G_18.out.at 0 rfl; have cG1 := G_18.out.at 1 rfl
          have cF0 := F_18.out.at 0 rfl; have cF1 := F_18.out.at 1 rfl
          go_wp2_with fail
          go_meet
          exact ⟨rfl, HB18, H_18, P_18, RP_18⟩
        · have hc6 := hfc
          have cR0 := R_16.out.at 0 rfl; have cR1 := R_16.out.at 1 rfl; have cR2 := R_16.out.at 2 rfl; have cR3 := R_16.out.at 3 rfl; have cR4 := R_16.out.at 4 rfl
          have cG0 := G_16.out.at 0 rfl; have cG1 := G_16.out.at 1 rfl
          have cF0 := F_16.out.at 0 rfl; have cF1 := F_16.out.at 1 rfl
          go_wp2_with fail
          refine (implFW_any (x7 / 2 - 1) 0 x7 _ (.inl ⟨HG.out, rfl, HGV.out⟩)).mono ?_
          rintro e w17 ⟨rfl, hb⟩
          have HB17 := Lib.hid (thru0 HB16.out hb); have H_17 := Lib.hid (H_16.out.below hb); have P_17 := Lib.hid (P_16.out.below hb); have R_17 := Lib.hid (R_16.out.below hb); have F_17 := Lib.hid (F_16.out.below hb); have G_17 := Lib.hid (G_16.out.below hb); have RP_17 := Lib.hid (RP_16.out.below hb); have RX_17 := Lib.hid (RX_16.out.below hb)
          clear cR0 cR1 cR2 cR3 cR4 cG0 cG1 cF0 cF1 hb
          have cR0 := R_17.out.at 0 rfl; have cR1 := R_17.out.at 1 rfl; have cR2 := R_17.out.at 2 rfl; have cR3 := R_17.out.at 3 rfl; have cR4 := R_17.out.at 4 rfl
          have cG0 := G_17.out.at 0 rfl; have cG1 := G_17.out.at 1 rfl
          have cF0 := F_17.out.at 0 rfl; have cF1 := F_17.out.at 1 rfl
          go_wp2_with fail
          go_meet
          exact ⟨rfl, HB17, H_17, P_17, RP_17⟩
      · have hc8 := hgc
        rcases isFW_cases HFW.out with hfc | hfc
        · obtain ⟨hx, rfl, rfl⟩ := hfc
          have HI6 : Hid (I64 (2 * x5 + 2)) := ⟨by omega, by omega⟩
          have HF6 : Hid (RFOk (2 * x5 + 2)) := ⟨by omega, by omega, by omega⟩
          have HFV : Hid (x5 = (2 * x5 + 2) / 2 - 1) := Lib.hid (by omega)
          clear hx
          have cR0 := R_16.out.at 0 rfl; have cR1 := R_16.out.at 1 rfl; have cR2 := R_16.out.at 2 rfl; have cR3 := R_16.out.at 3 rfl; have cR4 := R_16.out.at 4 rfl
          have cG0 := G_16.out.at 0 rfl; have cG1 := G_16.out.at 1 rfl
          have cF0 := F_16.out.at 0 rfl; have cF1 := F_16.out.at 1 rfl
          go_wp2_with fail
          refine (implRF_any (2 * x5 + 2) 0 x5 _ HI6.out (.inl ⟨HF6.out, rfl, HFV.out⟩)).mono ?_
          rintro e w17 ⟨rfl, hb⟩
          have HB17 := Lib.hid (thru0 HB16.out hb); have H_17 := Lib.hid (H_16.out.below hb); have P_17 := Lib.hid (P_16.out.below hb); have R_17 := Lib.hid (R_16.out.below hb); have F_17 := Lib.hid (F_16.out.below hb); have G_17 := Lib.hid (G_16.out.below hb); have RP_17 := Lib.hid (RP_16.out.below hb); have RX_17 := Lib.hid (RX_16.out.below hb)
          clear cR0 cR1 cR2 cR3 cR4 cG0 cG1 cF0 cF1 hb
          have cR0 := R_17.out.at 0 rfl; have cR1 := R_17.out.at 1 rfl; have cR2 := R_17.out.at 2 rfl; have cR3 := R_17.out.at 3 rfl; have cR4 := R_17.out.at 4 rfl
          have cG0 := G_17.out.at 0 rfl; have cG1 := G_17.out.at 1 rfl
          have cF0 := F_17.out.at 0 rfl; have cF1 := F_17.out.at 1 rfl
          go_wp2_with fail
          go_meet
          exact ⟨rfl, HB17, H_17, P_17, RP_17⟩
        · have hc6 := hfc
          have cR0 := R_16.out.at 0 rfl; have cR1 := R_16.out.at 1 rfl; have cR2 := R_16.out.at 2 rfl; have cR3 := R_16.out.at 3 rfl; have cR4 := R_16.out.at 4 rfl
          have cG0 := G_16.out.at 0 rfl; have cG1 := G_16.out.at 1 rfl
          have cF0 := F_16.out.at 0 rfl; have cF1 := F_16.out.at 1 rfl
          go_wp2_with fail
          go_meet
          exact ⟨rfl, HB16, H_16, P_16, RP_16⟩
  case rest =>
    obtain ⟨rfl, HB_c, H_c, P_c, RP_c⟩ := hcut
    clear HB16 H_16 P_16 R_16 F_16 G_16 RP_16 RX_16
    rcases HP.out with ⟨hok, rfl, rfl, rfl⟩ | ⟨hno, rfl, rfl, rfl⟩
    case inr =>
      have cP0 := P_c.out.at 0 rfl
      go_wp2
      go_ret
      exact ⟨rfl, HB_c.out⟩
    have HO := Lib.hid hok
    have cP0 := P_c.out.at 0 rfl
    obtain ⟨ub, uo, rfl, hub, huc⟩ := src_some RP_c.out (by omega)
    have hu0 := huc 0 (by omega)
    simp only [Nat.add_zero] at hu0
    obtain ⟨⟨q1, q2⟩, ⟨q3', q4⟩, ⟨q5, q6⟩, q7, q8⟩ := hok
    have q9 := P2_le q2
    have q4' : m ≤ 4095 := by omega
    clear huc hu0 q9
    go_upto_region 17 with (fail)
    have H_d := Lib.hid H_c.out.drew
    have P_d := Lib.hid P_c.out.drew
    have RP_d := Lib.hid RP_c.out.drew
    have HB_d := Lib.hid HB_c.out.drew
    have hodd : Hid (IsRF (1 + 2 * (s + 16 * (m + 4096 * o))) 1 0) := .inr ⟨fun x => by have := x.2.2; omega, rfl, rfl⟩
    have hI64 : Hid (I64 (1 + 2 * (s + 16 * (m + 4096 * o)))) := ⟨by omega, by omega⟩
    go_region_held3 (fun w' => w'.cell? ⟨w2.heap.size, 0, none⟩ = some (.int .i64 0) ∧ w'.cell? ⟨w2.heap.size, 1, none⟩ = some (.slice (some ⟨ub, uo, none⟩) 2 c2) ∧ w'.cell? ⟨w1.heap.size, 0, none⟩ = some (.int .i64 s) ∧ w'.cell? ⟨w1.heap.size, 1, none⟩ = some (.int .i64 m) ∧ w'.cell? ⟨w1.heap.size, 2, none⟩ = some (.int .i64 o) ∧ w'.cell? ⟨w1.heap.size, 3, none⟩ = some (.int .i64 h) ∧ w'.cell? ⟨ub, uo, none⟩ = some (.int .i64 (1 + 2 * (s + 16 * (m + 4096 * o)))))
      (first | (with_reducible exact ⟨P_c.out.at 0 rfl, P_c.out.at 1 rfl, H_c.out.at 0 rfl, H_c.out.at 1 rfl, H_c.out.at 2 rfl, H_c.out.at 3 rfl, src_c0 RP_c.out⟩) | (with_reducible exact ⟨P_d.out.at 0 rfl, P_d.out.at 1 rfl, H_d.out.at 0 rfl, H_d.out.at 1 rfl, H_d.out.at 2 rfl, H_d.out.at 3 rfl, src_c0 RP_d.out⟩) | (with_reducible exact ⟨P_17.out.at 0 rfl, P_17.out.at 1 rfl, H_17.out.at 0 rfl, H_17.out.at 1 rfl, H_17.out.at 2 rfl, H_17.out.at 3 rfl, src_c0 RP_17.out⟩) | (with_reducible exact ⟨P_18.out.at 0 rfl, P_18.out.at 1 rfl, H_18.out.at 0 rfl, H_18.out.at 1 rfl, H_18.out.at 2 rfl, H_18.out.at 3 rfl, src_c0 RP_18.out⟩))
      (first | (go_at_call 15; refine (implRH_any _ 2 c2 (two (1 + 2 * (s + 16 * (m + 4096 * o))) h) 0 s m o h _ RP_d.out (by omega) (pack_back HO.out)).mono ?_; rintro e w17 ⟨rfl, hb⟩; have HB17 := Lib.hid (thru0 HB_d.out hb); have H_17 := Lib.hid (H_d.out.below hb); have P_17 := Lib.hid (P_d.out.below hb); have RP_17 := Lib.hid (RP_d.out.below hb); clear hb) | (go_at_call 19; refine (implRF_any (1 + 2 * (s + 16 * (m + 4096 * o))) 1 0 _ hI64.out hodd.out).mono ?_; rintro e w18 ⟨rfl, hb⟩; have HB18 := Lib.hid (thru0 HB17.out hb); have H_18 := Lib.hid (H_17.out.below hb); have P_18 := Lib.hid (P_17.out.below hb); have RP_18 := Lib.hid (RP_17.out.below hb); clear hb))
    clear HB_c H_c P_c RP_c HB_d H_d P_d RP_d HB17 H_17 P_17 RP_17 hodd hI64 hfl1 hfl2
    have cH0 := H_18.out.at 0 rfl
    go_wp2
    go_loopw [11, 12, 13] (fun q r p wr => ∃ i : Nat, (i : Int) ≤ s ∧ q = .int .i64 (m % P2 i) ∧ r = .int .i64 (P2 i) ∧ p = .int .i64 (i : Int) ∧ Hid (Below w.heap.size w wr) ∧ Hid (Blk wr w1.heap.size [.int .i64 s, .int .i64 m, .int .i64 o, .int .i64 h])) (fun _ _ p _ => s.toNat - (intOf p).toNat)
    case atStart => exact ⟨0, by omega, by simp [P2], by simp [P2], rfl, HB18, H_18⟩
    case round =>
      obtain ⟨i, hi, rfl, rfl, rfl, HB_r, H_r⟩ := hrel
      clear HB18 H_18 P_18 RP_18 cH0
      have p1 := P2_pos (i : Int)
      have p2 := P2_le (s := (i : Int)) (by omega)
      have g1 : 0 ≤ m % P2 i := Int.emod_nonneg _ (by omega)
      have g2 : m % P2 i < P2 i := Int.emod_lt_of_pos _ (by omega)
      have d0 := H_r.out.at 0 rfl; have d1 := H_r.out.at 1 rfl; have d2 := H_r.out.at 2 rfl; have d3 := H_r.out.at 3 rfl
      by_cases hlt : (i : Int) < s
      · have hn := mask_next i q3'
        have hdd : m / P2 i % 2 = 1 ∨ m / P2 i % 2 = 0 := by omega
        rcases hdd with hd | hd
        · have HIP : Hid (IsIP s m o h i true) := .inl ⟨⟨HO.out, ⟨by omega, by omega⟩⟩, by rw [hd]; rfl⟩
          have hn' : m % P2 ((i : Int) + 1) = m % P2 i + P2 i := by rw [hn, hd]; omega
          clear hn hd
          go_wp2_with fail
          refine (implIP_any s m o h i true _ HIP.out).mono ?_
          rintro e wz ⟨rfl, hb⟩
          have HB_s := Lib.hid (thru0 HB_r.out hb); have H_s := Lib.hid (H_r.out.below hb)
          clear hb d0 d1 d2 d3
          go_wp2
          go_roundw
          case rel => first | exact ⟨i + 1, by omega, by rw [Int.natCast_succ, hn'], by rw [Int.natCast_succ, P2_succ, Int.mul_comm], by go_num, HB_s, H_s⟩ | ((repeat apply Exists.intro); exact ⟨⟨i + 1, by omega, by rw [Int.natCast_succ, hn'], by rw [Int.natCast_succ, P2_succ, Int.mul_comm], by go_num, HB_s, H_s⟩, rfl⟩)
          case measure => simp [intOf]; omega
        · have HIP : Hid (IsIP s m o h i false) := .inl ⟨⟨HO.out, ⟨by omega, by omega⟩⟩, by rw [hd]; rfl⟩
          have hn' : m % P2 ((i : Int) + 1) = m % P2 i := by rw [hn, hd]; omega
          clear hn hd
          go_wp2_with fail
          refine (implIP_any s m o h i false _ HIP.out).mono ?_
          rintro e wz ⟨rfl, hb⟩
          have HB_s := Lib.hid (thru0 HB_r.out hb); have H_s := Lib.hid (H_r.out.below hb)
          clear hb d0 d1 d2 d3
          go_wp2
          go_roundw
          case rel => first | exact ⟨i + 1, by omega, by rw [Int.natCast_succ, hn'], by rw [Int.natCast_succ, P2_succ, Int.mul_comm], by go_num, HB_s, H_s⟩ | ((repeat apply Exists.intro); exact ⟨⟨i + 1, by omega, by rw [Int.natCast_succ, hn'], by rw [Int.natCast_succ, P2_succ, Int.mul_comm], by go_num, HB_s, H_s⟩, rfl⟩)
          case measure => simp [intOf]; omega
      · obtain rfl : (i : Int) = s := by omega
        have hm : m % P2 i = m := Int.emod_eq_of_lt q3' (by omega)
        rw [hm]
        have HIP : Hid (IsIP (i : Int) m o h i false) := .inr ⟨fun x => by have := x.2.2; omega, rfl⟩
        go_wp2_with fail
        refine (implIP_any _ m o h i false _ HIP.out).mono ?_
        rintro e wz ⟨rfl, hb⟩
        have HB_s := Lib.hid (thru0 HB_r.out hb)
        clear hb
        go_wp2
        go_ret
        exact ⟨rfl, HB_s.out⟩


theorem e3_any (ca : Option Addr) (k kc : Nat) (B : Nat → Int) (w : World) (hs : SrcB w w.heap.size ca k B) (hk : k ≤ maxLen) : Calls Try.prog 3 #[.slice ca k kc] w (RetBool w true) := by
  by_cases h : k ≤ 1048576
  · exact e3_near ca k kc B w hs h
  · exact e3_far ca k kc w hk (by omega)

end Go.Proofs.Ytflhjbcpffhanaa
