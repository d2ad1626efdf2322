/- Draws: l1Draw. -/
import Derived.Test.YthejbgmhfajcpaaD1
import Derived.Test.YthejbgmhfajcpaaA12
namespace Go.Proofs.Ythejbgmhfajcpaa
open Go.RowKit
set_option linter.unusedVariables false


theorem src_cast {w : World} {b : Nat} {ca : Option Addr} {k kc t : Nat} (h : Blk w b [.slice ca k kc, .int .i64 ((t : Int) + 1)]) : Blk w b [.slice ca k kc, .int .i64 ((t + 1 : Nat) : Int)] := h
theorem q_named {Q : Exit → Act → World → Prop} {e : Exit} {a : Act} {W : World} (p : World → Prop) (hp : p W) (h : ∀ w', p w' → Q e a w') : Q e a W := h W hp
theorem ownIn_cell {w : World} {lo hi b off n : Nat} {f : Nat → Int} (h : OwnIn w lo hi (some ⟨b, off, none⟩) n f) (i : Nat) (hi' : i < n) : w.cell? ⟨b, off + i, none⟩ = some (.int .i64 (f i)) ∧ w.frozen? ⟨b, off + i, none⟩ = false := by
  rcases h with h | ⟨b', off', h1, _, _, h4⟩
  · omega
  · simp only [Option.some.injEq, Addr.mk.injEq, and_true] at h1
    obtain ⟨rfl, rfl⟩ := h1
    exact h4 i hi'
def RetDraw (W : World) (b : Nat) (ca : Option Addr) (k kc t : Nat) (e : Ending) (w' : World) : Prop :=
  ∃ (m c t' : Nat) (a : Option Addr) (f : Nat → Int) (ac bu : Int), (m = 8 ∨ m = 10 ∨ m = 16) ∧ e = .returned (.agg #[.int .i64 (m : Int), .slice a (2 * m) c, .int .i64 ac, .int .i64 bu]) ∧ OwnIn w' W.heap.size w'.heap.size a (2 * m) f ∧
    Blk w' b [.slice ca k kc, .int .i64 (t' : Int)] ∧ t' ≤ t + 40 ∧ Keeps W w' b (b + 1) ∧ 2 * m ≤ c ∧ c ≤ maxLen

set_option maxHeartbeats 3200000 in
theorem draw_any (b S : Nat) (ca : Option Addr) (k kc t : Nat) (B : Nat → Int) (w : World) (hB0 : Blk w b [.slice ca k kc, .int .i64 (t : Int)]) (hs : SrcB w S ca k B) (hS : S ≤ b) (hk0 : k ≤ 1048576) (ht : t ≤ 1000) :
    Calls Try.prog 73 #[.pointer (some ⟨b, 0, none⟩)] w (RetDraw w b ca k kc t) := by
  have hbw := hB0.1
  have S_0 := Lib.hid hB0
  have B_0 := Lib.hid hs
  clear hB0 hs
  go_enter Try.func73, Try.ntmps73
  go_wp2_with fail
  refine (of_any [8, 10, 16] b S _ ca k kc t 3 B _ _ (S_0.out.alloc _) (B_0.out.alloc _) hS hk0 (by omega) rfl (by simp) (by simp) rfl (by simp)).mono ?_
  rintro e w1 ⟨v, rfl, hv, hB, hk⟩
  obtain ⟨m, rfl, hm⟩ : ∃ m : Nat, v = (m : Int) ∧ (m = 8 ∨ m = 10 ∨ m = 16) := by
    simp only [List.mem_cons, List.not_mem_nil, or_false] at hv
    rcases hv with rfl | rfl | rfl
    · exact ⟨8, rfl, .inl rfl⟩
    · exact ⟨10, rfl, .inr (.inl rfl)⟩
    · exact ⟨16, rfl, .inr (.inr rfl)⟩
  have hm1 : m ≤ 16 := by omega
  have hm2 : 8 ≤ m := by omega
  clear hv
  have HK_1 : Hid (Keeps w w1 b (b + 1)) := (((Keeps.refl w b (b + 1)).alloc _).alloc _).trans hk
  have z1 : w.heap.size + 2 ≤ w1.heap.size := by have := hk.size; simp at this; omega
  have S_1 := Lib.hid (src_cast hB)
  have B_1 := Lib.hid (((B_0.out.alloc _).alloc _).keeps hk hS)
  have R_1 := Lib.hid (((Blk.new_at (w.heap.size) (by simp)).alloc _).keeps hk (by omega))
  clear hk hB S_0 B_0
  go_wp2_with fail
  refine (l1New_any m _ (by omega)).mono ?_
  rintro e w2 ⟨u, cu, rfl, ho, hb, hcu, hcm, hnu⟩
  have hk := keeps_of_below hb b (b + 1)
  have HK_2 : Hid (Keeps w w2 b (b + 1)) := HK_1.out.trans hk
  have z2 : w1.heap.size ≤ w2.heap.size := hk.size
  have S_2 := Lib.hid (S_1.out.below hb)
  have B_2 := Lib.hid (B_1.out.below hb)
  have R_2 := Lib.hid (R_1.out.below hb)
  have RW_2 : Hid (OwnIn w2 w1.heap.size w2.heap.size u (2 * m) (fun _ => 0)) := ho.into
  clear hk hb HK_1 S_1 B_1 R_1 ho
  go_wp2_with fail
  refine (next_is _ b S ca k kc (t + 1) 2 B _ rfl (S_2.out.alloc _) (B_2.out.alloc _) hS hk0 (by omega) (by omega) (by omega)).mono ?_
  rintro e w3 ⟨v3, rfl, hv3, hB, hk⟩
  have HK_3 : Hid (Keeps w w3 b (b + 1)) := (HK_2.out.alloc _).trans hk
  have z3 : w2.heap.size + 1 ≤ w3.heap.size := by have := hk.size; simp at this; omega
  have S_3 := Lib.hid (src_cast hB)
  have B_3 := Lib.hid ((B_2.out.alloc _).keeps hk hS)
  have R_3 := Lib.hid ((R_2.out.alloc _).keeps hk (by omega))
  have RW_3 := Lib.hid ((RW_2.out.alloc _).keeps hk (by omega))
  have T_3 := Lib.hid ((Blk.new_at (w2.heap.size) (by simp)).keeps hk (by omega))
  clear hk hB HK_2 S_2 B_2 R_2 RW_2
  have lT := T_3.out.1
  have cT0 := T_3.out.at 0 rfl
  have fT0 := T_3.out.free 0 rfl
  have cT1 := T_3.out.at 1 rfl
  have fT1 := T_3.out.free 1 rfl
  have cT2 := T_3.out.at 2 rfl
  have fT2 := T_3.out.free 2 rfl
  have cT3 := T_3.out.at 3 rfl
  have fT3 := T_3.out.free 3 rfl
  go_upto_region 3 with (fail)
  have S_4 : Hid (Blk (w3.setCell ⟨w2.heap.size, 2, none⟩ (.int .i64 (v3 : Int))) b [.slice ca k kc, .int .i64 ((t + 1 + 1 : Nat) : Int)]) := S_3.out.other (by (try simp); (try omega)) _
  have B_4 : Hid (SrcB (w3.setCell ⟨w2.heap.size, 2, none⟩ (.int .i64 (v3 : Int))) S ca k B) := B_3.out.setCell (by (try simp); (try omega)) _
  have R_4 : Hid (Blk (w3.setCell ⟨w2.heap.size, 2, none⟩ (.int .i64 (v3 : Int))) w.heap.size [.int .i64 0, .slice none 0 0, .int .i64 0, .int .i64 0]) := R_3.out.other (by (try simp); (try omega)) _
  have T_4 : Hid (Blk (w3.setCell ⟨w2.heap.size, 2, none⟩ (.int .i64 (v3 : Int))) w2.heap.size [.int .i64 (m : Int), .slice u (2 * m) cu, .int .i64 (v3 : Int), .int .i64 0]) := T_3.out.set 2 (by simp) _
  have RW_4 : Hid (OwnIn (w3.setCell ⟨w2.heap.size, 2, none⟩ (.int .i64 (v3 : Int))) w1.heap.size w2.heap.size u (2 * m) (fun _ => 0)) := RW_3.out.setCell (by (try simp); (try omega)) _
  have HK_4 : Hid (Keeps w (w3.setCell ⟨w2.heap.size, 2, none⟩ (.int .i64 (v3 : Int))) b (b + 1)) := HK_3.out.setNew (by (try simp); (try omega)) _
  have z4 : w3.heap.size ≤ (w3.setCell ⟨w2.heap.size, 2, none⟩ (.int .i64 (v3 : Int))).heap.size := by simp
  clear HK_3 S_3 B_3 R_3 RW_3 T_3 lT cT0 fT0 cT1 fT1 cT2 fT2 cT3 fT3
  generalize w3.setCell ⟨w2.heap.size, 2, none⟩ (.int .i64 (v3 : Int)) = w4 at *
  have lT := T_4.out.1
  have cT0 := T_4.out.at 0 rfl
  have fT0 := T_4.out.free 0 rfl
  have cT1 := T_4.out.at 1 rfl
  have fT1 := T_4.out.free 1 rfl
  have cT2 := T_4.out.at 2 rfl
  have fT2 := T_4.out.free 2 rfl
  have cT3 := T_4.out.at 3 rfl
  have fT3 := T_4.out.free 3 rfl
  go_wp2_with fail
  refine (next_is _ b S ca k kc (t + 1 + 1) (m + 1) B _ (by simp) S_4.out B_4.out hS hk0 (by omega) (by omega) (by omega)).mono ?_
  rintro e w5 ⟨v5, rfl, hv5, hB, hk⟩
  have HK_5 : Hid (Keeps w w5 b (b + 1)) := HK_4.out.trans hk
  have z5 : w4.heap.size ≤ w5.heap.size := hk.size
  have S_5 := Lib.hid (src_cast hB)
  have B_5 := Lib.hid (B_4.out.keeps hk hS)
  have R_5 := Lib.hid (R_4.out.keeps hk (by omega))
  have T_5 := Lib.hid (T_4.out.keeps hk (by omega))
  have RW_5 := Lib.hid (RW_4.out.keeps hk (by omega))
  clear hk hB S_4 B_4 R_4 T_4 RW_4 HK_4 lT cT0 fT0 cT1 fT1 cT2 fT2 cT3 fT3
  have lT := T_5.out.1
  have cT0 := T_5.out.at 0 rfl
  have fT0 := T_5.out.free 0 rfl
  have cT1 := T_5.out.at 1 rfl
  have fT1 := T_5.out.free 1 rfl
  have cT2 := T_5.out.at 2 rfl
  have fT2 := T_5.out.free 2 rfl
  have cT3 := T_5.out.at 3 rfl
  have fT3 := T_5.out.free 3 rfl
  go_upto_region 4 with (fail)
  have S_6 : Hid (Blk (w5.setCell ⟨w2.heap.size, 3, none⟩ (.int .i64 (v5 : Int))) b [.slice ca k kc, .int .i64 ((t + 1 + 1 + 1 : Nat) : Int)]) := S_5.out.other (by (try simp); (try omega)) _
  have B_6 : Hid (SrcB (w5.setCell ⟨w2.heap.size, 3, none⟩ (.int .i64 (v5 : Int))) S ca k B) := B_5.out.setCell (by (try simp); (try omega)) _
  have R_6 : Hid (Blk (w5.setCell ⟨w2.heap.size, 3, none⟩ (.int .i64 (v5 : Int))) w.heap.size [.int .i64 0, .slice none 0 0, .int .i64 0, .int .i64 0]) := R_5.out.other (by (try simp); (try omega)) _
  have T_6 : Hid (Blk (w5.setCell ⟨w2.heap.size, 3, none⟩ (.int .i64 (v5 : Int))) w2.heap.size [.int .i64 (m : Int), .slice u (2 * m) cu, .int .i64 (v3 : Int), .int .i64 (v5 : Int)]) := T_5.out.set 3 (by simp) _
  have RW_6 : Hid (OwnIn (w5.setCell ⟨w2.heap.size, 3, none⟩ (.int .i64 (v5 : Int))) w1.heap.size w2.heap.size u (2 * m) (fun _ => 0)) := RW_5.out.setCell (by (try simp); (try omega)) _
  have HK_6 : Hid (Keeps w (w5.setCell ⟨w2.heap.size, 3, none⟩ (.int .i64 (v5 : Int))) b (b + 1)) := HK_5.out.setNew (by (try simp); (try omega)) _
  have z6 : w5.heap.size ≤ (w5.setCell ⟨w2.heap.size, 3, none⟩ (.int .i64 (v5 : Int))).heap.size := by simp
  clear HK_5 S_5 B_5 R_5 T_5 RW_5 lT cT0 fT0 cT1 fT1 cT2 fT2 cT3 fT3
  generalize w5.setCell ⟨w2.heap.size, 3, none⟩ (.int .i64 (v5 : Int)) = w6 at *
  go_wp2_with fail
  refine (next_is _ b S ca k kc (t + 1 + 1 + 1) 9 B _ rfl S_6.out B_6.out hS hk0 (by omega) (by omega) (by omega)).mono ?_
  rintro e w7 ⟨v7, rfl, hv7, hB, hk⟩
  have HK_7 : Hid (Keeps w w7 b (b + 1)) := HK_6.out.trans hk
  have z7 : w6.heap.size ≤ w7.heap.size := hk.size
  have S_7 := Lib.hid (src_cast hB)
  have B_7 := Lib.hid (B_6.out.keeps hk hS)
  have R_7 := Lib.hid (R_6.out.keeps hk (by omega))
  have T_7 := Lib.hid (T_6.out.keeps hk (by omega))
  have RW_7 := Lib.hid (RW_6.out.keeps hk (by omega))
  clear hk hB S_6 B_6 R_6 T_6 RW_6 HK_6
  go_wp2
  go_loopw [4] (fun q wr => ∃ (i t' : Nat) (f : Nat → Int), i ≤ 8 ∧ q = .int .i64 (i : Int) ∧ t' + 3 * i ≤ t + 40 ∧ w7.heap.size ≤ wr.heap.size ∧ Hid (Blk wr b [.slice ca k kc, .int .i64 ((t' : Nat) : Int)]) ∧ Hid (SrcB wr S ca k B) ∧ Hid (Blk wr w.heap.size [.int .i64 0, .slice none 0 0, .int .i64 0, .int .i64 0]) ∧ Hid (Blk wr w2.heap.size [.int .i64 (m : Int), .slice u (2 * m) cu, .int .i64 (v3 : Int), .int .i64 (v5 : Int)]) ∧ Hid (OwnIn wr w1.heap.size w2.heap.size u (2 * m) f) ∧ Hid (Keeps w wr b (b + 1))) (fun q _ => (intOf q).toNat)
  case atStart => exact ⟨v7, _, _, by omega, rfl, by omega, Nat.le_refl _, S_7, B_7, R_7, T_7, RW_7, HK_7⟩
  case round =>
    obtain ⟨i, t', f, hi, rfl, ht', zr, S_r, B_r, R_r, T_r, RW_r, HK_r⟩ := hrel
    clear S_7 B_7 R_7 T_7 RW_7 HK_7
    have cT0 := T_r.out.at 0 rfl; have cT1 := T_r.out.at 1 rfl; have cT2 := T_r.out.at 2 rfl; have cT3 := T_r.out.at 3 rfl; have lT := T_r.out.1
    by_cases h0 : 0 < i
    · have h0' : (0 : Int) < (i : Int) := by omega
      go_wp2_with fail
      obtain ⟨ub, uo, rfl, hub, hubw, _⟩ := ownIn_some RW_r.out (by omega)
      have hub1 := hub.1; have hub2 := hub.2
      have S_d := Lib.hid S_r.out.drew; have B_d := Lib.hid B_r.out.drew; have R_d := Lib.hid R_r.out.drew; have T_d := Lib.hid T_r.out.drew; have RW_d := Lib.hid RW_r.out.drew; have HK_d := Lib.hid HK_r.out.drew
      clear S_r B_r R_r T_r RW_r HK_r cT0 cT1 cT2 cT3 lT
      go_region_held3 (fun w' => w'.cell? ⟨w2.heap.size, 0, none⟩ = some (.int .i64 (m : Int)) ∧ w'.cell? ⟨w2.heap.size, 1, none⟩ = some (.slice (some ⟨ub, uo, none⟩) (2 * m) cu))
        (first | with_reducible exact ⟨T_d.out.at 0 rfl, T_d.out.at 1 rfl⟩ | with_reducible exact ⟨T_8.out.at 0 rfl, T_8.out.at 1 rfl⟩ | with_reducible exact ⟨T_9.out.at 0 rfl, T_9.out.at 1 rfl⟩ | with_reducible exact ⟨(T_9.out.alloc _).at 0 rfl, (T_9.out.alloc _).at 1 rfl⟩ | with_reducible exact ⟨T_10.out.at 0 rfl, T_10.out.at 1 rfl⟩ | exact ⟨(T_10.out.other (by (try simp); (try omega)) _).at 0 rfl, (T_10.out.other (by (try simp); (try omega)) _).at 1 rfl⟩)
        (first | (go_at_call 70; (with_reducible refine (next_is (IntKind.i64.wrap (2 * (m : Int))) b S ca k kc t' (2 * m) B _ (by rw [IntWalk.i64_in _ (by omega)]; simp) S_d.out B_d.out hS hk0 (by omega) (by omega) (by omega)).mono ?_); rintro e w8 ⟨v8, rfl, hv8, hB, hk⟩; have y8 : wr.heap.size ≤ w8.heap.size := hk.size; have hv8' : (v8 : Int) < 2 * (m : Int) := (by omega); have B_8 := Lib.hid (B_d.out.keeps hk hS); have R_8 := Lib.hid (R_d.out.keeps hk (by omega)); have T_8 := Lib.hid (T_d.out.keeps hk (by omega)); have RW_8 := Lib.hid (RW_d.out.keeps hk (by omega)); have HK_8 := Lib.hid (HK_d.out.trans hk); have S_8 := Lib.hid (src_cast hB); clear hk hB) | (go_at_call 70; (with_reducible refine (next_is 99 b S ca k kc (t' + 1) 99 B _ rfl S_8.out B_8.out hS hk0 (by omega) (by omega) (by omega)).mono ?_); rintro e w9 ⟨v9, rfl, hv9, hB, hk⟩; have y9 : w8.heap.size ≤ w9.heap.size := hk.size; have B_9 := Lib.hid (B_8.out.keeps hk hS); have R_9 := Lib.hid (R_8.out.keeps hk (by omega)); have T_9 := Lib.hid (T_8.out.keeps hk (by omega)); have RW_9 := Lib.hid (RW_8.out.keeps hk (by omega)); have HK_9 := Lib.hid (HK_8.out.trans hk); have S_9 := Lib.hid (src_cast hB); clear hk hB) | (go_at_call 45; refine (of_any [1, 7, -5, 1000000000, (v9 : Int)] b S _ ca k kc (t' + 1 + 1) 5 B _ w9 S_9.out B_9.out hS hk0 (by omega) rfl (by simp) (by simp) rfl rfl).mono ?_; rintro e w10 ⟨v10, rfl, _, hB, hk⟩; have y10 : w9.heap.size ≤ w10.heap.size := (by have := hk.size; simp at this; omega); have B_10 := Lib.hid ((B_9.out.alloc _).keeps hk hS); have R_10 := Lib.hid ((R_9.out.alloc _).keeps hk (by omega)); have T_10 := Lib.hid ((T_9.out.alloc _).keeps hk (by omega)); have RW_10 := Lib.hid ((RW_9.out.alloc _).keeps hk (by omega)); have HK_10 := Lib.hid ((HK_9.out.alloc _).trans hk); have S_10 := Lib.hid (src_cast hB); clear hk hB; obtain ⟨cU, fU⟩ := (ownIn_cell RW_10.out v8 (by omega))))
      have st := Lib.hid (RW_10.out.stored v8 (by omega) v10)
      refine q_named (fun w11 => Hid (Blk w11 b [.slice ca k kc, .int .i64 ((t' + 1 + 1 + 1 : Nat) : Int)]) ∧ Hid (SrcB w11 S ca k B) ∧ Hid (Blk w11 w.heap.size [.int .i64 0, .slice none 0 0, .int .i64 0, .int .i64 0]) ∧ Hid (Blk w11 w2.heap.size [.int .i64 (m : Int), .slice (some ⟨ub, uo, none⟩) (2 * m) cu, .int .i64 (v3 : Int), .int .i64 (v5 : Int)]) ∧ Hid (OwnIn w11 w1.heap.size w2.heap.size (some ⟨ub, uo, none⟩) (2 * m) (fun j => if j = v8 then v10 else f j)) ∧ Hid (Keeps w w11 b (b + 1)) ∧ wr.heap.size ≤ w11.heap.size) ⟨S_10.out.other (by (try simp); (try omega)) _, B_10.out.setCell (by (try simp); (try omega)) _, R_10.out.other (by (try simp); (try omega)) _, T_10.out.other (by (try simp); (try omega)) _, st.out.1, HK_10.out.setNew (by (try simp); (try omega)) _, by simp; omega⟩ (fun w11 hF => ?_)
      obtain ⟨S_11, B_11, R_11, T_11, RW_11, HK_11, z11⟩ := hF
      clear st cU fU S_10 B_10 R_10 T_10 RW_10 HK_10 S_9 B_9 R_9 T_9 RW_9 HK_9 S_8 B_8 R_8 T_8 RW_8 HK_8 S_d B_d R_d T_d RW_d HK_d
      go_wp2
      go_roundw
      case rel => exact ⟨i - 1, t' + 1 + 1 + 1, _, by omega, by go_num, by omega, by omega, S_11, B_11, R_11, T_11, RW_11, HK_11⟩
      case measure => simp [intOf]; omega
    · obtain rfl : i = 0 := by omega
      have cR0 := R_r.out.at 0 rfl; have cR1 := R_r.out.at 1 rfl; have cR2 := R_r.out.at 2 rfl; have cR3 := R_r.out.at 3 rfl; have fR0 := R_r.out.free 0 rfl; have fR1 := R_r.out.free 1 rfl; have fR2 := R_r.out.free 2 rfl; have fR3 := R_r.out.free 3 rfl
      go_wp2
      refine bodyPost_ret (v := .agg #[.int .i64 (m : Int), .slice u (2 * m) cu, .int .i64 (v3 : Int), .int .i64 (v5 : Int)]) (by simp [results, Try.results73, go_sem, cR0, cR1, cR2, cR3]) rfl ⟨m, cu, t', u, f, _, _, hm, rfl, ?_, ?_, by omega, ?_, hcu, hcm⟩
      · refine OwnIn.widen (lo := w1.heap.size) (hi := w2.heap.size) ?_ (by omega) (by (try simp); (try omega))
        repeat (with_reducible refine OwnIn.setCell ?_ (.inl (by (try simp); (try omega))) _)
        exact RW_r.out
      · repeat (with_reducible refine Blk.other ?_ (by (try simp); (try omega)) _)
        exact S_r.out
      · repeat (with_reducible refine Keeps.setNew ?_ (by (try simp); (try omega)) _)
        exact HK_r.out

end Go.Proofs.Ythejbgmhfajcpaa
