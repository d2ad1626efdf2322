/- Contracts: FlipArena, the program, with the room of its words. -/
import Derived.Test.YthejbgmhfajcpaaA14
namespace Go.Proofs.Ythejbgmhfajcpaa
open Go.RowKit
set_option linter.unusedVariables false


/-- An arena's result comes back; where there is no code, what is known of its words' room. -/
def RetResC (W : World) (r : AR) (e : Ending) (w' : World) : Prop :=
  ∃ a c, e = .returned (.agg #[.int .i64 r.co, .int .i64 r.h, .slice a r.n c, .int .i64 r.ac, .int .i64 r.bu, .int .i64 r.at_]) ∧ Own w' W.heap.size a r.n r.f ∧ Below W.heap.size W w' ∧ (r.co = 0 → r.n ≤ c ∧ c ≤ maxLen)
theorem retFlipC {w w' : World} {m : Nat} {F G K : Nat → Int} {h ac bu at_ : Int} {u : Option Addr} {cu : Nat} (hg : ∀ i, i < 2 * m → cat m F G i = K i) (hc : m + m ≤ cu) (hcm : cu ≤ maxLen) (ho : Own w' w.heap.size u (m + m) (cat m F G)) (hb : Below w.heap.size w w') :
    RetResC w ⟨0, h, 2 * m, K, ac, bu, at_⟩ (.returned (.agg #[.int .i64 0, .int .i64 h, .slice u (m + m) cu, .int .i64 ac, .int .i64 bu, .int .i64 at_])) w' := by
  have e : m + m = 2 * m := by omega
  refine ⟨u, cu, by rw [e], ?_, hb, fun _ => ⟨by show 2 * m ≤ cu; omega, hcm⟩⟩
  show Own w' w.heap.size u (2 * m) K
  rw [← e]
  exact ho.congr fun i hi => hg i (by omega)

set_option maxHeartbeats 1600000 in
theorem implFlipC_ok0 (m : Nat) (bu : Int) (a : Option Addr) (c : Nat) (f : Nat → Int) (w : World) (hs : Src w a (2 * m) f) (hcn : 2 * m ≤ c) (hcm : c ≤ maxLen) (hk : IsFault (m : Int) (2 * m) f 0 bu 0) :
    Calls Try.prog 29 #[.agg #[.int .i64 (m : Int), .slice a (2 * m) c, .int .i64 0, .int .i64 bu]] w (RetResC w ⟨0, m, 2 * m, zeroR f 0 m, 1, 0, 0⟩) := by
  obtain ⟨⟨⟨g1, g2⟩, _, g5, g6⟩, _, _⟩ := isFault_ok hk
  obtain ⟨ab, ao, rfl, hab, hac⟩ := src_some hs (by omega)
  clear hac
  have HS := Lib.hid hs
  have HK := Lib.hid hk
  have HCM := Lib.hid hcm
  clear hs hk hcm
  go_enter Try.func29, Try.ntmps29
  go_wp2_with fail
  refine (implFault_any _ _ _ _ _ _ f 0 _ ((HS.out.alloc _).alloc _) HK.out).mono ?_
  rintro e w1 ⟨rfl, hb⟩
  have HB1 : Hid (Below w.heap.size w w1) := thru2 (Below.refl _ _) hb
  have z1 : w.heap.size + 2 ≤ w1.heap.size := by have := hb.size; simp at this; omega
  have HS_1 := Lib.hid (((HS.out.alloc _).alloc _).below hb)
  have A_1 := Lib.hid (((Blk.new_at (w.heap.size) (by simp)).alloc _).below hb)
  have R_1 := Lib.hid ((Blk.new_at (w.heap.size + 1) (by simp)).below hb)
  clear hb HS
  have lA := A_1.out.1
  have cA0 := A_1.out.at 0 rfl
  have cA1 := A_1.out.at 1 rfl
  have cA2 := A_1.out.at 2 rfl
  have cA3 := A_1.out.at 3 rfl
  go_wp2_with fail
  refine (halvesOf_any _ _ _ _ _ _ f _ HS_1.out (by omega) (by omega) hcn HCM.out).mono ?_
  rintro e w2 ⟨u1, e1, u2, e2, mid, rfl, ho, hb, hm1, hm2⟩
  have HB2 : Hid (Below w.heap.size w w2) := thru0 HB1.out hb
  have z2 : w1.heap.size ≤ w2.heap.size := hb.size
  have HS_2 := Lib.hid (HS_1.out.below hb)
  have A_2 := Lib.hid (A_1.out.below hb)
  have R_2 := Lib.hid (R_1.out.below hb)
  have HL_2 : Hid (Halves w2 w1.heap.size mid w2.heap.size u1 u2 m f) := ho
  clear hb lA cA0 cA1 cA2 cA3 HS_1 A_1 R_1 HB1 ho
  obtain ⟨b1, o1, rfl, _, _, _⟩ := ownIn_some HL_2.out.1 (by omega)
  obtain ⟨b2, o2, rfl, _, _, _⟩ := ownIn_some HL_2.out.2 (by omega)
  have lA := A_2.out.1
  have lA := A_2.out.1
  have cA0 := A_2.out.at 0 rfl
  have cA1 := A_2.out.at 1 rfl
  have cA2 := A_2.out.at 2 rfl
  have cA3 := A_2.out.at 3 rfl
  go_upto_region 6 with (refine wpList_clear _ rfl (.tmp 17) 24 rfl _ rfl _ _ (run_clr _ _ b1 o1 m _ _ _ f (by omega) (HL_2.out.1.alloc _)) ?_)
  have st := (HL_2.out.1.alloc (.cells #[.slice (some ⟨b1, o1, none⟩) m e1, .slice (some ⟨b2, o2, none⟩) m e2] 66)).cleared (by omega)
  have HB3 : Hid (Below w.heap.size w ((w2.alloc (.cells #[.slice (some ⟨b1, o1, none⟩) m e1, .slice (some ⟨b2, o2, none⟩) m e2] 66)).setCells b1 o1 (List.replicate m (.int .i64 0)))) := (HB2.out.alloc HB2.out.size _).trans (st.2.below (by omega) (by simp; omega))
  have A_3 : Hid (Blk ((w2.alloc (.cells #[.slice (some ⟨b1, o1, none⟩) m e1, .slice (some ⟨b2, o2, none⟩) m e2] 66)).setCells b1 o1 (List.replicate m (.int .i64 0))) w.heap.size [.int .i64 (m : Int), .slice (some ⟨ab, ao, none⟩) (2 * m) c, .int .i64 0, .int .i64 bu]) := (A_2.out.alloc _).keeps st.2 (by omega)
  have R_3 : Hid (Blk ((w2.alloc (.cells #[.slice (some ⟨b1, o1, none⟩) m e1, .slice (some ⟨b2, o2, none⟩) m e2] 66)).setCells b1 o1 (List.replicate m (.int .i64 0))) (w.heap.size + 1) [.int .i64 0, .int .i64 0, .slice none 0 0, .int .i64 0, .int .i64 0, .int .i64 0]) := (R_2.out.alloc _).keeps st.2 (by omega)
  have H_3 : Hid (Blk ((w2.alloc (.cells #[.slice (some ⟨b1, o1, none⟩) m e1, .slice (some ⟨b2, o2, none⟩) m e2] 66)).setCells b1 o1 (List.replicate m (.int .i64 0))) w2.heap.size [.slice (some ⟨b1, o1, none⟩) m e1, .slice (some ⟨b2, o2, none⟩) m e2]) := (Blk.new_at (w2.heap.size) rfl).keeps st.2 (by omega)
  have z3 : w2.heap.size + 1 ≤ ((w2.alloc (.cells #[.slice (some ⟨b1, o1, none⟩) m e1, .slice (some ⟨b2, o2, none⟩) m e2] 66)).setCells b1 o1 (List.replicate m (.int .i64 0))).heap.size := by rw [size_setCells]; simp
  have L_3 : Hid (OwnIn ((w2.alloc (.cells #[.slice (some ⟨b1, o1, none⟩) m e1, .slice (some ⟨b2, o2, none⟩) m e2] 66)).setCells b1 o1 (List.replicate m (.int .i64 0))) w1.heap.size mid (some ⟨b1, o1, none⟩) m (fun _ => 0)) := st.1
  have M_3 : Hid (OwnIn ((w2.alloc (.cells #[.slice (some ⟨b1, o1, none⟩) m e1, .slice (some ⟨b2, o2, none⟩) m e2] 66)).setCells b1 o1 (List.replicate m (.int .i64 0))) mid w2.heap.size (some ⟨b2, o2, none⟩) m (fun i => f (m + i))) := (HL_2.out.2.alloc _).keeps st.2 (.inr (Nat.le_refl _))
  clear st HB2 A_2 R_2 HL_2 HS_2 lA cA0 cA1 cA2 cA3
  generalize (w2.alloc (.cells #[.slice (some ⟨b1, o1, none⟩) m e1, .slice (some ⟨b2, o2, none⟩) m e2] 66)).setCells b1 o1 (List.replicate m (.int .i64 0)) = w3 at *
  have lA := A_3.out.1
  have cA0 := A_3.out.at 0 rfl
  have cA1 := A_3.out.at 1 rfl
  have cA2 := A_3.out.at 2 rfl
  have cA3 := A_3.out.at 3 rfl
  have lH := H_3.out.1
  have cH0 := H_3.out.at 0 rfl
  have cH1 := H_3.out.at 1 rfl
  go_wp2_with fail
  refine (withHalves_any _ _ _ _ _ _ _ _ m m _ _ (fun _ => 0) (fun i => f (m + i)) _ L_3.out.src M_3.out.src (by omega) (by omega) (by omega) (by omega)).mono ?_
  rintro e w4 ⟨u4, e4, rfl, ho, hb, hc4, hcm4, hn4⟩
  have HB4 : Hid (Below w.heap.size w w4) := thru0 HB3.out hb
  have z4 : w3.heap.size ≤ w4.heap.size := hb.size
  have A_4 := Lib.hid (A_3.out.below hb)
  have R_4 := Lib.hid (R_3.out.below hb)
  have H_4 := Lib.hid (H_3.out.below hb)
  have L_4 := Lib.hid (L_3.out.below hb)
  have M_4 := Lib.hid (M_3.out.below hb)
  have RW_4 : Hid (OwnIn w4 w3.heap.size w4.heap.size u4 (m + m) (cat m (fun _ => 0) (fun i => f (m + i)))) := ho.into
  clear hb lA cA0 cA1 cA2 cA3 lH cH0 cH1 A_3 R_3 H_3 L_3 M_3 HB3 ho
  clear L_4 M_4 H_4
  have lA := A_4.out.1
  have cA0 := A_4.out.at 0 rfl
  have cA1 := A_4.out.at 1 rfl
  have cA2 := A_4.out.at 2 rfl
  have cA3 := A_4.out.at 3 rfl
  go_upto_region 9 with (fail)
  have HB5 : Hid (Below w.heap.size w (w4.alloc (.cells #[.int .i64 (m : Int), .slice u4 (m + m) e4, .int .i64 1, .int .i64 0] 26))) := HB4.out.alloc HB4.out.size _
  have R_5 : Hid (Blk (w4.alloc (.cells #[.int .i64 (m : Int), .slice u4 (m + m) e4, .int .i64 1, .int .i64 0] 26)) (w.heap.size + 1) [.int .i64 0, .int .i64 0, .slice none 0 0, .int .i64 0, .int .i64 0, .int .i64 0]) := R_4.out.alloc _
  have T_5 : Hid (Blk (w4.alloc (.cells #[.int .i64 (m : Int), .slice u4 (m + m) e4, .int .i64 1, .int .i64 0] 26)) w4.heap.size [.int .i64 (m : Int), .slice u4 (m + m) e4, .int .i64 1, .int .i64 0]) := Blk.new_at (w4.heap.size) rfl
  have RW_5 : Hid (OwnIn (w4.alloc (.cells #[.int .i64 (m : Int), .slice u4 (m + m) e4, .int .i64 1, .int .i64 0] 26)) w3.heap.size w4.heap.size u4 (m + m) (cat m (fun _ => 0) (fun i => f (m + i)))) := RW_4.out.alloc _
  clear HB4 R_4 A_4 RW_4 lA cA0 cA1 cA2 cA3
  generalize w4.alloc (.cells #[.int .i64 (m : Int), .slice u4 (m + m) e4, .int .i64 1, .int .i64 0] 26) = w5 at *
  have lT := T_5.out.1
  have cT0 := T_5.out.at 0 rfl
  have cT1 := T_5.out.at 1 rfl
  have cT2 := T_5.out.at 2 rfl
  have cT3 := T_5.out.at 3 rfl
  have lR := R_5.out.1
  have cR0 := R_5.out.at 0 rfl
  have cR1 := R_5.out.at 1 rfl
  have cR2 := R_5.out.at 2 rfl
  have cR3 := R_5.out.at 3 rfl
  have cR4 := R_5.out.at 4 rfl
  have cR5 := R_5.out.at 5 rfl
  have fR0 := R_5.out.free 0 rfl
  have fR1 := R_5.out.free 1 rfl
  have fR2 := R_5.out.free 2 rfl
  have fR3 := R_5.out.free 3 rfl
  have fR4 := R_5.out.free 4 rfl
  have fR5 := R_5.out.free 5 rfl
  have hg : ∀ i, i < 2 * m → cat m (fun _ => 0) (fun i => f (m + i)) i = zeroR f 0 m i := by
    intro i hi
    simp only [cat, zeroR]
    by_cases h : i < m
    · rw [if_pos h, if_pos (by omega)]
    · rw [if_neg h, if_neg (by omega)]; congr 1; omega
  have HG := Lib.hid hg
  clear hg
  go_wp2
  have hz := HB5.out.size
  refine bodyPost_ret (v := .agg #[.int .i64 0, .int .i64 (m : Int), .slice u4 (m + m) e4, .int .i64 1, .int .i64 0, .int .i64 0]) (by simp [results, Try.results29, go_sem, cR0, cR1, cR2, cR3, cR4, cR5]) rfl (retFlipC HG.out hc4 hcm4 ?_ ?_)
  · refine Own.mono (B := w.heap.size + 2) ?_ (by omega)
    repeat (with_reducible refine Own.setCell ?_ (by (try simp); (try omega)) _)
    exact (RW_5.out.widen (by omega) (Nat.le_refl _)).out
  · repeat (with_reducible refine Below.setCell ?_ (by (try simp); (try omega)) _)
    exact HB5.out

set_option maxHeartbeats 1600000 in
theorem implFlipC_ok1 (m : Nat) (bu : Int) (a : Option Addr) (c : Nat) (f : Nat → Int) (w : World) (hs : Src w a (2 * m) f) (hcn : 2 * m ≤ c) (hcm : c ≤ maxLen) (hk : IsFault (m : Int) (2 * m) f 1 bu 0) :
    Calls Try.prog 29 #[.agg #[.int .i64 (m : Int), .slice a (2 * m) c, .int .i64 1, .int .i64 bu]] w (RetResC w ⟨0, m, 2 * m, zeroR f m m, 0, 0, 0⟩) := by
  obtain ⟨⟨⟨g1, g2⟩, _, g5, g6⟩, _, _⟩ := isFault_ok hk
  obtain ⟨ab, ao, rfl, hab, hac⟩ := src_some hs (by omega)
  clear hac
  have HS := Lib.hid hs
  have HK := Lib.hid hk
  have HCM := Lib.hid hcm
  clear hs hk hcm
  go_enter Try.func29, Try.ntmps29
  go_wp2_with fail
  refine (implFault_any _ _ _ _ _ _ f 0 _ ((HS.out.alloc _).alloc _) HK.out).mono ?_
  rintro e w1 ⟨rfl, hb⟩
  have HB1 : Hid (Below w.heap.size w w1) := thru2 (Below.refl _ _) hb
  have z1 : w.heap.size + 2 ≤ w1.heap.size := by have := hb.size; simp at this; omega
  have HS_1 := Lib.hid (((HS.out.alloc _).alloc _).below hb)
  have A_1 := Lib.hid (((Blk.new_at (w.heap.size) (by simp)).alloc _).below hb)
  have R_1 := Lib.hid ((Blk.new_at (w.heap.size + 1) (by simp)).below hb)
  clear hb HS
  have lA := A_1.out.1
  have cA0 := A_1.out.at 0 rfl
  have cA1 := A_1.out.at 1 rfl
  have cA2 := A_1.out.at 2 rfl
  have cA3 := A_1.out.at 3 rfl
  go_wp2_with fail
  refine (halvesOf_any _ _ _ _ _ _ f _ HS_1.out (by omega) (by omega) hcn HCM.out).mono ?_
  rintro e w2 ⟨u1, e1, u2, e2, mid, rfl, ho, hb, hm1, hm2⟩
  have HB2 : Hid (Below w.heap.size w w2) := thru0 HB1.out hb
  have z2 : w1.heap.size ≤ w2.heap.size := hb.size
  have HS_2 := Lib.hid (HS_1.out.below hb)
  have A_2 := Lib.hid (A_1.out.below hb)
  have R_2 := Lib.hid (R_1.out.below hb)
  have HL_2 : Hid (Halves w2 w1.heap.size mid w2.heap.size u1 u2 m f) := ho
  clear hb lA cA0 cA1 cA2 cA3 HS_1 A_1 R_1 HB1 ho
  obtain ⟨b1, o1, rfl, _, _, _⟩ := ownIn_some HL_2.out.1 (by omega)
  obtain ⟨b2, o2, rfl, _, _, _⟩ := ownIn_some HL_2.out.2 (by omega)
  have lA := A_2.out.1
  have lA := A_2.out.1
  have cA0 := A_2.out.at 0 rfl
  have cA1 := A_2.out.at 1 rfl
  have cA2 := A_2.out.at 2 rfl
  have cA3 := A_2.out.at 3 rfl
  go_upto_region 6 with (refine wpList_clear _ rfl (.tmp 17) 24 rfl _ rfl _ _ (run_clr _ _ b2 o2 m _ _ _ (fun i => f (m + i)) (by omega) (HL_2.out.2.alloc _)) ?_)
  have st := (HL_2.out.2.alloc (.cells #[.slice (some ⟨b1, o1, none⟩) m e1, .slice (some ⟨b2, o2, none⟩) m e2] 66)).cleared (by omega)
  have HB3 : Hid (Below w.heap.size w ((w2.alloc (.cells #[.slice (some ⟨b1, o1, none⟩) m e1, .slice (some ⟨b2, o2, none⟩) m e2] 66)).setCells b2 o2 (List.replicate m (.int .i64 0)))) := (HB2.out.alloc HB2.out.size _).trans (st.2.below (by omega) (by simp; omega))
  have A_3 : Hid (Blk ((w2.alloc (.cells #[.slice (some ⟨b1, o1, none⟩) m e1, .slice (some ⟨b2, o2, none⟩) m e2] 66)).setCells b2 o2 (List.replicate m (.int .i64 0))) w.heap.size [.int .i64 (m : Int), .slice (some ⟨ab, ao, none⟩) (2 * m) c, .int .i64 1, .int .i64 bu]) := (A_2.out.alloc _).keeps st.2 (by omega)
  have R_3 : Hid (Blk ((w2.alloc (.cells #[.slice (some ⟨b1, o1, none⟩) m e1, .slice (some ⟨b2, o2, none⟩) m e2] 66)).setCells b2 o2 (List.replicate m (.int .i64 0))) (w.heap.size + 1) [.int .i64 0, .int .i64 0, .slice none 0 0, .int .i64 0, .int .i64 0, .int .i64 0]) := (R_2.out.alloc _).keeps st.2 (by omega)
  have H_3 : Hid (Blk ((w2.alloc (.cells #[.slice (some ⟨b1, o1, none⟩) m e1, .slice (some ⟨b2, o2, none⟩) m e2] 66)).setCells b2 o2 (List.replicate m (.int .i64 0))) w2.heap.size [.slice (some ⟨b1, o1, none⟩) m e1, .slice (some ⟨b2, o2, none⟩) m e2]) := (Blk.new_at (w2.heap.size) rfl).keeps st.2 (by omega)
  have z3 : w2.heap.size + 1 ≤ ((w2.alloc (.cells #[.slice (some ⟨b1, o1, none⟩) m e1, .slice (some ⟨b2, o2, none⟩) m e2] 66)).setCells b2 o2 (List.replicate m (.int .i64 0))).heap.size := by rw [size_setCells]; simp
  have L_3 : Hid (OwnIn ((w2.alloc (.cells #[.slice (some ⟨b1, o1, none⟩) m e1, .slice (some ⟨b2, o2, none⟩) m e2] 66)).setCells b2 o2 (List.replicate m (.int .i64 0))) w1.heap.size mid (some ⟨b1, o1, none⟩) m f) := (HL_2.out.1.alloc _).keeps st.2 (.inl (Nat.le_refl _))
  have M_3 : Hid (OwnIn ((w2.alloc (.cells #[.slice (some ⟨b1, o1, none⟩) m e1, .slice (some ⟨b2, o2, none⟩) m e2] 66)).setCells b2 o2 (List.replicate m (.int .i64 0))) mid w2.heap.size (some ⟨b2, o2, none⟩) m (fun _ => 0)) := st.1
  clear st HB2 A_2 R_2 HL_2 HS_2 lA cA0 cA1 cA2 cA3
  generalize (w2.alloc (.cells #[.slice (some ⟨b1, o1, none⟩) m e1, .slice (some ⟨b2, o2, none⟩) m e2] 66)).setCells b2 o2 (List.replicate m (.int .i64 0)) = w3 at *
  have lA := A_3.out.1
  have cA0 := A_3.out.at 0 rfl
  have cA1 := A_3.out.at 1 rfl
  have cA2 := A_3.out.at 2 rfl
  have cA3 := A_3.out.at 3 rfl
  have lH := H_3.out.1
  have cH0 := H_3.out.at 0 rfl
  have cH1 := H_3.out.at 1 rfl
  go_wp2_with fail
  refine (withHalves_any _ _ _ _ _ _ _ _ m m _ _ f (fun _ => 0) _ L_3.out.src M_3.out.src (by omega) (by omega) (by omega) (by omega)).mono ?_
  rintro e w4 ⟨u4, e4, rfl, ho, hb, hc4, hcm4, hn4⟩
  have HB4 : Hid (Below w.heap.size w w4) := thru0 HB3.out hb
  have z4 : w3.heap.size ≤ w4.heap.size := hb.size
  have A_4 := Lib.hid (A_3.out.below hb)
  have R_4 := Lib.hid (R_3.out.below hb)
  have H_4 := Lib.hid (H_3.out.below hb)
  have L_4 := Lib.hid (L_3.out.below hb)
  have M_4 := Lib.hid (M_3.out.below hb)
  have RW_4 : Hid (OwnIn w4 w3.heap.size w4.heap.size u4 (m + m) (cat m f (fun _ => 0))) := ho.into
  clear hb lA cA0 cA1 cA2 cA3 lH cH0 cH1 A_3 R_3 H_3 L_3 M_3 HB3 ho
  clear L_4 M_4 H_4
  have lA := A_4.out.1
  have cA0 := A_4.out.at 0 rfl
  have cA1 := A_4.out.at 1 rfl
  have cA2 := A_4.out.at 2 rfl
  have cA3 := A_4.out.at 3 rfl
  go_upto_region 9 with (fail)
  have HB5 : Hid (Below w.heap.size w (w4.alloc (.cells #[.int .i64 (m : Int), .slice u4 (m + m) e4, .int .i64 0, .int .i64 0] 26))) := HB4.out.alloc HB4.out.size _
  have R_5 : Hid (Blk (w4.alloc (.cells #[.int .i64 (m : Int), .slice u4 (m + m) e4, .int .i64 0, .int .i64 0] 26)) (w.heap.size + 1) [.int .i64 0, .int .i64 0, .slice none 0 0, .int .i64 0, .int .i64 0, .int .i64 0]) := R_4.out.alloc _
  have T_5 : Hid (Blk (w4.alloc (.cells #[.int .i64 (m : Int), .slice u4 (m + m) e4, .int .i64 0, .int .i64 0] 26)) w4.heap.size [.int .i64 (m : Int), .slice u4 (m + m) e4, .int .i64 0, .int .i64 0]) := Blk.new_at (w4.heap.size) rfl
  have RW_5 : Hid (OwnIn (w4.alloc (.cells #[.int .i64 (m : Int), .slice u4 (m + m) e4, .int .i64 0, .int .i64 0] 26)) w3.heap.size w4.heap.size u4 (m + m) (cat m f (fun _ => 0))) := RW_4.out.alloc _
  clear HB4 R_4 A_4 RW_4 lA cA0 cA1 cA2 cA3
  generalize w4.alloc (.cells #[.int .i64 (m : Int), .slice u4 (m + m) e4, .int .i64 0, .int .i64 0] 26) = w5 at *
  have lT := T_5.out.1
  have cT0 := T_5.out.at 0 rfl
  have cT1 := T_5.out.at 1 rfl
  have cT2 := T_5.out.at 2 rfl
  have cT3 := T_5.out.at 3 rfl
  have lR := R_5.out.1
  have cR0 := R_5.out.at 0 rfl
  have cR1 := R_5.out.at 1 rfl
  have cR2 := R_5.out.at 2 rfl
  have cR3 := R_5.out.at 3 rfl
  have cR4 := R_5.out.at 4 rfl
  have cR5 := R_5.out.at 5 rfl
  have fR0 := R_5.out.free 0 rfl
  have fR1 := R_5.out.free 1 rfl
  have fR2 := R_5.out.free 2 rfl
  have fR3 := R_5.out.free 3 rfl
  have fR4 := R_5.out.free 4 rfl
  have fR5 := R_5.out.free 5 rfl
  have hg : ∀ i, i < 2 * m → cat m f (fun _ => 0) i = zeroR f m m i := by
    intro i hi
    simp only [cat, zeroR]
    by_cases h : i < m
    · rw [if_pos h, if_neg (by omega)]
    · rw [if_neg h, if_pos (by omega)]
  have HG := Lib.hid hg
  clear hg
  go_wp2
  have hz := HB5.out.size
  refine bodyPost_ret (v := .agg #[.int .i64 0, .int .i64 (m : Int), .slice u4 (m + m) e4, .int .i64 0, .int .i64 0, .int .i64 0]) (by simp [results, Try.results29, go_sem, cR0, cR1, cR2, cR3, cR4, cR5]) rfl (retFlipC HG.out hc4 hcm4 ?_ ?_)
  · refine Own.mono (B := w.heap.size + 2) ?_ (by omega)
    repeat (with_reducible refine Own.setCell ?_ (by (try simp); (try omega)) _)
    exact (RW_5.out.widen (by omega) (Nat.le_refl _)).out
  · repeat (with_reducible refine Below.setCell ?_ (by (try simp); (try omega)) _)
    exact HB5.out


theorem implFlipC_any (h ac bu : Int) (a : Option Addr) (n c : Nat) (f : Nat → Int) (r : AR) (w : World) (hs : Src w a n f) (hcn : n ≤ c) (hcm : c ≤ maxLen) (hr : IsFlip h n f ac bu r) :
    Calls Try.prog 29 #[.agg #[.int .i64 h, .slice a n c, .int .i64 ac, .int .i64 bu]] w (RetResC w r) := by
  rcases hr with ⟨k, h1, h2, rfl⟩ | ⟨h1, rfl⟩
  · refine (implFlip_fault h ac bu a n c f k w hs hcn hcm h1 h2).mono ?_
    rintro e w' ⟨a', c', h3, h4, h5⟩
    exact ⟨a', c', h3, h4, h5, fun h => absurd h h2⟩
  · obtain ⟨⟨⟨g1, g2⟩, ⟨g3, g4⟩, _⟩, gn, _⟩ := isFault_ok h1
    obtain ⟨m, rfl⟩ : ∃ m : Nat, h = m := ⟨h.toNat, by omega⟩
    obtain rfl : n = 2 * m := by omega
    rcases (by omega : ac = 0 ∨ ac = 1) with rfl | rfl
    · exact implFlipC_ok0 m bu a c f w hs hcn hcm h1
    · exact implFlipC_ok1 m bu a c f w hs hcn hcm h1

end Go.Proofs.Ythejbgmhfajcpaa
