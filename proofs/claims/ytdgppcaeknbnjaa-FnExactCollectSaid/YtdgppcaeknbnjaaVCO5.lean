/- Texts merged: X10 to X10. -/
import Derived.Test.YtdgppcaeknbnjaaVCO4
namespace Go.Proofs.Ytdgppcaeknbnjaa
open Go.RowKit Go.Maps
set_option linter.unusedVariables false

def RetCE (W : World) (co h : Int) (n : Nat) (f : Nat → Int) (ac bu : Int) (rn : Nat) (rf : Nat → Int) (mv : Int) (e : Ending) (w' : World) : Prop :=
  ∃ a c ra rc mid, e = .returned (.agg #[.int .i64 co, .int .i64 h, .slice a n c, .int .i64 ac, .int .i64 bu, .slice ra rn rc, .int .i64 mv]) ∧ OwnIn w' W.heap.size mid a n f ∧ OwnIn w' mid w'.heap.size ra rn rf ∧ W.heap.size ≤ mid ∧ mid ≤ w'.heap.size ∧ Below W.heap.size W w'

def BothC (sp im : Nat) (h : Int) (n : Nat) (f : Nat → Int) (ac bu : Int) (roots : List Int) (co h1 : Int) (n1 : Nat) (f1 : Nat → Int) (ac1 bu1 : Int) (rn : Nat) (rf : Nat → Int) (mv : Int) : Prop :=
  (n1 ≤ 400 ∧ rn ≤ 60) ∧ (∀ (a : Option Addr) (c : Nat) (ra : Option Addr) (rc : Nat) (w : World), Src w a n f → n ≤ c → c ≤ maxLen → Src w ra roots.length (lf roots) → Calls Try.prog sp #[.agg #[.int .i64 h, .slice a n c, .int .i64 ac, .int .i64 bu], .slice ra roots.length rc] w (RetCE w co h1 n1 f1 ac1 bu1 rn rf mv)) ∧
  (∀ (a : Option Addr) (c : Nat) (ra : Option Addr) (rc : Nat) (w : World), Src w a n f → n ≤ c → c ≤ maxLen → Src w ra roots.length (lf roots) → Calls Try.prog im #[.agg #[.int .i64 h, .slice a n c, .int .i64 ac, .int .i64 bu], .slice ra roots.length rc] w (RetCE w co h1 n1 f1 ac1 bu1 rn rf mv))

theorem retCE_of {W : World} {r : CR} {e : Ending} {w' : World} (h : RetCR W r e w') : RetCE W r.co r.h r.n r.f r.ac r.bu r.rl.length (lf r.rl) r.mv e w' := by
  obtain ⟨a, c, ra, rc, mid, h1, h2, h3, h4, h5, h6, _⟩ := h
  exact ⟨a, c, ra, rc, mid, h1, h2, h3, h4, h5, h6⟩

theorem both_co (h : Int) (n : Nat) (f : Nat → Int) (ac bu : Int) (roots : List Int) : ∃ co h1 n1 f1 ac1 bu1 rn rf mv, BothC 24 23 h n f ac bu roots co h1 n1 f1 ac1 bu1 rn rf mv := by
  obtain ⟨co, L, hk⟩ := isAsk_some h n f ac bu roots
  obtain ⟨r, hr⟩ := isCR_some h n f ac bu roots co L
  exact ⟨_, _, _, _, _, _, _, _, _, isCR_small hk hr, fun a c ra rc w h1 h2 h3 h4 => (specCol_any h ac bu a n c f ra roots rc co L r w h1 h2 h3 h4 hk hr).mono fun e w' h => retCE_of h, fun a c ra rc w h1 h2 h3 h4 => (implCol_any h ac bu a n c f ra roots rc co L r w h1 h2 h3 h4 hk hr).mono fun e w' h => retCE_of h⟩

set_option maxRecDepth 100000 in
set_option maxHeartbeats 800000 in
theorem e9_farA (h ac bu : Int) (a : Option Addr) (n c : Nat) (f : Nat → Int) (ra : Option Addr) (roots : List Int) (rc : Nat) (w : World) (hn : n ≤ maxLen) (hbig : 1048576 < n) (hrb : roots.length ≤ 1048576) :
    Calls Try.prog 9 #[.agg #[.int .i64 h, .slice a n c, .int .i64 ac, .int .i64 bu], .slice ra roots.length rc] w (RetBool w true) := by
  have hrd : ¬ (1048576 : Int) < (roots.length : Int) := by omega
  go_enter Try.func9, Try.ntmps9
  go_wp2_with (go_at_call 30; (with_reducible refine (szArena_no _ _ _ _ _ _ _ _ (by omega) (by omega) hn (by omega)).mono ?_); rintro e w1 ⟨rfl, hb⟩; obtain ⟨hc, hf⟩ := bcell hb; have HB := Lib.hid hb; have hz := hb.size; clear hb)
  go_ret
  exact ⟨rfl, ((Below.refl _ _).alloc (Nat.le_refl _) _).trans (HB.out.mono (by simp; try omega))⟩

set_option maxRecDepth 100000 in
set_option maxHeartbeats 400000 in
theorem e9_farR (h ac bu : Int) (a : Option Addr) (n c : Nat) (f : Nat → Int) (ra : Option Addr) (roots : List Int) (rc : Nat) (w : World) (hrb : 1048576 < roots.length) :
    Calls Try.prog 9 #[.agg #[.int .i64 h, .slice a n c, .int .i64 ac, .int .i64 bu], .slice ra roots.length rc] w (RetBool w true) := by
  have hrd : (1048576 : Int) < (roots.length : Int) := by omega
  go_enter Try.func9, Try.ntmps9
  go_wp2
  go_ret
  exact ⟨rfl, (Below.refl _ _).alloc (Nat.le_refl _) _⟩

set_option maxRecDepth 100000 in
set_option maxHeartbeats 6400000 in
theorem e9_near (h ac bu : Int) (a : Option Addr) (n c : Nat) (f : Nat → Int) (ra : Option Addr) (roots : List Int) (rc : Nat) (w : World) (hs : Src w a n f) (hq : Src w ra roots.length (lf roots)) (hbig : n ≤ 1048576) (hrb : roots.length ≤ 1048576) :
    Calls Try.prog 9 #[.agg #[.int .i64 h, .slice a n c, .int .i64 ac, .int .i64 bu], .slice ra roots.length rc] w (RetBool w true) := by
  obtain ⟨co, h1, n1, f1, ac1, bu1, rn, rf, mv, hbo⟩ := both_co h n f ac bu roots
  have hn1 : n1 ≤ 400 := hbo.1.1
  have hr1 : rn ≤ 60 := hbo.1.2
  have HSP := Lib.hid hbo.2.1; have HIM := Lib.hid hbo.2.2
  have hrd : ¬ (1048576 : Int) < (roots.length : Int) := by omega
  clear hbo
  have HS := Lib.hid hs
  have HQ := Lib.hid hq
  clear hs hq
  have HS0 := HS; have HQ0 := HQ
  go_enter Try.func9, Try.ntmps9
  go_wp2_with fail
  refine (szArena_ok _ _ _ _ _ _ _ _ (by omega) (by omega) (by unfold maxLen; omega) (by omega)).mono ?_
  rintro e w1 ⟨rfl, hb⟩
  have HB1 : Hid (Below w.heap.size w w1) := thru1 (Below.refl _ _) hb
  have z1 : w.heap.size + 1 ≤ w1.heap.size := by have := hb.size; simp at this; omega
  have HS_1 := Lib.hid ((HS.out.alloc _).below hb)
  have HQ_1 := Lib.hid ((HQ.out.alloc _).below hb)
  have A_1 := Lib.hid ((Blk.new_at (w.heap.size) (by simp)).below hb)
  clear hb HS HQ
  have lA := A_1.out.1
  have cA0 := A_1.out.at 0 rfl
  have cA1 := A_1.out.at 1 rfl
  have cA2 := A_1.out.at 2 rfl
  have cA3 := A_1.out.at 3 rfl
  go_wp2_with fail
  refine (toArena_any _ _ _ _ _ _ f _ HS_1.out hbig).mono ?_
  rintro e w2 ⟨u2, c2, rfl, ho, hb, hc2, hcm2, hn2⟩
  have HB2 : Hid (Below w.heap.size w w2) := thru0 HB1.out hb
  have z2 : w1.heap.size ≤ w2.heap.size := hb.size
  have HS_2 := Lib.hid (HS_1.out.below hb)
  have HQ_2 := Lib.hid (HQ_1.out.below hb)
  have A_2 := Lib.hid (A_1.out.below hb)
  have RA_2 : Hid (OwnIn w2 (w1.heap.size) w2.heap.size u2 n f) := ho.into
  clear hb lA cA0 cA1 cA2 cA3 HS_1 HQ_1 A_1 HB1 ho
  go_wp2_with fail
  refine (toInts_any _ _ _ (lf roots) _ HQ_2.out hrb).mono ?_
  rintro e w3 ⟨u3, c3, rfl, ho, hb, hc3, hcm3, hn3⟩
  have HB3 : Hid (Below w.heap.size w w3) := thru0 HB2.out hb
  have z3 : w2.heap.size ≤ w3.heap.size := hb.size
  have HS_3 := Lib.hid (HS_2.out.below hb)
  have HQ_3 := Lib.hid (HQ_2.out.below hb)
  have A_3 := Lib.hid (A_2.out.below hb)
  have RA_3 := Lib.hid (RA_2.out.below hb)
  have QA_3 : Hid (OwnIn w3 (w2.heap.size) w3.heap.size u3 roots.length (lf roots)) := ho.into
  clear hb HS_2 HQ_2 A_2 RA_2 HB2 ho
  go_wp2_with fail
  refine (HSP.out _ _ _ _ _ RA_3.out.src hc2 hcm2 QA_3.out.src).mono ?_
  rintro e w4 ⟨u4, c4, r4, d4, mid4, rfl, ho, ho2, hm4, hl4, hb⟩
  have HB4 : Hid (Below w.heap.size w w4) := thru0 HB3.out hb
  have z4 : w3.heap.size ≤ w4.heap.size := hb.size
  have HS_4 := Lib.hid (HS_3.out.below hb)
  have HQ_4 := Lib.hid (HQ_3.out.below hb)
  have A_4 := Lib.hid (A_3.out.below hb)
  have RA_4 := Lib.hid (RA_3.out.below hb)
  have QA_4 := Lib.hid (QA_3.out.below hb)
  have RW_4 : Hid (OwnIn w4 (w3.heap.size) mid4 u4 n1 f1) := ho
  have RV_4 : Hid (OwnIn w4 mid4 w4.heap.size r4 rn rf) := ho2
  clear ho2
  have hmm4 : w3.heap.size + 0 ≤ mid4 := by simpa using hm4
  clear hm4
  clear hb HS_3 HQ_3 A_3 RA_3 QA_3 HB3 ho
  clear RA_4 QA_4
  have lA := A_4.out.1
  have cA0 := A_4.out.at 0 rfl
  have cA1 := A_4.out.at 1 rfl
  have cA2 := A_4.out.at 2 rfl
  have cA3 := A_4.out.at 3 rfl
  go_wp2_with fail
  refine (toArena_any _ _ _ _ _ _ f _ (HS_4.out.alloc _) hbig).mono ?_
  rintro e w5 ⟨u5, c5, rfl, ho, hb, hc5, hcm5, hn5⟩
  have HB5 : Hid (Below w.heap.size w w5) := thru1 HB4.out hb
  have z5 : w4.heap.size + 1 ≤ w5.heap.size := by have := hb.size; simp at this; omega
  have HS_5 := Lib.hid ((HS_4.out.alloc _).below hb)
  have HQ_5 := Lib.hid ((HQ_4.out.alloc _).below hb)
  have A_5 := Lib.hid ((A_4.out.alloc _).below hb)
  have RW_5 := Lib.hid ((RW_4.out.alloc _).below hb)
  have RV_5 := Lib.hid ((RV_4.out.alloc _).below hb)
  have W_5 := Lib.hid ((Blk.new_at (w4.heap.size) (by simp)).below hb)
  have RX_5 : Hid (OwnIn w5 (w4.heap.size + 1) w5.heap.size u5 n f) := (ho.mono (by simp)).into
  clear hb lA cA0 cA1 cA2 cA3 HS_4 HQ_4 A_4 RW_4 RV_4 HB4 ho
  go_wp2_with fail
  refine (toInts_any _ _ _ (lf roots) _ (HQ_5.out.alloc _) hrb).mono ?_
  rintro e w6 ⟨u6, c6, rfl, ho, hb, hc6, hcm6, hn6⟩
  have HB6 : Hid (Below w.heap.size w w6) := thru1 HB5.out hb
  have z6 : w5.heap.size + 1 ≤ w6.heap.size := by have := hb.size; simp at this; omega
  have HS_6 := Lib.hid ((HS_5.out.alloc _).below hb)
  have HQ_6 := Lib.hid ((HQ_5.out.alloc _).below hb)
  have A_6 := Lib.hid ((A_5.out.alloc _).below hb)
  have RW_6 := Lib.hid ((RW_5.out.alloc _).below hb)
  have RV_6 := Lib.hid ((RV_5.out.alloc _).below hb)
  have W_6 := Lib.hid ((W_5.out.alloc _).below hb)
  have RX_6 := Lib.hid ((RX_5.out.alloc _).below hb)
  have X_6 := Lib.hid ((Blk.new_at (w5.heap.size) (by simp)).below hb)
  have RQ_6 : Hid (OwnIn w6 (w5.heap.size + 1) w6.heap.size u6 roots.length (lf roots)) := (ho.mono (by simp)).into
  clear hb HS_5 HQ_5 A_5 RW_5 RV_5 W_5 RX_5 HB5 ho
  have lX := X_6.out.1
  have cX0 := X_6.out.at 0 rfl
  have cX1 := X_6.out.at 1 rfl
  have cX2 := X_6.out.at 2 rfl
  have cX3 := X_6.out.at 3 rfl
  go_wp2_with fail
  refine (HIM.out _ _ _ _ _ RX_6.out.src hc5 hcm5 RQ_6.out.src).mono ?_
  rintro e w7 ⟨u7, c7, r7, d7, mid7, rfl, ho, ho2, hm7, hl7, hb⟩
  have HB7 : Hid (Below w.heap.size w w7) := thru0 HB6.out hb
  have z7 : w6.heap.size ≤ w7.heap.size := hb.size
  have HS_7 := Lib.hid (HS_6.out.below hb)
  have HQ_7 := Lib.hid (HQ_6.out.below hb)
  have A_7 := Lib.hid (A_6.out.below hb)
  have RW_7 := Lib.hid (RW_6.out.below hb)
  have RV_7 := Lib.hid (RV_6.out.below hb)
  have W_7 := Lib.hid (W_6.out.below hb)
  have RX_7 := Lib.hid (RX_6.out.below hb)
  have X_7 := Lib.hid (X_6.out.below hb)
  have RQ_7 := Lib.hid (RQ_6.out.below hb)
  have RG_7 : Hid (OwnIn w7 (w6.heap.size) mid7 u7 n1 f1) := ho
  have RH_7 : Hid (OwnIn w7 mid7 w7.heap.size r7 rn rf) := ho2
  clear ho2
  have hmm7 : w6.heap.size + 0 ≤ mid7 := by simpa using hm7
  clear hm7
  clear hb lX cX0 cX1 cX2 cX3 HS_6 HQ_6 A_6 RW_6 RV_6 W_6 RX_6 X_6 RQ_6 HB6 ho
  have lW := W_7.out.1
  have cW0 := W_7.out.at 0 rfl
  have cW1 := W_7.out.at 1 rfl
  have cW2 := W_7.out.at 2 rfl
  have cW3 := W_7.out.at 3 rfl
  have cW4 := W_7.out.at 4 rfl
  have cW5 := W_7.out.at 5 rfl
  have cW6 := W_7.out.at 6 rfl
  go_wp2_with fail
  refine (eqCR_same _ _ _ f1 f1 _ _ _ _ rf rf _ _ _ _ _ _ _ _ _ (RG_7.out.alloc _).src (RW_7.out.alloc _).src (RH_7.out.alloc _).src (RV_7.out.alloc _).src (by omega) (by omega) (fun _ _ => rfl) (fun _ _ => rfl)).mono ?_
  rintro e w8 ⟨rfl, hb⟩
  have HB8 : Hid (Below w.heap.size w w8) := thru1 HB7.out hb
  have z8 : w7.heap.size + 1 ≤ w8.heap.size := by have := hb.size; simp at this; omega
  have HS_8 := Lib.hid ((HS_7.out.alloc _).below hb)
  have HQ_8 := Lib.hid ((HQ_7.out.alloc _).below hb)
  have A_8 := Lib.hid ((A_7.out.alloc _).below hb)
  have RW_8 := Lib.hid ((RW_7.out.alloc _).below hb)
  have RV_8 := Lib.hid ((RV_7.out.alloc _).below hb)
  have W_8 := Lib.hid ((W_7.out.alloc _).below hb)
  have RX_8 := Lib.hid ((RX_7.out.alloc _).below hb)
  have X_8 := Lib.hid ((X_7.out.alloc _).below hb)
  have RQ_8 := Lib.hid ((RQ_7.out.alloc _).below hb)
  have RG_8 := Lib.hid ((RG_7.out.alloc _).below hb)
  have RH_8 := Lib.hid ((RH_7.out.alloc _).below hb)
  have G_8 := Lib.hid ((Blk.new_at (w7.heap.size) (by simp)).below hb)
  clear hb lW cW0 cW1 cW2 cW3 cW4 cW5 cW6 HS_7 HQ_7 A_7 RW_7 RV_7 W_7 RX_7 X_7 RQ_7 RG_7 RH_7 HB7
  have lA := A_8.out.1
  have cA0 := A_8.out.at 0 rfl
  have cA1 := A_8.out.at 1 rfl
  have cA2 := A_8.out.at 2 rfl
  have cA3 := A_8.out.at 3 rfl
  have lX := X_8.out.1
  have cX0 := X_8.out.at 0 rfl
  have cX1 := X_8.out.at 1 rfl
  have cX2 := X_8.out.at 2 rfl
  have cX3 := X_8.out.at 3 rfl
  go_wp2_with fail
  have HS_8d := Lib.hid HS_8.out.drew
  have HQ_8d := Lib.hid HQ_8.out.drew
  have A_8d := Lib.hid A_8.out.drew
  have RW_8d := Lib.hid RW_8.out.drew
  have RV_8d := Lib.hid RV_8.out.drew
  have W_8d := Lib.hid W_8.out.drew
  have RX_8d := Lib.hid RX_8.out.drew
  have X_8d := Lib.hid X_8.out.drew
  have RQ_8d := Lib.hid RQ_8.out.drew
  have RG_8d := Lib.hid RG_8.out.drew
  have RH_8d := Lib.hid RH_8.out.drew
  have G_8d := Lib.hid G_8.out.drew
  have HB8d := Lib.hid HB8.out.drew
  go_region_held3 (fun w' => w'.cell? ⟨w.heap.size, 0, none⟩ = some (.int .i64 h) ∧ w'.cell? ⟨w.heap.size, 1, none⟩ = some (.slice a n c) ∧ w'.cell? ⟨w.heap.size, 2, none⟩ = some (.int .i64 ac) ∧ w'.cell? ⟨w.heap.size, 3, none⟩ = some (.int .i64 bu) ∧ w'.cell? ⟨w5.heap.size, 0, none⟩ = some (.int .i64 h) ∧ w'.cell? ⟨w5.heap.size, 1, none⟩ = some (.slice u5 n c5) ∧ w'.cell? ⟨w5.heap.size, 2, none⟩ = some (.int .i64 ac) ∧ w'.cell? ⟨w5.heap.size, 3, none⟩ = some (.int .i64 bu))
    (first | exact ⟨A_8d.out.at 0 rfl, A_8d.out.at 1 rfl, A_8d.out.at 2 rfl, A_8d.out.at 3 rfl, X_8d.out.at 0 rfl, X_8d.out.at 1 rfl, X_8d.out.at 2 rfl, X_8d.out.at 3 rfl⟩ | exact ⟨A_9.out.at 0 rfl, A_9.out.at 1 rfl, A_9.out.at 2 rfl, A_9.out.at 3 rfl, X_9.out.at 0 rfl, X_9.out.at 1 rfl, X_9.out.at 2 rfl, X_9.out.at 3 rfl⟩ | exact ⟨A_10.out.at 0 rfl, A_10.out.at 1 rfl, A_10.out.at 2 rfl, A_10.out.at 3 rfl, X_10.out.at 0 rfl, X_10.out.at 1 rfl, X_10.out.at 2 rfl, X_10.out.at 3 rfl⟩)
    (first | (go_at_call 31; refine (toArena_any _ _ _ _ _ _ f _ HS_8d.out hbig).mono ?_; rintro e w9 ⟨u9, c9, rfl, ho, hb, hc9, hcm9, hn9⟩; have HB9 := Lib.hid (thru0 HB8d.out hb); have z9 : w8.heap.size ≤ w9.heap.size := hb.size; have HS_9 := Lib.hid (HS_8d.out.below hb); have HQ_9 := Lib.hid (HQ_8d.out.below hb); have A_9 := Lib.hid (A_8d.out.below hb); have RW_9 := Lib.hid (RW_8d.out.below hb); have RV_9 := Lib.hid (RV_8d.out.below hb); have W_9 := Lib.hid (W_8d.out.below hb); have RX_9 := Lib.hid (RX_8d.out.below hb); have X_9 := Lib.hid (X_8d.out.below hb); have RQ_9 := Lib.hid (RQ_8d.out.below hb); have RG_9 := Lib.hid (RG_8d.out.below hb); have RH_9 := Lib.hid (RH_8d.out.below hb); have G_9 := Lib.hid (G_8d.out.below hb); have RT_9 : Hid (OwnIn w9 w8.heap.size w9.heap.size u9 n f) := ho.into; clear hb ho) | (go_at_call 34; refine (eqArena_same _ _ _ _ _ _ _ _ f f _ RX_9.out.src RT_9.out.src hbig (fun _ _ => rfl)).mono ?_; rintro e w10 ⟨rfl, hb⟩; have HB10 := Lib.hid (thru0 HB9.out hb); have z10 : w9.heap.size ≤ w10.heap.size := hb.size; have HS_10 := Lib.hid (HS_9.out.below hb); have HQ_10 := Lib.hid (HQ_9.out.below hb); have A_10 := Lib.hid (A_9.out.below hb); have RW_10 := Lib.hid (RW_9.out.below hb); have RV_10 := Lib.hid (RV_9.out.below hb); have W_10 := Lib.hid (W_9.out.below hb); have RX_10 := Lib.hid (RX_9.out.below hb); have X_10 := Lib.hid (X_9.out.below hb); have RQ_10 := Lib.hid (RQ_9.out.below hb); have RG_10 := Lib.hid (RG_9.out.below hb); have RH_10 := Lib.hid (RH_9.out.below hb); have G_10 := Lib.hid (G_9.out.below hb); have RT_10 := Lib.hid (RT_9.out.below hb); clear hb))

  go_wp2_with fail
  refine (toInts_any _ _ _ (lf roots) _ HQ_10.out hrb).mono ?_
  rintro e w11 ⟨u11, c11, rfl, ho, hb, hc11, hcm11, hn11⟩
  have HB11 : Hid (Below w.heap.size w w11) := thru0 HB10.out hb
  have z11 : w10.heap.size ≤ w11.heap.size := hb.size
  have HS_11 := Lib.hid (HS_10.out.below hb)
  have HQ_11 := Lib.hid (HQ_10.out.below hb)
  have A_11 := Lib.hid (A_10.out.below hb)
  have RW_11 := Lib.hid (RW_10.out.below hb)
  have RV_11 := Lib.hid (RV_10.out.below hb)
  have W_11 := Lib.hid (W_10.out.below hb)
  have RX_11 := Lib.hid (RX_10.out.below hb)
  have X_11 := Lib.hid (X_10.out.below hb)
  have RQ_11 := Lib.hid (RQ_10.out.below hb)
  have RG_11 := Lib.hid (RG_10.out.below hb)
  have RH_11 := Lib.hid (RH_10.out.below hb)
  have G_11 := Lib.hid (G_10.out.below hb)
  have QT_11 : Hid (OwnIn w11 (w10.heap.size) w11.heap.size u11 roots.length (lf roots)) := ho.into
  clear hb HS_10 HQ_10 A_10 RW_10 RV_10 W_10 RX_10 X_10 RQ_10 RG_10 RH_10 G_10 HB10 ho
  go_wp2_with fail
  refine (eqInts_same _ _ _ _ _ (lf roots) (lf roots) _ RQ_11.out.src QT_11.out.src hrb).mono ?_
  rintro e w12 ⟨hret, hb⟩
  have HB12 : Hid (Below w.heap.size w w12) := thru0 HB11.out hb
  have z12 : w11.heap.size ≤ w12.heap.size := hb.size
  have HS_12 := Lib.hid (HS_11.out.below hb)
  have HQ_12 := Lib.hid (HQ_11.out.below hb)
  have A_12 := Lib.hid (A_11.out.below hb)
  have RW_12 := Lib.hid (RW_11.out.below hb)
  have RV_12 := Lib.hid (RV_11.out.below hb)
  have W_12 := Lib.hid (W_11.out.below hb)
  have RX_12 := Lib.hid (RX_11.out.below hb)
  have X_12 := Lib.hid (X_11.out.below hb)
  have RQ_12 := Lib.hid (RQ_11.out.below hb)
  have RG_12 := Lib.hid (RG_11.out.below hb)
  have RH_12 := Lib.hid (RH_11.out.below hb)
  have G_12 := Lib.hid (G_11.out.below hb)
  have QT_12 := Lib.hid (QT_11.out.below hb)
  rw [eqB_yes (fun _ _ => rfl)] at hret
  subst hret
  clear hb HS_11 HQ_11 A_11 RW_11 RV_11 W_11 RX_11 X_11 RQ_11 RG_11 RH_11 G_11 QT_11 HB11
  clear QT_12
  have lX := X_12.out.1
  have cX0 := X_12.out.at 0 rfl
  have cX1 := X_12.out.at 1 rfl
  have cX2 := X_12.out.at 2 rfl
  have cX3 := X_12.out.at 3 rfl
  go_wp2_with fail
  clear HS_12 HQ_12
  refine (markArena_any _ _ _ _ _ _ _ _ _ _ _ RX_12.out hbig (by omega) (by omega)).mono ?_
  rintro e w13 ⟨rfl, ho, hk⟩
  have HB13 : Hid (Below w.heap.size w w13) := HB12.out.trans (hk.below (by omega) HB12.out.size)
  have z13 : w12.heap.size ≤ w13.heap.size := hk.size
  have A_13 := Lib.hid (A_12.out.keeps hk (by omega))
  have RW_13 := Lib.hid (RW_12.out.keeps hk (by omega))
  have RV_13 := Lib.hid (RV_12.out.keeps hk (by omega))
  have W_13 := Lib.hid (W_12.out.keeps hk (by omega))
  have X_13 := Lib.hid (X_12.out.keeps hk (by omega))
  have RQ_13 := Lib.hid (RQ_12.out.keeps hk (by omega))
  have RG_13 := Lib.hid (RG_12.out.keeps hk (by omega))
  have RH_13 := Lib.hid (RH_12.out.keeps hk (by omega))
  have G_13 := Lib.hid (G_12.out.keeps hk (by omega))
  have RX_13 : Hid (OwnIn w13 (w4.heap.size + 1) w5.heap.size u5 n (fun i => 1 + i)) := ho
  clear hk lX cX0 cX1 cX2 cX3 A_12 RW_12 RV_12 W_12 RX_12 X_12 RQ_12 RG_12 RH_12 G_12 HB12 ho
  go_wp2_with fail
  refine (markInts_big _ _ _ _ _ _ _ _ RQ_13.out hrb (by omega) (by omega)).mono ?_
  rintro e w14 ⟨rfl, ho, hk⟩
  have HB14 : Hid (Below w.heap.size w w14) := HB13.out.trans (hk.below (by omega) HB13.out.size)
  have z14 : w13.heap.size ≤ w14.heap.size := hk.size
  have A_14 := Lib.hid (A_13.out.keeps hk (by omega))
  have RW_14 := Lib.hid (RW_13.out.keeps hk (by omega))
  have RV_14 := Lib.hid (RV_13.out.keeps hk (by omega))
  have W_14 := Lib.hid (W_13.out.keeps hk (by omega))
  have X_14 := Lib.hid (X_13.out.keeps hk (by omega))
  have RG_14 := Lib.hid (RG_13.out.keeps hk (by omega))
  have RH_14 := Lib.hid (RH_13.out.keeps hk (by omega))
  have G_14 := Lib.hid (G_13.out.keeps hk (by omega))
  have RX_14 := Lib.hid (RX_13.out.keeps hk (by omega))
  have RQ_14 : Hid (OwnIn w14 (w5.heap.size + 1) w6.heap.size u6 roots.length (fun i => (1 + (n : Int)) + i)) := ho
  clear hk A_13 RW_13 RV_13 W_13 X_13 RQ_13 RG_13 RH_13 G_13 RX_13 HB13 ho
  have lW := W_14.out.1
  have cW0 := W_14.out.at 0 rfl
  have cW1 := W_14.out.at 1 rfl
  have cW2 := W_14.out.at 2 rfl
  have cW3 := W_14.out.at 3 rfl
  have cW4 := W_14.out.at 4 rfl
  have cW5 := W_14.out.at 5 rfl
  have cW6 := W_14.out.at 6 rfl
  have lG := G_14.out.1
  have cG0 := G_14.out.at 0 rfl
  have cG1 := G_14.out.at 1 rfl
  have cG2 := G_14.out.at 2 rfl
  have cG3 := G_14.out.at 3 rfl
  have cG4 := G_14.out.at 4 rfl
  have cG5 := G_14.out.at 5 rfl
  have cG6 := G_14.out.at 6 rfl
  go_wp2_with fail
  refine (eqCR_same _ _ _ f1 f1 _ _ _ _ rf rf _ _ _ _ _ _ _ _ _ RG_14.out.src RW_14.out.src RH_14.out.src RV_14.out.src (by omega) (by omega) (fun _ _ => rfl) (fun _ _ => rfl)).mono ?_
  rintro e w15 ⟨rfl, hb⟩
  have HB15 : Hid (Below w.heap.size w w15) := thru0 HB14.out hb
  have z15 : w14.heap.size ≤ w15.heap.size := hb.size
  have A_15 := Lib.hid (A_14.out.below hb)
  have RW_15 := Lib.hid (RW_14.out.below hb)
  have RV_15 := Lib.hid (RV_14.out.below hb)
  have W_15 := Lib.hid (W_14.out.below hb)
  have X_15 := Lib.hid (X_14.out.below hb)
  have RG_15 := Lib.hid (RG_14.out.below hb)
  have RH_15 := Lib.hid (RH_14.out.below hb)
  have G_15 := Lib.hid (G_14.out.below hb)
  have RX_15 := Lib.hid (RX_14.out.below hb)
  have RQ_15 := Lib.hid (RQ_14.out.below hb)
  clear hb lW cW0 cW1 cW2 cW3 cW4 cW5 cW6 lG cG0 cG1 cG2 cG3 cG4 cG5 cG6 A_14 RW_14 RV_14 W_14 X_14 RG_14 RH_14 G_14 RX_14 RQ_14 HB14
  have lG := G_15.out.1
  have cG0 := G_15.out.at 0 rfl
  have cG1 := G_15.out.at 1 rfl
  have cG2 := G_15.out.at 2 rfl
  have cG3 := G_15.out.at 3 rfl
  have cG4 := G_15.out.at 4 rfl
  have cG5 := G_15.out.at 5 rfl
  have cG6 := G_15.out.at 6 rfl
  go_wp2_with fail
  refine (markCR_any _ _ _ _ _ _ _ _ _ _ _ _ mid7 _ _ _ _ _ RG_15.out RH_15.out (by omega) (by omega) (by omega) (by omega) (by omega) (by omega) (by omega)).mono ?_
  rintro e w16 ⟨rfl, ho, ho2, hk⟩
  have HB16 : Hid (Below w.heap.size w w16) := HB15.out.trans (hk.below (by omega) HB15.out.size)
  have z16 : w15.heap.size ≤ w16.heap.size := hk.size
  have A_16 := Lib.hid (A_15.out.keeps hk (by omega))
  have RW_16 := Lib.hid (RW_15.out.keeps hk (by omega))
  have RV_16 := Lib.hid (RV_15.out.keeps hk (by omega))
  have W_16 := Lib.hid (W_15.out.keeps hk (by omega))
  have X_16 := Lib.hid (X_15.out.keeps hk (by omega))
  have G_16 := Lib.hid (G_15.out.keeps hk (by omega))
  have RX_16 := Lib.hid (RX_15.out.keeps hk (by omega))
  have RQ_16 := Lib.hid (RQ_15.out.keeps hk (by omega))
  have RG_16 : Hid (OwnIn w16 (w6.heap.size) mid7 u7 n1 (fun i => 1 + i)) := ho
  have RH_16 : Hid (OwnIn w16 mid7 w7.heap.size r7 rn (fun i => (1 + (n1 : Int)) + i)) := ho2
  clear ho2
  clear hk lG cG0 cG1 cG2 cG3 cG4 cG5 cG6 A_15 RW_15 RV_15 W_15 X_15 RG_15 RH_15 G_15 RX_15 RQ_15 HB15 ho
  have lG := G_16.out.1
  have cG0 := G_16.out.at 0 rfl
  have cG1 := G_16.out.at 1 rfl
  have cG2 := G_16.out.at 2 rfl
  have cG3 := G_16.out.at 3 rfl
  have cG4 := G_16.out.at 4 rfl
  have cG5 := G_16.out.at 5 rfl
  have cG6 := G_16.out.at 6 rfl
  go_wp2_with fail
  refine (heldCR_any _ _ _ _ _ _ _ _ _ _ _ 1 _ RG_16.out.src RH_16.out.src (by omega) (by omega) (by omega) (by omega)).mono ?_
  rintro e w17 ⟨rfl, hb⟩
  have HB17 : Hid (Below w.heap.size w w17) := thru0 HB16.out hb
  have z17 : w16.heap.size ≤ w17.heap.size := hb.size
  have A_17 := Lib.hid (A_16.out.below hb)
  have RW_17 := Lib.hid (RW_16.out.below hb)
  have RV_17 := Lib.hid (RV_16.out.below hb)
  have W_17 := Lib.hid (W_16.out.below hb)
  have X_17 := Lib.hid (X_16.out.below hb)
  have G_17 := Lib.hid (G_16.out.below hb)
  have RX_17 := Lib.hid (RX_16.out.below hb)
  have RQ_17 := Lib.hid (RQ_16.out.below hb)
  have RG_17 := Lib.hid (RG_16.out.below hb)
  have RH_17 := Lib.hid (RH_16.out.below hb)
  clear hb lG cG0 cG1 cG2 cG3 cG4 cG5 cG6 A_16 RW_16 RV_16 W_16 X_16 G_16 RX_16 RQ_16 RG_16 RH_16 HB16
  have lA := A_17.out.1
  have cA0 := A_17.out.at 0 rfl
  have cA1 := A_17.out.at 1 rfl
  have cA2 := A_17.out.at 2 rfl
  have cA3 := A_17.out.at 3 rfl
  have HSk := Lib.hid (HS0.out.below HB17.out); have HQk := Lib.hid (HQ0.out.below HB17.out)
  go_wp2_with fail
  refine (toArena_any _ _ _ _ _ _ f _ HSk.out hbig).mono ?_
  rintro e w18 ⟨u18, c18, rfl, ho, hb, hc18, hcm18, hn18⟩
  have HB18 : Hid (Below w.heap.size w w18) := thru0 HB17.out hb
  have z18 : w17.heap.size ≤ w18.heap.size := hb.size
  have A_18 := Lib.hid (A_17.out.below hb)
  have RW_18 := Lib.hid (RW_17.out.below hb)
  have RV_18 := Lib.hid (RV_17.out.below hb)
  have W_18 := Lib.hid (W_17.out.below hb)
  have X_18 := Lib.hid (X_17.out.below hb)
  have G_18 := Lib.hid (G_17.out.below hb)
  have RX_18 := Lib.hid (RX_17.out.below hb)
  have RQ_18 := Lib.hid (RQ_17.out.below hb)
  have RG_18 := Lib.hid (RG_17.out.below hb)
  have RH_18 := Lib.hid (RH_17.out.below hb)
  have HS_18 := Lib.hid (HSk.out.below hb)
  have HQ_18 := Lib.hid (HQk.out.below hb)
  have RT_18 : Hid (OwnIn w18 (w17.heap.size) w18.heap.size u18 n f) := ho.into
  clear hb lA cA0 cA1 cA2 cA3 A_17 RW_17 RV_17 W_17 X_17 G_17 RX_17 RQ_17 RG_17 RH_17 HSk HQk HB17 ho
  go_wp2_with fail
  refine (toInts_any _ _ _ (lf roots) _ HQ_18.out hrb).mono ?_
  rintro e w19 ⟨u19, c19, rfl, ho, hb, hc19, hcm19, hn19⟩
  have HB19 : Hid (Below w.heap.size w w19) := thru0 HB18.out hb
  have z19 : w18.heap.size ≤ w19.heap.size := hb.size
  have A_19 := Lib.hid (A_18.out.below hb)
  have RW_19 := Lib.hid (RW_18.out.below hb)
  have RV_19 := Lib.hid (RV_18.out.below hb)
  have W_19 := Lib.hid (W_18.out.below hb)
  have X_19 := Lib.hid (X_18.out.below hb)
  have G_19 := Lib.hid (G_18.out.below hb)
  have RX_19 := Lib.hid (RX_18.out.below hb)
  have RQ_19 := Lib.hid (RQ_18.out.below hb)
  have RG_19 := Lib.hid (RG_18.out.below hb)
  have RH_19 := Lib.hid (RH_18.out.below hb)
  have HS_19 := Lib.hid (HS_18.out.below hb)
  have HQ_19 := Lib.hid (HQ_18.out.below hb)
  have RT_19 := Lib.hid (RT_18.out.below hb)
  have QT_19 : Hid (OwnIn w19 (w18.heap.size) w19.heap.size u19 roots.length (lf roots)) := ho.into
  clear hb A_18 RW_18 RV_18 W_18 X_18 G_18 RX_18 RQ_18 RG_18 RH_18 HS_18 HQ_18 RT_18 HB18 ho
  go_wp2_with fail
  refine (HIM.out _ _ _ _ _ RT_19.out.src hc18 hcm18 QT_19.out.src).mono ?_
  rintro e w20 ⟨u20, c20, r20, d20, mid20, rfl, ho, ho2, hm20, hl20, hb⟩
  have HB20 : Hid (Below w.heap.size w w20) := thru0 HB19.out hb
  have z20 : w19.heap.size ≤ w20.heap.size := hb.size
  have A_20 := Lib.hid (A_19.out.below hb)
  have RW_20 := Lib.hid (RW_19.out.below hb)
  have RV_20 := Lib.hid (RV_19.out.below hb)
  have W_20 := Lib.hid (W_19.out.below hb)
  have X_20 := Lib.hid (X_19.out.below hb)
  have G_20 := Lib.hid (G_19.out.below hb)
  have RX_20 := Lib.hid (RX_19.out.below hb)
  have RQ_20 := Lib.hid (RQ_19.out.below hb)
  have RG_20 := Lib.hid (RG_19.out.below hb)
  have RH_20 := Lib.hid (RH_19.out.below hb)
  have HS_20 := Lib.hid (HS_19.out.below hb)
  have HQ_20 := Lib.hid (HQ_19.out.below hb)
  have RT_20 := Lib.hid (RT_19.out.below hb)
  have QT_20 := Lib.hid (QT_19.out.below hb)
  have RI_20 : Hid (OwnIn w20 (w19.heap.size) mid20 u20 n1 f1) := ho
  have RJ_20 : Hid (OwnIn w20 mid20 w20.heap.size r20 rn rf) := ho2
  clear ho2
  have hmm20 : w19.heap.size + 0 ≤ mid20 := by simpa using hm20
  clear hm20
  clear hb A_19 RW_19 RV_19 W_19 X_19 G_19 RX_19 RQ_19 RG_19 RH_19 HS_19 HQ_19 RT_19 QT_19 HB19 ho
  clear RT_20 QT_20
  have lW := W_20.out.1
  have cW0 := W_20.out.at 0 rfl
  have cW1 := W_20.out.at 1 rfl
  have cW2 := W_20.out.at 2 rfl
  have cW3 := W_20.out.at 3 rfl
  have cW4 := W_20.out.at 4 rfl
  have cW5 := W_20.out.at 5 rfl
  have cW6 := W_20.out.at 6 rfl
  have lG := G_20.out.1
  have cG0 := G_20.out.at 0 rfl
  have cG1 := G_20.out.at 1 rfl
  have cG2 := G_20.out.at 2 rfl
  have cG3 := G_20.out.at 3 rfl
  have cG4 := G_20.out.at 4 rfl
  have cG5 := G_20.out.at 5 rfl
  have cG6 := G_20.out.at 6 rfl
  go_wp2_with fail
  refine (eqCR_same _ _ _ f1 f1 _ _ _ _ rf rf _ _ _ _ _ _ _ _ _ (RI_20.out.alloc _).src (RW_20.out.alloc _).src (RJ_20.out.alloc _).src (RV_20.out.alloc _).src (by omega) (by omega) (fun _ _ => rfl) (fun _ _ => rfl)).mono ?_
  rintro e w21 ⟨rfl, hb⟩
  have HB21 : Hid (Below w.heap.size w w21) := thru1 HB20.out hb
  have z21 : w20.heap.size + 1 ≤ w21.heap.size := by have := hb.size; simp at this; omega
  have A_21 := Lib.hid ((A_20.out.alloc _).below hb)
  have RW_21 := Lib.hid ((RW_20.out.alloc _).below hb)
  have RV_21 := Lib.hid ((RV_20.out.alloc _).below hb)
  have W_21 := Lib.hid ((W_20.out.alloc _).below hb)
  have X_21 := Lib.hid ((X_20.out.alloc _).below hb)
  have G_21 := Lib.hid ((G_20.out.alloc _).below hb)
  have RX_21 := Lib.hid ((RX_20.out.alloc _).below hb)
  have RQ_21 := Lib.hid ((RQ_20.out.alloc _).below hb)
  have RG_21 := Lib.hid ((RG_20.out.alloc _).below hb)
  have RH_21 := Lib.hid ((RH_20.out.alloc _).below hb)
  have HS_21 := Lib.hid ((HS_20.out.alloc _).below hb)
  have HQ_21 := Lib.hid ((HQ_20.out.alloc _).below hb)
  have RI_21 := Lib.hid ((RI_20.out.alloc _).below hb)
  have RJ_21 := Lib.hid ((RJ_20.out.alloc _).below hb)
  clear hb lW cW0 cW1 cW2 cW3 cW4 cW5 cW6 lG cG0 cG1 cG2 cG3 cG4 cG5 cG6 A_20 RW_20 RV_20 W_20 X_20 G_20 RX_20 RQ_20 RG_20 RH_20 HS_20 HQ_20 RI_20 RJ_20 HB20
  have lG := G_21.out.1
  have cG0 := G_21.out.at 0 rfl
  have cG1 := G_21.out.at 1 rfl
  have cG2 := G_21.out.at 2 rfl
  have cG3 := G_21.out.at 3 rfl
  have cG4 := G_21.out.at 4 rfl
  have cG5 := G_21.out.at 5 rfl
  have cG6 := G_21.out.at 6 rfl
  go_wp2_with fail
  refine (heldCR_any _ _ _ _ _ _ _ _ _ _ _ 1 _ RG_21.out.src RH_21.out.src (by omega) (by omega) (by omega) (by omega)).mono ?_
  rintro e w22 ⟨rfl, hb⟩
  have HB22 : Hid (Below w.heap.size w w22) := thru0 HB21.out hb
  have z22 : w21.heap.size ≤ w22.heap.size := hb.size
  have A_22 := Lib.hid (A_21.out.below hb)
  have RW_22 := Lib.hid (RW_21.out.below hb)
  have RV_22 := Lib.hid (RV_21.out.below hb)
  have W_22 := Lib.hid (W_21.out.below hb)
  have X_22 := Lib.hid (X_21.out.below hb)
  have G_22 := Lib.hid (G_21.out.below hb)
  have RX_22 := Lib.hid (RX_21.out.below hb)
  have RQ_22 := Lib.hid (RQ_21.out.below hb)
  have RG_22 := Lib.hid (RG_21.out.below hb)
  have RH_22 := Lib.hid (RH_21.out.below hb)
  have HS_22 := Lib.hid (HS_21.out.below hb)
  have HQ_22 := Lib.hid (HQ_21.out.below hb)
  have RI_22 := Lib.hid (RI_21.out.below hb)
  have RJ_22 := Lib.hid (RJ_21.out.below hb)
  clear hb lG cG0 cG1 cG2 cG3 cG4 cG5 cG6 A_21 RW_21 RV_21 W_21 X_21 G_21 RX_21 RQ_21 RG_21 RH_21 HS_21 HQ_21 RI_21 RJ_21 HB21
  go_wp2
  go_ret
  exact ⟨rfl, HB22.out⟩

theorem e9_any (h ac bu : Int) (a : Option Addr) (n c : Nat) (f : Nat → Int) (ra : Option Addr) (rn rc : Nat) (rf : Nat → Int) (w : World) (hs : Src w a n f) (hn : n ≤ maxLen) (hq : Src w ra rn rf) (hqn : rn ≤ maxLen) : Calls Try.prog 9 #[.agg #[.int .i64 h, .slice a n c, .int .i64 ac, .int .i64 bu], .slice ra rn rc] w (RetBool w true) := by
  obtain ⟨roots, rfl, hq'⟩ := src_list hq
  by_cases hr : roots.length ≤ 1048576
  · by_cases hb : n ≤ 1048576
    · exact e9_near h ac bu a n c f ra roots rc w hs hq' hb hr
    · exact e9_farA h ac bu a n c f ra roots rc w hn (by omega) hr
  · exact e9_farR h ac bu a n c f ra roots rc w (by omega)
end Go.Proofs.Ytdgppcaeknbnjaa

