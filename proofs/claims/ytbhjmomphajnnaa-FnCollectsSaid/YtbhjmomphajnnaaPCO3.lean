/- Texts merged: K22 to R3. -/
import Derived.Test.YtbhjmomphajnnaaPCO2
import Derived.Deep.Slices
import Derived.Deep.LoopGhost
import Derived.Shelf.Abstract
import Derived.RangeFuncNested
import Derived.RangeFuncBound
import Derived.RangeFuncCalls
import Derived.RangeFuncLeaves
import Derived.Shelf.RegionOpen
import Derived.OwnWalkIn
import Derived.TacticsInMore
import Derived.LoopNIn
import Derived.LoopIn
import Derived.Maps.OwnIn
import Derived.Maps.AppendAt
namespace Go.Proofs.Ytbhjmomphajnnaa
open Go.RowKit
set_option linter.unusedVariables false

def RetBent3 (W : World) (b : Nat) (ca : Option Addr) (k kc t : Nat) (e : Ending) (w' : World) : Prop :=
  ∃ (h ac bu : Int) (n c t' : Nat) (a : Option Addr) (f : Nat → Int), e = .returned (.agg #[.int .i64 h, .slice a n c, .int .i64 ac, .int .i64 bu]) ∧ OwnIn w' W.heap.size w'.heap.size a n f ∧
    Blk w' b [.slice ca k kc, .int .i64 (t' : Int)] ∧ t' ≤ t + 400 ∧ Keeps W w' b (b + 1) ∧ n ≤ 120 ∧ n ≤ c ∧ c ≤ maxLen

theorem src_keeps {w w' : World} {q off n lo hi : Nat} {f : Nat → Int} (h : Src w (some ⟨q, off, none⟩) n f) (hk : Keeps w w' lo hi) (hd : q < lo ∨ hi ≤ q) : Src w' (some ⟨q, off, none⟩) n f := by
  rcases h with h0 | ⟨b', o', he, hl, hc⟩
  · exact .inl h0
  · cases he
    have e := hk.block q hl hd
    exact .inr ⟨q, off, rfl, Nat.lt_of_lt_of_le hl hk.size, fun i hi => (World.cell?_of_block (w := w) (a := ⟨q, off + i, none⟩) e).trans (hc i hi)⟩

theorem maxx_any (x y : Int) (w : World) : Calls Try.prog 151 #[.int .i64 x, .int .i64 y] w (RetMin w x y) := by
  by_cases h : y < x
  · go_enter Try.func151, Try.ntmps151
    go_wp2
    go_ret
    exact ⟨⟨x, .inl rfl, rfl⟩, rfl⟩
  · go_enter Try.func151, Try.ntmps151
    go_wp2
    go_ret
    exact ⟨⟨y, .inr rfl, rfl⟩, rfl⟩

set_option maxRecDepth 100000 in
set_option maxHeartbeats 6400000 in
theorem bent3_any (b S : Nat) (ca : Option Addr) (k kc t : Nat) (B : Nat → Int) (w : World) (hB0 : Blk w b [.slice ca k kc, .int .i64 (t : Int)]) (hs : SrcB w S ca k B) (hS : S ≤ b) (hk0 : k ≤ 1048576) (ht : t ≤ 30) :
    Calls Try.prog 128 #[.pointer (some ⟨b, 0, none⟩)] w (RetBent3 w b ca k kc t) := by
  have hbw := hB0.1
  have S_0 := Lib.hid hB0
  have B_0 := Lib.hid hs
  clear hB0 hs
  go_enter Try.func128, Try.ntmps128
  go_wp2_with fail
  refine (draw3_any b S ca k kc t B _ (S_0.out.alloc _) (B_0.out.alloc _) hS hk0 ht).mono ?_
  rintro e w1 ⟨m, cu, t', u, f, ac, bu, ⟨hm2, hm1, hac0, hac1, hbu0, hbu1⟩, rfl, ho, hB, htt, hk, hcu, hcm⟩
  have HK_1 : Hid (Keeps w w1 b (b + 1)) := ((Keeps.refl w b (b + 1)).alloc _).trans hk
  have z1 : w.heap.size + 1 ≤ w1.heap.size := by have := hk.size; simp at this; omega
  have S_1 := Lib.hid hB
  have B_1 := Lib.hid ((B_0.out.alloc _).keeps hk hS)
  have R_1 := Lib.hid ((Blk.new_at (w.heap.size) rfl).keeps hk (by omega))
  have RW_1 : Hid (OwnIn w1 (w.heap.size + 1) w1.heap.size u (2 * m) f) := ho.widen (by simp) (Nat.le_refl _)
  obtain ⟨ub, uo, rfl, hub, hubw, _⟩ := ownIn_some RW_1.out (by omega)
  have hub1 := hub.1; have hub2 := hub.2
  clear ho hB hk S_0 B_0 hub
  go_wp2_with fail
  refine (next_is _ b S ca k kc t' 18 B _ rfl (S_1.out.alloc _) (B_1.out.alloc _) hS hk0 (by omega) (by omega) (by omega)).mono ?_
  rintro e w2 ⟨v2, rfl, hv2, hB, hk⟩
  have HK_2 : Hid (Keeps w w2 b (b + 1)) := (HK_1.out.alloc _).trans hk
  have z2 : w1.heap.size + 1 ≤ w2.heap.size := by have := hk.size; simp at this; omega
  have S_2 := Lib.hid (src_cast hB)
  have B_2 := Lib.hid ((B_1.out.alloc _).keeps hk hS)
  have R_2 := Lib.hid ((R_1.out.alloc _).keeps hk (by omega))
  have RW_2 := Lib.hid ((RW_1.out.alloc _).keeps hk (by omega))
  have T_2 := Lib.hid ((Blk.new_at (w1.heap.size) (by simp)).keeps hk (by omega))
  clear hk hB S_1 B_1 R_1 RW_1 HK_1
  have hcu9 : 2 * m ≤ cu := hcu
  rcases (by omega : v2 = 0 ∨ v2 = 1 ∨ v2 = 2 ∨ v2 = 3 ∨ v2 = 4 ∨ 5 ≤ v2) with rfl | rfl | rfl | rfl | rfl | h5
  · go_wp2_with fail
    refine (bent_any b S ca k kc (t' + 1) B _ S_2.out B_2.out hS hk0 (by omega)).mono ?_
    rintro e w3 ⟨h3, ac3, bu3, n3, c3, t3, a3, f3, rfl, ho, hB, ht3, hk, hn3, hnc3, hcm3⟩
    have z3 : w2.heap.size ≤ w3.heap.size := hk.size
    have S_3 := Lib.hid hB; have R_3 := Lib.hid (R_2.out.keeps hk (by omega)); have HK_3 := Lib.hid (HK_2.out.trans hk); have HO := Lib.hid ho
    clear hB hk ho S_2 B_2 R_2 T_2 RW_2 HK_2
    have lR := R_3.out.1; have cR0 := R_3.out.at 0 rfl; have fR0 := R_3.out.free 0 rfl; have cR1 := R_3.out.at 1 rfl; have fR1 := R_3.out.free 1 rfl; have cR2 := R_3.out.at 2 rfl; have fR2 := R_3.out.free 2 rfl; have cR3 := R_3.out.at 3 rfl; have fR3 := R_3.out.free 3 rfl
    go_wp2
    refine bodyPost_ret (v := .agg #[.int .i64 h3, .slice a3 n3 c3, .int .i64 ac3, .int .i64 bu3]) (by simp [results, Try.results128, go_sem, cR0, cR1, cR2, cR3]) rfl ⟨_, _, _, _, _, t3, _, f3, rfl, ?_, ?_, by omega, ?_, by omega, by omega, by omega⟩
    · refine OwnIn.widen (lo := w2.heap.size) (hi := w3.heap.size) ?_ (by omega) (by (try simp); (try omega))
      repeat (with_reducible refine OwnIn.setCell ?_ (.inl (by (try simp); (try omega))) _)
      exact HO.out
    · repeat (with_reducible refine Blk.other ?_ (by (try simp); (try omega)) _)
      exact S_3.out
    · repeat (with_reducible refine Keeps.setNew ?_ (by (try simp); (try omega)) _)
      exact HK_3.out
  · go_upto_region 6 with (fail)
    have lT := T_2.out.1; have cT0 := T_2.out.at 0 rfl; have fT0 := T_2.out.free 0 rfl; have cT1 := T_2.out.at 1 rfl; have fT1 := T_2.out.free 1 rfl; have cT2 := T_2.out.at 2 rfl; have fT2 := T_2.out.free 2 rfl; have cT3 := T_2.out.at 3 rfl; have fT3 := T_2.out.free 3 rfl
    go_region_law (first | (go_simp; go_at_call 79; refine (of_drew [1, 2] b S _ ca k kc (t' + 1) 2 B _ w2 S_2.out.drew B_2.out.drew hS hk0 (by omega) rfl (by simp) (by simp) rfl (by simp)).mono ?_; rintro e w3 ⟨x, rfl, mx, hB, hk⟩; have hx : 1 ≤ x ∧ x ≤ 2 := (by simp only [List.mem_cons, List.mem_nil_iff, or_false] at mx; omega); have hwx : IntKind.i64.wrap (bu + x) = bu + x := IntWalk.i64_in _ (by omega); have z3 : w2.heap.size + 1 ≤ w3.heap.size := (by have := hk.size; simp at this; omega); have S_3 := Lib.hid (src_cast hB); have R_3 := Lib.hid ((R_2.out.drew.alloc _).keeps hk (by omega)); have T_3 := Lib.hid ((T_2.out.drew.alloc _).keeps hk (by omega)); have RW_3 := Lib.hid ((RW_2.out.drew.alloc _).keeps hk (by omega)); have HK_3 := Lib.hid (((HK_2.out.trans (keeps_of_below (Below.refl _ _).drew _ _)).alloc _).trans hk); have gT3 := T_3.out.at 3 rfl; have gF3 := T_3.out.free 3 rfl; have gT0 := T_3.out.at 0 rfl; have gL := T_3.out.1; clear mx hB hk) | (go_at_call 79; refine (of_drew [1, 2] b S _ ca k kc (t' + 1) 2 B _ w2 S_2.out.drew B_2.out.drew hS hk0 (by omega) rfl (by simp) (by simp) rfl (by simp)).mono ?_; rintro e w3 ⟨x, rfl, mx, hB, hk⟩; have hx : 1 ≤ x ∧ x ≤ 2 := (by simp only [List.mem_cons, List.mem_nil_iff, or_false] at mx; omega); have hwx : IntKind.i64.wrap (bu + x) = bu + x := IntWalk.i64_in _ (by omega); have z3 : w2.heap.size + 1 ≤ w3.heap.size := (by have := hk.size; simp at this; omega); have S_3 := Lib.hid (src_cast hB); have R_3 := Lib.hid ((R_2.out.drew.alloc _).keeps hk (by omega)); have T_3 := Lib.hid ((T_2.out.drew.alloc _).keeps hk (by omega)); have RW_3 := Lib.hid ((RW_2.out.drew.alloc _).keeps hk (by omega)); have HK_3 := Lib.hid (((HK_2.out.trans (keeps_of_below (Below.refl _ _).drew _ _)).alloc _).trans hk); have gT3 := T_3.out.at 3 rfl; have gF3 := T_3.out.free 3 rfl; have gT0 := T_3.out.at 0 rfl; have gL := T_3.out.1; clear mx hB hk) | (go_simp; go_at_call 150; refine (min_any (bu + x) (m : Int) _).mono ?_; rintro e w' ⟨⟨z, hz, rfl⟩, rfl⟩) | (go_at_call 150; refine (min_any (bu + x) (m : Int) _).mono ?_; rintro e w' ⟨⟨z, hz, rfl⟩, rfl⟩))
    all_goals (
      clear cT0 fT0 cT1 fT1 cT2 fT2 cT3 fT3 lT gT3 gF3 gT0 gL S_2 B_2 R_2 T_2 RW_2 HK_2
      go_upto_region 13 with (fail)
      have S_4 := Lib.hid (S_3.out.other (p := ⟨w1.heap.size, 3, none⟩) (by (try simp); (try omega)) (.int .i64 z)); have R_4 := Lib.hid (R_3.out.other (p := ⟨w1.heap.size, 3, none⟩) (by (try simp); (try omega)) (.int .i64 z)); have RW_4 := Lib.hid (RW_3.out.setCell (p := ⟨w1.heap.size, 3, none⟩) (by (try simp); (try omega)) (.int .i64 z)); have HK_4 := Lib.hid (HK_3.out.setNew (p := ⟨w1.heap.size, 3, none⟩) (by (try simp); (try omega)) (.int .i64 z))
      have T_4 : Hid (Blk (w3.setCell ⟨w1.heap.size, 3, none⟩ (.int .i64 z)) w1.heap.size [.int .i64 (m : Int), .slice (some ⟨ub, uo, none⟩) (2 * m) cu, .int .i64 ac, .int .i64 z]) := Lib.hid (T_3.out.set 3 (by simp) _)
      have z4 : w3.heap.size ≤ (w3.setCell ⟨w1.heap.size, 3, none⟩ (.int .i64 z)).heap.size := by simp
      clear S_3 R_3 RW_3 HK_3 T_3
      generalize (w3.setCell ⟨w1.heap.size, 3, none⟩ (.int .i64 z)) = w4 at *
      have lT := T_4.out.1; have cT0 := T_4.out.at 0 rfl; have cT1 := T_4.out.at 1 rfl; have cT2 := T_4.out.at 2 rfl; have cT3 := T_4.out.at 3 rfl
      have lR := R_4.out.1; have cR0 := R_4.out.at 0 rfl; have fR0 := R_4.out.free 0 rfl; have cR1 := R_4.out.at 1 rfl; have fR1 := R_4.out.free 1 rfl; have cR2 := R_4.out.at 2 rfl; have fR2 := R_4.out.free 2 rfl; have cR3 := R_4.out.at 3 rfl; have fR3 := R_4.out.free 3 rfl
      go_wp2
      refine bodyPost_ret (v := .agg #[.int .i64 (m : Int), .slice (some ⟨ub, uo, none⟩) (2 * m) cu, .int .i64 ac, .int .i64 z]) (by simp [results, Try.results128, go_sem, cR0, cR1, cR2, cR3]) rfl ⟨_, _, _, _, _, (t' + 1 + 1 : Nat), _, f, rfl, ?_, ?_, by omega, ?_, by omega, by omega, by omega⟩
      · refine OwnIn.widen (lo := w.heap.size + 1) (hi := w1.heap.size) ?_ (by omega) (by (try simp); (try omega))
        repeat (with_reducible refine OwnIn.setCell ?_ (.inl (by (try simp); (try omega))) _)
        exact RW_4.out
      · repeat (with_reducible refine Blk.other ?_ (by (try simp); (try omega)) _)
        exact S_4.out
      · repeat (with_reducible refine Keeps.setNew ?_ (by (try simp); (try omega)) _)
        exact HK_4.out
      )
  · have hwx : IntKind.i64.wrap (bu - 1) = bu - 1 := IntWalk.i64_in _ (by omega)
    have lT := T_2.out.1; have cT0 := T_2.out.at 0 rfl; have fT0 := T_2.out.free 0 rfl; have cT1 := T_2.out.at 1 rfl; have fT1 := T_2.out.free 1 rfl; have cT2 := T_2.out.at 2 rfl; have fT2 := T_2.out.free 2 rfl; have cT3 := T_2.out.at 3 rfl; have fT3 := T_2.out.free 3 rfl
    go_wp2_with fail
    refine (maxx_any (bu - 1) 0 _).mono ?_
    rintro e w' ⟨⟨z, hz, rfl⟩, rfl⟩
    go_upto_region 13 with (fail)
    clear cT0 fT0 cT1 fT1 cT2 fT2 cT3 fT3 lT
    have S_3 := Lib.hid (S_2.out.other (p := ⟨w1.heap.size, 3, none⟩) (by (try simp); (try omega)) (.int .i64 z)); have R_3 := Lib.hid (R_2.out.other (p := ⟨w1.heap.size, 3, none⟩) (by (try simp); (try omega)) (.int .i64 z)); have RW_3 := Lib.hid (RW_2.out.setCell (p := ⟨w1.heap.size, 3, none⟩) (by (try simp); (try omega)) (.int .i64 z)); have HK_3 := Lib.hid (HK_2.out.setNew (p := ⟨w1.heap.size, 3, none⟩) (by (try simp); (try omega)) (.int .i64 z))
    have T_3 : Hid (Blk (w2.setCell ⟨w1.heap.size, 3, none⟩ (.int .i64 z)) w1.heap.size [.int .i64 (m : Int), .slice (some ⟨ub, uo, none⟩) (2 * m) cu, .int .i64 ac, .int .i64 z]) := Lib.hid (T_2.out.set 3 (by simp) _)
    have z3 : w2.heap.size ≤ (w2.setCell ⟨w1.heap.size, 3, none⟩ (.int .i64 z)).heap.size := by simp
    clear S_2 R_2 RW_2 HK_2 T_2
    generalize (w2.setCell ⟨w1.heap.size, 3, none⟩ (.int .i64 z)) = w3 at *
    have lT := T_3.out.1; have cT0 := T_3.out.at 0 rfl; have cT1 := T_3.out.at 1 rfl; have cT2 := T_3.out.at 2 rfl; have cT3 := T_3.out.at 3 rfl
    have lR := R_3.out.1; have cR0 := R_3.out.at 0 rfl; have fR0 := R_3.out.free 0 rfl; have cR1 := R_3.out.at 1 rfl; have fR1 := R_3.out.free 1 rfl; have cR2 := R_3.out.at 2 rfl; have fR2 := R_3.out.free 2 rfl; have cR3 := R_3.out.at 3 rfl; have fR3 := R_3.out.free 3 rfl
    go_wp2
    refine bodyPost_ret (v := .agg #[.int .i64 (m : Int), .slice (some ⟨ub, uo, none⟩) (2 * m) cu, .int .i64 ac, .int .i64 z]) (by simp [results, Try.results128, go_sem, cR0, cR1, cR2, cR3]) rfl ⟨_, _, _, _, _, (t' + 1 : Nat), _, f, rfl, ?_, ?_, by omega, ?_, by omega, by omega, by omega⟩
    · refine OwnIn.widen (lo := w.heap.size + 1) (hi := w1.heap.size) ?_ (by omega) (by (try simp); (try omega))
      repeat (with_reducible refine OwnIn.setCell ?_ (.inl (by (try simp); (try omega))) _)
      exact RW_3.out
    · repeat (with_reducible refine Blk.other ?_ (by (try simp); (try omega)) _)
      exact S_3.out
    · repeat (with_reducible refine Keeps.setNew ?_ (by (try simp); (try omega)) _)
      exact HK_3.out
  · go_upto_region 10 with (fail)
    have lT := T_2.out.1; have cT0 := T_2.out.at 0 rfl; have fT0 := T_2.out.free 0 rfl; have cT1 := T_2.out.at 1 rfl; have fT1 := T_2.out.free 1 rfl
    have S_d := Lib.hid S_2.out.drew; have B_d := Lib.hid B_2.out.drew; have R_d := Lib.hid R_2.out.drew; have T_d := Lib.hid T_2.out.drew; have RW_d := Lib.hid RW_2.out.drew; have HK_d := Lib.hid (HK_2.out.trans (keeps_of_below (Below.refl _ _).drew _ _))
    have hne : ub ≠ w1.heap.size := by omega
    go_region_held3 (fun w' => w'.cell? ⟨w1.heap.size, 1, none⟩ = some (.slice (some ⟨ub, uo, none⟩) (2 * m) cu))
      (first | (with_reducible exact T_2.out.at 1 rfl) | (with_reducible exact T_d.out.at 1 rfl) | (with_reducible exact T_3.out.at 1 rfl) | (with_reducible exact (T_d.out.alloc _).at 1 rfl) | (with_reducible exact (T_2.out.alloc _).at 1 rfl) | (with_reducible exact (T_2.out.alloc _).drew.at 1 rfl) | (with_reducible exact (T_3.out.alloc _).at 1 rfl) | (with_reducible exact T_4.out.at 1 rfl) | (with_reducible exact (T_4.out.other (p := ⟨ub, uo + v3, none⟩) hne _).at 1 rfl))
      (first | (go_at_call 81; (with_reducible refine (next_is (2 * (m : Int)) b S ca k kc (t' + 1) (2 * m) B _ (by simp) S_d.out B_d.out hS hk0 (by omega) (by omega) (by omega)).mono ?_); rintro e w3 ⟨v3, rfl, hv3, hB, hk⟩; have z3 : w2.heap.size ≤ w3.heap.size := (by have := hk.size; (try simp at this); omega); have hv9 : (v3 : Int) < 2 * (m : Int) := (by omega); have hv8 : (0 : Int) ≤ (v3 : Int) := (by omega); have B_3 := Lib.hid (B_d.out.keeps hk hS); have R_3 := Lib.hid (R_d.out.keeps hk (by omega)); have T_3 := Lib.hid (T_d.out.keeps hk (by omega)); have RW_3 := Lib.hid (RW_d.out.keeps hk (by omega)); have HK_3 := Lib.hid (HK_d.out.trans hk); have S_3 := Lib.hid (src_cast hB); clear hk hB) | (go_at_call 81; (with_reducible refine (next_is (2 * (m : Int)) b S ca k kc (t' + 1) (2 * m) B _ (by simp) (S_2.out.alloc _).drew (B_2.out.alloc _).drew hS hk0 (by omega) (by omega) (by omega)).mono ?_); rintro e w3 ⟨v3, rfl, hv3, hB, hk⟩; have z3 : w2.heap.size ≤ w3.heap.size := (by have := hk.size; (try simp at this); omega); have hv9 : (v3 : Int) < 2 * (m : Int) := (by omega); have hv8 : (0 : Int) ≤ (v3 : Int) := (by omega); have B_3 := Lib.hid (((B_2.out.alloc (.cells #[.int .i64 1, .int .i64 2, .int .i64 7, .int .i64 33] 2)).drew).keeps hk hS); have R_3 := Lib.hid (((R_2.out.alloc (.cells #[.int .i64 1, .int .i64 2, .int .i64 7, .int .i64 33] 2)).drew).keeps hk (by omega)); have T_3 := Lib.hid (((T_2.out.alloc (.cells #[.int .i64 1, .int .i64 2, .int .i64 7, .int .i64 33] 2)).drew).keeps hk (by omega)); have RW_3 := Lib.hid (((RW_2.out.alloc (.cells #[.int .i64 1, .int .i64 2, .int .i64 7, .int .i64 33] 2)).drew).keeps hk (by omega)); have HK_3 := Lib.hid (((HK_2.out.alloc (.cells #[.int .i64 1, .int .i64 2, .int .i64 7, .int .i64 33] 2)).trans (keeps_of_below (Below.refl _ _).drew _ _)).trans hk); have S_3 := Lib.hid (src_cast hB); have QL := Lib.hid (src_keeps ((src_lit w2 (w2.heap.size) 4 #[.int .i64 1, .int .i64 2, .int .i64 7, .int .i64 33] (fun i => ([1, 2, 7, 33] : List Int).getD i 0) rfl (by intro i hi; rcases (by omega : i = 0 ∨ i = 1 ∨ i = 2 ∨ i = 3) with rfl | rfl | rfl | rfl <;> rfl)).drew) hk (by omega)); clear hk hB) | (go_at_call 79; refine (of_any [1, 2, 7, 33] b S _ ca k kc (t' + 1 + 1) 4 B _ w3 S_3.out B_3.out hS hk0 (by omega) rfl (by simp) (by simp) rfl (by simp)).mono ?_; rintro e w4 ⟨v4, rfl, _, hB, hk⟩; have z4 : w3.heap.size ≤ w4.heap.size := (by have := hk.size; (try simp at this); omega); have B_4 := Lib.hid ((B_3.out.alloc _).keeps hk hS); have R_4 := Lib.hid ((R_3.out.alloc _).keeps hk (by omega)); have T_4 := Lib.hid ((T_3.out.alloc _).keeps hk (by omega)); have RW_4 := Lib.hid ((RW_3.out.alloc _).keeps hk (by omega)); have HK_4 := Lib.hid ((HK_3.out.alloc _).trans hk); have S_4 := Lib.hid (src_cast hB); clear hk hB; obtain ⟨cU, fU⟩ := (ownIn_cell RW_4.out v3 (by omega))) | (go_at_call 79; refine (of_blk [1, 2, 7, 33] b S (w2.heap.size) ca k kc (t' + 1 + 1) 4 B _ S_3.out B_3.out hS hk0 (by omega) rfl (by simp) (by simp) QL.out (by omega)).mono ?_; rintro e w4 ⟨v4, rfl, _, hB, hk⟩; have z4 : w3.heap.size ≤ w4.heap.size := (by have := hk.size; (try simp at this); omega); have B_4 := Lib.hid (B_3.out.keeps hk hS); have R_4 := Lib.hid (R_3.out.keeps hk (by omega)); have T_4 := Lib.hid (T_3.out.keeps hk (by omega)); have RW_4 := Lib.hid (RW_3.out.keeps hk (by omega)); have HK_4 := Lib.hid (HK_3.out.trans hk); have S_4 := Lib.hid (src_cast hB); clear hk hB; obtain ⟨cU, fU⟩ := (ownIn_cell RW_4.out v3 (by omega))))
    all_goals (
      have st := Lib.hid (RW_4.out.stored v3 (by omega) v4)
      have S_5 := Lib.hid (S_4.out.other (p := ⟨ub, uo + v3, none⟩) (by (try simp); (try omega)) (.int .i64 v4)); have R_5 := Lib.hid (R_4.out.other (p := ⟨ub, uo + v3, none⟩) (by (try simp); (try omega)) (.int .i64 v4)); have T_5 := Lib.hid (T_4.out.other (p := ⟨ub, uo + v3, none⟩) hne (.int .i64 v4)); have HK_5 := Lib.hid (HK_4.out.setNew (p := ⟨ub, uo + v3, none⟩) (by (try simp); (try omega)) (.int .i64 v4)); have RW_5 := Lib.hid st.out.1
      have z5 : w4.heap.size ≤ (w4.setCell ⟨ub, uo + v3, none⟩ (.int .i64 v4)).heap.size := by simp
      clear st cU fU cT0 fT0 cT1 fT1 lT S_4 R_4 T_4 HK_4 RW_4 S_3 B_3 R_3 T_3 HK_3 RW_3 S_d B_d R_d T_d HK_d RW_d S_2 B_2 R_2 T_2 RW_2 HK_2 B_4
      generalize w4.setCell ⟨ub, uo + v3, none⟩ (.int .i64 v4) = w5 at *
      have lT := T_5.out.1; have cT0 := T_5.out.at 0 rfl; have cT1 := T_5.out.at 1 rfl; have cT2 := T_5.out.at 2 rfl; have cT3 := T_5.out.at 3 rfl
      have lR := R_5.out.1; have cR0 := R_5.out.at 0 rfl; have fR0 := R_5.out.free 0 rfl; have cR1 := R_5.out.at 1 rfl; have fR1 := R_5.out.free 1 rfl; have cR2 := R_5.out.at 2 rfl; have fR2 := R_5.out.free 2 rfl; have cR3 := R_5.out.at 3 rfl; have fR3 := R_5.out.free 3 rfl
      go_wp2
      refine bodyPost_ret (v := .agg #[.int .i64 (m : Int), .slice (some ⟨ub, uo, none⟩) (2 * m) cu, .int .i64 ac, .int .i64 bu]) (by simp [results, Try.results128, go_sem, cR0, cR1, cR2, cR3]) rfl ⟨_, _, _, _, _, (t' + 1 + 1 + 1 : Nat), _, (fun j => if j = v3 then v4 else f j), rfl, ?_, ?_, by omega, ?_, by omega, by omega, by omega⟩
      · refine OwnIn.widen (lo := w.heap.size + 1) (hi := w1.heap.size) ?_ (by omega) (by (try simp); (try omega))
        repeat (with_reducible refine OwnIn.setCell ?_ (.inl (by (try simp); (try omega))) _)
        exact RW_5.out
      · repeat (with_reducible refine Blk.other ?_ (by (try simp); (try omega)) _)
        exact S_5.out
      · repeat (with_reducible refine Keeps.setNew ?_ (by (try simp); (try omega)) _)
        exact HK_5.out
      )
  · have hwx : IntKind.i64.wrap (1 - ac) = 1 - ac := IntWalk.i64_in _ (by omega)
    have lT := T_2.out.1; have cT0 := T_2.out.at 0 rfl; have fT0 := T_2.out.free 0 rfl; have cT1 := T_2.out.at 1 rfl; have fT1 := T_2.out.free 1 rfl; have cT2 := T_2.out.at 2 rfl; have fT2 := T_2.out.free 2 rfl; have cT3 := T_2.out.at 3 rfl; have fT3 := T_2.out.free 3 rfl
    go_upto_region 13 with (fail)
    clear cT0 fT0 cT1 fT1 cT2 fT2 cT3 fT3 lT
    have S_3 := Lib.hid (S_2.out.other (p := ⟨w1.heap.size, 2, none⟩) (by (try simp); (try omega)) (.int .i64 (1 - ac))); have R_3 := Lib.hid (R_2.out.other (p := ⟨w1.heap.size, 2, none⟩) (by (try simp); (try omega)) (.int .i64 (1 - ac))); have RW_3 := Lib.hid (RW_2.out.setCell (p := ⟨w1.heap.size, 2, none⟩) (by (try simp); (try omega)) (.int .i64 (1 - ac))); have HK_3 := Lib.hid (HK_2.out.setNew (p := ⟨w1.heap.size, 2, none⟩) (by (try simp); (try omega)) (.int .i64 (1 - ac)))
    have T_3 : Hid (Blk (w2.setCell ⟨w1.heap.size, 2, none⟩ (.int .i64 (1 - ac))) w1.heap.size [.int .i64 (m : Int), .slice (some ⟨ub, uo, none⟩) (2 * m) cu, .int .i64 (1 - ac), .int .i64 bu]) := Lib.hid (T_2.out.set 2 (by simp) _)
    have z3 : w2.heap.size ≤ (w2.setCell ⟨w1.heap.size, 2, none⟩ (.int .i64 (1 - ac))).heap.size := by simp
    clear S_2 R_2 RW_2 HK_2 T_2
    generalize (w2.setCell ⟨w1.heap.size, 2, none⟩ (.int .i64 (1 - ac))) = w3 at *
    have lT := T_3.out.1; have cT0 := T_3.out.at 0 rfl; have cT1 := T_3.out.at 1 rfl; have cT2 := T_3.out.at 2 rfl; have cT3 := T_3.out.at 3 rfl
    have lR := R_3.out.1; have cR0 := R_3.out.at 0 rfl; have fR0 := R_3.out.free 0 rfl; have cR1 := R_3.out.at 1 rfl; have fR1 := R_3.out.free 1 rfl; have cR2 := R_3.out.at 2 rfl; have fR2 := R_3.out.free 2 rfl; have cR3 := R_3.out.at 3 rfl; have fR3 := R_3.out.free 3 rfl
    go_wp2
    refine bodyPost_ret (v := .agg #[.int .i64 (m : Int), .slice (some ⟨ub, uo, none⟩) (2 * m) cu, .int .i64 (1 - ac), .int .i64 bu]) (by simp [results, Try.results128, go_sem, cR0, cR1, cR2, cR3]) rfl ⟨_, _, _, _, _, (t' + 1 : Nat), _, f, rfl, ?_, ?_, by omega, ?_, by omega, by omega, by omega⟩
    · refine OwnIn.widen (lo := w.heap.size + 1) (hi := w1.heap.size) ?_ (by omega) (by (try simp); (try omega))
      repeat (with_reducible refine OwnIn.setCell ?_ (.inl (by (try simp); (try omega))) _)
      exact RW_3.out
    · repeat (with_reducible refine Blk.other ?_ (by (try simp); (try omega)) _)
      exact S_3.out
    · repeat (with_reducible refine Keeps.setNew ?_ (by (try simp); (try omega)) _)
      exact HK_3.out
  · go_upto_region 13 with (fail)
    have lT := T_2.out.1; have cT0 := T_2.out.at 0 rfl; have cT1 := T_2.out.at 1 rfl; have cT2 := T_2.out.at 2 rfl; have cT3 := T_2.out.at 3 rfl
    have lR := R_2.out.1; have cR0 := R_2.out.at 0 rfl; have fR0 := R_2.out.free 0 rfl; have cR1 := R_2.out.at 1 rfl; have fR1 := R_2.out.free 1 rfl; have cR2 := R_2.out.at 2 rfl; have fR2 := R_2.out.free 2 rfl; have cR3 := R_2.out.at 3 rfl; have fR3 := R_2.out.free 3 rfl
    go_wp2
    refine bodyPost_ret (v := .agg #[.int .i64 (m : Int), .slice (some ⟨ub, uo, none⟩) (2 * m) cu, .int .i64 ac, .int .i64 bu]) (by simp [results, Try.results128, go_sem, cR0, cR1, cR2, cR3]) rfl ⟨_, _, _, _, _, (t' + 1 : Nat), _, f, rfl, ?_, ?_, by omega, ?_, by omega, by omega, by omega⟩
    · refine OwnIn.widen (lo := w.heap.size + 1) (hi := w1.heap.size) ?_ (by omega) (by (try simp); (try omega))
      repeat (with_reducible refine OwnIn.setCell ?_ (.inl (by (try simp); (try omega))) _)
      exact RW_2.out
    · repeat (with_reducible refine Blk.other ?_ (by (try simp); (try omega)) _)
      exact S_2.out
    · repeat (with_reducible refine Keeps.setNew ?_ (by (try simp); (try omega)) _)
      exact HK_2.out
end Go.Proofs.Ytbhjmomphajnnaa

namespace Go.Proofs.Ytbhjmomphajnnaa
open Go.RowKit
set_option linter.unusedVariables false

/-- The objects stand one behind the other. -/
theorem parse_from {f : Nat → Int} {e : Nat} : ∀ (d a : Nat) (L : List Ob), e - a ≤ d → parse f e a = some L → ∀ x ∈ L, a ≤ x.at_.toNat ∧ 0 ≤ x.at_
  | 0, a, L, hd, hp, x, hx => by
    rw [parse_stop (by omega)] at hp
    cases hp; cases hx
  | d + 1, a, L, hd, hp, x, hx => by
    by_cases h : a < e
    · by_cases hg : Good f e a
      · rw [parse_good h hg] at hp
        obtain ⟨L', hp', rfl⟩ := Option.map_eq_some_iff.mp hp
        rcases List.mem_cons.mp hx with rfl | hx
        · simp [objAt]
        · have := parse_from d _ L' (by omega) hp' x hx
          exact ⟨by omega, this.2⟩
      · rw [parse_bad h hg] at hp; cases hp
    · rw [parse_stop h] at hp
      cases hp; cases hx

theorem isSF_shape {h : Int} {n : Nat} {f : Nat → Int} {ac bu : Int} {L : List Ob} (hk : IsSF h n f ac bu 0) (ho : IsOI h n f ac bu 0 L) : Points f L ∧ Rest f n (baseI ac h).toNat bu.toNat := by
  rcases hk with ⟨_, _, h0⟩ | ⟨_, _, _, h0⟩ | ⟨L', ho', hs, _⟩
  · exact absurd rfl h0
  · cases h0
  · have e := (isOI_zero ho').2.symm.trans (isOI_zero ho).2
    cases e
    rcases hs with ⟨h1, h2, _⟩ | ⟨_, h0⟩
    · exact ⟨h1, h2⟩
    · cases h0

theorem isSF_of {h : Int} {n : Nat} {f : Nat → Int} {ac bu : Int} {L : List Ob} (ho : IsOI h n f ac bu 0 L) (hp : Points f L) (hr : Rest f n (baseI ac h).toNat bu.toNat) : IsSF h n f ac bu 0 :=
  .inr (.inr ⟨L, ho, .inl ⟨hp, hr, rfl⟩, rfl⟩)

theorem isOI_of {h : Int} {n : Nat} {f : Nat → Int} {ac bu : Int} {L : List Ob} (h1 : IsFault h n f ac bu 0) (h2 : parse f ((baseI ac h).toNat + bu.toNat) (baseI ac h).toNat = some L) : IsOI h n f ac bu 0 L := .inr (.inr ⟨h1, h2, rfl⟩)
end Go.Proofs.Ytbhjmomphajnnaa

namespace Go.Proofs.Ytbhjmomphajnnaa
open Go.ChangeShapes Go.WideShapes Go.ChangeAt Go.RowKit Go.Joins Go.Deep
set_option linter.unusedVariables false

instance : Inhabited GM := ⟨gzero⟩
end Go.Proofs.Ytbhjmomphajnnaa

namespace Go.Proofs.Ytbhjmomphajnnaa
open Go.RowKit
set_option linter.unusedVariables false

theorem isNaN_any (x : Int) (w : World) : Calls Try.prog 230 #[.int .i64 x] w (fun e w' => e = .returned (.bool false) ∧ Below w.heap.size w w') := by
  go_enter Try.func230, Try.ntmps230
  go_wp2
  go_ret
  exact ⟨rfl, Below.refl _ _⟩

def sgn (x y : Int) : Int := if x < y then -1 else if y < x then 1 else 0

set_option maxRecDepth 100000 in
theorem compare_any (x y : Int) (w : World) : Calls Try.prog 212 #[.int .i64 x, .int .i64 y] w (fun e w' => e = .returned (.int .i64 (sgn x y)) ∧ Below w.heap.size w w') := by
  have arm : ∀ (W0 : World), True := fun _ => trivial
  by_cases h1 : x < y
  · have hs : sgn x y = -1 := by unfold sgn; rw [if_pos h1]
    rw [hs]
    go_enter Try.func212, Try.ntmps212
    go_wp2_with (first | (go_at_call 230; refine (isNaN_any x _).mono ?_; rintro e w1 ⟨rfl, hb1⟩) | (go_at_call 230; refine (isNaN_any y _).mono ?_; rintro e w2 ⟨rfl, hb2⟩))
    go_ret
    exact ⟨rfl, hb1.trans (hb2.mono hb1.size)⟩
  · by_cases h2 : y < x
    · have hs : sgn x y = 1 := by unfold sgn; rw [if_neg h1, if_pos h2]
      rw [hs]
      go_enter Try.func212, Try.ntmps212
      go_wp2_with (first | (go_at_call 230; refine (isNaN_any x _).mono ?_; rintro e w1 ⟨rfl, hb1⟩) | (go_at_call 230; refine (isNaN_any y _).mono ?_; rintro e w2 ⟨rfl, hb2⟩))
      go_ret
      exact ⟨rfl, hb1.trans (hb2.mono hb1.size)⟩
    · have hs : sgn x y = 0 := by unfold sgn; rw [if_neg h1, if_neg h2]
      rw [hs]
      go_enter Try.func212, Try.ntmps212
      go_wp2_with (first | (go_at_call 230; refine (isNaN_any x _).mono ?_; rintro e w1 ⟨rfl, hb1⟩) | (go_at_call 230; refine (isNaN_any y _).mono ?_; rintro e w2 ⟨rfl, hb2⟩))
      go_ret
      exact ⟨rfl, hb1.trans (hb2.mono hb1.size)⟩

set_option maxRecDepth 100000 in
theorem fo1_any (t : GM) (at_ : Int) (w : World) : Calls Try.prog 225 #[.agg #[.int .i64 t.at_, .int .i64 t.s, .int .i64 t.m, .int .i64 t.o, .int .i64 t.h, .slice t.a t.n t.c], .int .i64 at_] w (fun e w' => e = .returned (.int .i64 (sgn t.at_ at_)) ∧ Below w.heap.size w w') := by
  go_enter Try.func225, Try.ntmps225
  go_wp2_with (go_at_call 212; refine (compare_any t.at_ at_ _).mono ?_; rintro e w1 ⟨rfl, hb1⟩)
  go_ret
  exact ⟨rfl, ((Below.refl _ _).alloc (Nat.le_refl _) _).trans (hb1.mono (by simp))⟩
end Go.Proofs.Ytbhjmomphajnnaa

namespace Go.Proofs.Ytbhjmomphajnnaa
open Go.RowKit
set_option linter.unusedVariables false

/-- The world stands in the first place where the row is no longer below. -/
def Cut (T : Nat → GM) (N : Nat) (x : Int) (lo hi : Nat) : Prop := (∀ j, j < lo → (T j).at_ < x) ∧ (∀ j, hi ≤ j → j < N → x ≤ (T j).at_)

set_option maxRecDepth 100000 in
set_option maxHeartbeats 1600000 in
theorem bs_any (a : Option Addr) (N k : Nat) (T : Nat → GM) (at_ : Int) (w : World) (hg : GV w a N T) (hN : N ≤ 1048576) (hm : ∀ i j, i < j → j < N → (T i).at_ < (T j).at_) :
    Calls Try.prog 224 #[.slice a N k, .int .i64 at_, .func (.func 225) #[] #[]] w (fun e w' => ∃ i : Nat, i ≤ N ∧ Cut T N at_ i i ∧ e = .returned (.tuple #[.int .i64 (i : Int), .bool (decide (i < N ∧ (T i).at_ = at_))]) ∧ Below w.heap.size w w') := by
  have G := Lib.hid hg; have HM := Lib.hid hm
  clear hg hm
  have eg : ∀ args w, (callFunc 225 args).run Try.prog w = .ok (.enter 225 args) w := enters_of Try.func225 (by kernel_rfl) rfl
  go_enter Try.func224, Try.ntmps224
  go_wp2
  go_loopw [9, 10] (fun p r wr => ∃ lo hi : Nat, p = .int .i64 (lo : Int) ∧ r = .int .i64 (hi : Int) ∧ lo ≤ hi ∧ hi ≤ N ∧ Hid (Cut T N at_ lo hi) ∧ Hid (Below w.heap.size w wr)) (fun p r _ => (intOf r).toNat - (intOf p).toNat)
  case atStart => exact ⟨0, N, rfl, rfl, Nat.zero_le _, Nat.le_refl _, ⟨fun j hj => by omega, fun j h1 h2 => by omega⟩, Below.refl _ _⟩
  case round =>
    obtain ⟨lo, hi, rfl, rfl, hlh, hin, HC, HBr⟩ := hrel
    by_cases hlt : lo < hi
    · have hlt' : (lo : Int) < (hi : Int) := by omega
      obtain ⟨b, q, rfl, gs⟩ : ∃ b q, a = some ⟨b, q, none⟩ ∧ GSrc w b q N T := by
        rcases G.out with h0 | h
        · omega
        · exact h
      have six := (gs.six ((lo + hi) / 2) (by omega)).below HBr.out gs.lt
      have HS := Lib.hid six
      clear six gs
      obtain ⟨s0, s1, s2, s3, s4, s5⟩ := HS.out
      by_cases hx : (T ((lo + hi) / 2)).at_ < at_
      · have hs : sgn (T ((lo + hi) / 2)).at_ at_ < 0 := by unfold sgn; rw [if_pos hx]; omega
        have C1 : Hid (Cut T N at_ ((lo + hi) / 2 + 1) hi) := Lib.hid ⟨fun j hj => by
          rcases Nat.lt_or_ge j ((lo + hi) / 2) with h | h
          · exact Int.lt_trans (HM.out j _ h (by omega)) hx
          · rw [show j = (lo + hi) / 2 by omega]; exact hx, HC.out.2⟩
        clear hx HC
        go_wp2_with (go_at_fn 225; refine (fo1_any (T _) at_ _).mono ?_; rintro e w1 ⟨rfl, hb1⟩)
        clear hs s0 s1 s2 s3 s4 s5 HS
        have HB1 := Lib.hid (HBr.out.trans ((Below.refl _ _).trans (hb1.mono HBr.out.size)))
        clear hb1
        go_roundw
        case measure => simp [intOf]; omega
        case rel => exact ⟨(lo + hi) / 2 + 1, hi, by go_num, rfl, by omega, hin, C1, HB1⟩
      · have hs : ¬ sgn (T ((lo + hi) / 2)).at_ at_ < 0 := by unfold sgn; rw [if_neg hx]; split <;> omega
        have C1 : Hid (Cut T N at_ lo ((lo + hi) / 2)) := Lib.hid ⟨HC.out.1, fun j h1 h2 => by
          rcases Nat.lt_or_ge ((lo + hi) / 2) j with h | h
          · exact Int.le_of_lt (Int.lt_of_le_of_lt (by omega) (HM.out _ j h h2))
          · rw [show j = (lo + hi) / 2 by omega]; omega⟩
        clear hx HC
        go_wp2_with (go_at_fn 225; refine (fo1_any (T _) at_ _).mono ?_; rintro e w1 ⟨rfl, hb1⟩)
        clear hs s0 s1 s2 s3 s4 s5 HS
        have HB1 := Lib.hid (HBr.out.trans ((Below.refl _ _).trans (hb1.mono HBr.out.size)))
        clear hb1
        go_roundw
        case measure => simp [intOf]; omega
        case rel => exact ⟨lo, (lo + hi) / 2, rfl, by go_num, by omega, by omega, C1, HB1⟩
    · obtain rfl : hi = lo := by omega
      have hlt' : ¬ (hi : Int) < (hi : Int) := by omega
      by_cases hn : hi < N
      · have hn' : (hi : Int) < (N : Int) := by omega
        obtain ⟨b, q, rfl, gs⟩ : ∃ b q, a = some ⟨b, q, none⟩ ∧ GSrc w b q N T := by
          rcases G.out with h0 | h
          · omega
          · exact h
        have six := (gs.six hi hn).below HBr.out gs.lt
        have HS := Lib.hid six
        clear six gs
        obtain ⟨s0, s1, s2, s3, s4, s5⟩ := HS.out
        obtain ⟨t, ht⟩ : ∃ t, T hi = t := ⟨_, rfl⟩
        rw [ht] at s0 s1 s2 s3 s4 s5
        have HT := Lib.hid ht
        clear ht HS
        have hd : Hid ((sgn t.at_ at_ == 0) = decide (hi < N ∧ (T hi).at_ = at_)) := Lib.hid (by
          rw [HT.out]
          by_cases hx : t.at_ = at_
          · have : sgn t.at_ at_ = 0 := by unfold sgn; rw [if_neg (by omega), if_neg (by omega)]
            rw [this, decide_eq_true ⟨hn, hx⟩]; rfl
          · have : ¬ sgn t.at_ at_ = 0 := by unfold sgn; split; omega; split <;> omega
            rw [decide_eq_false (fun h => hx h.2)]; simpa using this)
        go_wp2_with (go_at_fn 225; refine (fo1_any t at_ _).mono ?_; rintro e w1 ⟨rfl, hb1⟩)
        have HB1 := Lib.hid (HBr.out.trans ((Below.refl _ _).trans (hb1.mono HBr.out.size)))
        go_ret2
        exact ⟨hi, hin, HC.out, by rw [← hd.out]; rfl, HB1.out⟩
      · have hn' : ¬ (hi : Int) < (N : Int) := by omega
        have hd : Hid (false = decide (hi < N ∧ (T hi).at_ = at_)) := Lib.hid (decide_eq_false (fun h => hn h.1)).symm
        go_wp2
        go_ret2
        refine ⟨hi, hin, HC.out, ?_, HBr.out⟩
        rw [decide_eq_false hn]; rfl
end Go.Proofs.Ytbhjmomphajnnaa

namespace Go.Proofs.Ytbhjmomphajnnaa
open Go.RowKit
set_option linter.unusedVariables false

theorem seven_keeps (w : World) (B : Nat) (v0 v1 v2 v3 v4 v5 v6 : Value) : Keeps w (((((((w.setCell ⟨B, 0, none⟩ v0).setCell ⟨B, 1, none⟩ v1).setCell ⟨B, 2, none⟩ v2).setCell ⟨B, 3, none⟩ v3).setCell ⟨B, 4, none⟩ v4).setCell ⟨B, 5, none⟩ v5).setCell ⟨B, 6, none⟩ v6) B (B + 1) := by
  repeat (refine Keeps.trans ?_ (keeps_setCell (p := ⟨B, _, none⟩) (Nat.le_refl B) (Nat.lt_succ_self B) _))
  exact Keeps.refl _ _ _

theorem blk_seven {w : World} {b B : Nat} {cs : List Value} (h : Blk w b cs) (hne : b ≠ B) (v0 v1 v2 v3 v4 v5 v6 : Value) : Blk (((((((w.setCell ⟨B, 0, none⟩ v0).setCell ⟨B, 1, none⟩ v1).setCell ⟨B, 2, none⟩ v2).setCell ⟨B, 3, none⟩ v3).setCell ⟨B, 4, none⟩ v4).setCell ⟨B, 5, none⟩ v5).setCell ⟨B, 6, none⟩ v6) b cs := h.keeps (seven_keeps w B v0 v1 v2 v3 v4 v5 v6) (by omega)

theorem cells5 {w : World} {b : Nat} {v0 v1 v2 v3 v4 : Value} (h : Blk w b [v0, v1, v2, v3, v4]) : w.cell? ⟨b, 0, none⟩ = some v0 ∧ w.cell? ⟨b, 1, none⟩ = some v1 ∧ w.cell? ⟨b, 2, none⟩ = some v2 ∧ w.cell? ⟨b, 3, none⟩ = some v3 ∧ w.cell? ⟨b, 4, none⟩ = some v4 := ⟨h.at 0 rfl, h.at 1 rfl, h.at 2 rfl, h.at 3 rfl, h.at 4 rfl⟩

set_option maxRecDepth 100000 in
set_option maxHeartbeats 400000 in
theorem clone_all (ad : Addr) (n cap : Nat) (f : Nat → Int) (w : World) (hs : Src w (some ad) n f) (hn : n ≤ 1048576) :
    Calls Try.prog 188 #[.slice (some ad) n cap] w (RetInts w n f) := by
  rcases Nat.eq_zero_or_pos n with rfl | hp
  · obtain ⟨i0, hi, hz0, hz1, hz2⟩ := info_parts Try.info2
    have hnil := fun (w : World) (a : Option Addr) (n c : Nat) => Lib.run_eql_slice_nil (P := Try.prog) w 24 2 a n c 0 0 Try.underlying24
    go_enter Try.func188, Try.ntmps188
    go_wp2_with (at_builtin; refine wpList_append_own _ rfl _ _ 24 rfl w.heap.size 2 i0 (.int .i64 0) 1 8 Try.underlying24 hi hz0 hz1 hz2 rfl (by decide) _ 0 [] rfl (World.ownsRow_lit w #[] 0 (Nat.le_refl _) (by simp [maxLen]) rfl) ad 0 cap (nums 0 f) rfl (by simp [nums]) (by intro j u h; simp [nums] at h) (nums_one 0 f) (by unfold maxLen; omega) (by omega) (by simp) ?_; intro v' w1 hown hgrow _)
    go_ret
    exact retInts_of_row (e := 2) (by simpa using hown) (((Below.refl _ _).alloc (Nat.le_refl _) _).grown hgrow (by simp) (by intro k hk; cases hk; exact Nat.le_refl _))
  · exact clone_any (some ad) n cap f w hs hp hn

/-- The first object of a row of words comes back, or a code. -/
def RetFirst (W : World) (n : Nat) (f : Nat → Int) (e : Ending) (w' : World) : Prop :=
  Below W.heap.size W w' ∧ ((Good f n 0 ∧ ∃ a c, e = .returned (.agg #[.int .i64 0, .int .i64 0, .int .i64 (f 0 / 2 % 16), .int .i64 (f 0 / 32 % 4096), .int .i64 (f 0 / 131072), .int .i64 (f 1), .slice a (szOf f 0) c]) ∧ Own w' W.heap.size a (szOf f 0) (fun k => f (2 + k))) ∨
    (¬ Good f n 0 ∧ e = .returned (.agg #[.int .i64 1, .int .i64 0, .int .i64 0, .int .i64 0, .int .i64 0, .int .i64 0, .slice none 0 0])))

set_option maxRecDepth 100000 in
set_option maxHeartbeats 1600000 in
theorem implFirst_any (b off n c : Nat) (f : Nat → Int) (w : World) (hs : Src w (some ⟨b, off, none⟩) n f) (hn : n ≤ 1048576) (hnc : n ≤ c) (hcm : c ≤ maxLen) :
    Calls Try.prog 202 #[.slice (some ⟨b, off, none⟩) n c] w (RetFirst w n f) := by
  have S := Lib.hid hs
  clear hs
  by_cases h2 : n < 2
  · have h2' : (n : Int) < 2 := by omega
    have hb : Hid (¬ Good f n 0) := Lib.hid (fun h => by have := h.1; omega)
    go_enter Try.func202, Try.ntmps202
    go_wp2
    refine bodyPost_ret (v := .agg #[.int .i64 1, .int .i64 0, .int .i64 0, .int .i64 0, .int .i64 0, .int .i64 0, .slice none 0 0]) (by simp [results, Try.results202, go_sem]) rfl ⟨?_, .inr ⟨hb.out, rfl⟩⟩
    repeat (first | (with_reducible refine Below.setCell ?_ (by (try simp); (try omega)) _) | (with_reducible refine Below.alloc ?_ (by (try simp); (try omega)) _) | (with_reducible refine Below.drew ?_))
    exact Below.refl _ _
  · have h2' : ¬ (n : Int) < 2 := by omega
    have h22 : (2 : Int) ≤ (n : Int) := by omega
    have hnc' : (n : Int) ≤ (c : Int) := by omega
    have hc2 : 2 ≤ c := by omega
    have S2 : Hid (Src w (some ⟨b, off, none⟩) 2 f) := S.out.elim (fun h => .inl (by omega)) (fun ⟨b', o', h1, h3, h4⟩ => .inr ⟨b', o', h1, h3, fun i hi => h4 i (by omega)⟩)
    have HCM := Lib.hid hcm
    clear hcm
    by_cases hk : ROk (f 0) (f 1)
    · have hs12 := hk.2.1
      have HK := Lib.hid hk
      clear hk
      go_enter Try.func202, Try.ntmps202
      go_wp2_with fail

      refine (implRH_any (some ⟨b, off, none⟩) 2 c f 0 (f 0 / 2 % 16) (f 0 / 32 % 4096) (f 0 / 131072) (f 1) _ (S2.out.alloc _) (by omega) (.inr (.inl ⟨rfl, HK.out, rfl, rfl, rfl, rfl, rfl⟩))).mono ?_
      rintro e w1 ⟨rfl, hb⟩
      have HB1 := Lib.hid (thru1 (Below.refl _ _) hb)
      have R_1 := Lib.hid ((Blk.new_at (w := w) (cs := #[.int .i64 0, .int .i64 0, .int .i64 0, .int .i64 0, .int .i64 0, .int .i64 0, .slice none 0 0]) (t := 233) (w.heap.size) rfl).below hb)
      have S1 := Lib.hid ((S.out.alloc _).below hb)
      have z1 : w.heap.size + 1 ≤ w1.heap.size := by have := hb.size; simp at this; omega
      clear hb
      by_cases hfit : f 0 / 2 % 16 ≤ (n : Int) - 2
      · obtain ⟨s, hs⟩ : ∃ s : Nat, f 0 / 2 % 16 = (s : Int) := ⟨(f 0 / 2 % 16).toNat, by omega⟩
        have hsz : szOf f 0 = s := by unfold szOf; omega
        have hg : Hid (Good f n 0) := Lib.hid ⟨by omega, HK.out, by rw [hsz]; omega⟩
        rw [hs] at hs12 hfit ⊢
        have HSZ := Lib.hid hsz
        clear hsz
        obtain ⟨m, hm⟩ : ∃ m, f 0 / 32 % 4096 = m := ⟨_, rfl⟩
        obtain ⟨o, ho⟩ : ∃ o, f 0 / 131072 = o := ⟨_, rfl⟩
        rw [hm, ho]
        have HES := Lib.hid hs; have HEM := Lib.hid hm; have HEO := Lib.hid ho
        clear hs hm ho
        have X1 := Lib.hid (Blk.new_at (w := w1) (cs := #[.int .i64 0, .int .i64 (s : Int), .int .i64 m, .int .i64 o, .int .i64 (f 1)]) (t := 302) (w1.heap.size) rfl)
        have R1 := Lib.hid (R_1.out.alloc (.cells #[.int .i64 0, .int .i64 (s : Int), .int .i64 m, .int .i64 o, .int .i64 (f 1)] 302))
        have HBa := Lib.hid (HB1.out.alloc HB1.out.size (.cells #[.int .i64 0, .int .i64 (s : Int), .int .i64 m, .int .i64 o, .int .i64 (f 1)] 302))
        have S3 : Hid (Src (w1.alloc (.cells #[.int .i64 0, .int .i64 (s : Int), .int .i64 m, .int .i64 o, .int .i64 (f 1)] 302)) (some ⟨b, off + 2, none⟩) s (fun k => f (2 + k))) := (S1.out.alloc _).elim (fun h => .inl (by omega)) (fun ⟨b', o', h1, h3, h4⟩ => .inr ⟨b', o' + 2, by cases h1; rfl, h3, fun i hi => by rw [show o' + 2 + i = o' + (2 + i) by omega]; exact h4 (2 + i) (by omega)⟩)
        have X1d := Lib.hid X1.out.drew; have R1d := Lib.hid R1.out.drew; have S3d := Lib.hid S3.out.drew; have HBd := Lib.hid HBa.out.drew
        have zd' : Hid (w.heap.size + 2 ≤ (w1.alloc (.cells #[.int .i64 0, .int .i64 (s : Int), .int .i64 m, .int .i64 o, .int .i64 (f 1)] 302)).drew.heap.size) := Lib.hid (by simp [World.drew]; omega)
        have hne7 : w1.heap.size ≠ w.heap.size := by omega
        have hs0 : (0 : Int) ≤ (s : Int) := by omega
        have hle1 : (2 : Int) ≤ 2 + (s : Int) := by omega
        have hle2 : 2 + (s : Int) ≤ (c : Int) := by omega
        have hs9 : s ≤ 1048576 := by omega
        by_cases hc : c = 2
        · have hz0 : Hid (s = 0) := Lib.hid (by omega)
          have S4d : Hid (Src (w1.alloc (.cells #[.int .i64 0, .int .i64 (s : Int), .int .i64 m, .int .i64 o, .int .i64 (f 1)] 302)).drew (some ⟨b, off, none⟩) s (fun k => f (2 + k))) := Lib.hid (Or.inl hz0.out)
          subst hc
          have lR := R_1.out.1; have cR0 := R_1.out.at 0 rfl; have fR0 := R_1.out.free 0 rfl; have cR1 := R_1.out.at 1 rfl; have fR1 := R_1.out.free 1 rfl; have cR2 := R_1.out.at 2 rfl; have fR2 := R_1.out.free 2 rfl; have cR3 := R_1.out.at 3 rfl; have fR3 := R_1.out.free 3 rfl; have cR4 := R_1.out.at 4 rfl; have fR4 := R_1.out.free 4 rfl; have cR5 := R_1.out.at 5 rfl; have fR5 := R_1.out.free 5 rfl; have cR6 := R_1.out.at 6 rfl; have fR6 := R_1.out.free 6 rfl
          go_wp2_with fail
          clear lR cR0 fR0 cR1 fR1 cR2 fR2 cR3 fR3 cR4 fR4 cR5 fR5 cR6 fR6
          clear hle1 hle2 hfit hs12 hnc' hc2 h22 h2' h2 hn hnc S S2 S1 X1 R1 HBa S3 R_1 HB1 HCM HK hs0
          go_region_held3 (fun w' => w'.cell? ⟨w1.heap.size, 0, none⟩ = some (.int .i64 0) ∧ w'.cell? ⟨w1.heap.size, 1, none⟩ = some (.int .i64 (s : Int)) ∧ w'.cell? ⟨w1.heap.size, 2, none⟩ = some (.int .i64 m) ∧ w'.cell? ⟨w1.heap.size, 3, none⟩ = some (.int .i64 o) ∧ w'.cell? ⟨w1.heap.size, 4, none⟩ = some (.int .i64 (f 1)))
            (first | (with_reducible exact cells5 X1d.out) | (with_reducible exact cells5 X2.out) | (with_reducible exact cells5 (blk_seven X2.out hne7 _ _ _ _ _ _ _)))
            (first | (go_at_call 188; refine (clone_all ⟨b, off, none⟩ s _ (fun k => f (2 + k)) _ S4d.out hs9).mono ?_; rintro e w2 ⟨g, cg, rfl, ho, hb, _, _, _⟩; have HB2 := Lib.hid (HBd.out.trans (hb.mono HBd.out.size)); have X2 := Lib.hid (X1d.out.below hb); have R2 := Lib.hid (R1d.out.below hb); have z2 := hb.size; have HO := Lib.hid (ho.mono zd'.out); clear hb ho; have lR := R2.out.1; have cR0 := R2.out.at 0 rfl; have fR0 := R2.out.free 0 rfl; have cR1 := R2.out.at 1 rfl; have fR1 := R2.out.free 1 rfl; have cR2 := R2.out.at 2 rfl; have fR2 := R2.out.free 2 rfl; have cR3 := R2.out.at 3 rfl; have fR3 := R2.out.free 3 rfl; have cR4 := R2.out.at 4 rfl; have fR4 := R2.out.free 4 rfl; have cR5 := R2.out.at 5 rfl; have fR5 := R2.out.free 5 rfl; have cR6 := R2.out.at 6 rfl; have fR6 := R2.out.free 6 rfl))
          go_wp2
          refine bodyPost_ret (v := .agg #[.int .i64 0, .int .i64 0, .int .i64 (s : Int), .int .i64 m, .int .i64 o, .int .i64 (f 1), .slice g s cg]) (by simp [results, Try.results202, go_sem, cR0, cR1, cR2, cR3, cR4, cR5, cR6]) rfl ⟨?_, .inl ⟨hg.out, g, cg, by rw [HSZ.out, HES.out, HEM.out, HEO.out], ?_⟩⟩
          · repeat (first | (with_reducible refine Below.setCell ?_ (by (try simp); (try omega)) _) | (with_reducible refine Below.alloc ?_ (by (try simp); (try omega)) _) | (with_reducible refine Below.drew ?_))
            exact HB2.out
          · rw [HSZ.out]
            refine Own.mono (B := w.heap.size + 2) ?_ (by omega)
            repeat (first | (with_reducible refine Own.setCell ?_ (by (try simp); (try omega)) _) | (with_reducible refine Own.alloc ?_ _) | (with_reducible refine Own.drew ?_))
            exact HO.out
        · have lR := R_1.out.1; have cR0 := R_1.out.at 0 rfl; have fR0 := R_1.out.free 0 rfl; have cR1 := R_1.out.at 1 rfl; have fR1 := R_1.out.free 1 rfl; have cR2 := R_1.out.at 2 rfl; have fR2 := R_1.out.free 2 rfl; have cR3 := R_1.out.at 3 rfl; have fR3 := R_1.out.free 3 rfl; have cR4 := R_1.out.at 4 rfl; have fR4 := R_1.out.free 4 rfl; have cR5 := R_1.out.at 5 rfl; have fR5 := R_1.out.free 5 rfl; have cR6 := R_1.out.at 6 rfl; have fR6 := R_1.out.free 6 rfl
          go_wp2_with fail
          clear lR cR0 fR0 cR1 fR1 cR2 fR2 cR3 fR3 cR4 fR4 cR5 fR5 cR6 fR6
          clear hle1 hle2 hfit hs12 hnc' hc2 h22 h2' h2 hn hnc S S2 S1 X1 R1 HBa S3 R_1 HB1 HCM HK hs0
          go_region_held3 (fun w' => w'.cell? ⟨w1.heap.size, 0, none⟩ = some (.int .i64 0) ∧ w'.cell? ⟨w1.heap.size, 1, none⟩ = some (.int .i64 (s : Int)) ∧ w'.cell? ⟨w1.heap.size, 2, none⟩ = some (.int .i64 m) ∧ w'.cell? ⟨w1.heap.size, 3, none⟩ = some (.int .i64 o) ∧ w'.cell? ⟨w1.heap.size, 4, none⟩ = some (.int .i64 (f 1)))
            (first | (with_reducible exact cells5 X1d.out) | (with_reducible exact cells5 X2.out) | (with_reducible exact cells5 (blk_seven X2.out hne7 _ _ _ _ _ _ _)))
            (first | (go_at_call 188; refine (clone_all ⟨b, off + 2, none⟩ s _ (fun k => f (2 + k)) _ S3d.out hs9).mono ?_; rintro e w2 ⟨g, cg, rfl, ho, hb, _, _, _⟩; have HB2 := Lib.hid (HBd.out.trans (hb.mono HBd.out.size)); have X2 := Lib.hid (X1d.out.below hb); have R2 := Lib.hid (R1d.out.below hb); have z2 := hb.size; have HO := Lib.hid (ho.mono zd'.out); clear hb ho; have lR := R2.out.1; have cR0 := R2.out.at 0 rfl; have fR0 := R2.out.free 0 rfl; have cR1 := R2.out.at 1 rfl; have fR1 := R2.out.free 1 rfl; have cR2 := R2.out.at 2 rfl; have fR2 := R2.out.free 2 rfl; have cR3 := R2.out.at 3 rfl; have fR3 := R2.out.free 3 rfl; have cR4 := R2.out.at 4 rfl; have fR4 := R2.out.free 4 rfl; have cR5 := R2.out.at 5 rfl; have fR5 := R2.out.free 5 rfl; have cR6 := R2.out.at 6 rfl; have fR6 := R2.out.free 6 rfl))
          go_wp2
          refine bodyPost_ret (v := .agg #[.int .i64 0, .int .i64 0, .int .i64 (s : Int), .int .i64 m, .int .i64 o, .int .i64 (f 1), .slice g s cg]) (by simp [results, Try.results202, go_sem, cR0, cR1, cR2, cR3, cR4, cR5, cR6]) rfl ⟨?_, .inl ⟨hg.out, g, cg, by rw [HSZ.out, HES.out, HEM.out, HEO.out], ?_⟩⟩
          · repeat (first | (with_reducible refine Below.setCell ?_ (by (try simp); (try omega)) _) | (with_reducible refine Below.alloc ?_ (by (try simp); (try omega)) _) | (with_reducible refine Below.drew ?_))
            exact HB2.out
          · rw [HSZ.out]
            refine Own.mono (B := w.heap.size + 2) ?_ (by omega)
            repeat (first | (with_reducible refine Own.setCell ?_ (by (try simp); (try omega)) _) | (with_reducible refine Own.alloc ?_ _) | (with_reducible refine Own.drew ?_))
            exact HO.out
      · have hs12' := hs12
        have hb : Hid (¬ Good f n 0) := Lib.hid (fun h => by have h3 := h.2.2; unfold szOf at h3; omega)
        have hd : (n : Int) - 2 < f 0 / 2 % 16 := by omega
        have lR := R_1.out.1; have cR0 := R_1.out.at 0 rfl; have fR0 := R_1.out.free 0 rfl; have cR1 := R_1.out.at 1 rfl; have fR1 := R_1.out.free 1 rfl; have cR2 := R_1.out.at 2 rfl; have fR2 := R_1.out.free 2 rfl; have cR3 := R_1.out.at 3 rfl; have fR3 := R_1.out.free 3 rfl; have cR4 := R_1.out.at 4 rfl; have fR4 := R_1.out.free 4 rfl; have cR5 := R_1.out.at 5 rfl; have fR5 := R_1.out.free 5 rfl; have cR6 := R_1.out.at 6 rfl; have fR6 := R_1.out.free 6 rfl
        go_wp2
        refine bodyPost_ret (v := .agg #[.int .i64 1, .int .i64 0, .int .i64 0, .int .i64 0, .int .i64 0, .int .i64 0, .slice none 0 0]) (by simp [results, Try.results202, go_sem, lR, cR0, cR1, cR2, cR3, cR4, cR5, cR6]) rfl ⟨?_, .inr ⟨hb.out, rfl⟩⟩
        repeat (first | (with_reducible refine Below.setCell ?_ (by (try simp); (try omega)) _) | (with_reducible refine Below.alloc ?_ (by (try simp); (try omega)) _) | (with_reducible refine Below.drew ?_))
        exact HB1.out
    · have HK := Lib.hid hk
      clear hk
      have hb : Hid (¬ Good f n 0) := Lib.hid (fun h => HK.out h.2.1)
      go_enter Try.func202, Try.ntmps202
      go_wp2_with fail

      refine (implRH_any (some ⟨b, off, none⟩) 2 c f 1 0 0 0 0 _ (S2.out.alloc _) (by omega) (.inr (.inr ⟨rfl, HK.out, rfl, rfl, rfl, rfl, rfl⟩))).mono ?_
      rintro e w1 ⟨rfl, hb⟩
      have HB1 := Lib.hid (thru1 (Below.refl _ _) hb)
      have R_1 := Lib.hid ((Blk.new_at (w := w) (cs := #[.int .i64 0, .int .i64 0, .int .i64 0, .int .i64 0, .int .i64 0, .int .i64 0, .slice none 0 0]) (t := 233) (w.heap.size) rfl).below hb)
      have S1 := Lib.hid ((S.out.alloc _).below hb)
      have z1 : w.heap.size + 1 ≤ w1.heap.size := by have := hb.size; simp at this; omega
      clear hb
      have lR := R_1.out.1; have cR0 := R_1.out.at 0 rfl; have fR0 := R_1.out.free 0 rfl; have cR1 := R_1.out.at 1 rfl; have fR1 := R_1.out.free 1 rfl; have cR2 := R_1.out.at 2 rfl; have fR2 := R_1.out.free 2 rfl; have cR3 := R_1.out.at 3 rfl; have fR3 := R_1.out.free 3 rfl; have cR4 := R_1.out.at 4 rfl; have fR4 := R_1.out.free 4 rfl; have cR5 := R_1.out.at 5 rfl; have fR5 := R_1.out.free 5 rfl; have cR6 := R_1.out.at 6 rfl; have fR6 := R_1.out.free 6 rfl
      go_wp2
      refine bodyPost_ret (v := .agg #[.int .i64 1, .int .i64 0, .int .i64 0, .int .i64 0, .int .i64 0, .int .i64 0, .slice none 0 0]) (by simp [results, Try.results202, go_sem, lR, cR0, cR1, cR2, cR3, cR4, cR5, cR6]) rfl ⟨?_, .inr ⟨hb.out, rfl⟩⟩
      repeat (first | (with_reducible refine Below.setCell ?_ (by (try simp); (try omega)) _) | (with_reducible refine Below.alloc ?_ (by (try simp); (try omega)) _) | (with_reducible refine Below.drew ?_))
      exact HB1.out
end Go.Proofs.Ytbhjmomphajnnaa

namespace Go.Proofs.Ytbhjmomphajnnaa
open Go.RowKit
set_option linter.unusedVariables false

/-- An object is found in a row, or there is none. -/
def RetFound (W : World) (N : Nat) (T : Nat → GM) (x : Int) (e : Ending) (w' : World) : Prop :=
  Below W.heap.size W w' ∧ ((∃ i, i < N ∧ (T i).at_ = x ∧ e = .returned (.agg #[.int .i64 0, .int .i64 (T i).at_, .int .i64 (T i).s, .int .i64 (T i).m, .int .i64 (T i).o, .int .i64 (T i).h, .slice (T i).a (T i).n (T i).c])) ∨ ((∀ i, i < N → ¬ (T i).at_ = x) ∧ e = .returned (.agg #[.int .i64 4, .int .i64 0, .int .i64 0, .int .i64 0, .int .i64 0, .int .i64 0, .slice none 0 0])))

set_option maxRecDepth 100000 in
set_option maxHeartbeats 1600000 in
theorem find_any (a : Option Addr) (N k : Nat) (T : Nat → GM) (x : Int) (w : World) (hg : GV w a N T) (hN : N ≤ 1048576) (hm : ∀ i j, i < j → j < N → (T i).at_ < (T j).at_) :
    Calls Try.prog 185 #[.slice a N k, .int .i64 x] w (RetFound w N T x) := by
  have G := Lib.hid hg; have HM := Lib.hid hm
  clear hg hm
  go_enter Try.func185, Try.ntmps185
  go_wp2_with fail
  refine (bs_any a N k T x _ (G.out.alloc _) hN HM.out).mono ?_
  rintro e w1 ⟨i, hi, hc, rfl, hb⟩
  have HB1 := Lib.hid (thru1 (Below.refl _ _) hb)
  have R_1 := Lib.hid ((Blk.new_at (w := w) (cs := #[.int .i64 0, .int .i64 0, .int .i64 0, .int .i64 0, .int .i64 0, .int .i64 0, .slice none 0 0]) (t := 233) (w.heap.size) rfl).below hb)
  have G1 := Lib.hid ((G.out.alloc _).below hb)
  have z1 : w.heap.size + 1 ≤ w1.heap.size := by have := hb.size; simp at this; omega
  clear hb
  have HC := Lib.hid hc
  clear hc
  by_cases hx : i < N ∧ (T i).at_ = x
  · rw [decide_eq_true hx]
    obtain ⟨b, q, rfl, gs⟩ : ∃ b q, a = some ⟨b, q, none⟩ ∧ GSrc w1 b q N T := by
      rcases G1.out with h0 | h
      · omega
      · exact h
    have HS := Lib.hid (gs.six i hx.1)
    clear gs
    have hi' : (i : Int) < (N : Int) := by omega
    have hi0 : (0 : Int) ≤ (i : Int) := by omega
    obtain ⟨t, ht⟩ : ∃ t, T i = t := ⟨_, rfl⟩
    have HP : Hid (∃ i, i < N ∧ (T i).at_ = x ∧ Ending.returned (.agg #[.int .i64 0, .int .i64 t.at_, .int .i64 t.s, .int .i64 t.m, .int .i64 t.o, .int .i64 t.h, .slice t.a t.n t.c]) = Ending.returned (.agg #[.int .i64 0, .int .i64 (T i).at_, .int .i64 (T i).s, .int .i64 (T i).m, .int .i64 (T i).o, .int .i64 (T i).h, .slice (T i).a (T i).n (T i).c])) := Lib.hid ⟨i, hx.1, hx.2, by rw [ht]⟩
    have HS' : Hid (SixG w1 b (q + i * 6) t) := Lib.hid (by rw [← ht]; exact HS.out)
    clear HS hx ht HC
    obtain ⟨s0, s1, s2, s3, s4, s5⟩ := HS'.out
    have lR := R_1.out.1; have cR0 := R_1.out.at 0 rfl; have fR0 := R_1.out.free 0 rfl; have cR1 := R_1.out.at 1 rfl; have fR1 := R_1.out.free 1 rfl; have cR2 := R_1.out.at 2 rfl; have fR2 := R_1.out.free 2 rfl; have cR3 := R_1.out.at 3 rfl; have fR3 := R_1.out.free 3 rfl; have cR4 := R_1.out.at 4 rfl; have fR4 := R_1.out.free 4 rfl; have cR5 := R_1.out.at 5 rfl; have fR5 := R_1.out.free 5 rfl; have cR6 := R_1.out.at 6 rfl; have fR6 := R_1.out.free 6 rfl
    go_wp2
    refine bodyPost_ret (v := .agg #[.int .i64 0, .int .i64 t.at_, .int .i64 t.s, .int .i64 t.m, .int .i64 t.o, .int .i64 t.h, .slice t.a t.n t.c]) (by simp [results, Try.results185, go_sem, cR0, cR1, cR2, cR3, cR4, cR5, cR6]) rfl ⟨?_, .inl HP.out⟩
    repeat (first | (with_reducible refine Below.setCell ?_ (by (try simp); (try omega)) _) | (with_reducible refine Below.alloc ?_ (by (try simp); (try omega)) _) | (with_reducible refine Below.drew ?_))
    exact HB1.out
  · rw [decide_eq_false hx]
    have HP : Hid (∀ i, i < N → ¬ (T i).at_ = x) := Lib.hid (fun j hj he => by
      rcases Nat.lt_or_ge j i with h | h
      · have := HC.out.1 j h; omega
      · have h2 := HC.out.2 i (Nat.le_refl _) (by omega)
        rcases Nat.lt_or_ge i j with h3 | h3
        · have := HM.out i j h3 hj; omega
        · exact hx ⟨by omega, by rw [show i = j by omega]; exact he⟩)
    clear hx HC
    have lR := R_1.out.1; have cR0 := R_1.out.at 0 rfl; have fR0 := R_1.out.free 0 rfl; have cR1 := R_1.out.at 1 rfl; have fR1 := R_1.out.free 1 rfl; have cR2 := R_1.out.at 2 rfl; have fR2 := R_1.out.free 2 rfl; have cR3 := R_1.out.at 3 rfl; have fR3 := R_1.out.free 3 rfl; have cR4 := R_1.out.at 4 rfl; have fR4 := R_1.out.free 4 rfl; have cR5 := R_1.out.at 5 rfl; have fR5 := R_1.out.free 5 rfl; have cR6 := R_1.out.at 6 rfl; have fR6 := R_1.out.free 6 rfl
    go_wp2
    refine bodyPost_ret (v := .agg #[.int .i64 4, .int .i64 0, .int .i64 0, .int .i64 0, .int .i64 0, .int .i64 0, .slice none 0 0]) (by simp [results, Try.results185, go_sem, cR0, cR1, cR2, cR3, cR4, cR5, cR6]) rfl ⟨?_, .inr ⟨HP.out, rfl⟩⟩
    repeat (first | (with_reducible refine Below.setCell ?_ (by (try simp); (try omega)) _) | (with_reducible refine Below.alloc ?_ (by (try simp); (try omega)) _) | (with_reducible refine Below.drew ?_))
    exact HB1.out
end Go.Proofs.Ytbhjmomphajnnaa

namespace Go.Proofs.Ytbhjmomphajnnaa
open Go.RowKit
set_option linter.unusedVariables false

/-- A field as the program has it. -/
def fieldV (r : Bool) (v : Int) : Value := .iface (if r then 263 else 300) (.int .i64 v)

set_option maxRecDepth 100000 in
set_option maxHeartbeats 800000 in
theorem fieldOf_any (s m o h i v : Int) (r : Bool) (w : World) (hk : IsIP s m o h i r) : Calls Try.prog 200 #[.agg #[.int .i64 s, .int .i64 m, .int .i64 o, .int .i64 h], .int .i64 i, .int .i64 v] w (fun e w' => e = .returned (fieldV r v) ∧ Below w.heap.size w w') := by
  have HK := Lib.hid hk
  clear hk
  go_enter Try.func200, Try.ntmps200
  go_wp2_with fail
  refine (implIP_any s m o h i r _ HK.out).mono ?_
  rintro e w1 ⟨rfl, hb⟩
  have HB1 := Lib.hid (thru1 (Below.refl _ _) hb)
  clear hb
  cases r
  all_goals
    go_wp2
    go_ret
    exact ⟨rfl, HB1.out⟩

set_option maxRecDepth 100000 in
theorem place_any (v : Int) (w : World) (h1 : -1000000000 ≤ v) (h2 : v ≤ 1000000000) : Calls Try.prog 226 #[.int .i64 v] w (fun e w' => e = .returned (.int .i64 (v - 1)) ∧ Below w.heap.size w w') := by
  go_enter Try.func226, Try.ntmps226
  go_wp2
  go_ret
  exact ⟨rfl, Below.refl _ _⟩

set_option maxRecDepth 100000 in
theorem word_ptr (v : Int) (w : World) : Calls Try.prog 190 #[.int .i64 v] w (fun e w' => e = .returned (.int .i64 v) ∧ Below w.heap.size w w') := by
  go_enter Try.func190, Try.ntmps190
  go_wp2
  go_ret
  exact ⟨rfl, Below.refl _ _⟩

theorem as_ptr (v : Value) (w : World) : (Instr.typeAssert (.iface 263 v) 274 263 true).run Try.prog w = .ok (.tuple #[v, .bool true]) w := by kernel_rfl

theorem as_plain (v : Value) (w : World) : (Instr.typeAssert (.iface 300 v) 274 263 true).run Try.prog w = .ok (.tuple #[.int .i64 0, .bool false]) w := by kernel_rfl

set_option maxRecDepth 100000 in
set_option maxHeartbeats 800000 in
theorem may_plain (ob : Value) (owner v : Int) (w : World) : Calls Try.prog 199 #[ob, .int .i64 owner, .iface 300 (.int .i64 v)] w (RetBool w true) := by
  have ha := as_plain
  go_enter Try.func199, Try.ntmps199
  go_wp2
  go_ret
  exact ⟨rfl, Below.refl _ _⟩

/-- Whether a field of an object of this owner may be v. -/
def MayG (N : Nat) (T : Nat → GM) (owner v : Int) : Prop := v = 0 ∨ ∃ i, i < N ∧ (T i).at_ = v - 1 ∧ (T i).o = owner

set_option maxRecDepth 100000 in
set_option maxHeartbeats 1600000 in
theorem may_ptr (a : Option Addr) (N k : Nat) (T : Nat → GM) (owner v : Int) (r : Bool) (w : World) (hg : GV w a N T) (hN : N ≤ 1048576) (hm : ∀ i j, i < j → j < N → (T i).at_ < (T j).at_) (h1 : -1000000000 ≤ v) (h2 : v ≤ 1000000000) (hr : r = true ↔ MayG N T owner v) :
    Calls Try.prog 199 #[.slice a N k, .int .i64 owner, .iface 263 (.int .i64 v)] w (RetBool w r) := by
  have G := Lib.hid hg; have HM := Lib.hid hm; have HR := Lib.hid hr
  clear hg hm hr
  by_cases h0 : v = 0
  · obtain rfl : r = true := HR.out.2 (.inl h0)
    have ha := as_ptr
    go_enter Try.func199, Try.ntmps199
    go_wp2
    go_ret
    exact ⟨rfl, Below.refl _ _⟩
  · have hr0 : r = true ↔ ∃ i, i < N ∧ (T i).at_ = v - 1 ∧ (T i).o = owner := ⟨fun h => (HR.out.1 h).resolve_left h0, fun h => HR.out.2 (.inr h)⟩
    have HR0 := Lib.hid hr0
    clear hr0 HR
    have ha := as_ptr
    go_enter Try.func199, Try.ntmps199
    go_wp2_with (go_at_call 226; refine (place_any v _ h1 h2).mono ?_; rintro e w1 ⟨rfl, hb1⟩; have G1 := Lib.hid (G.out.below hb1); have HB1 := Lib.hid hb1; clear hb1)
    refine (find_any a N k T (v - 1) _ G1.out hN HM.out).mono ?_
    rintro e w2 ⟨hb, hc⟩
    have HB2 := Lib.hid (HB1.out.trans (hb.mono HB1.out.size))
    clear hb
    rcases hc with ⟨i, hi, hx, rfl⟩ | ⟨hx, rfl⟩
    · have hu : ∀ j, j < N → (T j).at_ = v - 1 → j = i := fun j hj hjx => by
        rcases Nat.lt_trichotomy i j with h | h | h
        · have := HM.out i j h hj; omega
        · exact h.symm
        · have := HM.out j i h hi; omega
      have HV : Hid (decide ((T i).o = owner) = r) := Lib.hid (by
        cases r with
        | true => obtain ⟨j, hj, hjx, ho⟩ := HR0.out.1 rfl; rw [← hu j hj hjx]; exact decide_eq_true ho
        | false => exact decide_eq_false fun h => by have := HR0.out.2 ⟨i, hi, hx, h⟩; cases this)
      clear hu
      go_wp2
      go_ret
      exact ⟨by rw [← HV.out]; (first | rfl | (simp; done) | (trace_state; fail)), HB2.out.alloc HB2.out.size _⟩
    · have hf : r = false := by
        cases r with
        | false => rfl
        | true => obtain ⟨j, hj, hjx, ho⟩ := HR0.out.1 rfl; exact absurd hjx (hx j hj)
      subst hf
      clear hx
      go_wp2
      go_ret
      exact ⟨rfl, HB2.out.alloc HB2.out.size _⟩
end Go.Proofs.Ytbhjmomphajnnaa

namespace Go.Proofs.Ytbhjmomphajnnaa
open Go.RowKit
set_option linter.unusedVariables false

/-- What heads and words the objects of a row have. -/
def Heads (N : Nat) (T : Nat → GM) : Prop := ∀ i, i < N → HOk (T i).s (T i).m (T i).o (T i).h ∧ (T i).n = (T i).s.toNat ∧ ∀ k, k < (T i).n → -1000000000 ≤ (T i).f k ∧ (T i).f k ≤ 1000000000

/-- Each pointer may be there. -/
def PtG (N : Nat) (T : Nat → GM) : Prop := ∀ i, i < N → ∀ k : Nat, k < (T i).n → (T i).m / P2 k % 2 = 1 → MayG N T (T i).o ((T i).f k)

theorem mid4 {w : World} {b : Nat} {v0 v1 v2 v3 v4 v5 : Value} (h : Blk w b [v0, v1, v2, v3, v4, v5]) : w.cell? ⟨b, 1, none⟩ = some v1 ∧ w.cell? ⟨b, 2, none⟩ = some v2 ∧ w.cell? ⟨b, 3, none⟩ = some v3 ∧ w.cell? ⟨b, 4, none⟩ = some v4 := ⟨h.at 1 rfl, h.at 2 rfl, h.at 3 rfl, h.at 4 rfl⟩

set_option maxRecDepth 100000 in
set_option maxHeartbeats 3200000 in
theorem stray_any (a : Option Addr) (N kk : Nat) (T : Nat → GM) (r : Bool) (w : World) (hg : GV w a N T) (hN : N ≤ 1048576) (hm : ∀ i j, i < j → j < N → (T i).at_ < (T j).at_) (hh : Heads N T) (hr : r = true ↔ ¬ PtG N T) :
    Calls Try.prog 144 #[.slice a N kk] w (RetBool w r) := by
  have G := Lib.hid hg; have HM := Lib.hid hm; have HH := Lib.hid hh; have HR := Lib.hid hr
  clear hg hm hh hr
  go_enter Try.func144, Try.ntmps144
  go_wp2
  go_loopw [9] (fun p wr => ∃ i : Nat, i ≤ N ∧ p = .int .i64 (i : Int) ∧ Hid (Below w.heap.size w wr) ∧ Hid (∀ j, j < i → ∀ k : Nat, k < (T j).n → (T j).m / P2 k % 2 = 1 → MayG N T (T j).o ((T j).f k))) (fun p _ => N - (intOf p).toNat)
  case atStart => exact ⟨0, Nat.zero_le _, rfl, Below.refl _ _, Lib.hid (fun j hj => by omega)⟩
  case round =>
    obtain ⟨i, hi, rfl, HBr, HPT⟩ := hrel
    by_cases hlt : i < N
    · have hlt' : (i : Int) < (N : Int) := by omega
      have hi0 : (0 : Int) ≤ (i : Int) := by omega
      obtain ⟨b, q, rfl, gs⟩ : ∃ b q, a = some ⟨b, q, none⟩ ∧ GSrc w b q N T := by
        rcases G.out with h0 | h
        · omega
        · exact h
      have six := (gs.six i hlt).below HBr.out gs.lt
      have src := (gs.flds i hlt).below HBr.out
      have hhd := HH.out i hlt
      have hpi : Hid (∀ r : Prop, (∀ k : Nat, k < (T i).n → (T i).m / P2 k % 2 = 1 → MayG N T (T i).o ((T i).f k)) → (∀ j, j < i + 1 → ∀ k : Nat, k < (T j).n → (T j).m / P2 k % 2 = 1 → MayG N T (T j).o ((T j).f k))) := Lib.hid (fun _ h j hj => by
        rcases Nat.lt_succ_iff_lt_or_eq.mp hj with h' | h'
        · exact HPT.out j h'
        · subst h'; exact h)
      have hbad : Hid (∀ k : Nat, k < (T i).n → (T i).m / P2 k % 2 = 1 → ¬ MayG N T (T i).o ((T i).f k) → r = true) := Lib.hid (fun k h1 h2 h3 => HR.out.2 fun hp => h3 (hp i hlt k h1 h2))
      obtain ⟨t, ht⟩ : ∃ t, T i = t := ⟨_, rfl⟩
      rw [ht] at six src hhd hpi hbad
      have HT := Lib.hid ht
      clear ht gs
      obtain ⟨hok, htn, hwd⟩ := hhd
      have ht12 : t.n ≤ 12 := by have := hok.1; omega
      have hst : t.s = (t.n : Int) := by have := hok.1; omega
      have HOK := Lib.hid hok; have HWD := Lib.hid hwd; have HS := Lib.hid six; have SR := Lib.hid src; have HTN := Lib.hid htn; have HST := Lib.hid hst
      clear hok hwd six src htn hst
      obtain ⟨s0, s1, s2, s3, s4, s5⟩ := HS.out
      obtain ⟨B, hB⟩ : ∃ B, wr.heap.size = B := ⟨_, rfl⟩
      have HX0 : Hid (Blk (wr.alloc (.cells #[.int .i64 t.at_, .int .i64 t.s, .int .i64 t.m, .int .i64 t.o, .int .i64 t.h, .slice t.a t.n t.c] 111)) B [.int .i64 t.at_, .int .i64 t.s, .int .i64 t.m, .int .i64 t.o, .int .i64 t.h, .slice t.a t.n t.c]) := Lib.hid (by rw [← hB]; exact Blk.new _ _ _)
      have HB0 := Lib.hid (HBr.out.alloc HBr.out.size (.cells #[.int .i64 t.at_, .int .i64 t.s, .int .i64 t.m, .int .i64 t.o, .int .i64 t.h, .slice t.a t.n t.c] 111))
      have SR0 := Lib.hid (SR.out.alloc (.cells #[.int .i64 t.at_, .int .i64 t.s, .int .i64 t.m, .int .i64 t.o, .int .i64 t.h, .slice t.a t.n t.c] 111))
      have hBw : w.heap.size ≤ B := by have := HBr.out.size; omega
      have HBE := Lib.hid hB
      clear hB SR HS
      go_wp2
      clear s0 s1 s2 s3 s4 s5
      rw [HBE.out]
      generalize wr.alloc (.cells #[.int .i64 t.at_, .int .i64 t.s, .int .i64 t.m, .int .i64 t.o, .int .i64 t.h, .slice t.a t.n t.c] 111) = W1 at *
      go_loopw [16] (fun p wq => ∃ k : Nat, k ≤ t.n ∧ p = .int .i64 (k : Int) ∧ Hid (Below w.heap.size w wq) ∧ Hid (Blk wq B [.int .i64 t.at_, .int .i64 t.s, .int .i64 t.m, .int .i64 t.o, .int .i64 t.h, .slice t.a t.n t.c]) ∧ Hid (Src wq t.a t.n t.f) ∧ Hid (∀ k' : Nat, k' < k → t.m / P2 k' % 2 = 1 → MayG N T t.o (t.f k'))) (fun p _ => t.n - (intOf p).toNat)
      case atStart => exact ⟨0, Nat.zero_le _, rfl, HB0, HX0, SR0, Lib.hid (fun k hk => by omega)⟩
      clear HB0 HX0 SR0 HBr
      case round =>
        obtain ⟨k, hk, rfl, HBq, X, SQ, HPK⟩ := hrel
        by_cases hks : k < t.n
        · have hks' : (k : Int) < (t.n : Int) := by omega
          have hk0 : (0 : Int) ≤ (k : Int) := by omega
          obtain ⟨hwk1, hwk2⟩ := HWD.out k hks
          have Xd := Lib.hid X.out.drew; have Gd := Lib.hid ((G.out.below HBq.out).drew); have HBd := Lib.hid HBq.out.drew
          obtain ⟨tb, tf, hta, ltb, cfk⟩ : ∃ tb tf, t.a = some ⟨tb, tf, none⟩ ∧ tb < wr.heap.size ∧ wr.cell? ⟨tb, tf + k, none⟩ = some (.int .i64 (t.f k)) := by
            rcases SQ.out with h0 | ⟨tb, tf, h1, h2, h3⟩
            · omega
            · exact ⟨tb, tf, h1, h2, h3 k hks⟩
          have HTA := Lib.hid hta
          have hkI : (0 : Int) ≤ (k : Int) ∧ (k : Int) ≤ t.s - 1 := by have := HST.out; omega
          by_cases hd : t.m / P2 k % 2 = 1
          · have HIP : Hid (IsIP t.s t.m t.o t.h (k : Int) true) := Lib.hid (.inl ⟨⟨HOK.out, hkI⟩, by rw [hd]; rfl⟩)
            have HD := Lib.hid hd
            clear hd hkI
            by_cases hmay : MayG N T t.o (t.f k)
            · have HMY := Lib.hid hmay
              clear hmay
              rw [hta] at X SQ Xd ⊢
              go_wp2_with fail
              go_region_held3 (fun w' => w'.cell? ⟨B, 1, none⟩ = some (.int .i64 t.s) ∧ w'.cell? ⟨B, 2, none⟩ = some (.int .i64 t.m) ∧ w'.cell? ⟨B, 3, none⟩ = some (.int .i64 t.o) ∧ w'.cell? ⟨B, 4, none⟩ = some (.int .i64 t.h))
                (first | (with_reducible exact mid4 X.out) | (with_reducible exact mid4 Xd.out) | (with_reducible exact mid4 X2.out) | (with_reducible exact mid4 X3.out))
                (first | (go_at_call 200; (refine (fieldOf_any t.s t.m t.o t.h (k : Int) (t.f k) true _ HIP.out).mono ?_; rintro e w2 ⟨rfl, hb⟩; have HB2 := Lib.hid (HBd.out.trans (hb.mono HBd.out.size)); have X2 := Lib.hid (Xd.out.below hb); have C2 := Lib.hid ((Below.refl wr.heap.size wr).drew.trans hb); have G2 := Lib.hid (Gd.out.below hb); clear hb)) | (go_at_call 199; refine (may_ptr (some ⟨b, q, none⟩) N kk T t.o (t.f k) true _ G2.out hN HM.out hwk1 hwk2 ⟨fun _ => HMY.out, fun _ => rfl⟩).mono ?_; rintro e w3 ⟨rfl, hb⟩; have HB3 := Lib.hid (HB2.out.trans (hb.mono HB2.out.size)); have X3 := Lib.hid (X2.out.below hb); have SQ3 := Lib.hid (SQ.out.below (C2.out.trans (hb.mono C2.out.size))); clear hb))
              go_wp2
              go_roundw
              case rel => exact ⟨k + 1, by omega, by go_num, HB3, X3, SQ3, Lib.hid (fun k' hk' hb' => by rcases Nat.lt_succ_iff_lt_or_eq.mp hk' with h' | h'; exact HPK.out k' h' hb'; subst h'; exact HMY.out)⟩
              case measure => simp [intOf]; omega
            · have HMAY : Hid (false = true ↔ MayG N T t.o (t.f k)) := Lib.hid ⟨fun h => (by cases h), fun h => absurd h hmay⟩
              have hrt := hbad.out k hks HD.out hmay
              subst hrt
              clear hmay
              rw [hta] at X SQ Xd ⊢
              go_wp2_with fail
              go_region_held3 (fun w' => w'.cell? ⟨B, 1, none⟩ = some (.int .i64 t.s) ∧ w'.cell? ⟨B, 2, none⟩ = some (.int .i64 t.m) ∧ w'.cell? ⟨B, 3, none⟩ = some (.int .i64 t.o) ∧ w'.cell? ⟨B, 4, none⟩ = some (.int .i64 t.h))
                (first | (with_reducible exact mid4 X.out) | (with_reducible exact mid4 Xd.out) | (with_reducible exact mid4 X2.out) | (with_reducible exact mid4 X3.out))
                (first | (go_at_call 200; (refine (fieldOf_any t.s t.m t.o t.h (k : Int) (t.f k) true _ HIP.out).mono ?_; rintro e w2 ⟨rfl, hb⟩; have HB2 := Lib.hid (HBd.out.trans (hb.mono HBd.out.size)); have X2 := Lib.hid (Xd.out.below hb); have C2 := Lib.hid ((Below.refl wr.heap.size wr).drew.trans hb); have G2 := Lib.hid (Gd.out.below hb); clear hb)) | (go_at_call 199; refine (may_ptr (some ⟨b, q, none⟩) N kk T t.o (t.f k) false _ G2.out hN HM.out hwk1 hwk2 HMAY.out).mono ?_; rintro e w3 ⟨rfl, hb⟩; have HB3 := Lib.hid (HB2.out.trans (hb.mono HB2.out.size)); have X3 := Lib.hid (X2.out.below hb); have SQ3 := Lib.hid (SQ.out.below (C2.out.trans (hb.mono C2.out.size))); clear hb))
              go_wp2
              go_ret
              exact ⟨rfl, HB3.out⟩
          · have HIP : Hid (IsIP t.s t.m t.o t.h (k : Int) false) := Lib.hid (.inl ⟨⟨HOK.out, hkI⟩, by symm; simpa using hd⟩)
            have HD := Lib.hid hd
            clear hd hkI
            rw [hta] at X SQ Xd ⊢
            go_wp2_with fail
            go_region_held3 (fun w' => w'.cell? ⟨B, 1, none⟩ = some (.int .i64 t.s) ∧ w'.cell? ⟨B, 2, none⟩ = some (.int .i64 t.m) ∧ w'.cell? ⟨B, 3, none⟩ = some (.int .i64 t.o) ∧ w'.cell? ⟨B, 4, none⟩ = some (.int .i64 t.h))
              (first | (with_reducible exact mid4 X.out) | (with_reducible exact mid4 Xd.out) | (with_reducible exact mid4 X2.out) | (with_reducible exact mid4 X3.out))
              (first | (go_at_call 200; (refine (fieldOf_any t.s t.m t.o t.h (k : Int) (t.f k) false _ HIP.out).mono ?_; rintro e w2 ⟨rfl, hb⟩; have HB2 := Lib.hid (HBd.out.trans (hb.mono HBd.out.size)); have X2 := Lib.hid (Xd.out.below hb); have C2 := Lib.hid ((Below.refl wr.heap.size wr).drew.trans hb); have G2 := Lib.hid (Gd.out.below hb); clear hb)) | (go_at_call 199; refine (may_plain _ t.o (t.f k) _).mono ?_; rintro e w3 ⟨rfl, hb⟩; have HB3 := Lib.hid (HB2.out.trans (hb.mono HB2.out.size)); have X3 := Lib.hid (X2.out.below hb); have SQ3 := Lib.hid (SQ.out.below (C2.out.trans (hb.mono C2.out.size))); clear hb))
            go_wp2
            go_roundw
            case rel => exact ⟨k + 1, by omega, by go_num, HB3, X3, SQ3, Lib.hid (fun k' hk' hb' => by rcases Nat.lt_succ_iff_lt_or_eq.mp hk' with h' | h'; exact HPK.out k' h' hb'; subst h'; exact absurd hb' HD.out)⟩
            case measure => simp [intOf]; omega
        · have hks' : ¬ (k : Int) < (t.n : Int) := by omega
          have hpi' := Lib.hid (hpi.out True (fun k' h1 h2 => HPK.out k' (by omega) h2))
          go_wp2
          go_roundw
          case rel => exact ⟨i + 1, by omega, by go_num, HBq, hpi'⟩
          case measure => simp [intOf]; omega
    · have hlt' : ¬ (i : Int) < (N : Int) := by omega
      have hrf : r = false := by
        cases r with
        | false => rfl
        | true => exact absurd (fun j hj => HPT.out j (by omega)) (HR.out.1 rfl)
      subst hrf
      go_wp2
      go_ret
      exact ⟨rfl, HBr.out⟩
end Go.Proofs.Ytbhjmomphajnnaa

namespace Go.Proofs.Ytbhjmomphajnnaa
open Go.RowKit
set_option linter.unusedVariables false

set_option maxRecDepth 100000 in
set_option maxHeartbeats 1600000 in
theorem strayw_any (h ac bu : Int) (a : Option Addr) (n c : Nat) (f : Nat → Int) (r : Bool) (w : World) (hs : Src w a n f) (hk : IsFault h n f ac bu 0) (hr : r = true ↔ ¬ Rest f n (baseI ac h).toNat bu.toNat) :
    Calls Try.prog 145 #[.agg #[.int .i64 h, .slice a n c, .int .i64 ac, .int .i64 bu]] w (RetBool w r) := by
  obtain ⟨⟨⟨g1, g2⟩, ⟨g3, g4⟩, g5, g6⟩, gn, gw⟩ := isFault_ok hk
  have hb0 : 0 ≤ baseI ac h ∧ baseI ac h ≤ h := by rcases (by omega : ac = 0 ∨ ac = 1) with rfl | rfl <;> simp [baseI] <;> omega
  obtain ⟨P, hP⟩ : ∃ P : Nat, baseI ac h = (P : Int) := ⟨(baseI ac h).toNat, by omega⟩
  obtain ⟨U, rfl⟩ : ∃ U : Nat, bu = (U : Int) := ⟨bu.toNat, by omega⟩
  rw [hP, Int.toNat_natCast, Int.toNat_natCast] at hr
  have hP2 : (P : Int) + (U : Int) ≤ 400 := by omega
  have hP3 : (P : Int) ≤ 200 := by omega
  have hU3 : (U : Int) ≤ 200 := by omega
  have hn4 : (n : Int) ≤ 400 := by omega
  have HS := Lib.hid hs; have HR := Lib.hid hr; have HP := Lib.hid hP
  clear hs hk hr hP gw g5 hb0
  go_enter Try.func145, Try.ntmps145
  go_wp2_with fail
  refine (baseOf_any h ac (U : Int) a n c _ g1 g2 g3 g4).mono ?_
  rintro e w1 ⟨rfl, hb⟩
  rw [HP.out]
  have HB1 := Lib.hid (thru1 (Below.refl _ _) hb)
  have A_1 := Lib.hid ((Blk.new_at (w := w) (cs := #[.int .i64 h, .slice a n c, .int .i64 ac, .int .i64 (U : Int)]) (t := 26) (w.heap.size) rfl).below hb)
  have S_1 := Lib.hid ((HS.out.alloc _).below hb)
  clear hb g1 g2 g3 g4 g6 gn
  have lA := A_1.out.1; have cA0 := A_1.out.at 0 rfl; have fA0 := A_1.out.free 0 rfl; have cA1 := A_1.out.at 1 rfl; have fA1 := A_1.out.free 1 rfl; have cA2 := A_1.out.at 2 rfl; have fA2 := A_1.out.free 2 rfl; have cA3 := A_1.out.at 3 rfl; have fA3 := A_1.out.free 3 rfl
  go_wp2
  clear lA cA0 fA0 cA1 fA1 cA2 fA2 cA3 fA3
  go_loopw [13] (fun p wr => ∃ j : Nat, j ≤ n ∧ p = .int .i64 (j : Int) ∧ Hid (Below w1.heap.size w1 wr) ∧ Hid (∀ k, k < j → ¬ (P ≤ k ∧ k < P + U) → f k = 0)) (fun p _ => n - (intOf p).toNat)
  case atStart => exact ⟨0, Nat.zero_le _, rfl, Below.refl _ _, Lib.hid (fun k hk => by omega)⟩
  case round =>
    obtain ⟨j, hj, rfl, HBq, HRS⟩ := hrel
    have HBr := Lib.hid (HB1.out.trans (HBq.out.mono HB1.out.size))
    by_cases hlt : j < n
    · have hlt' : (j : Int) < (n : Int) := by omega
      have hj0 : (0 : Int) ≤ (j : Int) := by omega
      have A_q := Lib.hid (A_1.out.below HBq.out)
      have cA3 := A_q.out.at 3 rfl
      have SQ := Lib.hid (S_1.out.below HBq.out)
      obtain ⟨tb, tf, rfl, ltb, cfk⟩ : ∃ tb tf, a = some ⟨tb, tf, none⟩ ∧ tb < wr.heap.size ∧ wr.cell? ⟨tb, tf + j, none⟩ = some (.int .i64 (f j)) := by
        rcases SQ.out with h0 | ⟨tb, tf, h1, h2, h3⟩
        · omega
        · exact ⟨tb, tf, h1, h2, h3 j hlt⟩
      have hPn : (0 : Int) ≤ (P : Int) := by omega
      have hUn : (0 : Int) ≤ (U : Int) := by omega
      by_cases h1 : (P : Int) ≤ (j : Int)
      · by_cases h2 : (j : Int) < (P : Int) + (U : Int)
        · have HIN := Lib.hid (show P ≤ j ∧ j < P + U by omega)
          go_wp2
          go_roundw
          case rel => exact ⟨j + 1, by omega, by go_num, HBq, Lib.hid (fun k hk hb => by rcases Nat.lt_succ_iff_lt_or_eq.mp hk with h' | h'; exact HRS.out k h' hb; subst h'; exact absurd HIN.out hb)⟩
          case measure => simp [intOf]; omega
        · have hni : ¬ (P ≤ j ∧ j < P + U) := by omega
          by_cases hz : f j = 0
          · have HZ := Lib.hid hz
            go_wp2
            go_roundw
            case rel => exact ⟨j + 1, by omega, by go_num, HBq, Lib.hid (fun k hk hb => by rcases Nat.lt_succ_iff_lt_or_eq.mp hk with h' | h'; exact HRS.out k h' hb; subst h'; exact HZ.out)⟩
            case measure => simp [intOf]; omega
          · have hrt : r = true := HR.out.2 (fun hp => hz (hp j hlt hni))
            subst hrt
            go_wp2
            go_ret
            exact ⟨rfl, HBr.out⟩
      · have hni : ¬ (P ≤ j ∧ j < P + U) := by omega
        by_cases hz : f j = 0
        · have HZ := Lib.hid hz
          go_wp2
          go_roundw
          case rel => exact ⟨j + 1, by omega, by go_num, HBq, Lib.hid (fun k hk hb => by rcases Nat.lt_succ_iff_lt_or_eq.mp hk with h' | h'; exact HRS.out k h' hb; subst h'; exact HZ.out)⟩
          case measure => simp [intOf]; omega
        · have hrt : r = true := HR.out.2 (fun hp => hz (hp j hlt hni))
          subst hrt
          go_wp2
          go_ret
          exact ⟨rfl, HBr.out⟩
    · have hlt' : ¬ (j : Int) < (n : Int) := by omega
      have hrf : r = false := by
        cases r with
        | false => rfl
        | true => exact absurd (fun k hk hb => HRS.out k (by omega) hb) (HR.out.1 rfl)
      subst hrf
      go_wp2
      go_ret
      exact ⟨rfl, HBr.out⟩
end Go.Proofs.Ytbhjmomphajnnaa

namespace Go.Proofs.Ytbhjmomphajnnaa
open Go.RowKit Go.Shelf
set_option linter.unusedVariables false
attribute [local go_sem] Oper.semAt_some

theorem walk_any (h ac bu : Int) (a : Option Addr) (n c : Nat) (w : World) : Calls Try.prog 149 #[.agg #[.int .i64 h, .slice a n c, .int .i64 ac, .int .i64 bu]] w (fun e w' => e = .returned (.func (.func 201) #[] #[.pointer (some ⟨w.heap.size, 0, none⟩)]) ∧ w' = w.alloc (.cells #[.int .i64 h, .slice a n c, .int .i64 ac, .int .i64 bu] 26)) := by
  go_enter Try.func149, Try.ntmps149
  go_wp2
  go_ret
  exact ⟨rfl, rfl⟩

theorem first_at (b off n c A e : Nat) (f : Nat → Int) (w : World) (hs : Src w (some ⟨b, off, none⟩) n f) (hA : A < e) (he : e ≤ n) (hn : n ≤ 1048576) (hnc : n ≤ c) (hcm : c ≤ maxLen) :
    Calls Try.prog 202 #[.slice (some ⟨b, off + A, none⟩) (e - A) (c - A)] w (fun en w' => Below w.heap.size w w' ∧ ((Good f e A ∧ ∃ ta tc, en = .returned (.agg #[.int .i64 0, .int .i64 0, .int .i64 (f A / 2 % 16), .int .i64 (f A / 32 % 4096), .int .i64 (f A / 131072), .int .i64 (f (A + 1)), .slice ta (szOf f A) tc]) ∧ Own w' w.heap.size ta (szOf f A) (fun k => f (A + 2 + k))) ∨ (¬ Good f e A ∧ en = .returned (.agg #[.int .i64 1, .int .i64 0, .int .i64 0, .int .i64 0, .int .i64 0, .int .i64 0, .slice none 0 0])))) := by
  have hs' : Src w (some ⟨b, off + A, none⟩) (e - A) (fun k => f (A + k)) := hs.elim (fun h => .inl (by omega)) (fun ⟨b', o', h1, h3, h4⟩ => .inr ⟨b', o' + A, by cases h1; rfl, h3, fun i hi => by rw [show o' + A + i = o' + (A + i) by omega]; exact h4 (A + i) (by omega)⟩)
  have hgood : Good (fun k => f (A + k)) (e - A) 0 ↔ Good f e A := by
    constructor
    · rintro ⟨h1, h2, h3⟩; exact ⟨by omega, h2, by have h3' : 0 + 2 + szOf f A ≤ e - A := h3; omega⟩
    · rintro ⟨h1, h2, h3⟩; exact ⟨by omega, h2, by show 0 + 2 + szOf f A ≤ e - A; omega⟩
  refine (implFirst_any b (off + A) (e - A) (c - A) (fun k => f (A + k)) w hs' (by omega) (by omega) (by omega)).mono ?_
  rintro en w' ⟨hb, hc⟩
  refine ⟨hb, ?_⟩
  rcases hc with ⟨h1, ta, tc, h2, h3⟩ | ⟨h1, h2⟩
  · exact .inl ⟨hgood.1 h1, ta, tc, h2, h3.congr fun i _ => by show f (A + (2 + i)) = f (A + 2 + i); rw [Nat.add_assoc]⟩
  · exact .inr ⟨fun h => h1 (hgood.2 h), h2⟩

/-- What has come, and what is told of it. -/
def Match (f : Nat → Int) (M : List GM) (L : List Ob) : Prop := M.length = L.length ∧ ∀ (i : Nat) (t : GM) (y : Ob), M[i]? = some t → L[i]? = some y → GSame t (obG f y)

theorem match_snoc {f : Nat → Int} {M : List GM} {L : List Ob} {t : GM} {y : Ob} (h : Match f M L) (ht : GSame t (obG f y)) : Match f (M ++ [t]) (L ++ [y]) := by
  refine ⟨by simp [h.1], fun i u v hu hv => ?_⟩
  rcases Nat.lt_or_ge i M.length with hi | hi
  · rw [List.getElem?_append_left hi] at hu
    rw [List.getElem?_append_left (by rw [← h.1]; exact hi)] at hv
    exact h.2 i u v hu hv
  · rw [List.getElem?_append_right hi] at hu
    rw [List.getElem?_append_right (by rw [← h.1]; exact hi), ← h.1] at hv
    rcases Nat.eq_zero_or_pos (i - M.length) with h0 | h0
    · rw [h0] at hu hv
      simp only [List.getElem?_cons_zero, Option.some.injEq] at hu hv
      subst hu; subst hv; exact ht
    · rw [List.getElem?_eq_none (by simp; omega)] at hu
      cases hu

/-- What a round keeps. -/
def Kept (n0 A1 : Nat) (W0 W1 W' : World) : Prop := Below n0 W1 W' ∧ W'.heap[A1]? = W1.heap[A1]? ∧ ∀ b, W0.heap.size ≤ b → b < W1.heap.size → W'.heap[b]? = W1.heap[b]?

theorem blk_block {w w' : World} {b : Nat} {cs : List Value} (h : Blk w b cs) (e : w'.heap[b]? = w.heap[b]?) : Blk w' b cs := by
  refine ⟨?_, fun i u hu => ?_⟩
  · have h1 : w.heap[b]? = some (w.heap[b]'h.1) := Array.getElem?_eq_getElem h.1
    rw [h1] at e
    exact (Array.getElem?_eq_some_iff.1 e).1
  · obtain ⟨h1, h2⟩ := h.2 i u hu
    exact ⟨(World.cell?_of_block (w := w) (a := ⟨b, i, none⟩) e).trans h1, (World.frozen?_of_block (w := w) (a := ⟨b, i, none⟩) e).trans h2⟩

set_option maxRecDepth 100000 in
set_option maxHeartbeats 1600000 in
theorem iter_in (m l A1 : Nat) (h ac : Int) (ab ao n c P U : Nat) (f : Nat → Int) (w W : World) (J : List GM → World → Prop) (Jx : World → Prop)
    (hJ : ∀ pre V V', J pre V → Below V.heap.size V V' → J pre V')
    (hgo : ∀ pre (t : GM) V0 V1, J pre V0 → pre.length < 400 → Below V0.heap.size V0 V1 → Own V1 V0.heap.size t.a t.n t.f → YieldAt Fence.wide (m - 1) Try.prog l #[.agg #[.int .i64 0, .int .i64 t.at_, .int .i64 t.s, .int .i64 t.m, .int .i64 t.o, .int .i64 t.h, .slice t.a t.n t.c]] V1 fun e V' => e = .returned (.bool true) ∧ J (pre ++ [t]) V' ∧ Kept w.heap.size A1 V0 V1 V')
    (hno : ∀ pre V0 V1, J pre V0 → Below V0.heap.size V0 V1 → YieldAt Fence.wide (m - 1) Try.prog l #[.agg #[.int .i64 1, .int .i64 0, .int .i64 0, .int .i64 0, .int .i64 0, .int .i64 0, .slice none 0 0]] V1 fun e V' => e = .returned (.bool false) ∧ Jx V')
    (hs : Src w (some ⟨ab, ao, none⟩) n f) (hW : Below w.heap.size w W) (hA : Blk W A1 [.int .i64 h, .slice (some ⟨ab, ao, none⟩) n c, .int .i64 ac, .int .i64 (U : Int)])
    (h1 : 8 ≤ h) (h2 : h ≤ 200) (h3 : 0 ≤ ac) (h4 : ac ≤ 1) (hP : baseI ac h = (P : Int)) (hn : (n : Int) = 2 * h) (hPU : P + U ≤ n) (hnc : n ≤ c) (hcm : c ≤ maxLen) (h0 : J [] W) :
    CallsIn Fence.wide m Try.prog 201 #[.func (.yield l) #[] #[], .pointer (some ⟨A1, 0, none⟩)] W fun e V' => (∃ v, e = .returned v) ∧
      ((∃ L xs, parse f (P + U) P = some L ∧ Match f xs L ∧ J xs V') ∨ (parse f (P + U) P = none ∧ Jx V')) := by
  have HS := Lib.hid hs; have HW := Lib.hid hW; have HA := Lib.hid hA; have HJ := Lib.hid hJ; have HGO := Lib.hid hgo; have HNO := Lib.hid hno; have H0 := Lib.hid h0; have HP := Lib.hid hP; have HCM := Lib.hid hcm
  obtain ⟨E, hE⟩ : ∃ E : Nat, P + U = E := ⟨_, rfl⟩
  rw [hE] at hPU ⊢
  have HE := Lib.hid hE
  have HEI : Hid ((P : Int) + (U : Int) = (E : Int)) := Lib.hid (by omega)
  have hPE : P ≤ E := by omega
  have hn4 : n ≤ 400 := by omega
  have hUb : (U : Int) ≤ 400 := by omega
  have hPb : (P : Int) ≤ 400 := by omega
  clear hs hW hA hJ hgo hno h0 hP hE hcm hn
  have cA := HA.out
  have lA := HA.out.1; have cA0 := HA.out.at 0 rfl; have fA0 := HA.out.free 0 rfl; have cA1 := HA.out.at 1 rfl; have fA1 := HA.out.free 1 rfl; have cA2 := HA.out.at 2 rfl; have fA2 := HA.out.free 2 rfl; have cA3 := HA.out.at 3 rfl; have fA3 := HA.out.free 3 rfl
  clear cA
  refine callsIn_of_wp Try.func201 rfl trivial ?_ rfl
  simp only [Try.ntmps201, List.size_toArray, List.length_cons, List.length_nil, Nat.reduceAdd, Nat.reduceSub, Array.replicate_succ, Array.replicate_zero, List.push_toArray, List.append_toArray, List.nil_append, List.cons_append]
  gi_wp2_with fail
  refine ⟨trivial, fun hx => (by simp [Fence.wide] at hx), (callsIn_wide.2 (baseOf_any h ac (U : Int) (some ⟨ab, ao, none⟩) n c _ h1 h2 h3 h4)).mono ?_⟩
  rintro e w1 ⟨rfl, hb⟩
  rw [HP.out]
  have HA1 := Lib.hid (HA.out.below hb); have HW1 := Lib.hid (HW.out.trans (hb.mono HW.out.size)); have H1 := Lib.hid (HJ.out _ _ _ H0.out hb)
  clear hb h1 h2 h3 h4 HA HW H0
  clear lA cA0 fA0 cA1 fA1 cA2 fA2 cA3 fA3
  have lA := HA1.out.1; have cA0 := HA1.out.at 0 rfl; have fA0 := HA1.out.free 0 rfl; have cA1 := HA1.out.at 1 rfl; have fA1 := HA1.out.free 1 rfl; have cA2 := HA1.out.at 2 rfl; have fA2 := HA1.out.free 2 rfl; have cA3 := HA1.out.at 3 rfl; have fA3 := HA1.out.free 3 rfl
  gi_wp2
  clear lA cA0 fA0 cA1 fA1 cA2 fA2 cA3 fA3
  rw [HEI.out]
  gi_loopw [3] (fun p wr => ∃ (pre : List GM) (L : List Ob) (A : Nat), p = .int .i64 (A : Int) ∧ P ≤ A ∧ A ≤ E ∧ 2 * pre.length ≤ A ∧ Hid (parse f E P = (parse f E A).map (L ++ ·)) ∧ Hid (Match f pre L) ∧ Hid (J pre wr) ∧ Hid (Blk wr A1 [.int .i64 h, .slice (some ⟨ab, ao, none⟩) n c, .int .i64 ac, .int .i64 (U : Int)]) ∧ Hid (Below w.heap.size w wr)) (fun p _ => E - (intOf p).toNat)
  case atStart => exact ⟨[], [], P, rfl, Nat.le_refl _, hPE, Nat.zero_le _, Lib.hid (by cases parse f E P <;> rfl), Lib.hid ⟨rfl, fun i t y ht => by cases ht⟩, H1, HA1, HW1⟩
  clear H1 HA1 HW1
  case round =>
    obtain ⟨pre, L, A, rfl, hPA, hAE, hlen, HPR, HMT, HJr, HAr, HWr⟩ := hrel
    have hA0 : (0 : Int) ≤ (A : Int) := by omega
    by_cases hlt : A < E
    · have hlt' : (A : Int) < (E : Int) := by omega
      have hle' : (A : Int) ≤ (E : Int) := by omega
      have hEc : (E : Int) ≤ (c : Int) := by omega
      have hcA : ¬ c = A := by omega
      have lA := HAr.out.1; have cA0 := HAr.out.at 0 rfl; have fA0 := HAr.out.free 0 rfl; have cA1 := HAr.out.at 1 rfl; have fA1 := HAr.out.free 1 rfl; have cA2 := HAr.out.at 2 rfl; have fA2 := HAr.out.free 2 rfl; have cA3 := HAr.out.at 3 rfl; have fA3 := HAr.out.free 3 rfl
      gi_wp2_with fail
      clear lA cA0 fA0 cA1 fA1 cA2 fA2 cA3 fA3
      refine ⟨trivial, fun hx => (by simp [Fence.wide] at hx), (callsIn_wide.2 (first_at ab ao n c A E f _ (HS.out.below HWr.out) hlt hPU (by omega) hnc HCM.out)).mono ?_⟩
      rintro en w2 ⟨hb, hc⟩
      have HBW := Lib.hid hb
      have HA2 := Lib.hid (HAr.out.below hb)
      have zr := hb.size
      clear hb hlt' hle' hEc hcA
      rcases hc with ⟨hgd, ta, tc, rfl, ho⟩ | ⟨hbd, rfl⟩
      · have HGD := Lib.hid hgd
        have HO := Lib.hid ho
        have hsz := good_size hgd
        have hsE : A + 2 + szOf f A ≤ E := hgd.2.2
        clear hgd ho
        have X0 := Lib.hid (Blk.new_at (w := w2) (cs := #[.int .i64 0, .int .i64 0, .int .i64 (f A / 2 % 16), .int .i64 (f A / 32 % 4096), .int .i64 (f A / 131072), .int .i64 (f (A + 1)), .slice ta (szOf f A) tc]) (t := 233) w2.heap.size rfl)
        have X1 : Hid (Blk (w2.alloc (.cells #[.int .i64 0, .int .i64 (A : Int), .int .i64 (f A / 2 % 16), .int .i64 (f A / 32 % 4096), .int .i64 (f A / 131072), .int .i64 (f (A + 1)), .slice ta (szOf f A) tc] 233)) w2.heap.size [.int .i64 0, .int .i64 (A : Int), .int .i64 (f A / 2 % 16), .int .i64 (f A / 32 % 4096), .int .i64 (f A / 131072), .int .i64 (f (A + 1)), .slice ta (szOf f A) tc]) := Lib.hid (Blk.new_at (w := w2) (cs := #[.int .i64 0, .int .i64 (A : Int), .int .i64 (f A / 2 % 16), .int .i64 (f A / 32 % 4096), .int .i64 (f A / 131072), .int .i64 (f (A + 1)), .slice ta (szOf f A) tc]) (t := 233) w2.heap.size rfl)
        have hz1 : (w2.alloc (.cells #[.int .i64 0, .int .i64 (A : Int), .int .i64 (f A / 2 % 16), .int .i64 (f A / 32 % 4096), .int .i64 (f A / 131072), .int .i64 (f (A + 1)), .slice ta (szOf f A) tc] 233)).heap.size = w2.heap.size + 1 := by simp
        have HZ1 := Lib.hid hz1
        clear hz1
        have HB2 : Hid (Below w2.heap.size w2 (w2.alloc (.cells #[.int .i64 0, .int .i64 (A : Int), .int .i64 (f A / 2 % 16), .int .i64 (f A / 32 % 4096), .int .i64 (f A / 131072), .int .i64 (f (A + 1)), .slice ta (szOf f A) tc] 233))) := Lib.hid ((Below.refl _ w2).alloc (Nat.le_refl _) _)
        have HA3 := Lib.hid (HA2.out.below HB2.out)
        have HBr : Hid (Below wr.heap.size wr (w2.alloc (.cells #[.int .i64 0, .int .i64 (A : Int), .int .i64 (f A / 2 % 16), .int .i64 (f A / 32 % 4096), .int .i64 (f A / 131072), .int .i64 (f (A + 1)), .slice ta (szOf f A) tc] 233))) := Lib.hid (HBW.out.trans (HB2.out.mono zr))
        obtain ⟨fn, tmps, assign, body, hy, hR⟩ := HGO.out pre ⟨(A : Int), f A / 2 % 16, f A / 32 % 4096, f A / 131072, f (A + 1), ta, szOf f A, tc, fun k => f (A + 2 + k)⟩ wr _ HJr.out (by omega) HBr.out (HO.out.below HB2.out)
        dsimp only at hy
        have lX := X0.out.1; have cX0 := X0.out.at 0 rfl; have fX0 := X0.out.free 0 rfl; have cX1 := X0.out.at 1 rfl; have fX1 := X0.out.free 1 rfl; have cX2 := X0.out.at 2 rfl; have fX2 := X0.out.free 2 rfl; have cX3 := X0.out.at 3 rfl; have fX3 := X0.out.free 3 rfl; have cX4 := X0.out.at 4 rfl; have fX4 := X0.out.free 4 rfl; have cX5 := X0.out.at 5 rfl; have fX5 := X0.out.free 5 rfl; have cX6 := X0.out.at 6 rfl; have fX6 := X0.out.free 6 rfl
        have lY := X1.out.1; have cY0 := X1.out.at 0 rfl; have fY0 := X1.out.free 0 rfl; have cY1 := X1.out.at 1 rfl; have fY1 := X1.out.free 1 rfl; have cY2 := X1.out.at 2 rfl; have fY2 := X1.out.free 2 rfl; have cY3 := X1.out.at 3 rfl; have fY3 := X1.out.free 3 rfl; have cY4 := X1.out.at 4 rfl; have fY4 := X1.out.free 4 rfl; have cY5 := X1.out.at 5 rfl; have fY5 := X1.out.free 5 rfl; have cY6 := X1.out.at 6 rfl; have fY6 := X1.out.free 6 rfl
        gi_wp2
        clear lX cX0 fX0 cX1 fX1 cX2 fX2 cX3 fX3 cX4 fX4 cX5 fX5 cX6 fX6
        clear lY cY0 fY0 cY1 fY1 cY2 fY2 cY3 fY3 cY4 fY4 cY5 fY5 cY6 fY6
        refine ⟨fun hx => (by simp [Fence.wide] at hx), hR.mono ?_⟩
        rintro e W3 ⟨rfl, hJ3, hk3⟩
        have X3 := Lib.hid (blk_block X1.out (hk3.2.2 w2.heap.size zr (by rw [HZ1.out]; omega)))
        have A3 := Lib.hid (blk_block HA3.out hk3.2.1)
        have W3B := Lib.hid (((HWr.out.trans (HBr.out.mono HWr.out.size))).trans hk3.1)
        have J3 := Lib.hid hJ3
        clear hy hR hJ3 hk3
        have lX := X3.out.1; have cX2 := X3.out.at 2 rfl
        have HPS := Lib.hid (parse_step HPR.out hlt HGD.out)
        have HM3 : Hid (Match f (pre ++ [⟨(A : Int), f A / 2 % 16, f A / 32 % 4096, f A / 131072, f (A + 1), ta, szOf f A, tc, fun k => f (A + 2 + k)⟩]) (L ++ [objAt f A])) := Lib.hid (match_snoc HMT.out ⟨rfl, rfl, rfl, rfl, rfl, rfl, fun _ _ => rfl⟩)
        obtain ⟨sz0, sz1, sz2⟩ := hsz
        have HSZ := Lib.hid sz2
        have hAb : (A : Int) ≤ 400 := by omega
        gi_wp2
        go_roundw
        case rel => exact ⟨_, _, A + 2 + szOf f A, by have := HSZ.out; go_num, by omega, hsE, by simp; omega, HPS, HM3, J3, A3, W3B⟩
        case measure => have := HSZ.out; simp [intOf]; omega
      · have HBD := Lib.hid hbd
        clear hbd
        have X0 := Lib.hid (Blk.new_at (w := w2) (cs := #[.int .i64 1, .int .i64 0, .int .i64 0, .int .i64 0, .int .i64 0, .int .i64 0, .slice none 0 0]) (t := 233) w2.heap.size rfl)
        have HBr : Hid (Below wr.heap.size wr (w2.alloc (.cells #[.int .i64 1, .int .i64 0, .int .i64 0, .int .i64 0, .int .i64 0, .int .i64 0, .slice none 0 0] 233))) := Lib.hid (HBW.out.alloc zr _)
        obtain ⟨fn, tmps, assign, body, hy, hR⟩ := HNO.out pre wr _ HJr.out HBr.out
        have lX := X0.out.1; have cX0 := X0.out.at 0 rfl; have fX0 := X0.out.free 0 rfl; have cX1 := X0.out.at 1 rfl; have fX1 := X0.out.free 1 rfl; have cX2 := X0.out.at 2 rfl; have fX2 := X0.out.free 2 rfl; have cX3 := X0.out.at 3 rfl; have fX3 := X0.out.free 3 rfl; have cX4 := X0.out.at 4 rfl; have fX4 := X0.out.free 4 rfl; have cX5 := X0.out.at 5 rfl; have fX5 := X0.out.free 5 rfl; have cX6 := X0.out.at 6 rfl; have fX6 := X0.out.free 6 rfl
        gi_wp2
        clear lX cX0 fX0 cX1 fX1 cX2 fX2 cX3 fX3 cX4 fX4 cX5 fX5 cX6 fX6
        refine ⟨fun hx => (by simp [Fence.wide] at hx), hR.mono ?_⟩
        rintro e W3 ⟨rfl, hJ3⟩
        have HN : Hid (parse f E P = none) := Lib.hid (by rw [HPR.out, parse_bad hlt HBD.out]; rfl)
        gi_wp2
        refine bodyPost_ret (results_none rfl _ _ _) rfl ?_
        exact ⟨⟨_, rfl⟩, .inr ⟨HN.out, hJ3⟩⟩
    · have hlt' : ¬ (A : Int) < (E : Int) := by omega
      have HN : Hid (parse f E P = some L) := Lib.hid (by rw [HPR.out, parse_stop hlt]; simp)
      gi_wp2
      go_end0
      exact ⟨⟨_, rfl⟩, .inl ⟨L, HN.out, pre, HMT.out, HJr.out⟩⟩
end Go.Proofs.Ytbhjmomphajnnaa

namespace Go.Proofs.Ytbhjmomphajnnaa
open Go.RowKit
set_option linter.unusedVariables false

def gcells (t : GM) : List Value := [.int .i64 t.at_, .int .i64 t.s, .int .i64 t.m, .int .i64 t.o, .int .i64 t.h, .slice t.a t.n t.c]

def rowG (M : List GM) : List Value := M.flatMap gcells

theorem rowG_snoc (M : List GM) (t : GM) : rowG (M ++ [t]) = rowG M ++ gcells t := by simp [rowG]

theorem rowG_get : ∀ (M : List GM) (i : Nat) (t : GM), M[i]? = some t → ∀ j, j < 6 → (rowG M)[i * 6 + j]? = (gcells t)[j]?
  | [], i, t, h, j, hj => by simp at h
  | u :: M, 0, t, h, j, hj => by
    simp only [List.getElem?_cons_zero, Option.some.injEq] at h
    subst h
    simp only [rowG, List.flatMap_cons, Nat.zero_mul, Nat.zero_add]
    rw [List.getElem?_append_left (by simp [gcells]; omega)]
  | u :: M, i + 1, t, h, j, hj => by
    have ih := rowG_get M i t (by simpa using h) j hj
    simp only [rowG, List.flatMap_cons] at ih ⊢
    rw [List.getElem?_append_right (by simp [gcells]; omega)]
    have e : (i + 1) * 6 + j - (gcells u).length = i * 6 + j := by simp [gcells]; omega
    rw [e]; exact ih

/-- Each object's fields are numbers of their own, later ones in later blocks. -/
def FldG (w : World) (lo : Nat) (v : Value) (M : List GM) : Prop :=
  (∀ t ∈ M, t.n = 0 ∨ (lo ≤ t.g ∧ t.g < w.heap.size ∧ some t.g ≠ v.ownBlock ∧ ∃ q, t.a = some ⟨t.g, q, none⟩ ∧ ∀ k, k < t.n → w.cell? ⟨t.g, q + k, none⟩ = some (.int .i64 (t.f k)) ∧ w.frozen? ⟨t.g, q + k, none⟩ = false)) ∧ M.Pairwise (fun t u => t.n = 0 ∨ u.n = 0 ∨ t.g < u.g)

theorem FldG.block {w w' : World} {lo : Nat} {v : Value} {M : List GM} (h : FldG w lo v M) (hz : w.heap.size ≤ w'.heap.size) (hb : ∀ b, lo ≤ b → b < w.heap.size → some b ≠ v.ownBlock → w'.heap[b]? = w.heap[b]?) : FldG w' lo v M :=
  ⟨fun t ht => by
    rcases h.1 t ht with h0 | ⟨h1, h2, h3, q, h4, h5⟩
    · exact .inl h0
    · have e := hb t.g h1 h2 h3
      exact .inr ⟨h1, Nat.lt_of_lt_of_le h2 hz, h3, q, h4, fun k hk => ⟨(World.cell?_of_block (w := w) (a := ⟨t.g, q + k, none⟩) e).trans (h5 k hk).1, (World.frozen?_of_block (w := w) (a := ⟨t.g, q + k, none⟩) e).trans (h5 k hk).2⟩⟩, h.2⟩

theorem FldG.below {w w' : World} {lo : Nat} {v : Value} {M : List GM} (h : FldG w lo v M) (hb : Below w.heap.size w w') : FldG w' lo v M := h.block hb.size fun b _ h2 _ => hb.block b h2

theorem FldG.snoc {w0 w1 w2 : World} {lo : Nat} {v v' : Value} {M : List GM} (t : GM) (h : FldG w0 lo v M) (hz : w0.heap.size ≤ w1.heap.size) (h01 : ∀ (b : Nat) (o : Obj), w0.heap[b]? = some o → o.isCells = true → w1.heap[b]? = some o) (hg : w1.grownBy w2 v.ownBlock)
    (hat : v'.ownBlock = v.ownBlock ∨ v'.ownBlock = some w1.heap.size) (hlo : lo ≤ w0.heap.size) (hv : ∀ k, v.ownBlock = some k → k < w0.heap.size) (ho : Own w1 w0.heap.size t.a t.n t.f) : FldG w2 lo v' (M ++ [t]) := by
  refine ⟨fun u hu => ?_, ?_⟩
  · rcases List.mem_append.mp hu with hu | hu
    · rcases Nat.eq_zero_or_pos u.n with hp | hp
      · exact .inl hp
      rcases h.1 u hu with h0 | ⟨h1, h2, h3, q, h4, h5⟩
      · exact .inl h0
      · obtain ⟨ob, hob, hcb⟩ := cells_of_cell (h5 0 hp).1
        have e := (hg.block u.g (Nat.lt_of_lt_of_le h2 hz) h3).trans ((h01 u.g ob hob hcb).trans hob.symm)
        refine .inr ⟨h1, Nat.lt_of_lt_of_le (Nat.lt_of_lt_of_le h2 hz) hg.size, ?_, q, h4, fun k hk => ⟨(World.cell?_of_block (w := w0) (a := ⟨u.g, q + k, none⟩) e).trans (h5 k hk).1, (World.frozen?_of_block (w := w0) (a := ⟨u.g, q + k, none⟩) e).trans (h5 k hk).2⟩⟩
        rcases hat with hat | hat
        · rw [hat]; exact h3
        · rw [hat]; intro he; simp only [Option.some.injEq] at he; omega
    · simp only [List.mem_singleton] at hu
      subst hu
      rcases ho with h0 | ⟨b, off, he, h1, h2, h3⟩
      · exact .inl h0
      · have hgb : u.g = b := by simp [GM.g, he]
        have hne : some b ≠ v.ownBlock := fun hx => by have := hv b hx.symm; omega
        have e := hg.block b h2 hne
        refine .inr ⟨by omega, by rw [hgb]; exact Nat.lt_of_lt_of_le h2 hg.size, ?_, off, by rw [hgb]; exact he, fun k hk => ?_⟩
        · rw [hgb]
          rcases hat with hat | hat
          · rw [hat]; exact hne
          · rw [hat]; intro hx; simp only [Option.some.injEq] at hx; omega
        · rw [hgb]
          exact ⟨(World.cell?_of_block (w := w1) (a := ⟨b, off + k, none⟩) e).trans (h3 k hk).1, (World.frozen?_of_block (w := w1) (a := ⟨b, off + k, none⟩) e).trans (h3 k hk).2⟩
  · rw [List.pairwise_append]
    refine ⟨h.2, by simp, fun u hu x hx => ?_⟩
    simp only [List.mem_singleton] at hx
    subst hx
    rcases h.1 u hu with h0 | ⟨_, h2, _⟩
    · exact .inl h0
    · rcases ho with h0 | ⟨b, off, he, h1, _⟩
      · exact .inr (.inl h0)
      · have hgb : x.g = b := by simp [GM.g, he]
        exact .inr (.inr (by omega))

def gT (M : List GM) (i : Nat) : GM := M[i]?.getD gzero

theorem gT_at {M : List GM} {i : Nat} {t : GM} (h : M[i]? = some t) : gT M i = t := by simp [gT, h]

theorem rowG_GVO {w : World} {base lo : Nat} {v : Value} {M : List GM} (h : w.ownsRow base 111 6 v M.length (rowG M)) (hf : FldG w lo v M) (hl : lo ≤ base) : ∃ a c, v = .slice a M.length c ∧ GVO w lo w.heap.size a M.length (gT M) := by
  rcases Nat.eq_zero_or_pos M.length with h0 | hp
  · rcases h.2 with ⟨h1, h2⟩ | ⟨g, cap, cur, h1, _⟩
    · exact ⟨none, 0, by rw [h1, h2], .inl h0⟩
    · exact ⟨_, cap, h1, .inl h0⟩
  · obtain ⟨gb, cap, rfl, hb, hlt⟩ := h.form hp
    refine ⟨_, cap, rfl, .inr ⟨gb, 0, rfl, ?_⟩⟩
    have hfr : ∀ k, k < M.length * 6 → w.frozen? ⟨gb, k, none⟩ = false := fun k hk => by
      have := h.frozenAt k
      simpa using this
    have hce : ∀ i t, M[i]? = some t → ∀ j u, (gcells t)[j]? = some u → w.cell? ⟨gb, i * 6 + j, none⟩ = some u := fun i t ht j u hu => by
      have hi : i < M.length := (List.getElem?_eq_some_iff.mp ht).1
      have hj : j < 6 := by
        have := (List.getElem?_eq_some_iff.mp hu).1
        simpa [gcells] using this
      have hc := h.cellAt (i * 6 + j) (by omega)
      rw [rowG_get M i t ht j hj, hu] at hc
      simpa using hc
    refine ⟨by omega, hlt, hlt, fun i hi => ?_, fun i hi => ?_, fun i hi => ?_, fun i hi => ?_, fun i j hi hj hij => ?_⟩
    · have ht := List.getElem?_eq_getElem hi
      rw [gT_at ht, Nat.zero_add]
      exact ⟨hce i _ ht 0 _ rfl, hce i _ ht 1 _ rfl, hce i _ ht 2 _ rfl, hce i _ ht 3 _ rfl, hce i _ ht 4 _ rfl, hce i _ ht 5 _ rfl⟩
    · rw [Nat.zero_add]
      exact ⟨hfr _ (by omega), hfr _ (by omega), hfr _ (by omega), hfr _ (by omega), hfr _ (by omega), hfr _ (by omega)⟩
    · have ht := List.getElem?_eq_getElem hi
      rw [gT_at ht]
      rcases hf.1 M[i] (List.getElem_mem hi) with h0 | ⟨h1, h2, _, q, h4, h5⟩
      · exact .inl h0
      · exact .inr ⟨_, q, h4, ⟨h1, h2⟩, h2, h5⟩
    · have ht := List.getElem?_eq_getElem hi
      rw [gT_at ht]
      rcases hf.1 M[i] (List.getElem_mem hi) with h0 | ⟨_, _, h3, _⟩
      · exact .inl h0
      · right
        intro he
        exact h3 (by rw [he]; rfl)
    · have hp := List.pairwise_iff_getElem.mp hf.2
      rw [gT_at (List.getElem?_eq_getElem hi), gT_at (List.getElem?_eq_getElem hj)]
      rcases Nat.lt_or_ge i j with hlt' | hge
      · rcases hp i j hi hj hlt' with h0 | h0 | h0
        · exact .inl h0
        · exact .inr (.inl h0)
        · exact .inr (.inr (by omega))
      · rcases hp j i hj hi (by omega) with h0 | h0 | h0
        · exact .inr (.inl h0)
        · exact .inl h0
        · exact .inr (.inr (by omega))

theorem match_same {f : Nat → Int} {M : List GM} {L : List Ob} (h : Match f M L) (i : Nat) (hi : i < L.length) : GSame (gT M i) (obT f L i) := by
  have h1 : i < M.length := by rw [h.1]; exact hi
  rw [gT_at (List.getElem?_eq_getElem h1)]
  have := h.2 i _ _ (List.getElem?_eq_getElem h1) (List.getElem?_eq_getElem hi)
  simpa [obT, List.getElem?_eq_getElem hi, xT] using this
end Go.Proofs.Ytbhjmomphajnnaa

namespace Go.Proofs.Ytbhjmomphajnnaa
open Go.RowKit Go.Shelf
set_option linter.unusedVariables false

/-- What lay below B, and what holds cells, is as it was. -/
structure Turn (B : Nat) (V V' : World) : Prop where
  os : V'.os = V.os
  tape : V'.tape = V.tape
  output : V'.output = V.output
  size : V.heap.size ≤ V'.heap.size
  same : ∀ (k : Nat) (o : Obj), V.heap[k]? = some o → (k < B ∨ o.isCells = true) → V'.heap[k]? = some o

theorem Turn.of_below {B : Nat} {V V' : World} (h : Below V.heap.size V V') : Turn B V V' :=
  ⟨h.os, h.tape, h.output, h.size, fun k o hk _ => (h.block k (Array.getElem?_eq_some_iff.1 hk).1).trans hk⟩

theorem Turn.trans {B : Nat} {V V' V'' : World} (h : Turn B V V') (h' : Turn B V' V'') : Turn B V V'' :=
  ⟨h'.os.trans h.os, h'.tape.trans h.tape, h'.output.trans h.output, Nat.le_trans h.size h'.size, fun k o hk hc => h'.same k o (h.same k o hk hc) hc⟩

theorem Turn.put {B : Nat} {V : World} {l : Nat} {o : Obj} (o' : Obj) (hl : B ≤ l) (h : V.heap[l]? = some o) (hc : o.isCells = false) : Turn B V (V.putObj l o') :=
  ⟨rfl, rfl, rfl, by simp, fun k x hk hx => by
    have hne : k ≠ l := fun e => by
      subst e
      rw [h] at hk
      cases hk
      rcases hx with hx | hx
      · omega
      · rw [hc] at hx; cases hx
    rw [World.putObj_heap_other hne]; exact hk⟩

theorem Turn.below {B n : Nat} {V V' : World} (h : Turn B V V') (hn : n ≤ B) (hz : n ≤ V.heap.size) : Below n V V' :=
  ⟨h.os, h.tape, h.output, h.size, fun k hk => by
    have hk' : V.heap[k]? = some (V.heap[k]'(by omega)) := Array.getElem?_eq_getElem (by omega)
    rw [hk']; exact h.same k _ hk' (.inl (by omega))⟩

theorem Turn.cell {B : Nat} {V V' : World} (h : Turn B V V') {p : Addr} {v : Value} (hc : V.cell? p = some v) : V'.cell? p = some v ∧ V'.frozen? p = V.frozen? p ∧ V'.heap[p.block]? = V.heap[p.block]? := by
  obtain ⟨o, ho, hcc⟩ := cells_of_cell hc
  have e : V'.heap[p.block]? = V.heap[p.block]? := (h.same _ o ho (.inr hcc)).trans ho.symm
  exact ⟨(World.cell?_of_block e).trans hc, World.frozen?_of_block e, e⟩

theorem Turn.blk {B : Nat} {V V' : World} (h : Turn B V V') {b : Nat} {cs : List Value} (hb : Blk V b cs) (hne : cs ≠ []) : Blk V' b cs := by
  cases cs with
  | nil => exact absurd rfl hne
  | cons u cs => exact blk_block hb (h.cell (hb.2 0 u rfl).1).2.2

theorem Turn.own {B : Nat} {V V' : World} (h : Turn B V V') {lo n : Nat} {a : Option Addr} {f : Nat → Int} (ho : Own V lo a n f) : Own V' lo a n f := by
  rcases ho with h0 | ⟨b, off, he, h1, h2, h3⟩
  · exact .inl h0
  · exact .inr ⟨b, off, he, h1, Nat.lt_of_lt_of_le h2 h.size, fun k hk => by
      obtain ⟨e1, e2, _⟩ := h.cell (h3 k hk).1
      exact ⟨e1, e2.trans (h3 k hk).2⟩⟩

theorem Turn.row {B : Nat} {V V' : World} (h : Turn B V V') {base e size n : Nat} {v : Value} {xs : List Value} (ho : V.ownsRow base e size v n xs) : V'.ownsRow base e size v n xs := by
  refine ⟨ho.1, ?_⟩
  rcases ho.2 with h0 | ⟨g, cap, cur, h1, h2, h3, h4⟩
  · exact .inl h0
  · exact .inr ⟨g, cap, cur, h1, h2, h.same g _ h3 (.inr rfl), h4⟩

theorem Turn.fld {B : Nat} {V V' : World} (h : Turn B V V') {lo : Nat} {v : Value} {M : List GM} (ho : FldG V lo v M) : FldG V' lo v M :=
  ⟨fun t ht => by
    rcases Nat.eq_zero_or_pos t.n with h0 | hp
    · exact .inl h0
    · rcases ho.1 t ht with h0 | ⟨h1, h2, h3, q, h4, h5⟩
      · exact .inl h0
      · exact .inr ⟨h1, Nat.lt_of_lt_of_le h2 h.size, h3, q, h4, fun k hk => by
          obtain ⟨e1, e2, _⟩ := h.cell (h5 k hk).1
          exact ⟨e1, e2.trans (h5 k hk).2⟩⟩, ho.2⟩

set_option maxHeartbeats 800000 in
/-- A loop over the iterator of objects: what each round owes, and what it is told. -/
theorem range_objs {n : Nat} {g : Operand} {p : Tmp} {assign body : Code} {Q : Exit → Act → World → Prop} {a : Act} {W0 : World} {gf : Nat} {lb : Array Value}
    (hg : a.eval g = .func (.func gf) #[] lb) (eg : ∀ args w, (callFunc gf args).run Try.prog w = .ok (.enter gf args) w)
    (S : List GM → Prop) (N : Prop) (I : List GM → World → Prop) (Ix : World → Prop) (n0 A1 : Nat) (hn0 : n0 ≤ W0.heap.size) (hA1 : A1 < W0.heap.size)
    (hI : ∀ s V V', I s V → Turn W0.heap.size V V' → I s V') (hIx : ∀ V V', Ix V → Turn W0.heap.size V V' → Ix V') (h0 : I [] W0)
    (hit : ∀ (l : Nat) (J : List GM → World → Prop) (Jx : World → Prop) (W1 : World), Below W0.heap.size W0 W1 → (∀ pre V V', J pre V → Below V.heap.size V V' → J pre V') →
      (∀ pre (t : GM) V0 V1, J pre V0 → pre.length < 400 → Below V0.heap.size V0 V1 → Own V1 V0.heap.size t.a t.n t.f → YieldAt Fence.wide (n - 1 - 1) Try.prog l #[.agg #[.int .i64 0, .int .i64 t.at_, .int .i64 t.s, .int .i64 t.m, .int .i64 t.o, .int .i64 t.h, .slice t.a t.n t.c]] V1 fun e V' => e = .returned (.bool true) ∧ J (pre ++ [t]) V' ∧ Kept n0 A1 V0 V1 V') →
      (∀ pre V0 V1, J pre V0 → Below V0.heap.size V0 V1 → YieldAt Fence.wide (n - 1 - 1) Try.prog l #[.agg #[.int .i64 1, .int .i64 0, .int .i64 0, .int .i64 0, .int .i64 0, .int .i64 0, .slice none 0 0]] V1 fun e V' => e = .returned (.bool false) ∧ Jx V') → J [] W1 →
      CallsIn Fence.wide (n - 1) Try.prog gf (#[.func (.yield l) #[] #[]] ++ lb) W1 fun e V' => (∃ v, e = .returned v) ∧ ((∃ xs, S xs ∧ J xs V') ∨ (N ∧ Jx V')))
    (a₁ : Value → Nat → Act)
    (hassign : ∀ (l : Nat) (c0 c1 c2 c3 c4 c5 : Int) (sa : Option Addr) (sn sc : Nat) (V1 : World) (K : Act → World → Prop), K (a₁ (.agg #[.int .i64 c0, .int .i64 c1, .int .i64 c2, .int .i64 c3, .int .i64 c4, .int .i64 c5, .slice sa sn sc]) V1.heap.size) (V1.alloc (.cells #[.int .i64 c0, .int .i64 c1, .int .i64 c2, .int .i64 c3, .int .i64 c4, .int .i64 c5, .slice sa sn sc] 233)) →
      assign.wpIn (Fence.wide.inRound l) (n - 1 - 1) Try.prog (Exit.then K (fun _ _ _ => False)) { tmps := a.tmps.setIfInBounds p (.agg #[.int .i64 c0, .int .i64 c1, .int .i64 c2, .int .i64 c3, .int .i64 c4, .int .i64 c5, .slice sa sn sc]), defers := [] } V1)
    (hgo : ∀ (l : Nat) (pre : List GM) (t : GM) (V0 V1 V2 : World), I pre V0 → pre.length < 400 → Turn W0.heap.size V0 V2 → V0.heap.size ≤ V1.heap.size → V2.heap.size = V1.heap.size + 1 → W0.heap.size ≤ V0.heap.size → Blk V2 V1.heap.size [.int .i64 0, .int .i64 t.at_, .int .i64 t.s, .int .i64 t.m, .int .i64 t.o, .int .i64 t.h, .slice t.a t.n t.c] → Own V2 V0.heap.size t.a t.n t.f →
      body.wpIn (Fence.wide.inRound l) (n - 1 - 1) Try.prog (fun ex _ V3 => ex = .normal ∧ KeepsOthers V2 V3 ∧ I (pre ++ [t]) V3 ∧ Kept n0 A1 V0 V2 V3) (a₁ (.agg #[.int .i64 0, .int .i64 t.at_, .int .i64 t.s, .int .i64 t.m, .int .i64 t.o, .int .i64 t.h, .slice t.a t.n t.c]) V1.heap.size) V2)
    (hno : ∀ (l : Nat) (pre : List GM) (V0 V1 V2 : World), I pre V0 → Turn W0.heap.size V0 V2 → V0.heap.size ≤ V1.heap.size → V2.heap.size = V1.heap.size + 1 → W0.heap.size ≤ V0.heap.size → Blk V2 V1.heap.size [.int .i64 1, .int .i64 0, .int .i64 0, .int .i64 0, .int .i64 0, .int .i64 0, .slice none 0 0] →
      body.wpIn (Fence.wide.inRound l) (n - 1 - 1) Try.prog (fun ex _ V3 => ex = .ret ∧ KeepsOthers V2 V3 ∧ Ix V3) (a₁ (.agg #[.int .i64 1, .int .i64 0, .int .i64 0, .int .i64 0, .int .i64 0, .int .i64 0, .slice none 0 0]) V1.heap.size) V2)
    (hdone : ∀ (D : Nat) (xs : List GM) (V : World), W0.heap.size ≤ D → S xs → I xs V → V.heap[D]? = some (.deferred (some [])) → Q .normal { a with defers := { target := .collected D, args := #[] } :: a.defers } V)
    (hstop : ∀ (D : Nat) (V : World), W0.heap.size ≤ D → N → Ix V → V.heap[D]? = some (.deferred (some [])) → Code.ret.wpIn Fence.wide n Try.prog Q { a with defers := { target := .collected D, args := #[] } :: a.defers } V) :
    (Code.rangeFunc g #[p] assign body).wpIn Fence.wide n Try.prog Q a W0 := by
  refine wpIn_rangeFunc ?_
  intro fn hfn
  obtain ⟨rec, hrec⟩ : ∃ rec : LoopState → Option Code → Loop, rec = fun st pe => { state := st, pending := pe, fn, tmps := a.tmps, params := #[p], assign, body, defers := W0.heap.size } := ⟨_, rfl⟩
  have hfold : ∀ v : Value, (#[p].zip #[v]).foldl (fun tmps (t, a) => tmps.setIfInBounds t a) a.tmps = a.tmps.setIfInBounds p v := fun v => by simp
  have hL1 : ((W0.alloc (.deferred (some []))).alloc (.loop (rec .ready none))).heap[W0.heap.size + 1]? = some (.loop (rec .ready none)) := by
    have := World.alloc_heap_new (W0.alloc (.deferred (some []))) (.loop (rec .ready none)); rwa [World.size_alloc] at this
  have hK1 : ((W0.alloc (.deferred (some []))).alloc (.loop (rec .ready none))).heap[W0.heap.size]? = some (.deferred (some [])) := (Below.heap_alloc _ _ _ (by simp)).trans (World.alloc_heap_new W0 _)
  have hB1 : Below W0.heap.size W0 ((W0.alloc (.deferred (some []))).alloc (.loop (rec .ready none))) := ((Below.refl _ W0).alloc (Nat.le_refl _) _).alloc (by simp) _
  refine ⟨W0.heap.size + 1, [{ target := .collected W0.heap.size, args := #[] }], (W0.alloc (.deferred (some []))).alloc (.loop (rec .ready none)), { target := .fn (.func gf) lb, args := #[.func (.yield (W0.heap.size + 1)) #[] #[]] }, (W0.alloc (.deferred (some []))).alloc (.loop (rec .ready none)), gf,
    #[.func (.yield (W0.heap.size + 1)) #[] #[]] ++ lb, (W0.alloc (.deferred (some []))).alloc (.loop (rec .ready none)), ?_, ?_, ?_, ?_, fun hx => (by simp [Fence.wide] at hx), ?_⟩
  · rw [hrec]; exact run_enterLoop_outer _ _ _ _ _
  · simp only [resolve, hg]
    simp [go_sem]
  · intro f' _; trivial
  · simp [invoke, go_sem, eg]
  refine (hit (W0.heap.size + 1)
    (fun pre V => I pre V ∧ V.heap[W0.heap.size + 1]? = some (.loop (rec .ready none)) ∧ V.heap[W0.heap.size]? = some (.deferred (some [])))
    (fun V => Ix V ∧ V.heap[W0.heap.size + 1]? = some (.loop (rec .done (some .ret))) ∧ V.heap[W0.heap.size]? = some (.deferred (some [])))
    _ hB1 (fun pre V V' hs hb => ⟨hI _ _ _ hs.1 (Turn.of_below hb), (hb.block _ (Array.getElem?_eq_some_iff.1 hs.2.1).1).trans hs.2.1, (hb.block _ (Array.getElem?_eq_some_iff.1 hs.2.2).1).trans hs.2.2⟩) ?_ ?_ ⟨hI _ _ _ h0 (Turn.of_below hB1), hL1, hK1⟩).mono ?_
  · rintro pre t V0 V1 ⟨hi, hl, hk⟩ hlen hb ho
    have hls := (Array.getElem?_eq_some_iff.1 hl).1
    have hz := hb.size
    have hz0 : W0.heap.size ≤ V0.heap.size := by omega
    have hl1 : V1.heap[W0.heap.size + 1]? = some (.loop (rec .ready none)) := (hb.block _ hls).trans hl
    have hk1 : V1.heap[W0.heap.size]? = some (.deferred (some [])) := (hb.block _ (by omega)).trans hk
    have hy := run_yield (P := Try.prog) (args := #[.agg #[.int .i64 0, .int .i64 t.at_, .int .i64 t.s, .int .i64 t.m, .int .i64 t.o, .int .i64 t.h, .slice t.a t.n t.c]]) hl1 (by rw [hrec]; rfl)
    rw [hrec] at hy
    refine ⟨fn, _, assign, body, hy, roundIn_of_wpIn hfn ?_⟩
    dsimp only
    rw [hfold]
    refine hassign (W0.heap.size + 1) 0 t.at_ t.s t.m t.o t.h t.a t.n t.c V1 _ ?_
    refine ⟨_, run_beginRound ((Below.heap_alloc _ _ _ (by omega)).trans hl1) (by rw [hrec]), ?_⟩
    have hla : (V1.alloc (.cells #[.int .i64 0, .int .i64 t.at_, .int .i64 t.s, .int .i64 t.m, .int .i64 t.o, .int .i64 t.h, .slice t.a t.n t.c] 233)).heap[W0.heap.size + 1]? = some (.loop (rec .ready none)) := (Below.heap_alloc _ _ _ (by omega)).trans hl1
    have hka : (V1.alloc (.cells #[.int .i64 0, .int .i64 t.at_, .int .i64 t.s, .int .i64 t.m, .int .i64 t.o, .int .i64 t.h, .slice t.a t.n t.c] 233)).heap[W0.heap.size]? = some (.deferred (some [])) := (Below.heap_alloc _ _ _ (by omega)).trans hk1
    have hT1 : Turn W0.heap.size (V1.alloc (.cells #[.int .i64 0, .int .i64 t.at_, .int .i64 t.s, .int .i64 t.m, .int .i64 t.o, .int .i64 t.h, .slice t.a t.n t.c] 233)) ((V1.alloc (.cells #[.int .i64 0, .int .i64 t.at_, .int .i64 t.s, .int .i64 t.m, .int .i64 t.o, .int .i64 t.h, .slice t.a t.n t.c] 233)).putObj (W0.heap.size + 1) (.loop { rec .ready none with state := .busy })) := Turn.put _ (by omega) hla rfl
    have hT12 : Turn W0.heap.size V1 ((V1.alloc (.cells #[.int .i64 0, .int .i64 t.at_, .int .i64 t.s, .int .i64 t.m, .int .i64 t.o, .int .i64 t.h, .slice t.a t.n t.c] 233)).putObj (W0.heap.size + 1) (.loop { rec .ready none with state := .busy })) := (Turn.of_below ((Below.refl _ V1).alloc (Nat.le_refl _) _)).trans hT1
    have hT : Turn W0.heap.size V0 ((V1.alloc (.cells #[.int .i64 0, .int .i64 t.at_, .int .i64 t.s, .int .i64 t.m, .int .i64 t.o, .int .i64 t.h, .slice t.a t.n t.c] 233)).putObj (W0.heap.size + 1) (.loop { rec .ready none with state := .busy })) := (Turn.of_below hb).trans hT12
    have hz2 : ((V1.alloc (.cells #[.int .i64 0, .int .i64 t.at_, .int .i64 t.s, .int .i64 t.m, .int .i64 t.o, .int .i64 t.h, .slice t.a t.n t.c] 233)).putObj (W0.heap.size + 1) (.loop { rec .ready none with state := .busy })).heap.size = V1.heap.size + 1 := by simp
    have hB2 : Blk ((V1.alloc (.cells #[.int .i64 0, .int .i64 t.at_, .int .i64 t.s, .int .i64 t.m, .int .i64 t.o, .int .i64 t.h, .slice t.a t.n t.c] 233)).putObj (W0.heap.size + 1) (.loop { rec .ready none with state := .busy })) V1.heap.size [.int .i64 0, .int .i64 t.at_, .int .i64 t.s, .int .i64 t.m, .int .i64 t.o, .int .i64 t.h, .slice t.a t.n t.c] := hT1.blk (Blk.new_at (w := V1) (cs := #[.int .i64 0, .int .i64 t.at_, .int .i64 t.s, .int .i64 t.m, .int .i64 t.o, .int .i64 t.h, .slice t.a t.n t.c]) (t := 233) V1.heap.size rfl) (by simp)
    have hl2 : ((V1.alloc (.cells #[.int .i64 0, .int .i64 t.at_, .int .i64 t.s, .int .i64 t.m, .int .i64 t.o, .int .i64 t.h, .slice t.a t.n t.c] 233)).putObj (W0.heap.size + 1) (.loop { rec .ready none with state := .busy })).heap[W0.heap.size + 1]? = some (.loop { rec .ready none with state := .busy }) := World.putObj_heap_same (Array.getElem?_eq_some_iff.1 hla).1
    have hk2 : ((V1.alloc (.cells #[.int .i64 0, .int .i64 t.at_, .int .i64 t.s, .int .i64 t.m, .int .i64 t.o, .int .i64 t.h, .slice t.a t.n t.c] 233)).putObj (W0.heap.size + 1) (.loop { rec .ready none with state := .busy })).heap[W0.heap.size]? = some (.deferred (some [])) := (World.putObj_heap_other (by omega)).trans hka
    refine wpIn_mono (hgo (W0.heap.size + 1) pre t V0 V1 _ hi hlen hT hb.size hz2 hz0 hB2 (hT1.own (ho.alloc _))) ?_
    rintro ex a3 V3 ⟨rfl, hko, hi3, hkp⟩
    have hl3 := hko.same _ _ hl2 rfl
    have hk3 := hko.same _ _ hk2 rfl
    have hT3 : Turn W0.heap.size V3 (V3.putObj (W0.heap.size + 1) (.loop (rec .ready none))) := Turn.put _ (by omega) hl3 rfl
    have hl3' := (Array.getElem?_eq_some_iff.1 hl3).1
    have hend : (Instr.endRound (W0.heap.size + 1) none).run Try.prog V3 = .ok (.bool true) (V3.putObj (W0.heap.size + 1) (.loop (rec .ready none))) := by
      have := run_endRound (P := Try.prog) none hl3
      rw [hrec] at this ⊢; exact this
    refine ⟨_, _, hend, rfl, ⟨hI _ _ _ hi3 hT3, World.putObj_heap_same hl3', (World.putObj_heap_other (by omega)).trans hk3⟩, ?_, ?_, fun b hb0 hb1 => ?_⟩
    · exact (hT12.below hn0 (by omega)).trans (hkp.1.trans (hT3.below hn0 (by have := hko.size; have := hT12.size; omega)))
    · have e1 : V1.heap[A1]? = some (V1.heap[A1]'(by omega)) := Array.getElem?_eq_getElem (by omega)
      have e2 := hT12.same A1 _ e1 (.inl hA1)
      have e3 := hkp.2.1.trans e2
      rw [e1]; exact hT3.same A1 _ e3 (.inl hA1)
    · refine (World.putObj_heap_other (by omega)).trans ((hkp.2.2 b hb0 (by rw [hz2]; omega)).trans ((World.putObj_heap_other (by omega)).trans (Below.heap_alloc _ _ _ hb1)))
  · rintro pre V0 V1 ⟨hi, hl, hk⟩ hb
    have hls := (Array.getElem?_eq_some_iff.1 hl).1
    have hz := hb.size
    have hz0 : W0.heap.size ≤ V0.heap.size := by omega
    have hl1 : V1.heap[W0.heap.size + 1]? = some (.loop (rec .ready none)) := (hb.block _ hls).trans hl
    have hk1 : V1.heap[W0.heap.size]? = some (.deferred (some [])) := (hb.block _ (by omega)).trans hk
    have hy := run_yield (P := Try.prog) (args := #[.agg #[.int .i64 1, .int .i64 0, .int .i64 0, .int .i64 0, .int .i64 0, .int .i64 0, .slice none 0 0]]) hl1 (by rw [hrec]; rfl)
    rw [hrec] at hy
    refine ⟨fn, _, assign, body, hy, roundIn_of_wpIn hfn ?_⟩
    dsimp only
    rw [hfold]
    refine hassign (W0.heap.size + 1) 1 0 0 0 0 0 none 0 0 V1 _ ?_
    refine ⟨_, run_beginRound ((Below.heap_alloc _ _ _ (by omega)).trans hl1) (by rw [hrec]), ?_⟩
    have hla : (V1.alloc (.cells #[.int .i64 1, .int .i64 0, .int .i64 0, .int .i64 0, .int .i64 0, .int .i64 0, .slice none 0 0] 233)).heap[W0.heap.size + 1]? = some (.loop (rec .ready none)) := (Below.heap_alloc _ _ _ (by omega)).trans hl1
    have hka : (V1.alloc (.cells #[.int .i64 1, .int .i64 0, .int .i64 0, .int .i64 0, .int .i64 0, .int .i64 0, .slice none 0 0] 233)).heap[W0.heap.size]? = some (.deferred (some [])) := (Below.heap_alloc _ _ _ (by omega)).trans hk1
    have hT1 : Turn W0.heap.size (V1.alloc (.cells #[.int .i64 1, .int .i64 0, .int .i64 0, .int .i64 0, .int .i64 0, .int .i64 0, .slice none 0 0] 233)) ((V1.alloc (.cells #[.int .i64 1, .int .i64 0, .int .i64 0, .int .i64 0, .int .i64 0, .int .i64 0, .slice none 0 0] 233)).putObj (W0.heap.size + 1) (.loop { rec .ready none with state := .busy })) := Turn.put _ (by omega) hla rfl
    have hT12 : Turn W0.heap.size V1 ((V1.alloc (.cells #[.int .i64 1, .int .i64 0, .int .i64 0, .int .i64 0, .int .i64 0, .int .i64 0, .slice none 0 0] 233)).putObj (W0.heap.size + 1) (.loop { rec .ready none with state := .busy })) := (Turn.of_below ((Below.refl _ V1).alloc (Nat.le_refl _) _)).trans hT1
    have hT : Turn W0.heap.size V0 ((V1.alloc (.cells #[.int .i64 1, .int .i64 0, .int .i64 0, .int .i64 0, .int .i64 0, .int .i64 0, .slice none 0 0] 233)).putObj (W0.heap.size + 1) (.loop { rec .ready none with state := .busy })) := (Turn.of_below hb).trans hT12
    have hz2 : ((V1.alloc (.cells #[.int .i64 1, .int .i64 0, .int .i64 0, .int .i64 0, .int .i64 0, .int .i64 0, .slice none 0 0] 233)).putObj (W0.heap.size + 1) (.loop { rec .ready none with state := .busy })).heap.size = V1.heap.size + 1 := by simp
    have hB2 : Blk ((V1.alloc (.cells #[.int .i64 1, .int .i64 0, .int .i64 0, .int .i64 0, .int .i64 0, .int .i64 0, .slice none 0 0] 233)).putObj (W0.heap.size + 1) (.loop { rec .ready none with state := .busy })) V1.heap.size [.int .i64 1, .int .i64 0, .int .i64 0, .int .i64 0, .int .i64 0, .int .i64 0, .slice none 0 0] := hT1.blk (Blk.new_at (w := V1) (cs := #[.int .i64 1, .int .i64 0, .int .i64 0, .int .i64 0, .int .i64 0, .int .i64 0, .slice none 0 0]) (t := 233) V1.heap.size rfl) (by simp)
    have hl2 : ((V1.alloc (.cells #[.int .i64 1, .int .i64 0, .int .i64 0, .int .i64 0, .int .i64 0, .int .i64 0, .slice none 0 0] 233)).putObj (W0.heap.size + 1) (.loop { rec .ready none with state := .busy })).heap[W0.heap.size + 1]? = some (.loop { rec .ready none with state := .busy }) := World.putObj_heap_same (Array.getElem?_eq_some_iff.1 hla).1
    have hk2 : ((V1.alloc (.cells #[.int .i64 1, .int .i64 0, .int .i64 0, .int .i64 0, .int .i64 0, .int .i64 0, .slice none 0 0] 233)).putObj (W0.heap.size + 1) (.loop { rec .ready none with state := .busy })).heap[W0.heap.size]? = some (.deferred (some [])) := (World.putObj_heap_other (by omega)).trans hka
    refine wpIn_mono (hno (W0.heap.size + 1) pre V0 V1 _ hi hT hb.size hz2 hz0 hB2) ?_
    rintro ex a3 V3 ⟨rfl, hko, hi3⟩
    have hl3 := hko.same _ _ hl2 rfl
    have hk3 := hko.same _ _ hk2 rfl
    have hT3 : Turn W0.heap.size V3 (V3.putObj (W0.heap.size + 1) (.loop (rec .done (some .ret)))) := Turn.put _ (by omega) hl3 rfl
    have hl3' := (Array.getElem?_eq_some_iff.1 hl3).1
    have hend : (Instr.endRound (W0.heap.size + 1) (some .ret)).run Try.prog V3 = .ok (.bool false) (V3.putObj (W0.heap.size + 1) (.loop (rec .done (some .ret)))) := by
      have := run_endRound (P := Try.prog) (some .ret) hl3
      rw [hrec] at this ⊢; exact this
    exact ⟨_, _, hend, rfl, hIx _ _ hi3 hT3, World.putObj_heap_same hl3', (World.putObj_heap_other (by omega)).trans hk3⟩
  · rintro e W2 ⟨⟨v, rfl⟩, (⟨xs, hS, hi, hl, hk⟩ | ⟨hN, hi, hl, hk⟩)⟩
    · exact ⟨none, _, by have := run_endLoop (P := Try.prog) hl (by rw [hrec]; simp); rw [hrec] at this; exact this, hdone _ xs _ (Nat.le_refl _) hS (hI _ _ _ hi (Turn.put _ (by omega) hl rfl)) ((World.putObj_heap_other (by omega)).trans hk)⟩
    · exact ⟨some .ret, _, by have := run_endLoop (P := Try.prog) hl (by rw [hrec]; simp); rw [hrec] at this; exact this, hstop _ _ (Nat.le_refl _) hN (hIx _ _ hi (Turn.put _ (by omega) hl rfl)) ((World.putObj_heap_other (by omega)).trans hk)⟩
end Go.Proofs.Ytbhjmomphajnnaa

namespace Go.Proofs.Ytbhjmomphajnnaa
open Go.RowKit Go.Shelf
attribute [local go_sem] Oper.semAt_some
set_option linter.unusedVariables false

theorem cells_new6 (w : World) (t : GM) : ∀ j u, (gcells t)[j]? = some u → (w.alloc (.cells #[.int .i64 t.at_, .int .i64 t.s, .int .i64 t.m, .int .i64 t.o, .int .i64 t.h, .slice t.a t.n t.c] 111)).cell? ((⟨w.heap.size, 0, none⟩ : Addr).add j) = some u := fun j u h => by
  have := ((Blk.new w #[.int .i64 t.at_, .int .i64 t.s, .int .i64 t.m, .int .i64 t.o, .int .i64 t.h, .slice t.a t.n t.c] 111).2 j u h).1
  cases j with
  | zero => exact this
  | succ j => simpa [Addr.add] using this

theorem row_far {w : World} {base e size n b : Nat} {v : Value} {xs : List Value} (h : w.ownsRow base e size v n xs) (hb : b < base) : v.ownBlock ≠ some b := fun he => by have := (h.lt b he).1; omega

theorem blk_grown {w w' : World} {b : Nat} {cs : List Value} {row : Option Nat} (h : Blk w b cs) (hg : w.grownBy w' row) (hne : row ≠ some b) : Blk w' b cs := blk_block h (hg.block b h.1 (fun e => hne e.symm))

theorem row_set {w : World} {base e size n : Nat} {v : Value} {xs : List Value} (h : w.ownsRow base e size v n xs) {p : Addr} (hp : p.block < base) (u : Value) : (w.setCell p u).ownsRow base e size v n xs := by
  refine ⟨h.1, ?_⟩
  rcases h.2 with h0 | ⟨g, cap, cur, h1, h2, h3, h4⟩
  · exact .inl h0
  · exact .inr ⟨g, cap, cur, h1, h2, (Below.heap_setCell w p u g (by omega)).trans h3, h4⟩

theorem row_cells {w : World} {base e size n : Nat} {v : Value} {xs : List Value} (h : w.ownsRow base e size v n xs) (j : Nat) (o : Obj) (hj : v.ownBlock = some j) (ho : w.heap[j]? = some o) : o.isCells = true := by
  rcases h.2 with ⟨rfl, _⟩ | ⟨g, cap, cur, rfl, _, hg, _⟩
  · simp [Value.ownBlock] at hj
  · simp only [Value.ownBlock, Option.some.injEq] at hj
    subst hj
    rw [hg] at ho
    cases ho; rfl

set_option maxRecDepth 100000 in
set_option maxHeartbeats 800000 in
theorem implOI_fault (h ac bu : Int) (a : Option Addr) (n c : Nat) (f : Nat → Int) (k : Int) (w : World) (hs : Src w a n f) (hk : IsFault h n f ac bu k) (hk0 : ¬ k = 0) :
    Calls Try.prog 75 #[.agg #[.int .i64 h, .slice a n c, .int .i64 ac, .int .i64 bu]] w (RetORG w f k []) := by
  have HS := Lib.hid hs; have HK := Lib.hid hk
  clear hs hk
  go_enter Try.func75, Try.ntmps75
  go_wp2_with fail
  refine (implFault_any h ac bu a n c f k _ ((HS.out.alloc _).alloc _) HK.out).mono ?_
  rintro e w1 ⟨rfl, hb⟩
  have HB1 := Lib.hid (thru2 (Below.refl _ _) hb)
  have R_1 := Lib.hid ((Blk.new_at (w := w.alloc (.cells #[.int .i64 h, .slice a n c, .int .i64 ac, .int .i64 bu] 26)) (cs := #[.int .i64 0, .slice none 0 0]) (t := 121) (w.heap.size + 1) (by simp)).below hb)
  have z1 : w.heap.size + 2 ≤ w1.heap.size := by have := hb.size; simp at this; omega
  clear hb
  have hd : (k != 0) = true := by simpa using hk0
  have lR := R_1.out.1; have cR0 := R_1.out.at 0 rfl; have fR0 := R_1.out.free 0 rfl; have cR1 := R_1.out.at 1 rfl; have fR1 := R_1.out.free 1 rfl
  go_wp2
  refine bodyPost_ret (v := .agg #[.int .i64 k, .slice none 0 0]) (by simp [results, Try.results75, go_sem, cR0, cR1]) rfl ⟨none, 0, fun _ => gzero, rfl, .inl rfl, fun i hi => (by simp at hi), ?_, Nat.le_refl _, by simp [maxLen]⟩
  repeat (first | (with_reducible refine Below.setCell ?_ (by (try simp); (try omega)) _) | (with_reducible refine Below.alloc ?_ (by (try simp); (try omega)) _) | (with_reducible refine Below.drew ?_))
  exact HB1.out

set_option maxRecDepth 100000 in
set_option maxHeartbeats 3200000 in
theorem implOI_none (h ac bu : Int) (a : Option Addr) (n c : Nat) (f : Nat → Int) (co : Int) (L : List Ob) (w : World) (hs : Src w a n f) (hnc : n ≤ c) (hcm : c ≤ maxLen) (hk : IsFault h n f ac bu 0)
    (hc : (parse f ((baseI ac h).toNat + bu.toNat) (baseI ac h).toNat = none ∧ co = 1 ∧ L = []) ∨ (parse f ((baseI ac h).toNat + bu.toNat) (baseI ac h).toNat = some L ∧ co = 0)) :
    Calls Try.prog 75 #[.agg #[.int .i64 h, .slice a n c, .int .i64 ac, .int .i64 bu]] w (RetORG w f co L) := by
  obtain ⟨⟨⟨g1, g2⟩, ⟨g3, g4⟩, g5, g6⟩, gn, gw⟩ := isFault_ok hk
  have hb0 : 0 ≤ baseI ac h ∧ baseI ac h ≤ h ∧ baseI ac h + h ≤ 2 * h := by rcases (by omega : ac = 0 ∨ ac = 1) with rfl | rfl <;> simp [baseI] <;> omega
  obtain ⟨P, hP⟩ : ∃ P : Nat, baseI ac h = (P : Int) := ⟨(baseI ac h).toNat, by omega⟩
  obtain ⟨U, rfl⟩ : ∃ U : Nat, bu = (U : Int) := ⟨bu.toNat, by omega⟩
  rw [hP, Int.toNat_natCast, Int.toNat_natCast] at hc
  obtain ⟨ab, ao, rfl⟩ : ∃ ab ao, a = some ⟨ab, ao, none⟩ := by
    rcases hs with h0 | ⟨b, off, he, _⟩
    · omega
    · exact ⟨b, off, he⟩
  have hPU : P + U ≤ n := by omega
  have HS := Lib.hid hs; have HK := Lib.hid hk; have HC := Lib.hid hc; have HP := Lib.hid hP; have HCM := Lib.hid hcm
  have HG := Lib.hid (show 8 ≤ h ∧ h ≤ 200 ∧ 0 ≤ ac ∧ ac ≤ 1 ∧ (n : Int) = 2 * h from ⟨g1, g2, g3, g4, gn⟩)
  clear hs hk hc hP hcm gw hb0 g1 g2 g3 g4 g5 g6 gn
  obtain ⟨m, _⟩ : ∃ m : Nat, m = m := ⟨9, rfl⟩
  refine (callsIn_wide (n := m)).1 ?_
  refine callsIn_of_wp_marks Try.func75 rfl trivial ?_ rfl
  simp only [Try.ntmps75, List.size_toArray, List.length_cons, List.length_nil, Nat.reduceAdd, Nat.reduceSub, Array.replicate_succ, Array.replicate_zero, List.push_toArray, List.append_toArray, List.nil_append, List.cons_append]
  gi_wp2_with fail
  refine ⟨trivial, fun hx => (by simp [Fence.wide] at hx), (callsIn_wide.2 (implFault_any h ac (U : Int) (some ⟨ab, ao, none⟩) n c f 0 _ ((HS.out.alloc _).alloc _) HK.out)).mono ?_⟩
  rintro e w1 ⟨rfl, hb⟩
  have HB1 := Lib.hid (thru2 (Below.refl _ _) hb)
  have A_1 := Lib.hid (((Blk.new_at (w := w) (cs := #[.int .i64 h, .slice (some ⟨ab, ao, none⟩) n c, .int .i64 ac, .int .i64 (U : Int)]) (t := 26) (w.heap.size) rfl).alloc _).below hb)
  have R_1 := Lib.hid ((Blk.new_at (w := w.alloc (.cells #[.int .i64 h, .slice (some ⟨ab, ao, none⟩) n c, .int .i64 ac, .int .i64 (U : Int)] 26)) (cs := #[.int .i64 0, .slice none 0 0]) (t := 121) (w.heap.size + 1) (by simp)).below hb)
  have z1 : w.heap.size + 2 ≤ w1.heap.size := by have := hb.size; simp at this; omega
  clear hb
  have lA := A_1.out.1; have cA0 := A_1.out.at 0 rfl; have fA0 := A_1.out.free 0 rfl; have cA1 := A_1.out.at 1 rfl; have fA1 := A_1.out.free 1 rfl; have cA2 := A_1.out.at 2 rfl; have fA2 := A_1.out.free 2 rfl; have cA3 := A_1.out.at 3 rfl; have fA3 := A_1.out.free 3 rfl
  gi_wp2_with fail
  clear lA cA0 fA0 cA1 fA1 cA2 fA2 cA3 fA3
  refine ⟨trivial, fun hx => (by simp [Fence.wide] at hx), (callsIn_wide.2 (walk_any h ac (U : Int) (some ⟨ab, ao, none⟩) n c _)).mono ?_⟩
  rintro e w2 ⟨rfl, rfl⟩
  have HB0 : Hid (Below w.heap.size w ((w1.alloc (.cells #[.slice none 0 0] 98)).alloc (.cells #[.int .i64 h, .slice (some ⟨ab, ao, none⟩) n c, .int .i64 ac, .int .i64 (U : Int)] 26))) := Lib.hid ((HB1.out.alloc HB1.out.size _).alloc (by have := HB1.out.size; simp; omega) _)
  have T0 : Hid (Blk ((w1.alloc (.cells #[.slice none 0 0] 98)).alloc (.cells #[.int .i64 h, .slice (some ⟨ab, ao, none⟩) n c, .int .i64 ac, .int .i64 (U : Int)] 26)) w1.heap.size [.slice none 0 0]) := Lib.hid ((Blk.new_at (w := w1) (cs := #[.slice none 0 0]) (t := 98) w1.heap.size rfl).alloc _)
  have A0 : Hid (Blk ((w1.alloc (.cells #[.slice none 0 0] 98)).alloc (.cells #[.int .i64 h, .slice (some ⟨ab, ao, none⟩) n c, .int .i64 ac, .int .i64 (U : Int)] 26)) (w1.heap.size + 1) [.int .i64 h, .slice (some ⟨ab, ao, none⟩) n c, .int .i64 ac, .int .i64 (U : Int)]) := Lib.hid (Blk.new_at (w := w1.alloc (.cells #[.slice none 0 0] 98)) (cs := #[.int .i64 h, .slice (some ⟨ab, ao, none⟩) n c, .int .i64 ac, .int .i64 (U : Int)]) (t := 26) (w1.heap.size + 1) (by simp))
  have R0 : Hid (Blk ((w1.alloc (.cells #[.slice none 0 0] 98)).alloc (.cells #[.int .i64 h, .slice (some ⟨ab, ao, none⟩) n c, .int .i64 ac, .int .i64 (U : Int)] 26)) (w.heap.size + 1) [.int .i64 0, .slice none 0 0]) := Lib.hid ((R_1.out.alloc _).alloc _)
  have z0 : ((w1.alloc (.cells #[.slice none 0 0] 98)).alloc (.cells #[.int .i64 h, .slice (some ⟨ab, ao, none⟩) n c, .int .i64 ac, .int .i64 (U : Int)] 26)).heap.size = w1.heap.size + 2 := by simp
  gi_wp2
  generalize (w1.alloc (.cells #[.slice none 0 0] 98)).alloc (.cells #[.int .i64 h, .slice (some ⟨ab, ao, none⟩) n c, .int .i64 ac, .int .i64 (U : Int)] 26) = W0 at *
  have z0' : w.heap.size + 4 ≤ W0.heap.size := by omega
  have hn0 : w.heap.size ≤ W0.heap.size := by omega
  have hA1 : w1.heap.size + 1 < W0.heap.size := by omega
  have HZ0 := Lib.hid z0
  clear HB1 R_1 A_1 z0
  obtain ⟨i0, hi, hi0, hi1, hi2⟩ := info_parts Try.info111
  refine range_objs (gf := 201) (lb := #[.pointer (some ⟨w1.heap.size + 1, 0, none⟩)]) rfl (enters_of Try.func201 (by kernel_rfl) rfl)
    (fun xs => ∃ L', parse f (P + U) P = some L' ∧ Match f xs L') (parse f (P + U) P = none)
    (fun pre V => Below w.heap.size w V ∧ Blk V (w.heap.size + 1) [.int .i64 0, .slice none 0 0] ∧ ∃ va vc, Blk V w1.heap.size [.slice va pre.length vc] ∧ V.ownsRow W0.heap.size 111 6 (.slice va pre.length vc) pre.length (rowG pre) ∧ FldG V W0.heap.size (.slice va pre.length vc) pre)
    (fun V => Below w.heap.size w V ∧ Blk V (w.heap.size + 1) [.int .i64 1, .slice none 0 0])
    w.heap.size (w1.heap.size + 1) hn0 hA1 ?stable ?stablex ?start ?iter
    (fun v B => { tmps := #[.agg #[.int .i64 h, .slice (some ⟨ab, ao, none⟩) n c, .int .i64 ac, .int .i64 (U : Int)], .pointer (some ⟨w.heap.size, 0, none⟩), .pointer (some ⟨w.heap.size + 1, 0, none⟩), .int .i64 0, .pointer (some ⟨w1.heap.size, 0, none⟩), .pointer (some ⟨B, 0, none⟩), .agg #[.int .i64 h, .slice (some ⟨ab, ao, none⟩) n c, .int .i64 ac, .int .i64 (U : Int)], .int .i64 0, .int .i64 0, .bool false, undef, undef, .agg #[.int .i64 h, .slice (some ⟨ab, ao, none⟩) n c, .int .i64 ac, .int .i64 (U : Int)], .func (.func 201) #[] #[.pointer (some ⟨w1.heap.size + 1, 0, none⟩)], v, undef, undef, undef, undef, undef, undef, undef, undef, undef, undef, undef, undef, undef], defers := [] })
    ?assign ?go ?no ?done ?stop
  case stable =>
    rintro s V V' ⟨h1, h2, va, vc, h3, h4, h5⟩ hT
    exact ⟨h1.trans (hT.below hn0 h1.size), hT.blk h2 (by simp), va, vc, hT.blk h3 (by simp), hT.row h4, hT.fld h5⟩
  case stablex =>
    rintro V V' ⟨h1, h2⟩ hT
    exact ⟨h1.trans (hT.below hn0 h1.size), hT.blk h2 (by simp)⟩
  case start => exact ⟨HB0.out, R0.out, none, 0, T0.out, World.ownsRow_nil _ _ _ _, ⟨fun t ht => (by cases ht), List.Pairwise.nil⟩⟩
  case iter =>
    intro l J Jx W1 hb hJ hgo hno hJ0
    obtain ⟨g1, g2, g3, g4, gn⟩ := HG.out
    refine (iter_in (m - 1) l (w1.heap.size + 1) h ac ab ao n c P U f w W1 J Jx hJ hgo hno HS.out (HB0.out.trans (hb.mono hn0)) (A0.out.below hb) g1 g2 g3 g4 HP.out gn hPU hnc HCM.out hJ0).mono ?_
    rintro e V' ⟨hv, ⟨L', xs, h1, h2, h3⟩ | h1⟩
    · exact ⟨hv, .inl ⟨xs, ⟨L', h1, h2⟩, h3⟩⟩
    · exact ⟨hv, .inr h1⟩
  case assign =>
    intro l c0 c1 c2 c3 c4 c5 sa sn sc V1 K hK
    gi_wp2
    exact hK
  case go =>
    rintro l pre t V0 V1 V2 ⟨hB, hR, va, vc, hT, how, hfl⟩ hlen hTn hz hz2 hz0 hX ho
    have T2 := Lib.hid (hTn.blk hT (by simp)); have X2 := Lib.hid hX; have R2 := Lib.hid (hTn.blk hR (by simp)); have OW2 := Lib.hid (hTn.row how); have HFL := Lib.hid hfl; have HTN := Lib.hid hTn; have HO := Lib.hid ho; have HOW := Lib.hid how
    have HB2 := Lib.hid (hB.trans (hTn.below hn0 hB.size))
    have HZ2 := Lib.hid hz2
    have hV02 : V0.heap.size ≤ V2.heap.size := by omega
    clear hT hX hR how hfl hTn ho hB hz2
    have hnew := cells_new6 V2 t
    have lT := T2.out.1; have cT0 := T2.out.at 0 rfl; have fT0 := T2.out.free 0 rfl
    have lX := X2.out.1; have cX0 := X2.out.at 0 rfl; have fX0 := X2.out.free 0 rfl; have cX1 := X2.out.at 1 rfl; have fX1 := X2.out.free 1 rfl; have cX2 := X2.out.at 2 rfl; have fX2 := X2.out.free 2 rfl; have cX3 := X2.out.at 3 rfl; have fX3 := X2.out.free 3 rfl; have cX4 := X2.out.at 4 rfl; have fX4 := X2.out.free 4 rfl; have cX5 := X2.out.at 5 rfl; have fX5 := X2.out.free 5 rfl; have cX6 := X2.out.at 6 rfl; have fX6 := X2.out.free 6 rfl
    gi_wp2_with (gi_at_builtin; go_loud (refine wpListIn_append_own_at _ rfl _ _ 98 rfl W0.heap.size 111 i0 _ 6 64 Try.underlying98 hi hi0 hi1 hi2 rfl (by decide) _ pre.length _ rfl (OW2.out.alloc _) ⟨V2.heap.size, 0, none⟩ 1 1 (gcells t) rfl rfl hnew (by intro u hu; simp [gcells] at hu; rcases hu with rfl | rfl | rfl | rfl | rfl | rfl <;> rfl) (by unfold maxLen; omega) (by omega) (by simp; omega) ?_); intro v' w4 hown hgrow _ hat; obtain ⟨g', cap', rfl⟩ := ownsRow_succ hown; have T3 := Lib.hid (blk_grown (T2.out.alloc _) hgrow (row_far OW2.out (by omega))); clear lT cT0 fT0; have lT := T3.out.1; have cT0 := T3.out.at 0 rfl; have fT0 := T3.out.free 0 rfl)
    clear lT cT0 fT0 lX cX0 cX1 cX2 cX3 cX4 cX5 cX6 fX0 fX1 fX2 fX3 fX4 fX5 fX6
    have z := HZ0.out
    have hsv : some (⟨g', 0, none⟩ : Addr) = some ⟨g', 0, none⟩ := rfl
    have hfar : ∀ b, b < W0.heap.size → some b ≠ (Value.slice va pre.length vc).ownBlock := fun b hb e => row_far OW2.out hb e.symm
    have hBn : ∀ n1, n1 ≤ w1.heap.size → Below n1 V2 (w4.setCell ⟨w1.heap.size, 0, none⟩ (.slice (some ⟨g', 0, none⟩) (pre.length + 1) cap')) := fun n1 h1 =>
      (((Below.refl n1 V2).alloc (by omega) _).grown hgrow (by simp; omega) (fun k e => by have := (OW2.out.lt k e).1; omega)).setCell h1 _
    refine ⟨(KeepsOthers.alloc V2 _).trans ((KeepsOthers.of_grownBy hgrow (row_cells (OW2.out.alloc _))).trans (KeepsOthers.setCell _ _ _)), ⟨HB2.out.trans (hBn _ (by omega)), (blk_grown (R2.out.alloc _) hgrow (row_far OW2.out (by omega))).other (by simp; omega) _, some ⟨g', 0, none⟩, cap', T3.out.set 0 (by simp) _, row_set (by rw [rowG_snoc]; exact hown) (by show w1.heap.size < W0.heap.size; omega) _, ?_⟩, hBn _ (by omega), ?_, fun b hb1 hb2 => ?_⟩
    · exact (FldG.snoc t HFL.out (by simp; omega) (fun b o hb hc => (Below.heap_alloc _ _ _ (Array.getElem?_eq_some_iff.1 (HTN.out.same b o hb (.inr hc))).1).trans (HTN.out.same b o hb (.inr hc))) hgrow hat hz0 (fun k e => (HOW.out.lt k e).2) (HO.out.alloc _)).block (by simp) (fun b h1 _ _ => Below.heap_setCell _ _ _ b (by show b ≠ w1.heap.size; omega))
    · exact (Below.heap_setCell _ _ _ _ (by show w1.heap.size + 1 ≠ w1.heap.size; omega)).trans ((hgrow.block _ (by simp; omega) (hfar _ hA1)).trans (Below.heap_alloc _ _ _ (by omega)))
    · exact (Below.heap_setCell _ _ _ _ (by show b ≠ w1.heap.size; omega)).trans ((hgrow.block _ (by simp; omega) (fun e => by have := (HOW.out.lt b e.symm).2; omega)).trans (Below.heap_alloc _ _ _ hb2))
  case no =>
    rintro l pre V0 V1 V2 ⟨hB, hR, va, vc, hT, how, hfl⟩ hTn hz hz2 hz0 hX
    have X2 := Lib.hid hX; have R2 := Lib.hid (hTn.blk hR (by simp))
    have HB2 := Lib.hid (hB.trans (hTn.below hn0 hB.size))
    clear hT hX hR how hfl hTn hB
    have lX := X2.out.1; have cX0 := X2.out.at 0 rfl; have fX0 := X2.out.free 0 rfl; have cX1 := X2.out.at 1 rfl; have fX1 := X2.out.free 1 rfl; have cX2 := X2.out.at 2 rfl; have fX2 := X2.out.free 2 rfl; have cX3 := X2.out.at 3 rfl; have fX3 := X2.out.free 3 rfl; have cX4 := X2.out.at 4 rfl; have fX4 := X2.out.free 4 rfl; have cX5 := X2.out.at 5 rfl; have fX5 := X2.out.free 5 rfl; have cX6 := X2.out.at 6 rfl; have fX6 := X2.out.free 6 rfl
    have lR := R2.out.1; have cR0 := R2.out.at 0 rfl; have fR0 := R2.out.free 0 rfl; have cR1 := R2.out.at 1 rfl; have fR1 := R2.out.free 1 rfl
    gi_wp2
    exact ⟨(KeepsOthers.setCell _ _ _).trans (KeepsOthers.setCell _ _ _), HB2.out.trans (((Below.refl _ V2).setCell (by show w.heap.size ≤ w.heap.size + 1; omega) _).setCell (by show w.heap.size ≤ w.heap.size + 1; omega) _), (R2.out.set 0 (by simp) _).set 1 (by simp) _⟩
  case done =>
    rintro D xs V hD ⟨L', h1, h2⟩ ⟨hB, hR, va, vc, hT, how, hfl⟩ hK
    have T2 := Lib.hid hT; have R2 := Lib.hid hR
    have lT := T2.out.1; have cT0 := T2.out.at 0 rfl; have fT0 := T2.out.free 0 rfl
    have lR := R2.out.1; have cR0 := R2.out.at 0 rfl; have fR0 := R2.out.free 0 rfl; have cR1 := R2.out.at 1 rfl; have fR1 := R2.out.free 1 rfl
    gi_wp2
    clear lT cT0 fT0 lR cR0 cR1 fR0 fR1
    have hRD : (⟨w.heap.size + 1, 0, none⟩ : Addr).block < W0.heap.size := by show w.heap.size + 1 < W0.heap.size; omega
    have hK' := ((KeepsOthers.setCell V ⟨w.heap.size + 1, 0, none⟩ (.int .i64 0)).trans (KeepsOthers.setCell _ ⟨w.heap.size + 1, 1, none⟩ (.slice va xs.length vc))).same D _ hK rfl
    have hBV := ((Below.refl w.heap.size V).setCell (p := ⟨w.heap.size + 1, 0, none⟩) (by show w.heap.size ≤ w.heap.size + 1; omega) (.int .i64 0)).setCell (p := ⟨w.heap.size + 1, 1, none⟩) (by show w.heap.size ≤ w.heap.size + 1; omega) (.slice va xs.length vc)
    have hRV : Blk ((V.setCell ⟨w.heap.size + 1, 0, none⟩ (.int .i64 0)).setCell ⟨w.heap.size + 1, 1, none⟩ (.slice va xs.length vc)) (w.heap.size + 1) [.int .i64 0, .slice va xs.length vc] := (R2.out.set 0 (by simp) _).set 1 (by simp) _
    have hOV := row_set (row_set how hRD (.int .i64 0)) (p := ⟨w.heap.size + 1, 1, none⟩) hRD (.slice va xs.length vc)
    have hFV : FldG ((V.setCell ⟨w.heap.size + 1, 0, none⟩ (.int .i64 0)).setCell ⟨w.heap.size + 1, 1, none⟩ (.slice va xs.length vc)) W0.heap.size (.slice va xs.length vc) xs := hfl.block (by simp) (fun b hb _ _ => (Below.heap_setCell _ _ _ b (by show b ≠ w.heap.size + 1; omega)).trans (Below.heap_setCell _ _ _ b (by show b ≠ w.heap.size + 1; omega)))
    have hzV : V.heap.size ≤ ((V.setCell ⟨w.heap.size + 1, 0, none⟩ (.int .i64 0)).setCell ⟨w.heap.size + 1, 1, none⟩ (.slice va xs.length vc)).heap.size := by simp
    generalize (V.setCell ⟨w.heap.size + 1, 0, none⟩ (.int .i64 0)).setCell ⟨w.heap.size + 1, 1, none⟩ (.slice va xs.length vc) = Vf at *
    have hTF : Turn W0.heap.size Vf (Vf.putObj D (.deferred none)) := Turn.put _ hD hK' rfl
    have hRW := hTF.blk hRV (by simp)
    obtain ⟨rfl, rfl⟩ : co = 0 ∧ L = L' := by
      rcases HC.out with ⟨hx, _⟩ | ⟨hx, hy⟩
      · rw [hx] at h1; cases h1
      · rw [hx] at h1; cases h1; exact ⟨hy, rfl⟩
    obtain ⟨a', c', he, hg⟩ := rowG_GVO (hTF.row hOV) (hTF.fld hFV) (Nat.le_refl _)
    simp only [Value.slice.injEq] at he
    obtain ⟨rfl, _, rfl⟩ := he
    obtain ⟨hc1, hc2⟩ := row_cap (hTF.row hOV)
    have hBF := (hB.trans hBV).trans (hTF.below hn0 (by have := hB.size; omega))
    have c0 := hRW.at 0 rfl
    have c1 := hRW.at 1 rfl
    refine ⟨by simp, .inl ⟨_, _, rfl, run_takeDeferred hK', ?_⟩⟩
    refine ⟨.agg #[.int .i64 0, .slice va xs.length vc], by simp [results, Try.results75, go_sem, c0, c1], ?_⟩
    rw [h2.1] at hg hc1 ⊢
    exact ⟨va, vc, gT xs, rfl, gvo_mono hg hn0, match_same h2, hBF, hc1, hc2⟩
  case stop =>
    rintro D V hD hN ⟨hB, hR⟩ hK
    gi_wp2
    have hTF : Turn W0.heap.size V (V.putObj D (.deferred none)) := Turn.put _ hD hK rfl
    have hRW := hTF.blk hR (by simp)
    obtain ⟨rfl, rfl⟩ : co = 1 ∧ L = [] := by
      rcases HC.out with ⟨_, hx⟩ | ⟨hx, _⟩
      · exact hx
      · rw [hx] at hN; cases hN
    have hBF := hB.trans (hTF.below hn0 hB.size)
    have c0 := hRW.at 0 rfl
    have c1 := hRW.at 1 rfl
    refine ⟨by simp, .inl ⟨_, _, rfl, run_takeDeferred hK, ?_⟩⟩
    refine ⟨.agg #[.int .i64 1, .slice none 0 0], by simp [results, Try.results75, go_sem, c0, c1], ?_⟩
    exact ⟨none, 0, fun _ => gzero, rfl, .inl rfl, fun i hi => (by simp at hi), hBF, Nat.le_refl _, by simp [maxLen]⟩

theorem implOI : ImplOI := fun h ac bu a n c f co L w hs hnc hcm hk => by
  rcases hk with ⟨k, h1, h2, rfl, rfl⟩ | ⟨h1, h2, h3, h4⟩ | ⟨h1, h2, h3⟩
  · exact implOI_fault h ac bu a n c f _ w hs h1 h2
  · exact implOI_none h ac bu a n c f co L w hs hnc hcm h1 (.inl ⟨h2, h3, h4⟩)
  · exact implOI_none h ac bu a n c f co L w hs hnc hcm h1 (.inr ⟨h2, h3⟩)
end Go.Proofs.Ytbhjmomphajnnaa

namespace Go.Proofs.Ytbhjmomphajnnaa
open Go.RowKit
set_option linter.unusedVariables false

theorem parse_sorted {f : Nat → Int} {e : Nat} : ∀ (d a : Nat) (L : List Ob), e - a ≤ d → parse f e a = some L → L.Pairwise (fun x y => x.at_ < y.at_)
  | d, a, L, hd, hp => by
    by_cases h : a < e
    · by_cases hg : Good f e a
      · rw [parse_good h hg] at hp
        cases hr : parse f e (a + 2 + szOf f a) with
        | none => rw [hr] at hp; cases hp
        | some L' =>
          rw [hr] at hp
          simp only [Option.map_some, Option.some.injEq] at hp
          subst hp
          match d with
          | 0 => omega
          | d + 1 =>
            refine List.pairwise_cons.mpr ⟨fun y hy => ?_, parse_sorted d _ L' (by omega) hr⟩
            have := parse_from (e - (a + 2 + szOf f a)) _ L' (Nat.le_refl _) hr y hy
            show (a : Int) < y.at_
            omega
      · rw [parse_bad h hg] at hp; cases hp
    · rw [parse_stop h] at hp
      cases hp
      exact List.Pairwise.nil

theorem sorted_at {f : Nat → Int} {e a : Nat} {L : List Ob} (hp : parse f e a = some L) (i j : Nat) (hij : i < j) (hj : j < L.length) : (obT f L i).at_ < (obT f L j).at_ := by
  have h := List.pairwise_iff_getElem.mp (parse_sorted (e - a) a L (Nat.le_refl _) hp) i j (by omega) hj hij
  simpa [obT, List.getElem?_eq_getElem hj, List.getElem?_eq_getElem (show i < L.length by omega), xT, obG] using h

theorem sorted_T {f : Nat → Int} {e a : Nat} {L : List Ob} {T : Nat → GM} (hp : parse f e a = some L) (hT : ∀ i, i < L.length → GSame (T i) (obT f L i)) (i j : Nat) (hij : i < j) (hj : j < L.length) : (T i).at_ < (T j).at_ := by
  rw [(hT i (by omega)).1, (hT j hj).1]; exact sorted_at hp i j hij hj

theorem obT_get (f : Nat → Int) {L : List Ob} {i : Nat} (hi : i < L.length) : obT f L i = obG f L[i] := by simp [obT, List.getElem?_eq_getElem hi, xT]

theorem heads_T {f : Nat → Int} {n e a : Nat} {L : List Ob} {T : Nat → GM} (hp : parse f e a = some L) (he : e ≤ n) (hw : ∀ i, i < n → Word (f i)) (hT : ∀ i, i < L.length → GSame (T i) (obT f L i)) : Heads L.length T := fun i hi => by
  obtain ⟨h1, h2, h3, h4, h5, h6, h7⟩ := hT i hi
  rw [obT_get f hi] at h1 h2 h3 h4 h5 h6 h7
  obtain ⟨a', hx, hg⟩ := parse_all (e - a) a L (Nat.le_refl _) hp L[i] (List.getElem_mem hi)
  obtain ⟨o1, _, _, _, o5⟩ := parse_ok hp he hw L[i] (List.getElem_mem hi)
  refine ⟨?_, ?_, fun k hk => ?_⟩
  · rw [h2, h3, h4, h5]
    show HOk L[i].s L[i].m L[i].o L[i].h
    rw [hx]; exact hg.2.1.2
  · rw [h6, h2]; rfl
  · rw [h7 k hk]
    rw [h6] at hk
    exact o5 k hk

theorem findO_at {f : Nat → Int} {e a : Nat} {L : List Ob} (hp : parse f e a = some L) {i : Nat} (hi : i < L.length) : findO L L[i].at_ = some L[i] := by
  have hs := List.pairwise_iff_getElem.mp (parse_sorted (e - a) a L (Nat.le_refl _) hp)
  cases hf : findO L L[i].at_ with
  | none =>
    have := List.find?_eq_none.mp hf L[i] (List.getElem_mem hi)
    simp at this
  | some x =>
    have h1 := List.find?_some hf
    have h2 := List.mem_of_find?_eq_some hf
    obtain ⟨j, hj, rfl⟩ := List.getElem_of_mem h2
    have h3 : L[j].at_ = L[i].at_ := by simpa using h1
    rcases Nat.lt_trichotomy i j with h | h | h
    · have := hs i j hi hj h; omega
    · subst h; rfl
    · have := hs j i hj hi h; omega

theorem may_leads {f : Nat → Int} {e a : Nat} {L : List Ob} {T : Nat → GM} (hp : parse f e a = some L) (hT : ∀ i, i < L.length → GSame (T i) (obT f L i)) (o v : Int) : MayG L.length T o v ↔ leadsB L o v = true := by
  unfold MayG leadsB
  by_cases h0 : v = 0
  · simp [h0]
  · rw [if_neg h0]
    constructor
    · rintro (h | ⟨i, hi, h1, h2⟩)
      · exact absurd h h0
      · obtain ⟨a1, _, _, a4, _⟩ := hT i hi
        rw [obT_get f hi] at a1 a4
        have e1 : L[i].at_ = v - 1 := by rw [← h1, a1]; rfl
        rw [← e1, findO_at hp hi]
        have : L[i].o = o := by rw [← h2, a4]; rfl
        simpa using this
    · intro h
      cases hf : findO L (v - 1) with
      | none => rw [hf] at h; cases h
      | some x =>
        rw [hf] at h
        have h1 := List.find?_some hf
        obtain ⟨j, hj, rfl⟩ := List.getElem_of_mem (List.mem_of_find?_eq_some hf)
        obtain ⟨a1, _, _, a4, _⟩ := hT j hj
        rw [obT_get f hj] at a1 a4
        refine .inr ⟨j, hj, ?_, ?_⟩
        · rw [a1]; show L[j].at_ = v - 1; simpa using h1
        · rw [a4]; show L[j].o = o; simpa using h

theorem ptg_points {f : Nat → Int} {e a : Nat} {L : List Ob} {T : Nat → GM} (hp : parse f e a = some L) (hT : ∀ i, i < L.length → GSame (T i) (obT f L i)) (hsz : ∀ y ∈ L, 0 ≤ y.s ∧ y.s ≤ 12) : PtG L.length T ↔ Points f L := by
  constructor
  · intro h x hx k hk hb
    obtain ⟨i, hi, rfl⟩ := List.getElem_of_mem hx
    obtain ⟨a1, a2, a3, a4, a5, a6, a7⟩ := hT i hi
    rw [obT_get f hi] at a1 a2 a3 a4 a5 a6 a7
    have hz := hsz L[i] hx
    have hkn : k < (T i).n := by rw [a6]; show k < L[i].s.toNat; omega
    have := (may_leads hp hT _ _).1 (h i hi k hkn (by rw [a3]; exact hb))
    rw [a4, a7 k hkn] at this
    exact this
  · intro h i hi k hk hb
    obtain ⟨a1, a2, a3, a4, a5, a6, a7⟩ := hT i hi
    rw [obT_get f hi] at a1 a2 a3 a4 a5 a6 a7
    refine (may_leads hp hT _ _).2 ?_
    rw [a4, a7 k hk]
    rw [a6] at hk
    have hk' : k < L[i].s.toNat := hk
    exact h L[i] (List.getElem_mem hi) k (by omega) (by rw [a3] at hb; exact hb)
end Go.Proofs.Ytbhjmomphajnnaa

namespace Go.Proofs.Ytbhjmomphajnnaa
open Go.RowKit
set_option linter.unusedVariables false

theorem gvo_set {w : World} {lo hi N : Nat} {a : Option Addr} {T : Nat → GM} (h : GVO w lo hi a N T) {p : Addr} (hp : p.block < lo) (u : Value) : GVO (w.setCell p u) lo hi a N T :=
  h.keeps (keeps_setCell (p := p) (Nat.le_refl _) (Nat.lt_succ_self _) u) (.inr (by omega))

theorem gvo_wide {w : World} {lo hi lo' hi' N : Nat} {a : Option Addr} {T : Nat → GM} (h : GVO w lo hi a N T) (h1 : lo' ≤ lo) (h2 : hi ≤ hi') : GVO w lo' hi' a N T := by
  rcases h with h0 | ⟨b, q, e, h⟩
  · exact .inl h0
  · exact .inr ⟨b, q, e, Nat.le_trans h1 h.glo, Nat.lt_of_lt_of_le h.ghi h2, h.lt, h.six, h.free, fun i hi => (h.flds i hi).widen h1 h2, h.off, h.apart⟩

theorem isOI_empty {h : Int} {n : Nat} {f : Nat → Int} {ac bu co : Int} {L : List Ob} (ho : IsOI h n f ac bu co L) (h0 : ¬ co = 0) : IsOI h n f ac bu co [] := by
  rcases ho with ⟨k, h1, h2, h3, _⟩ | ⟨h1, h2, h3, _⟩ | ⟨_, _, h3⟩
  · exact .inl ⟨k, h1, h2, h3, rfl⟩
  · exact .inr (.inl ⟨h1, h2, h3, rfl⟩)
  · exact absurd h3 h0

/-- What the objects of an arena that is right are, and the code of one that is not. -/
def IsSO (h : Int) (n : Nat) (f : Nat → Int) (ac bu k : Int) (L : List Ob) : Prop := (IsSF h n f ac bu k ∧ ¬ k = 0 ∧ L = []) ∨ (k = 0 ∧ IsSF h n f ac bu 0 ∧ IsOI h n f ac bu 0 L)

theorem isSO_some {h : Int} {n : Nat} {f : Nat → Int} {ac bu k : Int} (hk : IsSF h n f ac bu k) : ∃ L, IsSO h n f ac bu k L := by
  by_cases h0 : k = 0
  · subst h0
    obtain ⟨L, hL⟩ := isSF_zero hk
    exact ⟨L, .inr ⟨rfl, hk, hL⟩⟩
  · exact ⟨[], .inl ⟨hk, h0, rfl⟩⟩

set_option maxRecDepth 100000 in
set_option maxHeartbeats 1600000 in
theorem shaped_fault (h ac bu : Int) (a : Option Addr) (n c : Nat) (f : Nat → Int) (w : World) (hs : Src w a n f) (hnc : n ≤ c) (hcm : c ≤ maxLen) (k : Int) (ho : IsOI h n f ac bu k []) (hk0 : ¬ k = 0) : Calls Try.prog 68 #[.agg #[.int .i64 h, .slice a n c, .int .i64 ac, .int .i64 bu]] w (RetORG w f k []) := by
  have HS := Lib.hid hs; have HCM := Lib.hid hcm; have HO := Lib.hid ho
  clear hs hcm ho
  go_enter Try.func68, Try.ntmps68
  go_wp2_with fail
  refine (implOI h ac bu a n c f k [] _ ((HS.out.alloc _).alloc _) hnc HCM.out HO.out).mono ?_
  rintro e w1 ⟨a1, c1, T, rfl, hg, hs1, hb, hc1, hc2⟩
  have HB1 := Lib.hid (thru2 (Below.refl _ _) hb)
  have A_1 := Lib.hid (((Blk.new_at (w := w) (cs := #[.int .i64 h, .slice a n c, .int .i64 ac, .int .i64 bu]) (t := 26) (w.heap.size) rfl).alloc _).below hb)
  have R_1 := Lib.hid ((Blk.new_at (w := w.alloc (.cells #[.int .i64 h, .slice a n c, .int .i64 ac, .int .i64 bu] 26)) (cs := #[.int .i64 0, .slice none 0 0]) (t := 121) (w.heap.size + 1) (by simp)).below hb)
  have S_1 := Lib.hid (((HS.out.alloc _).alloc _).below hb)
  have z1 : w.heap.size + 2 ≤ w1.heap.size := by have := hb.size; simp at this; omega
  have HG := Lib.hid (gvo_mono hg (show w.heap.size + 2 ≤ _ by simp))
  have HT := Lib.hid hs1
  have HC1 := Lib.hid (And.intro hc1 hc2)
  clear hb hg hs1 hc1 hc2
  have hd : (k != 0) = true := by simpa using hk0
  have HBL := HB1
  have lR := R_1.out.1; have cR0 := R_1.out.at 0 rfl; have fR0 := R_1.out.free 0 rfl; have cR1 := R_1.out.at 1 rfl; have fR1 := R_1.out.free 1 rfl
  go_wp2
  refine bodyPost_ret (v := .agg #[.int .i64 k, .slice a1 ([] : List Ob).length c1]) (by simp [results, Try.results68, go_sem, lR, cR0, cR1]) rfl ⟨a1, c1, T, rfl, ?_, HT.out, ?_, HC1.out.1, HC1.out.2⟩
  · refine gvo_wide (lo := w.heap.size + 2) (hi := w1.heap.size) ?_ (by omega) (by (try simp); (try omega))
    repeat (first | (with_reducible refine gvo_set ?_ (by (try simp); (try omega)) _) | (with_reducible refine GVO.alloc ?_ _))
    exact HG.out
  · repeat (first | (with_reducible refine Below.setCell ?_ (by (try simp); (try omega)) _) | (with_reducible refine Below.alloc ?_ (by (try simp); (try omega)) _) | (with_reducible refine Below.drew ?_))
    exact HBL.out

set_option maxRecDepth 100000 in
set_option maxHeartbeats 1600000 in
theorem shaped_stray (h ac bu : Int) (a : Option Addr) (n c : Nat) (f : Nat → Int) (w : World) (hs : Src w a n f) (hnc : n ≤ c) (hcm : c ≤ maxLen) (L : List Ob) (ho : IsOI h n f ac bu 0 L) (hp : ¬ Points f L) : Calls Try.prog 68 #[.agg #[.int .i64 h, .slice a n c, .int .i64 ac, .int .i64 bu]] w (RetORG w f 8 []) := by
  have hpz := (isOI_zero ho).2
  have hLs := parse_sizes _ _ L (Nat.le_refl _) hpz
  obtain ⟨⟨⟨q1, q2⟩, ⟨q3, q4⟩, q5, q6⟩, qn, qw⟩ := isFault_ok (isOI_zero ho).1
  have hPUn : (baseI ac h).toNat + bu.toNat ≤ n := by rcases (by omega : ac = 0 ∨ ac = 1) with rfl | rfl <;> simp [baseI] <;> omega
  have HSRT := Lib.hid (fun (T : Nat → GM) (hT : ∀ i, i < L.length → GSame (T i) (obT f L i)) => sorted_T hpz hT)
  have HHDS := Lib.hid (fun (T : Nat → GM) (hT : ∀ i, i < L.length → GSame (T i) (obT f L i)) => heads_T hpz hPUn qw hT)
  have HPTP := Lib.hid (fun (T : Nat → GM) (hT : ∀ i, i < L.length → GSame (T i) (obT f L i)) => ptg_points hpz hT hLs)
  have hL4 : L.length ≤ 1048576 := by have := parse_length _ _ L (Nat.le_refl _) hpz; omega
  have HKF := Lib.hid (isOI_zero ho).1
  have HO := Lib.hid ho
  clear hpz hLs q1 q2 q3 q4 q5 q6 qn qw hPUn ho
  have HS := Lib.hid hs; have HCM := Lib.hid hcm; have HNP := Lib.hid hp
  clear hs hcm hp
  go_enter Try.func68, Try.ntmps68
  go_wp2_with fail
  refine (implOI h ac bu a n c f 0 L _ ((HS.out.alloc _).alloc _) hnc HCM.out HO.out).mono ?_
  rintro e w1 ⟨a1, c1, T, rfl, hg, hs1, hb, hc1, hc2⟩
  have HB1 := Lib.hid (thru2 (Below.refl _ _) hb)
  have A_1 := Lib.hid (((Blk.new_at (w := w) (cs := #[.int .i64 h, .slice a n c, .int .i64 ac, .int .i64 bu]) (t := 26) (w.heap.size) rfl).alloc _).below hb)
  have R_1 := Lib.hid ((Blk.new_at (w := w.alloc (.cells #[.int .i64 h, .slice a n c, .int .i64 ac, .int .i64 bu] 26)) (cs := #[.int .i64 0, .slice none 0 0]) (t := 121) (w.heap.size + 1) (by simp)).below hb)
  have S_1 := Lib.hid (((HS.out.alloc _).alloc _).below hb)
  have z1 : w.heap.size + 2 ≤ w1.heap.size := by have := hb.size; simp at this; omega
  have HG := Lib.hid (gvo_mono hg (show w.heap.size + 2 ≤ _ by simp))
  have HT := Lib.hid hs1
  have HC1 := Lib.hid (And.intro hc1 hc2)
  clear hb hg hs1 hc1 hc2
  go_wp2_with fail
  refine (stray_any a1 L.length c1 T true _ (HG.out.src.alloc _) hL4 (HSRT.out T HT.out) (HHDS.out T HT.out) ⟨fun _ hq => HNP.out ((HPTP.out T HT.out).1 hq), fun _ => rfl⟩).mono ?_
  rintro e w2 ⟨rfl, hb⟩
  have HB2 := Lib.hid (thru1 HB1.out hb)
  have X_2 := Lib.hid ((Blk.new_at (w := w1) (cs := #[.int .i64 0, .slice a1 L.length c1]) (t := 121) (w1.heap.size) rfl).below hb)
  have R_2 := Lib.hid ((R_1.out.alloc _).below hb)
  have A_2 := Lib.hid ((A_1.out.alloc _).below hb)
  have S_2 := Lib.hid ((S_1.out.alloc _).below hb)
  have G_2 := Lib.hid ((HG.out.alloc (.cells #[.int .i64 0, .slice a1 L.length c1] 121)).below hb)
  have z2 : w1.heap.size + 1 ≤ w2.heap.size := by have := hb.size; simp at this; omega
  clear hb HB1 R_1 A_1 S_1 HG
  have HBL := HB2
  have lR := R_2.out.1; have cR0 := R_2.out.at 0 rfl; have fR0 := R_2.out.free 0 rfl; have cR1 := R_2.out.at 1 rfl; have fR1 := R_2.out.free 1 rfl
  go_wp2
  refine bodyPost_ret (v := .agg #[.int .i64 8, .slice none 0 0]) (by simp [results, Try.results68, go_sem, cR0, cR1]) rfl ⟨none, 0, fun _ => gzero, rfl, .inl rfl, fun i hi => (by simp at hi), ?_, Nat.le_refl _, by simp [maxLen]⟩
  repeat (first | (with_reducible refine Below.setCell ?_ (by (try simp); (try omega)) _) | (with_reducible refine Below.alloc ?_ (by (try simp); (try omega)) _) | (with_reducible refine Below.drew ?_))
  exact HBL.out

set_option maxRecDepth 100000 in
set_option maxHeartbeats 1600000 in
theorem shaped_word (h ac bu : Int) (a : Option Addr) (n c : Nat) (f : Nat → Int) (w : World) (hs : Src w a n f) (hnc : n ≤ c) (hcm : c ≤ maxLen) (L : List Ob) (ho : IsOI h n f ac bu 0 L) (hp : Points f L) (hr : ¬ Rest f n (baseI ac h).toNat bu.toNat) : Calls Try.prog 68 #[.agg #[.int .i64 h, .slice a n c, .int .i64 ac, .int .i64 bu]] w (RetORG w f 8 []) := by
  have hpz := (isOI_zero ho).2
  have hLs := parse_sizes _ _ L (Nat.le_refl _) hpz
  obtain ⟨⟨⟨q1, q2⟩, ⟨q3, q4⟩, q5, q6⟩, qn, qw⟩ := isFault_ok (isOI_zero ho).1
  have hPUn : (baseI ac h).toNat + bu.toNat ≤ n := by rcases (by omega : ac = 0 ∨ ac = 1) with rfl | rfl <;> simp [baseI] <;> omega
  have HSRT := Lib.hid (fun (T : Nat → GM) (hT : ∀ i, i < L.length → GSame (T i) (obT f L i)) => sorted_T hpz hT)
  have HHDS := Lib.hid (fun (T : Nat → GM) (hT : ∀ i, i < L.length → GSame (T i) (obT f L i)) => heads_T hpz hPUn qw hT)
  have HPTP := Lib.hid (fun (T : Nat → GM) (hT : ∀ i, i < L.length → GSame (T i) (obT f L i)) => ptg_points hpz hT hLs)
  have hL4 : L.length ≤ 1048576 := by have := parse_length _ _ L (Nat.le_refl _) hpz; omega
  have HKF := Lib.hid (isOI_zero ho).1
  have HO := Lib.hid ho
  clear hpz hLs q1 q2 q3 q4 q5 q6 qn qw hPUn ho
  have HS := Lib.hid hs; have HCM := Lib.hid hcm; have HNP := Lib.hid hp; have HRR := Lib.hid hr
  clear hs hcm hp hr
  go_enter Try.func68, Try.ntmps68
  go_wp2_with fail
  refine (implOI h ac bu a n c f 0 L _ ((HS.out.alloc _).alloc _) hnc HCM.out HO.out).mono ?_
  rintro e w1 ⟨a1, c1, T, rfl, hg, hs1, hb, hc1, hc2⟩
  have HB1 := Lib.hid (thru2 (Below.refl _ _) hb)
  have A_1 := Lib.hid (((Blk.new_at (w := w) (cs := #[.int .i64 h, .slice a n c, .int .i64 ac, .int .i64 bu]) (t := 26) (w.heap.size) rfl).alloc _).below hb)
  have R_1 := Lib.hid ((Blk.new_at (w := w.alloc (.cells #[.int .i64 h, .slice a n c, .int .i64 ac, .int .i64 bu] 26)) (cs := #[.int .i64 0, .slice none 0 0]) (t := 121) (w.heap.size + 1) (by simp)).below hb)
  have S_1 := Lib.hid (((HS.out.alloc _).alloc _).below hb)
  have z1 : w.heap.size + 2 ≤ w1.heap.size := by have := hb.size; simp at this; omega
  have HG := Lib.hid (gvo_mono hg (show w.heap.size + 2 ≤ _ by simp))
  have HT := Lib.hid hs1
  have HC1 := Lib.hid (And.intro hc1 hc2)
  clear hb hg hs1 hc1 hc2
  go_wp2_with fail
  refine (stray_any a1 L.length c1 T false _ (HG.out.src.alloc _) hL4 (HSRT.out T HT.out) (HHDS.out T HT.out) ⟨fun h => (by cases h), fun hq => absurd ((HPTP.out T HT.out).2 HNP.out) hq⟩).mono ?_
  rintro e w2 ⟨rfl, hb⟩
  have HB2 := Lib.hid (thru1 HB1.out hb)
  have X_2 := Lib.hid ((Blk.new_at (w := w1) (cs := #[.int .i64 0, .slice a1 L.length c1]) (t := 121) (w1.heap.size) rfl).below hb)
  have R_2 := Lib.hid ((R_1.out.alloc _).below hb)
  have A_2 := Lib.hid ((A_1.out.alloc _).below hb)
  have S_2 := Lib.hid ((S_1.out.alloc _).below hb)
  have G_2 := Lib.hid ((HG.out.alloc (.cells #[.int .i64 0, .slice a1 L.length c1] 121)).below hb)
  have z2 : w1.heap.size + 1 ≤ w2.heap.size := by have := hb.size; simp at this; omega
  clear hb HB1 R_1 A_1 S_1 HG
  have lA := A_2.out.1; have cA0 := A_2.out.at 0 rfl; have fA0 := A_2.out.free 0 rfl; have cA1 := A_2.out.at 1 rfl; have fA1 := A_2.out.free 1 rfl; have cA2 := A_2.out.at 2 rfl; have fA2 := A_2.out.free 2 rfl; have cA3 := A_2.out.at 3 rfl; have fA3 := A_2.out.free 3 rfl
  go_wp2_with fail
  clear lA cA0 fA0 cA1 fA1 cA2 fA2 cA3 fA3
  refine (strayw_any h ac bu a n c f true _ S_2.out HKF.out ⟨fun _ => HRR.out, fun _ => rfl⟩).mono ?_
  rintro e w3 ⟨rfl, hb⟩
  have HBL := Lib.hid (HB2.out.trans (hb.mono HB2.out.size))
  have X_3 := Lib.hid (X_2.out.below hb)
  have R_3 := Lib.hid (R_2.out.below hb)
  have G_3 := Lib.hid (G_2.out.below hb)
  have z3 := hb.size
  clear hb HB2 X_2 R_2 A_2 S_2 G_2
  have lR := R_3.out.1; have cR0 := R_3.out.at 0 rfl; have fR0 := R_3.out.free 0 rfl; have cR1 := R_3.out.at 1 rfl; have fR1 := R_3.out.free 1 rfl
  go_wp2
  refine bodyPost_ret (v := .agg #[.int .i64 8, .slice none 0 0]) (by simp [results, Try.results68, go_sem, cR0, cR1]) rfl ⟨none, 0, fun _ => gzero, rfl, .inl rfl, fun i hi => (by simp at hi), ?_, Nat.le_refl _, by simp [maxLen]⟩
  repeat (first | (with_reducible refine Below.setCell ?_ (by (try simp); (try omega)) _) | (with_reducible refine Below.alloc ?_ (by (try simp); (try omega)) _) | (with_reducible refine Below.drew ?_))
  exact HBL.out

set_option maxRecDepth 100000 in
set_option maxHeartbeats 1600000 in
theorem shaped_good (h ac bu : Int) (a : Option Addr) (n c : Nat) (f : Nat → Int) (w : World) (hs : Src w a n f) (hnc : n ≤ c) (hcm : c ≤ maxLen) (L : List Ob) (ho : IsOI h n f ac bu 0 L) (hp : Points f L) (hr : Rest f n (baseI ac h).toNat bu.toNat) : Calls Try.prog 68 #[.agg #[.int .i64 h, .slice a n c, .int .i64 ac, .int .i64 bu]] w (RetORG w f 0 L) := by
  have hpz := (isOI_zero ho).2
  have hLs := parse_sizes _ _ L (Nat.le_refl _) hpz
  obtain ⟨⟨⟨q1, q2⟩, ⟨q3, q4⟩, q5, q6⟩, qn, qw⟩ := isFault_ok (isOI_zero ho).1
  have hPUn : (baseI ac h).toNat + bu.toNat ≤ n := by rcases (by omega : ac = 0 ∨ ac = 1) with rfl | rfl <;> simp [baseI] <;> omega
  have HSRT := Lib.hid (fun (T : Nat → GM) (hT : ∀ i, i < L.length → GSame (T i) (obT f L i)) => sorted_T hpz hT)
  have HHDS := Lib.hid (fun (T : Nat → GM) (hT : ∀ i, i < L.length → GSame (T i) (obT f L i)) => heads_T hpz hPUn qw hT)
  have HPTP := Lib.hid (fun (T : Nat → GM) (hT : ∀ i, i < L.length → GSame (T i) (obT f L i)) => ptg_points hpz hT hLs)
  have hL4 : L.length ≤ 1048576 := by have := parse_length _ _ L (Nat.le_refl _) hpz; omega
  have HKF := Lib.hid (isOI_zero ho).1
  have HO := Lib.hid ho
  clear hpz hLs q1 q2 q3 q4 q5 q6 qn qw hPUn ho
  have HS := Lib.hid hs; have HCM := Lib.hid hcm; have HNP := Lib.hid hp; have HRR := Lib.hid hr
  clear hs hcm hp hr
  go_enter Try.func68, Try.ntmps68
  go_wp2_with fail
  refine (implOI h ac bu a n c f 0 L _ ((HS.out.alloc _).alloc _) hnc HCM.out HO.out).mono ?_
  rintro e w1 ⟨a1, c1, T, rfl, hg, hs1, hb, hc1, hc2⟩
  have HB1 := Lib.hid (thru2 (Below.refl _ _) hb)
  have A_1 := Lib.hid (((Blk.new_at (w := w) (cs := #[.int .i64 h, .slice a n c, .int .i64 ac, .int .i64 bu]) (t := 26) (w.heap.size) rfl).alloc _).below hb)
  have R_1 := Lib.hid ((Blk.new_at (w := w.alloc (.cells #[.int .i64 h, .slice a n c, .int .i64 ac, .int .i64 bu] 26)) (cs := #[.int .i64 0, .slice none 0 0]) (t := 121) (w.heap.size + 1) (by simp)).below hb)
  have S_1 := Lib.hid (((HS.out.alloc _).alloc _).below hb)
  have z1 : w.heap.size + 2 ≤ w1.heap.size := by have := hb.size; simp at this; omega
  have HG := Lib.hid (gvo_mono hg (show w.heap.size + 2 ≤ _ by simp))
  have HT := Lib.hid hs1
  have HC1 := Lib.hid (And.intro hc1 hc2)
  clear hb hg hs1 hc1 hc2
  go_wp2_with fail
  refine (stray_any a1 L.length c1 T false _ (HG.out.src.alloc _) hL4 (HSRT.out T HT.out) (HHDS.out T HT.out) ⟨fun h => (by cases h), fun hq => absurd ((HPTP.out T HT.out).2 HNP.out) hq⟩).mono ?_
  rintro e w2 ⟨rfl, hb⟩
  have HB2 := Lib.hid (thru1 HB1.out hb)
  have X_2 := Lib.hid ((Blk.new_at (w := w1) (cs := #[.int .i64 0, .slice a1 L.length c1]) (t := 121) (w1.heap.size) rfl).below hb)
  have R_2 := Lib.hid ((R_1.out.alloc _).below hb)
  have A_2 := Lib.hid ((A_1.out.alloc _).below hb)
  have S_2 := Lib.hid ((S_1.out.alloc _).below hb)
  have G_2 := Lib.hid ((HG.out.alloc (.cells #[.int .i64 0, .slice a1 L.length c1] 121)).below hb)
  have z2 : w1.heap.size + 1 ≤ w2.heap.size := by have := hb.size; simp at this; omega
  clear hb HB1 R_1 A_1 S_1 HG
  have lA := A_2.out.1; have cA0 := A_2.out.at 0 rfl; have fA0 := A_2.out.free 0 rfl; have cA1 := A_2.out.at 1 rfl; have fA1 := A_2.out.free 1 rfl; have cA2 := A_2.out.at 2 rfl; have fA2 := A_2.out.free 2 rfl; have cA3 := A_2.out.at 3 rfl; have fA3 := A_2.out.free 3 rfl
  go_wp2_with fail
  clear lA cA0 fA0 cA1 fA1 cA2 fA2 cA3 fA3
  refine (strayw_any h ac bu a n c f false _ S_2.out HKF.out ⟨fun h => (by cases h), fun hq => absurd HRR.out hq⟩).mono ?_
  rintro e w3 ⟨rfl, hb⟩
  have HBL := Lib.hid (HB2.out.trans (hb.mono HB2.out.size))
  have X_3 := Lib.hid (X_2.out.below hb)
  have R_3 := Lib.hid (R_2.out.below hb)
  have G_3 := Lib.hid (G_2.out.below hb)
  have z3 := hb.size
  clear hb HB2 X_2 R_2 A_2 S_2 G_2
  have lR := R_3.out.1; have cR0 := R_3.out.at 0 rfl; have fR0 := R_3.out.free 0 rfl; have cR1 := R_3.out.at 1 rfl; have fR1 := R_3.out.free 1 rfl
  have lX := X_3.out.1; have cX0 := X_3.out.at 0 rfl; have fX0 := X_3.out.free 0 rfl; have cX1 := X_3.out.at 1 rfl; have fX1 := X_3.out.free 1 rfl
  go_wp2
  refine bodyPost_ret (v := .agg #[.int .i64 0, .slice a1 (L).length c1]) (by simp [results, Try.results68, go_sem, cR0, cR1]) rfl ⟨a1, c1, T, rfl, ?_, HT.out, ?_, HC1.out.1, HC1.out.2⟩
  · refine gvo_wide (lo := w.heap.size + 2) (hi := w1.heap.size) ?_ (by omega) (by (try simp); (try omega))
    repeat (first | (with_reducible refine gvo_set ?_ (by (try simp); (try omega)) _) | (with_reducible refine GVO.alloc ?_ _))
    exact G_3.out
  · repeat (first | (with_reducible refine Below.setCell ?_ (by (try simp); (try omega)) _) | (with_reducible refine Below.alloc ?_ (by (try simp); (try omega)) _) | (with_reducible refine Below.drew ?_))
    exact HBL.out

theorem shaped_any (h ac bu : Int) (a : Option Addr) (n c : Nat) (f : Nat → Int) (w : World) (hs : Src w a n f) (hnc : n ≤ c) (hcm : c ≤ maxLen) (k : Int) (L : List Ob) (hk : IsSO h n f ac bu k L) : Calls Try.prog 68 #[.agg #[.int .i64 h, .slice a n c, .int .i64 ac, .int .i64 bu]] w (RetORG w f k L) := by
  rcases hk with ⟨hk, h0, rfl⟩ | ⟨rfl, hk, ho⟩
  · rcases hk with ⟨L0, ho, _⟩ | ⟨L0, ho, hsh, rfl⟩ | ⟨_, _, _, hz⟩
    · exact shaped_fault h ac bu a n c f w hs hnc hcm k (isOI_empty ho h0) h0
    · rcases hsh with ⟨_, _, hx⟩ | ⟨hx, _⟩
      · cases hx
      · by_cases hp : Points f L0
        · exact shaped_word h ac bu a n c f w hs hnc hcm L0 ho hp (fun hr => hx ⟨hp, hr⟩)
        · exact shaped_stray h ac bu a n c f w hs hnc hcm L0 ho hp
    · exact absurd hz h0
  · obtain ⟨hp, hr⟩ := isSF_shape hk ho
    exact shaped_good h ac bu a n c f w hs hnc hcm L ho hp hr

theorem fld_code (k : Int) (a : Option Addr) (n c : Nat) (w : World) : (Instr.field 121 (.agg #[.int .i64 k, .slice a n c]) 0).run Try.prog w = .ok (.int .i64 k) w := by kernel_rfl

set_option maxRecDepth 100000 in
theorem implSF : ImplSF := fun h ac bu a n c f k w hs hnc hcm hk => by
  obtain ⟨L, hL⟩ := isSO_some hk
  have HS := Lib.hid hs; have HCM := Lib.hid hcm; have HL := Lib.hid hL
  clear hs hcm hk hL
  go_enter Try.func14, Try.ntmps14
  go_wp2_with fail
  refine (shaped_any h ac bu a n c f _ (HS.out.alloc _) hnc HCM.out k L HL.out).mono ?_
  rintro e w1 ⟨a1, c1, T, rfl, hg, hs1, hb, hc1, hc2⟩
  have HB1 := Lib.hid (thru1 (Below.refl _ _) hb)
  clear hb hg hs1 hc1 hc2
  have hf := fld_code
  go_wp2
  go_ret
  exact ⟨rfl, HB1.out⟩
end Go.Proofs.Ytbhjmomphajnnaa

namespace Go.Proofs.Ytbhjmomphajnnaa
open Go.RowKit
set_option linter.unusedVariables false

theorem eqB_iff (n m : Nat) (f g : Nat → Int) : eqB n m f g = true ↔ n = m ∧ ∀ i, i < n → f i = g i := by
  by_cases h : n = m
  · subst h
    constructor
    · intro he
      refine ⟨rfl, fun i hi => ?_⟩
      rcases Decidable.em (f i = g i) with hx | hx
      · exact hx
      · rw [eqB_no i hi hx] at he; cases he
    · rintro ⟨_, hx⟩
      exact eqB_yes hx
  · rw [eqB_no_len h]
    exact ⟨fun hx => (by cases hx), fun hx => absurd hx.1 h⟩

set_option maxRecDepth 100000 in
set_option maxHeartbeats 1600000 in
theorem so1_any (t u : GM) (r : Bool) (w : World) (s1 : Src w t.a t.n t.f) (s2 : Src w u.a u.n u.f) (hn : t.n ≤ 1048576) (hm : u.n ≤ 1048576) (hr : r = true ↔ GSame t u) :
    Calls Try.prog 147 #[.agg #[.int .i64 t.at_, .int .i64 t.s, .int .i64 t.m, .int .i64 t.o, .int .i64 t.h, .slice t.a t.n t.c], .agg #[.int .i64 u.at_, .int .i64 u.s, .int .i64 u.m, .int .i64 u.o, .int .i64 u.h, .slice u.a u.n u.c]] w (RetBool w r) := by
  have S1 := Lib.hid s1; have S2 := Lib.hid s2; have HR := Lib.hid hr
  clear s1 s2 hr
  by_cases h1 : t.at_ = u.at_
  · by_cases h2 : t.s = u.s ∧ t.m = u.m ∧ t.o = u.o ∧ t.h = u.h
    · obtain ⟨e1, e2, e3, e4⟩ := h2
      have hre : Hid (eqB t.n u.n t.f u.f = r) := Lib.hid (by
        cases hq : eqB t.n u.n t.f u.f with
        | true =>
          obtain ⟨q1, q2⟩ := (eqB_iff _ _ _ _).1 hq
          exact (HR.out.2 ⟨h1, e1, e2, e3, e4, q1, q2⟩).symm
        | false =>
          cases r with
          | false => rfl
          | true =>
            obtain ⟨_, _, _, _, _, q1, q2⟩ := HR.out.1 rfl
            rw [(eqB_iff _ _ _ _).2 ⟨q1, q2⟩] at hq; cases hq)
      go_enter Try.func147, Try.ntmps147
      go_wp2_with fail
      refine (slEqual_is r t.a u.a t.n u.n _ _ t.f u.f _ hre.out ((S1.out.alloc _).alloc _) ((S2.out.alloc _).alloc _) hn hm).mono ?_
      rintro e w1 ⟨rfl, hb⟩
      have HB1 := Lib.hid (thru2 (Below.refl _ _) hb)
      clear hb
      go_wp2
      go_ret
      exact ⟨rfl, HB1.out⟩
    · have hrf : r = false := by
        cases r with
        | false => rfl
        | true => obtain ⟨_, q1, q2, q3, q4, _⟩ := HR.out.1 rfl; exact absurd ⟨q1, q2, q3, q4⟩ h2
      subst hrf
      go_enter Try.func147, Try.ntmps147
      go_wp2
      all_goals
        go_ret
        exact ⟨rfl, ((Below.refl _ _).alloc (Nat.le_refl _) _).alloc (by simp) _⟩
  · have hrf : r = false := by
      cases r with
      | false => rfl
      | true => exact absurd (HR.out.1 rfl).1 h1
    subst hrf
    go_enter Try.func147, Try.ntmps147
    go_wp2
    go_ret
    exact ⟨rfl, ((Below.refl _ _).alloc (Nat.le_refl _) _).alloc (by simp) _⟩

set_option maxRecDepth 100000 in
set_option maxHeartbeats 1600000 in
theorem ef_any (a1 a2 : Option Addr) (N N' k1 k2 : Nat) (T U : Nat → GM) (r : Bool) (w : World) (g1 : GV w a1 N T) (g2 : GV w a2 N' U) (hr : r = true ↔ N = N' ∧ ∀ i, i < N → GSame (T i) (U i)) (hn : N ≤ 1048576) (hn' : N' ≤ 1048576) (ht : ∀ i, i < N → (T i).n ≤ 1048576) (hu : ∀ i, i < N' → (U i).n ≤ 1048576) :
    Calls Try.prog 146 #[.slice a1 N k1, .slice a2 N' k2, .func (.func 147) #[] #[]] w (RetBool w r) := by
  have G1 := Lib.hid g1; have G2 := Lib.hid g2; have HR := Lib.hid hr; have HT := Lib.hid ht; have HU := Lib.hid hu
  clear g1 g2 hr ht hu
  have eg : ∀ args w, (callFunc 147 args).run Try.prog w = .ok (.enter 147 args) w := enters_of Try.func147 (by kernel_rfl) rfl
  by_cases hl : N = N'
  · subst hl
    go_enter Try.func146, Try.ntmps146
    go_wp2
    go_loopw [17] (fun p wr => ∃ i : Nat, i ≤ N ∧ p = .int .i64 (i : Int) ∧ Hid (Below w.heap.size w wr) ∧ Hid (∀ j, j < i → GSame (T j) (U j))) (fun p _ => N - (intOf p).toNat)
    case atStart => exact ⟨0, Nat.zero_le _, rfl, Below.refl _ _, Lib.hid (fun j hj => by omega)⟩
    case round =>
      obtain ⟨i, hi, rfl, HBr, HE⟩ := hrel
      by_cases hlt : i < N
      · have hlt' : (i : Int) < (N : Int) := by omega
        have hi0 : (0 : Int) ≤ (i : Int) := by omega
        obtain ⟨b1, q1, rfl, s1⟩ : ∃ b q, a1 = some ⟨b, q, none⟩ ∧ GSrc w b q N T := by
          rcases G1.out with h0 | h
          · omega
          · exact h
        obtain ⟨b2, q2, rfl, s2⟩ : ∃ b q, a2 = some ⟨b, q, none⟩ ∧ GSrc w b q N U := by
          rcases G2.out with h0 | h
          · omega
          · exact h
        have x1 := (s1.six i hlt).below HBr.out s1.lt
        have x2 := (s2.six i hlt).below HBr.out s2.lt
        have f1 := (s1.flds i hlt).below HBr.out
        have f2 := (s2.flds i hlt).below HBr.out
        have hl2 : b2 < wr.heap.size := Nat.lt_of_lt_of_le s2.lt HBr.out.size
        have htn := HT.out i hlt
        have hun := HU.out i hlt
        have hnext : Hid (GSame (T i) (U i) → ∀ j, j < i + 1 → GSame (T j) (U j)) := Lib.hid (fun hx j hj => by
          rcases Nat.lt_succ_iff_lt_or_eq.mp hj with h | h
          · exact HE.out j h
          · subst h; exact hx)
        have hbad : Hid (¬ GSame (T i) (U i) → r = false) := Lib.hid (fun hx => by
          cases r with
          | false => rfl
          | true => exact absurd ((HR.out.1 rfl).2 i hlt) hx)
        obtain ⟨t, hte⟩ : ∃ t, T i = t := ⟨_, rfl⟩
        obtain ⟨u, hue⟩ : ∃ u, U i = u := ⟨_, rfl⟩
        rw [hte] at x1 f1 htn hnext hbad
        rw [hue] at x2 f2 hun hnext hbad
        have ST := Lib.hid f1; have SU := Lib.hid f2; have X1 := Lib.hid x1; have X2 := Lib.hid x2
        clear hte hue s1 s2 x1 x2 f1 f2
        have Y2 := Lib.hid (X2.out.below ((Below.refl wr.heap.size wr).alloc (Nat.le_refl _) (.cells #[.int .i64 t.at_, .int .i64 t.s, .int .i64 t.m, .int .i64 t.o, .int .i64 t.h, .slice t.a t.n t.c] 111)) hl2)
        obtain ⟨p0, p1, p2, p3, p4, p5⟩ := X1.out
        obtain ⟨y0, y1, y2, y3, y4, y5⟩ := Y2.out
        by_cases hs : GSame t u
        · have HS := Lib.hid hs
          clear hs
          go_wp2_with (go_at_fn 147; refine (so1_any t u true _ (ST.out.below (((Below.refl wr.heap.size wr).alloc (Nat.le_refl _) _).alloc (by simp) _)) (SU.out.below (((Below.refl wr.heap.size wr).alloc (Nat.le_refl _) _).alloc (by simp) _)) htn hun ⟨fun _ => HS.out, fun _ => rfl⟩).mono ?_; rintro e w1 ⟨rfl, hb⟩; have HB1 := Lib.hid (thru2 HBr.out hb); clear hb)
          clear p0 p1 p2 p3 p4 p5 y0 y1 y2 y3 y4 y5
          have HN := Lib.hid (hnext.out HS.out)
          go_roundw
          case rel => exact ⟨i + 1, by omega, by go_num, HB1, HN⟩
          case measure => simp [intOf]; omega
        · have hrf := hbad.out hs
          subst hrf
          have HS := Lib.hid hs
          clear hs
          go_wp2_with (go_at_fn 147; refine (so1_any t u false _ (ST.out.below (((Below.refl wr.heap.size wr).alloc (Nat.le_refl _) _).alloc (by simp) _)) (SU.out.below (((Below.refl wr.heap.size wr).alloc (Nat.le_refl _) _).alloc (by simp) _)) htn hun ⟨fun hx => (by cases hx), fun hx => absurd hx HS.out⟩).mono ?_; rintro e w1 ⟨rfl, hb⟩; have HB1 := Lib.hid (thru2 HBr.out hb); clear hb)
          go_ret
          exact ⟨rfl, HB1.out⟩
      · have hlt' : ¬ (i : Int) < (N : Int) := by omega
        have hrt : r = true := HR.out.2 ⟨by first | rfl | trivial, fun j hj => HE.out j (by omega)⟩
        subst hrt
        go_wp2
        go_ret
        exact ⟨rfl, HBr.out⟩
  · have hrf : r = false := by
      cases r with
      | false => rfl
      | true => exact absurd (HR.out.1 rfl).1 hl
    subst hrf
    have hd : ((N : Int) == (N' : Int)) = false := by simp; omega
    go_enter Try.func146, Try.ntmps146
    go_wp2
    go_ret
    exact ⟨rfl, Below.refl _ _⟩

set_option maxRecDepth 100000 in
set_option maxHeartbeats 1600000 in
theorem implSO : ImplSO := fun a1 a2 N N' k1 k2 T U r w g1 g2 hr hn hn' ht hu => by
  have G1 := Lib.hid g1; have G2 := Lib.hid g2; have HR := Lib.hid hr; have HT := Lib.hid ht; have HU := Lib.hid hu
  clear g1 g2 hr ht hu
  go_enter Try.func70, Try.ntmps70
  go_wp2_with fail
  refine (ef_any a1 a2 N N' k1 k2 T U r _ G1.out G2.out HR.out hn hn' HT.out HU.out).mono ?_
  rintro e w1 ⟨rfl, hb⟩
  have HB1 := Lib.hid hb
  clear hb
  go_wp2
  go_ret
  exact ⟨rfl, HB1.out⟩
end Go.Proofs.Ytbhjmomphajnnaa

namespace Go.Proofs.Ytbhjmomphajnnaa
open Go.RowKit
set_option linter.unusedVariables false

/-- Elements that are new are put behind all others, one after the other. -/
def addNew (out : List Int) : List Int → List Int
  | [] => out
  | x :: xs => addNew (if x ∈ out then out else out ++ [x]) xs

theorem addNew_append (out xs ys : List Int) : addNew out (xs ++ ys) = addNew (addNew out xs) ys := by
  induction xs generalizing out with
  | nil => rfl
  | cons x xs ih => exact ih _

theorem addNew_prefix (xs : List Int) : ∀ out, out <+: addNew out xs := by
  induction xs with
  | nil => exact fun out => List.prefix_refl _
  | cons x xs ih =>
    intro out
    refine List.IsPrefix.trans ?_ (ih _)
    by_cases h : x ∈ out
    · rw [if_pos h]
      exact List.prefix_refl _
    · rw [if_neg h]; exact List.prefix_append _ _

theorem mem_addNew (xs : List Int) : ∀ out y, y ∈ addNew out xs ↔ y ∈ out ∨ y ∈ xs := by
  induction xs with
  | nil => intro out y; simp [addNew]
  | cons x xs ih =>
    intro out y
    rw [addNew, ih]
    by_cases h : x ∈ out
    · rw [if_pos h]
      constructor
      · rintro (h1 | h1)
        · exact .inl h1
        · exact .inr (List.mem_cons_of_mem _ h1)
      · rintro (h1 | h1)
        · exact .inl h1
        · rcases List.mem_cons.mp h1 with rfl | h2
          · exact .inl h
          · exact .inr h2
    · rw [if_neg h]
      simp only [List.mem_append, List.mem_cons, List.not_mem_nil, or_false]
      constructor
      · rintro ((h1 | h1) | h1)
        · exact .inl h1
        · exact .inr (.inl h1)
        · exact .inr (.inr h1)
      · rintro (h1 | h1 | h1)
        · exact .inl (.inl h1)
        · exact .inl (.inr h1)
        · exact .inr h1

theorem nodup_addNew (xs : List Int) : ∀ out, out.Nodup → (addNew out xs).Nodup := by
  induction xs with
  | nil => exact fun out h => h
  | cons x xs ih =>
    intro out hn
    refine ih _ ?_
    by_cases h : x ∈ out
    · rw [if_pos h]; exact hn
    · rw [if_neg h]
      refine List.nodup_append.mpr ⟨hn, by simp, fun a ha b hb => ?_⟩
      simp only [List.mem_singleton] at hb
      subst hb
      intro e; subst e; exact h ha

/-- The scan: for each place from i on, where it leads. -/
def scanF (succ : Int → List Int) : Nat → Nat → List Int → List Int
  | 0, _, out => out
  | n + 1, i, out => if i < out.length then scanF succ n (i + 1) (addNew out (succ (out.getD i 0))) else out

theorem scanF_stop {succ : Int → List Int} {n i : Nat} {out : List Int} (h : ¬ i < out.length) : scanF succ n i out = out := by
  cases n with
  | zero => rfl
  | succ n => rw [scanF, if_neg h]

theorem scanF_prefix (succ : Int → List Int) : ∀ n i out, out <+: scanF succ n i out := by
  intro n
  induction n with
  | zero => exact fun i out => List.prefix_refl _
  | succ n ih =>
    intro i out
    rw [scanF]
    by_cases h : i < out.length
    · rw [if_pos h]; exact (addNew_prefix _ _).trans (ih _ _)
    · rw [if_neg h]; exact List.prefix_refl _

theorem scanF_nodup (succ : Int → List Int) : ∀ n i out, out.Nodup → (scanF succ n i out).Nodup := by
  intro n
  induction n with
  | zero => exact fun i out h => h
  | succ n ih =>
    intro i out hn
    rw [scanF]
    by_cases h : i < out.length
    · rw [if_pos h]; exact ih _ _ (nodup_addNew _ _ hn)
    · rw [if_neg h]; exact hn

theorem scanF_sub (succ : Int → List Int) (U : List Int) (hU : ∀ x ∈ U, ∀ y ∈ succ x, y ∈ U) : ∀ n i out, (∀ x ∈ out, x ∈ U) → ∀ x ∈ scanF succ n i out, x ∈ U := by
  intro n
  induction n with
  | zero => exact fun i out h => h
  | succ n ih =>
    intro i out hs
    rw [scanF]
    by_cases h : i < out.length
    · rw [if_pos h]
      refine ih _ _ fun x hx => ?_
      rcases (mem_addNew _ _ _).1 hx with h1 | h1
      · exact hs x h1
      · have hg : out.getD i 0 ∈ out := by
          rw [List.getD_eq_getElem?_getD, List.getElem?_eq_getElem h]; exact List.getElem_mem h
        exact hU _ (hs _ hg) x h1
    · rw [if_neg h]; exact hs

theorem nodup_length {xs U : List Int} (hn : xs.Nodup) (hs : ∀ x ∈ xs, x ∈ U) : xs.length ≤ U.length := by
  induction xs generalizing U with
  | nil => exact Nat.zero_le _
  | cons x xs ih =>
    have hx := List.nodup_cons.mp hn
    have := ih hx.2 (U := U.erase x) (fun y hy => (List.mem_erase_of_ne (fun e => by subst e; exact hx.1 hy)).mpr (hs y (List.mem_cons_of_mem _ hy)))
    have h2 := List.length_erase_of_mem (hs x (List.mem_cons_self ..))
    have h3 : 0 < U.length := List.length_pos_of_mem (hs x (List.mem_cons_self ..))
    simp only [List.length_cons]
    omega

theorem prefix_getD {xs ys : List Int} (h : xs <+: ys) {i : Nat} (hi : i < xs.length) : ys.getD i 0 = xs.getD i 0 := by
  obtain ⟨t, rfl⟩ := h
  rw [List.getD_eq_getElem?_getD, List.getD_eq_getElem?_getD, List.getElem?_append_left hi]

/-- What was scanned leads into the list. -/
theorem scanF_closed (succ : Int → List Int) (U : List Int) (hU : ∀ x ∈ U, ∀ y ∈ succ x, y ∈ U) : ∀ n i out, out.Nodup → (∀ x ∈ out, x ∈ U) → U.length ≤ n + i →
    (∀ j, j < i → j < out.length → ∀ y ∈ succ (out.getD j 0), y ∈ out) → ∀ j, j < (scanF succ n i out).length → ∀ y ∈ succ ((scanF succ n i out).getD j 0), y ∈ scanF succ n i out := by
  intro n
  induction n with
  | zero =>
    intro i out hn hs hl hc j hj y hy
    have := nodup_length hn hs
    exact hc j (by simp only [scanF] at hj; omega) hj y hy
  | succ n ih =>
    intro i out hn hs hl hc
    rw [scanF]
    by_cases h : i < out.length
    · rw [if_pos h]
      have hp := addNew_prefix (succ (out.getD i 0)) out
      refine ih _ _ (nodup_addNew _ _ hn) (fun x hx => ?_) (by omega) (fun j hj hjl y hy => ?_)
      · rcases (mem_addNew _ _ _).1 hx with h1 | h1
        · exact hs x h1
        · have hg : out.getD i 0 ∈ out := by
            rw [List.getD_eq_getElem?_getD, List.getElem?_eq_getElem h]; exact List.getElem_mem h
          exact hU _ (hs _ hg) x h1
      · rw [prefix_getD hp (show j < out.length by omega)] at hy
        rcases Nat.lt_succ_iff_lt_or_eq.mp hj with h1 | h1
        · exact (mem_addNew _ _ _).2 (.inl (hc j h1 (by omega) y hy))
        · subst h1; exact (mem_addNew _ _ _).2 (.inr hy)
    · rw [if_neg h]
      exact fun j hj y hy => hc j (by omega) hj y hy

theorem addNew_map (φ : Int → Int) (U : List Int) (hφ : ∀ x ∈ U, ∀ y ∈ U, φ x = φ y → x = y) (xs : List Int) : ∀ out, (∀ x ∈ out, x ∈ U) → (∀ x ∈ xs, x ∈ U) → addNew (out.map φ) (xs.map φ) = (addNew out xs).map φ := by
  induction xs with
  | nil => intro out _ _; rfl
  | cons x xs ih =>
    intro out ho hx
    have hm : φ x ∈ out.map φ ↔ x ∈ out := by
      constructor
      · intro h
        obtain ⟨y, hy, he⟩ := List.mem_map.mp h
        rw [← hφ y (ho y hy) x (hx x (List.mem_cons_self ..)) he]; exact hy
      · exact fun h => List.mem_map_of_mem h
    simp only [List.map_cons, addNew]
    by_cases h : x ∈ out
    · rw [if_pos h, if_pos (hm.2 h)]
      exact ih out ho fun y hy => hx y (List.mem_cons_of_mem _ hy)
    · rw [if_neg h, if_neg (fun h1 => h (hm.1 h1))]
      rw [show out.map φ ++ [φ x] = (out ++ [x]).map φ by simp]
      refine ih _ (fun y hy => ?_) fun y hy => hx y (List.mem_cons_of_mem _ hy)
      rcases List.mem_append.mp hy with h1 | h1
      · exact ho y h1
      · simp only [List.mem_singleton] at h1; subst h1; exact hx _ (List.mem_cons_self ..)

/-- The scan of what has the same form. -/
theorem scanF_map (succ succ' : Int → List Int) (φ : Int → Int) (U : List Int) (hU : ∀ x ∈ U, ∀ y ∈ succ x, y ∈ U) (hφ : ∀ x ∈ U, ∀ y ∈ U, φ x = φ y → x = y) (hs : ∀ x ∈ U, succ' (φ x) = (succ x).map φ) :
    ∀ n i out, (∀ x ∈ out, x ∈ U) → scanF succ' n i (out.map φ) = (scanF succ n i out).map φ := by
  intro n
  induction n with
  | zero => intro i out _; rfl
  | succ n ih =>
    intro i out ho
    rw [scanF, scanF]
    by_cases h : i < out.length
    · have hg : out.getD i 0 ∈ out := by
        rw [List.getD_eq_getElem?_getD, List.getElem?_eq_getElem h]; exact List.getElem_mem h
      have he : (out.map φ).getD i 0 = φ (out.getD i 0) := by
        rw [List.getD_eq_getElem?_getD, List.getD_eq_getElem?_getD, List.getElem?_map, List.getElem?_eq_getElem h]; rfl
      rw [if_pos (by simpa using h), if_pos h, he, hs _ (ho _ hg), addNew_map φ U hφ _ _ ho (fun y hy => hU _ (ho _ hg) y hy)]
      refine ih _ _ fun x hx => ?_
      rcases (mem_addNew _ _ _).1 hx with h1 | h1
      · exact ho x h1
      · exact hU _ (ho _ hg) x h1
    · rw [if_neg (by simpa using h), if_neg h]

/-- What is reached. -/
def reachL (succ : Int → List Int) (n : Nat) (roots : List Int) : List Int := scanF succ n 0 (addNew [] roots)

theorem reachL_roots (succ : Int → List Int) (n : Nat) (roots : List Int) : ∀ x ∈ roots, x ∈ reachL succ n roots := fun x hx =>
  (scanF_prefix succ n 0 _).subset ((mem_addNew _ _ _).2 (.inr hx))

theorem reachL_nodup (succ : Int → List Int) (n : Nat) (roots : List Int) : (reachL succ n roots).Nodup := scanF_nodup succ n 0 _ (nodup_addNew _ _ List.nodup_nil)

theorem addNew_sub {U roots : List Int} (hr : ∀ x ∈ roots, x ∈ U) : ∀ x ∈ addNew [] roots, x ∈ U := fun x hx => by
  rcases (mem_addNew _ _ _).1 hx with h1 | h1
  · cases h1
  · exact hr x h1

theorem reachL_sub (succ : Int → List Int) (n : Nat) (U roots : List Int) (hU : ∀ x ∈ U, ∀ y ∈ succ x, y ∈ U) (hr : ∀ x ∈ roots, x ∈ U) : ∀ x ∈ reachL succ n roots, x ∈ U := scanF_sub succ U hU n 0 _ (addNew_sub hr)

theorem reachL_closed (succ : Int → List Int) (n : Nat) (U roots : List Int) (hU : ∀ x ∈ U, ∀ y ∈ succ x, y ∈ U) (hr : ∀ x ∈ roots, x ∈ U) (hn : U.length ≤ n) : ∀ x ∈ reachL succ n roots, ∀ y ∈ succ x, y ∈ reachL succ n roots := fun x hx y hy => by
  obtain ⟨j, hj, rfl⟩ := List.getElem_of_mem hx
  have := scanF_closed succ U hU n 0 _ (nodup_addNew _ _ List.nodup_nil) (addNew_sub hr) (by omega) (fun j hj => by omega) j hj y
  change y ∈ succ ((reachL succ n roots).getD j 0) → y ∈ reachL succ n roots at this
  rw [List.getD_eq_getElem?_getD, List.getElem?_eq_getElem hj] at this
  exact this hy

theorem reachL_map (succ succ' : Int → List Int) (φ : Int → Int) (n : Nat) (U roots : List Int) (hU : ∀ x ∈ U, ∀ y ∈ succ x, y ∈ U) (hφ : ∀ x ∈ U, ∀ y ∈ U, φ x = φ y → x = y) (hs : ∀ x ∈ U, succ' (φ x) = (succ x).map φ) (hr : ∀ x ∈ roots, x ∈ U) :
    reachL succ' n (roots.map φ) = (reachL succ n roots).map φ := by
  unfold reachL
  rw [← scanF_map succ succ' φ U hU hφ hs n 0 _ (addNew_sub hr)]
  congr 1
  exact addNew_map φ U hφ roots [] (fun x hx => by cases hx) hr

/-- More fuel than there are places does not matter. -/
theorem scanF_fuel (succ : Int → List Int) (U : List Int) (hU : ∀ x ∈ U, ∀ y ∈ succ x, y ∈ U) : ∀ n m i out, out.Nodup → (∀ x ∈ out, x ∈ U) → U.length ≤ n + i → U.length ≤ m + i → scanF succ n i out = scanF succ m i out := by
  intro n
  induction n with
  | zero =>
    intro m i out hn hs h1 h2
    have := nodup_length hn hs
    rw [scanF_stop (show ¬ i < out.length by omega), scanF_stop (show ¬ i < out.length by omega)]
  | succ n ih =>
    intro m i out hn hs h1 h2
    by_cases h : i < out.length
    · have := nodup_length hn hs
      match m with
      | 0 => omega
      | m + 1 =>
        rw [scanF, scanF, if_pos h, if_pos h]
        refine ih _ _ _ (nodup_addNew _ _ hn) (fun x hx => ?_) (by omega) (by omega)
        rcases (mem_addNew _ _ _).1 hx with h1 | h1
        · exact hs x h1
        · have hg : out.getD i 0 ∈ out := by
            rw [List.getD_eq_getElem?_getD, List.getElem?_eq_getElem h]; exact List.getElem_mem h
          exact hU _ (hs _ hg) x h1
    · rw [scanF_stop h, scanF_stop h]
end Go.Proofs.Ytbhjmomphajnnaa

namespace Go.Proofs.Ytbhjmomphajnnaa
open Go.RowKit
set_option linter.unusedVariables false

/-- Where an object's pointers lead, in the order of its fields. -/
def ptrs (f : Nat → Int) (x : Ob) : List Int := (List.range x.s.toNat).filterMap fun (k : Nat) => if x.m / P2 (k : Int) % 2 = 1 ∧ ¬ f (x.at_.toNat + 2 + k) = 0 then some (f (x.at_.toNat + 2 + k) - 1) else none

def succO (f : Nat → Int) (L : List Ob) (p : Int) : List Int := match findO L p with | some x => ptrs f x | none => []

def placesO (L : List Ob) : List Int := L.map Ob.at_

def reachO (f : Nat → Int) (L : List Ob) (roots : List Int) : List Int := reachL (succO f L) L.length roots

theorem mem_ptrs {f : Nat → Int} {x : Ob} {y : Int} : y ∈ ptrs f x ↔ ∃ k : Nat, k < x.s.toNat ∧ x.m / P2 (k : Int) % 2 = 1 ∧ ¬ f (x.at_.toNat + 2 + k) = 0 ∧ y = f (x.at_.toNat + 2 + k) - 1 := by
  unfold ptrs
  rw [List.mem_filterMap]
  constructor
  · rintro ⟨k, hk, he⟩
    by_cases h : x.m / P2 (k : Int) % 2 = 1 ∧ ¬ f (x.at_.toNat + 2 + k) = 0
    · rw [if_pos h] at he
      exact ⟨k, by simpa using hk, h.1, h.2, (Option.some.inj he).symm⟩
    · rw [if_neg h] at he; cases he
  · rintro ⟨k, hk, h1, h2, rfl⟩
    exact ⟨k, by simpa using hk, if_pos ⟨h1, h2⟩⟩

theorem mem_placesO {L : List Ob} {p : Int} : p ∈ placesO L ↔ ∃ x, findO L p = some x := by
  unfold placesO
  constructor
  · intro h
    obtain ⟨x, hx, rfl⟩ := List.mem_map.mp h
    cases hf : findO L x.at_ with
    | some y => exact ⟨y, rfl⟩
    | none =>
      have := List.find?_eq_none.mp hf x hx
      simp at this
  · rintro ⟨x, hf⟩
    have h1 := List.find?_some hf
    exact List.mem_map.mpr ⟨x, List.mem_of_find?_eq_some hf, by simpa using h1⟩

theorem succO_sub {f : Nat → Int} {L : List Ob} (hp : Points f L) (hs : ∀ x ∈ L, 0 ≤ x.s) : ∀ p ∈ placesO L, ∀ y ∈ succO f L p, y ∈ placesO L := by
  intro p _ y hy
  unfold succO at hy
  cases hf : findO L p with
  | none => rw [hf] at hy; cases hy
  | some x =>
    rw [hf] at hy
    obtain ⟨k, hk, h1, h2, rfl⟩ := mem_ptrs.1 hy
    have hx := List.mem_of_find?_eq_some hf
    have h0 := hs x hx
    have hl := hp x hx k (by omega) h1
    unfold leadsB at hl
    rw [if_neg h2] at hl
    cases hf2 : findO L (f (x.at_.toNat + 2 + k) - 1) with
    | none => rw [hf2] at hl; cases hl
    | some z => exact mem_placesO.2 ⟨z, hf2⟩

theorem reachO_sub {f : Nat → Int} {L : List Ob} {roots : List Int} (hp : Points f L) (hs : ∀ x ∈ L, 0 ≤ x.s) (hr : ∀ p ∈ roots, p ∈ placesO L) : ∀ p ∈ reachO f L roots, p ∈ placesO L := reachL_sub _ _ _ _ (succO_sub hp hs) hr

theorem reachO_closed {f : Nat → Int} {L : List Ob} {roots : List Int} (hp : Points f L) (hs : ∀ x ∈ L, 0 ≤ x.s) (hr : ∀ p ∈ roots, p ∈ placesO L) : ∀ p ∈ reachO f L roots, ∀ y ∈ succO f L p, y ∈ reachO f L roots :=
  reachL_closed _ _ (placesO L) _ (succO_sub hp hs) hr (by simp [placesO])

theorem reachO_roots (f : Nat → Int) (L : List Ob) (roots : List Int) : ∀ p ∈ roots, p ∈ reachO f L roots := reachL_roots _ _ _

theorem reachO_nodup (f : Nat → Int) (L : List Ob) (roots : List Int) : (reachO f L roots).Nodup := reachL_nodup _ _ _

theorem reachO_length {f : Nat → Int} {L : List Ob} {roots : List Int} (hp : Points f L) (hs : ∀ x ∈ L, 0 ≤ x.s) (hr : ∀ p ∈ roots, p ∈ placesO L) : (reachO f L roots).length ≤ L.length := by
  have := nodup_length (reachO_nodup f L roots) (reachO_sub hp hs hr)
  simpa [placesO] using this

/-- The number of a place in a list. -/
def numL (l : List Int) (v : Int) : Option Nat := l.findIdx? (· == v)

theorem numL_some {l : List Int} {v : Int} (h : v ∈ l) : ∃ i, numL l v = some i ∧ i < l.length ∧ l.getD i 0 = v := by
  unfold numL
  cases hi : l.findIdx? (· == v) with
  | none =>
    have := List.findIdx?_eq_none_iff.mp hi v h
    simp at this
  | some i =>
    obtain ⟨h1, h2, _⟩ := List.findIdx?_eq_some_iff_getElem.mp hi
    refine ⟨i, rfl, h1, ?_⟩
    rw [List.getD_eq_getElem?_getD, List.getElem?_eq_getElem h1]
    simpa using h2

theorem numL_none {l : List Int} {v : Int} : numL l v = none ↔ v ∉ l := by
  unfold numL
  rw [List.findIdx?_eq_none_iff]
  constructor
  · intro h hv; have := h v hv; simp at this
  · intro h x hx
    simp only [beq_eq_false_iff_ne, ne_eq]
    intro e; subst e; exact h hx

theorem numL_at {l : List Int} (hn : l.Nodup) {i : Nat} (hi : i < l.length) : numL l (l.getD i 0) = some i := by
  have hg : l.getD i 0 = l[i] := by rw [List.getD_eq_getElem?_getD, List.getElem?_eq_getElem hi]; rfl
  obtain ⟨j, h1, h2, h3⟩ := numL_some (l := l) (v := l.getD i 0) (by rw [hg]; exact List.getElem_mem hi)
  rw [h1]
  have hj : l.getD j 0 = l[j] := by rw [List.getD_eq_getElem?_getD, List.getElem?_eq_getElem h2]; rfl
  rw [hj, hg] at h3
  rw [(List.getElem_inj hn).mp h3]

/-- A list under a map that keeps its elements apart: the numbers are the same. -/
theorem numL_map {l : List Int} (φ : Int → Int) {v : Int} (hn : l.Nodup) (hm : (l.map φ).Nodup) (hv : v ∈ l) : numL (l.map φ) (φ v) = numL l v := by
  obtain ⟨i, h1, h2, h3⟩ := numL_some hv
  rw [h1]
  have e : (l.map φ).getD i 0 = φ v := by
    rw [List.getD_eq_getElem?_getD, List.getElem?_map]
    rw [List.getD_eq_getElem?_getD] at h3
    rw [List.getElem?_eq_getElem h2] at h3 ⊢
    simp only [Option.map_some, Option.getD_some] at h3 ⊢
    rw [h3]
  rw [← e]
  exact numL_at hm (by simpa using h2)
end Go.Proofs.Ytbhjmomphajnnaa

namespace Go.Proofs.Ytbhjmomphajnnaa
open Go.RowKit
set_option linter.unusedVariables false

def packO (x : Ob) : Int := 1 + 2 * (x.s + 16 * (x.m + 4096 * x.o))

def wordsO (x : Ob) : Nat := 2 + x.s.toNat

/-- The objects, one behind the other from a place on. -/
def moved : Nat → List Ob → List Ob
  | _, [] => []
  | P, x :: X => ⟨(P : Int), x.s, x.m, x.o, x.h⟩ :: moved (P + wordsO x) X

def totO : List Ob → Nat
  | [] => 0
  | x :: X => wordsO x + totO X

/-- Their heads stand there. -/
def HeadsAt (g : Nat → Int) : Nat → List Ob → Prop
  | _, [] => True
  | P, x :: X => g P = packO x ∧ g (P + 1) = x.h ∧ HeadsAt g (P + wordsO x) X

def ObOk (x : Ob) : Prop := HOk x.s x.m x.o x.h ∧ x.m ≤ 4095

theorem pack_read {x : Ob} (h : ObOk x) : packO x / 2 % 16 = x.s ∧ packO x / 32 % 4096 = x.m ∧ packO x / 131072 = x.o ∧ packO x % 2 = 1 := by
  obtain ⟨⟨⟨h1, h2⟩, ⟨h3, h4⟩, ⟨h5, h6⟩, h7⟩, h8⟩ := h
  unfold packO
  refine ⟨?_, ?_, ?_, ?_⟩ <;> omega

theorem head_obj {g : Nat → Int} {P : Nat} {x : Ob} (h : ObOk x) (h1 : g P = packO x) (h2 : g (P + 1) = x.h) : objAt g P = ⟨(P : Int), x.s, x.m, x.o, x.h⟩ := by
  obtain ⟨a1, a2, a3, _⟩ := pack_read h
  unfold objAt
  rw [h1, h2, a1, a2, a3]

theorem head_size {g : Nat → Int} {P : Nat} {x : Ob} (h : ObOk x) (h1 : g P = packO x) : szOf g P = x.s.toNat := by
  unfold szOf
  rw [h1, (pack_read h).1]

theorem head_good {g : Nat → Int} {P e : Nat} {x : Ob} (h : ObOk x) (h1 : g P = packO x) (h2 : g (P + 1) = x.h) (he : P + wordsO x ≤ e) : Good g e P := by
  obtain ⟨a1, a2, a3, a4⟩ := pack_read h
  have hw : wordsO x = 2 + x.s.toNat := rfl
  refine ⟨by omega, ?_, by rw [head_size h h1]; omega⟩
  unfold ROk
  rw [h1, h2, a1, a2, a3]
  exact ⟨a4, h.1⟩

/-- Where heads stand one behind the other, there are these objects. -/
theorem parse_heads {g : Nat → Int} : ∀ (X : List Ob) (P : Nat), (∀ x ∈ X, ObOk x) → HeadsAt g P X → parse g (P + totO X) P = some (moved P X)
  | [], P, _, _ => by rw [parse_stop (by simp [totO])]; rfl
  | x :: X, P, ho, hh => by
    obtain ⟨h1, h2, h3⟩ := hh
    have hx := ho x (List.mem_cons_self ..)
    have hw : wordsO x = 2 + x.s.toNat := rfl
    have ht : totO (x :: X) = wordsO x + totO X := rfl
    rw [parse_good (by omega) (head_good hx h1 h2 (by omega)), head_size hx h1, head_obj hx h1 h2]
    have ih := parse_heads X (P + wordsO x) (fun y hy => ho y (List.mem_cons_of_mem _ hy)) h3
    rw [show P + 2 + x.s.toNat = P + wordsO x by omega, show P + totO (x :: X) = P + wordsO x + totO X by omega, ih]
    rfl

theorem moved_length : ∀ (X : List Ob) (P : Nat), (moved P X).length = X.length
  | [], _ => rfl
  | x :: X, P => by simp [moved, moved_length X]

/-- The place of the object of a number. -/
def placeAt (P : Nat) (X : List Ob) (i : Nat) : Nat := P + totO (X.take i)

theorem placeAt_zero (P : Nat) (X : List Ob) : placeAt P X 0 = P := by simp [placeAt, totO]

theorem placeAt_succ (P : Nat) (x : Ob) (X : List Ob) (i : Nat) : placeAt P (x :: X) (i + 1) = placeAt (P + wordsO x) X i := by simp [placeAt, totO]; omega

theorem moved_get : ∀ (X : List Ob) (P i : Nat) (hi : i < X.length), (moved P X)[i]? = some ⟨(placeAt P X i : Int), X[i].s, X[i].m, X[i].o, X[i].h⟩
  | x :: X, P, 0, _ => by simp [moved, placeAt_zero]
  | x :: X, P, i + 1, hi => by
    rw [placeAt_succ]
    simpa [moved] using moved_get X (P + wordsO x) i (by simpa using hi)

theorem totO_take_lt : ∀ (X : List Ob) (i : Nat) (hi : i < X.length), totO (X.take i) + wordsO X[i] ≤ totO X
  | x :: X, 0, _ => by simp [totO]
  | x :: X, i + 1, hi => by
    have := totO_take_lt X i (by simpa using hi)
    simp only [List.take_succ_cons, totO, List.getElem_cons_succ]
    omega

theorem placeAt_end (P : Nat) (X : List Ob) {i : Nat} (hi : i < X.length) : placeAt P X i + wordsO X[i] ≤ P + totO X := by
  have := totO_take_lt X i hi
  unfold placeAt; omega

theorem placeAt_step (P : Nat) (X : List Ob) {i : Nat} (hi : i < X.length) : placeAt P X (i + 1) = placeAt P X i + wordsO X[i] := by
  induction X generalizing P i with
  | nil => simp at hi
  | cons x X ih =>
    cases i with
    | zero => rw [placeAt_succ, placeAt_zero, placeAt_zero]; rfl
    | succ i => rw [placeAt_succ, placeAt_succ, ih (P + wordsO x) (by simpa using hi)]; rfl

theorem placeAt_lt (P : Nat) (X : List Ob) : ∀ (i j : Nat), i < j → j ≤ X.length → placeAt P X i + 2 ≤ placeAt P X j
  | i, 0, h, _ => by omega
  | i, j + 1, h, hj => by
    have hw : wordsO X[j] = 2 + X[j].s.toNat := rfl
    rw [placeAt_step P X (show j < X.length by omega)]
    rcases Nat.lt_succ_iff_lt_or_eq.mp h with h1 | h1
    · have := placeAt_lt P X i j h1 (by omega); omega
    · subst h1; omega

/-- The new places, in order. -/
def newPlaces (P : Nat) (X : List Ob) : List Int := (List.range X.length).map fun i => (placeAt P X i : Int)

theorem newPlaces_length (P : Nat) (X : List Ob) : (newPlaces P X).length = X.length := by simp [newPlaces]

theorem newPlaces_get (P : Nat) (X : List Ob) {i : Nat} (hi : i < X.length) : (newPlaces P X).getD i 0 = (placeAt P X i : Int) := by
  rw [List.getD_eq_getElem?_getD]
  simp [newPlaces, hi]

theorem newPlaces_nodup (P : Nat) (X : List Ob) : (newPlaces P X).Nodup := by
  refine List.pairwise_iff_getElem.mpr fun i j hi hj hij => ?_
  have hi' : i < X.length := by simpa [newPlaces] using hi
  have hj' : j < X.length := by simpa [newPlaces] using hj
  have := placeAt_lt P X i j hij (by omega)
  simp only [newPlaces, List.getElem_map, List.getElem_range, ne_eq]
  omega

theorem moved_places (P : Nat) (X : List Ob) : placesO (moved P X) = newPlaces P X := by
  apply List.ext_getElem?
  intro i
  by_cases hi : i < X.length
  · unfold placesO
    rw [List.getElem?_map, moved_get X P i hi]
    simp [newPlaces, hi]
  · rw [List.getElem?_eq_none (by simp [placesO, moved_length]; omega), List.getElem?_eq_none (by rw [newPlaces_length]; omega)]

theorem moved_find (P : Nat) (X : List Ob) {i : Nat} (hi : i < X.length) : findO (moved P X) (placeAt P X i : Int) = some ⟨(placeAt P X i : Int), X[i].s, X[i].m, X[i].o, X[i].h⟩ := by
  have hm : (placeAt P X i : Int) ∈ placesO (moved P X) := by
    rw [moved_places]
    exact List.mem_map.mpr ⟨i, by simpa using hi, rfl⟩
  obtain ⟨y, hy⟩ := mem_placesO.1 hm
  rw [hy]
  obtain ⟨j, hj, hjy⟩ := List.getElem_of_mem (List.mem_of_find?_eq_some hy)
  have hj' : j < X.length := by rwa [moved_length] at hj
  have hg := moved_get X P j hj'
  rw [List.getElem?_eq_getElem hj, hjy] at hg
  have hya : y.at_ = (placeAt P X i : Int) := by simpa using List.find?_some hy
  have he := Option.some.inj hg
  rw [he] at hya
  have hp : placeAt P X j = placeAt P X i := by have h9 : ((placeAt P X j : Nat) : Int) = (placeAt P X i : Int) := hya; omega
  have hij : i = j := by
    rcases Nat.lt_trichotomy i j with h | h | h
    · have := placeAt_lt P X i j h (by omega); omega
    · exact h
    · have := placeAt_lt P X j i h (by omega); omega
  subst hij
  rw [he]
end Go.Proofs.Ytbhjmomphajnnaa

