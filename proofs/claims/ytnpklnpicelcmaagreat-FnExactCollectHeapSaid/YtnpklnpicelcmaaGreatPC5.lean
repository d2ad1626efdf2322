/- Texts merged: RP2 to LHF. -/
import Derived.Test.YtnpklnpicelcmaaGreatPC4
namespace Go.Proofs.YtnpklnpicelcmaaGreat
open Go.RowKit
set_option linter.unusedVariables false

set_option maxRecDepth 100000 in
set_option maxHeartbeats 400000 in
theorem eqReply_same (t : SL) (w : World) :
    Calls Tryz.prog 63 #[.agg #[.int .i64 t.g, .int .i64 t.nd], .agg #[.int .i64 t.g, .int .i64 t.nd]] w (RetBool w true) := by
  go_enter Tryz.func63, Tryz.ntmps63
  go_wp2
  go_ret
  exact ⟨rfl, ((Below.refl _ _).alloc (Nat.le_refl _) _).alloc (by simp) _⟩

set_option maxRecDepth 100000 in
set_option maxHeartbeats 1600000 in
theorem eqReplyS_same (a1 a2 : Option Addr) (N k1 k2 : Nat) (T U : Nat → SL) (w : World) (h1 : PV w a1 N T) (h2 : PV w a2 N U) (he : ∀ i, i < N → T i = U i) (hN : N ≤ 1048576) :
    Calls Tryz.prog 24 #[.slice a1 N k1, .slice a2 N k2] w (RetBool w true) := by
  have H1 := Lib.hid h1; have H2 := Lib.hid (h2.congr fun i hi => (he i hi).symm)
  clear h1 h2 he
  go_enter Tryz.func24, Tryz.ntmps24
  go_wp2
  go_loopw [5] (fun p wr => ∃ i : Nat, i ≤ N ∧ p = .int .i64 (i : Int) ∧ Hid (Below w.heap.size w wr)) (fun p _ => N - (intOf p).toNat)
  case atStart => exact ⟨0, Nat.zero_le _, rfl, Below.refl _ _⟩
  case round =>
    obtain ⟨i, hi, rfl, HBr⟩ := hrel
    by_cases hlt : i < N
    · have hlt' : (i : Int) < (N : Int) := by omega
      have hi0 : (0 : Int) ≤ (i : Int) := by omega
      rcases H1.out.below HBr.out with h0 | ⟨g1, q1, rfl, r1⟩
      · omega
      rcases H2.out.below HBr.out with h0 | ⟨g2, q2, rfl, r2⟩
      · omega
      have X1 := Lib.hid (r1.two i hlt); have Y1 := Lib.hid (r2.two i hlt)
      have l1' := r1.lt; have l2' := r2.lt
      have hzr := HBr.out.size
      have Xd := Lib.hid ((r1.below (Below.refl _ _).drew).two i hlt); have Yd := Lib.hid ((r2.below (Below.refl _ _).drew).two i hlt)
      clear r1 r2
      generalize T i = t at *
      go_wp2_with fail
      go_region_held3 (fun w' => w'.cell? ⟨g1, q1 + i * 2, none⟩ = some (.int .i64 t.g) ∧ w'.cell? ⟨g1, q1 + i * 2 + 1, none⟩ = some (.int .i64 t.nd) ∧ w'.cell? ⟨g2, q2 + i * 2, none⟩ = some (.int .i64 t.g) ∧ w'.cell? ⟨g2, q2 + i * 2 + 1, none⟩ = some (.int .i64 t.nd))
        (first | (with_reducible exact twosG X1.out Y1.out) | (with_reducible exact twosG Xd.out Yd.out) | (with_reducible exact twosG X2.out Y2.out))
        (first | (go_at_call 63; refine (eqReply_same t _).mono ?_; rintro e w2 ⟨rfl, hb⟩; have HB2 := Lib.hid (thru0 (Below.refl wr.heap.size wr).drew hb); have X2 := Lib.hid (X1.out.block (HB2.out.block _ l1')); have Y2 := Lib.hid (Y1.out.block (HB2.out.block _ l2')); clear hb))
      have HB3 := Lib.hid (HBr.out.trans (HB2.out.mono hzr))
      go_wp2
      go_roundw
      case rel => exact ⟨i + 1, by omega, by go_num, HB3⟩
      case measure => simp [intOf]; omega
    · go_wp2
      go_ret
      exact ⟨rfl, HBr.out⟩
end Go.Proofs.YtnpklnpicelcmaaGreat

namespace Go.Proofs.YtnpklnpicelcmaaGreat
open Go.RowKit
set_option linter.unusedVariables false

set_option maxRecDepth 100000 in
set_option maxHeartbeats 800000 in
theorem heldHeapSlotS_any (a : Option Addr) (N c : Nat) (k : Int) (w : World) (hs : PV w a N (smkd k)) (hk0 : 0 ≤ k) (hk1 : k + 2 * (N : Int) ≤ 1048576) :
    Calls Tryz.prog 101 #[.slice a N c, .int .i64 k] w fun e w' => e = .returned (.int .i64 (k + 2 * (N : Int))) ∧ w = w' := by
  have H := Lib.hid hs
  clear hs
  go_enter Tryz.func101, Tryz.ntmps101
  go_wp2
  go_loop [1, 5] (fun u p => ∃ i : Nat, i ≤ N ∧ p = .int .i64 i ∧ u = .int .i64 (k + 2 * (i : Int))) (fun _ p => N - (intOf p).toNat)
  case atStart => exact ⟨0, Nat.zero_le _, rfl, by simp⟩
  case round =>
    obtain ⟨i, hi, rfl, rfl⟩ := hrel
    by_cases hlt : i < N
    · have hlt' : (i : Int) < (N : Int) := by omega
      have hi0 : (0 : Int) ≤ (i : Int) := by omega
      rcases H.out with h0 | ⟨b, q, rfl, hg⟩
      · omega
      obtain ⟨x0, x1⟩ := hg.two i hlt
      have hlt0 := hg.lt
      simp only [smkd] at x0 x1
      generalize hK : k + 2 * (i : Int) = K at *
      have hK0 : 0 ≤ K := by omega
      have hK1 : K + 2 ≤ 1048576 := by omega
      have HKK := Lib.hid hK
      clear hK hg
      go_wp2
      go_round
      case rel => exact ⟨i + 1, by omega, by go_num, by have := HKK.out; go_num⟩
      case measure => simp [intOf]; omega
    · go_wp2
      go_ret
      obtain rfl : i = N := by omega
      exact ⟨rfl, rfl⟩

set_option maxRecDepth 100000 in
set_option maxHeartbeats 800000 in
theorem markHeapSlotS_any (a : Option Addr) (lo hi N c : Nat) (T : Nat → SL) (k : Int) (w : World) (hs : PVO w lo hi a N T) (hk0 : 0 ≤ k) (hk1 : k + 2 * (N : Int) ≤ 1048576) :
    Calls Tryz.prog 65 #[.slice a N c, .int .i64 k] w fun e w' => e = .returned (.int .i64 (k + 2 * (N : Int))) ∧ PVO w' lo hi a N (smkd k) ∧ Keeps w w' lo hi := by
  have H := Lib.hid hs
  clear hs
  go_enter Tryz.func65, Tryz.ntmps65
  go_wp2
  go_loopw [1, 5] (fun u p wr => ∃ i : Nat, i ≤ N ∧ p = .int .i64 i ∧ u = .int .i64 (k + 2 * (i : Int)) ∧ Hid (Keeps w wr lo hi) ∧ Hid (PVO wr lo hi a N (fun j => if j < i then smkd k j else T j))) (fun _ p _ => N - (intOf p).toNat)
  case atStart => exact ⟨0, Nat.zero_le _, rfl, by simp, Keeps.refl _ _ _, by simpa using H⟩
  case round =>
    obtain ⟨i, hi9, rfl, rfl, HK, HR⟩ := hrel
    by_cases hlt : i < N
    · have hlt' : (i : Int) < (N : Int) := by omega
      have hi0 : (0 : Int) ≤ (i : Int) := by omega
      rcases HR.out with h0 | ⟨b, q, rfl, hg⟩
      · omega
      obtain ⟨x0, x1⟩ := hg.two i hlt
      obtain ⟨f0, f1⟩ := hg.free i hlt
      have hlt0 := hg.lt
      generalize hK : k + 2 * (i : Int) = K at *
      have hK0 : 0 ≤ K := by omega
      have hK1 : K + 2 ≤ 1048576 := by omega
      have HKK := Lib.hid hK
      have HQ := Lib.hid (pown_put (i := i) (t := ⟨K, K + 1⟩) hg hlt)
      clear hK hg HR
      go_wp2
      go_roundw
      case rel =>
        refine ⟨i + 1, by omega, by go_num, by have := HKK.out; go_num, HK.out.trans HQ.out.2, .inr ⟨b, q, rfl, HQ.out.1.congr fun j hj => ?_⟩⟩
        by_cases e : j = i
        · subst e
          simp only [if_true, Nat.lt_succ_self, smkd, HKK.out]
        · rw [if_neg e]
          have h2 : (j < i + 1) = (j < i) := by simp only [eq_iff_iff]; omega
          simp only [h2]
      case measure => simp [intOf]; omega
    · go_wp2
      go_ret
      obtain rfl : i = N := by omega
      refine ⟨rfl, ?_, HK.out⟩
      exact HR.out.congr fun j hj => by simp [hj]
end Go.Proofs.YtnpklnpicelcmaaGreat

namespace Go.Proofs.YtnpklnpicelcmaaGreat
open Go.RowKit
set_option linter.unusedVariables false

set_option maxRecDepth 100000 in
set_option maxHeartbeats 400000 in
theorem eqHeapSlot_same (t : SL) (w : World) :
    Calls Tryz.prog 117 #[.agg #[.int .i64 t.g, .int .i64 t.nd], .agg #[.int .i64 t.g, .int .i64 t.nd]] w (RetBool w true) := by
  go_enter Tryz.func117, Tryz.ntmps117
  go_wp2
  go_ret
  exact ⟨rfl, ((Below.refl _ _).alloc (Nat.le_refl _) _).alloc (by simp) _⟩

set_option maxRecDepth 100000 in
set_option maxHeartbeats 1600000 in
theorem eqHeapSlotS_same (a1 a2 : Option Addr) (N k1 k2 : Nat) (T U : Nat → SL) (w : World) (h1 : PV w a1 N T) (h2 : PV w a2 N U) (he : ∀ i, i < N → T i = U i) (hN : N ≤ 1048576) :
    Calls Tryz.prog 100 #[.slice a1 N k1, .slice a2 N k2] w (RetBool w true) := by
  have H1 := Lib.hid h1; have H2 := Lib.hid (h2.congr fun i hi => (he i hi).symm)
  clear h1 h2 he
  go_enter Tryz.func100, Tryz.ntmps100
  go_wp2
  go_loopw [5] (fun p wr => ∃ i : Nat, i ≤ N ∧ p = .int .i64 (i : Int) ∧ Hid (Below w.heap.size w wr)) (fun p _ => N - (intOf p).toNat)
  case atStart => exact ⟨0, Nat.zero_le _, rfl, Below.refl _ _⟩
  case round =>
    obtain ⟨i, hi, rfl, HBr⟩ := hrel
    by_cases hlt : i < N
    · have hlt' : (i : Int) < (N : Int) := by omega
      have hi0 : (0 : Int) ≤ (i : Int) := by omega
      rcases H1.out.below HBr.out with h0 | ⟨g1, q1, rfl, r1⟩
      · omega
      rcases H2.out.below HBr.out with h0 | ⟨g2, q2, rfl, r2⟩
      · omega
      have X1 := Lib.hid (r1.two i hlt); have Y1 := Lib.hid (r2.two i hlt)
      have l1' := r1.lt; have l2' := r2.lt
      have hzr := HBr.out.size
      have Xd := Lib.hid ((r1.below (Below.refl _ _).drew).two i hlt); have Yd := Lib.hid ((r2.below (Below.refl _ _).drew).two i hlt)
      clear r1 r2
      generalize T i = t at *
      go_wp2_with fail
      go_region_held3 (fun w' => w'.cell? ⟨g1, q1 + i * 2, none⟩ = some (.int .i64 t.g) ∧ w'.cell? ⟨g1, q1 + i * 2 + 1, none⟩ = some (.int .i64 t.nd) ∧ w'.cell? ⟨g2, q2 + i * 2, none⟩ = some (.int .i64 t.g) ∧ w'.cell? ⟨g2, q2 + i * 2 + 1, none⟩ = some (.int .i64 t.nd))
        (first | (with_reducible exact twosG X1.out Y1.out) | (with_reducible exact twosG Xd.out Yd.out) | (with_reducible exact twosG X2.out Y2.out))
        (first | (go_at_call 117; refine (eqHeapSlot_same t _).mono ?_; rintro e w2 ⟨rfl, hb⟩; have HB2 := Lib.hid (thru0 (Below.refl wr.heap.size wr).drew hb); have X2 := Lib.hid (X1.out.block (HB2.out.block _ l1')); have Y2 := Lib.hid (Y1.out.block (HB2.out.block _ l2')); clear hb))
      have HB3 := Lib.hid (HBr.out.trans (HB2.out.mono hzr))
      go_wp2
      go_roundw
      case rel => exact ⟨i + 1, by omega, by go_num, HB3⟩
      case measure => simp [intOf]; omega
    · go_wp2
      go_ret
      exact ⟨rfl, HBr.out⟩

set_option maxRecDepth 100000 in
set_option maxHeartbeats 400000 in
theorem szHeapSlotS_ok (a : Option Addr) (N c : Nat) (l : Int) (w : World) (hl0 : 0 ≤ l) (hl : l ≤ 1048576) (hn : N ≤ maxLen) (hh : N ≤ l) :
    Calls Tryz.prog 68 #[.slice a N c, .int .i64 l] w fun e w' => e = .returned (.int .i64 (l - N)) ∧ w = w' := by
  unfold maxLen at hn
  go_enter Tryz.func68, Tryz.ntmps68
  go_wp2
  go_ret
  exact ⟨by go_num, rfl⟩

set_option maxRecDepth 100000 in
set_option maxHeartbeats 400000 in
theorem szHeapSlotS_no (a : Option Addr) (N c : Nat) (l : Int) (w : World) (hl0 : 0 ≤ l) (hl : l ≤ 1048576) (hn : N ≤ maxLen) (hh : l < N) :
    Calls Tryz.prog 68 #[.slice a N c, .int .i64 l] w fun e w' => e = .returned (.int .i64 (-1)) ∧ w = w' := by
  unfold maxLen at hn
  go_enter Tryz.func68, Tryz.ntmps68
  go_wp2
  go_ret
  exact ⟨rfl, rfl⟩
end Go.Proofs.YtnpklnpicelcmaaGreat

namespace Go.Proofs.YtnpklnpicelcmaaGreat
open Go.RowKit
set_option linter.unusedVariables false

set_option maxRecDepth 100000 in
set_option maxHeartbeats 800000 in
theorem toHeapSlot_any (t : SL) (w : World) :
    Calls Tryz.prog 108 #[.agg #[.int .i64 t.g, .int .i64 t.nd]] w fun e w' => e = .returned (.agg #[.int .i64 t.g, .int .i64 t.nd]) ∧ Below w.heap.size w w' := by
  go_enter Tryz.func108, Tryz.ntmps108
  go_wp2
  refine bodyPost_ret (v := .agg #[.int .i64 t.g, .int .i64 t.nd]) (by simp [results, Tryz.results108, go_sem]) rfl ⟨rfl, ?_⟩
  repeat (first | (with_reducible refine Below.setCell ?_ (by (try simp); (try omega)) _) | (with_reducible refine Below.alloc ?_ (by (try simp); (try omega)) _))
  exact Below.refl _ _

theorem Tryz.infoHS : (Tryz.prog.info? 63).map (fun i => (i.zero, i.size, i.bytes)) = some (some (.agg #[.int .i64 0, .int .i64 0]), 2, 16) := by kernel_rfl

theorem Tryz.underlyingRHS : Tryz.prog.underlying 59 = some (.slice 63) := by kernel_rfl

/-- A row of zero slots. -/
theorem pown_madeHS {w : World} {lo b N cap : Nat} (h : w.ownsRow lo 63 2 (.slice (some ⟨b, 0, none⟩) N cap) N (madeCells #[.int .i64 0, .int .i64 0] (N * 2)).toList) (hl : lo ≤ b) (hp : 0 < N) : POwn w lo w.heap.size b 0 N (fun _ => ⟨0, 0⟩) := by
  have hlt : b < w.heap.size := by
    rcases h.2 with ⟨h', _⟩ | ⟨g', cap', cur, h', _, hg, _⟩
    · cases h'
    · simp only [Value.slice.injEq, Option.some.injEq, Addr.mk.injEq, and_true, true_and] at h'
      obtain ⟨rfl, rfl⟩ := h'
      exact (Array.getElem?_eq_some_iff.mp hg).1
  have hc : ∀ i, i < N → ∀ j, j < 2 → w.cell? ⟨b, i * 2 + j, none⟩ = some (#[.int .i64 0, .int .i64 0] : Array Value)[(i * 2 + j) % 2]! := fun i hi j hj => by
    have := h.cellAt (i * 2 + j) (by omega)
    rw [made_get _ _ _ (by omega)] at this
    simpa using this
  refine ⟨hl, hlt, hlt, fun i hi => ?_, fun i hi => ?_⟩
  · have m : ∀ j, j < 2 → (i * 2 + j) % 2 = j := fun j hj => by omega
    rw [Nat.zero_add]
    have k0 := hc i hi 0 (by omega); have k1 := hc i hi 1 (by omega)
    rw [m 0 (by omega)] at k0; rw [m 1 (by omega)] at k1
    exact ⟨k0, k1⟩
  · rw [Nat.zero_add]
    exact ⟨h.frozenAt _, h.frozenAt _⟩

set_option maxRecDepth 100000 in
set_option maxHeartbeats 1600000 in
theorem toHeapSlotS_any (a : Option Addr) (N c : Nat) (T : Nat → SL) (w : World) (h : PV w a N T) (hN : N ≤ 1048576) :
    Calls Tryz.prog 85 #[.slice a N c] w (RetSlots w N T) := by
  obtain ⟨i0, hi, hz0, hz1, hz2⟩ := info_parts Tryz.infoHS
  have H := Lib.hid h
  clear h
  go_enter Tryz.func85, Tryz.ntmps85
  go_wp2_with (at_make; refine wpList_make_full _ rfl _ _ 59 rfl w.heap.size 63 i0 (.agg #[.int .i64 0, .int .i64 0]) 2 Tryz.underlyingRHS hi hz0 hz1 .i64 .i64 N N N rfl rfl rfl rfl (by rw [hz2]; omega) (by unfold maxLen; omega) (Nat.le_refl _) ?_; intro w1 hown1 hgrow1)
  have hb1 : Below w.heap.size w w1 := (Below.refl _ _).grown hgrow1 (Nat.le_refl _) (by intro k hk; simp at hk)
  have HB1 := Lib.hid hb1
  rcases Nat.eq_zero_or_pos N with rfl | hp
  · clear hown1 hgrow1 hb1
    go_loop [4] (fun p => p = .int .i64 0) (fun _ => 0)
    case atStart => rfl
    case round =>
      obtain rfl := hrel
      go_wp2
      go_ret
      exact ⟨_, _, rfl, .inl rfl, HB1.out⟩
  have hgm := pown_madeHS (b := w.heap.size) (lo := w.heap.size) hown1 (Nat.le_refl _) hp
  have HG := Lib.hid hgm
  have hb2 := hb1.size
  clear hown1 hgrow1 hb1 hgm
  go_loopw [4] (fun p wr => ∃ (i : Nat), i ≤ N ∧ p = .int .i64 (i : Int) ∧ Hid (Below w.heap.size w wr) ∧ Hid (POwn wr w.heap.size wr.heap.size w.heap.size 0 N (fun j => if j < i then T j else ⟨0, 0⟩))) (fun p _ => N - (intOf p).toNat)
  case atStart => exact ⟨0, Nat.zero_le _, rfl, HB1, by simpa using HG⟩
  case round =>
    obtain ⟨i, hi9, rfl, HBr, HR⟩ := hrel
    by_cases hlt : i < N
    · have hlt' : (i : Int) < (N : Int) := by omega
      have hi0 : (0 : Int) ≤ (i : Int) := by omega
      rcases H.out.below HBr.out with h0 | ⟨b, q, rfl, hg⟩
      · omega
      · have lt := hg.lt
        obtain ⟨x0, x1⟩ := hg.two i hlt
        have hzr := HBr.out.size
        have lR := HR.out.lt
        clear hg
        go_wp2_with fail
        refine (toHeapSlot_any (T i) _).mono ?_
        rintro e w2 ⟨rfl, hb⟩
        have hr2 := HR.out.below hb
        have h6 := hr2.two i hlt; have h7 := hr2.free i hlt
        have hs2 := hb.size
        have hq := pown_put (i := i) (t := T i) (hr2.widen (Nat.le_refl _) hs2) hlt
        rw [Nat.zero_add] at h6 h7 hq
        obtain ⟨y0, y1⟩ := h6
        obtain ⟨f0, f1⟩ := h7
        have l2 : w.heap.size < w2.heap.size := by omega
        have HQ := Lib.hid hq; have HB2 := Lib.hid (thru0 HBr.out hb)
        clear hb hq hr2 x0 x1
        go_wp2
        go_roundw
        case rel =>
          refine ⟨i + 1, by omega, by go_num, HB2.out.trans (HQ.out.2.below (Nat.le_refl _) (by omega)), (HQ.out.1.widen (Nat.le_refl _) HQ.out.2.size).congr fun j hj => ?_⟩
          by_cases e : j = i
          · subst e; simp
          · have h2 : (j < i + 1) = (j < i) := by simp only [eq_iff_iff]; omega
            simp only [if_neg e, h2]
        case measure => simp [intOf]; omega
    · obtain rfl : i = N := by omega
      go_wp2
      go_ret
      exact ⟨_, _, rfl, .inr ⟨w.heap.size, 0, rfl, HR.out.congr fun j hj => by simp [hj]⟩, HBr.out⟩
end Go.Proofs.YtnpklnpicelcmaaGreat

namespace Go.Proofs.YtnpklnpicelcmaaGreat
open Go.ChangeShapes Go.WideShapes Go.ChangeAt Go.RowKit Go.Joins Go.Deep
set_option linter.unusedVariables false

theorem Tryz.cellsM166 : Tryz.prog.cellsOf 166 = 2 := by kernel_rfl
end Go.Proofs.YtnpklnpicelcmaaGreat

namespace Go.Proofs.YtnpklnpicelcmaaGreat
open Go.RowKit Go.Maps
set_option linter.unusedVariables false

/-- What is carried: the arena and its roots, and what was collected. -/
structure FCD (W w : World) (P G : Nat) (h ac bu : Int) (a : Option Addr) (n c : Nat) (f : Nat → Int) (ra : Option Addr) (l : List Int) (rco rh : Int) (b : Option Addr) (m d : Nat) (g : Nat → Int) (rac rbu : Int) (rb : Option Addr) (l2 : List Int) (rd : Nat) (mv : Int) : Prop where
  bel : Below W.heap.size W w
  ab : Blk w P [.int .i64 h, .slice a n c, .int .i64 ac, .int .i64 bu]
  gb : Blk w G [.int .i64 rco, .int .i64 rh, .slice b m d, .int .i64 rac, .int .i64 rbu, .slice rb l2.length rd, .int .i64 mv]
  wa : Src w a n f
  ra : Src w ra l.length (lf l)
  wb : Src w b m g
  rb : Src w rb l2.length (lf l2)

section

variable {W w w' : World} {P G : Nat} {h ac bu : Int} {a : Option Addr} {n c : Nat} {f : Nat → Int} {ra : Option Addr} {l : List Int} {rco rh : Int} {b : Option Addr} {m d : Nat} {g : Nat → Int} {rac rbu : Int} {rb : Option Addr} {l2 : List Int} {rd : Nat} {mv : Int}

theorem FCD.below (x : FCD W w P G h ac bu a n c f ra l rco rh b m d g rac rbu rb l2 rd mv) (hb : Below w.heap.size w w') : FCD W w' P G h ac bu a n c f ra l rco rh b m d g rac rbu rb l2 rd mv :=
  ⟨x.bel.trans (hb.mono x.bel.size), x.ab.below hb, x.gb.below hb, x.wa.below hb, x.ra.below hb, x.wb.below hb, x.rb.below hb⟩

theorem FCD.c5 (x : FCD W w P G h ac bu a n c f ra l rco rh b m d g rac rbu rb l2 rd mv) : w.cell? ⟨P, 0, none⟩ = some (.int .i64 h) ∧ w.cell? ⟨P, 1, none⟩ = some (.slice a n c) ∧ w.cell? ⟨P, 2, none⟩ = some (.int .i64 ac) ∧ w.cell? ⟨P, 3, none⟩ = some (.int .i64 bu) ∧ w.cell? ⟨G, 0, none⟩ = some (.int .i64 rco) := ⟨x.ab.at 0 rfl, x.ab.at 1 rfl, x.ab.at 2 rfl, x.ab.at 3 rfl, x.gb.at 0 rfl⟩

end
end Go.Proofs.YtnpklnpicelcmaaGreat

namespace Go.Proofs.YtnpklnpicelcmaaGreat
open Go.RowKit
set_option linter.unusedVariables false

/-- What is carried: a handle, its word, what is read, a new machine. -/
structure HSt (W w : World) (Bh Bw Br Bn : Nat) (x y z c v rc t s g nc te qu : Int) (sa : Option Addr) (n kc : Nat) : Prop where
  bel : Below W.heap.size W w
  hb : Blk w Bh [.int .i64 x, .int .i64 y, .int .i64 z]
  wb : Blk w Bw [.int .i64 c, .int .i64 v]
  rb : Blk w Br [.int .i64 rc, .int .i64 t, .int .i64 s, .int .i64 g]
  nb : Blk w Bn [.int .i64 nc, .int .i64 te, .int .i64 qu, .int .i64 0, .slice sa n kc, .slice none 0 0]
  pv : PV w sa n zS

theorem HSt.below {W w w' : World} {Bh Bw Br Bn : Nat} {x y z c v rc t s g nc te qu : Int} {sa : Option Addr} {n kc : Nat} (d : HSt W w Bh Bw Br Bn x y z c v rc t s g nc te qu sa n kc) (hb : Below w.heap.size w w') : HSt W w' Bh Bw Br Bn x y z c v rc t s g nc te qu sa n kc :=
  ⟨d.bel.trans (hb.mono d.bel.size), d.hb.below hb, d.wb.below hb, d.rb.below hb, d.nb.below hb, d.pv.below hb⟩
end Go.Proofs.YtnpklnpicelcmaaGreat

namespace Go.Proofs.YtnpklnpicelcmaaGreat
open Go.RowKit
set_option linter.unusedVariables false

/-- A tenant of a heap, in memory. -/
structure TN where
  q : Int
  h : Int
  a : Option Addr
  n : Nat
  c : Nat
  S : Nat → SL

def TN.g (t : TN) : Nat := match t.a with | some x => x.block | none => 0

def ThrG (w : World) (b o : Nat) (t : TN) : Prop := w.cell? ⟨b, o, none⟩ = some (.int .i64 t.q) ∧ w.cell? ⟨b, o + 1, none⟩ = some (.int .i64 t.h) ∧ w.cell? ⟨b, o + 2, none⟩ = some (.slice t.a t.n t.c)

def ThrF (w : World) (b o : Nat) : Prop := w.frozen? ⟨b, o, none⟩ = false ∧ w.frozen? ⟨b, o + 1, none⟩ = false ∧ w.frozen? ⟨b, o + 2, none⟩ = false

theorem ThrG.block {w w' : World} {b o : Nat} {t : TN} (h : ThrG w b o t) (e : w'.heap[b]? = w.heap[b]?) : ThrG w' b o t :=
  ⟨(World.cell?_of_block (w := w) (a := ⟨b, o, none⟩) e).trans h.1, (World.cell?_of_block (w := w) (a := ⟨b, o + 1, none⟩) e).trans h.2.1, (World.cell?_of_block (w := w) (a := ⟨b, o + 2, none⟩) e).trans h.2.2⟩

theorem ThrF.block {w w' : World} {b o : Nat} (h : ThrF w b o) (e : w'.heap[b]? = w.heap[b]?) : ThrF w' b o :=
  ⟨(World.frozen?_of_block (w := w) (a := ⟨b, o, none⟩) e).trans h.1, (World.frozen?_of_block (w := w) (a := ⟨b, o + 1, none⟩) e).trans h.2.1, (World.frozen?_of_block (w := w) (a := ⟨b, o + 2, none⟩) e).trans h.2.2⟩

theorem ThrG.below {w w' : World} {b o : Nat} {t : TN} (h : ThrG w b o t) (hb : Below w.heap.size w w') (hl : b < w.heap.size) : ThrG w' b o t := h.block (hb.block b hl)

theorem ThrF.below {w w' : World} {b o : Nat} (h : ThrF w b o) (hb : Below w.heap.size w w') (hl : b < w.heap.size) : ThrF w' b o := h.block (hb.block b hl)

theorem ThrG.keeps {w w' : World} {b o lo hi : Nat} {t : TN} (h : ThrG w b o t) (hk : Keeps w w' lo hi) (hl : b < w.heap.size) (hd : b < lo ∨ hi ≤ b) : ThrG w' b o t := h.block (hk.block b hl hd)

theorem ThrF.keeps {w w' : World} {b o lo hi : Nat} (h : ThrF w b o) (hk : Keeps w w' lo hi) (hl : b < w.heap.size) (hd : b < lo ∨ hi ≤ b) : ThrF w' b o := h.block (hk.block b hl hd)

/-- A row of tenants is read. -/
structure TSrc (w : World) (b q N : Nat) (T : Nat → TN) : Prop where
  lt : b < w.heap.size
  thr : ∀ i, i < N → ThrG w b (q + i * 3) (T i)
  slo : ∀ i, i < N → PV w (T i).a (T i).n (T i).S

/-- A row of tenants of the call's own, in blocks from lo to hi. -/
structure TOwn (w : World) (lo hi b q N : Nat) (T : Nat → TN) : Prop where
  glo : lo ≤ b
  ghi : b < hi
  lt : b < w.heap.size
  thr : ∀ i, i < N → ThrG w b (q + i * 3) (T i)
  free : ∀ i, i < N → ThrF w b (q + i * 3)
  slo : ∀ i, i < N → PVO w lo hi (T i).a (T i).n (T i).S
  off : ∀ i, i < N → (T i).n = 0 ∨ (T i).g ≠ b
  apart : ∀ i j, i < N → j < N → i ≠ j → (T i).n = 0 ∨ (T j).n = 0 ∨ (T i).g ≠ (T j).g

theorem TOwn.src {w : World} {lo hi b q N : Nat} {T : Nat → TN} (h : TOwn w lo hi b q N T) : TSrc w b q N T := ⟨h.lt, h.thr, fun i hi => (h.slo i hi).src⟩

theorem TSrc.below {w w' : World} {b q N : Nat} {T : Nat → TN} (h : TSrc w b q N T) (hb : Below w.heap.size w w') : TSrc w' b q N T :=
  ⟨Nat.lt_of_lt_of_le h.lt hb.size, fun i hi => (h.thr i hi).below hb h.lt, fun i hi => (h.slo i hi).below hb⟩

theorem TOwn.below {w w' : World} {lo hi b q N : Nat} {T : Nat → TN} (h : TOwn w lo hi b q N T) (hb : Below w.heap.size w w') : TOwn w' lo hi b q N T :=
  ⟨h.glo, h.ghi, Nat.lt_of_lt_of_le h.lt hb.size, fun i hi => (h.thr i hi).below hb h.lt, fun i hi => (h.free i hi).below hb h.lt, fun i hi => (h.slo i hi).below hb, h.off, h.apart⟩

theorem TOwn.keeps {w w' : World} {lo hi lo' hi' b q N : Nat} {T : Nat → TN} (h : TOwn w lo hi b q N T) (hk : Keeps w w' lo' hi') (hd : hi ≤ lo' ∨ hi' ≤ lo) : TOwn w' lo hi b q N T := by
  have h1 := h.glo; have h2 := h.ghi
  exact ⟨h.glo, h.ghi, Nat.lt_of_lt_of_le h.lt hk.size, fun i hi => (h.thr i hi).keeps hk h.lt (by omega), fun i hi => (h.free i hi).keeps hk h.lt (by omega), fun i hi => (h.slo i hi).keeps hk hd, h.off, h.apart⟩

/-- How many marks are given ahead of a tenant. -/
def toff (T : Nat → TN) : Nat → Nat
  | 0 => 0
  | j + 1 => toff T j + 2 + 2 * (T j).n

def tmk1 (t : TN) (k : Int) : TN := { t with q := k, h := k + 1, S := smkd (k + 2) }

def tmkd (T : Nat → TN) (k : Int) (j : Nat) : TN := tmk1 (T j) (k + (toff T j : Int))

theorem toff_mono (T : Nat → TN) {i j : Nat} (h : i ≤ j) : toff T i ≤ toff T j := by
  induction j with
  | zero => obtain rfl : i = 0 := by omega
            exact Nat.le_refl _
  | succ j ih =>
    by_cases e : i = j + 1
    · subst e; exact Nat.le_refl _
    · have := ih (by omega)
      simp only [toff]; omega

theorem toff_len (T : Nat → TN) : ∀ N, 2 * N ≤ toff T N
  | 0 => Nat.le_refl _
  | N + 1 => by have := toff_len T N; simp only [toff]; omega

theorem TSrc.drew {w : World} {b q N : Nat} {T : Nat → TN} (h : TSrc w b q N T) : TSrc w.drew b q N T := h.below (Below.refl _ _).drew

theorem TSrc.alloc {w : World} {b q N : Nat} {T : Nat → TN} (h : TSrc w b q N T) (o : Obj) : TSrc (w.alloc o) b q N T := h.below ((Below.refl _ _).alloc (Nat.le_refl _) o)

theorem TOwn.drew {w : World} {lo hi b q N : Nat} {T : Nat → TN} (h : TOwn w lo hi b q N T) : TOwn w.drew lo hi b q N T := h.below (Below.refl _ _).drew

theorem TOwn.alloc {w : World} {lo hi b q N : Nat} {T : Nat → TN} (h : TOwn w lo hi b q N T) (o : Obj) : TOwn (w.alloc o) lo hi b q N T := h.below ((Below.refl _ _).alloc (Nat.le_refl _) o)

theorem TSrc.congr {w : World} {b q N : Nat} {T U : Nat → TN} (h : TSrc w b q N T) (e : ∀ i, i < N → T i = U i) : TSrc w b q N U :=
  ⟨h.lt, fun i hi => by rw [← e i hi]; exact h.thr i hi, fun i hi => by rw [← e i hi]; exact h.slo i hi⟩

theorem TOwn.congr {w : World} {lo hi b q N : Nat} {T U : Nat → TN} (h : TOwn w lo hi b q N T) (e : ∀ i, i < N → T i = U i) : TOwn w lo hi b q N U :=
  ⟨h.glo, h.ghi, h.lt, fun i hi => by rw [← e i hi]; exact h.thr i hi, h.free, fun i hi => by rw [← e i hi]; exact h.slo i hi, fun i hi => by rw [← e i hi]; exact h.off i hi, fun i j hi hj hij => by rw [← e i hi, ← e j hj]; exact h.apart i j hi hj hij⟩

theorem TOwn.widen {w : World} {lo hi lo' hi' b q N : Nat} {T : Nat → TN} (h : TOwn w lo hi b q N T) (h1 : lo' ≤ lo) (h2 : hi ≤ hi') : TOwn w lo' hi' b q N T :=
  ⟨Nat.le_trans h1 h.glo, Nat.lt_of_lt_of_le h.ghi h2, h.lt, h.thr, h.free, fun i hi => (h.slo i hi).widen h1 h2, h.off, h.apart⟩

theorem pvo_at {w w' : World} {lo hi : Nat} {t : TN} (h : PVO w lo hi t.a t.n t.S) (he : t.n = 0 ∨ w'.heap[t.g]? = w.heap[t.g]?) (hs : w.heap.size ≤ w'.heap.size) : PVO w' lo hi t.a t.n t.S := by
  rcases h with h0 | ⟨b, q, ha, hg⟩
  · exact .inl h0
  · rcases he with h0 | he
    · exact .inl h0
    · have e : t.g = b := by simp [TN.g, ha]
      rw [e] at he
      exact .inr ⟨b, q, ha, hg.glo, hg.ghi, Nat.lt_of_lt_of_le hg.lt hs, fun i hi => (hg.two i hi).block he, fun i hi => (hg.free i hi).block he⟩

theorem pvo_narrow {w : World} {lo hi : Nat} {t : TN} (h : PVO w lo hi t.a t.n t.S) (hlh : lo ≤ hi) : ∃ l r, lo ≤ l ∧ l ≤ r ∧ r ≤ hi ∧ PVO w l r t.a t.n t.S ∧ ((t.n = 0 ∧ l = r) ∨ (0 < t.n ∧ l = t.g ∧ r = t.g + 1 ∧ t.g < w.heap.size)) := by
  rcases h with h0 | ⟨b, q, ha, hg⟩
  · exact ⟨lo, lo, Nat.le_refl _, Nat.le_refl _, hlh, .inl h0, .inl ⟨h0, rfl⟩⟩
  · rcases Nat.eq_zero_or_pos t.n with h0 | hp
    · exact ⟨lo, lo, Nat.le_refl _, Nat.le_refl _, hlh, .inl h0, .inl ⟨h0, rfl⟩⟩
    · have e : t.g = b := by simp [TN.g, ha]
      have h1 := hg.glo; have h2 := hg.ghi
      exact ⟨b, b + 1, h1, by omega, by omega, .inr ⟨b, q, ha, Nat.le_refl _, Nat.lt_succ_self _, hg.lt, hg.two, hg.free⟩, .inr ⟨hp, e.symm, by omega, by rw [e]; exact hg.lt⟩⟩

theorem pvo_g {w : World} {lo hi : Nat} {t : TN} (h : PVO w lo hi t.a t.n t.S) : t.n = 0 ∨ (lo ≤ t.g ∧ t.g < hi ∧ t.g < w.heap.size) := by
  rcases h with h0 | ⟨b, q, ha, hg⟩
  · exact .inl h0
  · have e : t.g = b := by simp [TN.g, ha]
    exact .inr (by rw [e]; exact ⟨hg.glo, hg.ghi, hg.lt⟩)

set_option maxRecDepth 100000 in
set_option maxHeartbeats 1600000 in
theorem heldTenS_any (b q N c : Nat) (T : Nat → TN) (k : Int) (w : World) (hs : TSrc w b q N (tmkd T k)) (hk0 : 0 ≤ k) (hk1 : k + (toff T N : Int) ≤ 1048576) :
    Calls Tryz.prog 67 #[.slice (some ⟨b, q, none⟩) N c, .int .i64 k] w fun e w' => e = .returned (.int .i64 (k + (toff T N : Int))) ∧ w = w' := by
  have H := Lib.hid hs
  have hN5 : N ≤ 1048576 := by have := toff_len T N; omega
  clear hs
  go_enter Tryz.func67, Tryz.ntmps67
  go_wp2
  go_loop [1, 5] (fun u p => ∃ i : Nat, i ≤ N ∧ p = .int .i64 i ∧ u = .int .i64 (k + (toff T i : Int))) (fun _ p => N - (intOf p).toNat)
  case atStart => exact ⟨0, Nat.zero_le _, rfl, by simp [toff]⟩
  case round =>
    obtain ⟨i, hi, rfl, rfl⟩ := hrel
    by_cases hlt : i < N
    · have hlt' : (i : Int) < (N : Int) := by omega
      have hi0 : (0 : Int) ≤ (i : Int) := by omega
      have hle : toff T (i + 1) ≤ toff T N := toff_mono T hlt
      have hso : (toff T (i + 1) : Int) = (toff T i : Int) + 2 + 2 * ((T i).n : Int) := by simp only [toff]; omega
      obtain ⟨x0, x1, x2⟩ := H.out.thr i hlt
      have hsrc := H.out.slo i hlt
      have hlt0 := H.out.lt
      simp only [tmkd, tmk1] at x0 x1 x2 hsrc
      generalize hK : k + (toff T i : Int) = K at *
      have hK0 : 0 ≤ K := by omega
      have hK1 : K + 2 + 2 * ((T i).n : Int) ≤ 1048576 := by omega
      have hK2 : ¬ K + 2 + 2 * ((T i).n : Int) < 0 := by omega
      have HSO := Lib.hid hso; have HKK := Lib.hid hK; have HSRC := Lib.hid hsrc
      clear hso hK hle hsrc
      generalize T i = t at *
      go_wp2_with fail
      rw [show K + 1 + 1 = K + 2 from by omega]
      refine (heldHeapSlotS_any _ _ _ (K + 2) _ HSRC.out (by omega) (by omega)).mono ?_
      rintro e w' ⟨rfl, rfl⟩
      go_wp2
      go_round
      case rel => exact ⟨i + 1, by omega, by go_num, by have := HSO.out; have := HKK.out; go_num⟩
      case measure => simp [intOf]; omega
    · go_wp2
      go_ret
      obtain rfl : i = N := by omega
      exact ⟨rfl, rfl⟩

theorem thr_store {w : World} {b o : Nat} {t : TN} (h : ThrG w b o t) (K : Int) : ThrG (twoW w b o ⟨K, K + 1⟩) b o (tmk1 t K) := by
  obtain ⟨x0, x1, x2⟩ := h
  simp [twoW, ThrG, tmk1, x0, x1, x2, World.cell?_setCell_other, World.cell?_setCell_same']

theorem thr_other {w : World} {b o o' : Nat} {t : TN} (h : ThrG w b o t) (hd : o + 3 ≤ o' ∨ o' + 3 ≤ o) (s : SL) : ThrG (twoW w b o' s) b o t := by
  have g : ∀ x, x < 3 → ∀ y, y < 3 → (⟨b, o' + y, none⟩ : Addr) ≠ ⟨b, o + x, none⟩ := fun x hx y hy e => by simp at e; try omega
  have k : ∀ x, x < 3 → (twoW w b o' s).cell? ⟨b, o + x, none⟩ = w.cell? ⟨b, o + x, none⟩ := fun x hx => by
    unfold twoW
    rw [World.cell?_setCell_other _ _ _ _ (g x hx 1 (by omega)), World.cell?_setCell_other _ _ _ _ (show (⟨b, o', none⟩ : Addr) ≠ ⟨b, o + x, none⟩ from g x hx 0 (by omega))]
  exact ⟨(k 0 (by omega)).trans h.1, (k 1 (by omega)).trans h.2.1, (k 2 (by omega)).trans h.2.2⟩

/-- One tenant has been marked. -/
theorem town_round {wr w2 : World} {lo hi b q N i l r : Nat} {U : Nat → TN} {K : Int} (h : TOwn wr lo hi b q N U) (hi' : i < N) (hl : lo ≤ l) (hr : r ≤ hi) (hlr : ((U i).n = 0 ∧ l = r) ∨ (0 < (U i).n ∧ l = (U i).g ∧ r = (U i).g + 1 ∧ (U i).g < wr.heap.size))
    (hk : Keeps (twoW wr b (q + i * 3) ⟨K, K + 1⟩) w2 l r) (ho : PVO w2 l r (U i).a (U i).n (smkd (K + 2))) :
    TOwn w2 lo hi b q N (fun j => if j = i then tmk1 (U i) K else U j) ∧ Keeps wr w2 lo hi := by
  have h1 := h.glo; have h2 := h.ghi; have h3 := h.lt
  have k5 := twoW_keeps wr b (q + i * 3) ⟨K, K + 1⟩
  have kk : Keeps wr w2 lo hi := (k5.widen h1 (by omega)).trans (hk.widen hl hr)
  have hbl : b < l ∨ r ≤ b := by
    rcases hlr with ⟨_, e⟩ | ⟨e0, e1, e2, _⟩
    · omega
    · have := (h.off i hi').resolve_left (by omega)
      omega
  refine ⟨⟨h1, h2, Nat.lt_of_lt_of_le h3 kk.size, fun j hj => ?_, fun j hj => ?_, fun j hj => ?_, fun j hj => ?_, fun a c ha hc hac => ?_⟩, kk⟩
  · by_cases e : j = i
    · subst e
      rw [if_pos rfl]
      exact (thr_store (h.thr j hj) K).keeps hk (Nat.lt_of_lt_of_le h3 k5.size) hbl
    · rw [if_neg e]
      exact (thr_other (h.thr j hj) (by omega) _).keeps hk (Nat.lt_of_lt_of_le h3 k5.size) hbl
  · have hf := h.free j hj
    have hf5 : ThrF (twoW wr b (q + i * 3) ⟨K, K + 1⟩) b (q + j * 3) := ⟨(twoW_frozen _ _ _ _ _).trans hf.1, (twoW_frozen _ _ _ _ _).trans hf.2.1, (twoW_frozen _ _ _ _ _).trans hf.2.2⟩
    exact hf5.keeps hk (Nat.lt_of_lt_of_le h3 k5.size) hbl
  · by_cases e : j = i
    · subst e
      rw [if_pos rfl]
      exact PVO.widen ho hl hr
    · rw [if_neg e]
      refine pvo_at (h.slo j hj) ?_ kk.size
      by_cases h0 : (U j).n = 0
      · exact .inl h0
      · have hjb := (h.off j hj).resolve_left h0
        have hlt : (U j).g < wr.heap.size := ((pvo_g (h.slo j hj)).resolve_left h0).2.2
        right
        have e1 := k5.block (U j).g hlt (by omega)
        refine (hk.block (U j).g (Nat.lt_of_lt_of_le hlt k5.size) ?_).trans e1
        rcases hlr with ⟨_, e⟩ | ⟨e0, e1, e2, _⟩
        · omega
        · have := ((h.apart i j hi' hj (fun x => e x.symm)).resolve_left (by omega)).resolve_left h0
          omega
  · by_cases e : j = i
    · subst e
      rw [if_pos rfl]
      exact h.off j hj
    · rw [if_neg e]; exact h.off j hj
  · have ga : ∀ x, (if x = i then tmk1 (U i) K else U x).n = (U x).n ∧ (if x = i then tmk1 (U i) K else U x).g = (U x).g := fun x => by
      by_cases e : x = i
      · subst e; rw [if_pos rfl]; exact ⟨rfl, rfl⟩
      · rw [if_neg e]; exact ⟨rfl, rfl⟩
    rw [(ga a).1, (ga a).2, (ga c).1, (ga c).2]
    exact h.apart a c ha hc hac

theorem town_two {wr : World} {lo hi b q N i l r : Nat} {U : Nat → TN} (s : SL) (h : TOwn wr lo hi b q N U) (hi' : i < N) (ho : PVO wr l r (U i).a (U i).n (U i).S) : PVO (twoW wr b (q + i * 3) s) l r (U i).a (U i).n (U i).S := by
  have k5 := twoW_keeps wr b (q + i * 3) s
  refine pvo_at ho ?_ k5.size
  rcases h.off i hi' with h0 | hne
  · exact .inl h0
  · rcases pvo_g (h.slo i hi') with h0 | ⟨_, _, hx⟩
    · exact .inl h0
    · exact .inr (k5.block _ (by omega) (by omega))

def TRetMarkS (W : World) (lo hi b q N : Nat) (T : Nat → TN) (k : Int) (e : Ending) (w' : World) : Prop :=
  e = .returned (.int .i64 (k + (toff T N : Int))) ∧ TOwn w' lo hi b q N (tmkd T k) ∧ Keeps W w' lo hi

set_option maxRecDepth 100000 in
set_option maxHeartbeats 1600000 in
theorem markTenS_any (lo hi b q N c : Nat) (T : Nat → TN) (k : Int) (w : World) (hs : TOwn w lo hi b q N T) (hk0 : 0 ≤ k) (hk1 : k + (toff T N : Int) ≤ 1048576) :
    Calls Tryz.prog 29 #[.slice (some ⟨b, q, none⟩) N c, .int .i64 k] w (TRetMarkS w lo hi b q N T k) := by
  have H := Lib.hid hs
  have hN5 : N ≤ 1048576 := by have := toff_len T N; omega
  have hlh : lo ≤ hi := by have := hs.glo; have := hs.ghi; omega
  clear hs
  go_enter Tryz.func29, Tryz.ntmps29
  go_wp2
  go_loopw [1, 5] (fun u p wr => ∃ i : Nat, i ≤ N ∧ p = .int .i64 i ∧ u = .int .i64 (k + (toff T i : Int)) ∧ Hid (Keeps w wr lo hi) ∧ Hid (TOwn wr lo hi b q N (fun j => if j < i then tmkd T k j else T j))) (fun _ p _ => N - (intOf p).toNat)
  case atStart => exact ⟨0, Nat.zero_le _, rfl, by simp [toff], Keeps.refl _ _ _, by simpa using H⟩
  case round =>
    obtain ⟨i, hi9, rfl, rfl, HK, HR⟩ := hrel
    by_cases hlt : i < N
    · have hlt' : (i : Int) < (N : Int) := by omega
      have hi0 : (0 : Int) ≤ (i : Int) := by omega
      have hle : toff T (i + 1) ≤ toff T N := toff_mono T hlt
      have hso : (toff T (i + 1) : Int) = (toff T i : Int) + 2 + 2 * ((T i).n : Int) := by simp only [toff]; omega
      have hx := HR.out.thr i hlt
      have hsrc := HR.out.slo i hlt
      obtain ⟨f0, f1, f2⟩ := HR.out.free i hlt
      have hlt0 := HR.out.lt
      simp only [Nat.lt_irrefl, if_false] at hx hsrc
      obtain ⟨x0, x1, x2⟩ := hx
      generalize hK : k + (toff T i : Int) = K at *
      have hK0 : 0 ≤ K := by omega
      have hK1 : K + 2 + 2 * ((T i).n : Int) ≤ 1048576 := by omega
      have HSO := Lib.hid hso; have HKK := Lib.hid hK; have HSRC := Lib.hid hsrc
      clear hso hK hle hsrc
      obtain ⟨l, r, hl1, hl2, hl3, hnar, hlr⟩ := pvo_narrow HSRC.out hlh
      obtain ⟨U, hU⟩ : ∃ U : Nat → TN, U = fun j => if j < i then tmkd T k j else T j := ⟨_, rfl⟩
      have hUi : U i = T i := by rw [hU]; simp
      have hR : TOwn wr lo hi b q N U := by rw [hU]; exact HR.out
      have hnar' : PVO wr l r (U i).a (U i).n (U i).S := by rw [hUi]; exact hnar
      have h5 := town_two ⟨K, K + 1⟩ hR hlt hnar'
      have hlr' : ((U i).n = 0 ∧ l = r) ∨ (0 < (U i).n ∧ l = (U i).g ∧ r = (U i).g + 1 ∧ (U i).g < wr.heap.size) := by rw [hUi]; exact hlr
      rw [hUi] at h5
      have H5 := Lib.hid h5; have HLR := Lib.hid hlr'; have HRU := Lib.hid hR; have HUI := Lib.hid hUi; have HU := Lib.hid hU
      clear h5 hlr' hR hUi hU hnar hnar' hlr HR
      go_wp2_with fail
      rw [show K + 1 + 1 = K + 2 from by omega]
      refine (markHeapSlotS_any (T i).a l r (T i).n (T i).c (T i).S (K + 2) (twoW wr b (q + i * 3) ⟨K, K + 1⟩) H5.out (by omega) (by omega)).mono ?_
      rintro e w2 ⟨rfl, ho2, hk2⟩
      have hq := town_round (i := i) HRU.out hlt hl1 hl3 HLR.out hk2 (by rw [HUI.out]; exact ho2)
      have HQ := Lib.hid hq
      clear ho2 hk2 hq
      go_wp2
      go_roundw
      case rel =>
        refine ⟨i + 1, by omega, by go_num, by have := HSO.out; have := HKK.out; go_num, HK.out.trans HQ.out.2, HQ.out.1.congr fun j hj => ?_⟩
        by_cases e : j = i
        · subst e
          simp only [if_true, Nat.lt_succ_self, tmkd, HKK.out, HUI.out]
        · rw [if_neg e, HU.out]
          have h2 : (j < i + 1) = (j < i) := by simp only [eq_iff_iff]; omega
          simp only [h2]
      case measure => simp [intOf]; omega
    · go_wp2
      go_ret
      obtain rfl : i = N := by omega
      exact ⟨rfl, HR.out.congr fun j hj => by simp [hj], HK.out⟩
end Go.Proofs.YtnpklnpicelcmaaGreat

namespace Go.Proofs.YtnpklnpicelcmaaGreat
open Go.RowKit
set_option linter.unusedVariables false

def TV (w : World) (a : Option Addr) (N : Nat) (T : Nat → TN) : Prop := N = 0 ∨ ∃ b q, a = some ⟨b, q, none⟩ ∧ TSrc w b q N T

def TVO (w : World) (lo hi : Nat) (a : Option Addr) (N : Nat) (T : Nat → TN) : Prop := N = 0 ∨ ∃ b q, a = some ⟨b, q, none⟩ ∧ TOwn w lo hi b q N T

theorem TVO.src {w : World} {lo hi N : Nat} {a : Option Addr} {T : Nat → TN} (h : TVO w lo hi a N T) : TV w a N T := by
  rcases h with h0 | ⟨b, q, e, h⟩
  · exact .inl h0
  · exact .inr ⟨b, q, e, h.src⟩

theorem TV.below {w w' : World} {a : Option Addr} {N : Nat} {T : Nat → TN} (h : TV w a N T) (hb : Below w.heap.size w w') : TV w' a N T := by
  rcases h with h0 | ⟨b, q, e, h⟩
  · exact .inl h0
  · exact .inr ⟨b, q, e, h.below hb⟩

theorem TVO.below {w w' : World} {lo hi N : Nat} {a : Option Addr} {T : Nat → TN} (h : TVO w lo hi a N T) (hb : Below w.heap.size w w') : TVO w' lo hi a N T := by
  rcases h with h0 | ⟨b, q, e, h⟩
  · exact .inl h0
  · exact .inr ⟨b, q, e, h.below hb⟩

theorem TVO.keeps {w w' : World} {lo hi lo' hi' N : Nat} {a : Option Addr} {T : Nat → TN} (h : TVO w lo hi a N T) (hk : Keeps w w' lo' hi') (hd : hi ≤ lo' ∨ hi' ≤ lo) : TVO w' lo hi a N T := by
  rcases h with h0 | ⟨b, q, e, h⟩
  · exact .inl h0
  · exact .inr ⟨b, q, e, h.keeps hk hd⟩

theorem TVO.widen {w : World} {lo hi lo' hi' N : Nat} {a : Option Addr} {T : Nat → TN} (h : TVO w lo hi a N T) (h1 : lo' ≤ lo) (h2 : hi ≤ hi') : TVO w lo' hi' a N T := by
  rcases h with h0 | ⟨b, q, e, h⟩
  · exact .inl h0
  · exact .inr ⟨b, q, e, h.widen h1 h2⟩

theorem TV.drew {w : World} {a : Option Addr} {N : Nat} {T : Nat → TN} (h : TV w a N T) : TV w.drew a N T := h.below (Below.refl _ _).drew

theorem TV.alloc {w : World} {a : Option Addr} {N : Nat} {T : Nat → TN} (h : TV w a N T) (o : Obj) : TV (w.alloc o) a N T := h.below ((Below.refl _ _).alloc (Nat.le_refl _) o)

theorem TVO.drew {w : World} {lo hi N : Nat} {a : Option Addr} {T : Nat → TN} (h : TVO w lo hi a N T) : TVO w.drew lo hi a N T := h.below (Below.refl _ _).drew

theorem TVO.alloc {w : World} {lo hi N : Nat} {a : Option Addr} {T : Nat → TN} (h : TVO w lo hi a N T) (o : Obj) : TVO (w.alloc o) lo hi a N T := h.below ((Below.refl _ _).alloc (Nat.le_refl _) o)

theorem tv_get {w : World} {a : Option Addr} {N : Nat} {T : Nat → TN} (h : TV w a N T) {i : Nat} (hi : i < N) : ∃ b q, a = some ⟨b, q, none⟩ ∧ b < w.heap.size ∧ ThrG w b (q + i * 3) (T i) ∧ PV w (T i).a (T i).n (T i).S := by
  rcases h with h0 | ⟨b, q, ha, hg⟩
  · omega
  · exact ⟨b, q, ha, hg.lt, hg.thr i hi, hg.slo i hi⟩

/-- Two tenants that are the same. -/
def TnSame (t u : TN) : Prop := t.q = u.q ∧ t.h = u.h ∧ t.n = u.n ∧ ∀ i, i < t.n → t.S i = u.S i

theorem tnsame_refl (t : TN) : TnSame t t := ⟨rfl, rfl, rfl, fun _ _ => rfl⟩

theorem tnsame_symm {t u : TN} (h : TnSame t u) : TnSame u t := ⟨h.1.symm, h.2.1.symm, h.2.2.1.symm, fun i hi => (h.2.2.2 i (by have := h.2.2.1; omega)).symm⟩

theorem tnsame_trans {t u v : TN} (h : TnSame t u) (k : TnSame u v) : TnSame t v := ⟨h.1.trans k.1, h.2.1.trans k.2.1, h.2.2.1.trans k.2.2.1, fun i hi => (h.2.2.2 i hi).trans (k.2.2.2 i (by have := h.2.2.1; omega))⟩

set_option maxRecDepth 100000 in
set_option maxHeartbeats 800000 in
theorem eqTen_same (t u : TN) (w : World) (he : TnSame t u) (s1 : PV w t.a t.n t.S) (s2 : PV w u.a u.n u.S) (hn : t.n ≤ 1048576) :
    Calls Tryz.prog 64 #[.agg #[.int .i64 t.q, .int .i64 t.h, .slice t.a t.n t.c], .agg #[.int .i64 u.q, .int .i64 u.h, .slice u.a u.n u.c]] w (RetBool w true) := by
  obtain ⟨e1, e2, e3, e4⟩ := he
  rw [← e3] at s2
  rw [← e1, ← e2, ← e3]
  have S1 := Lib.hid s1; have S2 := Lib.hid s2; have E4 := Lib.hid e4
  clear s1 s2 e1 e2 e3 e4
  go_enter Tryz.func64, Tryz.ntmps64
  go_wp2_with fail
  refine (eqHeapSlotS_same _ _ _ _ _ t.S u.S _ ((S1.out.alloc _).alloc _) ((S2.out.alloc _).alloc _) E4.out hn).mono ?_
  rintro e w2 ⟨rfl, hb⟩
  have HB2 := Lib.hid (thru2 (Below.refl _ _) hb)
  clear hb
  go_wp2
  go_ret
  exact ⟨rfl, HB2.out⟩

theorem thrsG {w : World} {g1 g2 q1 q2 i : Nat} {t u : TN} (h1 : ThrG w g1 (q1 + i * 3) t) (h2 : ThrG w g2 (q2 + i * 3) u) : w.cell? ⟨g1, q1 + i * 3, none⟩ = some (.int .i64 t.q) ∧ w.cell? ⟨g1, q1 + i * 3 + 1, none⟩ = some (.int .i64 t.h) ∧ w.cell? ⟨g1, q1 + i * 3 + 2, none⟩ = some (.slice t.a t.n t.c) ∧ w.cell? ⟨g2, q2 + i * 3, none⟩ = some (.int .i64 u.q) ∧ w.cell? ⟨g2, q2 + i * 3 + 1, none⟩ = some (.int .i64 u.h) ∧ w.cell? ⟨g2, q2 + i * 3 + 2, none⟩ = some (.slice u.a u.n u.c) :=
  ⟨h1.1, h1.2.1, h1.2.2, h2.1, h2.2.1, h2.2.2⟩

set_option maxRecDepth 100000 in
set_option maxHeartbeats 1600000 in
theorem eqTV_same (a1 a2 : Option Addr) (N k1 k2 : Nat) (T U : Nat → TN) (w : World) (h1 : TV w a1 N T) (h2 : TV w a2 N U) (he : ∀ i, i < N → TnSame (T i) (U i)) (hN : N ≤ 1048576) (hn : ∀ i, i < N → (T i).n ≤ 1048576) :
    Calls Tryz.prog 27 #[.slice a1 N k1, .slice a2 N k2] w (RetBool w true) := by
  have H1 := Lib.hid h1; have H2 := Lib.hid h2; have HE := Lib.hid he; have HN := Lib.hid hn
  clear h1 h2 he hn
  go_enter Tryz.func27, Tryz.ntmps27
  go_wp2
  go_loopw [5] (fun p wr => ∃ i : Nat, i ≤ N ∧ p = .int .i64 (i : Int) ∧ Hid (Below w.heap.size w wr)) (fun p _ => N - (intOf p).toNat)
  case atStart => exact ⟨0, Nat.zero_le _, rfl, Below.refl _ _⟩
  case round =>
    obtain ⟨i, hi, rfl, HBr⟩ := hrel
    by_cases hlt : i < N
    · have hlt' : (i : Int) < (N : Int) := by omega
      have hi0 : (0 : Int) ≤ (i : Int) := by omega
      obtain ⟨g1, q1, e1, l1', x1, s1⟩ := tv_get (H1.out.below HBr.out) hlt
      obtain ⟨g2, q2, e2, l2', x2, s2⟩ := tv_get (H2.out.below HBr.out) hlt
      subst e1 e2
      have X1 := Lib.hid x1; have Y1 := Lib.hid x2
      have S1 := Lib.hid s1; have S2 := Lib.hid s2
      have hes := HE.out i hlt
      have hns := HN.out i hlt
      have hzr := HBr.out.size
      clear x1 x2 s1 s2
      generalize T i = t at *
      generalize U i = u at *
      have HES := Lib.hid hes
      clear hes
      have Xd := Lib.hid (X1.out.below (Below.refl _ _).drew l1'); have Yd := Lib.hid (Y1.out.below (Below.refl _ _).drew l2')
      go_wp2_with fail
      go_region_held3 (fun w' => w'.cell? ⟨g1, q1 + i * 3, none⟩ = some (.int .i64 t.q) ∧ w'.cell? ⟨g1, q1 + i * 3 + 1, none⟩ = some (.int .i64 t.h) ∧ w'.cell? ⟨g1, q1 + i * 3 + 2, none⟩ = some (.slice t.a t.n t.c) ∧ w'.cell? ⟨g2, q2 + i * 3, none⟩ = some (.int .i64 u.q) ∧ w'.cell? ⟨g2, q2 + i * 3 + 1, none⟩ = some (.int .i64 u.h) ∧ w'.cell? ⟨g2, q2 + i * 3 + 2, none⟩ = some (.slice u.a u.n u.c))
        (first | (with_reducible exact thrsG X1.out Y1.out) | (with_reducible exact thrsG Xd.out Yd.out) | (with_reducible exact thrsG X2.out Y2.out))
        (first | (go_at_call 64; refine (eqTen_same t u _ HES.out (S1.out.below (Below.refl _ _).drew) (S2.out.below (Below.refl _ _).drew) hns).mono ?_; rintro e w2 ⟨rfl, hb⟩; have HB2 := Lib.hid (thru0 (Below.refl wr.heap.size wr).drew hb); have X2 := Lib.hid (X1.out.below HB2.out l1'); have Y2 := Lib.hid (Y1.out.below HB2.out l2'); clear hb))
      have HB3 := Lib.hid (HBr.out.trans (HB2.out.mono hzr))
      go_wp2
      go_roundw
      case rel => exact ⟨i + 1, by omega, by go_num, HB3⟩
      case measure => simp [intOf]; omega
    · go_wp2
      go_ret
      exact ⟨rfl, HBr.out⟩

/-- A row is marked. -/
def TRetMarkV (W : World) (lo hi : Nat) (a : Option Addr) (N : Nat) (T : Nat → TN) (k : Int) (e : Ending) (w' : World) : Prop :=
  e = .returned (.int .i64 (k + (toff T N : Int))) ∧ TVO w' lo hi a N (tmkd T k) ∧ Keeps W w' lo hi

set_option maxRecDepth 100000 in
set_option maxHeartbeats 400000 in
theorem markTV_any (lo hi N c : Nat) (a : Option Addr) (T : Nat → TN) (k : Int) (w : World) (hs : TVO w lo hi a N T) (hk0 : 0 ≤ k) (hk1 : k + (toff T N : Int) ≤ 1048576) :
    Calls Tryz.prog 29 #[.slice a N c, .int .i64 k] w (TRetMarkV w lo hi a N T k) := by
  rcases Nat.eq_zero_or_pos N with rfl | hp
  · clear hs
    simp only [toff] at hk1
    go_enter Tryz.func29, Tryz.ntmps29
    go_wp2
    go_loop [1, 5] (fun u p => u = .int .i64 k ∧ p = .int .i64 0) (fun _ _ => 0)
    case atStart => exact ⟨rfl, rfl⟩
    case round =>
      obtain ⟨rfl, rfl⟩ := hrel
      go_wp2
      go_ret
      exact ⟨by simp [toff], .inl rfl, Keeps.refl _ _ _⟩
  · rcases hs with h0 | ⟨b, q, rfl, h⟩
    · omega
    · refine (markTenS_any lo hi b q N c T k w h hk0 hk1).mono ?_
      rintro e w' ⟨rfl, h1, h2⟩
      exact ⟨rfl, .inr ⟨b, q, rfl, h1⟩, h2⟩

set_option maxRecDepth 100000 in
set_option maxHeartbeats 400000 in
theorem heldTV_any (N c : Nat) (a : Option Addr) (T : Nat → TN) (k : Int) (w : World) (hs : TV w a N (tmkd T k)) (hk0 : 0 ≤ k) (hk1 : k + (toff T N : Int) ≤ 1048576) :
    Calls Tryz.prog 67 #[.slice a N c, .int .i64 k] w fun e w' => e = .returned (.int .i64 (k + (toff T N : Int))) ∧ w = w' := by
  rcases Nat.eq_zero_or_pos N with rfl | hp
  · clear hs
    simp only [toff] at hk1
    go_enter Tryz.func67, Tryz.ntmps67
    go_wp2
    go_loop [1, 5] (fun u p => u = .int .i64 k ∧ p = .int .i64 0) (fun _ _ => 0)
    case atStart => exact ⟨rfl, rfl⟩
    case round =>
      obtain ⟨rfl, rfl⟩ := hrel
      go_wp2
      go_ret
      exact ⟨by simp [toff], rfl⟩
  · rcases hs with h0 | ⟨b, q, rfl, h⟩
    · omega
    · exact heldTenS_any b q N c T k w h hk0 hk1

set_option maxRecDepth 100000 in
set_option maxHeartbeats 400000 in
theorem szTen_ok (t : TN) (l : Int) (w : World) (hl0 : 0 ≤ l) (hl : l ≤ 1048576) (hn : t.n ≤ maxLen) (hh : t.n ≤ l) :
    Calls Tryz.prog 36 #[.agg #[.int .i64 t.q, .int .i64 t.h, .slice t.a t.n t.c], .int .i64 l] w fun e w' => e = .returned (.int .i64 (l - t.n)) ∧ Below w.heap.size w w' := by
  have h9 : ¬ l - (t.n : Int) < 0 := by omega
  go_enter Tryz.func36, Tryz.ntmps36
  go_wp2_with (go_at_call 68; refine (szHeapSlotS_ok _ _ _ _ _ hl0 hl hn hh).mono ?_; rintro e w' ⟨rfl, rfl⟩)
  go_ret
  exact ⟨rfl, (Below.refl _ _).alloc (Nat.le_refl _) _⟩

set_option maxRecDepth 100000 in
set_option maxHeartbeats 400000 in
theorem szTen_no (t : TN) (l : Int) (w : World) (hl0 : 0 ≤ l) (hl : l ≤ 1048576) (hn : t.n ≤ maxLen) (hh : l < t.n) :
    Calls Tryz.prog 36 #[.agg #[.int .i64 t.q, .int .i64 t.h, .slice t.a t.n t.c], .int .i64 l] w fun e w' => e = .returned (.int .i64 (-1)) ∧ Below w.heap.size w w' := by
  go_enter Tryz.func36, Tryz.ntmps36
  go_wp2_with (go_at_call 68; refine (szHeapSlotS_no _ _ _ _ _ hl0 hl hn hh).mono ?_; rintro e w' ⟨rfl, rfl⟩)
  go_ret
  exact ⟨rfl, (Below.refl _ _).alloc (Nat.le_refl _) _⟩

def RetSzT (W : World) (N : Nat) (T : Nat → TN) (l : Int) (e : Ending) (w' : World) : Prop :=
  Below W.heap.size W w' ∧ ∃ r : Int, e = .returned (.int .i64 r) ∧ r ≤ l ∧ (r = -1 ∨ (0 ≤ r ∧ (N : Int) ≤ l ∧ ∀ i, i < N → ((T i).n : Int) ≤ l))

set_option maxRecDepth 100000 in
set_option maxHeartbeats 1600000 in
theorem szTenS_any (a : Option Addr) (N c : Nat) (T : Nat → TN) (l : Int) (w : World) (h : TV w a N T) (hN : N ≤ maxLen) (hn : ∀ i, i < N → (T i).n ≤ maxLen) (hl0 : 0 ≤ l) (hl : l ≤ 1048576) :
    Calls Tryz.prog 14 #[.slice a N c, .int .i64 l] w (RetSzT w N T l) := by
  have H := Lib.hid h; have HN := Lib.hid hn
  clear h hn
  unfold maxLen at hN
  by_cases hNl : (N : Int) ≤ l
  · go_enter Tryz.func14, Tryz.ntmps14
    go_wp2
    go_loopw [1, 5] (fun u p wr => ∃ (i : Nat) (x : Int), i ≤ N ∧ p = .int .i64 (i : Int) ∧ u = .int .i64 x ∧ 0 ≤ x ∧ x ≤ l - N ∧ Hid (Below w.heap.size w wr) ∧ Hid (∀ j, j < i → ((T j).n : Int) ≤ l)) (fun _ p _ => N - (intOf p).toNat)
    case atStart => exact ⟨0, l - N, Nat.zero_le _, rfl, rfl, by omega, by omega, Below.refl _ _, fun j hj => by omega⟩
    case round =>
      obtain ⟨i, x, hi, rfl, rfl, hx0, hx1, HBr, HE⟩ := hrel
      by_cases hlt : i < N
      · have hlt' : (i : Int) < (N : Int) := by omega
        have hi0 : (0 : Int) ≤ (i : Int) := by omega
        rcases H.out.below HBr.out with h0 | ⟨b, q, rfl, hg⟩
        · omega
        · have lt := hg.lt
          obtain ⟨x0, x1, x2⟩ := hg.thr i hlt
          have hnm := HN.out i hlt
          have HGE := Lib.hid (show ∀ j, j < i → ((T j).n : Int) ≤ l from HE.out)
          clear hg
          have hnx : ((T i).n : Int) ≤ l → ∀ j, j < i + 1 → ((T j).n : Int) ≤ l := fun h j hj => by
            rcases Nat.lt_succ_iff_lt_or_eq.mp hj with h1 | h1
            · exact HGE.out j h1
            · subst h1; exact h
          have HNX := Lib.hid hnx
          clear hnx
          by_cases hle : ((T i).n : Int) ≤ x
          · go_wp2_with fail
            refine (szTen_ok (T i) x _ hx0 (by omega) hnm hle).mono ?_
            rintro e w' ⟨rfl, hb⟩
            have HB2 := Lib.hid (thru0 HBr.out hb)
            have HX := Lib.hid (HNX.out (by omega))
            clear hb
            go_wp2
            go_roundw
            case rel => exact ⟨i + 1, x - (T i).n, by omega, by go_num, rfl, by omega, by omega, HB2, HX⟩
            case measure => simp [intOf]; omega
          · go_wp2_with fail
            refine (szTen_no (T i) x _ hx0 (by omega) hnm (by omega)).mono ?_
            rintro e w' ⟨rfl, hb⟩
            have HB2 := Lib.hid (thru0 HBr.out hb)
            clear hb
            go_wp2
            go_ret
            exact ⟨HB2.out, -1, rfl, by omega, .inl rfl⟩
      · obtain rfl : i = N := by omega
        go_wp2
        go_ret
        exact ⟨HBr.out, x, rfl, by omega, .inr ⟨hx0, hNl, HE.out⟩⟩
  · go_enter Tryz.func14, Tryz.ntmps14
    go_wp2
    go_ret
    exact ⟨Below.refl _ _, -1, rfl, by omega, .inl rfl⟩
end Go.Proofs.YtnpklnpicelcmaaGreat

namespace Go.Proofs.YtnpklnpicelcmaaGreat
open Go.RowKit
set_option linter.unusedVariables false

def tz : TN := ⟨0, 0, none, 0, 0, fun _ => ⟨0, 0⟩⟩

/-- A new tenant that holds the same. -/
def RetTen (W : World) (t : TN) (e : Ending) (w' : World) : Prop :=
  ∃ t' : TN, t'.q = t.q ∧ t'.h = t.h ∧ t'.n = t.n ∧ t'.S = t.S ∧ e = .returned (.agg #[.int .i64 t'.q, .int .i64 t'.h, .slice t'.a t'.n t'.c]) ∧ PVO w' W.heap.size w'.heap.size t'.a t'.n t'.S ∧ Below W.heap.size W w'

set_option maxRecDepth 100000 in
set_option maxHeartbeats 800000 in
theorem toTen_any (t : TN) (w : World) (hs : PV w t.a t.n t.S) (hn : t.n ≤ 1048576) :
    Calls Tryz.prog 45 #[.agg #[.int .i64 t.q, .int .i64 t.h, .slice t.a t.n t.c]] w (RetTen w t) := by
  have HS := Lib.hid hs
  clear hs
  go_enter Tryz.func45, Tryz.ntmps45
  go_wp2_with fail
  refine (toHeapSlotS_any t.a t.n t.c t.S _ (((HS.out.alloc _).alloc _).alloc _) hn).mono ?_
  rintro e w2 ⟨u, cu, rfl, ho, hb⟩
  have HB2 := Lib.hid (((((Below.refl w.heap.size w).alloc (Nat.le_refl _) _).alloc (by simp) _).alloc (by simp; omega) _).trans (hb.mono (by simp; omega)))
  have O_1 := Lib.hid ((Blk.new_at (w := (w.alloc (.cells #[.int .i64 t.q, .int .i64 t.h, .slice t.a t.n t.c] 76)).alloc (.cells #[.int .i64 0, .int .i64 0, .slice none 0 0] 61)) (cs := #[.int .i64 t.q, .int .i64 t.h, .slice none 0 0]) (t := 61) (w.heap.size + 2) (by simp)).below hb)
  have R_1 := Lib.hid (((Blk.new_at (w := w.alloc (.cells #[.int .i64 t.q, .int .i64 t.h, .slice t.a t.n t.c] 76)) (cs := #[.int .i64 0, .int .i64 0, .slice none 0 0]) (t := 61) (w.heap.size + 1) (by simp)).alloc _).below hb)
  have HO := Lib.hid (ho.widen (lo' := w.heap.size + 3) (by simp) (Nat.le_refl _))
  have z2 : w.heap.size + 3 ≤ w2.heap.size := by have := hb.size; simp at this; omega
  clear hb ho HS
  have cO0 := O_1.out.at 0 rfl; have fO0 := O_1.out.free 0 rfl; have cO1 := O_1.out.at 1 rfl; have fO1 := O_1.out.free 1 rfl; have cO2 := O_1.out.at 2 rfl; have fO2 := O_1.out.free 2 rfl; have lO := O_1.out.1
  have cR0 := R_1.out.at 0 rfl; have fR0 := R_1.out.free 0 rfl; have cR1 := R_1.out.at 1 rfl; have fR1 := R_1.out.free 1 rfl; have cR2 := R_1.out.at 2 rfl; have fR2 := R_1.out.free 2 rfl; have lR := R_1.out.1
  go_wp2
  refine bodyPost_ret (v := .agg #[.int .i64 t.q, .int .i64 t.h, .slice u t.n cu]) (by simp [results, Tryz.results45, go_sem, cR0, cR1, cR2]) rfl ⟨⟨t.q, t.h, u, t.n, cu, t.S⟩, rfl, rfl, rfl, rfl, rfl, ?_, ?_⟩
  · refine PVO.widen (lo := w.heap.size + 3) (hi := w2.heap.size) ?_ (by omega) (by simp)
    refine PVO.keeps (lo' := w.heap.size + 1) (hi' := w.heap.size + 3) HO.out ?_ (.inr (by omega))
    repeat (refine Keeps.trans ?_ (keeps_setCell (by (try simp); (try omega)) (by (try simp); (try omega)) _))
    exact Keeps.refl _ _ _
  · repeat (with_reducible refine Below.setCell ?_ (by (try simp); (try omega)) _)
    exact HB2.out

/-- A row of zero tenants. -/
theorem town_made {w : World} {lo b N cap : Nat} (h : w.ownsRow lo 61 3 (.slice (some ⟨b, 0, none⟩) N cap) N (madeCells #[.int .i64 0, .int .i64 0, .slice none 0 0] (N * 3)).toList) (hl : lo ≤ b) (hp : 0 < N) : TOwn w lo w.heap.size b 0 N (fun _ => tz) := by
  have hlt : b < w.heap.size := by
    rcases h.2 with ⟨h', _⟩ | ⟨g', cap', cur, h', _, hg, _⟩
    · cases h'
    · simp only [Value.slice.injEq, Option.some.injEq, Addr.mk.injEq, and_true, true_and] at h'
      obtain ⟨rfl, rfl⟩ := h'
      exact (Array.getElem?_eq_some_iff.mp hg).1
  have hc : ∀ i, i < N → ∀ j, j < 3 → w.cell? ⟨b, i * 3 + j, none⟩ = some (#[.int .i64 0, .int .i64 0, .slice none 0 0] : Array Value)[(i * 3 + j) % 3]! := fun i hi j hj => by
    have := h.cellAt (i * 3 + j) (by omega)
    rw [made_get _ _ _ (by omega)] at this
    simpa using this
  refine ⟨hl, hlt, hlt, fun i hi => ?_, fun i hi => ?_, fun i hi => .inl rfl, fun i hi => .inl rfl, fun i j hi hj hij => .inl rfl⟩
  · have m : ∀ j, j < 3 → (i * 3 + j) % 3 = j := fun j hj => by omega
    rw [Nat.zero_add]
    have k0 := hc i hi 0 (by omega); have k1 := hc i hi 1 (by omega); have k2 := hc i hi 2 (by omega)
    rw [m 0 (by omega)] at k0; rw [m 1 (by omega)] at k1; rw [m 2 (by omega)] at k2
    exact ⟨k0, k1, k2⟩
  · rw [Nat.zero_add]
    exact ⟨h.frozenAt _, h.frozenAt _, h.frozenAt _⟩

/-- The three cells of a tenant are written. -/
def thrW (w : World) (b o : Nat) (t : TN) : World := ((w.setCell ⟨b, o, none⟩ (.int .i64 t.q)).setCell ⟨b, o + 1, none⟩ (.int .i64 t.h)).setCell ⟨b, o + 2, none⟩ (.slice t.a t.n t.c)

theorem thrW_at {w : World} {b o : Nat} {t0 : TN} (h : ThrG w b o t0) (t : TN) : ThrG (thrW w b o t) b o t := by
  obtain ⟨x0, x1, x2⟩ := h
  simp [thrW, ThrG, x0, x1, x2, World.cell?_setCell_other, World.cell?_setCell_same']

theorem thrW_other {w : World} {b o o' : Nat} {u : TN} (h : ThrG w b o u) (hd : o + 3 ≤ o' ∨ o' + 3 ≤ o) (t : TN) : ThrG (thrW w b o' t) b o u := by
  have g : ∀ x, x < 3 → ∀ y, y < 3 → (⟨b, o' + y, none⟩ : Addr) ≠ ⟨b, o + x, none⟩ := fun x hx y hy e => by simp at e; try omega
  have k : ∀ x, x < 3 → (thrW w b o' t).cell? ⟨b, o + x, none⟩ = w.cell? ⟨b, o + x, none⟩ := fun x hx => by
    unfold thrW
    rw [World.cell?_setCell_other _ _ _ _ (g x hx 2 (by omega)), World.cell?_setCell_other _ _ _ _ (g x hx 1 (by omega)), World.cell?_setCell_other _ _ _ _ (show (⟨b, o', none⟩ : Addr) ≠ ⟨b, o + x, none⟩ from g x hx 0 (by omega))]
  exact ⟨(k 0 (by omega)).trans h.1, (k 1 (by omega)).trans h.2.1, (k 2 (by omega)).trans h.2.2⟩

theorem thrW_frozen (w : World) (b o : Nat) (t : TN) (p : Addr) : (thrW w b o t).frozen? p = w.frozen? p := by simp [thrW, World.frozen?_setCell]

theorem thrW_keeps (w : World) (b o : Nat) (t : TN) : Keeps w (thrW w b o t) b (b + 1) := by
  unfold thrW
  refine Keeps.trans ?_ (keeps_setCell (p := ⟨b, o + 2, none⟩) (Nat.le_refl b) (Nat.lt_succ_self b) _)
  refine Keeps.trans ?_ (keeps_setCell (p := ⟨b, o + 1, none⟩) (Nat.le_refl b) (Nat.lt_succ_self b) _)
  refine Keeps.trans ?_ (keeps_setCell (p := ⟨b, o, none⟩) (Nat.le_refl b) (Nat.lt_succ_self b) _)
  exact Keeps.refl _ _ _

theorem pvo_thr {w : World} {lo hi b o : Nat} {u : TN} (h : PVO w lo hi u.a u.n u.S) (hb : u.n = 0 ∨ u.g ≠ b) (t : TN) : PVO (thrW w b o t) lo hi u.a u.n u.S := by
  have k5 := thrW_keeps w b o t
  refine pvo_at h ?_ k5.size
  rcases hb with h0 | hne
  · exact .inl h0
  · rcases pvo_g h with h0 | ⟨_, _, hx⟩
    · exact .inl h0
    · exact .inr (k5.block _ (by omega) (by omega))

/-- One tenant of a row is laid. -/
theorem town_put {wr w2 : World} {lo b q N i : Nat} {U : Nat → TN} {t : TN} (h : TOwn wr lo wr.heap.size b q N U) (hi' : i < N) (hb : Below wr.heap.size wr w2) (ho : PVO w2 wr.heap.size w2.heap.size t.a t.n t.S) :
    TOwn (thrW w2 b (q + i * 3) t) lo (thrW w2 b (q + i * 3) t).heap.size b q N (fun j => if j = i then t else U j) ∧ Below lo w2 (thrW w2 b (q + i * 3) t) := by
  have h1 := h.glo; have h3 := h.lt
  have h' := h.below hb
  have k5 := thrW_keeps w2 b (q + i * 3) t
  have hs := hb.size; have hs5 := k5.size
  have hgt : t.n = 0 ∨ (wr.heap.size ≤ t.g ∧ t.g < w2.heap.size) := (pvo_g ho).imp_right fun x => ⟨x.1, x.2.2⟩
  have hgu : ∀ j, j < N → (U j).n = 0 ∨ (U j).g < wr.heap.size := fun j hj => (pvo_g (h.slo j hj)).imp_right fun x => x.2.2
  refine ⟨⟨h1, by omega, by omega, fun j hj => ?_, fun j hj => ?_, fun j hj => ?_, fun j hj => ?_, fun a c ha hc hac => ?_⟩, k5.below h1 (by omega)⟩
  · by_cases e : j = i
    · subst e; rw [if_pos rfl]; exact thrW_at (h'.thr j hj) t
    · rw [if_neg e]; exact thrW_other (h'.thr j hj) (by omega) t
  · have hf := h'.free j hj
    exact ⟨(thrW_frozen _ _ _ _ _).trans hf.1, (thrW_frozen _ _ _ _ _).trans hf.2.1, (thrW_frozen _ _ _ _ _).trans hf.2.2⟩
  · by_cases e : j = i
    · subst e; rw [if_pos rfl]
      exact (pvo_thr (PVO.widen ho (show lo ≤ wr.heap.size by omega) (Nat.le_refl _)) (by omega) t).widen (Nat.le_refl _) (by omega)
    · rw [if_neg e]
      exact (pvo_thr (h'.slo j hj) (h'.off j hj) t).widen (Nat.le_refl _) (by omega)
  · by_cases e : j = i
    · subst e; rw [if_pos rfl]; omega
    · rw [if_neg e]; exact h'.off j hj
  · by_cases ea : a = i
    · by_cases ec : c = i
      · exact absurd (ea.trans ec.symm) hac
      · rw [if_pos ea, if_neg ec]
        have := hgu c hc; omega
    · by_cases ec : c = i
      · rw [if_neg ea, if_pos ec]
        have := hgu a ha; omega
      · rw [if_neg ea, if_neg ec]; exact h'.apart a c ha hc hac

theorem Tryz.infoTN : (Tryz.prog.info? 61).map (fun i => (i.zero, i.size, i.bytes)) = some (some (.agg #[.int .i64 0, .int .i64 0, .slice none 0 0]), 3, 40) := by kernel_rfl

theorem Tryz.underlyingRTN : Tryz.prog.underlying 30 = some (.slice 61) := by kernel_rfl

/-- A new row that holds the same. -/
def RetTens (W : World) (N : Nat) (T : Nat → TN) (e : Ending) (w' : World) : Prop :=
  ∃ a c T', e = .returned (.slice a N c) ∧ TVO w' W.heap.size w'.heap.size a N T' ∧ (∀ i, i < N → TnSame (T i) (T' i)) ∧ Below W.heap.size W w'

set_option maxRecDepth 100000 in
set_option maxHeartbeats 1600000 in
theorem toTenS_any (a : Option Addr) (N c : Nat) (T : Nat → TN) (w : World) (h : TV w a N T) (hN : N ≤ 1048576) (hn : ∀ i, i < N → (T i).n ≤ 1048576) :
    Calls Tryz.prog 19 #[.slice a N c] w (RetTens w N T) := by
  obtain ⟨i0, hi, hz0, hz1, hz2⟩ := info_parts Tryz.infoTN
  have H := Lib.hid h; have HN := Lib.hid hn
  clear h hn
  go_enter Tryz.func19, Tryz.ntmps19
  go_wp2_with (at_make; refine wpList_make_full _ rfl _ _ 30 rfl w.heap.size 61 i0 (.agg #[.int .i64 0, .int .i64 0, .slice none 0 0]) 3 Tryz.underlyingRTN hi hz0 hz1 .i64 .i64 N N N rfl rfl rfl rfl (by rw [hz2]; omega) (by unfold maxLen; omega) (Nat.le_refl _) ?_; intro w1 hown1 hgrow1)
  have hb1 : Below w.heap.size w w1 := (Below.refl _ _).grown hgrow1 (Nat.le_refl _) (by intro k hk; simp at hk)
  have HB1 := Lib.hid hb1
  rcases Nat.eq_zero_or_pos N with rfl | hp
  · clear hown1 hgrow1 hb1
    go_loop [4] (fun p => p = .int .i64 0) (fun _ => 0)
    case atStart => rfl
    case round =>
      obtain rfl := hrel
      go_wp2
      go_ret
      exact ⟨_, _, (fun _ => tz), rfl, .inl rfl, fun i hi => by omega, HB1.out⟩
  have hgm := town_made (b := w.heap.size) (lo := w.heap.size) hown1 (Nat.le_refl _) hp
  have HG := Lib.hid hgm
  have hb2 := hb1.size
  clear hown1 hgrow1 hb1 hgm
  go_loopw [4] (fun p wr => ∃ (i : Nat) (T' : Nat → TN), i ≤ N ∧ p = .int .i64 (i : Int) ∧ Hid (Below w.heap.size w wr) ∧ Hid (TOwn wr w.heap.size wr.heap.size w.heap.size 0 N (fun j => if j < i then T' j else tz)) ∧ Hid (∀ j, j < i → TnSame (T j) (T' j))) (fun p _ => N - (intOf p).toNat)
  case atStart => exact ⟨0, (fun _ => tz), Nat.zero_le _, rfl, HB1, by simpa using HG, fun j hj => by omega⟩
  case round =>
    obtain ⟨i, T', hi9, rfl, HBr, HR, HE⟩ := hrel
    by_cases hlt : i < N
    · have hlt' : (i : Int) < (N : Int) := by omega
      have hi0 : (0 : Int) ≤ (i : Int) := by omega
      rcases H.out.below HBr.out with h0 | ⟨b, q, rfl, hg⟩
      · omega
      · have lt := hg.lt
        obtain ⟨x0, x1, x2⟩ := hg.thr i hlt
        have hsr := hg.slo i hlt
        have HSR := Lib.hid hsr
        have hnm := HN.out i hlt
        obtain ⟨U, hU⟩ : ∃ U : Nat → TN, U = fun j => if j < i then T' j else tz := ⟨_, rfl⟩
        have hR : TOwn wr w.heap.size wr.heap.size w.heap.size 0 N U := by rw [hU]; exact HR.out
        have HRU := Lib.hid hR; have HU := Lib.hid hU
        have hzr := HBr.out.size
        have lR := hR.lt
        clear hg hsr hU hR HR
        go_wp2_with fail
        refine (toTen_any (T i) _ HSR.out hnm).mono ?_
        rintro e w2 ⟨t', u1, u2, u3, u4, rfl, ho, hb⟩
        have hs' : TnSame (T i) t' := ⟨u1.symm, u2.symm, u3.symm, fun j _ => by rw [u4]⟩
        have hq := town_put (i := i) HRU.out hlt hb ho
        have h6 := ((HRU.out.below hb).thr i hlt); have h7 := ((HRU.out.below hb).free i hlt)
        rw [Nat.zero_add] at h6 h7 hq
        obtain ⟨y0, y1, y2⟩ := h6
        obtain ⟨f0, f1, f2⟩ := h7
        have l2 : w.heap.size < w2.heap.size := by have := hb.size; omega
        have HQ := Lib.hid hq; have HS' := Lib.hid hs'; have HB2 := Lib.hid (thru0 HBr.out hb)
        clear ho hb hq hs' x0 x1 x2 u1 u2 u3 u4
        go_wp2
        go_roundw
        case rel =>
          refine ⟨i + 1, fun j => if j = i then t' else T' j, by omega, by go_num, HB2.out.trans HQ.out.2, HQ.out.1.congr fun j hj => ?_, fun j hj => ?_⟩
          · by_cases e : j = i
            · subst e; simp
            · have h2 : (j < i + 1) = (j < i) := by simp only [eq_iff_iff]; omega
              simp only [if_neg e, HU.out, h2]
          · by_cases e : j = i
            · subst e; simp only [if_true]; exact HS'.out
            · simp only [if_neg e]; exact HE.out j (by omega)
        case measure => simp [intOf]; omega
    · obtain rfl : i = N := by omega
      go_wp2
      go_ret
      exact ⟨_, _, T', rfl, .inr ⟨w.heap.size, 0, rfl, HR.out.congr fun j hj => by simp [hj]⟩, HE.out, HBr.out⟩
end Go.Proofs.YtnpklnpicelcmaaGreat

namespace Go.Proofs.YtnpklnpicelcmaaGreat
open Go.RowKit
set_option linter.unusedVariables false

set_option maxRecDepth 100000 in
set_option maxHeartbeats 800000 in
theorem szHeap_any (h ac bu : Int) (a : Option Addr) (n c : Nat) (ta : Option Addr) (N tc : Nat) (T : Nat → TN) (l : Int) (w : World) (ht : TV w ta N T) (hn : n ≤ maxLen) (hN : N ≤ maxLen) (hm : ∀ i, i < N → (T i).n ≤ maxLen) (hl0 : 0 ≤ l) (hl : l ≤ 1048576) :
    Calls Tryz.prog 4 #[.agg #[.int .i64 h, .slice a n c, .int .i64 ac, .int .i64 bu, .slice ta N tc], .int .i64 l] w (fun e w' => Below w.heap.size w w' ∧ ∃ r : Int, e = .returned (.int .i64 r) ∧ r ≤ l ∧ (r = -1 ∨ (0 ≤ r ∧ (n : Int) ≤ l ∧ (N : Int) ≤ l ∧ ∀ i, i < N → ((T i).n : Int) ≤ l))) := by
  have G := Lib.hid ht; have HM := Lib.hid hm
  clear ht hm
  have HB0 := Lib.hid ((Below.refl w.heap.size w).alloc (Nat.le_refl _) (.cells #[.int .i64 h, .slice a n c, .int .i64 ac, .int .i64 bu, .slice ta N tc] 27))
  have A_0 := Lib.hid (Blk.new_at (w := w) (cs := #[.int .i64 h, .slice a n c, .int .i64 ac, .int .i64 bu, .slice ta N tc]) (t := 27) w.heap.size rfl)
  by_cases h1 : (n : Int) ≤ l
  · have h9 : ¬ l - (n : Int) < 0 := by omega
    go_enter Tryz.func4, Tryz.ntmps4
    go_wp2_with fail
    refine (szArena_ok h ac bu a n c l _ hl0 hl hn h1).mono ?_
    rintro e w1 ⟨rfl, hb⟩
    have HB1 := Lib.hid (thru0 HB0.out hb); have A_1 := Lib.hid (A_0.out.below hb)
    clear hb A_0 HB0
    have c4 := A_1.out.at 4 rfl; have lA := A_1.out.1
    go_wp2_with fail
    refine (szTenS_any ta N tc T (l - (n : Int)) _ (G.out.below HB1.out) hN HM.out (by omega) (by omega)).mono ?_
    rintro e w2 ⟨hb, r, rfl, hr1, hr2⟩
    have HB2 := Lib.hid (thru0 HB1.out hb)
    clear hb
    rcases hr2 with rfl | ⟨h0, h3, h2⟩
    · go_wp2
      go_ret
      exact ⟨HB2.out, -1, rfl, by omega, .inl rfl⟩
    · have h8 : ¬ r < 0 := by omega
      have H2 := Lib.hid h2
      clear h2
      go_wp2
      go_ret
      exact ⟨HB2.out, r, rfl, by omega, .inr ⟨h0, h1, by omega, fun i hi => by have := H2.out i hi; omega⟩⟩
  · go_enter Tryz.func4, Tryz.ntmps4
    go_wp2_with fail
    refine (szArena_no h ac bu a n c l _ hl0 hl hn (by omega)).mono ?_
    rintro e w1 ⟨rfl, hb⟩
    have HB1 := Lib.hid (thru0 HB0.out hb)
    clear hb
    go_wp2
    go_ret
    exact ⟨HB1.out, -1, rfl, by omega, .inl rfl⟩

/-- A new heap that holds the same. -/
def RetTH (W : World) (h : Int) (n : Nat) (f : Nat → Int) (ac bu : Int) (N : Nat) (T : Nat → TN) (e : Ending) (w' : World) : Prop :=
  ∃ (a : Option Addr) (c : Nat) (ta : Option Addr) (tc mid : Nat) (U : Nat → TN), e = .returned (.agg #[.int .i64 h, .slice a n c, .int .i64 ac, .int .i64 bu, .slice ta N tc]) ∧ OwnIn w' W.heap.size mid a n f ∧ TVO w' mid w'.heap.size ta N U ∧ W.heap.size ≤ mid ∧ mid ≤ w'.heap.size ∧ (∀ i, i < N → TnSame (T i) (U i)) ∧ Below W.heap.size W w' ∧ n ≤ c ∧ c ≤ maxLen

set_option maxRecDepth 100000 in
set_option maxHeartbeats 1600000 in
theorem toHeap_any (h ac bu : Int) (a : Option Addr) (n c : Nat) (f : Nat → Int) (ta : Option Addr) (N tc : Nat) (T : Nat → TN) (w : World) (hs : Src w a n f) (ht : TV w ta N T) (hn : n ≤ 1048576) (hN : N ≤ 1048576) (hm : ∀ i, i < N → (T i).n ≤ 1048576) :
    Calls Tryz.prog 6 #[.agg #[.int .i64 h, .slice a n c, .int .i64 ac, .int .i64 bu, .slice ta N tc]] w (RetTH w h n f ac bu N T) := by
  have S0 := Lib.hid hs; have G := Lib.hid ht; have HM := Lib.hid hm
  clear hs ht hm
  go_enter Tryz.func6, Tryz.ntmps6
  go_wp2_with fail
  refine (toArena_any h ac bu a n c f _ (((S0.out.alloc _).alloc _).alloc _) hn).mono ?_
  rintro e w1 ⟨a', c', rfl, ho, hb, hnc, hcm, _⟩
  have A_1 := Lib.hid ((((Blk.new_at (w := w) (cs := #[.int .i64 h, .slice a n c, .int .i64 ac, .int .i64 bu, .slice ta N tc]) (t := 27) w.heap.size rfl).alloc _).alloc _).below hb)
  have R_1 := Lib.hid (((Blk.new_at (w := w.alloc (.cells #[.int .i64 h, .slice a n c, .int .i64 ac, .int .i64 bu, .slice ta N tc] 27)) (cs := #[.int .i64 0, .slice none 0 0, .int .i64 0, .int .i64 0, .slice none 0 0]) (t := 32) (w.heap.size + 1) (by simp)).alloc _).below hb)
  have O_1 := Lib.hid ((Blk.new_at (w := (w.alloc (.cells #[.int .i64 h, .slice a n c, .int .i64 ac, .int .i64 bu, .slice ta N tc] 27)).alloc (.cells #[.int .i64 0, .slice none 0 0, .int .i64 0, .int .i64 0, .slice none 0 0] 32)) (cs := #[.int .i64 0, .slice none 0 0, .int .i64 0, .int .i64 0, .slice none 0 0]) (t := 32) (w.heap.size + 2) (by simp)).below hb)
  have HB1 := Lib.hid (((((Below.refl w.heap.size w).alloc (Nat.le_refl _) _).alloc (by simp) _).alloc (by simp; omega) _).trans (hb.mono (by simp; omega)))
  have z1 : w.heap.size + 3 ≤ w1.heap.size := by have := hb.size; simp at this; omega
  have HO1 := Lib.hid ((ho.mono (B' := w.heap.size + 3) (by simp)).into)
  clear hb ho S0
  have cA4 := A_1.out.at 4 rfl; have lA := A_1.out.1
  have cO0 := O_1.out.at 0 rfl; have fO0 := O_1.out.free 0 rfl; have cO1 := O_1.out.at 1 rfl; have fO1 := O_1.out.free 1 rfl; have cO2 := O_1.out.at 2 rfl; have fO2 := O_1.out.free 2 rfl; have cO3 := O_1.out.at 3 rfl; have fO3 := O_1.out.free 3 rfl; have cO4 := O_1.out.at 4 rfl; have fO4 := O_1.out.free 4 rfl; have lO := O_1.out.1
  go_wp2_with fail
  obtain ⟨ws, hws⟩ : ∃ ws, ws = (((w1.setCell ⟨w.heap.size + 1 + 1, 0, none⟩ (.int .i64 h)).setCell ⟨w.heap.size + 1 + 1, 1, none⟩ (.slice a' n c')).setCell ⟨w.heap.size + 1 + 1, 2, none⟩ (.int .i64 ac)).setCell ⟨w.heap.size + 1 + 1, 3, none⟩ (.int .i64 bu) := ⟨_, rfl⟩
  have hkw : Keeps w1 ws (w.heap.size + 2) (w.heap.size + 2 + 1) := by
    rw [hws]
    repeat (refine Keeps.trans ?_ (keeps_setCell (by (try simp); (try omega)) (by (try simp); (try omega)) _))
    exact Keeps.refl _ _ _
  have HBs : Hid (Below w.heap.size w ws) := Lib.hid (HB1.out.trans (hkw.below (by omega) HB1.out.size))
  have O_s : Hid (Blk ws (w.heap.size + 2) [.int .i64 h, .slice a' n c', .int .i64 ac, .int .i64 bu, .slice none 0 0]) := Lib.hid (by rw [hws]; exact (((O_1.out.set 0 (by simp) _).set 1 (by simp) _).set 2 (by simp) _).set 3 (by simp) _)
  have R_s := Lib.hid (R_1.out.keeps hkw (.inl (by omega)))
  have HOs := Lib.hid (HO1.out.keeps hkw (.inr (by omega)))
  have Gs := Lib.hid (G.out.below HBs.out)
  have zs : w.heap.size + 3 ≤ ws.heap.size := by have := hkw.size; omega
  have zz : ws.heap.size = w1.heap.size := by rw [hws]; simp
  rw [← hws]
  have HZ := Lib.hid zz
  clear hws hkw O_1 R_1 A_1 HB1 HO1 G cA4 cO0 fO0 cO1 fO1 cO2 fO2 cO3 fO3 cO4 fO4 lA lO zz
  refine (toTenS_any ta N tc T _ Gs.out hN HM.out).mono ?_
  rintro e w2 ⟨ta', tc', U, rfl, hno, hsm, hb⟩
  have HB2 := Lib.hid (thru0 HBs.out hb)
  have O_1 := Lib.hid (O_s.out.below hb); have R_1 := Lib.hid (R_s.out.below hb)
  have HO2 := Lib.hid (HOs.out.below hb); have HNO := Lib.hid hno; have HSM := Lib.hid hsm
  have z2 : ws.heap.size ≤ w2.heap.size := hb.size
  clear hb hno hsm O_s R_s HBs HOs Gs
  have cR0 := R_1.out.at 0 rfl; have fR0 := R_1.out.free 0 rfl; have cR1 := R_1.out.at 1 rfl; have fR1 := R_1.out.free 1 rfl; have cR2 := R_1.out.at 2 rfl; have fR2 := R_1.out.free 2 rfl; have cR3 := R_1.out.at 3 rfl; have fR3 := R_1.out.free 3 rfl; have cR4 := R_1.out.at 4 rfl; have fR4 := R_1.out.free 4 rfl; have lR := R_1.out.1
  have cO0 := O_1.out.at 0 rfl; have fO0 := O_1.out.free 0 rfl; have cO1 := O_1.out.at 1 rfl; have fO1 := O_1.out.free 1 rfl; have cO2 := O_1.out.at 2 rfl; have fO2 := O_1.out.free 2 rfl; have cO3 := O_1.out.at 3 rfl; have fO3 := O_1.out.free 3 rfl; have cO4 := O_1.out.at 4 rfl; have fO4 := O_1.out.free 4 rfl; have lO := O_1.out.1
  go_wp2
  refine bodyPost_ret (v := .agg #[.int .i64 h, .slice a' n c', .int .i64 ac, .int .i64 bu, .slice ta' N tc']) (by simp [results, Tryz.results6, go_sem, cR0, cR1, cR2, cR3, cR4]) rfl ⟨a', c', ta', tc', ws.heap.size, U, rfl, ?_, ?_, by omega, by (try simp); omega, HSM.out, ?_, hnc, hcm⟩
  · refine OwnIn.widen (lo := w.heap.size + 3) (hi := w1.heap.size) ?_ (by omega) (Nat.le_of_eq HZ.out.symm)
    refine OwnIn.keeps (lo' := w.heap.size + 1) (hi' := w.heap.size + 3) HO2.out ?_ (.inr (by omega))
    repeat (refine Keeps.trans ?_ (keeps_setCell (by (try simp); (try omega)) (by (try simp); (try omega)) _))
    exact Keeps.refl _ _ _
  · refine TVO.widen (lo := ws.heap.size) (hi := w2.heap.size) ?_ (Nat.le_refl _) (by simp)
    refine TVO.keeps (lo' := w.heap.size + 1) (hi' := w.heap.size + 3) HNO.out ?_ (.inr (by omega))
    repeat (refine Keeps.trans ?_ (keeps_setCell (by (try simp); (try omega)) (by (try simp); (try omega)) _))
    exact Keeps.refl _ _ _
  · repeat (with_reducible refine Below.setCell ?_ (by (try simp); (try omega)) _)
    exact HB2.out

set_option maxRecDepth 100000 in
set_option maxHeartbeats 800000 in
theorem eqHeap_same (h ac bu : Int) (a a' : Option Addr) (n c c' : Nat) (f g : Nat → Int) (ta ta' : Option Addr) (N tc tc' : Nat) (T U : Nat → TN) (w : World) (s1 : Src w a n f) (s2 : Src w a' n g) (t1 : TV w ta N T) (t2 : TV w ta' N U) (he : ∀ i, i < n → f i = g i) (hs : ∀ i, i < N → TnSame (T i) (U i)) (hn : n ≤ 1048576) (hN : N ≤ 1048576) (hm : ∀ i, i < N → (T i).n ≤ 1048576) :
    Calls Tryz.prog 9 #[.agg #[.int .i64 h, .slice a n c, .int .i64 ac, .int .i64 bu, .slice ta N tc], .agg #[.int .i64 h, .slice a' n c', .int .i64 ac, .int .i64 bu, .slice ta' N tc']] w (RetBool w true) := by
  have S1 := Lib.hid s1; have S2 := Lib.hid s2; have T1 := Lib.hid t1; have T2 := Lib.hid t2; have HE := Lib.hid he; have HS := Lib.hid hs; have HM := Lib.hid hm
  have HB0 := Lib.hid (((Below.refl w.heap.size w).alloc (Nat.le_refl _) (.cells #[.int .i64 h, .slice a n c, .int .i64 ac, .int .i64 bu, .slice ta N tc] 32)).alloc (by simp) (.cells #[.int .i64 h, .slice a' n c', .int .i64 ac, .int .i64 bu, .slice ta' N tc'] 32))
  have A_0 := Lib.hid ((Blk.new_at (w := w) (cs := #[.int .i64 h, .slice a n c, .int .i64 ac, .int .i64 bu, .slice ta N tc]) (t := 32) w.heap.size rfl).alloc (.cells #[.int .i64 h, .slice a' n c', .int .i64 ac, .int .i64 bu, .slice ta' N tc'] 32))
  have A_1 := Lib.hid (Blk.new_at (w := w.alloc (.cells #[.int .i64 h, .slice a n c, .int .i64 ac, .int .i64 bu, .slice ta N tc] 32)) (cs := #[.int .i64 h, .slice a' n c', .int .i64 ac, .int .i64 bu, .slice ta' N tc']) (t := 32) (w.heap.size + 1) (by simp))
  clear s1 s2 t1 t2 he hs hm
  go_enter Tryz.func9, Tryz.ntmps9
  go_wp2_with fail
  refine (eqArena_same h ac bu a a' n c c' f g _ ((S1.out.alloc _).alloc _) ((S2.out.alloc _).alloc _) hn HE.out).mono ?_
  rintro e w1 ⟨rfl, hb⟩
  have HB1 := Lib.hid (HB0.out.trans (hb.mono HB0.out.size))
  have B_0 := Lib.hid (A_0.out.below hb); have B_1 := Lib.hid (A_1.out.below hb)
  clear hb A_0 A_1
  have c0 := B_0.out.at 4 rfl; have c1 := B_1.out.at 4 rfl; have l0 := B_0.out.1; have l1 := B_1.out.1
  go_wp2_with fail
  refine (eqTV_same ta ta' N tc tc' T U _ (T1.out.below HB1.out) (T2.out.below HB1.out) HS.out hN HM.out).mono ?_
  rintro e w2 ⟨rfl, hb⟩
  have HB2 := Lib.hid (thru0 HB1.out hb)
  clear hb
  go_wp2
  go_ret
  exact ⟨rfl, HB2.out⟩
end Go.Proofs.YtnpklnpicelcmaaGreat

namespace Go.Proofs.YtnpklnpicelcmaaGreat
open Go.RowKit
set_option linter.unusedVariables false

theorem tnsame_n {N : Nat} {T T' : Nat → TN} (h : ∀ i, i < N → TnSame (T i) (T' i)) (hn : ∀ i, i < N → (T i).n ≤ 1048576) : ∀ i, i < N → (T' i).n ≤ 1048576 := fun i hi => by rw [← (h i hi).2.2.1]; exact hn i hi

theorem cap10Y {w : World} {A X : Nat} {u0 u1 u2 u3 u4 v0 v1 v2 v3 v4 : Value} (hA : Blk w A [u0, u1, u2, u3, u4]) (hX : Blk w X [v0, v1, v2, v3, v4]) : w.cell? ⟨A, 0, none⟩ = some u0 ∧ w.cell? ⟨A, 1, none⟩ = some u1 ∧ w.cell? ⟨A, 2, none⟩ = some u2 ∧ w.cell? ⟨A, 3, none⟩ = some u3 ∧ w.cell? ⟨A, 4, none⟩ = some u4 ∧ w.cell? ⟨X, 0, none⟩ = some v0 ∧ w.cell? ⟨X, 1, none⟩ = some v1 ∧ w.cell? ⟨X, 2, none⟩ = some v2 ∧ w.cell? ⟨X, 3, none⟩ = some v3 ∧ w.cell? ⟨X, 4, none⟩ = some v4 :=
  ⟨hA.at 0 rfl, hA.at 1 rfl, hA.at 2 rfl, hA.at 3 rfl, hA.at 4 rfl, hX.at 0 rfl, hX.at 1 rfl, hX.at 2 rfl, hX.at 3 rfl, hX.at 4 rfl⟩
end Go.Proofs.YtnpklnpicelcmaaGreat

namespace Go.Proofs.YtnpklnpicelcmaaGreat
open Go.ChangeShapes Go.WideShapes Go.ChangeAt Go.RowKit Go.Joins Go.Deep
set_option linter.unusedVariables false

theorem Tryz.cellsY27 : Tryz.prog.cellsOf 27 = 5 := by kernel_rfl

theorem Tryz.cellsY24 : Tryz.prog.cellsOf 24 = 4 := by kernel_rfl

theorem Tryz.cellsY76 : Tryz.prog.cellsOf 76 = 3 := by kernel_rfl

theorem Tryz.cellsY25 : Tryz.prog.cellsOf 25 = 1 := by kernel_rfl

theorem Tryz.cellsY74 : Tryz.prog.cellsOf 74 = 1 := by kernel_rfl
end Go.Proofs.YtnpklnpicelcmaaGreat

namespace Go.Proofs.YtnpklnpicelcmaaGreat
open Go.RowKit
set_option linter.unusedVariables false

def tcells (t : TN) : List Value := [.int .i64 t.q, .int .i64 t.h, .slice t.a t.n t.c]

def rowTn (M : List TN) : List Value := M.flatMap tcells

theorem rowTn_snoc (M : List TN) (t : TN) : rowTn (M ++ [t]) = rowTn M ++ tcells t := by simp [rowTn]

theorem rowTn_get : ∀ (M : List TN) (i : Nat) (t : TN), M[i]? = some t → ∀ j, j < 3 → (rowTn M)[i * 3 + j]? = (tcells t)[j]?
  | [], i, t, h, j, hj => by simp at h
  | u :: M, 0, t, h, j, hj => by
    simp only [List.getElem?_cons_zero, Option.some.injEq] at h
    subst h
    simp only [rowTn, List.flatMap_cons, Nat.zero_mul, Nat.zero_add]
    rw [List.getElem?_append_left (by simp [tcells]; omega)]
  | u :: M, i + 1, t, h, j, hj => by
    have ih := rowTn_get M i t (by simpa using h) j hj
    simp only [rowTn, List.flatMap_cons] at ih ⊢
    rw [List.getElem?_append_right (by simp [tcells]; omega)]
    have e : (i + 1) * 3 + j - (tcells u).length = i * 3 + j := by simp [tcells]; omega
    rw [e]; exact ih

theorem tn_one (t : TN) : ∀ u ∈ tcells t, u.oneCell' = true := by
  intro u hu
  simp [tcells] at hu
  rcases hu with rfl | rfl | rfl <;> rfl

theorem cells_new3 (w : World) (t : TN) : ∀ j u, (tcells t)[j]? = some u → (w.alloc (.cells #[.int .i64 t.q, .int .i64 t.h, .slice t.a t.n t.c] 61)).cell? ((⟨w.heap.size, 0, none⟩ : Addr).add j) = some u := fun j u h => by
  have := ((Blk.new w #[.int .i64 t.q, .int .i64 t.h, .slice t.a t.n t.c] 61).2 j u h).1
  cases j with
  | zero => exact this
  | succ j => simpa [Addr.add] using this

/-- Each tenant's slots are a row of its own, later ones in later blocks. -/
def FldT (w : World) (lo : Nat) (v : Value) (M : List TN) : Prop :=
  (∀ t ∈ M, t.n = 0 ∨ (lo ≤ t.g ∧ t.g < w.heap.size ∧ some t.g ≠ v.ownBlock ∧ ∃ q, t.a = some ⟨t.g, q, none⟩ ∧ ∀ k, k < t.n → TwoG w t.g (q + k * 2) (t.S k) ∧ TwoF w t.g (q + k * 2))) ∧ M.Pairwise (fun t u => t.n = 0 ∨ u.n = 0 ∨ t.g < u.g)

theorem FldT.block {w w' : World} {lo : Nat} {v : Value} {M : List TN} (h : FldT w lo v M) (hz : w.heap.size ≤ w'.heap.size) (hb : ∀ b, lo ≤ b → b < w.heap.size → some b ≠ v.ownBlock → w'.heap[b]? = w.heap[b]?) : FldT w' lo v M :=
  ⟨fun t ht => by
    rcases h.1 t ht with h0 | ⟨h1, h2, h3, q, h4, h5⟩
    · exact .inl h0
    · have e := hb t.g h1 h2 h3
      exact .inr ⟨h1, Nat.lt_of_lt_of_le h2 hz, h3, q, h4, fun k hk => ⟨(h5 k hk).1.block e, (h5 k hk).2.block e⟩⟩, h.2⟩

theorem FldT.below {w w' : World} {lo : Nat} {v : Value} {M : List TN} (h : FldT w lo v M) (hb : Below w.heap.size w w') : FldT w' lo v M := h.block hb.size fun b _ h2 _ => hb.block b h2

theorem FldT.snoc {w0 w1 w2 : World} {lo : Nat} {v v' : Value} {M : List TN} (t : TN) (h : FldT w0 lo v M) (h01 : Below w0.heap.size w0 w1) (hg : w1.grownBy w2 v.ownBlock)
    (hat : v'.ownBlock = v.ownBlock ∨ ∃ g, v'.ownBlock = some g ∧ w1.heap.size ≤ g) (hlo : lo ≤ w0.heap.size) (hv : ∀ k, v.ownBlock = some k → k < w0.heap.size) (ho : PVO w1 w0.heap.size w1.heap.size t.a t.n t.S) : FldT w2 lo v' (M ++ [t]) := by
  refine ⟨fun u hu => ?_, ?_⟩
  · rcases List.mem_append.mp hu with hu | hu
    · rcases h.1 u hu with h0 | ⟨h1, h2, h3, q, h4, h5⟩
      · exact .inl h0
      · have e := (hg.block u.g (Nat.lt_of_lt_of_le h2 h01.size) h3).trans (h01.block u.g h2)
        refine .inr ⟨h1, Nat.lt_of_lt_of_le (Nat.lt_of_lt_of_le h2 h01.size) hg.size, ?_, q, h4, fun k hk => ⟨(h5 k hk).1.block e, (h5 k hk).2.block e⟩⟩
        rcases hat with hat | ⟨g, hat, hgl⟩
        · rw [hat]; exact h3
        · rw [hat]; intro he; simp only [Option.some.injEq] at he; have := h01.size; omega
    · simp only [List.mem_singleton] at hu
      subst hu
      rcases ho with h0 | ⟨b, off, he, hp⟩
      · exact .inl h0
      · have hgb : u.g = b := by simp [TN.g, he]
        have h1 := hp.glo
        have hne : some b ≠ v.ownBlock := fun hx => by have := hv b hx.symm; omega
        have e := hg.block b hp.lt hne
        refine .inr ⟨by omega, by rw [hgb]; exact Nat.lt_of_lt_of_le hp.lt hg.size, ?_, off, by rw [hgb]; exact he, fun k hk => ?_⟩
        · rw [hgb]
          rcases hat with hat | ⟨g, hat, hgl⟩
          · rw [hat]; exact hne
          · rw [hat]; intro hx; simp only [Option.some.injEq] at hx; have := hp.lt; omega
        · rw [hgb]
          exact ⟨(hp.two k hk).block e, (hp.free k hk).block e⟩
  · rw [List.pairwise_append]
    refine ⟨h.2, by simp, fun u hu x hx => ?_⟩
    simp only [List.mem_singleton] at hx
    subst hx
    rcases h.1 u hu with h0 | ⟨_, h2, _⟩
    · exact .inl h0
    · rcases ho with h0 | ⟨b, off, he, hp⟩
      · exact .inr (.inl h0)
      · have hgb : x.g = b := by simp [TN.g, he]
        have := hp.glo
        exact .inr (.inr (by omega))

def tT (M : List TN) (i : Nat) : TN := M[i]?.getD tz

theorem tT_at {M : List TN} {i : Nat} {t : TN} (h : M[i]? = some t) : tT M i = t := by simp [tT, h]

theorem rowTn_TVO {w : World} {base lo : Nat} {v : Value} {M : List TN} (h : w.ownsRow base 61 3 v M.length (rowTn M)) (hf : FldT w lo v M) (hl : lo ≤ base) : ∃ a c, v = .slice a M.length c ∧ TVO w lo w.heap.size a M.length (tT M) := by
  rcases Nat.eq_zero_or_pos M.length with h0 | hp
  · rcases h.2 with ⟨h1, h2⟩ | ⟨g, cap, cur, h1, _⟩
    · exact ⟨none, 0, by rw [h1, h2], .inl h0⟩
    · exact ⟨_, cap, h1, .inl h0⟩
  · obtain ⟨gb, cap, rfl, hb, hlt⟩ := h.form hp
    refine ⟨_, cap, rfl, .inr ⟨gb, 0, rfl, ?_⟩⟩
    have hfr : ∀ k, k < M.length * 3 → w.frozen? ⟨gb, k, none⟩ = false := fun k hk => by
      have := h.frozenAt k
      simpa using this
    have hce : ∀ i t, M[i]? = some t → ∀ j u, (tcells t)[j]? = some u → w.cell? ⟨gb, i * 3 + j, none⟩ = some u := fun i t ht j u hu => by
      have hi : i < M.length := (List.getElem?_eq_some_iff.mp ht).1
      have hj : j < 3 := by
        have := (List.getElem?_eq_some_iff.mp hu).1
        simpa [tcells] using this
      have hc := h.cellAt (i * 3 + j) (by omega)
      rw [rowTn_get M i t ht j hj, hu] at hc
      simpa using hc
    refine ⟨by omega, hlt, hlt, fun i hi => ?_, fun i hi => ?_, fun i hi => ?_, fun i hi => ?_, fun i j hi hj hij => ?_⟩
    · have ht := List.getElem?_eq_getElem hi
      rw [tT_at ht, Nat.zero_add]
      exact ⟨hce i _ ht 0 _ rfl, hce i _ ht 1 _ rfl, hce i _ ht 2 _ rfl⟩
    · rw [Nat.zero_add]
      exact ⟨hfr _ (by omega), hfr _ (by omega), hfr _ (by omega)⟩
    · have ht := List.getElem?_eq_getElem hi
      rw [tT_at ht]
      rcases hf.1 M[i] (List.getElem_mem hi) with h0 | ⟨h1, h2, _, q, h4, h5⟩
      · exact .inl h0
      · exact .inr ⟨_, q, h4, ⟨h1, h2, h2, fun k hk => (h5 k hk).1, fun k hk => (h5 k hk).2⟩⟩
    · have ht := List.getElem?_eq_getElem hi
      rw [tT_at ht]
      rcases hf.1 M[i] (List.getElem_mem hi) with h0 | ⟨_, _, h3, _⟩
      · exact .inl h0
      · right
        intro he
        exact h3 (by rw [he]; rfl)
    · have hp := List.pairwise_iff_getElem.mp hf.2
      rw [tT_at (List.getElem?_eq_getElem hi), tT_at (List.getElem?_eq_getElem hj)]
      rcases Nat.lt_or_ge i j with hlt' | hge
      · rcases hp i j hi hj hlt' with h0 | h0 | h0
        · exact .inl h0
        · exact .inr (.inl h0)
        · exact .inr (.inr (by omega))
      · rcases hp j i hj hi (by omega) with h0 | h0 | h0
        · exact .inr (.inl h0)
        · exact .inl h0
        · exact .inr (.inr (by omega))
end Go.Proofs.YtnpklnpicelcmaaGreat

namespace Go.Proofs.YtnpklnpicelcmaaGreat
open Go.RowKit
set_option linter.unusedVariables false

theorem cells_new3b (w : World) (t : TN) (b : Nat) (hb : w.heap.size = b) : ∀ j u, (tcells t)[j]? = some u → (w.alloc (.cells #[.int .i64 t.q, .int .i64 t.h, .slice t.a t.n t.c] 61)).cell? ((⟨b, 0, none⟩ : Addr).add j) = some u := by
  subst hb
  exact cells_new3 w t
end Go.Proofs.YtnpklnpicelcmaaGreat

namespace Go.Proofs.YtnpklnpicelcmaaGreat
open Go.RowKit
set_option linter.unusedVariables false

/-- What is kept but for no block is kept but for some. -/
theorem Keeps.widen0 {w w' : World} (h : Keeps w w' 0 0) (lo hi : Nat) : Keeps w w' lo hi := ⟨h.os, h.tape, h.output, h.size, fun k hk _ => h.block k hk (.inr (Nat.zero_le _))⟩

theorem toff_le (T : Nat → TN) : ∀ N, (∀ i, i < N → (T i).n ≤ 8) → toff T N ≤ 18 * N
  | 0, _ => Nat.le_refl _
  | N + 1, h => by
    have := toff_le T N fun i hi => h i (by omega)
    have := h N (by omega)
    simp only [toff]; omega

/-- A heap is marked. -/
def RetMkH (W : World) (lo mid hi : Nat) (a : Option Addr) (n : Nat) (ta : Option Addr) (N : Nat) (T : Nat → TN) (k : Int) (e : Ending) (w' : World) : Prop :=
  e = .returned (.int .i64 (k + (n : Int) + (toff T N : Int))) ∧ OwnIn w' lo mid a n (fun i => k + (i : Int)) ∧ TVO w' mid hi ta N (tmkd T (k + (n : Int))) ∧ Keeps W w' lo hi

set_option maxRecDepth 100000 in
set_option maxHeartbeats 800000 in
theorem markHeap_any (h ac bu : Int) (a : Option Addr) (n c : Nat) (f : Nat → Int) (ta : Option Addr) (N tc : Nat) (T : Nat → TN) (lo mid hi : Nat) (k : Int) (w : World) (hp : OwnIn w lo mid a n f) (hg : TVO w mid hi ta N T) (h1 : lo ≤ mid) (h2 : mid ≤ hi) (h3 : hi ≤ w.heap.size) (hn : n ≤ 1048576) (hk0 : 0 ≤ k) (hk1 : k + (n : Int) + (toff T N : Int) ≤ 1048576) :
    Calls Tryz.prog 10 #[.agg #[.int .i64 h, .slice a n c, .int .i64 ac, .int .i64 bu, .slice ta N tc], .int .i64 k] w (RetMkH w lo mid hi a n ta N T k) := by
  have P0 := Lib.hid hp; have G0 := Lib.hid hg
  have hn0 : (0 : Int) ≤ (toff T N : Int) := by omega
  clear hp hg
  go_enter Tryz.func10, Tryz.ntmps10
  have A_0 := Lib.hid (Blk.new_at (w := w) (cs := #[.int .i64 h, .slice a n c, .int .i64 ac, .int .i64 bu, .slice ta N tc]) (t := 32) w.heap.size rfl)
  have HB0 := Lib.hid ((Below.refl w.heap.size w).alloc (Nat.le_refl _) (.cells #[.int .i64 h, .slice a n c, .int .i64 ac, .int .i64 bu, .slice ta N tc] 32))
  have P1 := Lib.hid (P0.out.below HB0.out); have G1 := Lib.hid (G0.out.below HB0.out)
  have HK0 := Lib.hid (keeps_of_below HB0.out lo hi)
  go_wp2_with fail
  refine (markArena_any h ac bu a n c lo mid f k _ P1.out hn hk0 (by omega)).mono ?_
  rintro e w1 ⟨rfl, hp, hk⟩
  have P2 := Lib.hid hp; have HK1 := Lib.hid (HK0.out.trans (hk.widen (Nat.le_refl _) h2))
  have A_1 := Lib.hid (A_0.out.keeps hk (.inr (by omega)))
  have G2 := Lib.hid (G1.out.keeps hk (.inr (Nat.le_refl _)))
  clear hp hk P0 P1 G0 G1 A_0 HK0
  have c4 := A_1.out.at 4 rfl; have lA := A_1.out.1
  go_wp2_with fail
  refine (markTV_any mid hi N tc ta T (k + (n : Int)) _ G2.out (by omega) hk1).mono ?_
  rintro e w2 ⟨rfl, hg, hk⟩
  have G3 := Lib.hid hg; have P3 := Lib.hid (P2.out.keeps hk (.inl (Nat.le_refl _))); have HK2 := Lib.hid (HK1.out.trans (hk.widen h1 (Nat.le_refl _)))
  clear hg hk G2 P2 HK1 c4 lA A_1
  go_wp2
  go_ret
  exact ⟨rfl, P3.out, G3.out, HK2.out⟩

set_option maxRecDepth 100000 in
set_option maxHeartbeats 800000 in
theorem heldHeap_any (h ac bu : Int) (a : Option Addr) (n c : Nat) (ta : Option Addr) (N tc : Nat) (T : Nat → TN) (k : Int) (w : World) (hp : Src w a n (fun i => k + (i : Int))) (hg : TV w ta N (tmkd T (k + (n : Int)))) (hn : n ≤ 1048576) (hk0 : 0 ≤ k) (hk1 : k + (n : Int) + (toff T N : Int) ≤ 1048576) :
    Calls Tryz.prog 32 #[.agg #[.int .i64 h, .slice a n c, .int .i64 ac, .int .i64 bu, .slice ta N tc], .int .i64 k] w (RetInt w (k + (n : Int) + (toff T N : Int))) := by
  have P0 := Lib.hid hp; have G0 := Lib.hid hg
  have hn0 : (0 : Int) ≤ (toff T N : Int) := by omega
  have q1 : ¬ k + (n : Int) < 0 := by omega
  have q2 : ¬ k + (n : Int) + (toff T N : Int) < 0 := by omega
  clear hp hg
  have A_0 := Lib.hid (Blk.new_at (w := w) (cs := #[.int .i64 h, .slice a n c, .int .i64 ac, .int .i64 bu, .slice ta N tc]) (t := 32) w.heap.size rfl)
  have HB0 := Lib.hid ((Below.refl w.heap.size w).alloc (Nat.le_refl _) (.cells #[.int .i64 h, .slice a n c, .int .i64 ac, .int .i64 bu, .slice ta N tc] 32))
  go_enter Tryz.func32, Tryz.ntmps32
  go_wp2_with fail
  refine (heldArena_any h ac bu a n c k _ (P0.out.below HB0.out) hn hk0 (by omega)).mono ?_
  rintro e w1 ⟨rfl, hb⟩
  have HB1 := Lib.hid (thru0 HB0.out hb); have A_1 := Lib.hid (A_0.out.below hb)
  clear hb A_0 HB0
  have c4 := A_1.out.at 4 rfl; have lA := A_1.out.1
  go_wp2_with fail
  refine (heldTV_any N tc ta T (k + (n : Int)) _ (G0.out.below HB1.out) (by omega) hk1).mono ?_
  rintro e w2 ⟨rfl, rfl⟩
  go_wp2
  go_ret
  exact ⟨rfl, HB1.out⟩
end Go.Proofs.YtnpklnpicelcmaaGreat

namespace Go.Proofs.YtnpklnpicelcmaaGreat
open Go.RowKit
set_option linter.unusedVariables false

/-- An op in memory. -/
structure OpC where
  te : Int
  k : Int
  h : Int
  t : Int
  i : Int
  v : Int
  fo : Bool

def SevG (w : World) (b o : Nat) (t : OpC) : Prop := w.cell? ⟨b, o, none⟩ = some (.int .i64 t.te) ∧ w.cell? ⟨b, o + 1, none⟩ = some (.int .i64 t.k) ∧ w.cell? ⟨b, o + 2, none⟩ = some (.int .i64 t.h) ∧ w.cell? ⟨b, o + 3, none⟩ = some (.int .i64 t.t) ∧ w.cell? ⟨b, o + 4, none⟩ = some (.int .i64 t.i) ∧ w.cell? ⟨b, o + 5, none⟩ = some (.int .i64 t.v) ∧ w.cell? ⟨b, o + 6, none⟩ = some (.bool t.fo)

def SevF (w : World) (b o : Nat) : Prop := w.frozen? ⟨b, o, none⟩ = false ∧ w.frozen? ⟨b, o + 1, none⟩ = false ∧ w.frozen? ⟨b, o + 2, none⟩ = false ∧ w.frozen? ⟨b, o + 3, none⟩ = false ∧ w.frozen? ⟨b, o + 4, none⟩ = false ∧ w.frozen? ⟨b, o + 5, none⟩ = false ∧ w.frozen? ⟨b, o + 6, none⟩ = false

theorem SevG.block {w w' : World} {b o : Nat} {t : OpC} (h : SevG w b o t) (e : w'.heap[b]? = w.heap[b]?) : SevG w' b o t := by
  obtain ⟨x0, x1, x2, x3, x4, x5, x6⟩ := h
  exact ⟨(World.cell?_of_block (w := w) (a := ⟨b, o, none⟩) e).trans x0, (World.cell?_of_block (w := w) (a := ⟨b, o + 1, none⟩) e).trans x1, (World.cell?_of_block (w := w) (a := ⟨b, o + 2, none⟩) e).trans x2, (World.cell?_of_block (w := w) (a := ⟨b, o + 3, none⟩) e).trans x3, (World.cell?_of_block (w := w) (a := ⟨b, o + 4, none⟩) e).trans x4, (World.cell?_of_block (w := w) (a := ⟨b, o + 5, none⟩) e).trans x5, (World.cell?_of_block (w := w) (a := ⟨b, o + 6, none⟩) e).trans x6⟩

theorem SevF.block {w w' : World} {b o : Nat} (h : SevF w b o) (e : w'.heap[b]? = w.heap[b]?) : SevF w' b o := by
  obtain ⟨x0, x1, x2, x3, x4, x5, x6⟩ := h
  exact ⟨(World.frozen?_of_block (w := w) (a := ⟨b, o, none⟩) e).trans x0, (World.frozen?_of_block (w := w) (a := ⟨b, o + 1, none⟩) e).trans x1, (World.frozen?_of_block (w := w) (a := ⟨b, o + 2, none⟩) e).trans x2, (World.frozen?_of_block (w := w) (a := ⟨b, o + 3, none⟩) e).trans x3, (World.frozen?_of_block (w := w) (a := ⟨b, o + 4, none⟩) e).trans x4, (World.frozen?_of_block (w := w) (a := ⟨b, o + 5, none⟩) e).trans x5, (World.frozen?_of_block (w := w) (a := ⟨b, o + 6, none⟩) e).trans x6⟩

/-- A row of ops is read. -/
structure OSrc (w : World) (b q N : Nat) (T : Nat → OpC) : Prop where
  lt : b < w.heap.size
  sev : ∀ i, i < N → SevG w b (q + i * 7) (T i)

/-- A row of ops of the call's own. -/
structure OOwn (w : World) (lo hi b q N : Nat) (T : Nat → OpC) : Prop where
  glo : lo ≤ b
  ghi : b < hi
  lt : b < w.heap.size
  sev : ∀ i, i < N → SevG w b (q + i * 7) (T i)
  free : ∀ i, i < N → SevF w b (q + i * 7)

theorem OOwn.src {w : World} {lo hi b q N : Nat} {T : Nat → OpC} (h : OOwn w lo hi b q N T) : OSrc w b q N T := ⟨h.lt, h.sev⟩

theorem OSrc.below {w w' : World} {b q N : Nat} {T : Nat → OpC} (h : OSrc w b q N T) (hb : Below w.heap.size w w') : OSrc w' b q N T :=
  ⟨Nat.lt_of_lt_of_le h.lt hb.size, fun i hi => (h.sev i hi).block (hb.block b h.lt)⟩

theorem OOwn.below {w w' : World} {lo hi b q N : Nat} {T : Nat → OpC} (h : OOwn w lo hi b q N T) (hb : Below w.heap.size w w') : OOwn w' lo hi b q N T :=
  ⟨h.glo, h.ghi, Nat.lt_of_lt_of_le h.lt hb.size, fun i hi => (h.sev i hi).block (hb.block b h.lt), fun i hi => (h.free i hi).block (hb.block b h.lt)⟩

theorem OSrc.keeps {w w' : World} {lo hi b q N : Nat} {T : Nat → OpC} (h : OSrc w b q N T) (hk : Keeps w w' lo hi) (hd : b < lo ∨ hi ≤ b) : OSrc w' b q N T :=
  ⟨Nat.lt_of_lt_of_le h.lt hk.size, fun i hi => (h.sev i hi).block (hk.block b h.lt hd)⟩

theorem OOwn.keeps {w w' : World} {lo hi lo' hi' b q N : Nat} {T : Nat → OpC} (h : OOwn w lo hi b q N T) (hk : Keeps w w' lo' hi') (hd : hi ≤ lo' ∨ hi' ≤ lo) : OOwn w' lo hi b q N T := by
  have h1 := h.glo; have h2 := h.ghi
  exact ⟨h.glo, h.ghi, Nat.lt_of_lt_of_le h.lt hk.size, fun i hi => (h.sev i hi).block (hk.block b h.lt (by omega)), fun i hi => (h.free i hi).block (hk.block b h.lt (by omega))⟩

theorem OOwn.congr {w : World} {lo hi b q N : Nat} {T U : Nat → OpC} (h : OOwn w lo hi b q N T) (e : ∀ i, i < N → T i = U i) : OOwn w lo hi b q N U :=
  ⟨h.glo, h.ghi, h.lt, fun i hi => e i hi ▸ h.sev i hi, h.free⟩

theorem OSrc.congr {w : World} {b q N : Nat} {T U : Nat → OpC} (h : OSrc w b q N T) (e : ∀ i, i < N → T i = U i) : OSrc w b q N U :=
  ⟨h.lt, fun i hi => e i hi ▸ h.sev i hi⟩

theorem OOwn.widen {w : World} {lo hi lo' hi' b q N : Nat} {T : Nat → OpC} (h : OOwn w lo hi b q N T) (h1 : lo' ≤ lo) (h2 : hi ≤ hi') : OOwn w lo' hi' b q N T :=
  ⟨Nat.le_trans h1 h.glo, Nat.lt_of_lt_of_le h.ghi h2, h.lt, h.sev, h.free⟩

def OV (w : World) (a : Option Addr) (N : Nat) (T : Nat → OpC) : Prop := N = 0 ∨ ∃ b q, a = some ⟨b, q, none⟩ ∧ OSrc w b q N T

def OVO (w : World) (lo hi : Nat) (a : Option Addr) (N : Nat) (T : Nat → OpC) : Prop := N = 0 ∨ ∃ b q, a = some ⟨b, q, none⟩ ∧ OOwn w lo hi b q N T

theorem OVO.src {w : World} {lo hi N : Nat} {a : Option Addr} {T : Nat → OpC} (h : OVO w lo hi a N T) : OV w a N T := by
  rcases h with h0 | ⟨b, q, ha, h⟩
  · exact .inl h0
  · exact .inr ⟨b, q, ha, h.src⟩

theorem OV.below {w w' : World} {N : Nat} {a : Option Addr} {T : Nat → OpC} (h : OV w a N T) (hb : Below w.heap.size w w') : OV w' a N T := by
  rcases h with h0 | ⟨b, q, ha, h⟩
  · exact .inl h0
  · exact .inr ⟨b, q, ha, h.below hb⟩

theorem OVO.below {w w' : World} {lo hi N : Nat} {a : Option Addr} {T : Nat → OpC} (h : OVO w lo hi a N T) (hb : Below w.heap.size w w') : OVO w' lo hi a N T := by
  rcases h with h0 | ⟨b, q, ha, h⟩
  · exact .inl h0
  · exact .inr ⟨b, q, ha, h.below hb⟩

theorem OVO.keeps {w w' : World} {lo hi lo' hi' N : Nat} {a : Option Addr} {T : Nat → OpC} (h : OVO w lo hi a N T) (hk : Keeps w w' lo' hi') (hd : hi ≤ lo' ∨ hi' ≤ lo) : OVO w' lo hi a N T := by
  rcases h with h0 | ⟨b, q, ha, h⟩
  · exact .inl h0
  · exact .inr ⟨b, q, ha, h.keeps hk hd⟩

theorem OVO.widen {w : World} {lo hi lo' hi' N : Nat} {a : Option Addr} {T : Nat → OpC} (h : OVO w lo hi a N T) (h1 : lo' ≤ lo) (h2 : hi ≤ hi') : OVO w lo' hi' a N T := by
  rcases h with h0 | ⟨b, q, ha, h⟩
  · exact .inl h0
  · exact .inr ⟨b, q, ha, h.widen h1 h2⟩

theorem OV.drew {w : World} {N : Nat} {a : Option Addr} {T : Nat → OpC} (h : OV w a N T) : OV w.drew a N T := h.below (Below.refl _ _).drew

theorem OV.alloc {w : World} {N : Nat} {a : Option Addr} {T : Nat → OpC} (h : OV w a N T) (o : Obj) : OV (w.alloc o) a N T := h.below ((Below.refl _ _).alloc (Nat.le_refl _) o)

theorem OVO.drew {w : World} {lo hi N : Nat} {a : Option Addr} {T : Nat → OpC} (h : OVO w lo hi a N T) : OVO w.drew lo hi a N T := h.below (Below.refl _ _).drew

theorem OVO.alloc {w : World} {lo hi N : Nat} {a : Option Addr} {T : Nat → OpC} (h : OVO w lo hi a N T) (o : Obj) : OVO (w.alloc o) lo hi a N T := h.below ((Below.refl _ _).alloc (Nat.le_refl _) o)

theorem OV.congr {w : World} {N : Nat} {a : Option Addr} {T U : Nat → OpC} (h : OV w a N T) (e : ∀ i, i < N → T i = U i) : OV w a N U := by
  rcases h with h0 | ⟨b, q, ha, h⟩
  · exact .inl h0
  · exact .inr ⟨b, q, ha, h.congr e⟩

theorem OVO.congr {w : World} {lo hi N : Nat} {a : Option Addr} {T U : Nat → OpC} (h : OVO w lo hi a N T) (e : ∀ i, i < N → T i = U i) : OVO w lo hi a N U := by
  rcases h with h0 | ⟨b, q, ha, h⟩
  · exact .inl h0
  · exact .inr ⟨b, q, ha, h.congr e⟩
end Go.Proofs.YtnpklnpicelcmaaGreat

namespace Go.Proofs.YtnpklnpicelcmaaGreat
open Go.RowKit
set_option linter.unusedVariables false

/-- What is taken of a row: the things at the places where something is so. -/
def selL {α : Type} (p : Nat → Bool) (f : Nat → α) : Nat → List α
  | 0 => []
  | n + 1 => if p n then selL p f n ++ [f n] else selL p f n

theorem selL_yes {α : Type} {p : Nat → Bool} {f : Nat → α} {n : Nat} (h : p n = true) : selL p f (n + 1) = selL p f n ++ [f n] := by simp [selL, h]

theorem selL_no {α : Type} {p : Nat → Bool} {f : Nat → α} {n : Nat} (h : p n = false) : selL p f (n + 1) = selL p f n := by simp [selL, h]

theorem selL_len {α : Type} (p : Nat → Bool) (f : Nat → α) : ∀ n, (selL p f n).length ≤ n
  | 0 => Nat.le_refl _
  | n + 1 => by
    have := selL_len p f n
    simp only [selL]
    split
    · simp; omega
    · omega

theorem selL_congr {α : Type} {p q : Nat → Bool} {f g : Nat → α} : ∀ {n}, (∀ i, i < n → p i = q i ∧ f i = g i) → selL p f n = selL q g n
  | 0, _ => rfl
  | n + 1, h => by
    have ih := selL_congr (n := n) fun i hi => h i (by omega)
    obtain ⟨h1, h2⟩ := h n (by omega)
    simp only [selL, ih, h1, h2]
end Go.Proofs.YtnpklnpicelcmaaGreat

namespace Go.Proofs.YtnpklnpicelcmaaGreat
open Go.RowKit
set_option linter.unusedVariables false

theorem two_keeps (w : World) (B : Nat) (v0 v1 : Value) : Keeps w ((w.setCell ⟨B, 0, none⟩ v0).setCell ⟨B, 1, none⟩ v1) B (B + 1) := by
  repeat (refine Keeps.trans ?_ (keeps_setCell (p := ⟨B, _, none⟩) (Nat.le_refl B) (Nat.lt_succ_self B) _))
  exact Keeps.refl _ _ _
end Go.Proofs.YtnpklnpicelcmaaGreat

namespace Go.Proofs.YtnpklnpicelcmaaGreat
open Go.RowKit
set_option linter.unusedVariables false

/-- What is wrong with a slot of a heap. -/
def slF (L : List Ob) (own : Int) (s : SL) : Int :=
  if ¬ (0 ≤ s.g ∧ s.g ≤ 99) then 3 else if s.nd = 0 then 0 else
  match findO L (s.nd - 1) with
  | none => 4
  | some x => if ¬ x.o = own then 6 else if s.g = 0 then 8 else 0

/-- What is wrong with the first slots. -/
def slsF (L : List Ob) (own : Int) (S : Nat → SL) : Nat → Int
  | 0 => 0
  | n + 1 => if slsF L own S n = 0 then slF L own (S n) else slsF L own S n

/-- What is wrong with a tenant. -/
def tnF (L : List Ob) (own : Int) (t : TN) : Int :=
  if ¬ ((2 ≤ t.q ∧ t.q ≤ 200) ∧ (0 ≤ t.h ∧ t.h ≤ 99999)) then 3 else if ¬ (1 ≤ t.n ∧ t.n ≤ 8) then 2 else slsF L own t.S t.n

/-- What is wrong with the first tenants. -/
def tnsF (L : List Ob) (T : Nat → TN) : Nat → Int
  | 0 => 0
  | n + 1 => if tnsF L T n = 0 then tnF L (n : Int) (T n) else tnsF L T n

/-- The places to which slots lead. -/
def rootsS (S : Nat → SL) : Nat → List Int := selL (fun j => !decide ((S j).nd = 0)) (fun j => (S j).nd - 1)

/-- How many words a tenant holds. -/
def heldT (f : Nat → Int) (L : List Ob) (t : TN) : Nat := sumW (wordsAt L) (reachO f L (rootsS t.S t.n))

/-- Whether one of the first tenants holds too much. -/
def quF (f : Nat → Int) (L : List Ob) (T : Nat → TN) : Nat → Int
  | 0 => 0
  | n + 1 => if quF f L T n = 0 then (if (T n).q < (heldT f L (T n) : Int) then 9 else 0) else quF f L T n

/-- What is wrong with a heap whose arena is right. -/
def hpF (f : Nat → Int) (L : List Ob) (h : Int) (N : Nat) (T : Nat → TN) : Int :=
  if ¬ (1 ≤ N ∧ N ≤ 4) then 2 else if ¬ tnsF L T N = 0 then tnsF L T N else if ¬ quF f L T N = 0 then quF f L T N else if h < sumF (fun i => (T i).q) N then 7 else 0

/-- What HeapFault answers. -/
def IsHpF (h : Int) (n : Nat) (f : Nat → Int) (ac bu : Int) (N : Nat) (T : Nat → TN) (k : Int) : Prop :=
  (IsSF h n f ac bu k ∧ ¬ k = 0) ∨ (IsSF h n f ac bu 0 ∧ ∃ L, IsOI h n f ac bu 0 L ∧ k = hpF f L h N T)

theorem isHpF_some (h : Int) (n : Nat) (f : Nat → Int) (ac bu : Int) (N : Nat) (T : Nat → TN) : ∃ k, IsHpF h n f ac bu N T k := by
  obtain ⟨k, hk⟩ := isSF_some h n f ac bu
  by_cases h0 : k = 0
  · subst h0
    obtain ⟨L, hL⟩ := isSF_zero hk
    exact ⟨_, .inr ⟨hk, L, hL, rfl⟩⟩
  · exact ⟨k, .inl ⟨hk, h0⟩⟩

theorem slsF_stop {L : List Ob} {own : Int} {S : Nat → SL} {i : Nat} : ∀ {n : Nat}, i < n → slsF L own S i = 0 → ¬ slF L own (S i) = 0 → slsF L own S n = slF L own (S i)
  | 0, h, _, _ => absurd h (Nat.not_lt_zero _)
  | n + 1, h, h0, h1 => by
    rcases Nat.lt_succ_iff_lt_or_eq.mp h with h2 | rfl
    · have := slsF_stop h2 h0 h1
      rw [slsF, if_neg (by rw [this]; exact h1), this]
    · rw [slsF, if_pos h0]

theorem slsF_next {L : List Ob} {own : Int} {S : Nat → SL} {i : Nat} (h0 : slsF L own S i = 0) (h1 : slF L own (S i) = 0) : slsF L own S (i + 1) = 0 := by rw [slsF, if_pos h0, h1]

theorem slsF_all {L : List Ob} {own : Int} {S : Nat → SL} : ∀ {n : Nat}, slsF L own S n = 0 → ∀ i, i < n → slF L own (S i) = 0
  | 0, _, i, h => absurd h (Nat.not_lt_zero _)
  | n + 1, h, i, hi => by
    have h0 : slsF L own S n = 0 := by
      by_cases h0 : slsF L own S n = 0
      · exact h0
      · rw [slsF, if_neg h0] at h; exact h
    rw [slsF, if_pos h0] at h
    rcases Nat.lt_succ_iff_lt_or_eq.mp hi with h2 | rfl
    · exact slsF_all h0 i h2
    · exact h

theorem tnsF_stop {L : List Ob} {T : Nat → TN} {i : Nat} : ∀ {n : Nat}, i < n → tnsF L T i = 0 → ¬ tnF L (i : Int) (T i) = 0 → tnsF L T n = tnF L (i : Int) (T i)
  | 0, h, _, _ => absurd h (Nat.not_lt_zero _)
  | n + 1, h, h0, h1 => by
    rcases Nat.lt_succ_iff_lt_or_eq.mp h with h2 | rfl
    · have := tnsF_stop h2 h0 h1
      rw [tnsF, if_neg (by rw [this]; exact h1), this]
    · rw [tnsF, if_pos h0]

theorem tnsF_next {L : List Ob} {T : Nat → TN} {i : Nat} (h0 : tnsF L T i = 0) (h1 : tnF L (i : Int) (T i) = 0) : tnsF L T (i + 1) = 0 := by rw [tnsF, if_pos h0, h1]

theorem tnsF_all {L : List Ob} {T : Nat → TN} : ∀ {n : Nat}, tnsF L T n = 0 → ∀ i, i < n → tnF L (i : Int) (T i) = 0
  | 0, _, i, h => absurd h (Nat.not_lt_zero _)
  | n + 1, h, i, hi => by
    have h0 : tnsF L T n = 0 := by
      by_cases h0 : tnsF L T n = 0
      · exact h0
      · rw [tnsF, if_neg h0] at h; exact h
    rw [tnsF, if_pos h0] at h
    rcases Nat.lt_succ_iff_lt_or_eq.mp hi with h2 | rfl
    · exact tnsF_all h0 i h2
    · exact h

theorem quF_stop {f : Nat → Int} {L : List Ob} {T : Nat → TN} {i : Nat} : ∀ {n : Nat}, i < n → quF f L T i = 0 → (T i).q < (heldT f L (T i) : Int) → quF f L T n = 9
  | 0, h, _, _ => absurd h (Nat.not_lt_zero _)
  | n + 1, h, h0, h1 => by
    rcases Nat.lt_succ_iff_lt_or_eq.mp h with h2 | rfl
    · have := quF_stop h2 h0 h1
      rw [quF, if_neg (by rw [this]; omega), this]
    · rw [quF, if_pos h0, if_pos h1]

theorem quF_next {f : Nat → Int} {L : List Ob} {T : Nat → TN} {i : Nat} (h0 : quF f L T i = 0) (h1 : ¬ (T i).q < (heldT f L (T i) : Int)) : quF f L T (i + 1) = 0 := by rw [quF, if_pos h0, if_neg h1]

/-- A tenant that is right. -/
structure TnOk (L : List Ob) (own : Int) (t : TN) : Prop where
  q : 2 ≤ t.q ∧ t.q ≤ 200
  h : 0 ≤ t.h ∧ t.h ≤ 99999
  n : 1 ≤ t.n ∧ t.n ≤ 8
  s : ∀ j, j < t.n → slF L own (t.S j) = 0

theorem tnF_ok {L : List Ob} {own : Int} {t : TN} (h : tnF L own t = 0) : TnOk L own t := by
  unfold tnF at h
  by_cases h1 : (2 ≤ t.q ∧ t.q ≤ 200) ∧ (0 ≤ t.h ∧ t.h ≤ 99999)
  · rw [if_neg (fun hn => hn h1)] at h
    by_cases h2 : 1 ≤ t.n ∧ t.n ≤ 8
    · rw [if_neg (fun hn => hn h2)] at h
      exact ⟨h1.1, h1.2, h2, slsF_all h⟩
    · rw [if_pos h2] at h; omega
  · rw [if_pos h1] at h; omega

/-- A slot that is right leads nowhere, or to an object of the owner. -/
theorem slF_ok {L : List Ob} {own : Int} {s : SL} (h : slF L own s = 0) : (0 ≤ s.g ∧ s.g ≤ 99) ∧ (s.nd = 0 ∨ (∃ x, findO L (s.nd - 1) = some x ∧ x.o = own) ∧ ¬ s.g = 0) := by
  unfold slF at h
  by_cases h1 : 0 ≤ s.g ∧ s.g ≤ 99
  · refine ⟨h1, ?_⟩
    rw [if_neg (fun hn => hn h1)] at h
    by_cases h2 : s.nd = 0
    · exact .inl h2
    · rw [if_neg h2] at h
      cases hf : findO L (s.nd - 1) with
      | none => rw [hf] at h; simp at h
      | some x =>
        rw [hf] at h
        simp only at h
        by_cases h3 : x.o = own
        · rw [if_neg (fun hn => hn h3)] at h
          by_cases h4 : s.g = 0
          · rw [if_pos h4] at h; omega
          · exact .inr ⟨⟨x, rfl, h3⟩, h4⟩
        · rw [if_pos h3] at h; omega
  · rw [if_pos h1] at h; omega

theorem rootsS_yes {S : Nat → SL} {i : Nat} (h : ¬ (S i).nd = 0) : rootsS S (i + 1) = rootsS S i ++ [(S i).nd - 1] := selL_yes (by simp [h])

theorem rootsS_no {S : Nat → SL} {i : Nat} (h : (S i).nd = 0) : rootsS S (i + 1) = rootsS S i := selL_no (by simp [h])

theorem rootsS_len (S : Nat → SL) (n : Nat) : (rootsS S n).length ≤ n := selL_len _ _ _

theorem mem_rootsS {S : Nat → SL} {p : Int} : ∀ {n : Nat}, p ∈ rootsS S n → ∃ j, j < n ∧ ¬ (S j).nd = 0 ∧ p = (S j).nd - 1
  | 0, h => by cases h
  | n + 1, h => by
    by_cases h0 : (S n).nd = 0
    · rw [rootsS_no h0] at h
      obtain ⟨j, h1, h2⟩ := mem_rootsS h
      exact ⟨j, by omega, h2⟩
    · rw [rootsS_yes h0] at h
      rcases List.mem_append.mp h with h | h
      · obtain ⟨j, h1, h2⟩ := mem_rootsS h
        exact ⟨j, by omega, h2⟩
      · simp only [List.mem_singleton] at h
        exact ⟨n, by omega, h0, h⟩

theorem rootsS_in {L : List Ob} {own : Int} {t : TN} (h : TnOk L own t) : ∀ p ∈ rootsS t.S t.n, p ∈ placesO L := fun p hp => by
  obtain ⟨j, h1, h2, rfl⟩ := mem_rootsS hp
  obtain ⟨_, h3 | ⟨⟨x, h3, _⟩, _⟩⟩ := slF_ok (h.s j h1)
  · exact absurd h3 h2
  · exact mem_placesO.2 ⟨x, h3⟩

theorem rootsS_congr {S U : Nat → SL} {n : Nat} (h : ∀ j, j < n → S j = U j) : rootsS S n = rootsS U n := selL_congr fun i hi => by rw [h i hi]; exact ⟨rfl, rfl⟩

theorem slsF_congr {L : List Ob} {own : Int} {S U : Nat → SL} : ∀ {n : Nat}, (∀ j, j < n → S j = U j) → slsF L own S n = slsF L own U n
  | 0, _ => rfl
  | n + 1, h => by rw [slsF, slsF, slsF_congr fun j hj => h j (by omega), h n (by omega)]

theorem tnF_same {L : List Ob} {own : Int} {t u : TN} (h : TnSame t u) : tnF L own u = tnF L own t := by
  obtain ⟨h1, h2, h3, h4⟩ := h
  unfold tnF
  rw [← h1, ← h2, ← h3, slsF_congr (fun j hj => (h4 j hj).symm)]

theorem heldT_same {f : Nat → Int} {L : List Ob} {t u : TN} (h : TnSame t u) : heldT f L u = heldT f L t := by
  obtain ⟨h1, h2, h3, h4⟩ := h
  unfold heldT
  rw [← h3, rootsS_congr (fun j hj => (h4 j hj).symm)]

theorem tnsF_same {L : List Ob} {T U : Nat → TN} : ∀ {N : Nat}, (∀ i, i < N → TnSame (T i) (U i)) → tnsF L U N = tnsF L T N
  | 0, _ => rfl
  | n + 1, h => by rw [tnsF, tnsF, tnsF_same fun i hi => h i (by omega), tnF_same (h n (by omega))]

theorem quF_same {f : Nat → Int} {L : List Ob} {T U : Nat → TN} : ∀ {N : Nat}, (∀ i, i < N → TnSame (T i) (U i)) → quF f L U N = quF f L T N
  | 0, _ => rfl
  | n + 1, h => by rw [quF, quF, quF_same fun i hi => h i (by omega), heldT_same (h n (by omega)), (h n (by omega)).1]

theorem sumF_same {T U : Nat → TN} : ∀ {N : Nat}, (∀ i, i < N → TnSame (T i) (U i)) → sumF (fun i => (U i).q) N = sumF (fun i => (T i).q) N
  | 0, _ => rfl
  | n + 1, h => by rw [sumF, sumF, sumF_same fun i hi => h i (by omega), (h n (by omega)).1]

theorem isHpF_same {h : Int} {n : Nat} {f : Nat → Int} {ac bu : Int} {N : Nat} {T U : Nat → TN} {k : Int} (hk : IsHpF h n f ac bu N T k) (hs : ∀ i, i < N → TnSame (T i) (U i)) : IsHpF h n f ac bu N U k := by
  rcases hk with hk | ⟨hk, L, hL, rfl⟩
  · exact .inl hk
  · refine .inr ⟨hk, L, hL, ?_⟩
    unfold hpF
    rw [tnsF_same hs, quF_same hs, sumF_same hs]
end Go.Proofs.YtnpklnpicelcmaaGreat

namespace Go.Proofs.YtnpklnpicelcmaaGreat
open Go.RowKit
set_option linter.unusedVariables false

theorem nums_one_more (L : List Int) (x : Int) (B : Nat) (w : World) (v : Value) (h : w.ownsRow B 2 1 v (L.length + 1) (nums L.length (lf L) ++ [.int .i64 x])) : w.ownsRow B 2 1 v (L ++ [x]).length (nums (L ++ [x]).length (lf (L ++ [x]))) := by
  rw [show (L ++ [x]).length = L.length + 1 by simp, ← nums_snoc]; exact h

set_option maxRecDepth 100000 in
set_option maxHeartbeats 1600000 in
theorem l7RootsOf_any (b o : Nat) (t : TN) (w : World) (hb : b < w.heap.size) (hg : ThrG w b o t) (hp : PV w t.a t.n t.S) (hn : t.n ≤ 8) (hs : ∀ j, j < t.n → (t.S j).nd = 0 ∨ (1 ≤ (t.S j).nd ∧ (t.S j).nd ≤ 1000001)) :
    Calls Tryz.prog 79 #[.pointer (some ⟨b, o, none⟩)] w (RetInts w (rootsS t.S t.n).length (lf (rootsS t.S t.n))) := by
  obtain ⟨i0, hif, hz0, hz1, hz2⟩ := info_parts Tryz.info2
  have P := Lib.hid hp; have G := Lib.hid hg; have HS := Lib.hid hs
  have OWa : Hid ((w.alloc (.cells #[] 2)).ownsRow w.heap.size 2 1 (.slice (some ⟨w.heap.size, 0, none⟩) 0 0) ([] : List Int).length (nums ([] : List Int).length (lf []))) := World.ownsRow_lit w #[] 0 (Nat.le_refl _) (by simp [maxLen]) rfl
  have HBa : Hid (Below w.heap.size w (w.alloc (.cells #[] 2))) := (Below.refl _ _).alloc (Nat.le_refl _) _
  clear hp hg hs
  go_enter Tryz.func79, Tryz.ntmps79
  go_wp2
  go_loopw [3, 4] (fun u p wr => ∃ (i : Nat) (L : List Int), i ≤ t.n ∧ p = .int .i64 (i : Int) ∧ Hid (L = rootsS t.S i) ∧ Hid (Below w.heap.size w wr) ∧ Hid (wr.ownsRow w.heap.size 2 1 u L.length (nums L.length (lf L)))) (fun _ p _ => t.n - (intOf p).toNat)
  case atStart => exact ⟨0, [], Nat.zero_le _, rfl, Lib.hid rfl, HBa, OWa⟩
  case round =>
    clear OWa HBa
    obtain ⟨i, L, hi, rfl, HL, HB_r, OW_r⟩ := hrel
    have hzr := HB_r.out.size
    have hbr : b < wr.heap.size := by omega
    obtain ⟨g0, g1, g2⟩ := G.out.below HB_r.out hb
    by_cases hlt : i < t.n
    · have hlt' : (i : Int) < (t.n : Int) := by omega
      have hi0 : (0 : Int) ≤ (i : Int) := by omega
      obtain ⟨pb, pq, hta, lp, s0, s1⟩ := pv_get (P.out.below HB_r.out) hlt
      have hll : L.length ≤ i := by rw [HL.out]; exact rootsS_len _ _
      have hrg := HS.out i hlt
      rw [hta] at g2
      by_cases hz : (t.S i).nd = 0
      · have HL2 : Hid (L = rootsS t.S (i + 1)) := Lib.hid (by rw [HL.out, rootsS_no hz])
        rw [hz] at s1
        clear HL hz hrg hta
        go_wp2
        go_roundw
        case rel => first | exact ⟨i + 1, L, by omega, by go_num, HL2, HB_r, OW_r⟩ | ((repeat apply Exists.intro); exact ⟨⟨i + 1, L, by omega, by go_num, HL2, HB_r, OW_r⟩, rfl⟩)
        case measure => simp [intOf]; omega
      · have HL2 : Hid (L ++ [(t.S i).nd - 1] = rootsS t.S (i + 1)) := Lib.hid (by rw [HL.out, rootsS_yes hz])
        have hq : ((t.S i).nd != 0) = true := by simp [hz]
        have hr1 : 1 ≤ (t.S i).nd := by omega
        have hr2 : (t.S i).nd ≤ 1000001 := by omega
        have HGE : Hid (∀ k, u3.ownBlock = some k → w.heap.size ≤ k) := Lib.hid (fun k hk => (OW_r.out.lt k hk).1)
        generalize (t.S i).nd = y at *
        clear HL hz hrg hta
        go_wp2_with (at_builtin; go_loud (refine wpList_append_lies _ rfl _ _ 22 rfl w.heap.size 2 i0 (.int .i64 0) 1 8 Tryz.underlying22 hif hz0 hz1 hz2 rfl (by decide) u3 L.length (nums L.length (lf L)) rfl (OW_r.out.alloc _) ⟨wr.heap.size, 0, none⟩ 1 1 [.int .i64 (y - 1)] rfl rfl (news1 wr (y - 1)) (by intro u hu; simp only [List.mem_cons, List.mem_nil_iff, or_false] at hu; subst hu; rfl) (by omega) (by unfold maxLen; omega) (by omega) (by simp; omega) (wr.heap.size + 1) (by simp) ?_); intro g9 cap9 w9 hown9 hgrow9 hat9 hlt9)
        have HB9 : Hid (Below w.heap.size w w9) := (HB_r.out.alloc hzr _).grown hgrow9 (by simp; omega) (fun k hk => HGE.out k hk)
        have OW9 := Lib.hid (nums_one_more L (y - 1) _ _ _ hown9)
        clear hown9 hgrow9 hat9 s0 s1 g0 g1 g2 hq
        go_wp2
        go_roundw
        case rel => first | exact ⟨i + 1, L ++ [y - 1], by omega, by go_num, HL2, HB9, OW9⟩ | ((repeat apply Exists.intro); exact ⟨⟨i + 1, L ++ [y - 1], by omega, by go_num, HL2, HB9, OW9⟩, rfl⟩)
        case measure => simp [intOf]; omega
    · have hlt' : ¬ (i : Int) < (t.n : Int) := by omega
      obtain rfl : i = t.n := by omega
      have HRet := Lib.hid (retInts_of_row OW_r.out HB_r.out)
      have hL := HL.out
      subst hL
      go_wp2
      go_ret
      exact HRet.out
end Go.Proofs.YtnpklnpicelcmaaGreat

namespace Go.Proofs.YtnpklnpicelcmaaGreat
open Go.RowKit
set_option linter.unusedVariables false

theorem findO_far {L : List Ob} {y : Int} (hp : ∀ x ∈ L, 0 ≤ x.at_ ∧ x.at_ ≤ 1000000) (hy : y < 0 ∨ 1000000 < y) : findO L y = none := by
  cases hf : findO L y with
  | none => rfl
  | some x =>
    have h1 := hp x (List.mem_of_find?_eq_some hf)
    rw [findO_place hf] at h1
    omega

theorem oms_place {w : World} {base lo : Nat} {f : Nat → Int} {v : Value} {M : List OM} (hm : OMS w base lo f v M) : ∀ x ∈ M.map OM.x, 0 ≤ x.at_ ∧ x.at_ ≤ 1000000 := fun x hx => by
  obtain ⟨t, ht, rfl⟩ := List.mem_map.mp hx
  exact (hm.ok t ht).2.2.1

theorem oms_size {w : World} {base lo : Nat} {f : Nat → Int} {v : Value} {M : List OM} (hm : OMS w base lo f v M) : ∀ x ∈ M.map OM.x, 0 ≤ x.s := fun x hx => by
  obtain ⟨t, ht, rfl⟩ := List.mem_map.mp hx
  exact (hm.ok t ht).1.1

theorem tnok_nd {L : List Ob} {own : Int} {t : TN} (h : TnOk L own t) (hp : ∀ x ∈ L, 0 ≤ x.at_ ∧ x.at_ ≤ 1000000) : ∀ j, j < t.n → (t.S j).nd = 0 ∨ (1 ≤ (t.S j).nd ∧ (t.S j).nd ≤ 1000001) := fun j hj => by
  obtain ⟨_, h1 | ⟨⟨x, h1, _⟩, _⟩⟩ := slF_ok (h.s j hj)
  · exact .inl h1
  · have h2 := hp x (List.mem_of_find?_eq_some h1)
    rw [findO_place h1] at h2
    exact .inr (by omega)

set_option maxRecDepth 100000 in
set_option maxHeartbeats 1600000 in
theorem l7Held_any (B : Nat) (h ac bu : Int) (a : Option Addr) (n c : Nat) (ta : Option Addr) (N tc : Nat) (T : Nat → TN) (v : Value) (M : List OM) (base lo : Nat) (f : Nat → Int) (i : Nat) (w : World)
    (hB : Blk w B [.int .i64 h, .slice a n c, .int .i64 ac, .int .i64 bu, .slice ta N tc]) (ht : TV w ta N T) (hm : OMS w base lo f v M) (hp : Points f (M.map OM.x)) (hi : i < N) (hN : N ≤ 4) (hok : TnOk (M.map OM.x) (i : Int) (T i)) :
    Calls Tryz.prog 40 #[.pointer (some ⟨B, 0, none⟩), v, .int .i64 i] w fun e w' => e = .returned (.int .i64 (heldT f (M.map OM.x) (T i) : Int)) ∧ Below w.heap.size w w' := by
  obtain ⟨tb, tq, rfl, lt, htn, hsl⟩ := tv_get ht hi
  have hi' : (i : Int) < (N : Int) := by omega
  have hi0 : (0 : Int) ≤ (i : Int) := by omega
  have b4 := hB.at 4 rfl; have lB := hB.1
  have HM := Lib.hid hm; have HP := Lib.hid hp; have HOK := Lib.hid hok; have HT := Lib.hid htn; have HS := Lib.hid hsl
  clear hB ht hm hp hok htn hsl
  go_enter Tryz.func40, Tryz.ntmps40
  go_wp2_with fail
  refine (l7RootsOf_any tb (tq + i * 3) (T i) _ lt HT.out HS.out HOK.out.n.2 (tnok_nd HOK.out (oms_place HM.out))).mono ?_
  rintro e w1 ⟨ra, rc, rfl, ho, hb, _, _, _⟩
  have HB1 := Lib.hid hb; have HR := Lib.hid ho.src
  have hrl : (rootsS (T i).S (T i).n).length ≤ 8 := Nat.le_trans (rootsS_len _ _) HOK.out.n.2
  clear ho hb b4 lB
  go_wp2_with fail
  refine (l4Reach_any v M base lo ra (rootsS (T i).S (T i).n) rc f _ (HM.out.below HB1.out) HP.out HR.out (by omega) (rootsS_in HOK.out)).mono ?_
  rintro e w2 ⟨qa, qc, rfl, ho, hb, _, _, _⟩
  have HB2 := Lib.hid (thru0 HB1.out hb); have HQ := Lib.hid ho.src
  clear ho hb
  have hql : (reachO f (M.map OM.x) (rootsS (T i).S (T i).n)).length ≤ 400 := by
    have := reachO_length HP.out (oms_size HM.out) (rootsS_in HOK.out)
    have := HM.out.len
    simp at *
    omega
  go_wp2_with fail
  refine (l4Words_any v M base lo qa (reachO f (M.map OM.x) (rootsS (T i).S (T i).n)) qc f _ (HM.out.below HB2.out) HQ.out hql (reachO_sub HP.out (oms_size HM.out) (rootsS_in HOK.out))).mono ?_
  rintro e w3 ⟨rfl, rfl⟩
  go_wp2
  go_ret
  exact ⟨rfl, HB2.out⟩

set_option maxRecDepth 100000 in
set_option maxHeartbeats 3200000 in
theorem l7Slots_any (b o : Nat) (t : TN) (v : Value) (M : List OM) (base lo : Nat) (f : Nat → Int) (own : Int) (w : World) (hb : b < w.heap.size) (hg : ThrG w b o t) (hp : PV w t.a t.n t.S) (hm : OMS w base lo f v M) (hn : t.n ≤ 8)
    (hr : ∀ j, j < t.n → -9223372036854775808 ≤ (t.S j).nd ∧ (t.S j).nd ≤ 9223372036854775807) :
    Calls Tryz.prog 76 #[.pointer (some ⟨b, o, none⟩), v, .int .i64 own] w fun e w' => e = .returned (.int .i64 (slsF (M.map OM.x) own t.S t.n)) ∧ Below w.heap.size w w' := by
  have P := Lib.hid hp; have G := Lib.hid hg; have HM := Lib.hid hm; have HR := Lib.hid hr
  have hPL := Lib.hid (oms_place hm)
  obtain ⟨a1, k1, rfl⟩ := row_nil hm.row
  clear hp hg hm hr
  go_enter Tryz.func76, Tryz.ntmps76
  go_wp2
  go_loopw [7] (fun p wr => ∃ i : Nat, i ≤ t.n ∧ p = .int .i64 (i : Int) ∧ Hid (slsF (M.map OM.x) own t.S i = 0) ∧ Hid (Below w.heap.size w wr)) (fun p _ => t.n - (intOf p).toNat)
  case atStart => exact ⟨0, Nat.zero_le _, rfl, Lib.hid rfl, Below.refl _ _⟩
  case round =>
    obtain ⟨i, hi, rfl, H0, HB_r⟩ := hrel
    have hzr := HB_r.out.size
    have hbr : b < wr.heap.size := by omega
    obtain ⟨g0, g1, g2⟩ := G.out.below HB_r.out hb
    by_cases hlt : i < t.n
    · have hlt' : (i : Int) < (t.n : Int) := by omega
      have hi0 : (0 : Int) ≤ (i : Int) := by omega
      obtain ⟨pb, pq, hta, lp, s0, s1⟩ := pv_get (P.out.below HB_r.out) hlt
      rw [hta] at g2
      have HBA : Hid (Below w.heap.size w (wr.alloc (.cells #[.int .i64 (t.S i).g, .int .i64 (t.S i).nd] 63))) := Lib.hid (HB_r.out.alloc hzr _)
      have HST := Lib.hid (fun h1 => slsF_stop (L := M.map OM.x) (own := own) (S := t.S) hlt H0.out h1)
      have HNX := Lib.hid (fun h1 => slsF_next (L := M.map OM.x) (own := own) (S := t.S) (i := i) H0.out h1)
      have hrg := HR.out i hlt
      by_cases hgen : 0 ≤ (t.S i).g ∧ (t.S i).g ≤ 99
      · obtain ⟨hg0, hg9⟩ := hgen
        by_cases hz : (t.S i).nd = 0
        · have HK := Lib.hid (HNX.out (by unfold slF; rw [if_neg (fun h => h ⟨hg0, hg9⟩), if_pos hz]))
          have hq : ((t.S i).nd == 0) = true := by simp [hz]
          clear hta HST HNX hz
          generalize t.S i = s at *
          go_wp2_with fail
          refine (l1In_yes s.g 0 99 _ hg0 hg9).mono ?_
          rintro e w2 ⟨rfl, rfl⟩
          go_wp2
          go_roundw
          case rel => first | exact ⟨i + 1, by omega, by go_num, HK, HBA⟩ | ((repeat apply Exists.intro); exact ⟨⟨i + 1, by omega, by go_num, HK, HBA⟩, rfl⟩)
          case measure => simp [intOf]; omega
        · have hq : ((t.S i).nd == 0) = false := by simp [hz]
          have HMA := Lib.hid (HM.out.below HBA.out)
          cases hf : findO (M.map OM.x) ((t.S i).nd - 1) with
          | none =>
            have HK : Hid (slsF (M.map OM.x) own t.S t.n = 4) := Lib.hid (by
              have e : slF (M.map OM.x) own (t.S i) = 4 := by unfold slF; rw [if_neg (fun h => h ⟨hg0, hg9⟩), if_neg hz, hf]
              rw [HST.out (by rw [e]; omega), e])
            obtain ⟨y, hy, hfy⟩ : ∃ y, IntKind.i64.wrap ((t.S i).nd - 1) = y ∧ findO (M.map OM.x) y = none := by
              by_cases hmin : (t.S i).nd = -9223372036854775808
              · exact ⟨_, rfl, findO_far hPL.out (by rw [hmin]; right; decide)⟩
              · exact ⟨_, IntWalk.i64_in _ (by omega), hf⟩
            have HFY := Lib.hid hfy
            clear hta HST HNX hz hf hfy hrg
            generalize t.S i = s at *
            go_wp2_with fail
            refine (l1In_yes s.g 0 99 _ hg0 hg9).mono ?_
            rintro e w2 ⟨rfl, rfl⟩
            go_wp2_with fail
            refine (l3Find_any _ M base y _ HMA.out.row HMA.out.len).mono ?_
            rintro e w2 ⟨rfl, ⟨_, rfl⟩ | ⟨j, x, hx, _⟩⟩
            · go_wp2
              go_ret
              exact ⟨by rw [HK.out]; rfl, HBA.out⟩
            · rw [HFY.out] at hx; cases hx
          | some x =>
            have hxb := hPL.out x (List.mem_of_find?_eq_some hf)
            rw [findO_place hf] at hxb
            have hr1 : 1 ≤ (t.S i).nd := by omega
            have hr2 : (t.S i).nd ≤ 1000001 := by omega
            have HF := Lib.hid hf
            have HSF : Hid (slF (M.map OM.x) own (t.S i) = if ¬ x.o = own then 6 else if (t.S i).g = 0 then 8 else 0) := Lib.hid (by unfold slF; rw [if_neg (fun h => h ⟨hg0, hg9⟩), if_neg hz, hf])
            have HC : Hid ((¬ x.o = own ∧ slsF (M.map OM.x) own t.S t.n = 6) ∨ (x.o = own ∧ (t.S i).g = 0 ∧ slsF (M.map OM.x) own t.S t.n = 8) ∨ (x.o = own ∧ ¬ (t.S i).g = 0 ∧ slsF (M.map OM.x) own t.S (i + 1) = 0)) := Lib.hid (by
              by_cases h1 : x.o = own
              · by_cases h2 : (t.S i).g = 0
                · have e : slF (M.map OM.x) own (t.S i) = 8 := by rw [HSF.out, if_neg (fun h => h h1), if_pos h2]
                  exact .inr (.inl ⟨h1, h2, by rw [HST.out (by rw [e]; omega), e]⟩)
                · exact .inr (.inr ⟨h1, h2, HNX.out (by rw [HSF.out, if_neg (fun h => h h1), if_neg h2])⟩)
              · have e : slF (M.map OM.x) own (t.S i) = 6 := by rw [HSF.out, if_pos h1]
                exact .inl ⟨h1, by rw [HST.out (by rw [e]; omega), e]⟩)
            clear hta HST HNX HSF hz hf hrg hxb
            generalize t.S i = s at *
            go_wp2_with fail
            refine (l1In_yes s.g 0 99 _ hg0 hg9).mono ?_
            rintro e w2 ⟨rfl, rfl⟩
            go_wp2_with fail
            refine (l3Find_any _ M base (s.nd - 1) _ HMA.out.row HMA.out.len).mono ?_
            rintro e w2 ⟨rfl, ⟨h0, rfl⟩ | ⟨j, x', hx, hj, rfl⟩⟩
            · rw [HF.out] at h0; cases h0
            · rw [HF.out] at hx
              simp only [Option.some.injEq] at hx
              subst hx
              obtain ⟨gb, gc, -, -, e1, hjm, l1, -, -, -, x3, -⟩ := HMA.out.get hj
              simp only [Value.slice.injEq] at e1
              obtain ⟨rfl, -, rfl⟩ := e1
              have hj' : (j : Int) < (M.length : Int) := by omega
              have hj0 : (0 : Int) ≤ (j : Int) := by omega
              clear hj HF
              rcases HC.out with ⟨h1, h2⟩ | ⟨h1, h2, h3⟩ | ⟨h1, h2, h3⟩
              · have hq2 : (x.o != own) = true := by simp [h1]
                have HK := Lib.hid h2
                clear HC h1 h2
                go_wp2
                go_ret
                exact ⟨by rw [HK.out]; rfl, HBA.out⟩
              · have hq2 : (x.o != own) = false := by simp [h1]
                have hq3 : (s.g == 0) = true := by simp [h2]
                have HK := Lib.hid h3
                clear HC h1 h2 h3
                go_wp2
                go_ret
                exact ⟨by rw [HK.out]; rfl, HBA.out⟩
              · have hq2 : (x.o != own) = false := by simp [h1]
                have hq3 : (s.g == 0) = false := by simp [h2]
                have HK := Lib.hid h3
                clear HC h1 h2 h3
                go_wp2
                go_roundw
                case rel => first | exact ⟨i + 1, by omega, by go_num, HK, HBA⟩ | ((repeat apply Exists.intro); exact ⟨⟨i + 1, by omega, by go_num, HK, HBA⟩, rfl⟩)
                case measure => simp [intOf]; omega
      · have HK : Hid (slsF (M.map OM.x) own t.S t.n = 3) := Lib.hid (by
          have e : slF (M.map OM.x) own (t.S i) = 3 := by unfold slF; rw [if_pos hgen]
          rw [HST.out (by rw [e]; omega), e])
        have HG := Lib.hid hgen
        clear hta HST HNX hgen
        generalize t.S i = s at *
        go_wp2_with fail
        refine (l1In_no s.g 0 99 _ HG.out).mono ?_
        rintro e w2 ⟨rfl, rfl⟩
        go_wp2
        go_ret
        exact ⟨by rw [HK.out]; rfl, HBA.out⟩
    · have hlt' : ¬ (i : Int) < (t.n : Int) := by omega
      obtain rfl : i = t.n := by omega
      go_wp2
      go_ret
      exact ⟨by rw [H0.out]; rfl, HB_r.out⟩
end Go.Proofs.YtnpklnpicelcmaaGreat

namespace Go.Proofs.YtnpklnpicelcmaaGreat
open Go.RowKit
set_option linter.unusedVariables false

set_option maxRecDepth 100000 in
set_option maxHeartbeats 3200000 in
theorem l7Tenants_any (B : Nat) (h ac bu : Int) (a : Option Addr) (n c : Nat) (ta : Option Addr) (N tc : Nat) (T : Nat → TN) (v : Value) (M : List OM) (base lo : Nat) (f : Nat → Int) (k : Int) (w : World)
    (hB : Blk w B [.int .i64 h, .slice a n c, .int .i64 ac, .int .i64 bu, .slice ta N tc]) (ht : TV w ta N T) (hN : N ≤ maxLen) (hn : ∀ i, i < N → (T i).n ≤ maxLen) (hm : OMS w base lo f v M) (hr : ∀ i, i < N → ∀ j, j < (T i).n → -9223372036854775808 ≤ ((T i).S j).nd ∧ ((T i).S j).nd ≤ 9223372036854775807)
    (hk : (¬ (1 ≤ N ∧ N ≤ 4) ∧ k = 2) ∨ ((1 ≤ N ∧ N ≤ 4) ∧ k = tnsF (M.map OM.x) T N)) :
    Calls Tryz.prog 39 #[.pointer (some ⟨B, 0, none⟩), v] w fun e w' => e = .returned (.int .i64 k) ∧ Below w.heap.size w w' := by
  have BB := Lib.hid hB; have HT := Lib.hid ht; have HM := Lib.hid hm; have HR := Lib.hid hr; have HN := Lib.hid hn
  unfold maxLen at hN
  have b4 := hB.at 4 rfl; have lB := hB.1
  clear hB ht hm hr hn
  rcases hk with ⟨hk, rfl⟩ | ⟨⟨hk1, hk4⟩, rfl⟩
  · rcases (by omega : N = 0 ∨ 4 < N) with rfl | h4
    · go_enter Tryz.func39, Tryz.ntmps39
      go_wp2
      go_ret
      exact ⟨rfl, Below.refl _ _⟩
    · have h1' : ¬ (N : Int) < 1 := by omega
      have h4' : (4 : Int) < (N : Int) := by omega
      clear hk
      go_enter Tryz.func39, Tryz.ntmps39
      go_wp2
      go_ret
      exact ⟨rfl, Below.refl _ _⟩
  · have h1' : ¬ (N : Int) < 1 := by omega
    have h4' : ¬ (4 : Int) < (N : Int) := by omega
    go_enter Tryz.func39, Tryz.ntmps39
    go_wp2
    clear b4 lB
    go_loopw [5] (fun p wr => ∃ i : Nat, i ≤ N ∧ p = .int .i64 (i : Int) ∧ Hid (tnsF (M.map OM.x) T i = 0) ∧ Hid (Below w.heap.size w wr)) (fun p _ => N - (intOf p).toNat)
    case atStart => exact ⟨0, Nat.zero_le _, rfl, Lib.hid rfl, Below.refl _ _⟩
    case round =>
      obtain ⟨i, hi, rfl, H0, HB_r⟩ := hrel
      have hzr := HB_r.out.size
      have Br := Lib.hid (BB.out.below HB_r.out)
      have b4 := Br.out.at 4 rfl; have lB := Br.out.1
      by_cases hlt : i < N
      · have hlt' : (i : Int) < (N : Int) := by omega
        have hi0 : (0 : Int) ≤ (i : Int) := by omega
        obtain ⟨tb, tq, rfl, lt, htn, hsl⟩ := tv_get (HT.out.below HB_r.out) hlt
        have HTN := Lib.hid htn; have HSL := Lib.hid hsl
        obtain ⟨g0, g1, g2⟩ := htn
        clear hsl
        have HST := Lib.hid (fun h1 => tnsF_stop (L := M.map OM.x) (T := T) hlt H0.out h1)
        have HNX := Lib.hid (fun h1 => tnsF_next (L := M.map OM.x) (T := T) (i := i) H0.out h1)
        have hnm := HN.out i hlt
        unfold maxLen at hnm
        have HRI := Lib.hid (HR.out i hlt)
        by_cases hq : 2 ≤ (T i).q ∧ (T i).q ≤ 200
        · obtain ⟨hq1, hq2⟩ := hq
          by_cases hh : 0 ≤ (T i).h ∧ (T i).h ≤ 99999
          · obtain ⟨hh1, hh2⟩ := hh
            by_cases hs : 1 ≤ (T i).n ∧ (T i).n ≤ 8
            · have e1 : tnF (M.map OM.x) (i : Int) (T i) = slsF (M.map OM.x) (i : Int) (T i).S (T i).n := by unfold tnF; rw [if_neg (fun h => h ⟨⟨hq1, hq2⟩, ⟨hh1, hh2⟩⟩), if_neg (fun h => h hs)]
              obtain ⟨c9, hc9⟩ : ∃ c9, slsF (M.map OM.x) (i : Int) (T i).S (T i).n = c9 := ⟨_, rfl⟩
              rw [hc9] at e1
              have HE := Lib.hid e1
              have HC := Lib.hid hc9
              have hs1 : ¬ ((T i).n : Int) < 1 := by omega
              have hs2 : ¬ (8 : Int) < ((T i).n : Int) := by omega
              have hs8 : (T i).n ≤ 8 := hs.2
              clear e1 hc9 hs
              generalize T i = t at *
              go_wp2_with fail
              refine (l1In_yes t.q 2 200 _ hq1 hq2).mono ?_
              rintro e w2 ⟨rfl, rfl⟩
              go_wp2_with fail
              refine (l1In_yes t.h 0 99999 _ hh1 hh2).mono ?_
              rintro e w2 ⟨rfl, rfl⟩
              go_wp2_with fail
              refine (l7Slots_any tb (tq + i * 3) t v M base lo f (i : Int) _ lt HTN.out HSL.out (HM.out.below HB_r.out) hs8 HRI.out).mono ?_
              rintro e w2 ⟨rfl, hb⟩
              have HB2 := Lib.hid (thru0 HB_r.out hb)
              rw [HC.out]
              clear hb b4 lB g0 g1 g2 lt
              by_cases h0 : c9 = 0
              · have HK := Lib.hid (HNX.out (HE.out.trans h0))
                subst h0
                clear HST HNX HE HC
                go_wp2
                go_roundw
                case rel => first | exact ⟨i + 1, by omega, by go_num, HK, HB2⟩ | ((repeat apply Exists.intro); exact ⟨⟨i + 1, by omega, by go_num, HK, HB2⟩, rfl⟩)
                case measure => simp [intOf]; omega
              · have HK := Lib.hid (HST.out (by rw [HE.out]; exact h0))
                have hq9 : (c9 != 0) = true := by simp [h0]
                have HKE := Lib.hid (HK.out.trans HE.out)
                clear HST HNX HE HC h0 HK
                go_wp2
                go_ret
                exact ⟨by rw [HKE.out]; rfl, HB2.out⟩
            · have e1 : tnF (M.map OM.x) (i : Int) (T i) = 2 := by unfold tnF; rw [if_neg (fun h => h ⟨⟨hq1, hq2⟩, ⟨hh1, hh2⟩⟩), if_pos hs]
              have HK : Hid (tnsF (M.map OM.x) T N = 2) := Lib.hid (by rw [HST.out (by rw [e1]; omega), e1])
              clear HST HNX e1
              generalize T i = t at *
              rcases (by omega : t.n = 0 ∨ 8 < t.n) with h0 | h8
              · have hs1 : (t.n : Int) < 1 := by omega
                clear hs h0
                go_wp2_with fail
                refine (l1In_yes t.q 2 200 _ hq1 hq2).mono ?_
                rintro e w2 ⟨rfl, rfl⟩
                go_wp2_with fail
                refine (l1In_yes t.h 0 99999 _ hh1 hh2).mono ?_
                rintro e w2 ⟨rfl, rfl⟩
                go_wp2
                go_ret
                exact ⟨by rw [HK.out]; rfl, HB_r.out⟩
              · have hs1 : ¬ (t.n : Int) < 1 := by omega
                have hs2 : (8 : Int) < (t.n : Int) := by omega
                clear hs
                go_wp2_with fail
                refine (l1In_yes t.q 2 200 _ hq1 hq2).mono ?_
                rintro e w2 ⟨rfl, rfl⟩
                go_wp2_with fail
                refine (l1In_yes t.h 0 99999 _ hh1 hh2).mono ?_
                rintro e w2 ⟨rfl, rfl⟩
                go_wp2
                go_ret
                exact ⟨by rw [HK.out]; rfl, HB_r.out⟩
          · have e1 : tnF (M.map OM.x) (i : Int) (T i) = 3 := by unfold tnF; rw [if_pos (fun h => hh h.2)]
            have HK : Hid (tnsF (M.map OM.x) T N = 3) := Lib.hid (by rw [HST.out (by rw [e1]; omega), e1])
            have HH := Lib.hid hh
            clear HST HNX e1 hh
            generalize T i = t at *
            go_wp2_with fail
            refine (l1In_yes t.q 2 200 _ hq1 hq2).mono ?_
            rintro e w2 ⟨rfl, rfl⟩
            go_wp2_with fail
            refine (l1In_no t.h 0 99999 _ HH.out).mono ?_
            rintro e w2 ⟨rfl, rfl⟩
            go_wp2
            go_ret
            exact ⟨by rw [HK.out]; rfl, HB_r.out⟩
        · have e1 : tnF (M.map OM.x) (i : Int) (T i) = 3 := by unfold tnF; rw [if_pos (fun h => hq h.1)]
          have HK : Hid (tnsF (M.map OM.x) T N = 3) := Lib.hid (by rw [HST.out (by rw [e1]; omega), e1])
          have HQ := Lib.hid hq
          clear HST HNX e1 hq
          generalize T i = t at *
          go_wp2_with fail
          refine (l1In_no t.q 2 200 _ HQ.out).mono ?_
          rintro e w2 ⟨rfl, rfl⟩
          go_wp2
          go_ret
          exact ⟨by rw [HK.out]; rfl, HB_r.out⟩
      · have hlt' : ¬ (i : Int) < (N : Int) := by omega
        obtain rfl : i = N := by omega
        go_wp2
        go_ret
        exact ⟨by rw [H0.out]; rfl, HB_r.out⟩
end Go.Proofs.YtnpklnpicelcmaaGreat

namespace Go.Proofs.YtnpklnpicelcmaaGreat
open Go.RowKit
set_option linter.unusedVariables false

theorem blk_pre4 {w : World} {b : Nat} {x0 x1 x2 x3 x4 : Value} (h : Blk w b [x0, x1, x2, x3, x4]) : Blk w b [x0, x1, x2, x3] := ⟨h.1, fun j u hu => h.2 j u (by
  rcases j with _ | _ | _ | _ | j
  · simpa using hu
  · simpa using hu
  · simpa using hu
  · simpa using hu
  · simp at hu)⟩

theorem capH {w : World} {B tb o : Nat} {x0 x1 x2 x3 x4 : Value} {t : TN} (hB : Blk w B [x0, x1, x2, x3, x4]) (hg : ThrG w tb o t) : w.cell? ⟨B, 4, none⟩ = some x4 ∧ w.cell? ⟨tb, o, none⟩ = some (.int .i64 t.q) := ⟨hB.at 4 rfl, hg.1⟩

theorem hpF_cases (f : Nat → Int) (L : List Ob) (h : Int) (N : Nat) (T : Nat → TN) {k : Int} (hk : k = hpF f L h N T) :
    (¬ (1 ≤ N ∧ N ≤ 4) ∧ k = 2) ∨ ((1 ≤ N ∧ N ≤ 4) ∧ ((¬ tnsF L T N = 0 ∧ k = tnsF L T N) ∨ (tnsF L T N = 0 ∧ ((¬ quF f L T N = 0 ∧ k = quF f L T N) ∨ (quF f L T N = 0 ∧ ((h < sumF (fun i => (T i).q) N ∧ k = 7) ∨ (¬ h < sumF (fun i => (T i).q) N ∧ k = 0))))))) := by
  unfold hpF at hk
  by_cases h1 : 1 ≤ N ∧ N ≤ 4
  · rw [if_neg (fun x => x h1)] at hk
    refine .inr ⟨h1, ?_⟩
    by_cases h2 : tnsF L T N = 0
    · rw [if_neg (fun x => x h2)] at hk
      refine .inr ⟨h2, ?_⟩
      by_cases h3 : quF f L T N = 0
      · rw [if_neg (fun x => x h3)] at hk
        refine .inr ⟨h3, ?_⟩
        by_cases h4 : h < sumF (fun i => (T i).q) N
        · rw [if_pos h4] at hk; exact .inl ⟨h4, hk⟩
        · rw [if_neg h4] at hk; exact .inr ⟨h4, hk⟩
      · rw [if_pos h3] at hk; exact .inl ⟨h3, hk⟩
    · rw [if_pos h2] at hk; exact .inl ⟨h2, hk⟩
  · rw [if_pos h1] at hk; exact .inl ⟨h1, hk⟩

theorem sumF_tn {L : List Ob} {T : Nat → TN} : ∀ {N : Nat}, (∀ i, i < N → TnOk L (i : Int) (T i)) → 0 ≤ sumF (fun i => (T i).q) N ∧ sumF (fun i => (T i).q) N ≤ 200 * (N : Int)
  | 0, _ => by simp [sumF]
  | n + 1, h => by
    have h1 := sumF_tn (N := n) fun i hi => h i (by omega)
    have h2 := (h n (by omega)).q
    rw [sumF_succ]
    omega

set_option maxRecDepth 100000 in
set_option maxHeartbeats 6400000 in
theorem specHpF_any (h ac bu : Int) (a : Option Addr) (n c : Nat) (f : Nat → Int) (ta : Option Addr) (N tc : Nat) (T : Nat → TN) (k : Int) (w : World) (hs : Src w a n f) (hcn : n ≤ c) (hcm : c ≤ maxLen) (ht : TV w ta N T) (hN : N ≤ maxLen) (hn : ∀ i, i < N → (T i).n ≤ maxLen)
    (hr : ∀ i, i < N → ∀ j, j < (T i).n → -9223372036854775808 ≤ ((T i).S j).nd ∧ ((T i).S j).nd ≤ 9223372036854775807) (hk : IsHpF h n f ac bu N T k) :
    Calls Tryz.prog 15 #[.agg #[.int .i64 h, .slice a n c, .int .i64 ac, .int .i64 bu, .slice ta N tc]] w (RetInt w k) := by
  have S0 := Lib.hid hs; have T0 := Lib.hid ht; have HN := Lib.hid hn; have HR := Lib.hid hr; have HCM := Lib.hid hcm
  have B_0 := Lib.hid (Blk.new_at (w := w) (cs := #[.int .i64 h, .slice a n c, .int .i64 ac, .int .i64 bu, .slice ta N tc]) (t := 32) w.heap.size rfl)
  have HB0 : Hid (Below w.heap.size w (w.alloc (.cells #[.int .i64 h, .slice a n c, .int .i64 ac, .int .i64 bu, .slice ta N tc] 32))) := (Below.refl _ _).alloc (Nat.le_refl _) _
  have zB : w.heap.size < (w.alloc (.cells #[.int .i64 h, .slice a n c, .int .i64 ac, .int .i64 bu, .slice ta N tc] 32)).heap.size := by simp
  clear hs ht hn hr hcm
  rcases hk with ⟨hk, h0⟩ | ⟨hk, L, hL, hk2⟩
  · have HK := Lib.hid hk
    have hq : (k != 0) = true := by simp [h0]
    have b0 := B_0.out.at 0 rfl; have b1 := B_0.out.at 1 rfl; have b2 := B_0.out.at 2 rfl; have b3 := B_0.out.at 3 rfl; have lB := B_0.out.1
    clear hk h0
    go_enter Tryz.func15, Tryz.ntmps15
    go_wp2_with fail
    refine (specSF_any h ac bu a n c f k _ (S0.out.below HB0.out) hcn HCM.out HK.out).mono ?_
    rintro e w1 ⟨rfl, hb⟩
    have HB1 := Lib.hid (thru0 HB0.out hb)
    clear hb b0 b1 b2 b3 lB
    go_wp2
    go_ret
    exact ⟨rfl, HB1.out⟩
  · have HSF := Lib.hid hk; have HOI := Lib.hid hL
    have hpt : Points f L := (isSF_shape hk hL).1
    have HPT := Lib.hid hpt
    have HK2 := Lib.hid hk2
    have b0 := B_0.out.at 0 rfl; have b1 := B_0.out.at 1 rfl; have b2 := B_0.out.at 2 rfl; have b3 := B_0.out.at 3 rfl; have lB := B_0.out.1
    clear hk hL hpt hk2
    go_enter Tryz.func15, Tryz.ntmps15
    go_wp2_with fail
    generalize w.alloc (.cells #[.int .i64 h, .slice a n c, .int .i64 ac, .int .i64 bu, .slice ta N tc] 32) = w0 at *
    refine (specSF_any h ac bu a n c f 0 _ (S0.out.below HB0.out) hcn HCM.out HSF.out).mono ?_
    rintro e w1 ⟨rfl, hb⟩
    have HB1 := Lib.hid (thru0 HB0.out hb); have B_1 := Lib.hid (B_0.out.below hb)
    have z1 := hb.size
    clear hb b0 b1 b2 b3 lB B_0 HB0
    have lB := B_1.out.1
    go_wp2_with fail
    refine (l3Objs_any w.heap.size h ac bu a n c f L _ (blk_pre4 B_1.out) (S0.out.below HB1.out) hcn HCM.out HOI.out).mono ?_
    rintro e w2 ⟨hb, v, M, rfl, rfl, hm⟩
    have HB2 := Lib.hid (thru0 HB1.out hb); have B_2 := Lib.hid (B_1.out.below hb)
    have HM2 := Lib.hid hm
    have z2 := hb.size
    clear hb hm lB B_1 HB1
    have lB := B_2.out.1
    obtain ⟨k1, hk1⟩ : ∃ k1, (¬ (1 ≤ N ∧ N ≤ 4) ∧ k1 = 2) ∨ ((1 ≤ N ∧ N ≤ 4) ∧ k1 = tnsF (M.map OM.x) T N) := by
      by_cases h1 : 1 ≤ N ∧ N ≤ 4
      · exact ⟨_, .inr ⟨h1, rfl⟩⟩
      · exact ⟨_, .inl ⟨h1, rfl⟩⟩
    have HK1 := Lib.hid hk1
    clear hk1
    go_wp2_with fail
    refine (l7Tenants_any w.heap.size h ac bu a n c ta N tc T v M w1.heap.size w1.heap.size f k1 _ B_2.out (T0.out.below HB2.out) hN HN.out HM2.out HR.out HK1.out).mono ?_
    rintro e w3 ⟨rfl, hb⟩
    have HB3 := Lib.hid (thru0 HB2.out hb); have B_3 := Lib.hid (B_2.out.below hb); have HM3 := Lib.hid (HM2.out.below hb)
    have z3 := hb.size
    clear hb lB B_2 HB2 HM2
    have lB := B_3.out.1
    have HC := Lib.hid (hpF_cases f (M.map OM.x) h N T HK2.out)
    by_cases h0 : k1 = 0
    · have hx : (1 ≤ N ∧ N ≤ 4) ∧ tnsF (M.map OM.x) T N = 0 := by
        rcases HK1.out with ⟨_, h2⟩ | ⟨h1, h2⟩
        · omega
        · exact ⟨h1, h2 ▸ h0⟩
      obtain ⟨⟨hN1, hN4⟩, htns⟩ := hx
      have HOK : Hid (∀ i, i < N → TnOk (M.map OM.x) (i : Int) (T i)) := Lib.hid (fun i hi => tnF_ok (tnsF_all htns i hi))
      have HC2 : Hid ((¬ quF f (M.map OM.x) T N = 0 ∧ k = quF f (M.map OM.x) T N) ∨ (quF f (M.map OM.x) T N = 0 ∧ ((h < sumF (fun i => (T i).q) N ∧ k = 7) ∨ (¬ h < sumF (fun i => (T i).q) N ∧ k = 0)))) := Lib.hid (by
        rcases HC.out with ⟨h1, _⟩ | ⟨_, ⟨h2, _⟩ | ⟨_, h3⟩⟩
        · exact absurd ⟨hN1, hN4⟩ h1
        · exact absurd htns h2
        · exact h3)
      subst h0
      clear HC HK1 HK2 htns
      go_wp2
      clear lB
      go_loopw [7, 8] (fun u p wr => ∃ i : Nat, i ≤ N ∧ p = .int .i64 (i : Int) ∧ u = .int .i64 (sumF (fun j => (T j).q) i) ∧ Hid (quF f (M.map OM.x) T i = 0) ∧ Hid (Below w3.heap.size w3 wr)) (fun _ p _ => N - (intOf p).toNat)
      case atStart => exact ⟨0, Nat.zero_le _, rfl, rfl, Lib.hid rfl, Below.refl _ _⟩
      case round =>
        obtain ⟨i, hi, rfl, rfl, HQ, HB_r⟩ := hrel
        have HBr := Lib.hid (thru0 HB3.out HB_r.out)
        have B_r := Lib.hid (B_3.out.below HB_r.out)
        have HM_r := Lib.hid (HM3.out.below HB_r.out)
        have hzr := HB_r.out.size
        have hsum := sumF_tn (N := i) (L := M.map OM.x) (T := T) fun j hj => HOK.out j (by omega)
        obtain ⟨hsum1, hsum2⟩ := hsum
        have b4 := B_r.out.at 4 rfl; have b0 := B_r.out.at 0 rfl; have lB := B_r.out.1
        by_cases hlt : i < N
        · have hlt' : (i : Int) < (N : Int) := by omega
          have hi0 : (0 : Int) ≤ (i : Int) := by omega
          obtain ⟨tb, tq, rfl, lt, htn, -⟩ := tv_get (T0.out.below HBr.out) hlt
          have G_r := Lib.hid htn
          obtain ⟨g0, -, -⟩ := htn
          have B_d := Lib.hid B_r.out.drew
          have G_d := Lib.hid (G_r.out.below ((Below.refl wr.heap.size wr).drew) lt)
          have HBd := Lib.hid HBr.out.drew
          have HMd := Lib.hid (HM_r.out.below (Below.refl wr.heap.size wr).drew)
          have ltd : tb < wr.drew.heap.size := by simpa using lt
          have hqv := (HOK.out i hlt).q
          have hok := HOK.out i hlt
          have HOKI := Lib.hid hok
          obtain ⟨hq2, hq200⟩ := hqv
          have HSS : Hid (sumF (fun j => (T j).q) (i + 1) = sumF (fun j => (T j).q) i + (T i).q) := Lib.hid (sumF_succ _ _)
          obtain ⟨y, hy⟩ : ∃ y : Int, (heldT f (M.map OM.x) (T i) : Int) = y := ⟨_, rfl⟩
          have HY := Lib.hid hy
          clear hok hy
          go_wp2_with fail
          go_region_held3 (fun w' => w'.cell? ⟨w.heap.size, 4, none⟩ = some (.slice (some ⟨tb, tq, none⟩) N tc) ∧ w'.cell? ⟨tb, tq + i * 3, none⟩ = some (.int .i64 (T i).q))
            (first | (with_reducible exact capH B_r.out G_r.out) | (with_reducible exact capH B_d.out G_d.out) | (with_reducible exact capH B_9.out G_9.out))
            (first | (go_at_call 40; refine (l7Held_any w.heap.size h ac bu a n c (some ⟨tb, tq, none⟩) N tc T v M w1.heap.size w1.heap.size f i _ B_d.out (T0.out.below HBd.out) HMd.out HPT.out hlt hN4 HOKI.out).mono ?_; rw [HY.out]; rintro e w9 ⟨rfl, hb⟩; have HB9 := Lib.hid ((Below.refl wr.heap.size wr).drew.trans (hb.mono (by simp))); have B_9 := Lib.hid (B_d.out.below hb); have G_9 := Lib.hid (G_d.out.below hb ltd); clear hb))
          have HBF := Lib.hid (HB_r.out.trans (HB9.out.mono hzr))
          have HBW := Lib.hid (thru0 HB3.out HBF.out)
          have z9 := HB9.out.size
          have lt9 : tb < w9.heap.size := by omega
          clear b4 b0 lB g0 B_d G_d HBd HMd ltd B_r G_r HM_r HB_r HBr lt
          have b4 := B_9.out.at 4 rfl; have lB := B_9.out.1
          obtain ⟨g0, -, -⟩ := G_9.out
          by_cases hqy : (T i).q < y
          · have HK : Hid (k = 9) := Lib.hid (by
              have e := quF_stop hlt HQ.out (by rw [HY.out]; exact hqy)
              rcases HC2.out with ⟨_, h1⟩ | ⟨h1, _⟩
              · rw [h1, e]
              · omega)
            generalize (T i).q = q at *
            go_wp2
            go_ret
            exact ⟨by rw [HK.out]; rfl, HBW.out⟩
          · have HQ2 := Lib.hid (quF_next HQ.out (by rw [HY.out]; exact hqy))
            generalize sumF (fun j => (T j).q) i = sm at *
            generalize (T i).q = q at *
            clear HQ
            go_wp2
            go_roundw
            case rel => first | exact ⟨i + 1, by omega, by go_num, by rw [HSS.out], HQ2, HBF⟩ | ((repeat apply Exists.intro); exact ⟨⟨i + 1, by omega, by go_num, by rw [HSS.out], HQ2, HBF⟩, rfl⟩)
            case measure => simp [intOf]; omega
        · have hlt' : ¬ (i : Int) < (N : Int) := by omega
          obtain rfl : i = N := by omega
          have HC3 : Hid ((h < sumF (fun j => (T j).q) i ∧ k = 7) ∨ (¬ h < sumF (fun j => (T j).q) i ∧ k = 0)) := Lib.hid (by
            rcases HC2.out with ⟨h1, _⟩ | ⟨_, h1⟩
            · exact absurd HQ.out h1
            · rcases h1 with h1 | ⟨h1, h2⟩
              · exact .inl h1
              · exact .inr ⟨by omega, h2⟩)
          clear HC2 HQ
          generalize sumF (fun j => (T j).q) i = sm at *
          rcases HC3.out with ⟨h1, rfl⟩ | ⟨h1, rfl⟩
          · clear HC3
            go_wp2
            go_ret
            exact ⟨rfl, HBr.out⟩
          · clear HC3
            go_wp2
            go_ret
            exact ⟨rfl, HBr.out⟩
    · have hq : (k1 != 0) = true := by simp [h0]
      have HK : Hid (k = k1) := Lib.hid (by
        rcases HC.out with ⟨h1, h2⟩ | ⟨h1, h2⟩
        · rcases HK1.out with ⟨_, h3⟩ | ⟨h3, _⟩
          · omega
          · exact absurd h3 h1
        · rcases HK1.out with ⟨h3, _⟩ | ⟨_, h3⟩
          · exact absurd h1 h3
          · rcases h2 with ⟨_, h4⟩ | ⟨h4, _⟩
            · rw [h4, h3]
            · exact absurd (h3.trans h4) h0)
      clear HC HK1 HK2 h0
      go_wp2
      go_ret
      exact ⟨by rw [HK.out]; rfl, HB3.out⟩
end Go.Proofs.YtnpklnpicelcmaaGreat

namespace Go.Proofs.YtnpklnpicelcmaaGreat
open Go.RowKit
set_option linter.unusedVariables false

set_option maxRecDepth 100000 in
theorem place_pos (v : Int) (w : World) (h1 : 1 ≤ v) (h2 : v ≤ 9223372036854775807) : Calls Tryz.prog 61 #[.int .i64 v] w (fun e w' => e = .returned (.int .i64 (v - 1)) ∧ Below w.heap.size w w') := by
  go_enter Tryz.func61, Tryz.ntmps61
  go_wp2
  go_ret
  exact ⟨rfl, Below.refl _ _⟩

set_option maxRecDepth 100000 in
set_option maxHeartbeats 1600000 in
theorem rootsOf_any (a : Option Addr) (n c : Nat) (S : Nat → SL) (w : World) (hp : PV w a n S) (hn : n ≤ 8) (hs : ∀ j, j < n → (S j).nd = 0 ∨ (1 ≤ (S j).nd ∧ (S j).nd ≤ 1000001)) :
    Calls Tryz.prog 47 #[.slice a n c] w (RetInts w (rootsS S n).length (lf (rootsS S n))) := by
  obtain ⟨i0, hif, hz0, hz1, hz2⟩ := info_parts Tryz.info2
  have P := Lib.hid hp; have HS := Lib.hid hs
  clear hp hs
  go_enter Tryz.func47, Tryz.ntmps47
  go_wp2
  go_loopw [3, 8] (fun u p wr => ∃ (i : Nat) (L : List Int), i ≤ n ∧ p = .int .i64 (i : Int) ∧ Hid (L = rootsS S i) ∧ Hid (Below w.heap.size w wr) ∧ Hid (wr.ownsRow w.heap.size 2 1 u L.length (nums L.length (lf L)))) (fun _ p _ => n - (intOf p).toNat)
  case atStart => exact ⟨0, [], Nat.zero_le _, rfl, Lib.hid rfl, Below.refl _ _, World.ownsRow_nil _ _ _ _⟩
  case round =>
    obtain ⟨i, L, hi, rfl, HL, HB_r, OW_r⟩ := hrel
    have hzr := HB_r.out.size
    by_cases hlt : i < n
    · have hlt' : (i : Int) < (n : Int) := by omega
      have hi0 : (0 : Int) ≤ (i : Int) := by omega
      obtain ⟨pb, pq, rfl, lp, s0, s1⟩ := pv_get (P.out.below HB_r.out) hlt
      have hll : L.length ≤ i := by rw [HL.out]; exact rootsS_len _ _
      have hrg := HS.out i hlt
      have HAL : Hid (Below w.heap.size w (wr.alloc (.cells #[.int .i64 (S i).g, .int .i64 (S i).nd] 63))) := Lib.hid (HB_r.out.alloc hzr _)
      have OWA := Lib.hid (OW_r.out.alloc (.cells #[.int .i64 (S i).g, .int .i64 (S i).nd] 63))
      by_cases hz : (S i).nd = 0
      · have HL2 : Hid (L = rootsS S (i + 1)) := Lib.hid (by rw [HL.out, rootsS_no hz])
        have hq : ((S i).nd != 0) = false := by simp [hz]
        clear HL hz hrg
        generalize S i = s at *
        go_wp2
        go_roundw
        case rel => first | exact ⟨i + 1, L, by omega, by go_num, HL2, HAL, OWA⟩ | ((repeat apply Exists.intro); exact ⟨⟨i + 1, L, by omega, by go_num, HL2, HAL, OWA⟩, rfl⟩)
        case measure => simp [intOf]; omega
      · have HL2 : Hid (L ++ [(S i).nd - 1] = rootsS S (i + 1)) := Lib.hid (by rw [HL.out, rootsS_yes hz])
        have hq : ((S i).nd != 0) = true := by simp [hz]
        have hr1 : 1 ≤ (S i).nd := by omega
        have hr2 : (S i).nd ≤ 1000001 := by omega
        clear HL hz hrg
        generalize S i = s at *
        go_wp2_with fail
        refine (place_pos s.nd _ hr1 (by omega)).mono ?_
        rintro e w2 ⟨rfl, hb⟩
        have HB2 := Lib.hid (thru0 HAL.out hb)
        have OW2 := Lib.hid (ownsRow_below OWA.out hb)
        have HGE : Hid (∀ k, u3.ownBlock = some k → w.heap.size ≤ k) := Lib.hid (fun k hk => (OW2.out.lt k hk).1)
        have z2 : w.heap.size ≤ w2.heap.size := HB2.out.size
        clear hb s0 s1
        go_wp2_with (at_builtin; go_loud (refine wpList_append_lies _ rfl _ _ 22 rfl w.heap.size 2 i0 (.int .i64 0) 1 8 Tryz.underlying22 hif hz0 hz1 hz2 rfl (by decide) u3 L.length (nums L.length (lf L)) rfl (OW2.out.alloc _) ⟨w2.heap.size, 0, none⟩ 1 1 [.int .i64 (s.nd - 1)] rfl rfl (news1 w2 (s.nd - 1)) (by intro u hu; simp only [List.mem_cons, List.mem_nil_iff, or_false] at hu; subst hu; rfl) (by omega) (by unfold maxLen; omega) (by omega) (by simp; omega) (w2.heap.size + 1) (by simp) ?_); intro g9 cap9 w9 hown9 hgrow9 hat9 hlt9)
        have HB9 : Hid (Below w.heap.size w w9) := (HB2.out.alloc z2 _).grown hgrow9 (by simp; omega) (fun k hk => HGE.out k hk)
        have OW9 := Lib.hid (nums_one_more L (s.nd - 1) _ _ _ hown9)
        clear hown9 hgrow9 hat9 hq
        go_wp2
        go_roundw
        case rel => first | exact ⟨i + 1, L ++ [s.nd - 1], by omega, by go_num, HL2, HB9, OW9⟩ | ((repeat apply Exists.intro); exact ⟨⟨i + 1, L ++ [s.nd - 1], by omega, by go_num, HL2, HB9, OW9⟩, rfl⟩)
        case measure => simp [intOf]; omega
    · have hlt' : ¬ (i : Int) < (n : Int) := by omega
      obtain rfl : i = n := by omega
      have HRet := Lib.hid (retInts_of_row OW_r.out HB_r.out)
      have hL := HL.out
      subst hL
      go_wp2
      go_ret
      exact HRet.out

/-- A tenant's table: its slots, and what is reached from them. -/
def RetTab (W : World) (f : Nat → Int) (L : List Ob) (a : Option Addr) (n c : Nat) (R : List Int) (e : Ending) (w' : World) : Prop :=
  Below W.heap.size W w' ∧ ∃ oa oc mb T, e = .returned (.agg #[.slice a n c, .int .i64 0, .slice oa R.length oc, .map (some mb)]) ∧ GV w' oa R.length T ∧ MapT w' mb R.length R (fun i => (i : Int)) ∧ ∀ i, i < R.length → ∃ x, findO L (lf R i) = some x ∧ GSame (T i) (obG f x)
end Go.Proofs.YtnpklnpicelcmaaGreat

namespace Go.Proofs.YtnpklnpicelcmaaGreat
open Go.RowKit
set_option linter.unusedVariables false

/-- A block that holds no more than an empty table. -/
def Dead4 (w : World) (R : Nat) : Prop := ∃ t fr, w.heap[R]? = some (.cells #[.slice none 0 0, .int .i64 0, .slice none 0 0, .map none] t fr)

theorem dead4_new {w : World} {t : TypeId} (R : Nat) (hR : R = w.heap.size) : Dead4 (w.alloc (.cells #[.slice none 0 0, .int .i64 0, .slice none 0 0, .map none] t)) R := by
  subst hR
  exact ⟨t, _, (heap_alloc_new w _)⟩

theorem Dead4.below {w w' : World} {R : Nat} (h : Dead4 w R) (hb : Below w.heap.size w w') : Dead4 w' R := by
  obtain ⟨t, fr, h1⟩ := h
  exact ⟨t, fr, (hb.block R (Array.getElem?_eq_some_iff.1 h1).1).trans h1⟩

def lain4 (w : World) (R : Nat) (s x y : Value) : World := (((w.setCell ⟨R, 0, none⟩ s).setCell ⟨R, 1, none⟩ (.int .i64 0)).setCell ⟨R, 2, none⟩ x).setCell ⟨R, 3, none⟩ y

theorem lain4_block {w : World} {R b : Nat} {s x y : Value} (h : b ≠ R) : (lain4 w R s x y).heap[b]? = w.heap[b]? :=
  (Below.heap_setCell _ _ _ b h).trans ((Below.heap_setCell _ _ _ b h).trans ((Below.heap_setCell _ _ _ b h).trans (Below.heap_setCell _ _ _ b h)))

theorem dead4_cell {w : World} {R : Nat} (h : Dead4 w R) (o : Nat) : w.cell? ⟨R, o, none⟩ = (#[.slice none 0 0, .int .i64 0, .slice none 0 0, .map none] : Array Value)[o]? := by
  obtain ⟨t, fr, h1⟩ := h
  exact cell_of_row w R o _ t fr h1

theorem dead4_int {w : World} {R b o : Nat} {v : Int} (h : Dead4 w R) (hc : w.cell? ⟨b, o, none⟩ = some (.int .i64 v)) (s x y : Value) : (lain4 w R s x y).cell? ⟨b, o, none⟩ = some (.int .i64 v) := by
  by_cases e : b = R
  · subst e
    have h0 := dead4_cell h o
    rw [hc] at h0
    match o, h0 with
    | 0, h0 => simp at h0
    | 1, h0 =>
      have h9 : v = 0 := by simpa using h0
      subst h9
      have hc1 : (w.setCell ⟨b, 0, none⟩ s).cell? ⟨b, 1, none⟩ = some (.int .i64 0) := by rw [World.cell?_setCell_other _ _ _ _ (by simp)]; exact hc
      have hc' : ((w.setCell ⟨b, 0, none⟩ s).setCell ⟨b, 1, none⟩ (.int .i64 0)).cell? ⟨b, 1, none⟩ = some (.int .i64 0) := by rw [World.cell?_setCell_same' _ _ _ (by rw [hc1]; rfl)]
      unfold lain4
      rw [World.cell?_setCell_other _ _ _ _ (by simp), World.cell?_setCell_other _ _ _ _ (by simp)]
      exact hc'
    | 2, h0 => simp at h0
    | 3, h0 => simp at h0
    | o + 4, h0 => simp at h0
  · exact (World.cell?_of_block (w := w) (a := ⟨b, o, none⟩) (lain4_block e)).trans hc

theorem dead4_src {w : World} {R : Nat} {a : Option Addr} {n : Nat} {f : Nat → Int} (h : Dead4 w R) (hs : Src w a n f) (s x y : Value) : Src (lain4 w R s x y) a n f := by
  rcases hs with h0 | ⟨b, o, e, hb, hc⟩
  · exact .inl h0
  · exact .inr ⟨b, o, e, by simpa [lain4] using hb, fun i hi => dead4_int h (hc i hi) s x y⟩

theorem dead4_gv {w : World} {R : Nat} {a : Option Addr} {N : Nat} {T : Nat → GM} (h : Dead4 w R) (hg : GV w a N T) (s x y : Value) : GV (lain4 w R s x y) a N T := by
  rcases hg with h0 | ⟨b, q, e, g⟩
  · exact .inl h0
  · rcases Nat.eq_zero_or_pos N with h0 | hp
    · exact .inl h0
    have hne : b ≠ R := fun e => by
      subst e
      have h0 := (g.six 0 hp).1
      have h1 := (g.six 0 hp).2.1
      rw [dead4_cell h] at h0 h1
      match q, h0, h1 with
      | 0, h0, h1 => simp at h0
      | 1, h0, h1 => simp at h1
      | 2, h0, h1 => simp at h0
      | 3, h0, h1 => simp at h0
      | q + 4, h0, h1 => simp at h0
    exact .inr ⟨b, q, e, by have := g.lt; simpa [lain4] using this, fun i hi => (g.six i hi).block (lain4_block hne), fun i hi => dead4_src h (g.flds i hi) s x y⟩

theorem dead4_map {w : World} {R mb n : Nat} {O : List Int} {v : Nat → Int} (h : Dead4 w R) (hm : MapT w mb n O v) (s x y : Value) : MapT (lain4 w R s x y) mb n O v := by
  refine hm.block (lain4_block fun e => ?_)
  subst e
  obtain ⟨t, fr, h1⟩ := h
  obtain ⟨D, ⟨es, clock, h2, _⟩, _⟩ := hm
  rw [h1] at h2; cases h2

set_option maxRecDepth 100000 in
set_option maxHeartbeats 1600000 in
theorem tableOf_any (oa : Option Addr) (kc : Nat) (T : Nat → GM) (f : Nat → Int) (L : List Ob) (a : Option Addr) (n c : Nat) (S : Nat → SL) (w : World) (hsh : Shaped w oa T f L) (hp : PV w a n S) (hn : n ≤ 8) (hs : ∀ j, j < n → (S j).nd = 0 ∨ (1 ≤ (S j).nd ∧ (S j).nd ≤ 1000001)) (hin : ∀ p ∈ rootsS S n, p ∈ placesO L) :
    Calls Tryz.prog 89 #[.slice oa L.length kc, .slice a n c] w (RetTab w f L a n c (reachO f L (rootsS S n))) := by
  have HSH := Lib.hid hsh; have P := Lib.hid hp; have HS := Lib.hid hs; have HIN := Lib.hid hin
  have HB0 : Hid (Below w.heap.size w (w.alloc (.cells #[.slice none 0 0, .int .i64 0, .slice none 0 0, .map none] 144))) := (Below.refl _ _).alloc (Nat.le_refl _) _
  have DE_0 := Lib.hid (dead4_new (w := w) (t := 144) w.heap.size rfl)
  have R_0 := Lib.hid (Blk.new_at (w := w) (cs := #[.slice none 0 0, .int .i64 0, .slice none 0 0, .map none]) (t := 144) w.heap.size rfl)
  clear hsh hp hs hin
  go_enter Tryz.func89, Tryz.ntmps89
  go_wp2_with fail
  generalize w.alloc (.cells #[.slice none 0 0, .int .i64 0, .slice none 0 0, .map none] 144) = w0 at *
  refine (rootsOf_any a n c S _ (P.out.below HB0.out) hn HS.out).mono ?_
  rintro e w1 ⟨ra, rc, rfl, ho, hb, _, _, _⟩
  have HB1 := Lib.hid (thru0 HB0.out hb); have HR := Lib.hid ho.src; have DE_1 := Lib.hid (DE_0.out.below hb); have R_1 := Lib.hid (R_0.out.below hb)
  have hrl : (rootsS S n).length ≤ 8 := Nat.le_trans (rootsS_len _ _) hn
  clear ho hb HB0 DE_0 R_0
  go_wp2_with fail
  refine (reachOf_any oa kc T f L ra (rootsS S n) rc _ (HSH.out.below HB1.out) HR.out (by omega)).mono ?_
  rintro e w3 ⟨hb, hr⟩
  have HB3 := Lib.hid (thru0 HB1.out hb); have DE3 := Lib.hid (DE_1.out.below hb); have R_3 := Lib.hid (R_1.out.below hb)
  clear hb HB1 DE_1 R_1
  rcases hr with ⟨hbad, rfl⟩ | ⟨hall, a3, c3, mb, U, rfl, hgv, hmp, hsm⟩
  · obtain ⟨p, h1, h2⟩ := hbad
    exact absurd (HIN.out p h1) h2
  · have HGV := Lib.hid hgv; have HMP := Lib.hid hmp; have HSM := Lib.hid hsm
    have lR := R_3.out.1; have cR0 := R_3.out.at 0 rfl; have fR0 := R_3.out.free 0 rfl; have cR1 := R_3.out.at 1 rfl; have fR1 := R_3.out.free 1 rfl; have cR2 := R_3.out.at 2 rfl; have fR2 := R_3.out.free 2 rfl; have cR3 := R_3.out.at 3 rfl; have fR3 := R_3.out.free 3 rfl
    clear hall hgv hmp hsm
    go_wp2
    refine bodyPost_ret (v := .agg #[.slice a n c, .int .i64 0, .slice a3 (reachO f L (rootsS S n)).length c3, .map (some mb)]) (by simp [results, Tryz.results89, go_sem, cR0, cR1, cR2, cR3]) rfl ⟨?_, a3, c3, mb, U, rfl, dead4_gv DE3.out HGV.out _ _ _, dead4_map DE3.out HMP.out _ _ _, HSM.out⟩
    repeat (first | (with_reducible refine Below.setCell ?_ (by (try simp); (try omega)) _) | (with_reducible refine Below.alloc ?_ (by (try simp); (try omega)) _) | (with_reducible refine Below.drew ?_))
    exact HB3.out
end Go.Proofs.YtnpklnpicelcmaaGreat

namespace Go.Proofs.YtnpklnpicelcmaaGreat
open Go.RowKit
set_option linter.unusedVariables false

set_option maxRecDepth 100000 in
set_option maxHeartbeats 3200000 in
theorem slotFault_any (s : SL) (own : Int) (oa : Option Addr) (kc : Nat) (T : Nat → GM) (f : Nat → Int) (L : List Ob) (k : Int) (w : World) (hsh : Shaped w oa T f L) (hr : -9223372036854775808 ≤ s.nd ∧ s.nd ≤ 9223372036854775807) (hk : slF L own s = k) :
    Calls Tryz.prog 112 #[.agg #[.int .i64 s.g, .int .i64 s.nd], .int .i64 own, .slice oa L.length kc] w (RetInt w k) := by
  have HSH := Lib.hid hsh
  have A_0 := Lib.hid (Blk.new_at (w := w) (cs := #[.int .i64 s.g, .int .i64 s.nd]) (t := 63) w.heap.size rfl)
  have HB0 : Hid (Below w.heap.size w (w.alloc (.cells #[.int .i64 s.g, .int .i64 s.nd] 63))) := (Below.refl _ _).alloc (Nat.le_refl _) _
  have HL4 := Lib.hid hsh.len
  clear hsh
  by_cases hg : 0 ≤ s.g ∧ s.g ≤ 99
  · have HG := Lib.hid hg
    by_cases hz : s.nd = 0
    · have e : k = 0 := by rw [← hk]; unfold slF; rw [if_neg (fun h => h hg), if_pos hz]
      subst e
      have hq : (s.nd == 0) = true := by simp [hz]
      clear hk hz hg
      go_enter Tryz.func112, Tryz.ntmps112
      go_wp2_with fail
      with_reducible refine (isOut1 _ _ _ _ _ false (by simp) (.inl ⟨rfl, HG.out⟩)).mono ?_
      rintro e w1 ⟨rfl, hb⟩
      have HB1 := Lib.hid (thru1 HB0.out hb); have A_1 := Lib.hid ((A_0.out.alloc _).below hb)
      clear hb A_0 HB0
      have c0 := A_1.out.at 0 rfl; have c1 := A_1.out.at 1 rfl; have lA := A_1.out.1
      go_wp2
      go_ret
      exact ⟨rfl, HB1.out⟩
    · have hq : (s.nd == 0) = false := by simp [hz]
      by_cases hpos : 0 < s.nd
      · obtain ⟨hr1, hr2⟩ := hr
        have HK : Hid ((findO L (s.nd - 1) = none ∧ k = 4) ∨ ∃ x, findO L (s.nd - 1) = some x ∧ ((¬ x.o = own ∧ k = 6) ∨ (x.o = own ∧ s.g = 0 ∧ k = 8) ∨ (x.o = own ∧ ¬ s.g = 0 ∧ k = 0))) := Lib.hid (by
          unfold slF at hk
          rw [if_neg (fun h => h hg), if_neg hz] at hk
          cases hf : findO L (s.nd - 1) with
          | none => rw [hf] at hk; exact .inl ⟨rfl, hk.symm⟩
          | some x =>
            rw [hf] at hk
            simp only at hk
            refine .inr ⟨x, rfl, ?_⟩
            by_cases h1 : x.o = own
            · rw [if_neg (fun h => h h1)] at hk
              by_cases h2 : s.g = 0
              · rw [if_pos h2] at hk; exact .inr (.inl ⟨h1, h2, hk.symm⟩)
              · rw [if_neg h2] at hk; exact .inr (.inr ⟨h1, h2, hk.symm⟩)
            · rw [if_pos h1] at hk; exact .inl ⟨h1, hk.symm⟩)
        clear hk hz hg
        go_enter Tryz.func112, Tryz.ntmps112
        go_wp2_with fail
        with_reducible refine (isOut1 _ _ _ _ _ false (by simp) (.inl ⟨rfl, HG.out⟩)).mono ?_
        rintro e w1 ⟨rfl, hb⟩
        have HB1 := Lib.hid (thru1 HB0.out hb); have A_1 := Lib.hid ((A_0.out.alloc _).below hb)
        have z0 : w.heap.size < (w.alloc (.cells #[.int .i64 s.g, .int .i64 s.nd] 63)).heap.size := by simp
        have z1 : w.heap.size < w1.heap.size := by have := A_1.out.1; omega
        clear hb A_0 HB0 z0
        have c0 := A_1.out.at 0 rfl; have c1 := A_1.out.at 1 rfl; have lA := A_1.out.1
        have F_2 := Lib.hid (Blk.new_at (w := w1) (cs := #[.int .i64 4, .int .i64 0, .int .i64 0, .int .i64 0, .int .i64 0, .int .i64 0, .slice none 0 0]) (t := 172) w1.heap.size rfl)
        have HB2 := Lib.hid (HB1.out.alloc HB1.out.size (.cells #[.int .i64 4, .int .i64 0, .int .i64 0, .int .i64 0, .int .i64 0, .int .i64 0, .slice none 0 0] 172))
        have A_2 := Lib.hid (A_1.out.alloc (.cells #[.int .i64 4, .int .i64 0, .int .i64 0, .int .i64 0, .int .i64 0, .int .i64 0, .slice none 0 0] 172))
        go_wp2_with fail
        generalize hw2 : w1.alloc (.cells #[.int .i64 4, .int .i64 0, .int .i64 0, .int .i64 0, .int .i64 0, .int .i64 0, .slice none 0 0] 172) = w2 at *
        clear hw2
        refine (place_pos s.nd _ (by omega) hr2).mono ?_
        rintro e w3 ⟨rfl, hb⟩
        have HB3 := Lib.hid (thru0 HB2.out hb); have A_3 := Lib.hid (A_2.out.below hb); have F_3 := Lib.hid (F_2.out.below hb)
        clear hb A_2 F_2 HB2 c0 c1 lA A_1 HB1
        go_wp2_with fail
        refine (find_any oa L.length kc T (s.nd - 1) _ (HSH.out.below HB3.out).gv (by have := HL4.out; omega) HSH.out.sort).mono ?_
        rintro e w4 ⟨hb, hf⟩
        have HB4 := Lib.hid (thru0 HB3.out hb); have A_4 := Lib.hid (A_3.out.below hb); have F_4 := Lib.hid (F_3.out.below hb)
        clear hb A_3 F_3 HB3
        have c0 := A_4.out.at 0 rfl; have c1 := A_4.out.at 1 rfl; have lA := A_4.out.1
        have f0 := F_4.out.at 0 rfl; have f1 := F_4.out.at 1 rfl; have f2 := F_4.out.at 2 rfl; have f3 := F_4.out.at 3 rfl; have f4 := F_4.out.at 4 rfl; have f5 := F_4.out.at 5 rfl; have f6 := F_4.out.at 6 rfl; have lF := F_4.out.1
        have e0 := F_4.out.free 0 rfl; have e1 := F_4.out.free 1 rfl; have e2 := F_4.out.free 2 rfl; have e3 := F_4.out.free 3 rfl; have e4 := F_4.out.free 4 rfl; have e5 := F_4.out.free 5 rfl; have e6 := F_4.out.free 6 rfl
        have hAF : ¬ w.heap.size = w1.heap.size := by omega
        have HBF : ∀ v0 v1 v2 v3 v4 v5 v6, Hid (Below w.heap.size w (((((((w4.setCell ⟨w1.heap.size, 0, none⟩ v0).setCell ⟨w1.heap.size, 1, none⟩ v1).setCell ⟨w1.heap.size, 2, none⟩ v2).setCell ⟨w1.heap.size, 3, none⟩ v3).setCell ⟨w1.heap.size, 4, none⟩ v4).setCell ⟨w1.heap.size, 5, none⟩ v5).setCell ⟨w1.heap.size, 6, none⟩ v6)) := fun v0 v1 v2 v3 v4 v5 v6 => Lib.hid (by
          repeat (with_reducible refine Below.setCell ?_ (by simp; omega) _)
          exact HB4.out)
        rcases hf with ⟨i, hi, hat, rfl⟩ | ⟨hno, rfl⟩
        · obtain ⟨h1, h2, _⟩ := HSH.out.obj hi
          rw [hat] at h1
          have ho : (T i).o = L[i].o := h2.2.2.2.1
          have HC : Hid ((¬ (T i).o = own ∧ k = 6) ∨ ((T i).o = own ∧ s.g = 0 ∧ k = 8) ∨ ((T i).o = own ∧ ¬ s.g = 0 ∧ k = 0)) := Lib.hid (by
            rcases HK.out with ⟨h3, _⟩ | ⟨x, h3, h4⟩
            · rw [h1] at h3; cases h3
            · rw [h1] at h3
              simp only [Option.some.injEq] at h3
              subst h3
              rw [ho]; exact h4)
          clear HK h1 h2 ho hat
          generalize T i = t at *
          rcases HC.out with ⟨h1, rfl⟩ | ⟨h1, h2, rfl⟩ | ⟨h1, h2, rfl⟩
          · have hq2 : (t.o != own) = true := by simp [h1]
            clear HC h1
            go_wp2
            go_ret
            exact ⟨rfl, (HBF _ _ _ _ _ _ _).out⟩
          · have hq2 : (t.o != own) = false := by simp [h1]
            have hq3 : (s.g == 0) = true := by simp [h2]
            clear HC h1 h2
            go_wp2
            go_ret
            exact ⟨rfl, (HBF _ _ _ _ _ _ _).out⟩
          · have hq2 : (t.o != own) = false := by simp [h1]
            have hq3 : (s.g == 0) = false := by simp [h2]
            clear HC h1 h2
            go_wp2
            go_ret
            exact ⟨rfl, (HBF _ _ _ _ _ _ _).out⟩
        · have hn : findO L (s.nd - 1) = none := by
            cases hf : findO L (s.nd - 1) with
            | none => rfl
            | some x => exact absurd (mem_placesO.2 ⟨x, hf⟩) (HSH.out.nope hno)
          have e : k = 4 := by
            rcases HK.out with ⟨_, h3⟩ | ⟨x, h3, _⟩
            · exact h3
            · rw [hn] at h3; cases h3
          subst e
          clear HK hno hn
          go_wp2
          go_ret
          exact ⟨rfl, (HBF _ _ _ _ _ _ _).out⟩
      · have e : k = 4 := by
          rw [← hk]; unfold slF
          rw [if_neg (fun h => h hg), if_neg hz, findO_far HSH.out.place (by omega)]
        subst e
        clear hk hz hg
        go_enter Tryz.func112, Tryz.ntmps112
        go_wp2_with fail
        with_reducible refine (isOut1 _ _ _ _ _ false (by simp) (.inl ⟨rfl, HG.out⟩)).mono ?_
        rintro e w1 ⟨rfl, hb⟩
        have HB1 := Lib.hid (thru1 HB0.out hb); have A_1 := Lib.hid ((A_0.out.alloc _).below hb)
        have z1 := HB1.out.size
        clear hb A_0 HB0
        have c0 := A_1.out.at 0 rfl; have c1 := A_1.out.at 1 rfl; have lA := A_1.out.1
        go_wp2
        go_ret
        exact ⟨rfl, HB1.out.alloc z1 _⟩
  · have e : k = 3 := by rw [← hk]; unfold slF; rw [if_pos hg]
    subst e
    have HG := Lib.hid hg
    clear hk hg
    go_enter Tryz.func112, Tryz.ntmps112
    go_wp2_with fail
    with_reducible refine (isOut1 _ _ _ _ _ true (by simp) (.inr ⟨rfl, HG.out⟩)).mono ?_
    rintro e w1 ⟨rfl, hb⟩
    have HB1 := Lib.hid (thru1 HB0.out hb)
    clear hb
    go_wp2
    go_ret
    exact ⟨rfl, HB1.out⟩
end Go.Proofs.YtnpklnpicelcmaaGreat

namespace Go.Proofs.YtnpklnpicelcmaaGreat
open Go.RowKit
set_option linter.unusedVariables false

set_option maxRecDepth 100000 in
set_option maxHeartbeats 3200000 in
theorem tenantFault_any (t : TN) (own : Int) (oa : Option Addr) (kc : Nat) (T : Nat → GM) (f : Nat → Int) (L : List Ob) (k : Int) (w : World) (hsh : Shaped w oa T f L) (hp : PV w t.a t.n t.S) (hn : t.n ≤ maxLen) (hr : ∀ j, j < t.n → -9223372036854775808 ≤ (t.S j).nd ∧ (t.S j).nd ≤ 9223372036854775807) (hk : tnF L own t = k) :
    Calls Tryz.prog 88 #[.agg #[.int .i64 t.q, .int .i64 t.h, .slice t.a t.n t.c], .int .i64 own, .slice oa L.length kc] w (RetInt w k) := by
  have HSH := Lib.hid hsh; have P := Lib.hid hp; have HR := Lib.hid hr
  have A_0 := Lib.hid (Blk.new_at (w := w) (cs := #[.int .i64 t.q, .int .i64 t.h, .slice t.a t.n t.c]) (t := 61) w.heap.size rfl)
  have HB0 : Hid (Below w.heap.size w (w.alloc (.cells #[.int .i64 t.q, .int .i64 t.h, .slice t.a t.n t.c] 61))) := (Below.refl _ _).alloc (Nat.le_refl _) _
  unfold maxLen at hn
  clear hsh hp hr
  by_cases hqh : (2 ≤ t.q ∧ t.q ≤ 200) ∧ (0 ≤ t.h ∧ t.h ≤ 99999)
  · have HQ := Lib.hid hqh
    by_cases hs : 1 ≤ t.n ∧ t.n ≤ 8
    · have hs' : 1 ≤ (t.n : Int) ∧ (t.n : Int) ≤ 8 := by omega
      have HS' := Lib.hid hs'
      have HK : Hid (slsF L own t.S t.n = k) := Lib.hid (by
        unfold tnF at hk
        rw [if_neg (fun h => h hqh), if_neg (fun h => h hs)] at hk
        exact hk)
      clear hk hqh hs hs'
      go_enter Tryz.func88, Tryz.ntmps88
      go_wp2_with fail
      with_reducible refine (isOut2 _ _ _ _ _ _ _ _ false (by simp) (.inl ⟨rfl, HQ.out⟩)).mono ?_
      rintro e w1 ⟨rfl, hb⟩
      have HB1 := Lib.hid (thru1 HB0.out hb); have A_1 := Lib.hid ((A_0.out.alloc _).below hb)
      clear hb A_0 HB0
      have c0 := A_1.out.at 0 rfl; have c1 := A_1.out.at 1 rfl; have c2 := A_1.out.at 2 rfl; have lA := A_1.out.1
      go_wp2_with fail
      with_reducible refine (isOut1 _ _ _ _ _ false (by simp) (.inl ⟨rfl, HS'.out⟩)).mono ?_
      rintro e w2 ⟨rfl, hb⟩
      have HB2 := Lib.hid (thru1 HB1.out hb); have A_2 := Lib.hid ((A_1.out.alloc _).below hb)
      clear hb A_1 HB1 c0 c1 c2 lA
      have c2 := A_2.out.at 2 rfl; have lA := A_2.out.1
      go_wp2
      clear c2 lA
      go_loopw [27] (fun p wr => ∃ i : Nat, i ≤ t.n ∧ p = .int .i64 (i : Int) ∧ Hid (slsF L own t.S i = 0) ∧ Hid (Below w.heap.size w wr)) (fun p _ => t.n - (intOf p).toNat)
      case atStart => exact ⟨0, Nat.zero_le _, rfl, Lib.hid rfl, HB2⟩
      case round =>
        obtain ⟨i, hi, rfl, H0, HB_r⟩ := hrel
        have hzr := HB_r.out.size
        by_cases hlt : i < t.n
        · have hlt' : (i : Int) < (t.n : Int) := by omega
          have hi0 : (0 : Int) ≤ (i : Int) := by omega
          obtain ⟨pb, pq, hta, lp, s0, s1⟩ := pv_get (P.out.below HB_r.out) hlt
          rw [hta]
          have HST := Lib.hid (fun h1 => slsF_stop (L := L) (own := own) (S := t.S) hlt H0.out h1)
          have HNX := Lib.hid (fun h1 => slsF_next (L := L) (own := own) (S := t.S) (i := i) H0.out h1)
          have HRG := Lib.hid (HR.out i hlt)
          obtain ⟨c9, hc9⟩ : ∃ c9, slF L own (t.S i) = c9 := ⟨_, rfl⟩
          have HC := Lib.hid hc9
          have HAL : Hid (Below w.heap.size w (wr.alloc (.cells #[.int .i64 (t.S i).g, .int .i64 (t.S i).nd] 63))) := Lib.hid (HB_r.out.alloc hzr _)
          clear hc9 hta
          generalize t.S i = s at *
          go_wp2_with fail
          refine (slotFault_any s own oa kc T f L c9 _ (HSH.out.below HAL.out) HRG.out HC.out).mono ?_
          rintro e w3 ⟨rfl, hb⟩
          have HB3 := Lib.hid (thru0 HAL.out hb)
          clear hb s0 s1
          by_cases h0 : c9 = 0
          · have HK2 := Lib.hid (HNX.out (HC.out.trans h0))
            subst h0
            clear HST HNX HC
            go_wp2
            go_roundw
            case rel => first | exact ⟨i + 1, by omega, by go_num, HK2, HB3⟩ | ((repeat apply Exists.intro); exact ⟨⟨i + 1, by omega, by go_num, HK2, HB3⟩, rfl⟩)
            case measure => simp [intOf]; omega
          · have hq9 : (c9 != 0) = true := by simp [h0]
            have HKE : Hid (k = c9) := Lib.hid (by rw [← HK.out, HST.out (by rw [HC.out]; exact h0), HC.out])
            clear HST HNX HC h0
            go_wp2
            go_ret
            exact ⟨by rw [HKE.out]; rfl, HB3.out⟩
        · have hlt' : ¬ (i : Int) < (t.n : Int) := by omega
          obtain rfl : i = t.n := by omega
          have HKE : Hid (k = 0) := Lib.hid (by rw [← HK.out, H0.out])
          go_wp2
          go_ret
          exact ⟨by rw [HKE.out]; rfl, HB_r.out⟩
    · have e : k = 2 := by rw [← hk]; unfold tnF; rw [if_neg (fun h => h hqh), if_pos hs]
      subst e
      have hs' : ¬ (1 ≤ (t.n : Int) ∧ (t.n : Int) ≤ 8) := by omega
      have HS' := Lib.hid hs'
      clear hk hqh hs hs'
      go_enter Tryz.func88, Tryz.ntmps88
      go_wp2_with fail
      with_reducible refine (isOut2 _ _ _ _ _ _ _ _ false (by simp) (.inl ⟨rfl, HQ.out⟩)).mono ?_
      rintro e w1 ⟨rfl, hb⟩
      have HB1 := Lib.hid (thru1 HB0.out hb); have A_1 := Lib.hid ((A_0.out.alloc _).below hb)
      clear hb A_0 HB0
      have c0 := A_1.out.at 0 rfl; have c1 := A_1.out.at 1 rfl; have c2 := A_1.out.at 2 rfl; have lA := A_1.out.1
      go_wp2_with fail
      with_reducible refine (isOut1 _ _ _ _ _ true (by simp) (.inr ⟨rfl, HS'.out⟩)).mono ?_
      rintro e w2 ⟨rfl, hb⟩
      have HB2 := Lib.hid (thru1 HB1.out hb)
      clear hb
      go_wp2
      go_ret
      exact ⟨rfl, HB2.out⟩
  · have e : k = 3 := by rw [← hk]; unfold tnF; rw [if_pos hqh]
    subst e
    have HQ := Lib.hid hqh
    clear hk hqh
    go_enter Tryz.func88, Tryz.ntmps88
    go_wp2_with fail
    with_reducible refine (isOut2 _ _ _ _ _ _ _ _ true (by simp) (.inr ⟨rfl, HQ.out⟩)).mono ?_
    rintro e w1 ⟨rfl, hb⟩
    have HB1 := Lib.hid (thru1 HB0.out hb)
    clear hb
    go_wp2
    go_ret
    exact ⟨rfl, HB1.out⟩

set_option maxRecDepth 100000 in
set_option maxHeartbeats 1600000 in
theorem quotasOf_any (a : Option Addr) (N c : Nat) (T : Nat → TN) (w : World) (ht : TV w a N T) (hN : N ≤ 1000) :
    Calls Tryz.prog 91 #[.slice a N c] w (RetInts w N (fun i => (T i).q)) := by
  obtain ⟨i0, hif, hz0, hz1, hz2⟩ := info_parts Tryz.info2
  have G := Lib.hid ht
  clear ht
  go_enter Tryz.func91, Tryz.ntmps91
  go_wp2
  go_loopw [3, 8] (fun u p wr => ∃ i : Nat, i ≤ N ∧ p = .int .i64 (i : Int) ∧ Hid (Below w.heap.size w wr) ∧ Hid (wr.ownsRow w.heap.size 2 1 u i (nums i (fun i => (T i).q)))) (fun _ p _ => N - (intOf p).toNat)
  case atStart => exact ⟨0, Nat.zero_le _, rfl, Below.refl _ _, World.ownsRow_nil _ _ _ _⟩
  case round =>
    obtain ⟨i, hi, rfl, HB_r, OW_r⟩ := hrel
    have hzr := HB_r.out.size
    by_cases hlt : i < N
    · have hlt' : (i : Int) < (N : Int) := by omega
      have hi0 : (0 : Int) ≤ (i : Int) := by omega
      obtain ⟨b, q, rfl, lb, ⟨s0, s1, s2⟩, -⟩ := tv_get (G.out.below HB_r.out) hlt
      have HAL : Hid (Below w.heap.size w (wr.alloc (.cells #[.int .i64 (T i).q, .int .i64 (T i).h, .slice (T i).a (T i).n (T i).c] 61))) := Lib.hid (HB_r.out.alloc hzr _)
      have OWA := Lib.hid (OW_r.out.alloc (.cells #[.int .i64 (T i).q, .int .i64 (T i).h, .slice (T i).a (T i).n (T i).c] 61))
      have HGE : Hid (∀ k, u3.ownBlock = some k → w.heap.size ≤ k) := Lib.hid (fun k hk => (OW_r.out.lt k hk).1)
      go_wp2_with (at_builtin; go_loud (refine wpList_append_lies _ rfl _ _ 22 rfl w.heap.size 2 i0 (.int .i64 0) 1 8 Tryz.underlying22 hif hz0 hz1 hz2 rfl (by decide) u3 i (nums i (fun i => (T i).q)) rfl (OWA.out.alloc _) ⟨wr.heap.size + 1, 0, none⟩ 1 1 [.int .i64 (T i).q] rfl rfl (news1b (wr.alloc (.cells #[.int .i64 (T i).q, .int .i64 (T i).h, .slice (T i).a (T i).n (T i).c] 61)) (T i).q (wr.heap.size + 1) (by simp)) (by intro u hu; simp only [List.mem_cons, List.mem_nil_iff, or_false] at hu; subst hu; rfl) (by omega) (by unfold maxLen; omega) (by omega) (by simp; omega) (wr.heap.size + 1 + 1) (by simp) ?_); intro g9 cap9 w9 hown9 hgrow9 hat9 hlt9)
      have HB9 : Hid (Below w.heap.size w w9) := (HAL.out.alloc (by simp; omega) _).grown hgrow9 (by simp; omega) (fun k hk => HGE.out k hk)
      have OW9 : Hid (w9.ownsRow w.heap.size 2 1 (.slice (some ⟨g9, 0, none⟩) (i + 1) cap9) (i + 1) (nums (i + 1) (fun i => (T i).q))) := Lib.hid (by rw [nums_succ]; exact hown9)
      clear hown9 hgrow9 hat9 s0 s1 s2
      go_wp2
      go_roundw
      case rel => first | exact ⟨i + 1, by omega, by go_num, HB9, OW9⟩ | ((repeat apply Exists.intro); exact ⟨⟨i + 1, by omega, by go_num, HB9, OW9⟩, rfl⟩)
      case measure => simp [intOf]; omega
    · have hlt' : ¬ (i : Int) < (N : Int) := by omega
      obtain rfl : i = N := by omega
      have HRet := Lib.hid (retInts_of_row OW_r.out HB_r.out)
      go_wp2
      go_ret
      exact HRet.out
end Go.Proofs.YtnpklnpicelcmaaGreat

namespace Go.Proofs.YtnpklnpicelcmaaGreat
open Go.RowKit
set_option linter.unusedVariables false

theorem fld_tab (x0 x1 x2 x3 : Value) (w : World) : (Instr.field 144 (.agg #[x0, x1, x2, x3]) 1).run Tryz.prog w = .ok (.agg #[x1, x2, x3]) w := by kernel_rfl

theorem hpF_cases2 (f : Nat → Int) (L : List Ob) (h : Int) (N : Nat) (T : Nat → TN) {k : Int} (hk : k = hpF f L h N T) :
    (¬ (1 ≤ N ∧ N ≤ 4) ∧ k = 2) ∨ ((1 ≤ N ∧ N ≤ 4) ∧ ((¬ tnsF L T N = 0 ∧ k = tnsF L T N) ∨ (tnsF L T N = 0 ∧ ((¬ quF f L T N = 0 ∧ k = quF f L T N) ∨ (quF f L T N = 0 ∧ ((h < sumF (fun i => (T i).q) N ∧ k = 7) ∨ (sumF (fun i => (T i).q) N ≤ h ∧ k = 0))))))) := by
  rcases hpF_cases f L h N T hk with h1 | ⟨h1, h2 | ⟨h2, h3 | ⟨h3, h4 | ⟨h4, h5⟩⟩⟩⟩
  · exact .inl h1
  · exact .inr ⟨h1, .inl h2⟩
  · exact .inr ⟨h1, .inr ⟨h2, .inl h3⟩⟩
  · exact .inr ⟨h1, .inr ⟨h2, .inr ⟨h3, .inl h4⟩⟩⟩
  · exact .inr ⟨h1, .inr ⟨h2, .inr ⟨h3, .inr ⟨by omega, h5⟩⟩⟩⟩

theorem capI {w : World} {F D : Nat} {x0 x1 y0 y1 y2 : Value} (hF : Blk w F [x0, x1]) (hD : Blk w D [y0, y1, y2]) : w.cell? ⟨F, 1, none⟩ = some x1 ∧ w.cell? ⟨D, 2, none⟩ = some y2 ∧ w.cell? ⟨D, 0, none⟩ = some y0 := ⟨hF.at 1 rfl, hD.at 2 rfl, hD.at 0 rfl⟩

theorem capJ {w : World} {B : Nat} {x0 x1 x2 x3 x4 : Value} (hB : Blk w B [x0, x1, x2, x3, x4]) : w.cell? ⟨B, 4, none⟩ = some x4 ∧ w.cell? ⟨B, 0, none⟩ = some x0 := ⟨hB.at 4 rfl, hB.at 0 rfl⟩

set_option maxRecDepth 100000 in
set_option maxHeartbeats 6400000 in
theorem implHpF_any (h ac bu : Int) (a : Option Addr) (n c : Nat) (f : Nat → Int) (ta : Option Addr) (N tc : Nat) (T : Nat → TN) (k : Int) (w : World) (hs : Src w a n f) (hcn : n ≤ c) (hcm : c ≤ maxLen) (ht : TV w ta N T) (hN : N ≤ maxLen) (hn : ∀ i, i < N → (T i).n ≤ maxLen)
    (hr : ∀ i, i < N → ∀ j, j < (T i).n → -9223372036854775808 ≤ ((T i).S j).nd ∧ ((T i).S j).nd ≤ 9223372036854775807) (hk : IsHpF h n f ac bu N T k) :
    Calls Tryz.prog 46 #[.agg #[.int .i64 h, .slice a n c, .int .i64 ac, .int .i64 bu, .slice ta N tc]] w (RetInt w k) := by
  have S0 := Lib.hid hs; have T0 := Lib.hid ht; have HN := Lib.hid hn; have HR := Lib.hid hr; have HCM := Lib.hid hcm
  have B_0 := Lib.hid (Blk.new_at (w := w) (cs := #[.int .i64 h, .slice a n c, .int .i64 ac, .int .i64 bu, .slice ta N tc]) (t := 32) w.heap.size rfl)
  have HB0 : Hid (Below w.heap.size w (w.alloc (.cells #[.int .i64 h, .slice a n c, .int .i64 ac, .int .i64 bu, .slice ta N tc] 32))) := (Below.refl _ _).alloc (Nat.le_refl _) _
  unfold maxLen at hN
  clear hs ht hn hr hcm
  rcases hk with ⟨hk, h0⟩ | ⟨hk, L, hL, hk2⟩
  · have HK := Lib.hid hk
    have hq : (k != 0) = true := by simp [h0]
    have H0 := Lib.hid h0
    have b0 := B_0.out.at 0 rfl; have b1 := B_0.out.at 1 rfl; have b2 := B_0.out.at 2 rfl; have b3 := B_0.out.at 3 rfl; have lB := B_0.out.1
    clear hk h0
    go_enter Tryz.func46, Tryz.ntmps46
    go_wp2_with fail
    refine (shaped_any h ac bu a n c f _ (S0.out.below HB0.out) hcn HCM.out k [] (.inl ⟨HK.out, H0.out, rfl⟩)).mono ?_
    rintro e w1 ⟨a1, c1, U, rfl, hg, hT, hb, hc1, hc2⟩
    have HB1 := Lib.hid (thru0 HB0.out hb)
    have z1 := HB1.out.size
    clear hb b0 b1 b2 b3 lB hg hT hc1 hc2
    go_wp2
    go_ret
    exact ⟨rfl, HB1.out.alloc z1 _⟩
  · have HSF := Lib.hid hk; have HOI := Lib.hid hL
    have HC := Lib.hid (hpF_cases2 f L h N T hk2)
    have b0 := B_0.out.at 0 rfl; have b1 := B_0.out.at 1 rfl; have b2 := B_0.out.at 2 rfl; have b3 := B_0.out.at 3 rfl; have lB := B_0.out.1
    have zB : w.heap.size < (w.alloc (.cells #[.int .i64 h, .slice a n c, .int .i64 ac, .int .i64 bu, .slice ta N tc] 32)).heap.size := by simp
    clear hk hL hk2
    go_enter Tryz.func46, Tryz.ntmps46
    go_wp2_with fail
    generalize w.alloc (.cells #[.int .i64 h, .slice a n c, .int .i64 ac, .int .i64 bu, .slice ta N tc] 32) = w0 at *
    refine (shaped_any h ac bu a n c f _ (S0.out.below HB0.out) hcn HCM.out 0 L (.inr ⟨rfl, HSF.out, HOI.out⟩)).mono ?_
    rintro e w1 ⟨a1, c1, U, rfl, hg, hT, hb, hc1, hc2⟩
    have HB1 := Lib.hid (thru0 HB0.out hb); have B_1 := Lib.hid (B_0.out.below hb)
    have HSH := Lib.hid (shaped_of HSF.out HOI.out hg.src hT)
    have z1 := hb.size
    clear hb b0 b1 b2 b3 lB hg hT hc1 hc2 B_0 HB0
    have HB2 := Lib.hid (HB1.out.alloc HB1.out.size (.cells #[.int .i64 0, .slice a1 L.length c1] 118))
    have B_2 := Lib.hid (B_1.out.alloc (.cells #[.int .i64 0, .slice a1 L.length c1] 118))
    have F_2 := Lib.hid (Blk.new_at (w := w1) (cs := #[.int .i64 0, .slice a1 L.length c1]) (t := 118) w1.heap.size rfl)
    have SH2 := Lib.hid (HSH.out.below ((Below.refl _ _).alloc (Nat.le_refl _) (.cells #[.int .i64 0, .slice a1 L.length c1] 118)))
    have b4 := B_2.out.at 4 rfl; have lB := B_2.out.1
    have z2 : w1.heap.size < (w1.alloc (.cells #[.int .i64 0, .slice a1 L.length c1] 118)).heap.size := by simp
    have HZ2 : Hid ((w1.alloc (.cells #[.int .i64 0, .slice a1 L.length c1] 118)).heap.size = w1.heap.size + 1) := Lib.hid (by simp)
    clear HB1 B_1 HSH
    go_wp2_with fail
    generalize w1.alloc (.cells #[.int .i64 0, .slice a1 L.length c1] 118) = w2 at *
    generalize hF0 : w1.heap.size = F0 at *
    by_cases hN4 : 1 ≤ N ∧ N ≤ 4
    · have hN4' : 1 ≤ (N : Int) ∧ (N : Int) ≤ 4 := by omega
      have HN4 := Lib.hid hN4'
      have HC1 : Hid ((¬ tnsF L T N = 0 ∧ k = tnsF L T N) ∨ (tnsF L T N = 0 ∧ ((¬ quF f L T N = 0 ∧ k = quF f L T N) ∨ (quF f L T N = 0 ∧ ((h < sumF (fun i => (T i).q) N ∧ k = 7) ∨ (sumF (fun i => (T i).q) N ≤ h ∧ k = 0)))))) := Lib.hid (by
        rcases HC.out with ⟨h1, _⟩ | ⟨_, h2⟩
        · exact absurd hN4 h1
        · exact h2)
      clear HC hN4'
      with_reducible refine (isOut1 _ _ _ _ _ false (by first | rfl | exact HZ2.out.symm | simp) (.inl ⟨rfl, HN4.out⟩)).mono ?_
      rintro e w3 ⟨rfl, hb⟩
      have HB3 := Lib.hid (thru1 HB2.out hb); have B_3 := Lib.hid ((B_2.out.alloc _).below hb); have F_3 := Lib.hid ((F_2.out.alloc _).below hb)
      have SH3 := Lib.hid ((SH2.out.below ((Below.refl _ _).alloc (Nat.le_refl _) _)).below hb)
      clear hb b4 lB B_2 F_2 SH2 HB2
      have b4 := B_3.out.at 4 rfl; have lB := B_3.out.1
      go_wp2
      clear b4 lB
      go_loopw [26] (fun p wr => ∃ i : Nat, i ≤ N ∧ p = .int .i64 (i : Int) ∧ Hid (tnsF L T i = 0) ∧ Hid (Below w3.heap.size w3 wr)) (fun p _ => N - (intOf p).toNat)
      case atStart => exact ⟨0, Nat.zero_le _, rfl, Lib.hid rfl, Below.refl _ _⟩
      case round =>
        obtain ⟨i, hi, rfl, H0, HB_r⟩ := hrel
        have HBr := Lib.hid (thru0 HB3.out HB_r.out)
        have B_r := Lib.hid (B_3.out.below HB_r.out)
        have F_r := Lib.hid (F_3.out.below HB_r.out)
        have hzr := HB_r.out.size
        have hzr2 := HBr.out.size
        by_cases hlt : i < N
        · have hlt' : (i : Int) < (N : Int) := by omega
          have hi0 : (0 : Int) ≤ (i : Int) := by omega
          obtain ⟨tb, tq, rfl, lt, ⟨g0, g1, g2⟩, -⟩ := tv_get (T0.out.below HBr.out) hlt
          have HST := Lib.hid (fun h1 => tnsF_stop (L := L) (T := T) hlt H0.out h1)
          have HNX := Lib.hid (fun h1 => tnsF_next (L := L) (T := T) (i := i) H0.out h1)
          have HRI := Lib.hid (HR.out i hlt)
          have hnm := HN.out i hlt
          obtain ⟨c9, hc9⟩ : ∃ c9, tnF L (i : Int) (T i) = c9 := ⟨_, rfl⟩
          have HCC := Lib.hid hc9
          have HNM := Lib.hid hnm
          have HAL : Hid (Below w3.heap.size w3 (wr.alloc (.cells #[.int .i64 (T i).q, .int .i64 (T i).h, .slice (T i).a (T i).n (T i).c] 61))) := Lib.hid (HB_r.out.alloc hzr _)
          have HALr : Hid (Below w.heap.size w (wr.alloc (.cells #[.int .i64 (T i).q, .int .i64 (T i).h, .slice (T i).a (T i).n (T i).c] 61))) := Lib.hid (HBr.out.alloc hzr2 _)
          have HSL := Lib.hid (tv_get (T0.out.below HALr.out) hlt)
          have F_A := Lib.hid (F_r.out.alloc (.cells #[.int .i64 (T i).q, .int .i64 (T i).h, .slice (T i).a (T i).n (T i).c] 61))
          have f1 := F_A.out.at 1 rfl; have lF := F_A.out.1
          clear hc9 hnm
          generalize T i = t at *
          go_wp2_with fail
          obtain ⟨_, _, -, -, -, hsl⟩ := HSL.out
          refine (tenantFault_any t (i : Int) a1 c1 U f L c9 _ (SH3.out.below HAL.out) hsl HNM.out HRI.out HCC.out).mono ?_
          rintro e w5 ⟨rfl, hb⟩
          have HB5 := Lib.hid (thru0 HAL.out hb)
          clear hb g0 g1 g2 f1 lF hsl HSL F_A B_r F_r
          by_cases h0 : c9 = 0
          · have HK2 := Lib.hid (HNX.out (HCC.out.trans h0))
            subst h0
            clear HST HNX HCC
            go_wp2
            go_roundw
            case rel => first | exact ⟨i + 1, by omega, by go_num, HK2, HB5⟩ | ((repeat apply Exists.intro); exact ⟨⟨i + 1, by omega, by go_num, HK2, HB5⟩, rfl⟩)
            case measure => simp [intOf]; omega
          · have hq9 : (c9 != 0) = true := by simp [h0]
            have HKE : Hid (k = c9) := Lib.hid (by
              have e := HST.out (by rw [HCC.out]; exact h0)
              rw [HCC.out] at e
              rcases HC1.out with ⟨_, h2⟩ | ⟨h2, _⟩
              · rw [h2, e]
              · exact absurd (e.symm.trans h2) h0)
            have HB6 := Lib.hid (thru0 HB3.out HB5.out)
            clear HST HNX HCC h0
            go_wp2
            go_ret
            exact ⟨by rw [HKE.out]; rfl, HB6.out⟩
        · have hlt' : ¬ (i : Int) < (N : Int) := by omega
          obtain rfl : i = N := by omega
          have HOK : Hid (∀ j, j < i → TnOk L (j : Int) (T j)) := Lib.hid (fun j hj => tnF_ok (tnsF_all H0.out j hj))
          have HC2 : Hid ((¬ quF f L T i = 0 ∧ k = quF f L T i) ∨ (quF f L T i = 0 ∧ ((h < sumF (fun i => (T i).q) i ∧ k = 7) ∨ (sumF (fun i => (T i).q) i ≤ h ∧ k = 0)))) := Lib.hid (by
            rcases HC1.out with ⟨h2, _⟩ | ⟨_, h3⟩
            · exact absurd H0.out h2
            · exact h3)
          have SHr := Lib.hid (SH3.out.below HB_r.out)
          have b4 := B_r.out.at 4 rfl; have lB := B_r.out.1
          clear HC1 H0 hi HB_r hzr
          go_wp2
          clear b4 lB
          generalize wr = w4 at *
          go_loopw [43] (fun p wr => ∃ j : Nat, j ≤ i ∧ p = .int .i64 (j : Int) ∧ Hid (quF f L T j = 0) ∧ Hid (Below w4.heap.size w4 wr)) (fun p _ => i - (intOf p).toNat)
          case atStart => exact ⟨0, Nat.zero_le _, rfl, Lib.hid rfl, Below.refl _ _⟩
          case round =>
            obtain ⟨j, hj, rfl, HQ, HB_s⟩ := hrel
            have HBs := Lib.hid (thru0 HBr.out HB_s.out)
            have B_s := Lib.hid (B_r.out.below HB_s.out)
            have F_s := Lib.hid (F_r.out.below HB_s.out)
            have SHs := Lib.hid (SHr.out.below HB_s.out)
            have hzs := HB_s.out.size
            have hzs2 := HBs.out.size
            by_cases hlt : j < i
            · have hlt' : (j : Int) < (i : Int) := by omega
              have hj0 : (0 : Int) ≤ (j : Int) := by omega
              obtain ⟨tb, tq, rfl, lt, ⟨g0, g1, g2⟩, -⟩ := tv_get (T0.out.below HBs.out) hlt
              have HOKI := Lib.hid (HOK.out j hlt)
              have HST := Lib.hid (fun h1 => quF_stop (f := f) (L := L) (T := T) hlt HQ.out h1)
              have HNX := Lib.hid (fun h1 => quF_next (f := f) (L := L) (T := T) (i := j) HQ.out h1)
              have HAL : Hid (Below w4.heap.size w4 (wr.alloc (.cells #[.int .i64 (T j).q, .int .i64 (T j).h, .slice (T j).a (T j).n (T j).c] 61))) := Lib.hid (HB_s.out.alloc hzs _)
              have HALr : Hid (Below w.heap.size w (wr.alloc (.cells #[.int .i64 (T j).q, .int .i64 (T j).h, .slice (T j).a (T j).n (T j).c] 61))) := Lib.hid (HBs.out.alloc hzs2 _)
              have HSL := Lib.hid (tv_get (T0.out.below HALr.out) hlt)
              have F_A := Lib.hid (F_s.out.alloc (.cells #[.int .i64 (T j).q, .int .i64 (T j).h, .slice (T j).a (T j).n (T j).c] 61))
              have D_A := Lib.hid (Blk.new_at (w := wr) (cs := #[.int .i64 (T j).q, .int .i64 (T j).h, .slice (T j).a (T j).n (T j).c]) (t := 61) wr.heap.size rfl)
              have SHA := Lib.hid (SHs.out.below ((Below.refl _ _).alloc (Nat.le_refl _) (.cells #[.int .i64 (T j).q, .int .i64 (T j).h, .slice (T j).a (T j).n (T j).c] 61)))
              obtain ⟨y, hy⟩ : ∃ y : Int, (heldT f L (T j) : Int) = y := ⟨_, rfl⟩
              have HY := Lib.hid hy
              have hfi := fld_tab
              clear hy
              generalize T j = t at *
              go_upto_region 16 with (fail)
              clear g0 g1 g2
              generalize wr.alloc (.cells #[.int .i64 t.q, .int .i64 t.h, .slice t.a t.n t.c] 61) = w5 at *
              have HB5w : Hid (Below w5.heap.size w5 w5) := Below.refl _ _
              have HSLd : Hid (PV w5.drew t.a t.n t.S) := Lib.hid (by obtain ⟨_, _, -, -, -, hsl⟩ := HSL.out; exact hsl.drew)
              have SHd := Lib.hid (SHA.out.below (Below.refl _ _).drew)
              have F_d := Lib.hid F_A.out.drew; have D_d := Lib.hid D_A.out.drew
              have hRl : Hid ((reachO f L (rootsS t.S t.n)).length ≤ 400) := Lib.hid (by
                have h1 := reachO_length SHA.out.right.points (fun x hx => (SHA.out.right.ok x hx).1.1.1) (rootsS_in HOKI.out)
                have := SHA.out.len
                omega)
              go_wp2_with fail
              go_region_held3 (fun w' => w'.cell? ⟨F0, 1, none⟩ = some (.slice a1 L.length c1) ∧ w'.cell? ⟨wr.heap.size, 2, none⟩ = some (.slice t.a t.n t.c) ∧ w'.cell? ⟨wr.heap.size, 0, none⟩ = some (.int .i64 t.q))
                (first | (with_reducible exact capI F_A.out D_A.out) | (with_reducible exact capI F_d.out D_d.out) | (with_reducible exact capI F_6.out D_6.out) | (with_reducible exact capI F_7.out D_7.out))
                (first | (go_at_call 89; refine (tableOf_any a1 c1 U f L t.a t.n t.c t.S _ SHd.out HSLd.out HOKI.out.n.2 (tnok_nd HOKI.out SHA.out.place) (rootsS_in HOKI.out)).mono ?_; rintro e w6 ⟨hb, oa, oc, mb, V, rfl, hgv, -, hsm⟩; have HB6 := Lib.hid ((Below.refl w5.heap.size w5).drew.trans (hb.mono (by simp))); have F_6 := Lib.hid (F_d.out.below hb); have D_6 := Lib.hid (D_d.out.below hb); have HGV := Lib.hid hgv; have HSM := Lib.hid hsm; clear hb hgv hsm) | (go_at_call 55; refine (words_any 0 (.map (some mb)) oa (reachO f L (rootsS t.S t.n)) oc V L f _ HGV.out hRl.out HSM.out SHA.out.right.ok).mono ?_; rw [show ((sumW (wordsAt L) (reachO f L (rootsS t.S t.n)) : Nat) : Int) = y from HY.out]; rintro e w7 ⟨rfl, hb⟩; have HB7 := Lib.hid (thru0 HB6.out hb); have F_7 := Lib.hid (F_6.out.below hb); have D_7 := Lib.hid (D_6.out.below hb); clear hb))
              have HBF := Lib.hid (thru0 HAL.out HB7.out)
              have HBW := Lib.hid (thru0 HALr.out HB7.out)
              clear F_A D_A F_d D_d F_6 D_6 SHd SHA SHs HSLd HB5w B_s F_s HB_s HBs HAL HALr HB6 HGV HSM hfi
              by_cases hqy : t.q < y
              · have HK : Hid (k = 9) := Lib.hid (by
                  have e := HST.out (by rw [HY.out]; exact hqy)
                  rcases HC2.out with ⟨_, h1⟩ | ⟨h1, _⟩
                  · rw [h1, e]
                  · omega)
                generalize t.q = q at *
                go_wp2
                go_ret
                exact ⟨by rw [HK.out]; rfl, HBW.out⟩
              · have HQ2 := Lib.hid (HNX.out (by rw [HY.out]; omega))
                generalize t.q = q at *
                clear HQ
                go_wp2
                go_roundw
                case rel => first | exact ⟨j + 1, by omega, by go_num, HQ2, HBF⟩ | ((repeat apply Exists.intro); exact ⟨⟨j + 1, by omega, by go_num, HQ2, HBF⟩, rfl⟩)
                case measure => simp [intOf]; omega
            · have hlt' : ¬ (j : Int) < (i : Int) := by omega
              obtain rfl : j = i := by omega
              have HC3 : Hid ((h < sumF (fun i => (T i).q) j ∧ k = 7) ∨ (sumF (fun i => (T i).q) j ≤ h ∧ k = 0)) := Lib.hid (by
                rcases HC2.out with ⟨h1, _⟩ | ⟨_, h1⟩
                · exact absurd HQ.out h1
                · exact h1)
              have HQB : Hid (∀ i, i < j → 0 ≤ (T i).q ∧ (T i).q ≤ 100000) := Lib.hid (fun i hi => by have := (HOK.out i hi).q; omega)
              have B_d := Lib.hid B_s.out.drew
              have HBd := Lib.hid HBs.out.drew
              obtain ⟨y, hy⟩ : ∃ y : Int, sumF (fun i => (T i).q) j = y := ⟨_, rfl⟩
              have HY := Lib.hid hy
              rw [hy] at HC3
              have hj4 : j ≤ 4 := by omega
              clear HC2 HQ hy
              go_wp2_with fail
              go_region_held3 (fun w' => w'.cell? ⟨w.heap.size, 4, none⟩ = some (.slice ta j tc) ∧ w'.cell? ⟨w.heap.size, 0, none⟩ = some (.int .i64 h))
                (first | (with_reducible exact capJ B_s.out) | (with_reducible exact capJ B_d.out) | (with_reducible exact capJ B_6.out))
                (first | (go_at_call 91; refine (quotasOf_any ta j tc T _ (T0.out.below HBd.out) (by omega)).mono ?_; rintro e w6 ⟨qa, qc, rfl, ho, hb, -, -, -⟩; have HB6 := Lib.hid (thru0 HBd.out hb); have B_6 := Lib.hid (B_d.out.below hb); have HO := Lib.hid ho.src; clear hb ho) | (go_at_call 90; refine (sumOf_any qa j qc (fun i => (T i).q) _ HO.out (by omega) HQB.out).mono ?_; rw [HY.out]; rintro e w7 ⟨rfl, rfl⟩))
              clear B_s B_d B_6 HBd HBs HO
              rcases HC3.out with ⟨h1, rfl⟩ | ⟨h1, rfl⟩
              · clear HC3
                go_wp2
                go_ret
                exact ⟨rfl, HB6.out⟩
              · clear HC3
                go_wp2
                go_ret
                exact ⟨rfl, HB6.out⟩
    · have e : k = 2 := by
        rcases HC.out with ⟨_, h2⟩ | ⟨h1, _⟩
        · exact h2
        · exact absurd h1 hN4
      subst e
      have hN4' : ¬ (1 ≤ (N : Int) ∧ (N : Int) ≤ 4) := by omega
      have HN4 := Lib.hid hN4'
      clear HC hN4 hN4'
      with_reducible refine (isOut1 _ _ _ _ _ true (by first | rfl | exact HZ2.out.symm | simp) (.inr ⟨rfl, HN4.out⟩)).mono ?_
      rintro e w3 ⟨rfl, hb⟩
      have HB3 := Lib.hid (thru1 HB2.out hb)
      clear hb
      go_wp2
      go_ret
      exact ⟨rfl, HB3.out⟩
end Go.Proofs.YtnpklnpicelcmaaGreat

namespace Go.Proofs.YtnpklnpicelcmaaGreat
open Go.ChangeShapes Go.WideShapes Go.ChangeAt Go.RowKit Go.Joins Go.Deep
set_option linter.unusedVariables false

/-- A slot whose numbers are of 64 bits. -/
def SlW (t : SL) : Prop := I64 t.g ∧ I64 t.nd

/-- A tenant whose numbers are of 64 bits. -/
def TnW (t : TN) : Prop := I64 t.q ∧ I64 t.h ∧ ∀ j, j < t.n → SlW (t.S j)

set_option maxRecDepth 100000 in
/-- One slot, out of its cells. -/
theorem open_hs2 {H : Type} {enc : TypeId × Value → H} {W : World} {n : Nat} {cs : List Value} {y : DataW H × List MemPlace} (hlen : cs.length = 2) (h : DataW.trod enc Tryz.prog W 0 (fun _ => true) true n 166 cs = some y) :
    ∃ t : SL, cs = [.int .i64 t.g, .int .i64 t.nd] ∧ SlW t := by
  match cs, hlen with
  | [v0, v1], _ =>
    obtain ⟨xs, k, _, _, _, hxl, hf⟩ := DataW.trod_struct Tryz.underlying166 h
    have hxl : xs.length = 2 := hxl
    match xs, hxl with
    | [y0, y1], _ =>
      have g0 := hf 0 _ rfl
      have g1 := hf 1 _ rfl
      simp [Tryz.cellsO2] at g0 g1
      obtain ⟨i0, e0, _, w0⟩ := DataW.trod_int Tryz.underlying2 g0
      obtain ⟨i1, e1, _, w1⟩ := DataW.trod_int Tryz.underlying2 g1
      simp only [List.cons.injEq, and_true] at e0 e1
      subst e0 e1
      exact ⟨⟨i0, i1⟩, rfl, i64_of_wf w0, i64_of_wf w1⟩

set_option maxRecDepth 100000 in
/-- A row of slots. -/
theorem open_hss2 {H : Type} {enc : TypeId × Value → H} {W : World} {fuel : Nat} {cs : List Value} {y : DataW H × List MemPlace} (hf : DataW.trod enc Tryz.prog W 0 (fun _ => true) true fuel 74 cs = some y) :
    ∃ (a : Option Addr) (N c : Nat) (T : Nat → SL), cs = [.slice a N c] ∧ PV W a N T ∧ N ≤ maxLen ∧ ∀ i, i < N → SlW (T i) := by
  rcases open_slice Tryz.underlying74 hf with ⟨hcs, _⟩ | ⟨x, l, c, m, n, D, Pl, hcs, _, hl, hm, hmm, _, hx⟩
  · exact ⟨none, 0, 0, fun _ => (⟨0, 0⟩ : SL), hcs, .inl rfl, Nat.zero_le _, fun i hi => by omega⟩
  · have hlm : l ≤ m := by
      rw [hmm]; split
      · exact hl
      · exact Nat.le_refl _
    have each : ∀ i, i < l → ∃ t : SL, (∀ j u, ([.int .i64 t.g, .int .i64 t.nd] : List Value)[j]? = some u → W.cell? ((x.add (i * 2)).add j) = some u) ∧ SlW t := fun i hi => by
      obtain ⟨cs', h1, h2⟩ := hx i (by omega)
      rw [Tryz.cellsM166] at h1
      obtain ⟨_, hlen, hat⟩ := World.cells?_some h1
      obtain ⟨t, rfl, hw⟩ := open_hs2 hlen h2
      refine ⟨t, fun j u hu => ?_, hw⟩
      rw [hat j (List.getElem?_eq_some_iff.mp hu).1, hu]
    by_cases hz : l = 0
    · exact ⟨some x, l, c, fun _ => (⟨0, 0⟩ : SL), hcs, .inl hz, by omega, fun i hi => by omega⟩
    have : Inhabited SL := ⟨⟨0, 0⟩⟩
    obtain ⟨T, hT⟩ := Go.Deep.choose_lt each
    refine ⟨some x, l, c, T, hcs, ?_, by omega, fun i hi => (hT i hi).2⟩
    obtain ⟨b, off, spot⟩ := x
    have hc := (hT 0 (by omega)).1 0 _ rfl
    have hspot : spot = none := by simpa [Addr.add] using World.cell?_spot hc
    subst hspot
    refine .inr ⟨b, off, rfl, World.block_lt_of_cell? W _ (by simpa [Addr.add] using hc), fun i hi => ?_⟩
    have g := fun j u hu => (hT i hi).1 j u hu
    simp only [add_none] at g
    exact ⟨g 0 _ rfl, g 1 _ rfl⟩

set_option maxRecDepth 100000 in
/-- One tenant, out of its cells. -/
theorem open_tn2 {H : Type} {enc : TypeId × Value → H} {W : World} {n : Nat} {cs : List Value} {y : DataW H × List MemPlace} (hlen : cs.length = 3) (h : DataW.trod enc Tryz.prog W 0 (fun _ => true) true n 76 cs = some y) :
    ∃ t : TN, cs = [.int .i64 t.q, .int .i64 t.h, .slice t.a t.n t.c] ∧ PV W t.a t.n t.S ∧ t.n ≤ maxLen ∧ TnW t := by
  match cs, hlen with
  | [v0, v1, v2], _ =>
    obtain ⟨xs, k, _, _, _, hxl, hf⟩ := DataW.trod_struct Tryz.underlying76 h
    have hxl : xs.length = 3 := hxl
    match xs, hxl with
    | [y0, y1, y2], _ =>
      have g0 := hf 0 _ rfl
      have g1 := hf 1 _ rfl
      have g2 := hf 2 _ rfl
      simp [Tryz.cellsO2] at g0 g1
      simp [Tryz.cellsY74] at g2
      obtain ⟨i0, e0, _, w0⟩ := DataW.trod_int Tryz.underlying2 g0
      obtain ⟨i1, e1, _, w1⟩ := DataW.trod_int Tryz.underlying2 g1
      simp only [List.cons.injEq, and_true] at e0 e1
      subst e0 e1
      obtain ⟨a, N, c, S, hcs, hp, hN, hw⟩ := open_hss2 g2
      simp only [List.cons.injEq, and_true] at hcs
      subst hcs
      exact ⟨⟨i0, i1, a, N, c, S⟩, rfl, hp, hN, i64_of_wf w0, i64_of_wf w1, hw⟩

set_option maxRecDepth 100000 in
/-- A row of tenants. -/
theorem open_tns2 {H : Type} {enc : TypeId × Value → H} {W : World} {fuel : Nat} {cs : List Value} {y : DataW H × List MemPlace} (hf : DataW.trod enc Tryz.prog W 0 (fun _ => true) true fuel 25 cs = some y) :
    ∃ (a : Option Addr) (N c : Nat) (T : Nat → TN), cs = [.slice a N c] ∧ TV W a N T ∧ N ≤ maxLen ∧ (∀ i, i < N → (T i).n ≤ maxLen) ∧ ∀ i, i < N → TnW (T i) := by
  rcases open_slice Tryz.underlying25 hf with ⟨hcs, _⟩ | ⟨x, l, c, m, n, D, Pl, hcs, _, hl, hm, hmm, _, hx⟩
  · exact ⟨none, 0, 0, fun _ => ⟨0, 0, none, 0, 0, fun _ => (⟨0, 0⟩ : SL)⟩, hcs, .inl rfl, Nat.zero_le _, fun i hi => by omega, fun i hi => by omega⟩
  · have hlm : l ≤ m := by
      rw [hmm]; split
      · exact hl
      · exact Nat.le_refl _
    have each : ∀ i, i < l → ∃ t : TN, (∀ j u, ([.int .i64 t.q, .int .i64 t.h, .slice t.a t.n t.c] : List Value)[j]? = some u → W.cell? ((x.add (i * 3)).add j) = some u) ∧ PV W t.a t.n t.S ∧ t.n ≤ maxLen ∧ TnW t := fun i hi => by
      obtain ⟨cs', h1, h2⟩ := hx i (by omega)
      rw [Tryz.cellsY76] at h1
      obtain ⟨_, hlen, hat⟩ := World.cells?_some h1
      obtain ⟨t, rfl, h3, h4, h5⟩ := open_tn2 hlen h2
      refine ⟨t, fun j u hu => ?_, h3, h4, h5⟩
      rw [hat j (List.getElem?_eq_some_iff.mp hu).1, hu]
    by_cases hz : l = 0
    · exact ⟨some x, l, c, fun _ => ⟨0, 0, none, 0, 0, fun _ => (⟨0, 0⟩ : SL)⟩, hcs, .inl hz, by omega, fun i hi => by omega, fun i hi => by omega⟩
    have : Inhabited TN := ⟨⟨0, 0, none, 0, 0, fun _ => (⟨0, 0⟩ : SL)⟩⟩
    obtain ⟨T, hT⟩ := Go.Deep.choose_lt each
    refine ⟨some x, l, c, T, hcs, ?_, by omega, fun i hi => (hT i hi).2.2.1, fun i hi => (hT i hi).2.2.2⟩
    obtain ⟨b, off, spot⟩ := x
    have hc := (hT 0 (by omega)).1 0 _ rfl
    have hspot : spot = none := by simpa [Addr.add] using World.cell?_spot hc
    subst hspot
    refine .inr ⟨b, off, rfl, World.block_lt_of_cell? W _ (by simpa [Addr.add] using hc), fun i hi => ?_, fun i hi => (hT i hi).2.1⟩
    have g := fun j u hu => (hT i hi).1 j u hu
    simp only [add_none] at g
    exact ⟨g 0 _ rfl, g 1 _ rfl, g 2 _ rfl⟩

set_option maxRecDepth 100000 in
/-- What came in: a heap. -/
theorem open_heap2 {H : Type} {enc : TypeId × Value → H} {W : World} {base : Nat} {v0 : Value} {d0 : DataW H} {p0 : List MemPlace}
    (hv : Value.okWide Tryz.prog W .any base 27 v0) (h0 : DataW.Trod enc Tryz.prog W 0 (fun _ => true) true 27 v0 d0 p0) :
    ∃ (h ac bu : Int) (a : Option Addr) (n c : Nat) (f : Nat → Int) (ta : Option Addr) (N tc : Nat) (T : Nat → TN), v0 = .agg #[.int .i64 h, .slice a n c, .int .i64 ac, .int .i64 bu, .slice ta N tc] ∧ Src W a n f ∧ n ≤ maxLen ∧ TV W ta N T ∧ N ≤ maxLen ∧ (∀ i, i < N → (T i).n ≤ maxLen) ∧ ∀ i, i < N → TnW (T i) := by
  obtain ⟨cs, rfl, hsz⟩ := okWide_struct Tryz.underlying27 hv
  have hsz : cs.size = 5 := hsz.trans Tryz.cellsY27
  obtain ⟨fuel, hf0⟩ := h0
  obtain ⟨ls⟩ := cs
  match ls, hsz with
  | [v0, v1, v2, v3, v4], _ =>
    obtain ⟨xs, k, _, _, _, hxl, hf⟩ := DataW.trod_struct Tryz.underlying27 hf0
    have hxl : xs.length = 2 := hxl
    match xs, hxl with
    | [y0, y1], _ =>
      have g0 := hf 0 _ rfl
      have g1 := hf 1 _ rfl
      simp [Value.cells, Tryz.cellsY24, Tryz.cellsY25] at g0 g1
      obtain ⟨ys, k', _, _, _, hyl, hg⟩ := DataW.trod_struct Tryz.underlying24 g0
      have hyl : ys.length = 4 := hyl
      match ys, hyl with
      | [z0, z1, z2, z3], _ =>
        have q0 := hg 0 _ rfl
        have q1 := hg 1 _ rfl
        have q2 := hg 2 _ rfl
        have q3 := hg 3 _ rfl
        simp [Tryz.cellsO2, Tryz.cellsO22] at q0 q1 q2 q3
        obtain ⟨h, e0, _, _⟩ := DataW.trod_int Tryz.underlying2 q0
        obtain ⟨a, n, c, f, e1, s1, hn⟩ := open_ints1 q1
        obtain ⟨ac, e2, _, _⟩ := DataW.trod_int Tryz.underlying2 q2
        obtain ⟨bu, e3, _, _⟩ := DataW.trod_int Tryz.underlying2 q3
        obtain ⟨ta, N, tc, T, e4, t1, hN, hM, hW⟩ := open_tns2 g1
        simp only [List.cons.injEq, and_true] at e0 e1 e2 e3 e4
        subst e0 e1 e2 e3 e4
        exact ⟨h, ac, bu, a, n, c, f, ta, N, tc, T, rfl, s1, hn, t1, hN, hM, hW⟩
end Go.Proofs.YtnpklnpicelcmaaGreat

namespace Go.Proofs.YtnpklnpicelcmaaGreat
open Go.RowKit
set_option linter.unusedVariables false

theorem tnw_nd {N : Nat} {T U : Nat → TN} (hw : ∀ i, i < N → TnW (T i)) (hs : ∀ i, i < N → TnSame (T i) (U i)) : ∀ i, i < N → ∀ j, j < (U i).n → -9223372036854775808 ≤ ((U i).S j).nd ∧ ((U i).S j).nd ≤ 9223372036854775807 := fun i hi j hj => by
  obtain ⟨_, _, h3, h4⟩ := hs i hi
  have hj' : j < (T i).n := by omega
  rw [← h4 j hj']
  exact ((hw i hi).2.2 j hj').2

theorem tnsame_max {N : Nat} {T T' : Nat → TN} (h : ∀ i, i < N → TnSame (T i) (T' i)) (hn : ∀ i, i < N → (T i).n ≤ 1048576) : ∀ i, i < N → (T' i).n ≤ maxLen := fun i hi => by
  have := tnsame_n h hn i hi
  unfold maxLen; omega

theorem max_of {N : Nat} (h : N ≤ 1048576) : N ≤ maxLen := by unfold maxLen; omega
end Go.Proofs.YtnpklnpicelcmaaGreat

