/- Texts merged: RP2 to NH1a. -/
import Derived.Test.YtbhjmomphajnnaaPNH1
import Derived.IntWalk
namespace Go.Proofs.Ytbhjmomphajnnaa
open Go.RowKit
set_option linter.unusedVariables false

set_option maxRecDepth 100000 in
set_option maxHeartbeats 400000 in
theorem eqReply_same (t : SL) (w : World) :
    Calls Try.prog 104 #[.agg #[.int .i64 t.g, .int .i64 t.nd], .agg #[.int .i64 t.g, .int .i64 t.nd]] w (RetBool w true) := by
  go_enter Try.func104, Try.ntmps104
  go_wp2
  go_ret
  exact ⟨rfl, ((Below.refl _ _).alloc (Nat.le_refl _) _).alloc (by simp) _⟩

set_option maxRecDepth 100000 in
set_option maxHeartbeats 1600000 in
theorem eqReplyS_same (a1 a2 : Option Addr) (N k1 k2 : Nat) (T U : Nat → SL) (w : World) (h1 : PV w a1 N T) (h2 : PV w a2 N U) (he : ∀ i, i < N → T i = U i) (hN : N ≤ 1048576) :
    Calls Try.prog 39 #[.slice a1 N k1, .slice a2 N k2] w (RetBool w true) := by
  have H1 := Lib.hid h1; have H2 := Lib.hid (h2.congr fun i hi => (he i hi).symm)
  clear h1 h2 he
  go_enter Try.func39, Try.ntmps39
  go_wp2
  go_loopw [5] (fun p wr => ∃ i : Nat, i ≤ N ∧ p = .int .i64 (i : Int) ∧ Hid (Below w.heap.size w wr)) (fun p _ => N - (intOf p).toNat)
  case atStart => exact ⟨0, Nat.zero_le _, rfl, Below.refl _ _⟩
  case round =>
    obtain ⟨i, hi, rfl, HBr⟩ := hrel
    by_cases hlt : i < N
    · have hlt' : (i : Int) < (N : Int) := by omega
      have hi0 : (0 : Int) ≤ (i : Int) := by omega
      rcases H1.out.below HBr.out with h0 | ⟨g1, q1, rfl, r1⟩
      · omega
      rcases H2.out.below HBr.out with h0 | ⟨g2, q2, rfl, r2⟩
      · omega
      have X1 := Lib.hid (r1.two i hlt); have Y1 := Lib.hid (r2.two i hlt)
      have l1' := r1.lt; have l2' := r2.lt
      have hzr := HBr.out.size
      have Xd := Lib.hid ((r1.below (Below.refl _ _).drew).two i hlt); have Yd := Lib.hid ((r2.below (Below.refl _ _).drew).two i hlt)
      clear r1 r2
      generalize T i = t at *
      go_wp2_with fail
      go_region_held3 (fun w' => w'.cell? ⟨g1, q1 + i * 2, none⟩ = some (.int .i64 t.g) ∧ w'.cell? ⟨g1, q1 + i * 2 + 1, none⟩ = some (.int .i64 t.nd) ∧ w'.cell? ⟨g2, q2 + i * 2, none⟩ = some (.int .i64 t.g) ∧ w'.cell? ⟨g2, q2 + i * 2 + 1, none⟩ = some (.int .i64 t.nd))
        (first | (with_reducible exact twosG X1.out Y1.out) | (with_reducible exact twosG Xd.out Yd.out) | (with_reducible exact twosG X2.out Y2.out))
        (first | (go_at_call 104; refine (eqReply_same t _).mono ?_; rintro e w2 ⟨rfl, hb⟩; have HB2 := Lib.hid (thru0 (Below.refl wr.heap.size wr).drew hb); have X2 := Lib.hid (X1.out.block (HB2.out.block _ l1')); have Y2 := Lib.hid (Y1.out.block (HB2.out.block _ l2')); clear hb))
      have HB3 := Lib.hid (HBr.out.trans (HB2.out.mono hzr))
      go_wp2
      go_roundw
      case rel => exact ⟨i + 1, by omega, by go_num, HB3⟩
      case measure => simp [intOf]; omega
    · go_wp2
      go_ret
      exact ⟨rfl, HBr.out⟩
end Go.Proofs.Ytbhjmomphajnnaa

namespace Go.Proofs.Ytbhjmomphajnnaa
open Go.RowKit
set_option linter.unusedVariables false

set_option maxRecDepth 100000 in
set_option maxHeartbeats 800000 in
theorem heldHeapSlotS_any (a : Option Addr) (N c : Nat) (k : Int) (w : World) (hs : PV w a N (smkd k)) (hk0 : 0 ≤ k) (hk1 : k + 2 * (N : Int) ≤ 1048576) :
    Calls Try.prog 218 #[.slice a N c, .int .i64 k] w fun e w' => e = .returned (.int .i64 (k + 2 * (N : Int))) ∧ w = w' := by
  have H := Lib.hid hs
  clear hs
  go_enter Try.func218, Try.ntmps218
  go_wp2
  go_loop [1, 5] (fun u p => ∃ i : Nat, i ≤ N ∧ p = .int .i64 i ∧ u = .int .i64 (k + 2 * (i : Int))) (fun _ p => N - (intOf p).toNat)
  case atStart => exact ⟨0, Nat.zero_le _, rfl, by simp⟩
  case round =>
    obtain ⟨i, hi, rfl, rfl⟩ := hrel
    by_cases hlt : i < N
    · have hlt' : (i : Int) < (N : Int) := by omega
      have hi0 : (0 : Int) ≤ (i : Int) := by omega
      rcases H.out with h0 | ⟨b, q, rfl, hg⟩
      · omega
      obtain ⟨x0, x1⟩ := hg.two i hlt
      have hlt0 := hg.lt
      simp only [smkd] at x0 x1
      generalize hK : k + 2 * (i : Int) = K at *
      have hK0 : 0 ≤ K := by omega
      have hK1 : K + 2 ≤ 1048576 := by omega
      have HKK := Lib.hid hK
      clear hK hg
      go_wp2
      go_round
      case rel => exact ⟨i + 1, by omega, by go_num, by have := HKK.out; go_num⟩
      case measure => simp [intOf]; omega
    · go_wp2
      go_ret
      obtain rfl : i = N := by omega
      exact ⟨rfl, rfl⟩

set_option maxRecDepth 100000 in
set_option maxHeartbeats 800000 in
theorem markHeapSlotS_any (a : Option Addr) (lo hi N c : Nat) (T : Nat → SL) (k : Int) (w : World) (hs : PVO w lo hi a N T) (hk0 : 0 ≤ k) (hk1 : k + 2 * (N : Int) ≤ 1048576) :
    Calls Try.prog 217 #[.slice a N c, .int .i64 k] w fun e w' => e = .returned (.int .i64 (k + 2 * (N : Int))) ∧ PVO w' lo hi a N (smkd k) ∧ Keeps w w' lo hi := by
  have H := Lib.hid hs
  clear hs
  go_enter Try.func217, Try.ntmps217
  go_wp2
  go_loopw [1, 5] (fun u p wr => ∃ i : Nat, i ≤ N ∧ p = .int .i64 i ∧ u = .int .i64 (k + 2 * (i : Int)) ∧ Hid (Keeps w wr lo hi) ∧ Hid (PVO wr lo hi a N (fun j => if j < i then smkd k j else T j))) (fun _ p _ => N - (intOf p).toNat)
  case atStart => exact ⟨0, Nat.zero_le _, rfl, by simp, Keeps.refl _ _ _, by simpa using H⟩
  case round =>
    obtain ⟨i, hi9, rfl, rfl, HK, HR⟩ := hrel
    by_cases hlt : i < N
    · have hlt' : (i : Int) < (N : Int) := by omega
      have hi0 : (0 : Int) ≤ (i : Int) := by omega
      rcases HR.out with h0 | ⟨b, q, rfl, hg⟩
      · omega
      obtain ⟨x0, x1⟩ := hg.two i hlt
      obtain ⟨f0, f1⟩ := hg.free i hlt
      have hlt0 := hg.lt
      generalize hK : k + 2 * (i : Int) = K at *
      have hK0 : 0 ≤ K := by omega
      have hK1 : K + 2 ≤ 1048576 := by omega
      have HKK := Lib.hid hK
      have HQ := Lib.hid (pown_put (i := i) (t := ⟨K, K + 1⟩) hg hlt)
      clear hK hg HR
      go_wp2
      go_roundw
      case rel =>
        refine ⟨i + 1, by omega, by go_num, by have := HKK.out; go_num, HK.out.trans HQ.out.2, .inr ⟨b, q, rfl, HQ.out.1.congr fun j hj => ?_⟩⟩
        by_cases e : j = i
        · subst e
          simp only [if_true, Nat.lt_succ_self, smkd, HKK.out]
        · rw [if_neg e]
          have h2 : (j < i + 1) = (j < i) := by simp only [eq_iff_iff]; omega
          simp only [h2]
      case measure => simp [intOf]; omega
    · go_wp2
      go_ret
      obtain rfl : i = N := by omega
      refine ⟨rfl, ?_, HK.out⟩
      exact HR.out.congr fun j hj => by simp [hj]
end Go.Proofs.Ytbhjmomphajnnaa

namespace Go.Proofs.Ytbhjmomphajnnaa
open Go.RowKit
set_option linter.unusedVariables false

set_option maxRecDepth 100000 in
set_option maxHeartbeats 400000 in
theorem eqHeapSlot_same (t : SL) (w : World) :
    Calls Try.prog 232 #[.agg #[.int .i64 t.g, .int .i64 t.nd], .agg #[.int .i64 t.g, .int .i64 t.nd]] w (RetBool w true) := by
  go_enter Try.func232, Try.ntmps232
  go_wp2
  go_ret
  exact ⟨rfl, ((Below.refl _ _).alloc (Nat.le_refl _) _).alloc (by simp) _⟩

set_option maxRecDepth 100000 in
set_option maxHeartbeats 1600000 in
theorem eqHeapSlotS_same (a1 a2 : Option Addr) (N k1 k2 : Nat) (T U : Nat → SL) (w : World) (h1 : PV w a1 N T) (h2 : PV w a2 N U) (he : ∀ i, i < N → T i = U i) (hN : N ≤ 1048576) :
    Calls Try.prog 221 #[.slice a1 N k1, .slice a2 N k2] w (RetBool w true) := by
  have H1 := Lib.hid h1; have H2 := Lib.hid (h2.congr fun i hi => (he i hi).symm)
  clear h1 h2 he
  go_enter Try.func221, Try.ntmps221
  go_wp2
  go_loopw [5] (fun p wr => ∃ i : Nat, i ≤ N ∧ p = .int .i64 (i : Int) ∧ Hid (Below w.heap.size w wr)) (fun p _ => N - (intOf p).toNat)
  case atStart => exact ⟨0, Nat.zero_le _, rfl, Below.refl _ _⟩
  case round =>
    obtain ⟨i, hi, rfl, HBr⟩ := hrel
    by_cases hlt : i < N
    · have hlt' : (i : Int) < (N : Int) := by omega
      have hi0 : (0 : Int) ≤ (i : Int) := by omega
      rcases H1.out.below HBr.out with h0 | ⟨g1, q1, rfl, r1⟩
      · omega
      rcases H2.out.below HBr.out with h0 | ⟨g2, q2, rfl, r2⟩
      · omega
      have X1 := Lib.hid (r1.two i hlt); have Y1 := Lib.hid (r2.two i hlt)
      have l1' := r1.lt; have l2' := r2.lt
      have hzr := HBr.out.size
      have Xd := Lib.hid ((r1.below (Below.refl _ _).drew).two i hlt); have Yd := Lib.hid ((r2.below (Below.refl _ _).drew).two i hlt)
      clear r1 r2
      generalize T i = t at *
      go_wp2_with fail
      go_region_held3 (fun w' => w'.cell? ⟨g1, q1 + i * 2, none⟩ = some (.int .i64 t.g) ∧ w'.cell? ⟨g1, q1 + i * 2 + 1, none⟩ = some (.int .i64 t.nd) ∧ w'.cell? ⟨g2, q2 + i * 2, none⟩ = some (.int .i64 t.g) ∧ w'.cell? ⟨g2, q2 + i * 2 + 1, none⟩ = some (.int .i64 t.nd))
        (first | (with_reducible exact twosG X1.out Y1.out) | (with_reducible exact twosG Xd.out Yd.out) | (with_reducible exact twosG X2.out Y2.out))
        (first | (go_at_call 232; refine (eqHeapSlot_same t _).mono ?_; rintro e w2 ⟨rfl, hb⟩; have HB2 := Lib.hid (thru0 (Below.refl wr.heap.size wr).drew hb); have X2 := Lib.hid (X1.out.block (HB2.out.block _ l1')); have Y2 := Lib.hid (Y1.out.block (HB2.out.block _ l2')); clear hb))
      have HB3 := Lib.hid (HBr.out.trans (HB2.out.mono hzr))
      go_wp2
      go_roundw
      case rel => exact ⟨i + 1, by omega, by go_num, HB3⟩
      case measure => simp [intOf]; omega
    · go_wp2
      go_ret
      exact ⟨rfl, HBr.out⟩
end Go.Proofs.Ytbhjmomphajnnaa

namespace Go.Proofs.Ytbhjmomphajnnaa
open Go.RowKit
set_option linter.unusedVariables false

theorem Try.infoHS : (Try.prog.info? 198).map (fun i => (i.zero, i.size, i.bytes)) = some (some (.agg #[.int .i64 0, .int .i64 0]), 2, 16) := by kernel_rfl

theorem Try.underlyingRHS : Try.prog.underlying 189 = some (.slice 198) := by kernel_rfl

/-- A row of zero slots. -/
theorem pown_madeHS {w : World} {lo b N cap : Nat} (h : w.ownsRow lo 198 2 (.slice (some ⟨b, 0, none⟩) N cap) N (madeCells #[.int .i64 0, .int .i64 0] (N * 2)).toList) (hl : lo ≤ b) (hp : 0 < N) : POwn w lo w.heap.size b 0 N (fun _ => ⟨0, 0⟩) := by
  have hlt : b < w.heap.size := by
    rcases h.2 with ⟨h', _⟩ | ⟨g', cap', cur, h', _, hg, _⟩
    · cases h'
    · simp only [Value.slice.injEq, Option.some.injEq, Addr.mk.injEq, and_true, true_and] at h'
      obtain ⟨rfl, rfl⟩ := h'
      exact (Array.getElem?_eq_some_iff.mp hg).1
  have hc : ∀ i, i < N → ∀ j, j < 2 → w.cell? ⟨b, i * 2 + j, none⟩ = some (#[.int .i64 0, .int .i64 0] : Array Value)[(i * 2 + j) % 2]! := fun i hi j hj => by
    have := h.cellAt (i * 2 + j) (by omega)
    rw [made_get _ _ _ (by omega)] at this
    simpa using this
  refine ⟨hl, hlt, hlt, fun i hi => ?_, fun i hi => ?_⟩
  · have m : ∀ j, j < 2 → (i * 2 + j) % 2 = j := fun j hj => by omega
    rw [Nat.zero_add]
    have k0 := hc i hi 0 (by omega); have k1 := hc i hi 1 (by omega)
    rw [m 0 (by omega)] at k0; rw [m 1 (by omega)] at k1
    exact ⟨k0, k1⟩
  · rw [Nat.zero_add]
    exact ⟨h.frozenAt _, h.frozenAt _⟩
end Go.Proofs.Ytbhjmomphajnnaa

namespace Go.Proofs.Ytbhjmomphajnnaa
open Go.RowKit Go.Maps
set_option linter.unusedVariables false

/-- What is carried: the arena and its roots, and what was collected. -/
structure FCD (W w : World) (P G : Nat) (h ac bu : Int) (a : Option Addr) (n c : Nat) (f : Nat → Int) (ra : Option Addr) (l : List Int) (rco rh : Int) (b : Option Addr) (m d : Nat) (g : Nat → Int) (rac rbu : Int) (rb : Option Addr) (l2 : List Int) (rd : Nat) (mv : Int) : Prop where
  bel : Below W.heap.size W w
  ab : Blk w P [.int .i64 h, .slice a n c, .int .i64 ac, .int .i64 bu]
  gb : Blk w G [.int .i64 rco, .int .i64 rh, .slice b m d, .int .i64 rac, .int .i64 rbu, .slice rb l2.length rd, .int .i64 mv]
  wa : Src w a n f
  ra : Src w ra l.length (lf l)
  wb : Src w b m g
  rb : Src w rb l2.length (lf l2)

section

variable {W w w' : World} {P G : Nat} {h ac bu : Int} {a : Option Addr} {n c : Nat} {f : Nat → Int} {ra : Option Addr} {l : List Int} {rco rh : Int} {b : Option Addr} {m d : Nat} {g : Nat → Int} {rac rbu : Int} {rb : Option Addr} {l2 : List Int} {rd : Nat} {mv : Int}

theorem FCD.below (x : FCD W w P G h ac bu a n c f ra l rco rh b m d g rac rbu rb l2 rd mv) (hb : Below w.heap.size w w') : FCD W w' P G h ac bu a n c f ra l rco rh b m d g rac rbu rb l2 rd mv :=
  ⟨x.bel.trans (hb.mono x.bel.size), x.ab.below hb, x.gb.below hb, x.wa.below hb, x.ra.below hb, x.wb.below hb, x.rb.below hb⟩

end
end Go.Proofs.Ytbhjmomphajnnaa

namespace Go.Proofs.Ytbhjmomphajnnaa
open Go.RowKit
set_option linter.unusedVariables false

/-- What is carried: a handle, its word, what is read, a new machine. -/
structure HSt (W w : World) (Bh Bw Br Bn : Nat) (x y z c v rc t s g nc te qu : Int) (sa : Option Addr) (n kc : Nat) : Prop where
  bel : Below W.heap.size W w
  hb : Blk w Bh [.int .i64 x, .int .i64 y, .int .i64 z]
  wb : Blk w Bw [.int .i64 c, .int .i64 v]
  rb : Blk w Br [.int .i64 rc, .int .i64 t, .int .i64 s, .int .i64 g]
  nb : Blk w Bn [.int .i64 nc, .int .i64 te, .int .i64 qu, .int .i64 0, .slice sa n kc, .slice none 0 0]
  pv : PV w sa n zS

theorem HSt.below {W w w' : World} {Bh Bw Br Bn : Nat} {x y z c v rc t s g nc te qu : Int} {sa : Option Addr} {n kc : Nat} (d : HSt W w Bh Bw Br Bn x y z c v rc t s g nc te qu sa n kc) (hb : Below w.heap.size w w') : HSt W w' Bh Bw Br Bn x y z c v rc t s g nc te qu sa n kc :=
  ⟨d.bel.trans (hb.mono d.bel.size), d.hb.below hb, d.wb.below hb, d.rb.below hb, d.nb.below hb, d.pv.below hb⟩
end Go.Proofs.Ytbhjmomphajnnaa

namespace Go.Proofs.Ytbhjmomphajnnaa
open Go.RowKit
set_option linter.unusedVariables false

/-- A tenant of a heap, in memory. -/
structure TN where
  q : Int
  h : Int
  a : Option Addr
  n : Nat
  c : Nat
  S : Nat → SL

def TN.g (t : TN) : Nat := match t.a with | some x => x.block | none => 0

def ThrG (w : World) (b o : Nat) (t : TN) : Prop := w.cell? ⟨b, o, none⟩ = some (.int .i64 t.q) ∧ w.cell? ⟨b, o + 1, none⟩ = some (.int .i64 t.h) ∧ w.cell? ⟨b, o + 2, none⟩ = some (.slice t.a t.n t.c)

def ThrF (w : World) (b o : Nat) : Prop := w.frozen? ⟨b, o, none⟩ = false ∧ w.frozen? ⟨b, o + 1, none⟩ = false ∧ w.frozen? ⟨b, o + 2, none⟩ = false

theorem ThrG.block {w w' : World} {b o : Nat} {t : TN} (h : ThrG w b o t) (e : w'.heap[b]? = w.heap[b]?) : ThrG w' b o t :=
  ⟨(World.cell?_of_block (w := w) (a := ⟨b, o, none⟩) e).trans h.1, (World.cell?_of_block (w := w) (a := ⟨b, o + 1, none⟩) e).trans h.2.1, (World.cell?_of_block (w := w) (a := ⟨b, o + 2, none⟩) e).trans h.2.2⟩

theorem ThrF.block {w w' : World} {b o : Nat} (h : ThrF w b o) (e : w'.heap[b]? = w.heap[b]?) : ThrF w' b o :=
  ⟨(World.frozen?_of_block (w := w) (a := ⟨b, o, none⟩) e).trans h.1, (World.frozen?_of_block (w := w) (a := ⟨b, o + 1, none⟩) e).trans h.2.1, (World.frozen?_of_block (w := w) (a := ⟨b, o + 2, none⟩) e).trans h.2.2⟩

theorem ThrG.below {w w' : World} {b o : Nat} {t : TN} (h : ThrG w b o t) (hb : Below w.heap.size w w') (hl : b < w.heap.size) : ThrG w' b o t := h.block (hb.block b hl)

theorem ThrF.below {w w' : World} {b o : Nat} (h : ThrF w b o) (hb : Below w.heap.size w w') (hl : b < w.heap.size) : ThrF w' b o := h.block (hb.block b hl)

theorem ThrG.keeps {w w' : World} {b o lo hi : Nat} {t : TN} (h : ThrG w b o t) (hk : Keeps w w' lo hi) (hl : b < w.heap.size) (hd : b < lo ∨ hi ≤ b) : ThrG w' b o t := h.block (hk.block b hl hd)

theorem ThrF.keeps {w w' : World} {b o lo hi : Nat} (h : ThrF w b o) (hk : Keeps w w' lo hi) (hl : b < w.heap.size) (hd : b < lo ∨ hi ≤ b) : ThrF w' b o := h.block (hk.block b hl hd)

/-- A row of tenants is read. -/
structure TSrc (w : World) (b q N : Nat) (T : Nat → TN) : Prop where
  lt : b < w.heap.size
  thr : ∀ i, i < N → ThrG w b (q + i * 3) (T i)
  slo : ∀ i, i < N → PV w (T i).a (T i).n (T i).S

/-- A row of tenants of the call's own, in blocks from lo to hi. -/
structure TOwn (w : World) (lo hi b q N : Nat) (T : Nat → TN) : Prop where
  glo : lo ≤ b
  ghi : b < hi
  lt : b < w.heap.size
  thr : ∀ i, i < N → ThrG w b (q + i * 3) (T i)
  free : ∀ i, i < N → ThrF w b (q + i * 3)
  slo : ∀ i, i < N → PVO w lo hi (T i).a (T i).n (T i).S
  off : ∀ i, i < N → (T i).n = 0 ∨ (T i).g ≠ b
  apart : ∀ i j, i < N → j < N → i ≠ j → (T i).n = 0 ∨ (T j).n = 0 ∨ (T i).g ≠ (T j).g

theorem TOwn.src {w : World} {lo hi b q N : Nat} {T : Nat → TN} (h : TOwn w lo hi b q N T) : TSrc w b q N T := ⟨h.lt, h.thr, fun i hi => (h.slo i hi).src⟩

theorem TSrc.below {w w' : World} {b q N : Nat} {T : Nat → TN} (h : TSrc w b q N T) (hb : Below w.heap.size w w') : TSrc w' b q N T :=
  ⟨Nat.lt_of_lt_of_le h.lt hb.size, fun i hi => (h.thr i hi).below hb h.lt, fun i hi => (h.slo i hi).below hb⟩

theorem TOwn.below {w w' : World} {lo hi b q N : Nat} {T : Nat → TN} (h : TOwn w lo hi b q N T) (hb : Below w.heap.size w w') : TOwn w' lo hi b q N T :=
  ⟨h.glo, h.ghi, Nat.lt_of_lt_of_le h.lt hb.size, fun i hi => (h.thr i hi).below hb h.lt, fun i hi => (h.free i hi).below hb h.lt, fun i hi => (h.slo i hi).below hb, h.off, h.apart⟩

theorem TOwn.keeps {w w' : World} {lo hi lo' hi' b q N : Nat} {T : Nat → TN} (h : TOwn w lo hi b q N T) (hk : Keeps w w' lo' hi') (hd : hi ≤ lo' ∨ hi' ≤ lo) : TOwn w' lo hi b q N T := by
  have h1 := h.glo; have h2 := h.ghi
  exact ⟨h.glo, h.ghi, Nat.lt_of_lt_of_le h.lt hk.size, fun i hi => (h.thr i hi).keeps hk h.lt (by omega), fun i hi => (h.free i hi).keeps hk h.lt (by omega), fun i hi => (h.slo i hi).keeps hk hd, h.off, h.apart⟩

/-- How many marks are given ahead of a tenant. -/
def toff (T : Nat → TN) : Nat → Nat
  | 0 => 0
  | j + 1 => toff T j + 2 + 2 * (T j).n

def tmk1 (t : TN) (k : Int) : TN := { t with q := k, h := k + 1, S := smkd (k + 2) }

def tmkd (T : Nat → TN) (k : Int) (j : Nat) : TN := tmk1 (T j) (k + (toff T j : Int))

theorem toff_mono (T : Nat → TN) {i j : Nat} (h : i ≤ j) : toff T i ≤ toff T j := by
  induction j with
  | zero => obtain rfl : i = 0 := by omega
            exact Nat.le_refl _
  | succ j ih =>
    by_cases e : i = j + 1
    · subst e; exact Nat.le_refl _
    · have := ih (by omega)
      simp only [toff]; omega

theorem toff_len (T : Nat → TN) : ∀ N, 2 * N ≤ toff T N
  | 0 => Nat.le_refl _
  | N + 1 => by have := toff_len T N; simp only [toff]; omega

theorem TSrc.drew {w : World} {b q N : Nat} {T : Nat → TN} (h : TSrc w b q N T) : TSrc w.drew b q N T := h.below (Below.refl _ _).drew

theorem TSrc.alloc {w : World} {b q N : Nat} {T : Nat → TN} (h : TSrc w b q N T) (o : Obj) : TSrc (w.alloc o) b q N T := h.below ((Below.refl _ _).alloc (Nat.le_refl _) o)

theorem TOwn.drew {w : World} {lo hi b q N : Nat} {T : Nat → TN} (h : TOwn w lo hi b q N T) : TOwn w.drew lo hi b q N T := h.below (Below.refl _ _).drew

theorem TOwn.alloc {w : World} {lo hi b q N : Nat} {T : Nat → TN} (h : TOwn w lo hi b q N T) (o : Obj) : TOwn (w.alloc o) lo hi b q N T := h.below ((Below.refl _ _).alloc (Nat.le_refl _) o)

theorem TSrc.congr {w : World} {b q N : Nat} {T U : Nat → TN} (h : TSrc w b q N T) (e : ∀ i, i < N → T i = U i) : TSrc w b q N U :=
  ⟨h.lt, fun i hi => by rw [← e i hi]; exact h.thr i hi, fun i hi => by rw [← e i hi]; exact h.slo i hi⟩

theorem TOwn.congr {w : World} {lo hi b q N : Nat} {T U : Nat → TN} (h : TOwn w lo hi b q N T) (e : ∀ i, i < N → T i = U i) : TOwn w lo hi b q N U :=
  ⟨h.glo, h.ghi, h.lt, fun i hi => by rw [← e i hi]; exact h.thr i hi, h.free, fun i hi => by rw [← e i hi]; exact h.slo i hi, fun i hi => by rw [← e i hi]; exact h.off i hi, fun i j hi hj hij => by rw [← e i hi, ← e j hj]; exact h.apart i j hi hj hij⟩

theorem TOwn.widen {w : World} {lo hi lo' hi' b q N : Nat} {T : Nat → TN} (h : TOwn w lo hi b q N T) (h1 : lo' ≤ lo) (h2 : hi ≤ hi') : TOwn w lo' hi' b q N T :=
  ⟨Nat.le_trans h1 h.glo, Nat.lt_of_lt_of_le h.ghi h2, h.lt, h.thr, h.free, fun i hi => (h.slo i hi).widen h1 h2, h.off, h.apart⟩

theorem pvo_at {w w' : World} {lo hi : Nat} {t : TN} (h : PVO w lo hi t.a t.n t.S) (he : t.n = 0 ∨ w'.heap[t.g]? = w.heap[t.g]?) (hs : w.heap.size ≤ w'.heap.size) : PVO w' lo hi t.a t.n t.S := by
  rcases h with h0 | ⟨b, q, ha, hg⟩
  · exact .inl h0
  · rcases he with h0 | he
    · exact .inl h0
    · have e : t.g = b := by simp [TN.g, ha]
      rw [e] at he
      exact .inr ⟨b, q, ha, hg.glo, hg.ghi, Nat.lt_of_lt_of_le hg.lt hs, fun i hi => (hg.two i hi).block he, fun i hi => (hg.free i hi).block he⟩

theorem pvo_narrow {w : World} {lo hi : Nat} {t : TN} (h : PVO w lo hi t.a t.n t.S) (hlh : lo ≤ hi) : ∃ l r, lo ≤ l ∧ l ≤ r ∧ r ≤ hi ∧ PVO w l r t.a t.n t.S ∧ ((t.n = 0 ∧ l = r) ∨ (0 < t.n ∧ l = t.g ∧ r = t.g + 1 ∧ t.g < w.heap.size)) := by
  rcases h with h0 | ⟨b, q, ha, hg⟩
  · exact ⟨lo, lo, Nat.le_refl _, Nat.le_refl _, hlh, .inl h0, .inl ⟨h0, rfl⟩⟩
  · rcases Nat.eq_zero_or_pos t.n with h0 | hp
    · exact ⟨lo, lo, Nat.le_refl _, Nat.le_refl _, hlh, .inl h0, .inl ⟨h0, rfl⟩⟩
    · have e : t.g = b := by simp [TN.g, ha]
      have h1 := hg.glo; have h2 := hg.ghi
      exact ⟨b, b + 1, h1, by omega, by omega, .inr ⟨b, q, ha, Nat.le_refl _, Nat.lt_succ_self _, hg.lt, hg.two, hg.free⟩, .inr ⟨hp, e.symm, by omega, by rw [e]; exact hg.lt⟩⟩

theorem pvo_g {w : World} {lo hi : Nat} {t : TN} (h : PVO w lo hi t.a t.n t.S) : t.n = 0 ∨ (lo ≤ t.g ∧ t.g < hi ∧ t.g < w.heap.size) := by
  rcases h with h0 | ⟨b, q, ha, hg⟩
  · exact .inl h0
  · have e : t.g = b := by simp [TN.g, ha]
    exact .inr (by rw [e]; exact ⟨hg.glo, hg.ghi, hg.lt⟩)

set_option maxRecDepth 100000 in
set_option maxHeartbeats 1600000 in
theorem heldTenS_any (b q N c : Nat) (T : Nat → TN) (k : Int) (w : World) (hs : TSrc w b q N (tmkd T k)) (hk0 : 0 ≤ k) (hk1 : k + (toff T N : Int) ≤ 1048576) :
    Calls Try.prog 178 #[.slice (some ⟨b, q, none⟩) N c, .int .i64 k] w fun e w' => e = .returned (.int .i64 (k + (toff T N : Int))) ∧ w = w' := by
  have H := Lib.hid hs
  have hN5 : N ≤ 1048576 := by have := toff_len T N; omega
  clear hs
  go_enter Try.func178, Try.ntmps178
  go_wp2
  go_loop [1, 5] (fun u p => ∃ i : Nat, i ≤ N ∧ p = .int .i64 i ∧ u = .int .i64 (k + (toff T i : Int))) (fun _ p => N - (intOf p).toNat)
  case atStart => exact ⟨0, Nat.zero_le _, rfl, by simp [toff]⟩
  case round =>
    obtain ⟨i, hi, rfl, rfl⟩ := hrel
    by_cases hlt : i < N
    · have hlt' : (i : Int) < (N : Int) := by omega
      have hi0 : (0 : Int) ≤ (i : Int) := by omega
      have hle : toff T (i + 1) ≤ toff T N := toff_mono T hlt
      have hso : (toff T (i + 1) : Int) = (toff T i : Int) + 2 + 2 * ((T i).n : Int) := by simp only [toff]; omega
      obtain ⟨x0, x1, x2⟩ := H.out.thr i hlt
      have hsrc := H.out.slo i hlt
      have hlt0 := H.out.lt
      simp only [tmkd, tmk1] at x0 x1 x2 hsrc
      generalize hK : k + (toff T i : Int) = K at *
      have hK0 : 0 ≤ K := by omega
      have hK1 : K + 2 + 2 * ((T i).n : Int) ≤ 1048576 := by omega
      have hK2 : ¬ K + 2 + 2 * ((T i).n : Int) < 0 := by omega
      have HSO := Lib.hid hso; have HKK := Lib.hid hK; have HSRC := Lib.hid hsrc
      clear hso hK hle hsrc
      generalize T i = t at *
      go_wp2_with fail
      rw [show K + 1 + 1 = K + 2 from by omega]
      refine (heldHeapSlotS_any _ _ _ (K + 2) _ HSRC.out (by omega) (by omega)).mono ?_
      rintro e w' ⟨rfl, rfl⟩
      go_wp2
      go_round
      case rel => exact ⟨i + 1, by omega, by go_num, by have := HSO.out; have := HKK.out; go_num⟩
      case measure => simp [intOf]; omega
    · go_wp2
      go_ret
      obtain rfl : i = N := by omega
      exact ⟨rfl, rfl⟩

theorem thr_store {w : World} {b o : Nat} {t : TN} (h : ThrG w b o t) (K : Int) : ThrG (twoW w b o ⟨K, K + 1⟩) b o (tmk1 t K) := by
  obtain ⟨x0, x1, x2⟩ := h
  simp [twoW, ThrG, tmk1, x0, x1, x2, World.cell?_setCell_other, World.cell?_setCell_same']

theorem thr_other {w : World} {b o o' : Nat} {t : TN} (h : ThrG w b o t) (hd : o + 3 ≤ o' ∨ o' + 3 ≤ o) (s : SL) : ThrG (twoW w b o' s) b o t := by
  have g : ∀ x, x < 3 → ∀ y, y < 3 → (⟨b, o' + y, none⟩ : Addr) ≠ ⟨b, o + x, none⟩ := fun x hx y hy e => by simp at e; try omega
  have k : ∀ x, x < 3 → (twoW w b o' s).cell? ⟨b, o + x, none⟩ = w.cell? ⟨b, o + x, none⟩ := fun x hx => by
    unfold twoW
    rw [World.cell?_setCell_other _ _ _ _ (g x hx 1 (by omega)), World.cell?_setCell_other _ _ _ _ (show (⟨b, o', none⟩ : Addr) ≠ ⟨b, o + x, none⟩ from g x hx 0 (by omega))]
  exact ⟨(k 0 (by omega)).trans h.1, (k 1 (by omega)).trans h.2.1, (k 2 (by omega)).trans h.2.2⟩

/-- One tenant has been marked. -/
theorem town_round {wr w2 : World} {lo hi b q N i l r : Nat} {U : Nat → TN} {K : Int} (h : TOwn wr lo hi b q N U) (hi' : i < N) (hl : lo ≤ l) (hr : r ≤ hi) (hlr : ((U i).n = 0 ∧ l = r) ∨ (0 < (U i).n ∧ l = (U i).g ∧ r = (U i).g + 1 ∧ (U i).g < wr.heap.size))
    (hk : Keeps (twoW wr b (q + i * 3) ⟨K, K + 1⟩) w2 l r) (ho : PVO w2 l r (U i).a (U i).n (smkd (K + 2))) :
    TOwn w2 lo hi b q N (fun j => if j = i then tmk1 (U i) K else U j) ∧ Keeps wr w2 lo hi := by
  have h1 := h.glo; have h2 := h.ghi; have h3 := h.lt
  have k5 := twoW_keeps wr b (q + i * 3) ⟨K, K + 1⟩
  have kk : Keeps wr w2 lo hi := (k5.widen h1 (by omega)).trans (hk.widen hl hr)
  have hbl : b < l ∨ r ≤ b := by
    rcases hlr with ⟨_, e⟩ | ⟨e0, e1, e2, _⟩
    · omega
    · have := (h.off i hi').resolve_left (by omega)
      omega
  refine ⟨⟨h1, h2, Nat.lt_of_lt_of_le h3 kk.size, fun j hj => ?_, fun j hj => ?_, fun j hj => ?_, fun j hj => ?_, fun a c ha hc hac => ?_⟩, kk⟩
  · by_cases e : j = i
    · subst e
      rw [if_pos rfl]
      exact (thr_store (h.thr j hj) K).keeps hk (Nat.lt_of_lt_of_le h3 k5.size) hbl
    · rw [if_neg e]
      exact (thr_other (h.thr j hj) (by omega) _).keeps hk (Nat.lt_of_lt_of_le h3 k5.size) hbl
  · have hf := h.free j hj
    have hf5 : ThrF (twoW wr b (q + i * 3) ⟨K, K + 1⟩) b (q + j * 3) := ⟨(twoW_frozen _ _ _ _ _).trans hf.1, (twoW_frozen _ _ _ _ _).trans hf.2.1, (twoW_frozen _ _ _ _ _).trans hf.2.2⟩
    exact hf5.keeps hk (Nat.lt_of_lt_of_le h3 k5.size) hbl
  · by_cases e : j = i
    · subst e
      rw [if_pos rfl]
      exact PVO.widen ho hl hr
    · rw [if_neg e]
      refine pvo_at (h.slo j hj) ?_ kk.size
      by_cases h0 : (U j).n = 0
      · exact .inl h0
      · have hjb := (h.off j hj).resolve_left h0
        have hlt : (U j).g < wr.heap.size := ((pvo_g (h.slo j hj)).resolve_left h0).2.2
        right
        have e1 := k5.block (U j).g hlt (by omega)
        refine (hk.block (U j).g (Nat.lt_of_lt_of_le hlt k5.size) ?_).trans e1
        rcases hlr with ⟨_, e⟩ | ⟨e0, e1, e2, _⟩
        · omega
        · have := ((h.apart i j hi' hj (fun x => e x.symm)).resolve_left (by omega)).resolve_left h0
          omega
  · by_cases e : j = i
    · subst e
      rw [if_pos rfl]
      exact h.off j hj
    · rw [if_neg e]; exact h.off j hj
  · have ga : ∀ x, (if x = i then tmk1 (U i) K else U x).n = (U x).n ∧ (if x = i then tmk1 (U i) K else U x).g = (U x).g := fun x => by
      by_cases e : x = i
      · subst e; rw [if_pos rfl]; exact ⟨rfl, rfl⟩
      · rw [if_neg e]; exact ⟨rfl, rfl⟩
    rw [(ga a).1, (ga a).2, (ga c).1, (ga c).2]
    exact h.apart a c ha hc hac

theorem town_two {wr : World} {lo hi b q N i l r : Nat} {U : Nat → TN} (s : SL) (h : TOwn wr lo hi b q N U) (hi' : i < N) (ho : PVO wr l r (U i).a (U i).n (U i).S) : PVO (twoW wr b (q + i * 3) s) l r (U i).a (U i).n (U i).S := by
  have k5 := twoW_keeps wr b (q + i * 3) s
  refine pvo_at ho ?_ k5.size
  rcases h.off i hi' with h0 | hne
  · exact .inl h0
  · rcases pvo_g (h.slo i hi') with h0 | ⟨_, _, hx⟩
    · exact .inl h0
    · exact .inr (k5.block _ (by omega) (by omega))

def TRetMarkS (W : World) (lo hi b q N : Nat) (T : Nat → TN) (k : Int) (e : Ending) (w' : World) : Prop :=
  e = .returned (.int .i64 (k + (toff T N : Int))) ∧ TOwn w' lo hi b q N (tmkd T k) ∧ Keeps W w' lo hi

set_option maxRecDepth 100000 in
set_option maxHeartbeats 1600000 in
theorem markTenS_any (lo hi b q N c : Nat) (T : Nat → TN) (k : Int) (w : World) (hs : TOwn w lo hi b q N T) (hk0 : 0 ≤ k) (hk1 : k + (toff T N : Int) ≤ 1048576) :
    Calls Try.prog 176 #[.slice (some ⟨b, q, none⟩) N c, .int .i64 k] w (TRetMarkS w lo hi b q N T k) := by
  have H := Lib.hid hs
  have hN5 : N ≤ 1048576 := by have := toff_len T N; omega
  have hlh : lo ≤ hi := by have := hs.glo; have := hs.ghi; omega
  clear hs
  go_enter Try.func176, Try.ntmps176
  go_wp2
  go_loopw [1, 5] (fun u p wr => ∃ i : Nat, i ≤ N ∧ p = .int .i64 i ∧ u = .int .i64 (k + (toff T i : Int)) ∧ Hid (Keeps w wr lo hi) ∧ Hid (TOwn wr lo hi b q N (fun j => if j < i then tmkd T k j else T j))) (fun _ p _ => N - (intOf p).toNat)
  case atStart => exact ⟨0, Nat.zero_le _, rfl, by simp [toff], Keeps.refl _ _ _, by simpa using H⟩
  case round =>
    obtain ⟨i, hi9, rfl, rfl, HK, HR⟩ := hrel
    by_cases hlt : i < N
    · have hlt' : (i : Int) < (N : Int) := by omega
      have hi0 : (0 : Int) ≤ (i : Int) := by omega
      have hle : toff T (i + 1) ≤ toff T N := toff_mono T hlt
      have hso : (toff T (i + 1) : Int) = (toff T i : Int) + 2 + 2 * ((T i).n : Int) := by simp only [toff]; omega
      have hx := HR.out.thr i hlt
      have hsrc := HR.out.slo i hlt
      obtain ⟨f0, f1, f2⟩ := HR.out.free i hlt
      have hlt0 := HR.out.lt
      simp only [Nat.lt_irrefl, if_false] at hx hsrc
      obtain ⟨x0, x1, x2⟩ := hx
      generalize hK : k + (toff T i : Int) = K at *
      have hK0 : 0 ≤ K := by omega
      have hK1 : K + 2 + 2 * ((T i).n : Int) ≤ 1048576 := by omega
      have HSO := Lib.hid hso; have HKK := Lib.hid hK; have HSRC := Lib.hid hsrc
      clear hso hK hle hsrc
      obtain ⟨l, r, hl1, hl2, hl3, hnar, hlr⟩ := pvo_narrow HSRC.out hlh
      obtain ⟨U, hU⟩ : ∃ U : Nat → TN, U = fun j => if j < i then tmkd T k j else T j := ⟨_, rfl⟩
      have hUi : U i = T i := by rw [hU]; simp
      have hR : TOwn wr lo hi b q N U := by rw [hU]; exact HR.out
      have hnar' : PVO wr l r (U i).a (U i).n (U i).S := by rw [hUi]; exact hnar
      have h5 := town_two ⟨K, K + 1⟩ hR hlt hnar'
      have hlr' : ((U i).n = 0 ∧ l = r) ∨ (0 < (U i).n ∧ l = (U i).g ∧ r = (U i).g + 1 ∧ (U i).g < wr.heap.size) := by rw [hUi]; exact hlr
      rw [hUi] at h5
      have H5 := Lib.hid h5; have HLR := Lib.hid hlr'; have HRU := Lib.hid hR; have HUI := Lib.hid hUi; have HU := Lib.hid hU
      clear h5 hlr' hR hUi hU hnar hnar' hlr HR
      go_wp2_with fail
      rw [show K + 1 + 1 = K + 2 from by omega]
      refine (markHeapSlotS_any (T i).a l r (T i).n (T i).c (T i).S (K + 2) (twoW wr b (q + i * 3) ⟨K, K + 1⟩) H5.out (by omega) (by omega)).mono ?_
      rintro e w2 ⟨rfl, ho2, hk2⟩
      have hq := town_round (i := i) HRU.out hlt hl1 hl3 HLR.out hk2 (by rw [HUI.out]; exact ho2)
      have HQ := Lib.hid hq
      clear ho2 hk2 hq
      go_wp2
      go_roundw
      case rel =>
        refine ⟨i + 1, by omega, by go_num, by have := HSO.out; have := HKK.out; go_num, HK.out.trans HQ.out.2, HQ.out.1.congr fun j hj => ?_⟩
        by_cases e : j = i
        · subst e
          simp only [if_true, Nat.lt_succ_self, tmkd, HKK.out, HUI.out]
        · rw [if_neg e, HU.out]
          have h2 : (j < i + 1) = (j < i) := by simp only [eq_iff_iff]; omega
          simp only [h2]
      case measure => simp [intOf]; omega
    · go_wp2
      go_ret
      obtain rfl : i = N := by omega
      exact ⟨rfl, HR.out.congr fun j hj => by simp [hj], HK.out⟩
end Go.Proofs.Ytbhjmomphajnnaa

namespace Go.Proofs.Ytbhjmomphajnnaa
open Go.RowKit
set_option linter.unusedVariables false

def TV (w : World) (a : Option Addr) (N : Nat) (T : Nat → TN) : Prop := N = 0 ∨ ∃ b q, a = some ⟨b, q, none⟩ ∧ TSrc w b q N T

def TVO (w : World) (lo hi : Nat) (a : Option Addr) (N : Nat) (T : Nat → TN) : Prop := N = 0 ∨ ∃ b q, a = some ⟨b, q, none⟩ ∧ TOwn w lo hi b q N T

theorem TVO.src {w : World} {lo hi N : Nat} {a : Option Addr} {T : Nat → TN} (h : TVO w lo hi a N T) : TV w a N T := by
  rcases h with h0 | ⟨b, q, e, h⟩
  · exact .inl h0
  · exact .inr ⟨b, q, e, h.src⟩

theorem TV.below {w w' : World} {a : Option Addr} {N : Nat} {T : Nat → TN} (h : TV w a N T) (hb : Below w.heap.size w w') : TV w' a N T := by
  rcases h with h0 | ⟨b, q, e, h⟩
  · exact .inl h0
  · exact .inr ⟨b, q, e, h.below hb⟩

theorem TVO.below {w w' : World} {lo hi N : Nat} {a : Option Addr} {T : Nat → TN} (h : TVO w lo hi a N T) (hb : Below w.heap.size w w') : TVO w' lo hi a N T := by
  rcases h with h0 | ⟨b, q, e, h⟩
  · exact .inl h0
  · exact .inr ⟨b, q, e, h.below hb⟩

theorem TVO.keeps {w w' : World} {lo hi lo' hi' N : Nat} {a : Option Addr} {T : Nat → TN} (h : TVO w lo hi a N T) (hk : Keeps w w' lo' hi') (hd : hi ≤ lo' ∨ hi' ≤ lo) : TVO w' lo hi a N T := by
  rcases h with h0 | ⟨b, q, e, h⟩
  · exact .inl h0
  · exact .inr ⟨b, q, e, h.keeps hk hd⟩

theorem TVO.widen {w : World} {lo hi lo' hi' N : Nat} {a : Option Addr} {T : Nat → TN} (h : TVO w lo hi a N T) (h1 : lo' ≤ lo) (h2 : hi ≤ hi') : TVO w lo' hi' a N T := by
  rcases h with h0 | ⟨b, q, e, h⟩
  · exact .inl h0
  · exact .inr ⟨b, q, e, h.widen h1 h2⟩

theorem TV.drew {w : World} {a : Option Addr} {N : Nat} {T : Nat → TN} (h : TV w a N T) : TV w.drew a N T := h.below (Below.refl _ _).drew

theorem TV.alloc {w : World} {a : Option Addr} {N : Nat} {T : Nat → TN} (h : TV w a N T) (o : Obj) : TV (w.alloc o) a N T := h.below ((Below.refl _ _).alloc (Nat.le_refl _) o)

theorem TVO.drew {w : World} {lo hi N : Nat} {a : Option Addr} {T : Nat → TN} (h : TVO w lo hi a N T) : TVO w.drew lo hi a N T := h.below (Below.refl _ _).drew

theorem TVO.alloc {w : World} {lo hi N : Nat} {a : Option Addr} {T : Nat → TN} (h : TVO w lo hi a N T) (o : Obj) : TVO (w.alloc o) lo hi a N T := h.below ((Below.refl _ _).alloc (Nat.le_refl _) o)

theorem tv_get {w : World} {a : Option Addr} {N : Nat} {T : Nat → TN} (h : TV w a N T) {i : Nat} (hi : i < N) : ∃ b q, a = some ⟨b, q, none⟩ ∧ b < w.heap.size ∧ ThrG w b (q + i * 3) (T i) ∧ PV w (T i).a (T i).n (T i).S := by
  rcases h with h0 | ⟨b, q, ha, hg⟩
  · omega
  · exact ⟨b, q, ha, hg.lt, hg.thr i hi, hg.slo i hi⟩

/-- Two tenants that are the same. -/
def TnSame (t u : TN) : Prop := t.q = u.q ∧ t.h = u.h ∧ t.n = u.n ∧ ∀ i, i < t.n → t.S i = u.S i

set_option maxRecDepth 100000 in
set_option maxHeartbeats 800000 in
theorem eqTen_same (t u : TN) (w : World) (he : TnSame t u) (s1 : PV w t.a t.n t.S) (s2 : PV w u.a u.n u.S) (hn : t.n ≤ 1048576) :
    Calls Try.prog 182 #[.agg #[.int .i64 t.q, .int .i64 t.h, .slice t.a t.n t.c], .agg #[.int .i64 u.q, .int .i64 u.h, .slice u.a u.n u.c]] w (RetBool w true) := by
  obtain ⟨e1, e2, e3, e4⟩ := he
  rw [← e3] at s2
  rw [← e1, ← e2, ← e3]
  have S1 := Lib.hid s1; have S2 := Lib.hid s2; have E4 := Lib.hid e4
  clear s1 s2 e1 e2 e3 e4
  go_enter Try.func182, Try.ntmps182
  go_wp2_with fail
  refine (eqHeapSlotS_same _ _ _ _ _ t.S u.S _ ((S1.out.alloc _).alloc _) ((S2.out.alloc _).alloc _) E4.out hn).mono ?_
  rintro e w2 ⟨rfl, hb⟩
  have HB2 := Lib.hid (thru2 (Below.refl _ _) hb)
  clear hb
  go_wp2
  go_ret
  exact ⟨rfl, HB2.out⟩

theorem thrsG {w : World} {g1 g2 q1 q2 i : Nat} {t u : TN} (h1 : ThrG w g1 (q1 + i * 3) t) (h2 : ThrG w g2 (q2 + i * 3) u) : w.cell? ⟨g1, q1 + i * 3, none⟩ = some (.int .i64 t.q) ∧ w.cell? ⟨g1, q1 + i * 3 + 1, none⟩ = some (.int .i64 t.h) ∧ w.cell? ⟨g1, q1 + i * 3 + 2, none⟩ = some (.slice t.a t.n t.c) ∧ w.cell? ⟨g2, q2 + i * 3, none⟩ = some (.int .i64 u.q) ∧ w.cell? ⟨g2, q2 + i * 3 + 1, none⟩ = some (.int .i64 u.h) ∧ w.cell? ⟨g2, q2 + i * 3 + 2, none⟩ = some (.slice u.a u.n u.c) :=
  ⟨h1.1, h1.2.1, h1.2.2, h2.1, h2.2.1, h2.2.2⟩

set_option maxRecDepth 100000 in
set_option maxHeartbeats 1600000 in
theorem eqTV_same (a1 a2 : Option Addr) (N k1 k2 : Nat) (T U : Nat → TN) (w : World) (h1 : TV w a1 N T) (h2 : TV w a2 N U) (he : ∀ i, i < N → TnSame (T i) (U i)) (hN : N ≤ 1048576) (hn : ∀ i, i < N → (T i).n ≤ 1048576) :
    Calls Try.prog 127 #[.slice a1 N k1, .slice a2 N k2] w (RetBool w true) := by
  have H1 := Lib.hid h1; have H2 := Lib.hid h2; have HE := Lib.hid he; have HN := Lib.hid hn
  clear h1 h2 he hn
  go_enter Try.func127, Try.ntmps127
  go_wp2
  go_loopw [5] (fun p wr => ∃ i : Nat, i ≤ N ∧ p = .int .i64 (i : Int) ∧ Hid (Below w.heap.size w wr)) (fun p _ => N - (intOf p).toNat)
  case atStart => exact ⟨0, Nat.zero_le _, rfl, Below.refl _ _⟩
  case round =>
    obtain ⟨i, hi, rfl, HBr⟩ := hrel
    by_cases hlt : i < N
    · have hlt' : (i : Int) < (N : Int) := by omega
      have hi0 : (0 : Int) ≤ (i : Int) := by omega
      obtain ⟨g1, q1, e1, l1', x1, s1⟩ := tv_get (H1.out.below HBr.out) hlt
      obtain ⟨g2, q2, e2, l2', x2, s2⟩ := tv_get (H2.out.below HBr.out) hlt
      subst e1 e2
      have X1 := Lib.hid x1; have Y1 := Lib.hid x2
      have S1 := Lib.hid s1; have S2 := Lib.hid s2
      have hes := HE.out i hlt
      have hns := HN.out i hlt
      have hzr := HBr.out.size
      clear x1 x2 s1 s2
      generalize T i = t at *
      generalize U i = u at *
      have HES := Lib.hid hes
      clear hes
      have Xd := Lib.hid (X1.out.below (Below.refl _ _).drew l1'); have Yd := Lib.hid (Y1.out.below (Below.refl _ _).drew l2')
      go_wp2_with fail
      go_region_held3 (fun w' => w'.cell? ⟨g1, q1 + i * 3, none⟩ = some (.int .i64 t.q) ∧ w'.cell? ⟨g1, q1 + i * 3 + 1, none⟩ = some (.int .i64 t.h) ∧ w'.cell? ⟨g1, q1 + i * 3 + 2, none⟩ = some (.slice t.a t.n t.c) ∧ w'.cell? ⟨g2, q2 + i * 3, none⟩ = some (.int .i64 u.q) ∧ w'.cell? ⟨g2, q2 + i * 3 + 1, none⟩ = some (.int .i64 u.h) ∧ w'.cell? ⟨g2, q2 + i * 3 + 2, none⟩ = some (.slice u.a u.n u.c))
        (first | (with_reducible exact thrsG X1.out Y1.out) | (with_reducible exact thrsG Xd.out Yd.out) | (with_reducible exact thrsG X2.out Y2.out))
        (first | (go_at_call 182; refine (eqTen_same t u _ HES.out (S1.out.below (Below.refl _ _).drew) (S2.out.below (Below.refl _ _).drew) hns).mono ?_; rintro e w2 ⟨rfl, hb⟩; have HB2 := Lib.hid (thru0 (Below.refl wr.heap.size wr).drew hb); have X2 := Lib.hid (X1.out.below HB2.out l1'); have Y2 := Lib.hid (Y1.out.below HB2.out l2'); clear hb))
      have HB3 := Lib.hid (HBr.out.trans (HB2.out.mono hzr))
      go_wp2
      go_roundw
      case rel => exact ⟨i + 1, by omega, by go_num, HB3⟩
      case measure => simp [intOf]; omega
    · go_wp2
      go_ret
      exact ⟨rfl, HBr.out⟩

/-- A row is marked. -/
def TRetMarkV (W : World) (lo hi : Nat) (a : Option Addr) (N : Nat) (T : Nat → TN) (k : Int) (e : Ending) (w' : World) : Prop :=
  e = .returned (.int .i64 (k + (toff T N : Int))) ∧ TVO w' lo hi a N (tmkd T k) ∧ Keeps W w' lo hi

set_option maxRecDepth 100000 in
set_option maxHeartbeats 400000 in
theorem markTV_any (lo hi N c : Nat) (a : Option Addr) (T : Nat → TN) (k : Int) (w : World) (hs : TVO w lo hi a N T) (hk0 : 0 ≤ k) (hk1 : k + (toff T N : Int) ≤ 1048576) :
    Calls Try.prog 176 #[.slice a N c, .int .i64 k] w (TRetMarkV w lo hi a N T k) := by
  rcases Nat.eq_zero_or_pos N with rfl | hp
  · clear hs
    simp only [toff] at hk1
    go_enter Try.func176, Try.ntmps176
    go_wp2
    go_loop [1, 5] (fun u p => u = .int .i64 k ∧ p = .int .i64 0) (fun _ _ => 0)
    case atStart => exact ⟨rfl, rfl⟩
    case round =>
      obtain ⟨rfl, rfl⟩ := hrel
      go_wp2
      go_ret
      exact ⟨by simp [toff], .inl rfl, Keeps.refl _ _ _⟩
  · rcases hs with h0 | ⟨b, q, rfl, h⟩
    · omega
    · refine (markTenS_any lo hi b q N c T k w h hk0 hk1).mono ?_
      rintro e w' ⟨rfl, h1, h2⟩
      exact ⟨rfl, .inr ⟨b, q, rfl, h1⟩, h2⟩

set_option maxRecDepth 100000 in
set_option maxHeartbeats 400000 in
theorem heldTV_any (N c : Nat) (a : Option Addr) (T : Nat → TN) (k : Int) (w : World) (hs : TV w a N (tmkd T k)) (hk0 : 0 ≤ k) (hk1 : k + (toff T N : Int) ≤ 1048576) :
    Calls Try.prog 178 #[.slice a N c, .int .i64 k] w fun e w' => e = .returned (.int .i64 (k + (toff T N : Int))) ∧ w = w' := by
  rcases Nat.eq_zero_or_pos N with rfl | hp
  · clear hs
    simp only [toff] at hk1
    go_enter Try.func178, Try.ntmps178
    go_wp2
    go_loop [1, 5] (fun u p => u = .int .i64 k ∧ p = .int .i64 0) (fun _ _ => 0)
    case atStart => exact ⟨rfl, rfl⟩
    case round =>
      obtain ⟨rfl, rfl⟩ := hrel
      go_wp2
      go_ret
      exact ⟨by simp [toff], rfl⟩
  · rcases hs with h0 | ⟨b, q, rfl, h⟩
    · omega
    · exact heldTenS_any b q N c T k w h hk0 hk1
end Go.Proofs.Ytbhjmomphajnnaa

namespace Go.Proofs.Ytbhjmomphajnnaa
open Go.RowKit
set_option linter.unusedVariables false

def tz : TN := ⟨0, 0, none, 0, 0, fun _ => ⟨0, 0⟩⟩

theorem Try.infoTN : (Try.prog.info? 191).map (fun i => (i.zero, i.size, i.bytes)) = some (some (.agg #[.int .i64 0, .int .i64 0, .slice none 0 0]), 3, 40) := by kernel_rfl

theorem Try.underlyingRTN : Try.prog.underlying 81 = some (.slice 191) := by kernel_rfl
end Go.Proofs.Ytbhjmomphajnnaa

namespace Go.Proofs.Ytbhjmomphajnnaa
open Go.RowKit
set_option linter.unusedVariables false

set_option maxRecDepth 100000 in
set_option maxHeartbeats 800000 in
theorem eqHeap_same (h ac bu : Int) (a a' : Option Addr) (n c c' : Nat) (f g : Nat → Int) (ta ta' : Option Addr) (N tc tc' : Nat) (T U : Nat → TN) (w : World) (s1 : Src w a n f) (s2 : Src w a' n g) (t1 : TV w ta N T) (t2 : TV w ta' N U) (he : ∀ i, i < n → f i = g i) (hs : ∀ i, i < N → TnSame (T i) (U i)) (hn : n ≤ 1048576) (hN : N ≤ 1048576) (hm : ∀ i, i < N → (T i).n ≤ 1048576) :
    Calls Try.prog 55 #[.agg #[.int .i64 h, .slice a n c, .int .i64 ac, .int .i64 bu, .slice ta N tc], .agg #[.int .i64 h, .slice a' n c', .int .i64 ac, .int .i64 bu, .slice ta' N tc']] w (RetBool w true) := by
  have S1 := Lib.hid s1; have S2 := Lib.hid s2; have T1 := Lib.hid t1; have T2 := Lib.hid t2; have HE := Lib.hid he; have HS := Lib.hid hs; have HM := Lib.hid hm
  have HB0 := Lib.hid (((Below.refl w.heap.size w).alloc (Nat.le_refl _) (.cells #[.int .i64 h, .slice a n c, .int .i64 ac, .int .i64 bu, .slice ta N tc] 83)).alloc (by simp) (.cells #[.int .i64 h, .slice a' n c', .int .i64 ac, .int .i64 bu, .slice ta' N tc'] 83))
  have A_0 := Lib.hid ((Blk.new_at (w := w) (cs := #[.int .i64 h, .slice a n c, .int .i64 ac, .int .i64 bu, .slice ta N tc]) (t := 83) w.heap.size rfl).alloc (.cells #[.int .i64 h, .slice a' n c', .int .i64 ac, .int .i64 bu, .slice ta' N tc'] 83))
  have A_1 := Lib.hid (Blk.new_at (w := w.alloc (.cells #[.int .i64 h, .slice a n c, .int .i64 ac, .int .i64 bu, .slice ta N tc] 83)) (cs := #[.int .i64 h, .slice a' n c', .int .i64 ac, .int .i64 bu, .slice ta' N tc']) (t := 83) (w.heap.size + 1) (by simp))
  clear s1 s2 t1 t2 he hs hm
  go_enter Try.func55, Try.ntmps55
  go_wp2_with fail
  refine (eqArena_same h ac bu a a' n c c' f g _ ((S1.out.alloc _).alloc _) ((S2.out.alloc _).alloc _) hn HE.out).mono ?_
  rintro e w1 ⟨rfl, hb⟩
  have HB1 := Lib.hid (HB0.out.trans (hb.mono HB0.out.size))
  have B_0 := Lib.hid (A_0.out.below hb); have B_1 := Lib.hid (A_1.out.below hb)
  clear hb A_0 A_1
  have c0 := B_0.out.at 4 rfl; have c1 := B_1.out.at 4 rfl; have l0 := B_0.out.1; have l1 := B_1.out.1
  go_wp2_with fail
  refine (eqTV_same ta ta' N tc tc' T U _ (T1.out.below HB1.out) (T2.out.below HB1.out) HS.out hN HM.out).mono ?_
  rintro e w2 ⟨rfl, hb⟩
  have HB2 := Lib.hid (thru0 HB1.out hb)
  clear hb
  go_wp2
  go_ret
  exact ⟨rfl, HB2.out⟩
end Go.Proofs.Ytbhjmomphajnnaa

namespace Go.Proofs.Ytbhjmomphajnnaa
open Go.RowKit
set_option linter.unusedVariables false

def tcells (t : TN) : List Value := [.int .i64 t.q, .int .i64 t.h, .slice t.a t.n t.c]

def rowTn (M : List TN) : List Value := M.flatMap tcells

theorem rowTn_snoc (M : List TN) (t : TN) : rowTn (M ++ [t]) = rowTn M ++ tcells t := by simp [rowTn]

theorem rowTn_get : ∀ (M : List TN) (i : Nat) (t : TN), M[i]? = some t → ∀ j, j < 3 → (rowTn M)[i * 3 + j]? = (tcells t)[j]?
  | [], i, t, h, j, hj => by simp at h
  | u :: M, 0, t, h, j, hj => by
    simp only [List.getElem?_cons_zero, Option.some.injEq] at h
    subst h
    simp only [rowTn, List.flatMap_cons, Nat.zero_mul, Nat.zero_add]
    rw [List.getElem?_append_left (by simp [tcells]; omega)]
  | u :: M, i + 1, t, h, j, hj => by
    have ih := rowTn_get M i t (by simpa using h) j hj
    simp only [rowTn, List.flatMap_cons] at ih ⊢
    rw [List.getElem?_append_right (by simp [tcells]; omega)]
    have e : (i + 1) * 3 + j - (tcells u).length = i * 3 + j := by simp [tcells]; omega
    rw [e]; exact ih

theorem tn_one (t : TN) : ∀ u ∈ tcells t, u.oneCell' = true := by
  intro u hu
  simp [tcells] at hu
  rcases hu with rfl | rfl | rfl <;> rfl

theorem cells_new3 (w : World) (t : TN) : ∀ j u, (tcells t)[j]? = some u → (w.alloc (.cells #[.int .i64 t.q, .int .i64 t.h, .slice t.a t.n t.c] 191)).cell? ((⟨w.heap.size, 0, none⟩ : Addr).add j) = some u := fun j u h => by
  have := ((Blk.new w #[.int .i64 t.q, .int .i64 t.h, .slice t.a t.n t.c] 191).2 j u h).1
  cases j with
  | zero => exact this
  | succ j => simpa [Addr.add] using this

/-- Each tenant's slots are a row of its own, later ones in later blocks. -/
def FldT (w : World) (lo : Nat) (v : Value) (M : List TN) : Prop :=
  (∀ t ∈ M, t.n = 0 ∨ (lo ≤ t.g ∧ t.g < w.heap.size ∧ some t.g ≠ v.ownBlock ∧ ∃ q, t.a = some ⟨t.g, q, none⟩ ∧ ∀ k, k < t.n → TwoG w t.g (q + k * 2) (t.S k) ∧ TwoF w t.g (q + k * 2))) ∧ M.Pairwise (fun t u => t.n = 0 ∨ u.n = 0 ∨ t.g < u.g)

theorem FldT.block {w w' : World} {lo : Nat} {v : Value} {M : List TN} (h : FldT w lo v M) (hz : w.heap.size ≤ w'.heap.size) (hb : ∀ b, lo ≤ b → b < w.heap.size → some b ≠ v.ownBlock → w'.heap[b]? = w.heap[b]?) : FldT w' lo v M :=
  ⟨fun t ht => by
    rcases h.1 t ht with h0 | ⟨h1, h2, h3, q, h4, h5⟩
    · exact .inl h0
    · have e := hb t.g h1 h2 h3
      exact .inr ⟨h1, Nat.lt_of_lt_of_le h2 hz, h3, q, h4, fun k hk => ⟨(h5 k hk).1.block e, (h5 k hk).2.block e⟩⟩, h.2⟩

theorem FldT.below {w w' : World} {lo : Nat} {v : Value} {M : List TN} (h : FldT w lo v M) (hb : Below w.heap.size w w') : FldT w' lo v M := h.block hb.size fun b _ h2 _ => hb.block b h2

theorem FldT.snoc {w0 w1 w2 : World} {lo : Nat} {v v' : Value} {M : List TN} (t : TN) (h : FldT w0 lo v M) (h01 : Below w0.heap.size w0 w1) (hg : w1.grownBy w2 v.ownBlock)
    (hat : v'.ownBlock = v.ownBlock ∨ ∃ g, v'.ownBlock = some g ∧ w1.heap.size ≤ g) (hlo : lo ≤ w0.heap.size) (hv : ∀ k, v.ownBlock = some k → k < w0.heap.size) (ho : PVO w1 w0.heap.size w1.heap.size t.a t.n t.S) : FldT w2 lo v' (M ++ [t]) := by
  refine ⟨fun u hu => ?_, ?_⟩
  · rcases List.mem_append.mp hu with hu | hu
    · rcases h.1 u hu with h0 | ⟨h1, h2, h3, q, h4, h5⟩
      · exact .inl h0
      · have e := (hg.block u.g (Nat.lt_of_lt_of_le h2 h01.size) h3).trans (h01.block u.g h2)
        refine .inr ⟨h1, Nat.lt_of_lt_of_le (Nat.lt_of_lt_of_le h2 h01.size) hg.size, ?_, q, h4, fun k hk => ⟨(h5 k hk).1.block e, (h5 k hk).2.block e⟩⟩
        rcases hat with hat | ⟨g, hat, hgl⟩
        · rw [hat]; exact h3
        · rw [hat]; intro he; simp only [Option.some.injEq] at he; have := h01.size; omega
    · simp only [List.mem_singleton] at hu
      subst hu
      rcases ho with h0 | ⟨b, off, he, hp⟩
      · exact .inl h0
      · have hgb : u.g = b := by simp [TN.g, he]
        have h1 := hp.glo
        have hne : some b ≠ v.ownBlock := fun hx => by have := hv b hx.symm; omega
        have e := hg.block b hp.lt hne
        refine .inr ⟨by omega, by rw [hgb]; exact Nat.lt_of_lt_of_le hp.lt hg.size, ?_, off, by rw [hgb]; exact he, fun k hk => ?_⟩
        · rw [hgb]
          rcases hat with hat | ⟨g, hat, hgl⟩
          · rw [hat]; exact hne
          · rw [hat]; intro hx; simp only [Option.some.injEq] at hx; have := hp.lt; omega
        · rw [hgb]
          exact ⟨(hp.two k hk).block e, (hp.free k hk).block e⟩
  · rw [List.pairwise_append]
    refine ⟨h.2, by simp, fun u hu x hx => ?_⟩
    simp only [List.mem_singleton] at hx
    subst hx
    rcases h.1 u hu with h0 | ⟨_, h2, _⟩
    · exact .inl h0
    · rcases ho with h0 | ⟨b, off, he, hp⟩
      · exact .inr (.inl h0)
      · have hgb : x.g = b := by simp [TN.g, he]
        have := hp.glo
        exact .inr (.inr (by omega))

def tT (M : List TN) (i : Nat) : TN := M[i]?.getD tz

theorem tT_at {M : List TN} {i : Nat} {t : TN} (h : M[i]? = some t) : tT M i = t := by simp [tT, h]

theorem rowTn_TVO {w : World} {base lo : Nat} {v : Value} {M : List TN} (h : w.ownsRow base 191 3 v M.length (rowTn M)) (hf : FldT w lo v M) (hl : lo ≤ base) : ∃ a c, v = .slice a M.length c ∧ TVO w lo w.heap.size a M.length (tT M) := by
  rcases Nat.eq_zero_or_pos M.length with h0 | hp
  · rcases h.2 with ⟨h1, h2⟩ | ⟨g, cap, cur, h1, _⟩
    · exact ⟨none, 0, by rw [h1, h2], .inl h0⟩
    · exact ⟨_, cap, h1, .inl h0⟩
  · obtain ⟨gb, cap, rfl, hb, hlt⟩ := h.form hp
    refine ⟨_, cap, rfl, .inr ⟨gb, 0, rfl, ?_⟩⟩
    have hfr : ∀ k, k < M.length * 3 → w.frozen? ⟨gb, k, none⟩ = false := fun k hk => by
      have := h.frozenAt k
      simpa using this
    have hce : ∀ i t, M[i]? = some t → ∀ j u, (tcells t)[j]? = some u → w.cell? ⟨gb, i * 3 + j, none⟩ = some u := fun i t ht j u hu => by
      have hi : i < M.length := (List.getElem?_eq_some_iff.mp ht).1
      have hj : j < 3 := by
        have := (List.getElem?_eq_some_iff.mp hu).1
        simpa [tcells] using this
      have hc := h.cellAt (i * 3 + j) (by omega)
      rw [rowTn_get M i t ht j hj, hu] at hc
      simpa using hc
    refine ⟨by omega, hlt, hlt, fun i hi => ?_, fun i hi => ?_, fun i hi => ?_, fun i hi => ?_, fun i j hi hj hij => ?_⟩
    · have ht := List.getElem?_eq_getElem hi
      rw [tT_at ht, Nat.zero_add]
      exact ⟨hce i _ ht 0 _ rfl, hce i _ ht 1 _ rfl, hce i _ ht 2 _ rfl⟩
    · rw [Nat.zero_add]
      exact ⟨hfr _ (by omega), hfr _ (by omega), hfr _ (by omega)⟩
    · have ht := List.getElem?_eq_getElem hi
      rw [tT_at ht]
      rcases hf.1 M[i] (List.getElem_mem hi) with h0 | ⟨h1, h2, _, q, h4, h5⟩
      · exact .inl h0
      · exact .inr ⟨_, q, h4, ⟨h1, h2, h2, fun k hk => (h5 k hk).1, fun k hk => (h5 k hk).2⟩⟩
    · have ht := List.getElem?_eq_getElem hi
      rw [tT_at ht]
      rcases hf.1 M[i] (List.getElem_mem hi) with h0 | ⟨_, _, h3, _⟩
      · exact .inl h0
      · right
        intro he
        exact h3 (by rw [he]; rfl)
    · have hp := List.pairwise_iff_getElem.mp hf.2
      rw [tT_at (List.getElem?_eq_getElem hi), tT_at (List.getElem?_eq_getElem hj)]
      rcases Nat.lt_or_ge i j with hlt' | hge
      · rcases hp i j hi hj hlt' with h0 | h0 | h0
        · exact .inl h0
        · exact .inr (.inl h0)
        · exact .inr (.inr (by omega))
      · rcases hp j i hj hi (by omega) with h0 | h0 | h0
        · exact .inr (.inl h0)
        · exact .inl h0
        · exact .inr (.inr (by omega))
end Go.Proofs.Ytbhjmomphajnnaa

namespace Go.Proofs.Ytbhjmomphajnnaa
open Go.RowKit
set_option linter.unusedVariables false

/-- The load of the tenants that are there (a name of its own: the walk looks at it when its turn comes). -/
def opN : Oper := { dst := some 21, op := .load 81 (.tmp 20), type := 81, pos := "l07_heap.go:41", after := #[{ on := 0, ground := .data }], guard := none }

/-- The same in the program. -/
def opM : Oper := { dst := some 27, op := .load 81 (.tmp 26), type := 81, pos := "l07_heap.go:298", after := #[{ on := 0, ground := .data }], guard := none }

theorem cells_new3b (w : World) (t : TN) (b : Nat) (hb : w.heap.size = b) : ∀ j u, (tcells t)[j]? = some u → (w.alloc (.cells #[.int .i64 t.q, .int .i64 t.h, .slice t.a t.n t.c] 191)).cell? ((⟨b, 0, none⟩ : Addr).add j) = some u := by
  subst hb
  exact cells_new3 w t

theorem make_hs (n : Nat) (hn : n ≤ 1000) : ∀ w : World, (Instr.makeSlice 189 (.int .i64 (n : Int)) (.int .i64 (n : Int))).run Try.prog w = .ok (.slice (some ⟨w.heap.size, 0, none⟩) n n) (w.alloc (.cells (madeCells #[.int .i64 0, .int .i64 0] (n * 2)) 198)) := fun w => by
  obtain ⟨k0, kif, hk0, hk1, hk2⟩ := info_parts Try.infoHS
  have h := run_make (P := Try.prog) w 189 198 k0 (.agg #[.int .i64 0, .int .i64 0]) Try.underlyingRHS kif hk0 .i64 .i64 (n : Int) (n : Int) (by omega) (Int.le_refl _) (by rw [hk2]; omega) (by omega)
  simp only [Int.toNat_natCast, hk1] at h
  exact h

/-- A row of zero slots, made anew. -/
theorem made_PVO (w : World) (n : Nat) (hn : n ≤ 1000) (hp : 0 < n) : PVO (w.alloc (.cells (madeCells #[.int .i64 0, .int .i64 0] (n * 2)) 198)) w.heap.size (w.alloc (.cells (madeCells #[.int .i64 0, .int .i64 0] (n * 2)) 198)).heap.size (some ⟨w.heap.size, 0, none⟩) n zS :=
  .inr ⟨w.heap.size, 0, rfl, pown_madeHS (b := w.heap.size) (lo := w.heap.size) (World.ownsRow_lit w _ n (Nat.le_refl _) (by unfold maxLen; omega) (size_madeCells _ _)) (Nat.le_refl _) hp⟩
end Go.Proofs.Ytbhjmomphajnnaa

