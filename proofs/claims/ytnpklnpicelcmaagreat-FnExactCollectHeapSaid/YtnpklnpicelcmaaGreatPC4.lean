/- Texts merged: X2 to RP1. -/
import Derived.Test.YtnpklnpicelcmaaGreatPC3
import Derived.Laws.IdiomCopy
import Derived.Deep.RegionWith
import Derived.DeepKeys4
import Derived.WideKeyArgs2
import Derived.IntWalk
import Derived.Laws.MakeOwn
import Derived.Laws.EntriesVeiled
import Derived.Deep.MidRow
namespace Go.Proofs.YtnpklnpicelcmaaGreat
open Go.RowKit
set_option linter.unusedVariables false

/-- A head lies amid a block. -/
structure HdAt (w : World) (d q : Nat) (s m o h : Int) : Prop where
  lt : d < w.heap.size
  c0 : w.cell? ⟨d, q, none⟩ = some (.int .i64 s)
  c1 : w.cell? ⟨d, q + 1, none⟩ = some (.int .i64 m)
  c2 : w.cell? ⟨d, q + 2, none⟩ = some (.int .i64 o)
  c3 : w.cell? ⟨d, q + 3, none⟩ = some (.int .i64 h)

theorem HdAt.block {w w' : World} {d q : Nat} {s m o h : Int} (x : HdAt w d q s m o h) (e : w'.heap[d]? = w.heap[d]?) (z : w.heap.size ≤ w'.heap.size) : HdAt w' d q s m o h :=
  ⟨Nat.lt_of_lt_of_le x.lt z, (World.cell?_of_block (a := ⟨d, q, none⟩) e).trans x.c0, (World.cell?_of_block (a := ⟨d, q + 1, none⟩) e).trans x.c1, (World.cell?_of_block (a := ⟨d, q + 2, none⟩) e).trans x.c2, (World.cell?_of_block (a := ⟨d, q + 3, none⟩) e).trans x.c3⟩

theorem HdAt.below {w w' : World} {d q : Nat} {s m o h : Int} (x : HdAt w d q s m o h) (hb : Below w.heap.size w w') : HdAt w' d q s m o h := x.block (hb.block d x.lt) hb.size

theorem HdAt.drew {w : World} {d q : Nat} {s m o h : Int} (x : HdAt w d q s m o h) : HdAt w.drew d q s m o h := x.below (Below.refl _ _).drew

theorem HdAt.alloc {w : World} {d q : Nat} {s m o h : Int} (x : HdAt w d q s m o h) (ob : Obj) : HdAt (w.alloc ob) d q s m o h := x.below ((Below.refl _ _).alloc (Nat.le_refl _) ob)

theorem HdAt.other {w : World} {d q : Nat} {s m o h : Int} (x : HdAt w d q s m o h) {p : Addr} (hp : p.block ≠ d) (u : Value) : HdAt (w.setCell p u) d q s m o h := x.block (Below.heap_setCell w p u d (fun e => hp e.symm)) (by simp)

set_option maxRecDepth 100000 in
set_option maxHeartbeats 1600000 in
theorem l2Pack_at (d q : Nat) (s m o h : Int) (w : World) (hB : HdAt w d q s m o h) (hk : HOk s m o h) :
    Calls Tryz.prog 106 #[.pointer (some ⟨d, q, none⟩)] w fun e w' => e = .returned (.slice (some ⟨w.heap.size, 0, none⟩) 2 2) ∧ Blk w' w.heap.size [.int .i64 (1 + 2 * (s + 16 * (m + 4096 * o))), .int .i64 h] ∧ Below w.heap.size w w' := by
  obtain ⟨⟨q1, q2⟩, ⟨q3, q4⟩, ⟨q5, q6⟩, q7, q8⟩ := hk
  have q9 := P2_le q2
  have q4' : m ≤ 4095 := by omega
  have H1 := Lib.hid hB
  have H2 := Lib.hid hB.drew
  have lB := hB.lt
  clear hB q4 q9
  go_enter Tryz.func106, Tryz.ntmps106
  go_wp2
  go_region_held3 (fun w' => w'.cell? ⟨d, q, none⟩ = some (.int .i64 s) ∧ w'.cell? ⟨d, q + 1, none⟩ = some (.int .i64 m) ∧ w'.cell? ⟨d, q + 2, none⟩ = some (.int .i64 o) ∧ w'.cell? ⟨d, q + 3, none⟩ = some (.int .i64 h))
    (first | (with_reducible exact ⟨(H1.out).c0, (H1.out).c1, (H1.out).c2, (H1.out).c3⟩) | (with_reducible exact ⟨(H2.out).c0, (H2.out).c1, (H2.out).c2, (H2.out).c3⟩) | (with_reducible exact ⟨((H1.out.alloc _).drew).c0, ((H1.out.alloc _).drew).c1, ((H1.out.alloc _).drew).c2, ((H1.out.alloc _).drew).c3⟩))
    (fail)
  have hw : IntKind.i64.wrap (1 + IntKind.i64.wrap (2 * IntKind.i64.wrap (s + IntKind.i64.wrap (16 * IntKind.i64.wrap (m + IntKind.i64.wrap (4096 * o)))))) = (1 + 2 * (s + 16 * (m + 4096 * o))) := by
    rw [IntWalk.i64_in (4096 * o) (by omega), IntWalk.i64_in (m + 4096 * o) (by omega), IntWalk.i64_in (16 * (m + 4096 * o)) (by omega), IntWalk.i64_in (s + 16 * (m + 4096 * o)) (by omega), IntWalk.i64_in (2 * (s + 16 * (m + 4096 * o))) (by omega), IntWalk.i64_in _ (by omega)]
  rw [hw]
  clear hw
  go_wp2
  go_ret
  exact ⟨rfl, (Blk.new_at (w.heap.size) rfl).drew, ((Below.refl _ _).alloc (Nat.le_refl _) _).drew⟩

theorem ownIn_put {w : World} {lo hi g q n : Nat} {f : Nat → Int} (h : OwnIn w lo hi (some ⟨g, q, none⟩) n f) (k : Nat) (hk : k < n) (v : Int) : OwnIn (w.setCell ⟨g, q + k, none⟩ (.int .i64 v)) lo hi (some ⟨g, q, none⟩) n (upd f k v) := (h.stored k hk v).1

theorem ownIn_other {w : World} {lo hi g q n : Nat} {f : Nat → Int} (h : OwnIn w lo hi (some ⟨g, q, none⟩) n f) {p : Addr} (hp : p.block ≠ g) (u : Value) : OwnIn (w.setCell p u) lo hi (some ⟨g, q, none⟩) n f := by
  rcases h with h0 | ⟨b', o', he, h1, hb', hc'⟩
  · exact .inl h0
  · cases he
    refine .inr ⟨g, q, rfl, h1, by simpa using hb', fun i hi => ⟨?_, ?_⟩⟩
    · rw [World.cell?_setCell_other _ _ _ _ (fun e => hp (by rw [e]))]; exact (hc' i hi).1
    · rw [World.frozen?_setCell]; exact (hc' i hi).2

set_option maxRecDepth 100000 in
set_option maxHeartbeats 3200000 in
theorem l3Put_at (lo hi b d e0 g q P U K : Nat) (h ac s m o hh : Int) (n c : Nat) (f : Nat → Int) (w : World) (hBb : (lo ≤ b ∧ b < hi) ∧ (lo ≤ g ∧ g < hi) ∧ b ≠ g ∧ d ≠ b ∧ d ≠ g) (lhi : hi ≤ w.heap.size)
    (hB : Blk w b [.int .i64 h, .slice (some ⟨g, q, none⟩) n c, .int .i64 ac, .int .i64 (U : Int)]) (hD : HdAt w d e0 s m o hh) (ho : OwnIn w lo hi (some ⟨g, q, none⟩) n f)
    (h1 : 8 ≤ h) (h2 : h ≤ 200) (h3 : 0 ≤ ac) (h4 : ac ≤ 1) (hP : baseI ac h = (P : Int)) (hn : (n : Int) = 2 * h) (hKe : K = P + U) (hU : K + 2 ≤ n) (hk : HOk s m o hh) :
    Calls Tryz.prog 81 #[.pointer (some ⟨b, 0, none⟩), .pointer (some ⟨d, e0, none⟩)] w fun e w' => e = .returned (.int .i64 (K : Int)) ∧ Blk w' b [.int .i64 h, .slice (some ⟨g, q, none⟩) n c, .int .i64 ac, .int .i64 ((U : Int) + (s + 2))] ∧ OwnIn w' lo hi (some ⟨g, q, none⟩) n (upd (upd f K (1 + 2 * (s + 16 * (m + 4096 * o)))) (K + 1) hh) ∧ Keeps w w' lo hi := by
  have c0 := hB.at 0 rfl; have c1 := hB.at 1 rfl; have c2 := hB.at 2 rfl; have c3 := hB.at 3 rfl
  have l0 := hB.1; have ld := hD.lt
  have HB := Lib.hid hB; have HD := Lib.hid hD; have HO := Lib.hid ho; have HK := Lib.hid hk; have HN := Lib.hid hn; have HP := Lib.hid hP
  clear hB hD ho hk hn hP
  go_enter Tryz.func81, Tryz.ntmps81
  have HB2 := Lib.hid HB.out.drew
  go_wp2_with fail
  have hw : IntKind.i64.wrap ((P : Int) + (U : Int)) = (K : Int) := by have := HN.out; rw [IntWalk.i64_in _ (by omega)]; omega
  go_region_held3 (fun w' => w'.cell? ⟨b, 0, none⟩ = some (.int .i64 h) ∧ w'.cell? ⟨b, 1, none⟩ = some (.slice (some ⟨g, q, none⟩) n c) ∧ w'.cell? ⟨b, 2, none⟩ = some (.int .i64 ac) ∧ w'.cell? ⟨b, 3, none⟩ = some (.int .i64 (U : Int)))
    (first | (with_reducible exact ⟨(HB.out).at 0 rfl, (HB.out).at 1 rfl, (HB.out).at 2 rfl, (HB.out).at 3 rfl⟩) | (with_reducible exact ⟨(HB2.out).at 0 rfl, (HB2.out).at 1 rfl, (HB2.out).at 2 rfl, (HB2.out).at 3 rfl⟩) | (with_reducible exact ⟨(HB1.out).at 0 rfl, (HB1.out).at 1 rfl, (HB1.out).at 2 rfl, (HB1.out).at 3 rfl⟩))
    (first | (go_at_call 71; refine (l1Base_eq (P : Int) b h ac (U : Int) (some ⟨g, q, none⟩) n c _ HP.out HB2.out h1 h2 h3 h4).mono ?_; rintro e w1 ⟨rfl, hb⟩; have HB1 := Lib.hid (HB2.out.below hb); have HD1 := Lib.hid (HD.out.drew.below hb); have HO1 := Lib.hid (HO.out.drew.below hb); have HW1 := Lib.hid ((keeps_of_below (Below.refl _ w).drew lo hi).trans (keeps_of_below hb lo hi)); clear hb))
  clear HB HB2 HD HO
  rw [show (P : Int) + (U : Int) = (K : Int) from by omega]
  clear hw
  have HKe := Lib.hid hKe
  clear hKe
  go_wp2_with fail
  refine (l2Pack_at d e0 s m o hh _ HD1.out HK.out).mono ?_
  rintro e w2 ⟨rfl, hw2, hb⟩
  have z1 : w.heap.size ≤ w1.heap.size := HW1.out.size
  have z2 : w1.heap.size ≤ w2.heap.size := hb.size
  have HB2 := Lib.hid (HB1.out.below hb); have HD2 := Lib.hid (HD1.out.below hb); have HO2 := Lib.hid (HO1.out.below hb); have HW2 := Lib.hid (HW1.out.trans (keeps_of_below hb lo hi)); have HV2 := Lib.hid hw2
  clear HB1 HD1 HO1 HW1 hw2 hb
  have z0 : hi ≤ w2.heap.size := by omega
  have b0 := HB2.out.at 0 rfl; have b1 := HB2.out.at 1 rfl; have b3 := HB2.out.at 3 rfl; have b3f := HB2.out.free 3 rfl; have v0 := HV2.out.at 0 rfl; have v1 := HV2.out.at 1 rfl
  obtain ⟨lg, hg⟩ := own_get HO2.out.out (by omega)
  have g0 := (hg K (by omega)).1; have g0f := (hg K (by omega)).2; have g1 := (hg (K + 1) (by omega)).1; have g1f := (hg (K + 1) (by omega)).2
  clear hg
  have lv := HV2.out.1; have lb2 := HB2.out.1
  clear c0 c1 c2 c3 l0 ld
  have hPU : K + 2 ≤ 400 := by have := HN.out; omega
  have hK0 : (0 : Int) ≤ (K : Int) := by omega
  have hPn : (K : Int) < (n : Int) := by omega
  have hPn1 : (K : Int) + 1 < (n : Int) := by omega
  go_wp2
  have HBd := Lib.hid HB2.out.drew; have HVd := Lib.hid HV2.out.drew; have HDd := Lib.hid HD2.out.drew
  have hgb : g ≠ b := fun e => hBb.2.2.1 e.symm
  have hgd : g ≠ d := fun e => hBb.2.2.2.2 e.symm
  have hgv : g ≠ w1.heap.size := by omega
  go_region_held3 (fun w' => w'.cell? ⟨b, 1, none⟩ = some (.slice (some ⟨g, q, none⟩) n c) ∧ w'.cell? ⟨w1.heap.size, 0, none⟩ = some (.int .i64 (1 + 2 * (s + 16 * (m + 4096 * o)))))
    (first | (with_reducible exact ⟨HB2.out.at 1 rfl, HV2.out.at 0 rfl⟩) | (with_reducible exact ⟨HBd.out.at 1 rfl, HVd.out.at 0 rfl⟩) | (with_reducible exact ⟨(HBd.out.other (p := ⟨g, q + K, none⟩) hgb _).at 1 rfl, (HVd.out.other (p := ⟨g, q + K, none⟩) hgv _).at 0 rfl⟩) | (with_reducible exact ⟨((HB2.out.other (p := ⟨g, q + K, none⟩) hgb _).drew).at 1 rfl, ((HV2.out.other (p := ⟨g, q + K, none⟩) hgv _).drew).at 0 rfl⟩))
    (fail)
  have kd : ∀ w : World, Keeps w w.drew lo hi := fun w => keeps_of_below (Below.refl _ w).drew lo hi
  have HB3 := Lib.hid (HB2.out.other (p := ⟨g, q + K, none⟩) hgb (.int .i64 (1 + 2 * (s + 16 * (m + 4096 * o))))).drew
  have HD3 := Lib.hid (HD2.out.other (p := ⟨g, q + K, none⟩) hgd (.int .i64 (1 + 2 * (s + 16 * (m + 4096 * o))))).drew
  have HV3 := Lib.hid (HV2.out.other (p := ⟨g, q + K, none⟩) hgv (.int .i64 (1 + 2 * (s + 16 * (m + 4096 * o))))).drew
  have HO3 := Lib.hid (ownIn_put HO2.out K (by omega) (1 + 2 * (s + 16 * (m + 4096 * o)))).drew
  have HW3 := Lib.hid ((HW2.out.trans (keeps_setCell (p := ⟨g, q + K, none⟩) hBb.2.1.1 hBb.2.1.2 (.int .i64 (1 + 2 * (s + 16 * (m + 4096 * o)))))).trans (kd _))
  have z3 : w2.heap.size ≤ (w2.setCell ⟨g, q + K, none⟩ (.int .i64 (1 + 2 * (s + 16 * (m + 4096 * o))))).drew.heap.size := by simp
  have KD := Lib.hid kd
  clear kd b0 b1 b3 b3f v0 v1 lg g0 g0f g1 g1f lv lb2 HBd HVd HDd HB2 HD2 HV2 HO2 HW2
  generalize (w2.setCell ⟨g, q + K, none⟩ (.int .i64 (1 + 2 * (s + 16 * (m + 4096 * o))))).drew = w3 at *
  have lb3 := HB3.out.1
  have b1 := HB3.out.at 1 rfl; have v1 := HV3.out.at 1 rfl; have lv := HV3.out.1
  obtain ⟨lg, hg⟩ := own_get HO3.out.out (by omega)
  have g1 := (hg (K + 1) (by omega)).1; have g1f := (hg (K + 1) (by omega)).2
  clear hg
  go_wp2
  have hw1 : IntKind.i64.wrap ((K : Int) + 1) = (K : Int) + 1 := IntWalk.i64_in _ (by omega)
  have hK1 : (0 : Int) ≤ (K : Int) + 1 := by omega
  have hK2 : ((K : Int) + 1).toNat = K + 1 := by omega
  have HBd := Lib.hid HB3.out.drew; have HVd := Lib.hid HV3.out.drew
  go_region_held3 (fun w' => w'.cell? ⟨b, 1, none⟩ = some (.slice (some ⟨g, q, none⟩) n c) ∧ w'.cell? ⟨w1.heap.size, 1, none⟩ = some (.int .i64 hh))
    (first | (with_reducible exact ⟨HB3.out.at 1 rfl, HV3.out.at 1 rfl⟩) | (with_reducible exact ⟨HBd.out.at 1 rfl, HVd.out.at 1 rfl⟩) | (with_reducible exact ⟨(HBd.out.other (p := ⟨g, q + (K + 1), none⟩) hgb _).at 1 rfl, (HVd.out.other (p := ⟨g, q + (K + 1), none⟩) hgv _).at 1 rfl⟩) | (with_reducible exact ⟨((HB3.out.other (p := ⟨g, q + (K + 1), none⟩) hgb _).drew).at 1 rfl, ((HV3.out.other (p := ⟨g, q + (K + 1), none⟩) hgv _).drew).at 1 rfl⟩))
    (fail)
  have HB4 := Lib.hid (HB3.out.other (p := ⟨g, q + (K + 1), none⟩) hgb (.int .i64 hh)).drew
  have HD4 := Lib.hid (HD3.out.other (p := ⟨g, q + (K + 1), none⟩) hgd (.int .i64 hh)).drew
  have HO4 := Lib.hid (ownIn_put HO3.out (K + 1) (by omega) hh).drew
  have HW4 := Lib.hid ((HW3.out.trans (keeps_setCell (p := ⟨g, q + (K + 1), none⟩) hBb.2.1.1 hBb.2.1.2 (.int .i64 hh))).trans (KD.out _))
  have z4 : w3.heap.size ≤ (w3.setCell ⟨g, q + (K + 1), none⟩ (.int .i64 hh)).drew.heap.size := by simp
  clear b1 v1 lv lg g1 g1f lb3 HBd HVd HB3 HD3 HV3 HO3 HW3
  generalize (w3.setCell ⟨g, q + (K + 1), none⟩ (.int .i64 hh)).drew = w4 at *
  have lb4 := HB4.out.1
  have b3 := HB4.out.at 3 rfl; have b3f := HB4.out.free 3 rfl
  have hs := HK.out.1
  go_wp2_with fail
  have HDx := Lib.hid HD4.out.drew
  have hU0 := HKe.out
  have hs2 := hs.1; have hs3 := hs.2
  have hHS := Lib.hid hs
  have hU1 : (U : Int) ≤ 400 := by omega
  clear hs hU0
  have hwU : IntKind.i64.wrap ((U : Int) + (s + 2)) = (U : Int) + (s + 2) := IntWalk.i64_in _ (by omega)
  go_region_law (first | (go_simp; go_at_call 73; refine (l2Words_at d e0 s _ HDx.out.c0 hHS.out).mono ?_; rintro e w' ⟨rfl, rfl⟩) | (go_at_call 73; refine (l2Words_at d e0 s _ HDx.out.c0 hHS.out).mono ?_; rintro e w' ⟨rfl, rfl⟩))
  all_goals (
    go_wp2
    go_ret
    exact ⟨rfl, (HB4.out.set 3 (by simp) _).drew, (ownIn_other HO4.out (p := ⟨b, 3, none⟩) hBb.2.2.1 _).drew, (HW4.out.trans (keeps_setCell (p := ⟨b, 3, none⟩) hBb.1.1 hBb.1.2 _)).trans (KD.out _)⟩)
end Go.Proofs.YtnpklnpicelcmaaGreat

namespace Go.Proofs.YtnpklnpicelcmaaGreat
open Go.RowKit Go.Maps
set_option linter.unusedVariables false

set_option maxRecDepth 100000 in
set_option maxHeartbeats 400000 in
theorem clone_opt (a : Option Addr) (n cap : Nat) (f : Nat → Int) (w : World) (hs : Src w a n f) (hn : n ≤ 1048576) :
    Calls Tryz.prog 57 #[.slice a n cap] w (RetInts w n f) := by
  cases a with
  | some ad => exact clone_all ad n cap f w hs hn
  | none =>
    have h0 : n = 0 := by
      rcases hs with h | ⟨b, off, h, _⟩
      · exact h
      · cases h
    subst h0
    have hnil := fun (w : World) (a : Option Addr) (n c : Nat) => Lib.run_eql_slice_nil (P := Tryz.prog) w 22 2 a n c 0 0 Tryz.underlying22
    clear hs
    go_enter Tryz.func57, Tryz.ntmps57
    go_wp2
    go_ret
    exact ⟨none, 0, rfl, .inl rfl, Below.refl _ _, Nat.le_refl _, by simp [maxLen], fun _ => ⟨rfl, rfl⟩⟩

theorem pto_any (p : Int) (w : World) (h : 0 ≤ p ∧ p ≤ 1000000) : Calls Tryz.prog 60 #[.int .i64 p] w (fun e w' => e = .returned (.int .i64 (p + 1)) ∧ w = w') := by
  obtain ⟨h1, h2⟩ := h
  go_enter Tryz.func60, Tryz.ntmps60
  go_wp2
  go_ret
  exact ⟨rfl, rfl⟩

/-- Where a field leads, once all stands where a table says. -/
def mvF (R : List Int) (v : Nat → Int) (t : GM) (k : Nat) : Int := if t.m / P2 (k : Int) % 2 = 1 ∧ ¬ t.f k = 0 then (tab R v (t.f k - 1)).getD 0 + 1 else t.f k

def mvT (R : List Int) (v : Nat → Int) (t : GM) : GM := ⟨(tab R v t.at_).getD 0, t.s, t.m, t.o, t.h, none, t.n, 0, mvF R v t⟩

def mvU (R : List Int) (v : Nat → Int) (t : GM) (i k : Nat) : Int := if k < i then mvF R v t k else t.f k

theorem mvU_step (R : List Int) (v : Nat → Int) (t : GM) (i : Nat) : ∀ k, upd (mvU R v t i) i (mvF R v t i) k = mvU R v t (i + 1) k := by
  intro k
  unfold upd mvU
  by_cases h : k = i
  · subst h; rw [if_pos rfl, if_pos (by omega)]
  · rw [if_neg h]
    by_cases h2 : k < i
    · rw [if_pos h2, if_pos (by omega)]
    · rw [if_neg h2, if_neg (by omega)]

theorem mvU_skip (R : List Int) (v : Nat → Int) (t : GM) (i : Nat) (h : mvF R v t i = t.f i) : ∀ k, mvU R v t i k = mvU R v t (i + 1) k := by
  intro k
  unfold mvU
  by_cases h1 : k < i
  · rw [if_pos h1, if_pos (by omega)]
  · rw [if_neg h1]
    by_cases h2 : k = i
    · subst h2; rw [if_pos (by omega), h]
    · rw [if_neg (by omega)]

theorem mvF_none {R : List Int} {v : Nat → Int} {t : GM} {k : Nat} (h : tgtV t k = none) : mvF R v t k = t.f k := by
  unfold tgtV at h
  unfold mvF
  by_cases h1 : t.m / P2 (k : Int) % 2 = 1 ∧ ¬ t.f k = 0
  · rw [if_pos h1] at h; cases h
  · rw [if_neg h1]

theorem mvF_some {R : List Int} {v : Nat → Int} {t : GM} {k : Nat} {p : Int} (h : tgtV t k = some p) : mvF R v t k = (tab R v p).getD 0 + 1 ∧ p = t.f k - 1 := by
  unfold tgtV at h
  unfold mvF
  by_cases h1 : t.m / P2 (k : Int) % 2 = 1 ∧ ¬ t.f k = 0
  · rw [if_pos h1] at h
    have := Option.some.inj h
    rw [if_pos h1, ← this]
    exact ⟨rfl, rfl⟩
  · rw [if_neg h1] at h; cases h

def RetMoved (W : World) (R : List Int) (v : Nat → Int) (t : GM) (e : Ending) (w' : World) : Prop :=
  ∃ a c, e = .returned (.agg #[.int .i64 ((tab R v t.at_).getD 0), .int .i64 t.s, .int .i64 t.m, .int .i64 t.o, .int .i64 t.h, .slice a t.n c]) ∧ Own w' W.heap.size a t.n (mvF R v t) ∧ Below W.heap.size W w'

set_option maxRecDepth 100000 in
set_option maxHeartbeats 3200000 in
theorem moved_any (t : GM) (mb nn : Nat) (R : List Int) (v : Nat → Int) (w : World) (hm : MapT w mb nn R v) (hs : Src w t.a t.n t.f) (hok : HOk t.s t.m t.o t.h) (htn : t.n = t.s.toNat) (hwd : ∀ k, k < t.n → -1000000000 ≤ t.f k ∧ t.f k ≤ 1000000000) (hat : -1000000000 ≤ t.at_ ∧ t.at_ ≤ 1000000000) (hpt : ∀ k p, k < t.n → tgtV t k = some p → 0 ≤ p ∧ p ≤ 1000000) (hv : ∀ p, 0 ≤ (tab R v p).getD 0 ∧ (tab R v p).getD 0 ≤ 1000000) :
    Calls Tryz.prog 97 #[.agg #[.int .i64 t.at_, .int .i64 t.s, .int .i64 t.m, .int .i64 t.o, .int .i64 t.h, .slice t.a t.n t.c], .map (some mb)] w (RetMoved w R v t) := by
  have hn12 : t.n ≤ 12 := by have := hok.1; omega
  have X0 := Lib.hid ((Blk.new_at (w := w) (cs := #[.int .i64 t.at_, .int .i64 t.s, .int .i64 t.m, .int .i64 t.o, .int .i64 t.h, .slice t.a t.n t.c]) (t := 102) w.heap.size rfl).alloc (.cells #[.int .i64 0, .int .i64 0, .int .i64 0, .int .i64 0, .int .i64 0, .slice none 0 0] 102))
  have Z0 := Lib.hid (Blk.new_at (w := w.alloc (.cells #[.int .i64 t.at_, .int .i64 t.s, .int .i64 t.m, .int .i64 t.o, .int .i64 t.h, .slice t.a t.n t.c] 102)) (cs := #[.int .i64 0, .int .i64 0, .int .i64 0, .int .i64 0, .int .i64 0, .slice none 0 0]) (t := 102) (w.heap.size + 1) (by simp))
  have HB0 := Lib.hid (((Below.refl w.heap.size w).alloc (Nat.le_refl _) (.cells #[.int .i64 t.at_, .int .i64 t.s, .int .i64 t.m, .int .i64 t.o, .int .i64 t.h, .slice t.a t.n t.c] 102)).alloc (by simp) (.cells #[.int .i64 0, .int .i64 0, .int .i64 0, .int .i64 0, .int .i64 0, .slice none 0 0] 102))
  have z0 : ((w.alloc (.cells #[.int .i64 t.at_, .int .i64 t.s, .int .i64 t.m, .int .i64 t.o, .int .i64 t.h, .slice t.a t.n t.c] 102)).alloc (.cells #[.int .i64 0, .int .i64 0, .int .i64 0, .int .i64 0, .int .i64 0, .slice none 0 0] 102)).heap.size = w.heap.size + 2 := by simp
  have HZ0 := Lib.hid z0
  have M0 := Lib.hid (hm.below HB0.out)
  have S0 := Lib.hid (hs.below HB0.out)
  have HOK := Lib.hid hok; have HTN := Lib.hid htn; have HWD := Lib.hid hwd; have HAT := Lib.hid hat; have HV := Lib.hid hv; have HPT := Lib.hid hpt
  have zl : w.heap.size + 2 ≤ ((w.alloc (.cells #[.int .i64 t.at_, .int .i64 t.s, .int .i64 t.m, .int .i64 t.o, .int .i64 t.h, .slice t.a t.n t.c] 102)).alloc (.cells #[.int .i64 0, .int .i64 0, .int .i64 0, .int .i64 0, .int .i64 0, .slice none 0 0] 102)).heap.size := by omega
  have lX := X0.out.1; have cX2 := X0.out.at 5 rfl
  clear hm hs hok htn hwd hat hv hpt z0
  go_enter Tryz.func97, Tryz.ntmps97
  go_wp2_with fail
  generalize (w.alloc (.cells #[.int .i64 t.at_, .int .i64 t.s, .int .i64 t.m, .int .i64 t.o, .int .i64 t.h, .slice t.a t.n t.c] 102)).alloc (.cells #[.int .i64 0, .int .i64 0, .int .i64 0, .int .i64 0, .int .i64 0, .slice none 0 0] 102) = w0 at *
  refine (clone_opt t.a t.n t.c t.f _ S0.out (by omega)).mono ?_
  rintro e w1 ⟨a5, c5, rfl, ho, hb, h51, h52, h53⟩
  have HB1 : Hid (Below w0.heap.size w0 w1) := Lib.hid hb
  have HO1 : Hid (Own w1 w0.heap.size a5 t.n (mvU R v t 0)) := Lib.hid (ho.congr (fun k hk => by unfold mvU; rw [if_neg (by omega)]))
  clear ho hb lX cX2 h51 h52 h53
  go_wp2
  go_loopw [14] (fun p wr => ∃ i : Nat, i ≤ t.n ∧ p = .int .i64 (i : Int) ∧ Hid (Below w0.heap.size w0 wr) ∧ Hid (Own wr w0.heap.size a5 t.n (mvU R v t i))) (fun p _ => t.n - (intOf p).toNat)
  case atStart => exact ⟨0, Nat.zero_le _, rfl, HB1, HO1⟩
  case round =>
    clear HB1 HO1
    obtain ⟨i, hi, rfl, HB, HO⟩ := hrel
    have hzr := HB.out.size
    have XR := Lib.hid (X0.out.below HB.out)
    by_cases hlt : i < t.n
    · have hlt' : (i : Int) < (t.n : Int) := by omega
      have hi0 : (0 : Int) ≤ (i : Int) := by omega
      have lX := XR.out.1; have cX0 := XR.out.at 0 rfl; have cX1 := XR.out.at 1 rfl; have cX2 := XR.out.at 2 rfl; have cX3 := XR.out.at 3 rfl; have cX4 := XR.out.at 4 rfl; have cX5 := XR.out.at 5 rfl
      go_wp2_with fail
      refine (target_any t i _ (S0.out.below HB.out) hlt HOK.out HTN.out (HWD.out i hlt)).mono ?_
      rintro e w2 ⟨hb, rfl⟩
      have HB2 := Lib.hid (HB.out.trans (hb.mono hzr))
      have HO2 := Lib.hid (HO.out.below hb)
      clear hb lX cX0 cX1 cX2 cX3 cX4 cX5
      cases ht : tgtV t i with
      | none =>
        have HS : Hid (∀ k, mvU R v t i k = mvU R v t (i + 1) k) := Lib.hid (mvU_skip R v t i (mvF_none ht))
        clear ht
        have HO3 := Lib.hid (HO2.out.congr (fun k _ => HS.out k))
        go_wp2
        go_roundw
        case rel => first | exact ⟨i + 1, by omega, by go_num, HB2, HO3⟩ | ((repeat apply Exists.intro); exact ⟨⟨i + 1, by omega, by go_num, HB2, HO3⟩, rfl⟩)
        case measure => simp [intOf]; omega
      | some p =>
        obtain ⟨hF, hp⟩ := mvF_some (R := R) (v := v) ht
        obtain ⟨hp0, hp1⟩ := HPT.out i p hlt ht
        obtain ⟨t1, t2⟩ := HV.out p
        have HLK := Lib.hid ((M0.out.below HB2.out).look (p := p) ⟨by omega, by omega⟩)
        obtain ⟨q, hq⟩ : ∃ q, (tab R v p).getD 0 = q := ⟨_, rfl⟩
        rw [hq] at HLK t1 t2 hF
        have HF := Lib.hid hF
        obtain ⟨g, o5, rfl, hgl, hgs, hgc⟩ : ∃ g o5, a5 = some ⟨g, o5, none⟩ ∧ w0.heap.size ≤ g ∧ g < w2.heap.size ∧ ∀ k, k < t.n → w2.cell? ⟨g, o5 + k, none⟩ = some (.int .i64 (mvU R v t i k)) ∧ w2.frozen? ⟨g, o5 + k, none⟩ = false := by
          rcases HO2.out with h0 | h0
          · omega
          · exact h0
        have d0 := (hgc i hlt).1; have d1 := (hgc i hlt).2
        have hlk := HLK.out
        clear hq hp ht hF hgc
        go_wp2_with fail
        refine (pto_any q _ ⟨t1, t2⟩).mono ?_
        rintro e w' ⟨rfl, rfl⟩
        go_wp2_with fail
        refine (word_ptr (q + 1) _).mono ?_
        rintro e w3 ⟨rfl, hb⟩
        have HB3 := Lib.hid (HB2.out.trans (hb.mono HB2.out.size))
        have HO3 := Lib.hid (HO2.out.below hb)
        have d2 := (hb.cell (p := ⟨g, o5 + i, none⟩) hgs).trans d0
        have d3 := (hb.frozen (p := ⟨g, o5 + i, none⟩) hgs).trans d1
        have hgs3 : g < w3.heap.size := by have := hb.size; omega
        clear hb d0 d1 hlk HLK hgs
        go_wp2
        have HB4 := Lib.hid (HB3.out.setCell (p := ⟨g, o5 + i, none⟩) hgl (.int .i64 (q + 1)))
        have HO4 : Hid (Own (w3.setCell ⟨g, o5 + i, none⟩ (.int .i64 (q + 1))) w0.heap.size (some ⟨g, o5, none⟩) t.n (mvU R v t (i + 1))) := Lib.hid ((own_put HO3.out i hlt (q + 1)).congr (fun k _ => by rw [← HF.out]; exact mvU_step R v t i k))
        clear d2 d3 HB3 HO3
        go_roundw
        case rel => first | exact ⟨i + 1, by omega, by go_num, HB4, HO4⟩ | ((repeat apply Exists.intro); exact ⟨⟨i + 1, by omega, by go_num, HB4, HO4⟩, rfl⟩)
        case measure => simp [intOf]; omega
    · have hlt' : ¬ (i : Int) < (t.n : Int) := by omega
      have ZR := Lib.hid (Z0.out.below HB.out)
      have HLK := Lib.hid ((M0.out.below HB.out).look (p := t.at_) HAT.out)
      have hlk := HLK.out
      have HE : Hid (∀ k, k < t.n → mvU R v t i k = mvF R v t k) := Lib.hid (fun k hk => by unfold mvU; rw [if_pos (by omega)])
      have lX := XR.out.1; have cX0 := XR.out.at 0 rfl; have cX1 := XR.out.at 1 rfl; have cX2 := XR.out.at 2 rfl; have cX3 := XR.out.at 3 rfl; have cX4 := XR.out.at 4 rfl
      have lZ := ZR.out.1; have cZ0 := ZR.out.at 0 rfl; have fZ0 := ZR.out.free 0 rfl; have cZ1 := ZR.out.at 1 rfl; have fZ1 := ZR.out.free 1 rfl; have cZ2 := ZR.out.at 2 rfl; have fZ2 := ZR.out.free 2 rfl; have cZ3 := ZR.out.at 3 rfl; have fZ3 := ZR.out.free 3 rfl; have cZ4 := ZR.out.at 4 rfl; have fZ4 := ZR.out.free 4 rfl; have cZ5 := ZR.out.at 5 rfl; have fZ5 := ZR.out.free 5 rfl
      go_wp2
      refine bodyPost_ret (v := .agg #[.int .i64 ((tab R v t.at_).getD 0), .int .i64 t.s, .int .i64 t.m, .int .i64 t.o, .int .i64 t.h, .slice a5 t.n c5]) (by simp [results, Tryz.results97, go_sem, cZ0, cZ1, cZ2, cZ3, cZ4, cZ5]) rfl ⟨a5, c5, rfl, ?_, ?_⟩
      · refine Own.mono (B := w0.heap.size) ?_ (by omega)
        repeat (first | (with_reducible refine Own.setCell ?_ (by (try simp); (try omega)) _) | (with_reducible refine Own.alloc ?_ _) | (with_reducible refine Own.drew ?_))
        exact HO.out.congr HE.out
      · repeat (first | (with_reducible refine Below.setCell ?_ (by (try simp); (try omega)) _) | (with_reducible refine Below.alloc ?_ (by (try simp); (try omega)) _) | (with_reducible refine Below.drew ?_))
        exact HB0.out.trans (HB.out.mono HB0.out.size)
end Go.Proofs.YtnpklnpicelcmaaGreat

namespace Go.Proofs.YtnpklnpicelcmaaGreat
open Go.RowKit Go.Maps
set_option linter.unusedVariables false

theorem src_grown {w w' : World} {row : Option Nat} {t : GM} (h : Src w t.a t.n t.f) (hg : w.grownBy w' row) (hne : t.n = 0 ∨ row ≠ some t.g) : Src w' t.a t.n t.f := by
  rcases h with h0 | ⟨b, off, e, lt, hc⟩
  · exact .inl h0
  · rcases hne with h0 | hne
    · exact .inl h0
    · have hgb : t.g = b := by unfold GM.g; rw [e]
      have hbl := hg.block b lt (fun e => hne (by rw [hgb, e]))
      have hz := hg.size
      exact .inr ⟨b, off, e, by omega, fun i hi => (World.cell?_of_block (a := ⟨b, off + i, none⟩) hbl).trans (hc i hi)⟩

theorem src_lt {w : World} {t : GM} (h : Src w t.a t.n t.f) : t.n = 0 ∨ t.g < w.heap.size := by
  rcases h with h0 | ⟨b, off, e, lt, hc⟩
  · exact .inl h0
  · right; unfold GM.g; rw [e]; exact lt

/-- A list of objects that stand where a table says, while it is made. -/
structure ML (w : World) (base : Nat) (u : Value) (M : List GM) (R : List Int) (v : Nat → Int) (T : Nat → GM) : Prop where
  row : w.ownsRow base 102 6 u M.length (rowG M)
  src : ∀ t ∈ M, Src w t.a t.n t.f ∧ (t.n = 0 ∨ u.ownBlock ≠ some t.g)
  far : ∀ t ∈ M, t.n = 0 ∨ base ≤ t.g
  same : ∀ i t, M[i]? = some t → GSame t (mvT R v (T i))

theorem ML.below {w w' : World} {base : Nat} {u : Value} {M : List GM} {R : List Int} {v : Nat → Int} {T : Nat → GM} (h : ML w base u M R v T) (hb : Below w.heap.size w w') : ML w' base u M R v T := ⟨ownsRow_below h.row hb, fun t ht => ⟨(h.src t ht).1.below hb, (h.src t ht).2⟩, h.far, h.same⟩

theorem ML.snoc {w w' : World} {base : Nat} {u u' : Value} {M : List GM} {R : List Int} {v : Nat → Int} {T : Nat → GM} {t : GM} (h : ML w base u M R v T) (hrow : w'.ownsRow base 102 6 u' (M ++ [t]).length (rowG (M ++ [t]))) (hg : w.grownBy w' u.ownBlock) (hu : u'.ownBlock = u.ownBlock ∨ ∃ g, u'.ownBlock = some g ∧ w.heap.size ≤ g)
    (hs : Src w t.a t.n t.f) (hne : t.n = 0 ∨ u.ownBlock ≠ some t.g) (hfar : t.n = 0 ∨ base ≤ t.g) (hsm : GSame t (mvT R v (T M.length))) : ML w' base u' (M ++ [t]) R v T := by
  have key : ∀ x : GM, Src w x.a x.n x.f → (x.n = 0 ∨ u.ownBlock ≠ some x.g) → Src w' x.a x.n x.f ∧ (x.n = 0 ∨ u'.ownBlock ≠ some x.g) := fun x h1 h2 => by
    refine ⟨src_grown h1 hg h2, ?_⟩
    rcases h2 with h2 | h2
    · exact .inl h2
    · rcases src_lt h1 with h3 | h3
      · exact .inl h3
      · right
        rcases hu with hu | ⟨g, hu, hl⟩
        · rw [hu]; exact h2
        · rw [hu]; intro e; have := Option.some.inj e; omega
  refine ⟨hrow, fun x hx => ?_, fun x hx => ?_, fun i x hx => ?_⟩
  · rcases List.mem_append.mp hx with hx | hx
    · exact key x (h.src x hx).1 (h.src x hx).2
    · simp only [List.mem_singleton] at hx
      subst hx
      exact key x hs hne
  · rcases List.mem_append.mp hx with hx | hx
    · exact h.far x hx
    · simp only [List.mem_singleton] at hx
      subst hx
      exact hfar
  · rcases Nat.lt_or_ge i M.length with hi | hi
    · rw [List.getElem?_append_left hi] at hx
      exact h.same i x hx
    · have hi' : i = M.length := by have := (List.getElem?_eq_some_iff.mp hx).1; simp at this; omega
      subst hi'
      rw [List.getElem?_append_right (Nat.le_refl _), Nat.sub_self] at hx
      have : t = x := by simpa using hx
      subst this
      exact hsm

/-- A row of objects in blocks from a place on. -/
def GVB (w : World) (base : Nat) (a : Option Addr) (N : Nat) (T : Nat → GM) : Prop := N = 0 ∨ ∃ b q, a = some ⟨b, q, none⟩ ∧ base ≤ b ∧ GSrc w b q N T ∧ ∀ i, i < N → (T i).n = 0 ∨ base ≤ (T i).g

theorem GVB.gv {w : World} {base : Nat} {a : Option Addr} {N : Nat} {T : Nat → GM} (h : GVB w base a N T) : GV w a N T := by
  rcases h with h | ⟨b, q, h1, _, h2, _⟩
  · exact .inl h
  · exact .inr ⟨b, q, h1, h2⟩

theorem GVB.keeps {w w' : World} {base lo hi : Nat} {a : Option Addr} {N : Nat} {T : Nat → GM} (h : GVB w base a N T) (hk : Keeps w w' lo hi) (hb : hi ≤ base) : GVB w' base a N T := by
  rcases h with h | ⟨b, q, h1, h2, h3, h4⟩
  · exact .inl h
  · exact .inr ⟨b, q, h1, h2, h3.keeps hk (.inr (by omega)) (fun i hi => by rcases h4 i hi with h5 | h5; exact .inl h5; exact .inr (.inr (by omega))), h4⟩

theorem GVB.below {w w' : World} {base : Nat} {a : Option Addr} {N : Nat} {T : Nat → GM} (h : GVB w base a N T) (hb : Below w.heap.size w w') : GVB w' base a N T := by
  rcases h with h | ⟨b, q, h1, h2, h3, h4⟩
  · exact .inl h
  · exact .inr ⟨b, q, h1, h2, h3.below hb, h4⟩

def RetAll (W : World) (N : Nat) (R : List Int) (v : Nat → Int) (T : Nat → GM) (e : Ending) (w' : World) : Prop :=
  ∃ a c U, e = .returned (.slice a N c) ∧ GVB w' W.heap.size a N U ∧ (∀ i, i < N → GSame (U i) (mvT R v (T i))) ∧ Below W.heap.size W w'

/-- What the objects of a list have to be, for all of them to move. -/
def Movable (w : World) (R : List Int) (v : Nat → Int) (t : GM) : Prop := Src w t.a t.n t.f ∧ HOk t.s t.m t.o t.h ∧ t.n = t.s.toNat ∧ (∀ k, k < t.n → -1000000000 ≤ t.f k ∧ t.f k ≤ 1000000000) ∧ (-1000000000 ≤ t.at_ ∧ t.at_ ≤ 1000000000) ∧ (∀ k p, k < t.n → tgtV t k = some p → 0 ≤ p ∧ p ≤ 1000000)

set_option maxRecDepth 100000 in
set_option maxHeartbeats 3200000 in
theorem movedAll_any (a : Option Addr) (N c mb nn : Nat) (T : Nat → GM) (R : List Int) (v : Nat → Int) (w : World) (hg : GV w a N T) (hN : N ≤ 400) (hm : MapT w mb nn R v) (hT : ∀ i, i < N → Movable w R v (T i)) (hv : ∀ p, 0 ≤ (tab R v p).getD 0 ∧ (tab R v p).getD 0 ≤ 1000000) :
    Calls Tryz.prog 52 #[.slice a N c, .map (some mb)] w (RetAll w N R v T) := by
  have G := Lib.hid hg; have MP := Lib.hid hm; have HT := Lib.hid hT; have HV := Lib.hid hv
  obtain ⟨j0, hif, hj0, hj1, hj2⟩ := info_parts Tryz.infoOb9
  clear hg hm hT hv
  go_enter Tryz.func52, Tryz.ntmps52
  go_wp2
  go_loopw [5, 10] (fun u p wr => ∃ (i : Nat) (M : List GM), i ≤ N ∧ p = .int .i64 (i : Int) ∧ M.length = i ∧ Hid (Below w.heap.size w wr) ∧ Hid (ML wr w.heap.size u M R v T)) (fun _ p _ => N - (intOf p).toNat)
  case atStart => exact ⟨0, [], Nat.zero_le _, rfl, rfl, Below.refl _ _, Lib.hid ⟨World.ownsRow_nil _ _ _ _, fun t ht => (by cases ht), fun t ht => (by cases ht), fun i t ht => (by simp at ht)⟩⟩
  case round =>
    obtain ⟨i, M, hi, rfl, hml, HB, HM⟩ := hrel
    have hzr := HB.out.size
    have HTI : Hid (mvT R v (T i) = mvT R v (T M.length)) := Lib.hid (by rw [hml])
    have hml4 : M.length ≤ 400 := by omega
    have HML := Lib.hid hml
    clear hml
    by_cases hlt : i < N
    · have hlt' : (i : Int) < (N : Int) := by omega
      have hi0 : (0 : Int) ≤ (i : Int) := by omega
      obtain ⟨b, q, rfl, lb, hsix⟩ := gv_get (G.out.below HB.out) hlt
      have HMT := Lib.hid (HT.out i hlt)
      have HAL : Hid (Below w.heap.size w (wr.alloc (.cells #[.int .i64 (T i).at_, .int .i64 (T i).s, .int .i64 (T i).m, .int .i64 (T i).o, .int .i64 (T i).h, .slice (T i).a (T i).n (T i).c] 102))) := Lib.hid (HB.out.alloc hzr _)
      have HMA := Lib.hid (HM.out.below ((Below.refl wr.heap.size wr).alloc (Nat.le_refl _) (.cells #[.int .i64 (T i).at_, .int .i64 (T i).s, .int .i64 (T i).m, .int .i64 (T i).o, .int .i64 (T i).h, .slice (T i).a (T i).n (T i).c] 102)))
      have za : (wr.alloc (.cells #[.int .i64 (T i).at_, .int .i64 (T i).s, .int .i64 (T i).m, .int .i64 (T i).o, .int .i64 (T i).h, .slice (T i).a (T i).n (T i).c] 102)).heap.size = wr.heap.size + 1 := by simp
      have HZA := Lib.hid za
      have hlow : Hid (∀ k, u5.ownBlock = some k → k < wr.heap.size) := Lib.hid (fun k hk => (HM.out.row.lt k hk).2)
      have hge : Hid (∀ k, u5.ownBlock = some k → w.heap.size ≤ k) := Lib.hid (fun k hk => (HM.out.row.lt k hk).1)
      obtain ⟨av, kv, hvu⟩ := rowG_val HM.out.row
      subst hvu
      clear HM HB za
      generalize hti : T i = t at *
      have HTT := Lib.hid hti
      clear hti
      obtain ⟨s0, s1, s2, s3, s4, s5⟩ := hsix
      go_wp2_with fail
      refine (moved_any t mb nn R v _ (MP.out.below HAL.out) (HMT.out.1.below HAL.out) HMT.out.2.1 HMT.out.2.2.1 HMT.out.2.2.2.1 HMT.out.2.2.2.2.1 HMT.out.2.2.2.2.2 HV.out).mono ?_
      rintro e w2 ⟨a5, c5, rfl, ho, hb⟩
      have HB2 := Lib.hid (HAL.out.trans (hb.mono HAL.out.size))
      have HM2 := Lib.hid (HMA.out.below hb)
      have hz2 : wr.heap.size + 1 ≤ w2.heap.size := by have := hb.size; have := HZA.out; omega
      obtain ⟨x, hx⟩ : ∃ x : GM, x = ⟨(tab R v t.at_).getD 0, t.s, t.m, t.o, t.h, a5, t.n, c5, mvF R v t⟩ := ⟨_, rfl⟩
      have HX : Hid (Src w2 x.a x.n x.f ∧ (x.n = 0 ∨ (Value.slice av M.length kv).ownBlock ≠ some x.g) ∧ (x.n = 0 ∨ w.heap.size ≤ x.g) ∧ GSame x (mvT R v t)) := Lib.hid (by
        subst hx
        refine ⟨ho.src, ?_, ?_, rfl, rfl, rfl, rfl, rfl, rfl, fun _ _ => rfl⟩
        rcases ho with h0 | ⟨g, o5, e1, e2, e3, _⟩
        · exact .inl h0
        · right
          intro e
          have h9 := hlow.out _ e
          have h8 : (GM.g ⟨(tab R v t.at_).getD 0, t.s, t.m, t.o, t.h, a5, t.n, c5, mvF R v t⟩) = g := by unfold GM.g; rw [e1]
          rw [h8] at h9
          have := HZA.out
          omega
        · rcases ho with h0 | ⟨g, o5, e1, e2, e3, _⟩
          · exact .inl h0
          · right
            have h8 : (GM.g ⟨(tab R v t.at_).getD 0, t.s, t.m, t.o, t.h, a5, t.n, c5, mvF R v t⟩) = g := by unfold GM.g; rw [e1]
            rw [h8]
            have := HZA.out
            omega)
      have x0 : (tab R v t.at_).getD 0 = x.at_ := by rw [hx]
      have x1 : t.s = x.s := by rw [hx]
      have x2 : t.m = x.m := by rw [hx]
      have x3 : t.o = x.o := by rw [hx]
      have x4 : t.h = x.h := by rw [hx]
      have x5 : (Value.slice a5 t.n c5) = .slice x.a x.n x.c := by rw [hx]
      rw [x0, x1, x2, x3, x4, x5]
      clear x0 x1 x2 x3 x4 x5 hx ho hb s0 s1 s2 s3 s4 s5 HAL HMA
      go_wp2_with (at_builtin; go_loud (refine wpList_append_lies _ rfl _ _ 78 rfl w.heap.size 102 j0 _ 6 64 Tryz.underlying78 hif hj0 hj1 hj2 rfl (by decide) (.slice av M.length kv) M.length (rowG M) rfl (HM2.out.row.alloc _) ⟨w2.heap.size, 0, none⟩ 1 1 (gcells x) rfl rfl (cells_new6 w2 x) (obj_one x) (by omega) (by unfold maxLen; omega) (by omega) (by simp; omega) (w2.heap.size + 1) (by simp) ?_); intro g9 cap9 w9 hown9 hgrow9 hat9 hlt9)
      have HB9 : Hid (Below w.heap.size w w9) := (HB2.out.alloc (by omega) _).grown hgrow9 (by simp; omega) (fun k hk => hge.out k hk)
      have HM9 : Hid (ML w9 w.heap.size (.slice (some ⟨g9, 0, none⟩) (M.length + 1) cap9) (M ++ [x]) R v T) := Lib.hid (by
        refine ML.snoc (HM2.out.below ((Below.refl w2.heap.size w2).alloc (Nat.le_refl _) (.cells #[.int .i64 x.at_, .int .i64 x.s, .int .i64 x.m, .int .i64 x.o, .int .i64 x.h, .slice x.a x.n x.c] 102))) ?_ hgrow9 ?_ (HX.out.1.alloc _) HX.out.2.1 HX.out.2.2.1 ?_
        · rw [rowG_snoc, List.length_append]; exact hown9
        · rcases hat9 with he | he
          · exact .inl he.symm
          · exact .inr ⟨g9, rfl, by simp; omega⟩
        · rw [← HTI.out]; exact HX.out.2.2.2)
      clear hown9 hgrow9 hat9
      go_wp2
      go_roundw
      case rel => first | exact ⟨i + 1, M ++ [x], by omega, by go_num, by rw [List.length_append, HML.out]; rfl, HB9, HM9⟩ | ((repeat apply Exists.intro); exact ⟨⟨i + 1, M ++ [x], by omega, by go_num, by rw [List.length_append, HML.out]; rfl, HB9, HM9⟩, rfl⟩)
      case measure => simp [intOf]; omega
    · have hlt' : ¬ (i : Int) < (N : Int) := by omega
      obtain rfl : i = N := by omega
      have hml := HML.out
      clear HML
      subst hml
      have HRet : Hid (RetAll w M.length R v T (.returned u5) wr) := Lib.hid (by
        have hlo := HM.out.row.lt
        obtain ⟨a', c', rfl, hgv⟩ := rowG_GV HM.out.row (fun t ht => (HM.out.src t ht).1)
        refine ⟨a', c', gT M, rfl, ?_, fun k hk => by rw [gT_at (List.getElem?_eq_getElem hk)]; exact HM.out.same k _ (List.getElem?_eq_getElem hk), HB.out⟩
        rcases hgv with h0 | ⟨b, q, e1, e2⟩
        · exact .inl h0
        · refine .inr ⟨b, q, e1, ?_, e2, fun k hk => by rw [gT_at (List.getElem?_eq_getElem hk)]; exact HM.out.far _ (List.getElem_mem hk)⟩
          subst e1
          exact (hlo b rfl).1)
      go_wp2
      go_ret
      exact HRet.out

set_option maxRecDepth 100000 in
set_option maxHeartbeats 1600000 in
theorem movedRoots_any (ra : Option Addr) (roots : List Int) (rc mb nn : Nat) (R : List Int) (v : Nat → Int) (w : World) (hr : Src w ra roots.length (lf roots)) (hrn : roots.length ≤ 1048576) (hm : MapT w mb nn R v) (hp : ∀ p ∈ roots, 0 ≤ p ∧ p ≤ 1000000) :
    Calls Tryz.prog 56 #[.slice ra roots.length rc, .map (some mb)] w (RetInts w roots.length (lf (roots.map fun p => (tab R v p).getD 0))) := by
  have RS := Lib.hid hr; have MP := Lib.hid hm; have HP := Lib.hid hp
  obtain ⟨i0, hif, hz0, hz1, hz2⟩ := info_parts Tryz.info2
  clear hr hm hp
  go_enter Tryz.func56, Tryz.ntmps56
  go_wp2
  go_loopw [5, 10] (fun u p wr => ∃ i : Nat, i ≤ roots.length ∧ p = .int .i64 (i : Int) ∧ Hid (Below w.heap.size w wr) ∧ Hid (wr.ownsRow w.heap.size 2 1 u i (nums i (lf (roots.map fun p => (tab R v p).getD 0))))) (fun _ p _ => roots.length - (intOf p).toNat)
  case atStart => exact ⟨0, Nat.zero_le _, rfl, Below.refl _ _, World.ownsRow_nil _ _ _ _⟩
  case round =>
    obtain ⟨i, hi, rfl, HB, OW⟩ := hrel
    have hzr := HB.out.size
    by_cases hlt : i < roots.length
    · have hlt' : (i : Int) < (roots.length : Int) := by omega
      have hi0 : (0 : Int) ≤ (i : Int) := by omega
      obtain ⟨rb, ro, rfl, hrb, hrc⟩ := src_some (RS.out.below HB.out) (by omega)
      have c0 := hrc i hlt
      have hpp := HP.out _ (lf_mem hlt)
      have HY : Hid (lf (roots.map fun p => (tab R v p).getD 0) i = (tab R v (lf roots i)).getD 0) := Lib.hid (by rw [lf_at (by simpa using hlt), lf_at hlt]; simp)
      obtain ⟨y, hy⟩ : ∃ y, lf roots i = y := ⟨_, rfl⟩
      rw [hy] at c0 hpp HY
      have HLK := Lib.hid ((MP.out.below HB.out).look (p := y) ⟨by omega, by omega⟩)
      obtain ⟨z, hz⟩ : ∃ z, (tab R v y).getD 0 = z := ⟨_, rfl⟩
      rw [hz] at HLK HY
      have hlk := HLK.out
      have HGE : Hid (∀ k, u5.ownBlock = some k → w.heap.size ≤ k) := Lib.hid (fun k hk => (OW.out.lt k hk).1)
      clear hrc hy hz
      go_wp2_with (at_builtin; go_loud (refine wpList_append_lies _ rfl _ _ 22 rfl w.heap.size 2 i0 (.int .i64 0) 1 8 Tryz.underlying22 hif hz0 hz1 hz2 rfl (by decide) u5 i (nums i (lf (roots.map fun p => (tab R v p).getD 0))) rfl (OW.out.alloc _) ⟨wr.heap.size, 0, none⟩ 1 1 [.int .i64 z] rfl rfl (news1 wr z) (by intro u hu; simp only [List.mem_cons, List.mem_nil_iff, or_false] at hu; subst hu; rfl) (by omega) (by unfold maxLen; omega) (by omega) (by simp; omega) (wr.heap.size + 1) (by simp) ?_); intro g9 cap9 w9 hown9 hgrow9 hat9 hlt9)
      have HB9 : Hid (Below w.heap.size w w9) := (HB.out.alloc hzr _).grown hgrow9 (by simp; omega) (fun k hk => HGE.out k hk)
      have OW9 : Hid (w9.ownsRow w.heap.size 2 1 (.slice (some ⟨g9, 0, none⟩) (i + 1) cap9) (i + 1) (nums (i + 1) (lf (roots.map fun p => (tab R v p).getD 0)))) := Lib.hid (by rw [nums_succ, HY.out]; exact hown9)
      clear hown9 hgrow9 hat9 hlk HLK c0
      go_wp2
      go_roundw
      case rel => first | exact ⟨i + 1, by omega, by go_num, HB9, OW9⟩ | ((repeat apply Exists.intro); exact ⟨⟨i + 1, by omega, by go_num, HB9, OW9⟩, rfl⟩)
      case measure => simp [intOf]; omega
    · have hlt' : ¬ (i : Int) < (roots.length : Int) := by omega
      obtain rfl : i = roots.length := by omega
      have HRet := Lib.hid (retInts_of_row OW.out HB.out)
      go_wp2
      go_ret
      exact HRet.out

theorem totO_le {X : List Ob} (h : ∀ x ∈ X, x.s ≤ 12) : totO X ≤ 14 * X.length := by
  induction X with
  | nil => simp [totO]
  | cons x X ih =>
    have h1 := h x (List.mem_cons_self ..)
    have h2 := ih fun y hy => h y (List.mem_cons_of_mem _ hy)
    simp only [totO, wordsO, List.length_cons]
    omega

theorem totO_take_le : ∀ (X : List Ob) (i : Nat), totO (X.take i) ≤ totO X
  | [], i => by simp [totO]
  | x :: X, 0 => by simp [totO]
  | x :: X, i + 1 => by
    have := totO_take_le X i
    simp only [List.take_succ_cons, totO]
    omega

theorem placeAt_top (P : Nat) (X : List Ob) (i : Nat) : placeAt P X i ≤ P + totO X := by
  have := totO_take_le X i
  unfold placeAt; omega

def RetPlaces (W : World) (R : List Int) (v : Nat → Int) (e : Ending) (w' : World) : Prop :=
  ∃ mb nn, e = .returned (.map (some mb)) ∧ MapT w' mb nn R v ∧ W.heap.size ≤ mb ∧ Below W.heap.size W w'

set_option maxRecDepth 100000 in
set_option maxHeartbeats 3200000 in
theorem placesFrom_any (co : Int) (mv : Value) (a : Option Addr) (R : List Int) (c P : Nat) (T : Nat → GM) (L : List Ob) (f : Nat → Int) (w : World) (hg : GV w a R.length T) (hl : R.length ≤ 400) (hnd : R.Nodup) (hO : ∀ i, i < R.length → (T i).at_ = lf R i ∧ ∃ x, findO L (lf R i) = some x ∧ GSame (T i) (obG f x)) (hok : ∀ x ∈ L, ObOk x) (hpl : ∀ p ∈ R, 0 ≤ p ∧ p ≤ 1000000) (hsub : ∀ p ∈ R, p ∈ placesO L) (hP : P ≤ 400) :
    Calls Tryz.prog 50 #[.agg #[.int .i64 co, .slice a R.length c, mv], .int .i64 (P : Int)] w (RetPlaces w R (fun i => (placeAt P (objsO L R) i : Int))) := by
  have hlen := objsO_length hsub
  have G := Lib.hid hg; have HO := Lib.hid hO; have HOK := Lib.hid hok; have HND := Lib.hid hnd; have HPL := Lib.hid hpl; have HSUB := Lib.hid hsub; have HLEN := Lib.hid hlen
  have hfi := fld_ir
  have hmk := @run_makeMap Tryz.prog
  have HB0 := Lib.hid (((Below.refl w.heap.size w).alloc (Nat.le_refl _) (.cells #[.int .i64 co, .slice a R.length c, mv] 92)).alloc (by simp) (.map #[] 0))
  have HM0 := Lib.hid (MapT.made (w.alloc (.cells #[.int .i64 co, .slice a R.length c, mv] 92)) (fun i => (placeAt P (objsO L R) i : Int)))
  clear hg hO hok hnd hpl hsub hlen
  obtain ⟨X, hX⟩ : ∃ X, objsO L R = X := ⟨_, rfl⟩
  rw [hX] at HM0 HLEN ⊢
  have HX := Lib.hid hX
  have HV : Hid (∀ i, (placeAt P X i : Int) ≤ 6000) := Lib.hid (fun i => by
    have h1 := placeAt_top P X i
    have h2 := totO_le (X := X) (fun x hx => by
      have h3 : x ∈ L := by
        rw [← hX] at hx
        obtain ⟨p, hp, he⟩ := List.mem_filterMap.mp hx
        exact List.mem_of_find?_eq_some he
      exact (HOK.out x h3).1.1.2)
    have := HLEN.out
    omega)
  clear hX
  go_enter Tryz.func50, Tryz.ntmps50
  go_wp2_with fail
  have z0 : w.heap.size + 2 ≤ ((w.alloc (.cells #[.int .i64 co, .slice a R.length c, mv] 92)).alloc (.map #[] 0)).heap.size := by simp
  have hs1 : (w.alloc (.cells #[.int .i64 co, .slice a R.length c, mv] 92)).heap.size = w.heap.size + 1 := by simp
  rw [hs1] at HM0
  have HM1 : Hid (MapT ((w.alloc (.cells #[.int .i64 co, .slice a R.length c, mv] 92)).alloc (.map #[] 0)) (w.heap.size + 1) 0 (R.take 0) (fun i => (placeAt P X i : Int))) := HM0
  clear hs1 HM0
  generalize (w.alloc (.cells #[.int .i64 co, .slice a R.length c, mv] 92)).alloc (.map #[] 0) = w1 at *
  go_loopw [1, 12] (fun u p wr => ∃ i : Nat, i ≤ R.length ∧ p = .int .i64 (i : Int) ∧ u = .int .i64 (placeAt P X i : Int) ∧ Hid (Below w.heap.size w wr) ∧ Hid (MapT wr (w.heap.size + 1) i (R.take i) (fun i => (placeAt P X i : Int)))) (fun _ p _ => R.length - (intOf p).toNat)
  case atStart => exact ⟨0, Nat.zero_le _, rfl, by rw [placeAt_zero], HB0, HM1⟩
  case round =>
    clear HB0 HM1 z0
    obtain ⟨i, hi, rfl, rfl, HB, HM⟩ := hrel
    have hzr := HB.out.size
    have hml := HM.out.lt
    by_cases hlt : i < R.length
    · have hlt' : (i : Int) < (R.length : Int) := by omega
      have hi0 : (0 : Int) ≤ (i : Int) := by omega
      have hiX : i < X.length := by have := HLEN.out; omega
      obtain ⟨b, q, rfl, lb, hsix⟩ := gv_get (G.out.below HB.out) hlt
      obtain ⟨hat, x, hx, hs⟩ := HO.out i hlt
      have hXx : X[i] = x := by
        have h9 := objsO_get HSUB.out i hlt (by rw [HX.out]; exact hiX)
        rw [lf_at hlt] at hx
        rw [hx] at h9
        have := (Option.some.inj h9).symm
        simpa only [HX.out] using this
      have hxok := HOK.out x (List.mem_of_find?_eq_some hx)
      have hts : (T i).s = x.s ∧ (T i).m = x.m ∧ (T i).o = x.o ∧ (T i).h = x.h := ⟨hs.2.1, hs.2.2.1, hs.2.2.2.1, hs.2.2.2.2.1⟩
      have hpy := HPL.out _ (lf_mem hlt)
      have hny : lf R i ∉ R.take i := fun hm => by
        obtain ⟨k, hk, he⟩ := List.getElem_of_mem hm
        have hk' : k < i := by have h9 := hk; rw [List.length_take] at h9; omega
        rw [List.getElem_take, lf_at hlt] at he
        have := (List.getElem_inj HND.out).mp he
        omega
      have HK : Hid (HOk (T i).s (T i).m (T i).o (T i).h) := Lib.hid (by rw [hts.1, hts.2.1, hts.2.2.1, hts.2.2.2]; exact hxok.1)
      have HNX : Hid ((placeAt P X i : Int) + ((T i).s + 2) = (placeAt P X (i + 1) : Int)) := Lib.hid (by
        rw [placeAt_step P X hiX, hXx, hts.1]; unfold wordsO; have := hxok.1.1; omega)
      have hsb : 0 ≤ (T i).s ∧ (T i).s ≤ 12 := by rw [hts.1]; exact hxok.1.1
      obtain ⟨hsb1, hsb2⟩ := hsb
      have hvb := HV.out i
      have hv0 : (0 : Int) ≤ (placeAt P X i : Int) := by omega
      have htl : (R.take i).length = i := by rw [List.length_take]; omega
      have HTK : Hid (R.take i ++ [lf R i] = R.take (i + 1)) := Lib.hid (by rw [List.take_succ_eq_append_getElem hlt, lf_at hlt])
      have hupd := (HM.out.alloc (.cells #[.int .i64 (T i).at_, .int .i64 (T i).s, .int .i64 (T i).m, .int .i64 (T i).o, .int .i64 (T i).h, .slice (T i).a (T i).n (T i).c] 102)).update (p := (T i).at_) (by unfold maxLen; omega) (by rw [hat]; constructor <;> omega) (by simp only [htl]; constructor <;> omega) (by rw [hat]; exact hny)
      simp only [htl] at hupd
      obtain ⟨w3, hr3, hm3, hg3⟩ := hupd
      have HM3 : Hid (MapT w3 (w.heap.size + 1) (i + 1) (R.take (i + 1)) (fun i => (placeAt P X i : Int))) := Lib.hid (by rw [← HTK.out, ← hat]; exact hm3)
      have HB3 : Hid (Below w.heap.size w w3) := Lib.hid ((HB.out.alloc hzr (.cells #[.int .i64 (T i).at_, .int .i64 (T i).s, .int .i64 (T i).m, .int .i64 (T i).o, .int .i64 (T i).h, .slice (T i).a (T i).n (T i).c] 102)).grown hg3 (by simp; omega) (fun k hk => by cases hk; omega))
      have X3 := Lib.hid (blk_grown (Blk.new_at (w := wr) (cs := #[.int .i64 (T i).at_, .int .i64 (T i).s, .int .i64 (T i).m, .int .i64 (T i).o, .int .i64 (T i).h, .slice (T i).a (T i).n (T i).c]) (t := 102) wr.heap.size rfl) hg3 (by intro e; have := Option.some.inj e; omega))
      clear hm3 hg3 hs hxok hts hx hat hpy hny htl hXx
      obtain ⟨K, hK⟩ : ∃ K, placeAt P X i = K := ⟨_, rfl⟩
      rw [hK] at HNX hr3 hvb hv0 ⊢
      have HKK := Lib.hid hK
      clear hK
      generalize T i = t at *
      obtain ⟨s0, s1, s2, s3, s4, s5⟩ := hsix
      have lX := X3.out.1; have cX1 := X3.out.at 1 rfl; have cX2 := X3.out.at 2 rfl; have cX3 := X3.out.at 3 rfl; have cX4 := X3.out.at 4 rfl
      go_wp2_with fail
      refine (implWO_yes t.s t.m t.o t.h _ HK.out).mono ?_
      rintro e w4 ⟨rfl, hb⟩
      have HB4 := Lib.hid (thru0 HB3.out hb)
      have HM4 := Lib.hid (HM3.out.below hb)
      clear hb s0 s1 s2 s3 s4 s5 hr3 lX cX1 cX2 cX3 cX4 X3
      go_wp2
      go_roundw
      case rel => first | exact ⟨i + 1, by omega, by go_num, by rw [← HNX.out], HB4, HM4⟩ | ((repeat apply Exists.intro); exact ⟨⟨i + 1, by omega, by go_num, by rw [← HNX.out], HB4, HM4⟩, rfl⟩)
      case measure => simp [intOf]; omega
    · have hlt' : ¬ (i : Int) < (R.length : Int) := by omega
      obtain rfl : i = R.length := by omega
      have HMF : Hid (MapT wr (w.heap.size + 1) R.length R (fun i => (placeAt P X i : Int))) := Lib.hid (by have := HM.out; rwa [List.take_length] at this)
      go_wp2
      go_ret
      exact ⟨w.heap.size + 1, R.length, rfl, HMF.out, by omega, HB.out⟩
end Go.Proofs.YtnpklnpicelcmaaGreat

namespace Go.Proofs.YtnpklnpicelcmaaGreat
open Go.RowKit Go.Maps
set_option linter.unusedVariables false

set_option maxRecDepth 100000 in
set_option maxHeartbeats 800000 in
theorem concat_one (b : Nat) (a1 a2 : Option Addr) (n1 c1 c2 : Nat) (f g : Nat → Int) (w : World) (hb : b < w.heap.size)
    (h1 : w.cell? ⟨b, 0, none⟩ = some (.slice a1 n1 c1)) (h2 : w.cell? ⟨b, 1, none⟩ = some (.slice a2 0 c2))
    (s1 : Src w a1 n1 f) (hp1 : 0 < n1) (hn1 : n1 ≤ 524288) :
    Calls Tryz.prog 53 #[.slice (some ⟨b, 0, none⟩) 2 2] w (RetInts w (n1 + 0) (cat n1 f g)) := by
  obtain ⟨i0, hi, hz0, hz1, hz2⟩ := info_parts Tryz.info2
  obtain ⟨b1, o1, rfl, hb1, hc1⟩ := src_some s1 hp1
  have S1 := Lib.hid s1
  clear s1 hc1
  go_enter Tryz.func53, Tryz.ntmps53
  go_wp2
  refine wp_loop_rounds 3 ?_
  rw [rounds_succ]
  go_wp2
  rw [rounds_succ]
  go_wp2
  rw [rounds_succ]
  go_wp2_with (go_at_call 98; refine (grow_any n1 _ (by omega) (by omega)).mono ?_; rintro e w1 ⟨v, rfl, ho, hbk, hbel, hsz⟩)
  have HO := Lib.hid ho
  have HBK := Lib.hid hbk
  have h1' := (hbel.cell (p := ⟨b, 0, none⟩) hb).trans h1
  have h2' := (hbel.cell (p := ⟨b, 1, none⟩) hb).trans h2
  have HB := Lib.hid hbel
  have hsz' : w.heap.size ≤ w1.heap.size := by omega
  clear ho hbk h1 hbel
  have S1' := Lib.hid (news_at (src_at (S1.out.below HB.out)))
  refine wp_loop_rounds 3 ?_
  rw [rounds_succ]
  go_wp2_with (at_builtin; refine wpList_append_own _ rfl (.tmp 31) (.tmp 32) 22 rfl w.heap.size 2 i0 (.int .i64 0) 1 8 Tryz.underlying22 hi hz0 hz1 hz2 rfl (by decide) v 0 [] rfl HO.out ⟨b1, o1, none⟩ n1 c1 (nums n1 f) rfl (by simp [nums]) S1'.out (nums_one n1 f) (by unfold maxLen; omega) (by omega) hsz' ?_; intro v2 w2 hown hgrow _)
  have hbel2 : Below w.heap.size w w2 := HB.out.grown hgrow hsz' (by intro k hk; rw [HBK.out] at hk; cases hk; exact Nat.le_refl _)
  simp only [Nat.zero_add, List.nil_append] at hown
  have h2'' := (hbel2.cell (p := ⟨b, 1, none⟩) hb).trans h2
  have hsz2 : w.heap.size ≤ w2.heap.size := hbel2.size
  have HO2 := Lib.hid hown
  have HB2 := Lib.hid hbel2
  clear hown hgrow hbel2 h1' h2' h2
  have hrow : w2.ownsRow w.heap.size 2 1 v2 n1 (nums n1 f) := HO2.out
  obtain ⟨va, vc, rfl, hv1, hv2, hv3⟩ := row_shape hrow
  clear hrow
  have hsr : Go.Src Tryz.prog i0.size 22 (.slice a2 0 c2) 0 [] w2 := by
    cases a2 with
    | none => exact Go.Src.ofNil w2 Tryz.underlying22 c2
    | some ad => exact Go.Src.ofSlice w2 Tryz.underlying22 ad 0 c2 [] (by simp) (by intro j u h; simp at h) (by intro u h; cases h)
  have hap := fun ty => run_append_nothing (P := Tryz.prog) w2 22 22 ty 2 i0 Tryz.underlying22 hi va n1 vc hv1 (.slice a2 0 c2) hsr
  clear hsr
  rw [rounds_succ]
  go_wp2_with (at_builtin; refine Lib.wpList_append_run _ rfl _ _ _ _ rfl _ _ rfl rfl _ _ (hap _) ?_)
  clear hap h2''
  rw [rounds_succ]
  go_wp2
  go_ret
  have h := HO2.out
  have h3 : nums n1 f = nums (n1 + 0) (cat n1 f g) := by
    rw [Nat.add_zero]; exact nums_congr (fun i hi => by unfold cat; rw [if_pos hi])
  rw [h3] at h
  exact retInts_of_row (e := 2) h HB2.out

theorem concat_opt (b : Nat) (a1 a2 : Option Addr) (n1 n2 c1 c2 : Nat) (f g : Nat → Int) (w : World) (hb : b < w.heap.size)
    (h1 : w.cell? ⟨b, 0, none⟩ = some (.slice a1 n1 c1)) (h2 : w.cell? ⟨b, 1, none⟩ = some (.slice a2 n2 c2))
    (s1 : Src w a1 n1 f) (s2 : Src w a2 n2 g) (hp1 : 0 < n1) (hn1 : n1 ≤ 524288) (hn2 : n2 ≤ 524288) :
    Calls Tryz.prog 53 #[.slice (some ⟨b, 0, none⟩) 2 2] w (RetInts w (n1 + n2) (cat n1 f g)) := by
  rcases Nat.eq_zero_or_pos n2 with rfl | hp2
  · exact concat_one b a1 a2 n1 c1 c2 f g w hb h1 h2 s1 hp1 hn1
  · exact concat_any b a1 a2 n1 n2 c1 c2 f g w hb h1 h2 s1 s2 hp1 hp2 hn1 hn2

/-- copy, one number behind the other, as a law for the walk. -/
theorem wpList_copy_cells {P : Program} {w : World} {ops : Array Oper} {rest : List Oper} {o : Oper} {a : Act} {Q : Exit → Act → World → Prop} (hgd : o.guard = none) (d s : Operand) (dT sT : TypeId)
    (ho : o.op = .call { callee := .builtin .copy, args := #[d, s], argTypes := #[dT, sT] }) (elem : TypeId) (hu : P.underlying dT = some (.slice elem)) (hsz : (P.info? elem).map (·.size) = some 1)
    (b off dLen dCap : Nat) (ad : Addr) (sLen sCap : Nat) (hd : a.eval d = .slice (some ⟨b, off, none⟩) dLen dCap) (hs : a.eval s = .slice (some ad) sLen sCap)
    (cs : List Value) (hn : cs.length = Nat.min sLen dLen) (hsrc : ∀ j v, cs[j]? = some v → w.cell? (ad.add j) = some v) (hc : ∀ j, j < cs.length → (w.cell? ⟨b, off + j, none⟩).isSome = true) (hf : ∀ j, j < cs.length → w.frozen? ⟨b, off + j, none⟩ = false) (h1 : ∀ v ∈ cs, v.oneCell' = true)
    (h : wpList P ops Q rest (a.put o.dst (goInt cs.length)) (w.setCells b off cs)) : wpList P ops Q (o :: rest) a w := by
  refine wpList_plain hgd fun K hK => ?_
  have hrun := run_copy_cells (P := P) w dT sT o.type elem b off dLen dCap ad sLen sCap cs hu hsz hn hsrc hc hf h1
  unfold Oper.wp
  simp [execOp, ho, resolve, invoke, builtin, hd, hs, hrun, Result.andThen]
  exact hK _ _ h

theorem own_copy {w : World} {lo hi g q n : Nat} {G : Nat → Int} (h : OwnIn w lo hi (some ⟨g, q, none⟩) n G) (K m : Nat) (F : Nat → Int) (hK : K + m ≤ n) : OwnIn (w.setCells g (q + K) (nums m F)) lo hi (some ⟨g, q, none⟩) n (fun i => if K ≤ i ∧ i < K + m then F (i - K) else G i) := by
  rcases h with h0 | ⟨b', o', e1, h1, hb, hc⟩
  · exact .inl h0
  · cases e1
    refine .inr ⟨g, q, rfl, h1, by rw [setCells_size]; exact hb, fun i hi => ⟨?_, ?_⟩⟩
    · dsimp only
      by_cases hin : K ≤ i ∧ i < K + m
      · rw [if_pos hin]
        obtain ⟨j, rfl⟩ : ∃ j, i = K + j := ⟨i - K, by omega⟩
        have hj : j < (nums m F).length := by rw [nums_length]; omega
        have := World.cell?_setCells_in g (nums m F) (q + K) w (fun k hk => by
          rw [nums_length] at hk
          rw [Nat.add_assoc, (hc (K + k) (by omega)).1]; rfl) j hj
        rw [← Nat.add_assoc, this]
        have h9 := nums_get m F j (by omega)
        rw [List.getElem?_eq_getElem hj] at h9
        rw [h9, show K + j - K = j by omega]
      · rw [if_neg hin, World.cell?_setCells_out g (nums m F) (q + K) w ⟨g, q + i, none⟩ (fun _ _ => by rw [nums_length]; show q + i < q + K ∨ q + K + m ≤ q + i; omega)]
        exact (hc i hi).1
    · rw [World.frozen?_setCells]; exact (hc i hi).2

theorem keeps_copy {w : World} {lo hi g : Nat} (h1 : lo ≤ g) (h2 : g < hi) : ∀ (vs : List Value) (o : Nat) (w' : World), Keeps w w' lo hi → Keeps w (w'.setCells g o vs) lo hi
  | [], _, _, h => h
  | v :: vs, o, w', h => keeps_copy h1 h2 vs (o + 1) _ (h.trans (keeps_setCell (p := ⟨g, o, none⟩) h1 h2 v))

section

variable {h ac bu : Int} {n : Nat} {f : Nat → Int} {L : List Ob} {roots : List Int}

/-- There is a result of a collection. -/
theorem col_some (f : Nat → Int) (L : List Ob) (R : List Int) (P : Nat) : ∃ g, IsCol f L R P g := by
  have key : ∀ i, i ≤ (objsO L R).length → ∃ g, ColOn f R P (objsO L R) (fun j _ => j < i) g := by
    intro i
    induction i with
    | zero => exact fun _ => ⟨fun _ => 0, colOn_zero.less (fun j d _ _ h => by omega)⟩
    | succ i ih =>
      intro hi
      obtain ⟨g, hg⟩ := ih (by omega)
      refine ⟨fun k => if placeAt P (objsO L R) i ≤ k ∧ k < placeAt P (objsO L R) i + wordsO ((objsO L R)[i]'(by omega)) then colAt f R P (objsO L R) ((objsO L R)[i]'(by omega)) (k - placeAt P (objsO L R) i) else g k, ?_⟩
      exact (hg.obj (show i < (objsO L R).length by omega) (fun d hd => by rw [if_pos ⟨by omega, by omega⟩]; congr 1; omega) (fun k hk => if_neg hk)).less (fun j d _ _ h => by omega)
  obtain ⟨g, hg⟩ := key _ (Nat.le_refl _)
  exact ⟨g, isCol_of (hg.less (fun j d hj _ _ => hj))⟩

theorem objs_word (hk : IsSF h n f ac bu 0) (ho : IsOI h n f ac bu 0 L) : ∀ x ∈ L, (0 ≤ x.at_ ∧ x.at_ ≤ 1000000) ∧ ∀ k, k < x.s.toNat → -1000000000 ≤ f (x.at_.toNat + 2 + k) ∧ f (x.at_.toNat + 2 + k) ≤ 1000000000 := by
  obtain ⟨h4, h5⟩ := isOI_zero ho
  obtain ⟨⟨⟨g1, g2⟩, ⟨g3, g4⟩, g5, g6⟩, gn, gw⟩ := isFault_ok h4
  have hb := baseI_bd (ac := ac) g1
  have hPU : (baseI ac h).toNat + bu.toNat ≤ n := by
    have hb0 : 0 ≤ baseI ac h ∧ baseI ac h ≤ h ∧ baseI ac h + h ≤ 2 * h := by rcases (by omega : ac = 0 ∨ ac = 1) with rfl | rfl <;> simp [baseI] <;> omega
    omega
  have hok := parse_ok h5 hPU gw
  intro x hx
  have := (hok x hx).2.2.2.1
  exact ⟨by omega, (hok x hx).2.2.2.2⟩

theorem findO_place {p : Int} {x : Ob} (h : findO L p = some x) : x.at_ = p := by
  have := List.find?_some h
  simpa using this

theorem place_bound (hk : IsSF h n f ac bu 0) (ho : IsOI h n f ac bu 0 L) {p : Int} (hp : p ∈ placesO L) : 0 ≤ p ∧ p ≤ 1000000 := by
  obtain ⟨x, hx⟩ := mem_placesO.1 hp
  have := (objs_word hk ho x (List.mem_of_find?_eq_some hx)).1
  rwa [findO_place hx] at this

/-- Where a pointer of what is reached leads. -/
theorem reach_target (hk : IsSF h n f ac bu 0) (ho : IsOI h n f ac bu 0 L) (hroots : ∀ p ∈ roots, p ∈ placesO L) {y : Int} (hy : y ∈ reachO f L roots) {x : Ob} (hx : findO L y = some x) {k : Nat} (hk' : k < x.s.toNat) (hb : x.m / P2 (k : Int) % 2 = 1) (h0 : ¬ f (x.at_.toNat + 2 + k) = 0) : f (x.at_.toNat + 2 + k) - 1 ∈ reachO f L roots := by
  have hr := right_of hk ho
  refine reachO_closed hr.points hr.size hroots y hy _ ?_
  unfold succO; rw [hx]; exact mem_ptrs.2 ⟨k, hk', hb, h0, rfl⟩

theorem movable_of {w : World} {t : GM} {R : List Int} {v : Nat → Int} (hk : IsSF h n f ac bu 0) (ho : IsOI h n f ac bu 0 L) (hroots : ∀ p ∈ roots, p ∈ placesO L) {y : Int} (hy : y ∈ reachO f L roots) {x : Ob} (hx : findO L y = some x) (hs : GSame t (obG f x)) (hw : Src w t.a t.n t.f) : Movable w R v t := by
  have hr := right_of hk ho
  have hxL := List.mem_of_find?_eq_some hx
  obtain ⟨e1, e2, e3, e4, e5, e6, e7⟩ := hs
  obtain ⟨b1, b2⟩ := objs_word hk ho x hxL
  have e1' : t.at_ = x.at_ := e1
  have e2' : t.s = x.s := e2
  have e3' : t.m = x.m := e3
  have e4' : t.o = x.o := e4
  have e5' : t.h = x.h := e5
  have e6' : t.n = x.s.toNat := e6
  have e7' : ∀ k, k < t.n → t.f k = f (x.at_.toNat + 2 + k) := e7
  refine ⟨hw, by rw [e2', e3', e4', e5']; exact (hr.ok x hxL).1, by rw [e6', e2'], fun k hk' => by rw [e7' k hk']; exact b2 k (by omega), by rw [e1']; omega, fun k p hk' ht => ?_⟩
  unfold tgtV at ht
  rw [e3', e7' k hk'] at ht
  by_cases hb : x.m / P2 (k : Int) % 2 = 1 ∧ ¬ f (x.at_.toNat + 2 + k) = 0
  · rw [if_pos hb] at ht
    have := reach_target hk ho hroots hy hx (by omega) hb.1 hb.2
    rw [Option.some.inj ht] at this
    exact place_bound hk ho (reachO_sub hr.points hr.size hroots _ this)
  · rw [if_neg hb] at ht; cases ht

theorem tab_at {R : List Int} {v : Nat → Int} (hn : R.Nodup) {i : Nat} (hi : i < R.length) : tab R v (lf R i) = some (v i) := by
  unfold tab lf; rw [numL_at hn hi]; rfl

theorem tab_bound {R : List Int} {v : Nat → Int} {c : Int} (h0 : 0 ≤ c) (hv : ∀ i, 0 ≤ v i ∧ v i ≤ c) (p : Int) : 0 ≤ (tab R v p).getD 0 ∧ (tab R v p).getD 0 ≤ c := by
  unfold tab
  cases numL R p with
  | none => exact ⟨Int.le_refl _, h0⟩
  | some i => exact hv i

theorem goes_mem {R Q : List Int} {p : Int} (h : p ∈ R) : ∃ i, numL R p = some i ∧ i < R.length ∧ goes R Q p = Q.getD i 0 := by
  obtain ⟨i, h1, h2, _⟩ := numL_some h
  exact ⟨i, h1, h2, goes_num h1⟩

theorem tab_goes {R : List Int} {P : Nat} {X : List Ob} (hl : X.length = R.length) {p : Int} (hp : p ∈ R) : (tab R (fun i => (placeAt P X i : Int)) p).getD 0 = goes R (newPlaces P X) p := by
  obtain ⟨i, h1, h2, h3⟩ := goes_mem (Q := newPlaces P X) hp
  unfold tab
  rw [h1, h3, newPlaces_get P X (by omega)]
  rfl

/-- The words of an object that stands where it went. -/
theorem mv_word (hk : IsSF h n f ac bu 0) (ho : IsOI h n f ac bu 0 L) (hroots : ∀ p ∈ roots, p ∈ placesO L) (P : Nat) {t u : GM} {i : Nat} (hi : i < (reachO f L roots).length) (hi' : i < (objsO L (reachO f L roots)).length) {x : Ob} (hx : findO L (lf (reachO f L roots) i) = some x) (hs : GSame t (obG f x))
    (hu : GSame u (mvT (reachO f L roots) (fun i => (placeAt P (objsO L (reachO f L roots)) i : Int)) t)) : (objsO L (reachO f L roots))[i] = x ∧ u.at_ = (placeAt P (objsO L (reachO f L roots)) i : Int) ∧ u.s = x.s ∧ u.m = x.m ∧ u.o = x.o ∧ u.h = x.h ∧ u.n = x.s.toNat ∧
    ∀ d, d < wordsO x → cat 2 (two (1 + 2 * (x.s + 16 * (x.m + 4096 * x.o))) x.h) u.f d = colAt f (reachO f L roots) P (objsO L (reachO f L roots)) x d := by
  have hr := right_of hk ho
  have hsub := reachO_sub hr.points hr.size hroots
  have hlen := objsO_length hsub
  have h9 := objsO_get hsub i hi hi'
  have hx' := hx
  rw [lf_at hi, h9] at hx'
  obtain ⟨e1, e2, e3, e4, e5, e6, e7⟩ := hs
  obtain ⟨u1, u2, u3, u4, u5, u6, u7⟩ := hu
  have e6' : t.n = x.s.toNat := e6
  have u6' : u.n = t.n := u6
  refine ⟨Option.some.inj hx', ?_, u2.trans e2, u3.trans e3, u4.trans e4, u5.trans e5, u6'.trans e6', fun d hd => ?_⟩
  · have e1' : t.at_ = lf (reachO f L roots) i := e1.trans (findO_place hx)
    rw [u1]
    show (tab _ _ t.at_).getD 0 = _
    rw [e1', tab_at (reachO_nodup f L roots) hi]; rfl
  · unfold cat colAt two
    rcases (by omega : d = 0 ∨ d = 1 ∨ 2 ≤ d) with rfl | rfl | h2
    · rfl
    · rfl
    · have hw : wordsO x = 2 + x.s.toNat := rfl
      rw [if_neg (by omega), if_neg (by omega), if_neg (by omega), u7 (d - 2) (by omega)]
      show mvF _ _ t (d - 2) = _
      unfold mvF mapF
      have e7' : t.f (d - 2) = f (x.at_.toNat + 2 + (d - 2)) := e7 (d - 2) (by omega)
      have e3' : t.m = x.m := e3
      rw [e7', e3']
      by_cases hb : x.m / P2 ((d - 2 : Nat) : Int) % 2 = 1 ∧ ¬ f (x.at_.toNat + 2 + (d - 2)) = 0
      · rw [if_pos hb, if_pos hb, tab_goes hlen (reach_target hk ho hroots (lf_mem hi) hx (by omega) hb.1 hb.2)]
      · rw [if_neg hb, if_neg hb]

end
end Go.Proofs.YtnpklnpicelcmaaGreat

namespace Go.Proofs.YtnpklnpicelcmaaGreat
open Go.RowKit
set_option linter.unusedVariables false

theorem row_keeps {w w' : World} {base e size n lo hi : Nat} {v : Value} {xs : List Value} (h : w.ownsRow base e size v n xs) (hk : Keeps w w' lo hi) (hb : hi ≤ base) : w'.ownsRow base e size v n xs := by
  refine ⟨h.1, ?_⟩
  rcases h.2 with h0 | ⟨g, cap, cur, e1, e2, e3, e4⟩
  · exact .inl h0
  · exact .inr ⟨g, cap, cur, e1, e2, (hk.block g (Array.getElem?_eq_some_iff.mp e3).1 (.inr (by omega))).trans e3, e4⟩

theorem two_cells {w : World} {b : Nat} {v0 v1 v2 v3 u : Value} {p : Addr} (hA : Blk w b [v0, v1, v2, v3]) (hp : w.cell? p = some u) : w.cell? ⟨b, 1, none⟩ = some v1 ∧ w.cell? p = some u := ⟨hA.at 1 rfl, hp⟩

theorem ownIn_cell3 {w : World} {lo hi g q n : Nat} {G : Nat → Int} (h : OwnIn w lo hi (some ⟨g, q, none⟩) n G) (k : Nat) (hk : k < n) : ∃ v, g < w.heap.size ∧ w.cell? ⟨g, q + k, none⟩ = some (.int .i64 v) ∧ w.frozen? ⟨g, q + k, none⟩ = false := by
  rcases h with h0 | ⟨b', o', e1, h1, hb, hc⟩
  · omega
  · cases e1
    exact ⟨G k, hb, (hc k hk).1, (hc k hk).2⟩

/-- What lies in memory while the model collects. -/
structure CS (W w : World) (b : Nat) (g q : Nat) (h ac U : Int) (n c : Nat) (u : Value) (l : List Int) (G : Nat → Int) : Prop where
  bel : Below W.heap.size W w
  arn : Blk w b [.int .i64 h, .slice (some ⟨g, q, none⟩) n c, .int .i64 ac, .int .i64 U]
  wrd : OwnIn w W.heap.size (b + 1) (some ⟨g, q, none⟩) n G
  row : w.ownsRow (b + 1) 2 1 u l.length (nums l.length (lf l))

section

variable {W w w' : World} {b g q : Nat} {h ac U : Int} {n c : Nat} {u : Value} {l : List Int} {G : Nat → Int}

theorem CS.below (d : CS W w b g q h ac U n c u l G) (hb : Below w.heap.size w w') : CS W w' b g q h ac U n c u l G := ⟨d.bel.trans (hb.mono d.bel.size), d.arn.below hb, d.wrd.below hb, ownsRow_below d.row hb⟩

theorem CS.put (d : CS W w b g q h ac U n c u l G) {U' : Int} {G' : Nat → Int} (hW : W.heap.size ≤ b) (hk : Keeps w w' W.heap.size (b + 1)) (hA : Blk w' b [.int .i64 h, .slice (some ⟨g, q, none⟩) n c, .int .i64 ac, .int .i64 U']) (ho : OwnIn w' W.heap.size (b + 1) (some ⟨g, q, none⟩) n G') : CS W w' b g q h ac U' n c u l G' :=
  ⟨d.bel.trans (hk.below (Nat.le_refl _) d.bel.size), hA, ho, row_keeps d.row hk (Nat.le_refl _)⟩

theorem CS.append (d : CS W w b g q h ac U n c u l G) {o : Obj} {u' : Value} {l' : List Int} (hW : W.heap.size ≤ b) (hg : (w.alloc o).grownBy w' u.ownBlock) (hr : w'.ownsRow (b + 1) 2 1 u' l'.length (nums l'.length (lf l'))) : CS W w' b g q h ac U n c u' l' G := by
  have hPw := d.arn.1
  have hz : w.heap.size ≤ w'.heap.size := by have := hg.size; simp at this; omega
  have hk : Keeps w w' (b + 1) w'.heap.size := ⟨hg.os, hg.tape, hg.output, hz, fun q hq hd => by
    rcases hd with hd | hd
    · exact (hg.block q (by simp; omega) (fun e => by have := (d.row.lt q e.symm).1; omega)).trans (Below.heap_alloc _ _ _ hq)
    · omega⟩
  exact ⟨d.bel.trans (hk.below (by omega) d.bel.size), d.arn.keeps hk (.inl (by omega)), d.wrd.keeps hk (.inl (by omega)), hr⟩

end

theorem tot_fits {h : Int} {n : Nat} {f : Nat → Int} {ac bu : Int} {L : List Ob} {roots : List Int} (hk : IsSF h n f ac bu 0) (ho : IsOI h n f ac bu 0 L) (hroots : ∀ p ∈ roots, p ∈ placesO L) : (totO (objsO L (reachO f L roots)) : Int) ≤ bu := by
  have hr := right_of hk ho
  have h1 := tot_le (L := L) (R := reachO f L roots) hr.apart (reachO_nodup f L roots) (reachO_sub hr.points hr.size hroots)
  obtain ⟨h4, h5⟩ := isOI_zero ho
  obtain ⟨⟨⟨g1, g2⟩, ⟨g3, g4⟩, g5, g6⟩, gn, gw⟩ := isFault_ok h4
  have := parse_tot_eq _ _ L (Nat.le_refl _) (by omega) h5
  omega
end Go.Proofs.YtnpklnpicelcmaaGreat

namespace Go.Proofs.YtnpklnpicelcmaaGreat
open Go.RowKit Go.Maps
set_option linter.unusedVariables false

structure CR where
  co : Int
  h : Int
  n : Nat
  f : Nat → Int
  ac : Int
  bu : Int
  rl : List Int
  mv : Int

def errCR (k : Int) : CR := ⟨k, 0, 0, fun _ => 0, 0, 0, [], 0⟩

def RetCR (W : World) (r : CR) (e : Ending) (w' : World) : Prop :=
  ∃ a c ra rc mid, e = .returned (.agg #[.int .i64 r.co, .int .i64 r.h, .slice a r.n c, .int .i64 r.ac, .int .i64 r.bu, .slice ra r.rl.length rc, .int .i64 r.mv]) ∧ OwnIn w' W.heap.size mid a r.n r.f ∧ OwnIn w' mid w'.heap.size ra r.rl.length (lf r.rl) ∧ W.heap.size ≤ mid ∧ mid ≤ w'.heap.size ∧ Below W.heap.size W w' ∧ (r.co = 0 → r.n ≤ c ∧ c ≤ maxLen)

/-- What a collection tells. -/
def IsCR (h : Int) (n : Nat) (f : Nat → Int) (ac bu : Int) (roots : List Int) (co : Int) (L : List Ob) (r : CR) : Prop :=
  (¬ co = 0 ∧ r = errCR co) ∨ (co = 0 ∧ ∃ g, IsCol f L (reachO f L roots) (baseI (1 - ac) h).toNat g ∧ r = ⟨0, h, n, g, 1 - ac, (totO (objsO L (reachO f L roots)) : Int), roots.map (goes (reachO f L roots) (newPlaces (baseI (1 - ac) h).toNat (objsO L (reachO f L roots)))), (totO (objsO L (reachO f L roots)) : Int)⟩)

set_option maxRecDepth 100000 in
set_option maxHeartbeats 1600000 in
theorem implCol_code (h ac bu : Int) (a : Option Addr) (n c : Nat) (f : Nat → Int) (ra : Option Addr) (roots : List Int) (rc : Nat) (co : Int) (L : List Ob) (w : World) (hs : Src w a n f) (hcn : n ≤ c) (hcm : c ≤ maxLen) (hrs : Src w ra roots.length (lf roots)) (hk : IsAsk h n f ac bu roots co L) (h0 : ¬ co = 0) :
    Calls Tryz.prog 21 #[.agg #[.int .i64 h, .slice a n c, .int .i64 ac, .int .i64 bu], .slice ra roots.length rc] w (RetCR w (errCR co)) := by
  have hd : (co != 0) = true := by simpa using h0
  have HS := Lib.hid hs; have HK := Lib.hid hk; have HCM := Lib.hid hcm; have HRS := Lib.hid hrs; have H0 := Lib.hid h0
  clear hs hk hcm hrs h0
  go_enter Tryz.func21, Tryz.ntmps21
  go_wp2_with fail
  refine (reachIn_any h ac bu a n c f ra roots rc co L _ ((HS.out.alloc _).alloc _) hcn HCM.out ((HRS.out.alloc _).alloc _) HK.out).mono ?_
  rintro e w1 ⟨hb, hr⟩
  have HB1 := Lib.hid (thru2 (Below.refl _ _) hb)
  have R_1 := Lib.hid ((Blk.new_at (w := w.alloc (.cells #[.int .i64 h, .slice a n c, .int .i64 ac, .int .i64 bu] 29)) (cs := #[.int .i64 0, .int .i64 0, .slice none 0 0, .int .i64 0, .int .i64 0, .slice none 0 0, .int .i64 0]) (t := 55) (w.heap.size + 1) (by simp)).below hb)
  have z1 : w.heap.size + 2 ≤ w1.heap.size := by have := hb.size; simp at this; omega
  clear hb
  rcases hr with ⟨_, rfl⟩ | ⟨h0, _⟩
  · have HB2 := Lib.hid (HB1.out.alloc HB1.out.size (.cells #[.int .i64 co, .slice none 0 0, .map none] 92))
    have R_2 := Lib.hid (R_1.out.alloc (.cells #[.int .i64 co, .slice none 0 0, .map none] 92))
    have X_2 := Lib.hid (Blk.new_at (w := w1) (cs := #[.int .i64 co, .slice none 0 0, .map none]) (t := 92) w1.heap.size rfl)
    have z2 : w1.heap.size + 1 = (w1.alloc (.cells #[.int .i64 co, .slice none 0 0, .map none] 92)).heap.size := by simp
    go_upto_region 2 with (fail)
    generalize w1.alloc (.cells #[.int .i64 co, .slice none 0 0, .map none] 92) = w2 at *
    have lR := R_2.out.1; have cR0 := R_2.out.at 0 rfl; have cR1 := R_2.out.at 1 rfl; have cR2 := R_2.out.at 2 rfl; have cR3 := R_2.out.at 3 rfl; have cR4 := R_2.out.at 4 rfl; have cR5 := R_2.out.at 5 rfl; have cR6 := R_2.out.at 6 rfl; have fR0 := R_2.out.free 0 rfl; have fR1 := R_2.out.free 1 rfl; have fR2 := R_2.out.free 2 rfl; have fR3 := R_2.out.free 3 rfl; have fR4 := R_2.out.free 4 rfl; have fR5 := R_2.out.free 5 rfl; have fR6 := R_2.out.free 6 rfl
    have lX := X_2.out.1; have cX0 := X_2.out.at 0 rfl; have cX1 := X_2.out.at 1 rfl; have cX2 := X_2.out.at 2 rfl
    go_wp2
    refine bodyPost_ret (v := .agg #[.int .i64 co, .int .i64 0, .slice none 0 0, .int .i64 0, .int .i64 0, .slice none 0 0, .int .i64 0]) (by simp [results, Tryz.results21, go_sem, cR0, cR1, cR2, cR3, cR4, cR5, cR6]) rfl ⟨none, 0, none, 0, w2.heap.size, rfl, .inl rfl, .inl rfl, by omega, by simp, ?_, fun h => absurd h H0.out⟩
    repeat (first | (with_reducible refine Below.setCell ?_ (by (try simp); (try omega)) _) | (with_reducible refine Below.alloc ?_ (by (try simp); (try omega)) _) | (with_reducible refine Below.drew ?_))
    exact HB2.out
  · exact absurd h0 H0.out

theorem rest_zero {h : Int} {n : Nat} {f : Nat → Int} {ac bu : Int} (hk : IsSF h n f ac bu 0) : ∀ k, k < n → zeroR f (baseI ac h).toNat h.toNat k = 0 := by
  intro k hk'
  have hok := hk
  obtain ⟨L0, ho0⟩ := isSF_zero hk
  obtain ⟨⟨⟨g1, g2⟩, ⟨g3, g4⟩, g5, g6⟩, gn, gw⟩ := isFault_ok (isOI_zero ho0).1
  rcases hok with ⟨L, hL, h0⟩ | ⟨L, hL, hs, h0⟩ | ⟨L, hL, hs, _⟩
  · exact absurd rfl h0
  · cases h0
  · rcases hs with ⟨_, hr, _⟩ | ⟨_, h9⟩
    · unfold zeroR
      by_cases hin : (baseI ac h).toNat ≤ k ∧ k < (baseI ac h).toNat + h.toNat
      · rw [if_pos hin]
      · rw [if_neg hin]
        exact hr k hk' (by omega)
    · cases h9

theorem tot_fits2 {h : Int} {n : Nat} {f : Nat → Int} {ac bu : Int} {L : List Ob} {roots : List Int} (hk : IsSF h n f ac bu 0) (ho : IsOI h n f ac bu 0 L) (hroots : ∀ p ∈ roots, p ∈ placesO L) : (totO (objsO L (reachO f L roots)) : Int) ≤ bu := by
  have hr := right_of hk ho
  have h1 := tot_le (L := L) (R := reachO f L roots) hr.apart (reachO_nodup f L roots) (reachO_sub hr.points hr.size hroots)
  obtain ⟨h4, h5⟩ := isOI_zero ho
  obtain ⟨⟨⟨g1, g2⟩, ⟨g3, g4⟩, g5, g6⟩, gn, gw⟩ := isFault_ok h4
  have := parse_tot_eq _ _ L (Nat.le_refl _) (by omega) h5
  omega

theorem fld_ars (v0 v1 v2 v3 v4 v5 : Value) (w : World) : (Instr.field 95 (.agg #[v0, v1, v2, v3, v4, v5]) 1).run Tryz.prog w = .ok (.agg #[v1, v2, v3, v4]) w := by kernel_rfl

theorem fld_irs (x y : Value) (w : World) : (Instr.field 52 (.agg #[x, y]) 1).run Tryz.prog w = .ok y w := by kernel_rfl

theorem baseOf_eq (X h ac bu : Int) (a : Option Addr) (n c : Nat) (w : World) (hX : baseI ac h = X) (h1 : 8 ≤ h) (h2 : h ≤ 200) (h3 : 0 ≤ ac) (h4 : ac ≤ 1) :
    Calls Tryz.prog 51 #[.agg #[.int .i64 h, .slice a n c, .int .i64 ac, .int .i64 bu]] w (RetInt w X) := hX ▸ baseOf_any h ac bu a n c w h1 h2 h3 h4

theorem three_four {w : World} {b d : Nat} {u0 u1 u2 v0 v1 v2 v3 : Value} (h : Blk w b [u0, u1, u2]) (k : Blk w d [v0, v1, v2, v3]) : w.cell? ⟨b, 0, none⟩ = some u0 ∧ w.cell? ⟨b, 1, none⟩ = some u1 ∧ w.cell? ⟨b, 2, none⟩ = some u2 ∧ w.cell? ⟨d, 0, none⟩ = some v0 ∧ w.cell? ⟨d, 1, none⟩ = some v1 ∧ w.cell? ⟨d, 2, none⟩ = some v2 ∧ w.cell? ⟨d, 3, none⟩ = some v3 := ⟨h.at 0 rfl, h.at 1 rfl, h.at 2 rfl, k.at 0 rfl, k.at 1 rfl, k.at 2 rfl, k.at 3 rfl⟩

theorem five_t {w : World} {b : Nat} {v0 v1 v2 v3 v4 v5 : Value} (h : Blk w b [v0, v1, v2, v3, v4, v5]) : w.cell? ⟨b, 1, none⟩ = some v1 ∧ w.cell? ⟨b, 2, none⟩ = some v2 ∧ w.cell? ⟨b, 3, none⟩ = some v3 ∧ w.cell? ⟨b, 4, none⟩ = some v4 ∧ w.cell? ⟨b, 5, none⟩ = some v5 := ⟨h.at 1 rfl, h.at 2 rfl, h.at 3 rfl, h.at 4 rfl, h.at 5 rfl⟩

theorem four_c {w : World} {d : Nat} {v0 v1 v2 v3 : Value} (k : Blk w d [v0, v1, v2, v3]) : w.cell? ⟨d, 0, none⟩ = some v0 ∧ w.cell? ⟨d, 1, none⟩ = some v1 ∧ w.cell? ⟨d, 2, none⟩ = some v2 ∧ w.cell? ⟨d, 3, none⟩ = some v3 := ⟨k.at 0 rfl, k.at 1 rfl, k.at 2 rfl, k.at 3 rfl⟩
end Go.Proofs.YtnpklnpicelcmaaGreat

namespace Go.Proofs.YtnpklnpicelcmaaGreat
open Go.RowKit Go.Maps
set_option linter.unusedVariables false

/-- The words while the program collects. -/
structure PW (W w : World) (g q n : Nat) (G : Nat → Int) : Prop where
  kp : Keeps W w g (g + 1)
  wrd : OwnIn w g (g + 1) (some ⟨g, q, none⟩) n G

theorem PW.below {W w w' : World} {g q n : Nat} {G : Nat → Int} (d : PW W w g q n G) (hb : Below w.heap.size w w') : PW W w' g q n G := ⟨d.kp.trans (keeps_of_below hb g (g + 1)), d.wrd.below hb⟩

theorem MapT.keeps {w w' : World} {b n lo hi : Nat} {R : List Int} {v : Nat → Int} (h : MapT w b n R v) (hk : Keeps w w' lo hi) (hd : b < lo ∨ hi ≤ b) : MapT w' b n R v := h.block (hk.block b h.lt hd)

set_option maxRecDepth 100000 in
set_option maxHeartbeats 6400000 in
theorem implCol_ok (m : Nat) (ac bu : Int) (a : Option Addr) (c : Nat) (f : Nat → Int) (ra : Option Addr) (roots : List Int) (rc : Nat) (L : List Ob) (w : World) (hs : Src w a (2 * m) f) (hcn : 2 * m ≤ c) (hcm : c ≤ maxLen) (hrs : Src w ra roots.length (lf roots)) (hk : IsSF (m : Int) (2 * m) f ac bu 0) (ho : IsOI (m : Int) (2 * m) f ac bu 0 L) (h60 : roots.length ≤ 60) (hall : ∀ p ∈ roots, p ∈ placesO L) (g0 : Nat → Int) (hg0 : IsCol f L (reachO f L roots) (baseI (1 - ac) (m : Int)).toNat g0) :
    Calls Tryz.prog 21 #[.agg #[.int .i64 (m : Int), .slice a (2 * m) c, .int .i64 ac, .int .i64 bu], .slice ra roots.length rc] w (RetCR w ⟨0, (m : Int), 2 * m, g0, 1 - ac, (totO (objsO L (reachO f L roots)) : Int), roots.map (goes (reachO f L roots) (newPlaces (baseI (1 - ac) (m : Int)).toNat (objsO L (reachO f L roots)))), (totO (objsO L (reachO f L roots)) : Int)⟩) := by
  have hri := right_of hk ho
  have hsub := reachO_sub hri.points hri.size hall
  have hlen := objsO_length hsub
  have htot := tot_fits2 hk ho hall
  have hka : IsAsk (m : Int) (2 * m) f ac bu roots 0 L := .inr (.inr (.inr ⟨hk, ho, h60, hall, rfl⟩))
  have hsm := reach_small hka
  rw [outR_zero] at hsm
  have hrl := hsm.1
  have hisf := (isOI_zero ho).1
  obtain ⟨⟨⟨g1, g2⟩, ⟨g3, g4⟩, g5, g6⟩, gn, gw⟩ := isFault_ok hisf
  obtain ⟨P, hP⟩ : ∃ P : Nat, baseI (1 - ac) (m : Int) = (P : Int) := ⟨(baseI (1 - ac) (m : Int)).toNat, by have := baseI_bd (ac := 1 - ac) g1; omega⟩
  have hPm : P ≤ m := by have := baseI_bd (ac := 1 - ac) g1; omega
  have hPt : (baseI (1 - ac) (m : Int)).toNat = P := by omega
  have hmv := fun (t u : GM) (i : Nat) (hi : i < (reachO f L roots).length) (hi' : i < (objsO L (reachO f L roots)).length) (x : Ob) (hx : findO L (lf (reachO f L roots) i) = some x) (hs : GSame t (obG f x)) (hu : GSame u (mvT (reachO f L roots) (fun i => (placeAt P (objsO L (reachO f L roots)) i : Int)) t)) => mv_word hk ho hall P hi hi' hx hs hu
  have hmvb := fun (w : World) (t : GM) (v : Nat → Int) (y : Int) (hy : y ∈ reachO f L roots) (x : Ob) (hx : findO L y = some x) (hs : GSame t (obG f x)) (hw : Src w t.a t.n t.f) => movable_of (R := reachO f L roots) (v := v) hk ho hall hy hx hs hw
  have hto := tot_objs (L := L) hsub
  have hnd := reachO_nodup f L roots
  have hrr := reachO_roots f L roots
  obtain ⟨R, hR⟩ : ∃ R, reachO f L roots = R := ⟨_, rfl⟩
  obtain ⟨X, hX⟩ : ∃ X, objsO L R = X := ⟨_, rfl⟩
  rw [hPt, hR, hX]
  rw [hPt] at hg0
  rw [hR] at hsub hlen htot hrl hmv hmvb hg0 hto hnd hrr
  rw [hX] at hlen htot hmv hto
  have hfit : P + totO X ≤ 2 * m := by omega
  have HS := Lib.hid hs; have HK := Lib.hid hk; have HCM := Lib.hid hcm; have HRS := Lib.hid hrs; have HO := Lib.hid ho; have HALL := Lib.hid hall; have HRI := Lib.hid hri; have HSUB := Lib.hid hsub; have HLEN := Lib.hid hlen; have HP := Lib.hid hP; have HR := Lib.hid hR; have HX := Lib.hid hX
  have HKA := Lib.hid hka; have HISF := Lib.hid hisf; have HMV := Lib.hid hmv; have HMVB := Lib.hid hmvb; have HG0 := Lib.hid hg0; have HTO := Lib.hid hto; have HND := Lib.hid hnd; have HRR := Lib.hid hrr
  have HRZ := Lib.hid (rest_zero hk)
  clear hs hk hcm hrs ho hall hri hsub hlen hP hR hX hPt gn gw hsm htot hka hisf hmv hmvb hg0 hto hnd hrr
  go_enter Tryz.func21, Tryz.ntmps21
  go_wp2_with fail
  refine (reachIn_any (m : Int) ac bu a (2 * m) c f ra roots rc 0 L _ ((HS.out.alloc _).alloc _) hcn HCM.out ((HRS.out.alloc _).alloc _) HKA.out).mono ?_
  rintro e w1 ⟨hb, hr⟩
  have HB1 := Lib.hid (thru2 (Below.refl _ _) hb)
  have A_1 := Lib.hid (((Blk.new_at (w := w) (cs := #[.int .i64 (m : Int), .slice a (2 * m) c, .int .i64 ac, .int .i64 bu]) (t := 29) w.heap.size rfl).alloc (.cells #[.int .i64 0, .int .i64 0, .slice none 0 0, .int .i64 0, .int .i64 0, .slice none 0 0, .int .i64 0] 55)).below hb)
  have R_1 := Lib.hid ((Blk.new_at (w := w.alloc (.cells #[.int .i64 (m : Int), .slice a (2 * m) c, .int .i64 ac, .int .i64 bu] 29)) (cs := #[.int .i64 0, .int .i64 0, .slice none 0 0, .int .i64 0, .int .i64 0, .slice none 0 0, .int .i64 0]) (t := 55) (w.heap.size + 1) (by simp)).below hb)
  have z1 : w.heap.size + 2 ≤ w1.heap.size := by have := hb.size; simp at this; omega
  clear hb
  rcases hr with ⟨h0, _⟩ | ⟨_, a1, c1, mb, T, rfl, hg, hm, hsm⟩
  · exact absurd rfl h0
  rw [HR.out] at hg hm hsm ⊢
  have HB2 := Lib.hid (HB1.out.alloc HB1.out.size (.cells #[.int .i64 0, .slice a1 R.length c1, .map (some mb)] 92))
  have A_2 := Lib.hid (A_1.out.alloc (.cells #[.int .i64 0, .slice a1 R.length c1, .map (some mb)] 92))
  have R_2 := Lib.hid (R_1.out.alloc (.cells #[.int .i64 0, .slice a1 R.length c1, .map (some mb)] 92))
  have X_2 := Lib.hid (Blk.new_at (w := w1) (cs := #[.int .i64 0, .slice a1 R.length c1, .map (some mb)]) (t := 92) w1.heap.size rfl)
  have HG2 := Lib.hid (hg.below ((Below.refl w1.heap.size w1).alloc (Nat.le_refl _) (.cells #[.int .i64 0, .slice a1 R.length c1, .map (some mb)] 92)))
  have HSM := Lib.hid hsm
  have z2 : w1.heap.size + 1 = (w1.alloc (.cells #[.int .i64 0, .slice a1 R.length c1, .map (some mb)] 92)).heap.size := by simp
  have hfl := fld_ars
  clear hg hm hsm HB1 A_1 R_1
  have lA := A_2.out.1
  have lX := X_2.out.1; have cX0 := X_2.out.at 0 rfl; have cX1 := X_2.out.at 1 rfl; have cX2 := X_2.out.at 2 rfl
  go_upto_region 4 with (fail)
  generalize w1.alloc (.cells #[.int .i64 0, .slice a1 R.length c1, .map (some mb)] 92) = w2 at *
  have cA0 := A_2.out.at 0 rfl; have cA1 := A_2.out.at 1 rfl; have cA2 := A_2.out.at 2 rfl; have cA3 := A_2.out.at 3 rfl
  go_wp2_with fail
  refine (implFlipC_any (m : Int) ac bu a (2 * m) c f ⟨0, (m : Int), 2 * m, zeroR f (baseI ac (m : Int)).toNat (m : Int).toNat, 1 - ac, 0, 0⟩ _ (HS.out.below HB2.out) hcn HCM.out (.inr ⟨HISF.out, rfl⟩)).mono ?_
  rintro e w3 ⟨a3, c3, rfl, ho3, hb, hroom⟩
  obtain ⟨g, q, rfl, hgl, hgs⟩ : ∃ g q, a3 = some ⟨g, q, none⟩ ∧ w2.heap.size ≤ g ∧ g < w3.heap.size := by
    rcases ho3 with h0 | ⟨g, q, e1, e2, e3, _⟩
    · have h0' : 2 * m = 0 := h0
      omega
    · exact ⟨g, q, e1, e2, e3⟩
  have HRM := Lib.hid (hroom rfl)
  have HO3 : Hid (OwnIn w3 g (g + 1) (some ⟨g, q, none⟩) (2 * m) (fun _ => 0)) := Lib.hid (by
    have h9 := ho3.congr HRZ.out
    rcases h9 with h0 | ⟨g', q', e1, e2, e3, e4⟩
    · exact .inl h0
    · cases e1
      exact .inr ⟨g, q, rfl, ⟨Nat.le_refl _, Nat.lt_succ_self _⟩, e3, e4⟩)
  have HB23 := Lib.hid hb
  have z3 := hb.size
  clear hb ho3 hroom cA0 cA1 cA2 cA3 lA lX cX0 cX1 cX2
  dsimp only
  have C_4 := Lib.hid (Blk.new_at (w := w3) (cs := #[.int .i64 (m : Int), .slice (some ⟨g, q, none⟩) (2 * m) c3, .int .i64 (1 - ac), .int .i64 0]) (t := 29) w3.heap.size rfl)
  have hAL := (Below.refl w3.heap.size w3).alloc (Nat.le_refl _) (.cells #[.int .i64 (m : Int), .slice (some ⟨g, q, none⟩) (2 * m) c3, .int .i64 (1 - ac), .int .i64 0] 29)
  have HB24 := Lib.hid (HB23.out.trans (hAL.mono z3))
  have HO4 := Lib.hid (HO3.out.below hAL)
  have X_4 := Lib.hid (X_2.out.below HB24.out)
  have z4 : w3.heap.size + 1 = (w3.alloc (.cells #[.int .i64 (m : Int), .slice (some ⟨g, q, none⟩) (2 * m) c3, .int .i64 (1 - ac), .int .i64 0] 29)).heap.size := by simp
  clear hAL HO3
  go_wp2_with fail
  clear hfl
  generalize w3.alloc (.cells #[.int .i64 (m : Int), .slice (some ⟨g, q, none⟩) (2 * m) c3, .int .i64 (1 - ac), .int .i64 0] 29) = w4 at *
  generalize hcb : w3.heap.size = cb at *
  have Xd := Lib.hid X_4.out.drew; have Cd := Lib.hid C_4.out.drew
  have HDR : Hid (Below w4.heap.size w4 w4.drew) := Lib.hid ((Below.refl _ _).drew)
  have HGd := Lib.hid ((HG2.out.below HB24.out).drew)
  have HPL : Hid (∀ p ∈ R, 0 ≤ p ∧ p ≤ 1000000) := Lib.hid (fun p hp => place_bound HK.out HO.out (HSUB.out p hp))
  have HOT : Hid (∀ i, i < R.length → (T i).at_ = lf R i ∧ ∃ x, findO L (lf R i) = some x ∧ GSame (T i) (obG f x)) := Lib.hid (fun i hi => by
    obtain ⟨x, h1, h2⟩ := HSM.out i hi
    exact ⟨h2.1.trans (findO_place h1), x, h1, h2⟩)
  go_region_held3 (fun w' => w'.cell? ⟨w1.heap.size, 0, none⟩ = some (.int .i64 0) ∧ w'.cell? ⟨w1.heap.size, 1, none⟩ = some (.slice a1 R.length c1) ∧ w'.cell? ⟨w1.heap.size, 2, none⟩ = some (.map (some mb)) ∧ w'.cell? ⟨cb, 0, none⟩ = some (.int .i64 (m : Int)) ∧ w'.cell? ⟨cb, 1, none⟩ = some (.slice (some ⟨g, q, none⟩) (2 * m) c3) ∧ w'.cell? ⟨cb, 2, none⟩ = some (.int .i64 (1 - ac)) ∧ w'.cell? ⟨cb, 3, none⟩ = some (.int .i64 0))
    (first | (with_reducible exact three_four X_4.out C_4.out) | (with_reducible exact three_four Xd.out Cd.out) | (with_reducible exact three_four X_5.out C_5.out) | (with_reducible exact three_four X_6.out C_6.out))
    (first | (go_at_call 51; (refine (baseOf_eq (P : Int) (m : Int) (1 - ac) 0 (some ⟨g, q, none⟩) (2 * m) c3 _ HP.out g1 g2 (by omega) (by omega)).mono ?_; rintro e w5 ⟨rfl, hb⟩; have HB5 := Lib.hid (thru0 HDR.out hb); have X_5 := Lib.hid (Xd.out.below hb); have C_5 := Lib.hid (Cd.out.below hb); have HG5 := Lib.hid (HGd.out.below hb); have z5 := hb.size; clear hb)) | (go_at_call 50; (refine (placesFrom_any 0 (.map (some mb)) a1 R c1 P T L f _ HG5.out hrl HND.out HOT.out HRI.out.ok HPL.out HSUB.out (by omega)).mono ?_; rintro e w6 ⟨mb6, nn6, rfl, hm6, hlo6, hb⟩; have HB6 := Lib.hid (thru0 HB5.out hb); have X_6 := Lib.hid (X_5.out.below hb); have C_6 := Lib.hid (C_5.out.below hb); have HG6 := Lib.hid (HG5.out.below hb); have HM6 := Lib.hid hm6; have z6 := hb.size; clear hb hm6)))
  have hz26 : w2.heap.size ≤ w6.heap.size := by have : w4.heap.size ≤ w5.heap.size := by simpa using z5
                                                omega
  have HB26 := Lib.hid (HB24.out.trans (HB6.out.mono HB24.out.size))
  have HVB : Hid (∀ p, 0 ≤ (tab R (fun i => (placeAt P X i : Int)) p).getD 0 ∧ (tab R (fun i => (placeAt P X i : Int)) p).getD 0 ≤ 1000000) := Lib.hid (tab_bound (by omega) (fun i => by have := placeAt_top P X i; constructor <;> omega))
  rw [HX.out] at HM6
  have HO6 := Lib.hid (HO4.out.below HB6.out)
  have HMVT : Hid (∀ i, i < R.length → Movable w6 R (fun i => (placeAt P X i : Int)) (T i)) := Lib.hid (fun i hi => by
    obtain ⟨x, h1, h2⟩ := HSM.out i hi
    obtain ⟨b9, q9, e9, l9, s9⟩ := gv_get HG6.out hi
    refine HMVB.out w6 (T i) _ _ (lf_mem hi) x h1 h2 ?_
    rcases HG6.out with h0 | ⟨b8, q8, e8, hsrc⟩
    · omega
    · exact hsrc.flds i hi)
  have lX6 := X_6.out.1; have cX1 := X_6.out.at 1 rfl
  clear X_4 C_4 Xd Cd HDR HGd X_5 C_5 HG5 HB5 HO4
  go_wp2_with fail
  refine (movedAll_any a1 R.length c1 mb6 nn6 T R (fun i => (placeAt P X i : Int)) _ HG6.out hrl HM6.out HMVT.out HVB.out).mono ?_
  rintro e w7 ⟨a7, c7, U, rfl, hgv, hsm7, hb⟩
  have HB7 := Lib.hid hb
  have HU7 := Lib.hid hgv
  have HSU := Lib.hid hsm7
  have z7 := hb.size
  have HP7 : Hid (PW w7 w7 g q (2 * m) (fun _ => 0)) := Lib.hid ⟨Keeps.refl _ _ _, HO6.out.below hb⟩
  have X_7 := Lib.hid (X_6.out.below hb); have C_7 := Lib.hid (C_6.out.below hb); have HG7 := Lib.hid (HG6.out.below hb); have HM7 := Lib.hid (HM6.out.below hb)
  have HB27 := Lib.hid (HB26.out.trans (hb.mono hz26))
  have HWU : Hid (∀ i, i < R.length → ∀ hi' : i < X.length, ∃ x, x ∈ L ∧ X[i] = x ∧ (U i).at_ = (placeAt P X i : Int) ∧ (U i).s = x.s ∧ (U i).m = x.m ∧ (U i).o = x.o ∧ (U i).h = x.h ∧ (U i).n = x.s.toNat ∧ ∀ d, d < wordsO x → cat 2 (two (1 + 2 * (x.s + 16 * (x.m + 4096 * x.o))) x.h) (U i).f d = colAt f R P X x d) := Lib.hid (fun i hi hi' => by
    obtain ⟨x, h1, h2⟩ := HSM.out i hi
    exact ⟨x, List.mem_of_find?_eq_some h1, HMV.out (T i) (U i) i hi hi' x h1 h2 (HSU.out i hi)⟩)
  clear hb hgv hsm7 X_6 C_6 HG6 HM6 HO6 HMVT lX6 cX1 HB6 HMV HMVB
  have hgcb : g < cb := by omega
  have hcb7 : cb < w6.heap.size := by have : w4.heap.size ≤ w5.heap.size := by simpa using z5
                                      omega
  have hg6 : g + 1 ≤ w6.heap.size := by omega
  have hmb6 : g + 1 ≤ mb6 := by have : w4.heap.size ≤ w5.heap.size := by simpa using z5
                                omega
  have hmbc : cb < mb6 := by have : w4.heap.size ≤ w5.heap.size := by simpa using z5
                             omega
  have hON0 : Hid (ColOn f R P X (fun j _ => j < 0) (fun _ => 0)) := Lib.hid (colOn_zero.less (fun j d _ _ h => by omega))
  go_wp2
  go_loopw [32] (fun p wr => ∃ (i : Nat) (G : Nat → Int), i ≤ R.length ∧ p = .int .i64 (i : Int) ∧ Hid (PW w7 wr g q (2 * m) G) ∧ Hid (ColOn f R P X (fun j _ => j < i) G)) (fun p _ => R.length - (intOf p).toNat)
  case atStart => exact ⟨0, _, by omega, rfl, HP7, hON0⟩
  case round =>
    clear HP7 hON0
    obtain ⟨i, G, hi, rfl, HPW, HON⟩ := hrel
    have hzr := HPW.out.kp.size
    have C_r := Lib.hid (C_7.out.keeps HPW.out.kp (.inr (by omega)))
    by_cases hlt : i < R.length
    · have hlt' : (i : Int) < (R.length : Int) := by omega
      have hi0 : (0 : Int) ≤ (i : Int) := by omega
      have hiX : i < X.length := by rw [HLEN.out]; exact hlt
      have HUr := Lib.hid (HU7.out.keeps HPW.out.kp hg6)
      obtain ⟨b7, q7, rfl, lb7, hsix⟩ := gv_get HUr.out.gv hlt
      obtain ⟨x, hxL, hXx, u1, u2, u3, u4, u5, u6, u7⟩ := HWU.out i hlt hiX
      have hSF : Src wr (U i).a (U i).n (U i).f := by
        rcases HUr.out.gv with h0 | ⟨b8, q8, e8, hsrc⟩
        · omega
        · exact hsrc.flds i hlt
      have hxok := HRI.out.ok x hxL
      have hend := placeAt_end P X hiX
      have HWO : Hid (wordsO X[i] = 2 + x.s.toNat) := Lib.hid (by rw [hXx]; rfl)
      rw [HWO.out] at hend
      have HOKU : Hid (HOk (U i).s (U i).m (U i).o (U i).h) := Lib.hid (by rw [u2, u3, u4, u5]; exact hxok.1)
      have hs12 : x.s.toNat ≤ 12 := by have := hxok.1.1; omega
      have hn12 : (U i).n ≤ 12 := by rw [u6]; exact hs12
      have hK400 : placeAt P X i + 2 + (U i).n ≤ 2 * m := by rw [u6]; omega
      have HWD : Hid (∀ d, d < wordsO X[i] → cat 2 (two (1 + 2 * ((U i).s + 16 * ((U i).m + 4096 * (U i).o))) (U i).h) (U i).f d = colAt f R P X X[i] d) := Lib.hid (fun d hd => by rw [u2, u3, u4, u5, hXx]; rw [hXx] at hd; exact u7 d hd)
      have HWN : Hid (wordsO X[i] = 2 + (U i).n) := Lib.hid (by rw [HWO.out, u6])
      obtain ⟨K, hK⟩ : ∃ K, placeAt P X i = K := ⟨_, rfl⟩
      rw [hK] at u1 hend hK400
      have HKK := Lib.hid hK
      have HUA := Lib.hid u1
      clear u1 u2 u3 u4 u5 u6 u7 hXx hK hxok HUr
      generalize U i = t at *
      have X9 := Lib.hid (Blk.new_at (w := wr) (cs := #[.int .i64 t.at_, .int .i64 t.s, .int .i64 t.m, .int .i64 t.o, .int .i64 t.h, .slice t.a t.n t.c]) (t := 102) wr.heap.size rfl)
      have hA9 := (Below.refl wr.heap.size wr).alloc (Nat.le_refl _) (.cells #[.int .i64 t.at_, .int .i64 t.s, .int .i64 t.m, .int .i64 t.o, .int .i64 t.h, .slice t.a t.n t.c] 102)
      have HPA := Lib.hid (HPW.out.below hA9)
      have C_9 := Lib.hid (C_r.out.below hA9)
      have S_9 := Lib.hid (hSF.below hA9)
      have z9 : wr.heap.size + 1 = (wr.alloc (.cells #[.int .i64 t.at_, .int .i64 t.s, .int .i64 t.m, .int .i64 t.o, .int .i64 t.h, .slice t.a t.n t.c] 102)).heap.size := by simp
      clear hA9 hSF
      obtain ⟨s0, s1, s2, s3, s4, s5⟩ := hsix
      have hfi := fld_irs
      go_wp2_with fail
      clear s0 s1 s2 s3 s4 s5
      generalize wr.alloc (.cells #[.int .i64 t.at_, .int .i64 t.s, .int .i64 t.m, .int .i64 t.o, .int .i64 t.h, .slice t.a t.n t.c] 102) = wa at *
      have X9d := Lib.hid X9.out.drew; have HPd := Lib.hid (HPA.out.below (Below.refl _ _).drew); have C9d := Lib.hid C_9.out.drew; have S9d := Lib.hid S_9.out.drew
      have zd : wr.heap.size + 1 = wa.drew.heap.size := by simpa using z9
      go_region_held3 (fun w' => w'.cell? ⟨wr.heap.size, 1, none⟩ = some (.int .i64 t.s) ∧ w'.cell? ⟨wr.heap.size, 2, none⟩ = some (.int .i64 t.m) ∧ w'.cell? ⟨wr.heap.size, 3, none⟩ = some (.int .i64 t.o) ∧ w'.cell? ⟨wr.heap.size, 4, none⟩ = some (.int .i64 t.h) ∧ w'.cell? ⟨wr.heap.size, 5, none⟩ = some (.slice t.a t.n t.c))
        (first | (with_reducible exact five_t X9.out) | (with_reducible exact five_t X9d.out) | (with_reducible exact five_t X_b.out) | (with_reducible exact five_t X_bb.out) | (with_reducible exact five_t X_c.out))
        (first | (go_at_call 54; (refine (implPH_any t.s t.m t.o t.h 0 2 _ _ (.inl ⟨HOKU.out, rfl, rfl, rfl⟩)).mono ?_; rintro e wb ⟨pa, pc, rfl, hpo, hb⟩; have HPB := Lib.hid (HPd.out.below hb); have X_b := Lib.hid (X9d.out.below hb); have C_b := Lib.hid (C9d.out.below hb); have S_b := Lib.hid ((S9d.out.below hb).alloc (.cells #[.slice pa 2 pc, .slice t.a t.n t.c] 22)); have HPO := Lib.hid (hpo.src.alloc (.cells #[.slice pa 2 pc, .slice t.a t.n t.c] 22)); have q0 := Lib.hid (Blk.new_at (w := wb) (cs := #[.slice pa 2 pc, .slice t.a t.n t.c]) (t := 22) wb.heap.size rfl); have X_bb := Lib.hid (X_b.out.alloc (.cells #[.slice pa 2 pc, .slice t.a t.n t.c] 22)); have zb := hb.size; clear hb hpo)) | (go_at_call 53; (refine (concat_opt wb.heap.size pa t.a 2 t.n pc t.c (two (1 + 2 * (t.s + 16 * (t.m + 4096 * t.o))) t.h) t.f _ (by simp) (q0.out.at 0 rfl) (q0.out.at 1 rfl) HPO.out S_b.out (by omega) (by omega) (by omega)).mono ?_; rintro e wc ⟨pa2, pc2, rfl, ho2, hb, hpc1, hpc2, _⟩; have hbc := ((Below.refl wb.heap.size wb).alloc (Nat.le_refl _) (.cells #[.slice pa 2 pc, .slice t.a t.n t.c] 22)).trans (hb.mono (by simp)); have HPC := Lib.hid (HPB.out.below hbc); have X_c := Lib.hid (X_b.out.below hbc); have C_c := Lib.hid (C_b.out.below hbc); have HO2 := Lib.hid ho2.src; have zc := hbc.size; clear hb hbc ho2)))
      have hz7c : w7.heap.size ≤ wc.heap.size := HPC.out.kp.size
      obtain ⟨pb2, pf2, rfl, lpb2, hpc⟩ : ∃ b o, pa2 = some ⟨b, o, none⟩ ∧ b < wc.heap.size ∧ ∀ k, k < 2 + t.n → wc.cell? ⟨b, o + k, none⟩ = some (.int .i64 (cat 2 (two (1 + 2 * (t.s + 16 * (t.m + 4096 * t.o))) t.h) t.f k)) := by
        rcases HO2.out with h0 | h0
        · omega
        · exact h0
      obtain ⟨F, hF⟩ : ∃ F, cat 2 (two (1 + 2 * (t.s + 16 * (t.m + 4096 * t.o))) t.h) t.f = F := ⟨_, rfl⟩
      rw [hF] at hpc HWD
      have hcells := own_get HPC.out.wrd.out (by omega)
      have hsrc : Hid (∀ (j : Nat) (v : Value), (nums (2 + t.n) F)[j]? = some v → wc.cell? ((⟨pb2, pf2, none⟩ : Addr).add j) = some v) := Lib.hid (news_at hpc)
      have hcc : Hid (∀ j, j < (nums (2 + t.n) F).length → (wc.cell? ⟨g, q + K + j, none⟩).isSome = true) := Lib.hid (fun j hj => by
        rw [nums_length] at hj
        have := (hcells.2 (K + j) (by omega)).1
        rw [Nat.add_assoc, this]; rfl)
      have hff : Hid (∀ j, j < (nums (2 + t.n) F).length → wc.frozen? ⟨g, q + K + j, none⟩ = false) := Lib.hid (fun j hj => by
        rw [nums_length] at hj
        have := (hcells.2 (K + j) (by omega)).2
        rw [Nat.add_assoc]; exact this)
      have hmin : Hid ((nums (2 + t.n) F).length = Nat.min (2 + t.n) (2 * m - K)) := Lib.hid (by rw [nums_length]; show 2 + t.n = min (2 + t.n) (2 * m - K); omega)
      have HPN : Hid (PW w7 (wc.setCells g (q + K) (nums (2 + t.n) F)) g q (2 * m) (fun i => if K ≤ i ∧ i < K + (2 + t.n) then F (i - K) else G i)) := Lib.hid ⟨keeps_copy (Nat.le_refl _) (Nat.lt_succ_self _) _ _ _ HPC.out.kp, own_copy HPC.out.wrd K (2 + t.n) F (by omega)⟩
      have HONN : Hid (ColOn f R P X (fun j _ => j < i + 1) (fun i => if K ≤ i ∧ i < K + (2 + t.n) then F (i - K) else G i)) := Lib.hid (by
        refine (HON.out.obj hiX (fun d hd => ?_) (fun k hk => ?_)).less (fun j d _ _ h => by omega)
        · rw [HWN.out] at hd
          rw [HKK.out]
          rw [if_pos ⟨by omega, by omega⟩, show K + d - K = d by omega]
          exact HWD.out d (by rw [HWN.out]; exact hd)
        · rw [HKK.out, HWN.out] at hk
          exact if_neg hk)
      have HRM1 := HRM.out.1
      have hK0 : (0 : Int) ≤ (K : Int) := by omega
      have hKc2 : (K : Int) ≤ 2 * (m : Int) := by omega
      have hKc1 : (K : Int) ≤ ((2 * m : Nat) : Int) := by omega
      have hKtc : ¬ c3 = K := by have h9 : 2 * m ≤ c3 := HRM1
                                 omega
      have lC := C_c.out.1; have cC1 := C_c.out.at 1 rfl
      have lT := X_c.out.1; have cT0 := X_c.out.at 0 rfl
      rw [HUA.out] at cT0
      clear hpc hcells hF HRM1 X9 X9d HPA HPd C_9 C9d S_9 S9d HPB X_b C_b S_b HPO q0 X_bb
      go_wp2_with (with_reducible refine wpList_copy_cells rfl (.tmp 48) (.tmp 49) 22 22 rfl 2 Tryz.underlying22 (by kernel_rfl) g (q + K) (2 * m - K) (c3 - K) ⟨pb2, pf2, none⟩ (2 + t.n) pc2 rfl rfl (nums (2 + t.n) F) hmin.out hsrc.out hcc.out hff.out (nums_one _ _) ?_)
      clear hsrc hcc hff hmin lC cC1 lT cT0
      generalize wc.setCells g (q + K) (nums (2 + t.n) F) = we at *
      go_roundw
      case rel => first | exact ⟨i + 1, _, by omega, by go_num, HPN, HONN⟩ | ((repeat apply Exists.intro); exact ⟨⟨i + 1, _, by omega, by go_num, HPN, HONN⟩, rfl⟩)
      case measure => simp [intOf]; omega
    · have hlt' : ¬ (i : Int) < (R.length : Int) := by omega
      obtain rfl : i = R.length := by omega
      have HCOL : Hid (IsCol f L R P G) := Lib.hid (isCol_of (by rw [HX.out]; exact HON.out.less (fun j d hj _ _ => by have := HLEN.out; omega)))
      have hBr := HPW.out.kp.below (B := w2.heap.size) hgl (by omega)
      have HBr := Lib.hid (HB27.out.trans hBr)
      have HWr := Lib.hid HPW.out.wrd
      have X_r := Lib.hid (X_7.out.keeps HPW.out.kp (.inl (by omega)))
      have HGr := Lib.hid (HG2.out.below (HB27.out.trans hBr))
      have HMr := Lib.hid (HM7.out.keeps HPW.out.kp (.inr hmb6))
      have R_r := Lib.hid ((R_2.out.below HB27.out).keeps HPW.out.kp (.inl (by omega)))
      have lX := X_r.out.1; have cX0 := X_r.out.at 0 rfl; have cX1 := X_r.out.at 1 rfl; have cX2 := X_r.out.at 2 rfl
      have hzr2 := HBr.out.size
      clear hBr HPW HON
      go_wp2_with fail
      refine (words_any 0 (.map (some mb)) a1 R c1 T L f _ HGr.out hrl HSM.out HRI.out.ok).mono ?_
      rintro e wk ⟨rfl, hb⟩
      rw [← HTO.out]
      have C_k := Lib.hid (C_r.out.below hb)
      have HBk := Lib.hid (HBr.out.trans (hb.mono HBr.out.size))
      have HWk := Lib.hid (HWr.out.below hb)
      have HMk := Lib.hid (HMr.out.below hb)
      have R_k := Lib.hid (R_r.out.below hb)
      have hzk := hb.size
      have C_S := Lib.hid (C_k.out.set 3 (by simp) (.int .i64 ((totO X : Nat) : Int)))
      have HBS := Lib.hid (HBk.out.setCell (p := ⟨cb, 3, none⟩) (by show w2.heap.size ≤ cb; omega) (.int .i64 ((totO X : Nat) : Int)))
      have HWS := Lib.hid (HWk.out.setCell (p := ⟨cb, 3, none⟩) (.inr (by show g + 1 ≤ cb; omega)) (.int .i64 ((totO X : Nat) : Int)))
      have HMS := Lib.hid (HMk.out.set (p := ⟨cb, 3, none⟩) (by show mb6 ≠ cb; omega) (.int .i64 ((totO X : Nat) : Int)))
      have R_S := Lib.hid (R_k.out.other (p := ⟨cb, 3, none⟩) (by show cb ≠ w.heap.size + 1; omega) (.int .i64 ((totO X : Nat) : Int)))
      have zS : wk.heap.size = (wk.setCell ⟨cb, 3, none⟩ (.int .i64 ((totO X : Nat) : Int))).heap.size := by simp
      have lC := C_k.out.1; have cC3 := C_k.out.at 3 rfl; have fC3 := C_k.out.free 3 rfl
      clear hb lX cX0 cX1 cX2
      go_upto_region 13 with (fail)
      clear lC cC3 fC3 C_k HBk HWk HMk R_k
      dsimp only [List.set] at C_S
      generalize wk.setCell ⟨cb, 3, none⟩ (.int .i64 ((totO X : Nat) : Int)) = wS at *
      have HRSS := Lib.hid ((HRS.out.below HB2.out).below HBS.out)
      have C_d := Lib.hid C_S.out.drew; have R_d := Lib.hid R_S.out.drew; have HM_d := Lib.hid HMS.out.drew; have HR_d := Lib.hid HRSS.out.drew
      have HB_d := Lib.hid HBS.out.drew
      have HW_d := Lib.hid HWS.out.drew
      have zd : wS.heap.size = wS.drew.heap.size := by simp
      have HPLr : Hid (∀ p ∈ roots, 0 ≤ p ∧ p ≤ 1000000) := Lib.hid (fun p hp => place_bound HK.out HO.out (HALL.out p hp))
      have hne : cb ≠ w.heap.size + 1 := by omega
      go_region_held3 (fun w' => w'.cell? ⟨cb, 0, none⟩ = some (.int .i64 (m : Int)) ∧ w'.cell? ⟨cb, 1, none⟩ = some (.slice (some ⟨g, q, none⟩) (2 * m) c3) ∧ w'.cell? ⟨cb, 2, none⟩ = some (.int .i64 (1 - ac)) ∧ w'.cell? ⟨cb, 3, none⟩ = some (.int .i64 ((totO X : Nat) : Int)))
        (first | (with_reducible exact four_c C_S.out) | (with_reducible exact four_c C_d.out) | (with_reducible exact four_c C_t.out) | (exact four_c (blk_seven C_t.out hne _ _ _ _ _ _ _)))
        (first | (go_at_call 56; (refine (movedRoots_any ra roots rc mb6 nn6 R (fun i => (placeAt P X i : Int)) _ HR_d.out (by omega) HM_d.out HPLr.out).mono ?_; rintro e wt ⟨ra2, rc2, rfl, ho2, hb, hrc1, hrc2, _⟩; have HB_t := Lib.hid (HB_d.out.trans (hb.mono (by omega))); have C_t := Lib.hid (C_d.out.below hb); have R_t := Lib.hid (R_d.out.below hb); have HW_t := Lib.hid (HW_d.out.below hb); have HO_t := Lib.hid ho2; have zt := hb.size; clear hb ho2; have lR := R_t.out.1; have cR0 := R_t.out.at 0 rfl; have cR1 := R_t.out.at 1 rfl; have cR2 := R_t.out.at 2 rfl; have cR3 := R_t.out.at 3 rfl; have cR4 := R_t.out.at 4 rfl; have cR5 := R_t.out.at 5 rfl; have cR6 := R_t.out.at 6 rfl; have fR0 := R_t.out.free 0 rfl; have fR1 := R_t.out.free 1 rfl; have fR2 := R_t.out.free 2 rfl; have fR3 := R_t.out.free 3 rfl; have fR4 := R_t.out.free 4 rfl; have fR5 := R_t.out.free 5 rfl; have fR6 := R_t.out.free 6 rfl)))
      have HRL : Hid ((roots.map fun p => (tab R (fun i => (placeAt P X i : Int)) p).getD 0) = roots.map (goes R (newPlaces P X))) := Lib.hid (List.map_congr_left fun p hp => tab_goes HLEN.out (HRR.out p hp))
      rw [HRL.out] at HO_t
      go_wp2
      refine bodyPost_ret (v := .agg #[.int .i64 0, .int .i64 (m : Int), .slice (some ⟨g, q, none⟩) (2 * m) c3, .int .i64 (1 - ac), .int .i64 ((totO X : Nat) : Int), .slice ra2 roots.length rc2, .int .i64 ((totO X : Nat) : Int)]) (by simp [results, Tryz.results21, go_sem, cR0, cR1, cR2, cR3, cR4, cR5, cR6]) rfl ⟨some ⟨g, q, none⟩, c3, ra2, rc2, wS.heap.size, by simp, ?_, ?_, by omega, by simp; omega, ?_, fun _ => HRM.out⟩
      · have h9 : OwnIn wt g (g + 1) (some ⟨g, q, none⟩) (2 * m) g0 := by
          rcases HW_t.out with h0 | ⟨b, o, e1, e2, e3, e4⟩
          · exact .inl h0
          · exact .inr ⟨b, o, e1, e2, e3, fun k hk => by rw [← isCol_same HCOL.out HG0.out k]; exact e4 k hk⟩
        refine OwnIn.widen (lo := g) (hi := g + 1) ?_ (by omega) (by omega)
        repeat (with_reducible refine OwnIn.setCell ?_ (.inl (by show w.heap.size + 1 < g; omega)) _)
        exact h9
      · show OwnIn _ wS.heap.size _ ra2 (roots.map (goes R (newPlaces P X))).length _
        rw [List.length_map]
        refine OwnIn.widen (lo := wS.heap.size) (hi := wt.heap.size) ?_ (by omega) (by simp)
        repeat (with_reducible refine OwnIn.setCell ?_ (.inl (by show w.heap.size + 1 < wS.heap.size; omega)) _)
        rw [zd]
        exact HO_t.out.into
      · repeat (first | (with_reducible refine Below.setCell ?_ (by (try simp); (try omega)) _) | (with_reducible refine Below.alloc ?_ (by (try simp); (try omega)) _) | (with_reducible refine Below.drew ?_))
        exact HB2.out.trans (HB_t.out.mono HB2.out.size)
end Go.Proofs.YtnpklnpicelcmaaGreat

namespace Go.Proofs.YtnpklnpicelcmaaGreat
open Go.RowKit Go.Maps
set_option linter.unusedVariables false

theorem implCol_any (h ac bu : Int) (a : Option Addr) (n c : Nat) (f : Nat → Int) (ra : Option Addr) (roots : List Int) (rc : Nat) (co : Int) (L : List Ob) (r : CR) (w : World) (hs : Src w a n f) (hcn : n ≤ c) (hcm : c ≤ maxLen) (hrs : Src w ra roots.length (lf roots)) (hk : IsAsk h n f ac bu roots co L) (hr : IsCR h n f ac bu roots co L r) :
    Calls Tryz.prog 21 #[.agg #[.int .i64 h, .slice a n c, .int .i64 ac, .int .i64 bu], .slice ra roots.length rc] w (RetCR w r) := by
  rcases hr with ⟨h0, rfl⟩ | ⟨rfl, g, hg, rfl⟩
  · exact implCol_code h ac bu a n c f ra roots rc co L w hs hcn hcm hrs hk h0
  · obtain ⟨h1, h2, h3, h4⟩ := isAsk_zero hk
    obtain ⟨⟨⟨g1, g2⟩, _⟩, gn, _⟩ := isFault_ok (isOI_zero h2).1
    obtain ⟨m, rfl⟩ : ∃ m : Nat, h = (m : Int) := ⟨h.toNat, by omega⟩
    obtain rfl : n = 2 * m := by omega
    exact implCol_ok m ac bu a c f ra roots rc L w hs hcn hcm hrs h1 h2 h3 h4 g hg
end Go.Proofs.YtnpklnpicelcmaaGreat

namespace Go.Proofs.YtnpklnpicelcmaaGreat
open Go.RowKit Go.Maps
set_option linter.unusedVariables false

def idV : Nat → Int := fun i => (i : Int)

/-- What lies of an object amid a list, for the comparison. -/
structure ObM (w : World) (g1 o g : Nat) (c : Nat) (f : Nat → Int) (x : Ob) : Prop where
  lt : g1 < w.heap.size
  c1 : w.cell? ⟨g1, o + 1, none⟩ = some (.int .i64 x.s)
  c2 : w.cell? ⟨g1, o + 2, none⟩ = some (.int .i64 x.m)
  c3 : w.cell? ⟨g1, o + 3, none⟩ = some (.int .i64 x.o)
  c4 : w.cell? ⟨g1, o + 4, none⟩ = some (.int .i64 x.h)
  c5 : w.cell? ⟨g1, o + 5, none⟩ = some (.slice (some ⟨g, 0, none⟩) x.s.toNat c)
  lg : g < w.heap.size
  fl : ∀ k, k < x.s.toNat → w.cell? ⟨g, k, none⟩ = some (.int .i64 (f (x.at_.toNat + 2 + k)))

theorem ObM.below {w w' : World} {g1 o g c : Nat} {f : Nat → Int} {x : Ob} (h : ObM w g1 o g c f x) (hb : Below w.heap.size w w') : ObM w' g1 o g c f x := by
  have hz := hb.size
  exact ⟨Nat.lt_of_lt_of_le h.lt hz, (hb.cell (p := ⟨g1, o + 1, none⟩) h.lt).trans h.c1, (hb.cell (p := ⟨g1, o + 2, none⟩) h.lt).trans h.c2, (hb.cell (p := ⟨g1, o + 3, none⟩) h.lt).trans h.c3, (hb.cell (p := ⟨g1, o + 4, none⟩) h.lt).trans h.c4, (hb.cell (p := ⟨g1, o + 5, none⟩) h.lt).trans h.c5, Nat.lt_of_lt_of_le h.lg hz, fun k hk => (hb.cell (p := ⟨g, k, none⟩) h.lg).trans (h.fl k hk)⟩
end Go.Proofs.YtnpklnpicelcmaaGreat

namespace Go.Proofs.YtnpklnpicelcmaaGreat
open Go.RowKit Go.Maps
set_option linter.unusedVariables false

/-- What is known of what was reached, where both codes are 0. -/
def InU2 (w : World) (z : Prop) (f : Nat → Int) (L : List Ob) (roots : List Int) (a : Option Addr) (N : Nat) (mv : Option Nat) : Prop :=
  z → N = (reachO f L roots).length ∧ ∃ mb T, mv = some mb ∧ GV w a (reachO f L roots).length T ∧ MapT w mb (reachO f L roots).length (reachO f L roots) idV ∧ ∀ i, i < (reachO f L roots).length → ∃ x, findO L (lf (reachO f L roots) i) = some x ∧ GSame (T i) (obG f x)

theorem InU2.below {w w' : World} {z : Prop} {f : Nat → Int} {L : List Ob} {roots : List Int} {a : Option Addr} {N : Nat} {mv : Option Nat} (h : InU2 w z f L roots a N mv) (hb : Below w.heap.size w w') : InU2 w' z f L roots a N mv := fun hz => by
  obtain ⟨h1, mb, T, h2, h3, h4, h5⟩ := h hz
  exact ⟨h1, mb, T, h2, h3.below hb, h4.below hb, h5⟩
end Go.Proofs.YtnpklnpicelcmaaGreat

namespace Go.Proofs.YtnpklnpicelcmaaGreat
open Go.RowKit Go.Maps
set_option linter.unusedVariables false

structure LA (W w : World) (P : Nat) (h ac bu : Int) (a : Option Addr) (n c : Nat) (f : Nat → Int) (ra : Option Addr) (l : List Int) (h' ac' bu' : Int) (a' : Option Addr) (n' c' : Nat) (f' : Nat → Int) (rb : Option Addr) (l' : List Int) : Prop where
  bel : Below W.heap.size W w
  ab : Blk w P [.int .i64 h, .slice a n c, .int .i64 ac, .int .i64 bu]
  bb : Blk w (P + 1) [.int .i64 h', .slice a' n' c', .int .i64 ac', .int .i64 bu']
  wa : Src w a n f
  ra : Src w ra l.length (lf l)
  wb : Src w a' n' f'
  rb : Src w rb l'.length (lf l')

section

variable {W w w' : World} {P : Nat} {h ac bu : Int} {a : Option Addr} {n c : Nat} {f : Nat → Int} {ra : Option Addr} {l : List Int} {h' ac' bu' : Int} {a' : Option Addr} {n' c' : Nat} {f' : Nat → Int} {rb : Option Addr} {l' : List Int}

theorem LA.below (d : LA W w P h ac bu a n c f ra l h' ac' bu' a' n' c' f' rb l') (hb : Below w.heap.size w w') : LA W w' P h ac bu a n c f ra l h' ac' bu' a' n' c' f' rb l' :=
  ⟨d.bel.trans (hb.mono d.bel.size), d.ab.below hb, d.bb.below hb, d.wa.below hb, d.ra.below hb, d.wb.below hb, d.rb.below hb⟩

theorem LA.drew (d : LA W w P h ac bu a n c f ra l h' ac' bu' a' n' c' f' rb l') : LA W w.drew P h ac bu a n c f ra l h' ac' bu' a' n' c' f' rb l' := d.below (Below.refl _ _).drew

end
end Go.Proofs.YtnpklnpicelcmaaGreat

namespace Go.Proofs.YtnpklnpicelcmaaGreat
open Go.RowKit
set_option linter.unusedVariables false

/-- A node in memory: as an object, with no owner. -/
def FivG (w : World) (b o : Nat) (t : GM) : Prop := w.cell? ⟨b, o, none⟩ = some (.int .i64 t.at_) ∧ w.cell? ⟨b, o + 1, none⟩ = some (.int .i64 t.s) ∧ w.cell? ⟨b, o + 2, none⟩ = some (.int .i64 t.m) ∧ w.cell? ⟨b, o + 3, none⟩ = some (.int .i64 t.h) ∧ w.cell? ⟨b, o + 4, none⟩ = some (.slice t.a t.n t.c)

def FivF (w : World) (b o : Nat) : Prop := w.frozen? ⟨b, o, none⟩ = false ∧ w.frozen? ⟨b, o + 1, none⟩ = false ∧ w.frozen? ⟨b, o + 2, none⟩ = false ∧ w.frozen? ⟨b, o + 3, none⟩ = false ∧ w.frozen? ⟨b, o + 4, none⟩ = false

theorem FivG.block {w w' : World} {b o : Nat} {t : GM} (h : FivG w b o t) (e : w'.heap[b]? = w.heap[b]?) : FivG w' b o t :=
  ⟨(World.cell?_of_block (w := w) (a := ⟨b, o, none⟩) e).trans h.1, (World.cell?_of_block (w := w) (a := ⟨b, o + 1, none⟩) e).trans h.2.1, (World.cell?_of_block (w := w) (a := ⟨b, o + 2, none⟩) e).trans h.2.2.1, (World.cell?_of_block (w := w) (a := ⟨b, o + 3, none⟩) e).trans h.2.2.2.1, (World.cell?_of_block (w := w) (a := ⟨b, o + 4, none⟩) e).trans h.2.2.2.2⟩

theorem FivF.block {w w' : World} {b o : Nat} (h : FivF w b o) (e : w'.heap[b]? = w.heap[b]?) : FivF w' b o :=
  ⟨(World.frozen?_of_block (w := w) (a := ⟨b, o, none⟩) e).trans h.1, (World.frozen?_of_block (w := w) (a := ⟨b, o + 1, none⟩) e).trans h.2.1, (World.frozen?_of_block (w := w) (a := ⟨b, o + 2, none⟩) e).trans h.2.2.1, (World.frozen?_of_block (w := w) (a := ⟨b, o + 3, none⟩) e).trans h.2.2.2.1, (World.frozen?_of_block (w := w) (a := ⟨b, o + 4, none⟩) e).trans h.2.2.2.2⟩

theorem FivG.below {w w' : World} {b o : Nat} {t : GM} (h : FivG w b o t) (hb : Below w.heap.size w w') (hl : b < w.heap.size) : FivG w' b o t := h.block (hb.block b hl)

theorem FivF.below {w w' : World} {b o : Nat} (h : FivF w b o) (hb : Below w.heap.size w w') (hl : b < w.heap.size) : FivF w' b o := h.block (hb.block b hl)

theorem FivG.keeps {w w' : World} {b o lo hi : Nat} {t : GM} (h : FivG w b o t) (hk : Keeps w w' lo hi) (hl : b < w.heap.size) (hd : b < lo ∨ hi ≤ b) : FivG w' b o t := h.block (hk.block b hl hd)

theorem FivF.keeps {w w' : World} {b o lo hi : Nat} (h : FivF w b o) (hk : Keeps w w' lo hi) (hl : b < w.heap.size) (hd : b < lo ∨ hi ≤ b) : FivF w' b o := h.block (hk.block b hl hd)

/-- A row of objects is read. -/
structure NSrc (w : World) (b q N : Nat) (T : Nat → GM) : Prop where
  lt : b < w.heap.size
  six : ∀ i, i < N → FivG w b (q + i * 5) (T i)
  flds : ∀ i, i < N → Src w (T i).a (T i).n (T i).f

/-- A row of objects of the call's own, in blocks from lo to hi. -/
structure NOwn (w : World) (lo hi b q N : Nat) (T : Nat → GM) : Prop where
  glo : lo ≤ b
  ghi : b < hi
  lt : b < w.heap.size
  six : ∀ i, i < N → FivG w b (q + i * 5) (T i)
  free : ∀ i, i < N → FivF w b (q + i * 5)
  flds : ∀ i, i < N → OwnIn w lo hi (T i).a (T i).n (T i).f
  off : ∀ i, i < N → (T i).n = 0 ∨ (T i).g ≠ b
  apart : ∀ i j, i < N → j < N → i ≠ j → (T i).n = 0 ∨ (T j).n = 0 ∨ (T i).g ≠ (T j).g

theorem NOwn.src {w : World} {lo hi b q N : Nat} {T : Nat → GM} (h : NOwn w lo hi b q N T) : NSrc w b q N T := ⟨h.lt, h.six, fun i hi => (h.flds i hi).src⟩

theorem NSrc.below {w w' : World} {b q N : Nat} {T : Nat → GM} (h : NSrc w b q N T) (hb : Below w.heap.size w w') : NSrc w' b q N T :=
  ⟨Nat.lt_of_lt_of_le h.lt hb.size, fun i hi => (h.six i hi).below hb h.lt, fun i hi => (h.flds i hi).below hb⟩

theorem NOwn.below {w w' : World} {lo hi b q N : Nat} {T : Nat → GM} (h : NOwn w lo hi b q N T) (hb : Below w.heap.size w w') : NOwn w' lo hi b q N T :=
  ⟨h.glo, h.ghi, Nat.lt_of_lt_of_le h.lt hb.size, fun i hi => (h.six i hi).below hb h.lt, fun i hi => (h.free i hi).below hb h.lt, fun i hi => (h.flds i hi).below hb, h.off, h.apart⟩

theorem NOwn.keeps {w w' : World} {lo hi lo' hi' b q N : Nat} {T : Nat → GM} (h : NOwn w lo hi b q N T) (hk : Keeps w w' lo' hi') (hd : hi ≤ lo' ∨ hi' ≤ lo) : NOwn w' lo hi b q N T := by
  have h1 := h.glo; have h2 := h.ghi
  exact ⟨h.glo, h.ghi, Nat.lt_of_lt_of_le h.lt hk.size, fun i hi => (h.six i hi).keeps hk h.lt (by omega), fun i hi => (h.free i hi).keeps hk h.lt (by omega), fun i hi => (h.flds i hi).keeps hk hd, h.off, h.apart⟩

theorem NSrc.keeps {w w' : World} {lo hi b q N : Nat} {T : Nat → GM} (h : NSrc w b q N T) (hk : Keeps w w' lo hi) (hd : b < lo ∨ hi ≤ b) (hf : ∀ i, i < N → (T i).n = 0 ∨ (T i).g < lo ∨ hi ≤ (T i).g) : NSrc w' b q N T := by
  refine ⟨Nat.lt_of_lt_of_le h.lt hk.size, fun i hi => (h.six i hi).keeps hk h.lt hd, fun i hi => ?_⟩
  rcases h.flds i hi with h0 | ⟨b', o', he, hl, hc⟩
  · exact .inl h0
  · rcases hf i hi with h0 | hf
    · exact .inl h0
    · have hg : (T i).g = b' := by simp [GM.g, he]
      have e := hk.block b' hl (by omega)
      exact .inr ⟨b', o', he, Nat.lt_of_lt_of_le hl hk.size, fun k hk' => (World.cell?_of_block (w := w) (a := ⟨b', o' + k, none⟩) e).trans (hc k hk')⟩

theorem NSrc.drew {w : World} {b q N : Nat} {T : Nat → GM} (h : NSrc w b q N T) : NSrc w.drew b q N T := h.below (Below.refl _ _).drew

theorem NSrc.alloc {w : World} {b q N : Nat} {T : Nat → GM} (h : NSrc w b q N T) (o : Obj) : NSrc (w.alloc o) b q N T := h.below ((Below.refl _ _).alloc (Nat.le_refl _) o)

theorem NOwn.drew {w : World} {lo hi b q N : Nat} {T : Nat → GM} (h : NOwn w lo hi b q N T) : NOwn w.drew lo hi b q N T := h.below (Below.refl _ _).drew

theorem NOwn.alloc {w : World} {lo hi b q N : Nat} {T : Nat → GM} (h : NOwn w lo hi b q N T) (o : Obj) : NOwn (w.alloc o) lo hi b q N T := h.below ((Below.refl _ _).alloc (Nat.le_refl _) o)

theorem NSrc.congr {w : World} {b q N : Nat} {T U : Nat → GM} (h : NSrc w b q N T) (e : ∀ i, i < N → T i = U i) : NSrc w b q N U :=
  ⟨h.lt, fun i hi => by rw [← e i hi]; exact h.six i hi, fun i hi => by rw [← e i hi]; exact h.flds i hi⟩

theorem NOwn.congr {w : World} {lo hi b q N : Nat} {T U : Nat → GM} (h : NOwn w lo hi b q N T) (e : ∀ i, i < N → T i = U i) : NOwn w lo hi b q N U :=
  ⟨h.glo, h.ghi, h.lt, fun i hi => by rw [← e i hi]; exact h.six i hi, h.free, fun i hi => by rw [← e i hi]; exact h.flds i hi, fun i hi => by rw [← e i hi]; exact h.off i hi, fun i j hi hj hij => by rw [← e i hi, ← e j hj]; exact h.apart i j hi hj hij⟩
end Go.Proofs.YtnpklnpicelcmaaGreat

namespace Go.Proofs.YtnpklnpicelcmaaGreat
open Go.RowKit
set_option linter.unusedVariables false

def NV (w : World) (a : Option Addr) (N : Nat) (T : Nat → GM) : Prop := N = 0 ∨ ∃ b q, a = some ⟨b, q, none⟩ ∧ NSrc w b q N T

def NVO (w : World) (lo hi : Nat) (a : Option Addr) (N : Nat) (T : Nat → GM) : Prop := N = 0 ∨ ∃ b q, a = some ⟨b, q, none⟩ ∧ NOwn w lo hi b q N T

theorem NVO.src {w : World} {lo hi N : Nat} {a : Option Addr} {T : Nat → GM} (h : NVO w lo hi a N T) : NV w a N T := by
  rcases h with h0 | ⟨b, q, e, h⟩
  · exact .inl h0
  · exact .inr ⟨b, q, e, h.src⟩

theorem NV.below {w w' : World} {a : Option Addr} {N : Nat} {T : Nat → GM} (h : NV w a N T) (hb : Below w.heap.size w w') : NV w' a N T := by
  rcases h with h0 | ⟨b, q, e, h⟩
  · exact .inl h0
  · exact .inr ⟨b, q, e, h.below hb⟩

theorem NVO.below {w w' : World} {lo hi N : Nat} {a : Option Addr} {T : Nat → GM} (h : NVO w lo hi a N T) (hb : Below w.heap.size w w') : NVO w' lo hi a N T := by
  rcases h with h0 | ⟨b, q, e, h⟩
  · exact .inl h0
  · exact .inr ⟨b, q, e, h.below hb⟩

theorem NVO.keeps {w w' : World} {lo hi lo' hi' N : Nat} {a : Option Addr} {T : Nat → GM} (h : NVO w lo hi a N T) (hk : Keeps w w' lo' hi') (hd : hi ≤ lo' ∨ hi' ≤ lo) : NVO w' lo hi a N T := by
  rcases h with h0 | ⟨b, q, e, h⟩
  · exact .inl h0
  · exact .inr ⟨b, q, e, h.keeps hk hd⟩

theorem NV.drew {w : World} {a : Option Addr} {N : Nat} {T : Nat → GM} (h : NV w a N T) : NV w.drew a N T := h.below (Below.refl _ _).drew

theorem NV.alloc {w : World} {a : Option Addr} {N : Nat} {T : Nat → GM} (h : NV w a N T) (o : Obj) : NV (w.alloc o) a N T := h.below ((Below.refl _ _).alloc (Nat.le_refl _) o)

theorem NVO.drew {w : World} {lo hi N : Nat} {a : Option Addr} {T : Nat → GM} (h : NVO w lo hi a N T) : NVO w.drew lo hi a N T := h.below (Below.refl _ _).drew

theorem NVO.alloc {w : World} {lo hi N : Nat} {a : Option Addr} {T : Nat → GM} (h : NVO w lo hi a N T) (o : Obj) : NVO (w.alloc o) lo hi a N T := h.below ((Below.refl _ _).alloc (Nat.le_refl _) o)
end Go.Proofs.YtnpklnpicelcmaaGreat

namespace Go.Proofs.YtnpklnpicelcmaaGreat
open Go.RowKit
set_option linter.unusedVariables false

/-- A slot in memory. -/
structure SL where
  g : Int
  nd : Int

def TwoG (w : World) (b o : Nat) (t : SL) : Prop := w.cell? ⟨b, o, none⟩ = some (.int .i64 t.g) ∧ w.cell? ⟨b, o + 1, none⟩ = some (.int .i64 t.nd)

def TwoF (w : World) (b o : Nat) : Prop := w.frozen? ⟨b, o, none⟩ = false ∧ w.frozen? ⟨b, o + 1, none⟩ = false

theorem TwoG.block {w w' : World} {b o : Nat} {t : SL} (h : TwoG w b o t) (e : w'.heap[b]? = w.heap[b]?) : TwoG w' b o t :=
  ⟨(World.cell?_of_block (w := w) (a := ⟨b, o, none⟩) e).trans h.1, (World.cell?_of_block (w := w) (a := ⟨b, o + 1, none⟩) e).trans h.2⟩

theorem TwoF.block {w w' : World} {b o : Nat} (h : TwoF w b o) (e : w'.heap[b]? = w.heap[b]?) : TwoF w' b o :=
  ⟨(World.frozen?_of_block (w := w) (a := ⟨b, o, none⟩) e).trans h.1, (World.frozen?_of_block (w := w) (a := ⟨b, o + 1, none⟩) e).trans h.2⟩

/-- A row of slots is read. -/
structure PSrc (w : World) (b q N : Nat) (T : Nat → SL) : Prop where
  lt : b < w.heap.size
  two : ∀ i, i < N → TwoG w b (q + i * 2) (T i)

/-- A row of slots of the call's own. -/
structure POwn (w : World) (lo hi b q N : Nat) (T : Nat → SL) : Prop where
  glo : lo ≤ b
  ghi : b < hi
  lt : b < w.heap.size
  two : ∀ i, i < N → TwoG w b (q + i * 2) (T i)
  free : ∀ i, i < N → TwoF w b (q + i * 2)

theorem POwn.src {w : World} {lo hi b q N : Nat} {T : Nat → SL} (h : POwn w lo hi b q N T) : PSrc w b q N T := ⟨h.lt, h.two⟩

theorem PSrc.below {w w' : World} {b q N : Nat} {T : Nat → SL} (h : PSrc w b q N T) (hb : Below w.heap.size w w') : PSrc w' b q N T :=
  ⟨Nat.lt_of_lt_of_le h.lt hb.size, fun i hi => (h.two i hi).block (hb.block b h.lt)⟩

theorem POwn.below {w w' : World} {lo hi b q N : Nat} {T : Nat → SL} (h : POwn w lo hi b q N T) (hb : Below w.heap.size w w') : POwn w' lo hi b q N T :=
  ⟨h.glo, h.ghi, Nat.lt_of_lt_of_le h.lt hb.size, fun i hi => (h.two i hi).block (hb.block b h.lt), fun i hi => (h.free i hi).block (hb.block b h.lt)⟩

theorem PSrc.keeps {w w' : World} {lo hi b q N : Nat} {T : Nat → SL} (h : PSrc w b q N T) (hk : Keeps w w' lo hi) (hd : b < lo ∨ hi ≤ b) : PSrc w' b q N T :=
  ⟨Nat.lt_of_lt_of_le h.lt hk.size, fun i hi => (h.two i hi).block (hk.block b h.lt hd)⟩

theorem POwn.keeps {w w' : World} {lo hi lo' hi' b q N : Nat} {T : Nat → SL} (h : POwn w lo hi b q N T) (hk : Keeps w w' lo' hi') (hd : hi ≤ lo' ∨ hi' ≤ lo) : POwn w' lo hi b q N T := by
  have h1 := h.glo; have h2 := h.ghi
  exact ⟨h.glo, h.ghi, Nat.lt_of_lt_of_le h.lt hk.size, fun i hi => (h.two i hi).block (hk.block b h.lt (by omega)), fun i hi => (h.free i hi).block (hk.block b h.lt (by omega))⟩

theorem POwn.congr {w : World} {lo hi b q N : Nat} {T U : Nat → SL} (h : POwn w lo hi b q N T) (e : ∀ i, i < N → T i = U i) : POwn w lo hi b q N U :=
  ⟨h.glo, h.ghi, h.lt, fun i hi => e i hi ▸ h.two i hi, h.free⟩

theorem PSrc.congr {w : World} {b q N : Nat} {T U : Nat → SL} (h : PSrc w b q N T) (e : ∀ i, i < N → T i = U i) : PSrc w b q N U :=
  ⟨h.lt, fun i hi => e i hi ▸ h.two i hi⟩

theorem POwn.widen {w : World} {lo hi lo' hi' b q N : Nat} {T : Nat → SL} (h : POwn w lo hi b q N T) (h1 : lo' ≤ lo) (h2 : hi ≤ hi') : POwn w lo' hi' b q N T :=
  ⟨Nat.le_trans h1 h.glo, Nat.lt_of_lt_of_le h.ghi h2, h.lt, h.two, h.free⟩

def PV (w : World) (a : Option Addr) (N : Nat) (T : Nat → SL) : Prop := N = 0 ∨ ∃ b q, a = some ⟨b, q, none⟩ ∧ PSrc w b q N T

def PVO (w : World) (lo hi : Nat) (a : Option Addr) (N : Nat) (T : Nat → SL) : Prop := N = 0 ∨ ∃ b q, a = some ⟨b, q, none⟩ ∧ POwn w lo hi b q N T

theorem PVO.src {w : World} {lo hi N : Nat} {a : Option Addr} {T : Nat → SL} (h : PVO w lo hi a N T) : PV w a N T := by
  rcases h with h0 | ⟨b, q, ha, h⟩
  · exact .inl h0
  · exact .inr ⟨b, q, ha, h.src⟩

theorem PV.below {w w' : World} {N : Nat} {a : Option Addr} {T : Nat → SL} (h : PV w a N T) (hb : Below w.heap.size w w') : PV w' a N T := by
  rcases h with h0 | ⟨b, q, ha, h⟩
  · exact .inl h0
  · exact .inr ⟨b, q, ha, h.below hb⟩

theorem PVO.below {w w' : World} {lo hi N : Nat} {a : Option Addr} {T : Nat → SL} (h : PVO w lo hi a N T) (hb : Below w.heap.size w w') : PVO w' lo hi a N T := by
  rcases h with h0 | ⟨b, q, ha, h⟩
  · exact .inl h0
  · exact .inr ⟨b, q, ha, h.below hb⟩

theorem PVO.keeps {w w' : World} {lo hi lo' hi' N : Nat} {a : Option Addr} {T : Nat → SL} (h : PVO w lo hi a N T) (hk : Keeps w w' lo' hi') (hd : hi ≤ lo' ∨ hi' ≤ lo) : PVO w' lo hi a N T := by
  rcases h with h0 | ⟨b, q, ha, h⟩
  · exact .inl h0
  · exact .inr ⟨b, q, ha, h.keeps hk hd⟩

theorem PVO.widen {w : World} {lo hi lo' hi' N : Nat} {a : Option Addr} {T : Nat → SL} (h : PVO w lo hi a N T) (h1 : lo' ≤ lo) (h2 : hi ≤ hi') : PVO w lo' hi' a N T := by
  rcases h with h0 | ⟨b, q, ha, h⟩
  · exact .inl h0
  · exact .inr ⟨b, q, ha, h.widen h1 h2⟩

theorem PV.drew {w : World} {N : Nat} {a : Option Addr} {T : Nat → SL} (h : PV w a N T) : PV w.drew a N T := h.below (Below.refl _ _).drew

theorem PV.alloc {w : World} {N : Nat} {a : Option Addr} {T : Nat → SL} (h : PV w a N T) (o : Obj) : PV (w.alloc o) a N T := h.below ((Below.refl _ _).alloc (Nat.le_refl _) o)

theorem PVO.drew {w : World} {lo hi N : Nat} {a : Option Addr} {T : Nat → SL} (h : PVO w lo hi a N T) : PVO w.drew lo hi a N T := h.below (Below.refl _ _).drew

theorem PVO.alloc {w : World} {lo hi N : Nat} {a : Option Addr} {T : Nat → SL} (h : PVO w lo hi a N T) (o : Obj) : PVO (w.alloc o) lo hi a N T := h.below ((Below.refl _ _).alloc (Nat.le_refl _) o)

theorem PV.congr {w : World} {N : Nat} {a : Option Addr} {T U : Nat → SL} (h : PV w a N T) (e : ∀ i, i < N → T i = U i) : PV w a N U := by
  rcases h with h0 | ⟨b, q, ha, h⟩
  · exact .inl h0
  · exact .inr ⟨b, q, ha, h.congr e⟩

theorem PVO.congr {w : World} {lo hi N : Nat} {a : Option Addr} {T U : Nat → SL} (h : PVO w lo hi a N T) (e : ∀ i, i < N → T i = U i) : PVO w lo hi a N U := by
  rcases h with h0 | ⟨b, q, ha, h⟩
  · exact .inl h0
  · exact .inr ⟨b, q, ha, h.congr e⟩

/-- A slot is written. -/
def twoW (w : World) (b o : Nat) (t : SL) : World := (w.setCell ⟨b, o, none⟩ (.int .i64 t.g)).setCell ⟨b, o + 1, none⟩ (.int .i64 t.nd)

theorem twoW_at {w : World} {b o : Nat} {t0 : SL} (h : TwoG w b o t0) (t : SL) : TwoG (twoW w b o t) b o t := by
  obtain ⟨x0, x1⟩ := h
  simp [twoW, TwoG, x0, x1, World.cell?_setCell_other, World.cell?_setCell_same']

theorem twoW_other {w : World} {b o o' : Nat} {u : SL} (h : TwoG w b o u) (hd : o + 2 ≤ o' ∨ o' + 2 ≤ o) (t : SL) : TwoG (twoW w b o' t) b o u := by
  have g : ∀ x, x < 2 → ∀ y, y < 2 → (⟨b, o' + y, none⟩ : Addr) ≠ ⟨b, o + x, none⟩ := fun x hx y hy e => by simp at e; try omega
  have k : ∀ x, x < 2 → (twoW w b o' t).cell? ⟨b, o + x, none⟩ = w.cell? ⟨b, o + x, none⟩ := fun x hx => by
    unfold twoW
    rw [World.cell?_setCell_other _ _ _ _ (g x hx 1 (by omega)), World.cell?_setCell_other _ _ _ _ (show (⟨b, o', none⟩ : Addr) ≠ ⟨b, o + x, none⟩ from g x hx 0 (by omega))]
  exact ⟨(k 0 (by omega)).trans h.1, (k 1 (by omega)).trans h.2⟩

theorem twoW_frozen (w : World) (b o : Nat) (t : SL) (p : Addr) : (twoW w b o t).frozen? p = w.frozen? p := by simp [twoW, World.frozen?_setCell]

theorem twoW_keeps (w : World) (b o : Nat) (t : SL) : Keeps w (twoW w b o t) b (b + 1) := by
  unfold twoW
  refine Keeps.trans ?_ (keeps_setCell (p := ⟨b, o + 1, none⟩) (Nat.le_refl b) (Nat.lt_succ_self b) _)
  exact keeps_setCell (p := ⟨b, o, none⟩) (Nat.le_refl b) (Nat.lt_succ_self b) _

/-- One slot of a row is laid. -/
theorem pown_put {w : World} {lo hi b q N i : Nat} {U : Nat → SL} {t : SL} (h : POwn w lo hi b q N U) (hi' : i < N) : POwn (twoW w b (q + i * 2) t) lo hi b q N (fun j => if j = i then t else U j) ∧ Keeps w (twoW w b (q + i * 2) t) lo hi := by
  have k5 := twoW_keeps w b (q + i * 2) t
  have h1 := h.glo; have h2 := h.ghi
  refine ⟨⟨h.glo, h.ghi, Nat.lt_of_lt_of_le h.lt k5.size, fun j hj => ?_, fun j hj => ?_⟩, k5.widen h1 (by omega)⟩
  · by_cases e : j = i
    · subst e; rw [if_pos rfl]; exact twoW_at (h.two j hj) t
    · rw [if_neg e]; exact twoW_other (h.two j hj) (by omega) t
  · have hf := h.free j hj
    exact ⟨(twoW_frozen _ _ _ _ _).trans hf.1, (twoW_frozen _ _ _ _ _).trans hf.2⟩

def smkd (k : Int) (j : Nat) : SL := ⟨k + 2 * (j : Int), k + 2 * (j : Int) + 1⟩
end Go.Proofs.YtnpklnpicelcmaaGreat

namespace Go.Proofs.YtnpklnpicelcmaaGreat
open Go.RowKit
set_option linter.unusedVariables false

theorem twosG {w : World} {g1 g2 q1 q2 i : Nat} {t u : SL} (h1 : TwoG w g1 (q1 + i * 2) t) (h2 : TwoG w g2 (q2 + i * 2) u) : w.cell? ⟨g1, q1 + i * 2, none⟩ = some (.int .i64 t.g) ∧ w.cell? ⟨g1, q1 + i * 2 + 1, none⟩ = some (.int .i64 t.nd) ∧ w.cell? ⟨g2, q2 + i * 2, none⟩ = some (.int .i64 u.g) ∧ w.cell? ⟨g2, q2 + i * 2 + 1, none⟩ = some (.int .i64 u.nd) := ⟨h1.1, h1.2, h2.1, h2.2⟩
end Go.Proofs.YtnpklnpicelcmaaGreat

namespace Go.Proofs.YtnpklnpicelcmaaGreat
open Go.RowKit
set_option linter.unusedVariables false

/-- A new row of slots that holds the same. -/
def RetSlots (W : World) (N : Nat) (T : Nat → SL) (e : Ending) (w' : World) : Prop :=
  ∃ a c, e = .returned (.slice a N c) ∧ PVO w' W.heap.size w'.heap.size a N T ∧ Below W.heap.size W w'
end Go.Proofs.YtnpklnpicelcmaaGreat

namespace Go.Proofs.YtnpklnpicelcmaaGreat
open Go.RowKit
set_option linter.unusedVariables false

def RetCol3 (W : World) (f : Nat → Int) (L : List Ob) (R : List Int) (P : Nat) (X : List Ob) (roots : List Int) (h ac : Int) (n : Nat) (e : Ending) (w' : World) : Prop :=
  ∃ (a : Option Addr) (c : Nat) (ra : Option Addr) (rc mid : Nat) (g : Nat → Int), e = .returned (.tuple #[.agg #[.int .i64 h, .slice a n c, .int .i64 (1 - ac), .int .i64 (totO X : Int)], .slice ra roots.length rc]) ∧
    IsCol f L R P g ∧ OwnIn w' W.heap.size mid a n g ∧ w'.ownsRow mid 2 1 (.slice ra roots.length rc) roots.length (nums roots.length (lf (roots.map (goes R (newPlaces P X))))) ∧ mid ≤ w'.heap.size ∧ W.heap.size ≤ mid ∧ Below W.heap.size W w' ∧ n ≤ c ∧ c ≤ maxLen

set_option maxRecDepth 100000 in
set_option maxHeartbeats 6400000 in
theorem l4CollectR_any (b m : Nat) (ac bu : Int) (a : Option Addr) (c : Nat) (f : Nat → Int) (ra : Option Addr) (roots : List Int) (rc : Nat) (L : List Ob) (w : World) (hB : Blk w b [.int .i64 (m : Int), .slice a (2 * m) c, .int .i64 ac, .int .i64 bu]) (hs : Src w a (2 * m) f) (hcn : 2 * m ≤ c) (hcm : c ≤ maxLen) (hrs : Src w ra roots.length (lf roots)) (hk : IsSF (m : Int) (2 * m) f ac bu 0) (ho : IsOI (m : Int) (2 * m) f ac bu 0 L) (h60 : roots.length ≤ 60) (hall : ∀ p ∈ roots, p ∈ placesO L) :
    Calls Tryz.prog 42 #[.pointer (some ⟨b, 0, none⟩), .slice ra roots.length rc] w (RetCol3 w f L (reachO f L roots) (baseI (1 - ac) (m : Int)).toNat (objsO L (reachO f L roots)) roots (m : Int) ac (2 * m)) := by
  have hri := right_of hk ho
  have hsub := reachO_sub hri.points hri.size hall
  have hlen := objsO_length hsub
  have htot := tot_fits hk ho hall
  have hsm := reach_small (co := 0) (roots := roots) (.inr (.inr (.inr ⟨hk, ho, h60, hall, rfl⟩)))
  rw [outR_zero] at hsm
  have hrl := hsm.1
  obtain ⟨⟨⟨g1, g2⟩, ⟨g3, g4⟩, g5, g6⟩, gn, gw⟩ := isFault_ok (isOI_zero ho).1
  obtain ⟨P, hP⟩ : ∃ P : Nat, baseI (1 - ac) (m : Int) = (P : Int) := ⟨(baseI (1 - ac) (m : Int)).toNat, by have := baseI_bd (ac := 1 - ac) g1; omega⟩
  have hPm : P ≤ m := by have := baseI_bd (ac := 1 - ac) g1; omega
  have hPt : (baseI (1 - ac) (m : Int)).toNat = P := by omega
  obtain ⟨R, hR⟩ : ∃ R, reachO f L roots = R := ⟨_, rfl⟩
  obtain ⟨X, hX⟩ : ∃ X, objsO L R = X := ⟨_, rfl⟩
  rw [hPt, hR, hX]
  rw [hR] at hsub hlen htot hrl
  rw [hX] at hlen htot
  have hfit : P + totO X ≤ 2 * m := by omega
  have HB := Lib.hid hB; have HS := Lib.hid hs; have HK := Lib.hid hk; have HCM := Lib.hid hcm; have HRS := Lib.hid hrs; have HO := Lib.hid ho; have HALL := Lib.hid hall; have HRI := Lib.hid hri; have HSUB := Lib.hid hsub; have HLEN := Lib.hid hlen; have HP := Lib.hid hP; have HR := Lib.hid hR; have HX := Lib.hid hX
  have lb := HB.out.1; have cb0 := HB.out.at 0 rfl; have cb1 := HB.out.at 1 rfl; have cb2 := HB.out.at 2 rfl; have cb3 := HB.out.at 3 rfl
  obtain ⟨i0, hif, hz0, hz1, hz2⟩ := info_parts Tryz.info2
  clear hB hs hk hcm hrs ho hall hri hsub hlen hP hR hX hPt gn gw hsm htot
  go_enter Tryz.func42, Tryz.ntmps42
  go_wp2_with fail
  have HB0 := Lib.hid ((Below.refl w.heap.size w).alloc (Nat.le_refl _) (.cells #[.int .i64 0, .slice none 0 0, .int .i64 0, .int .i64 0] 29))
  have X0 := Lib.hid (Blk.new_at (w := w) (cs := #[.int .i64 0, .slice none 0 0, .int .i64 0, .int .i64 0]) (t := 29) w.heap.size rfl)
  have z0 : w.heap.size + 1 ≤ (w.alloc (.cells #[.int .i64 0, .slice none 0 0, .int .i64 0, .int .i64 0] 29)).heap.size := by simp
  generalize w.alloc (.cells #[.int .i64 0, .slice none 0 0, .int .i64 0, .int .i64 0] 29) = w0 at *
  refine (l3Objs_any b (m : Int) ac bu a (2 * m) c f L _ (HB.out.below HB0.out) (HS.out.below HB0.out) hcn HCM.out HO.out).mono ?_
  rintro e w1 ⟨hb, v, M, hL, rfl, hm⟩
  have HB1 := Lib.hid (thru0 HB0.out hb)
  have X1 := Lib.hid (X0.out.below hb)
  have HM := Lib.hid hm
  have HL := Lib.hid hL
  have z1 := hb.size
  clear hb hm hL X0 HB0
  go_wp2_with fail
  refine (l4Reach_any v M w0.heap.size w0.heap.size ra roots rc f _ HM.out (by rw [← HL.out]; exact HRI.out.points) (HRS.out.below HB1.out) (by omega) (by rw [← HL.out]; exact HALL.out)).mono ?_
  rw [← HL.out, HR.out]
  rintro e w2 ⟨a2, c2, rfl, ho2, hb, h21, h22, h23⟩
  have HB2 := Lib.hid (thru0 HB1.out hb)
  have X2 := Lib.hid (X1.out.below hb)
  have HM2 := Lib.hid (HM.out.below hb)
  have HR2 := Lib.hid ho2.src
  have z2 := hb.size
  clear hb ho2 h21 h22 h23 X1 HB1 HM
  have cw0 := (HB.out.below HB2.out).at 0 rfl
  have cw2 := (HB.out.below HB2.out).at 2 rfl
  clear cb0 cb1 cb2 cb3
  go_wp2_with fail
  refine (l1New_any m _ (by omega)).mono ?_
  rintro e w3 ⟨a3, c3, rfl, ho3, hb, h31, h32, h33⟩
  obtain ⟨g, q, rfl, hgl, hgs⟩ : ∃ g q, a3 = some ⟨g, q, none⟩ ∧ w2.heap.size ≤ g ∧ g < w3.heap.size := by
    rcases ho3 with h0 | ⟨g, q, e1, e2, e3, _⟩
    · omega
    · exact ⟨g, q, e1, e2, e3⟩
  have z3 := hb.size
  have HB3 := Lib.hid hb
  have HO3 := Lib.hid (ho3.into.widen (Nat.le_refl _) (Nat.le_succ _))
  have HC3 := Lib.hid (And.intro h31 h32)
  have cz2 := ((HB.out.below HB2.out).below hb).at 2 rfl
  clear hb ho3 h32 h33 cw0 cw2
  have lb3 : b < w3.heap.size := by omega
  go_wp2_with fail
  have HCS : Hid (CS w2 ((w3.alloc (.cells #[.int .i64 (m : Int), .slice (some ⟨g, q, none⟩) (2 * m) c3, .int .i64 (1 - ac), .int .i64 0] 29)).alloc (.cells #[] 2)) w3.heap.size g q (m : Int) (1 - ac) 0 (2 * m) c3 (.slice (some ⟨w3.heap.size + 1, 0, none⟩) 0 0) [] (fun _ => 0)) := Lib.hid (by
    refine ⟨(((HB3.out).alloc z3 _).alloc (by simp; omega) _), (Blk.new_at w3.heap.size rfl).alloc _, (HO3.out.alloc _).alloc _, ?_⟩
    have h9 := World.ownsRow_lit (w3.alloc (.cells #[.int .i64 (m : Int), .slice (some ⟨g, q, none⟩) (2 * m) c3, .int .i64 (1 - ac), .int .i64 0] 29)) #[] 0 (e := 2) (size := 1) (Nat.le_refl _) (by simp [maxLen]) rfl
    simpa [nums] using h9)
  have hw2 : w2.heap.size ≤ w3.heap.size := z3
  have HT0 : Hid (CS w2 ((w3.alloc (.cells #[.int .i64 (m : Int), .slice (some ⟨g, q, none⟩) (2 * m) c3, .int .i64 (1 - ac), .int .i64 0] 29)).alloc (.cells #[] 2)) w3.heap.size g q (m : Int) (1 - ac) ((totO (X.take 0) : Nat) : Int) (2 * m) c3 (.slice (some ⟨w3.heap.size + 1, 0, none⟩) 0 0) [] (fun _ => 0)) := HCS
  clear HCS HO3 HB3 cz2
  generalize (w3.alloc (.cells #[.int .i64 (m : Int), .slice (some ⟨g, q, none⟩) (2 * m) c3, .int .i64 (1 - ac), .int .i64 0] 29)).alloc (.cells #[] 2) = w5 at *
  clear z3 lb3
  generalize w3.heap.size = b3 at *
  obtain ⟨a1, k1, rfl⟩ := row_nil HM2.out.row
  go_loopw [10, 11] (fun u p wr => ∃ (i : Nat) (l : List Int) (G : Nat → Int), i ≤ R.length ∧ p = .int .i64 (i : Int) ∧ l.length = i ∧ Hid (CS w2 wr b3 g q (m : Int) (1 - ac) ((totO (X.take i) : Nat) : Int) (2 * m) c3 u l G) ∧ Hid (l = (newPlaces P X).take i) ∧ Hid (ColOn f R P X (fun j d => j < i ∧ d < 2) G)) (fun _ p _ => R.length - (intOf p).toNat)
  case atStart => exact ⟨0, [], fun _ => 0, by omega, rfl, rfl, HT0, Lib.hid (by simp), Lib.hid (colOn_zero.less (fun j d _ _ h => by omega))⟩
  case round =>
    clear HT0
    obtain ⟨i, l, G, hi, rfl, hll, HC, HLL, HON⟩ := hrel
    have hl4 : l.length ≤ 400 := by omega
    have HLI := Lib.hid hll
    clear hll
    have hbw := HC.out.bel.size
    have hbl := HC.out.arn.1
    by_cases hlt : i < R.length
    · have hlt' : (i : Int) < (R.length : Int) := by omega
      have hi0 : (0 : Int) ≤ (i : Int) := by omega
      have hiX : i < X.length := by rw [HLEN.out]; exact hlt
      obtain ⟨rb, ro, rfl, hrb, hrc⟩ := src_some (HR2.out.below HC.out.bel) (by omega)
      have c0 := hrc i hlt
      obtain ⟨y, hy⟩ : ∃ y, lf R i = y := ⟨_, rfl⟩
      obtain ⟨x, hx⟩ : ∃ x, X[i] = x := ⟨_, rfl⟩
      have HF : Hid (findO L y = some x) := Lib.hid (by
        have h9 := objsO_get HSUB.out i hlt (by rw [HX.out]; exact hiX)
        rw [← hy, ← hx, lf_at hlt, h9]
        simp only [HX.out])
      have HXX := Lib.hid hx
      rw [hy] at c0
      clear hrc hy hx
      go_wp2_with fail
      refine ((HM2.out.below HC.out.bel).find y).mono ?_
      rintro e w' ⟨rfl, hf⟩
      rw [← HL.out] at hf
      rcases hf with ⟨hf, rfl⟩ | ⟨j, x', hf, hx, rfl⟩
      · rw [HF.out] at hf; cases hf
      rw [HF.out] at hf
      obtain rfl := Option.some.inj hf
      rw [HL.out] at hx
      obtain ⟨g1, c1, gg, cc, e1, hjm, l1, x0, x1, x2, x3, x4, x5, lg, hfc, ⟨s0, s1⟩, hmm, hat, hwd⟩ := HM2.out.get hx
      simp only [Value.slice.injEq] at e1
      obtain ⟨rfl, -, rfl⟩ := e1
      have hj' : (j : Int) < (M.length : Int) := by omega
      have hj0 : (0 : Int) ≤ (j : Int) := by omega
      have HOKX := Lib.hid (HRI.out.ok x (List.mem_of_find?_eq_some HF.out))
      have hend := placeAt_end P X hiX
      have HWO : Hid (wordsO X[i] = 2 + x.s.toNat) := Lib.hid (by rw [HXX.out]; rfl)
      rw [HWO.out] at hend
      have HPL : Hid (placeAt P X i = P + totO (X.take i)) := Lib.hid rfl
      have HTT : Hid (((totO (X.take i) : Nat) : Int) + (x.s + 2) = ((totO (X.take (i + 1)) : Nat) : Int)) := Lib.hid (by rw [totO_take X hiX, HWO.out]; omega)
      obtain ⟨K, hK⟩ : ∃ K, placeAt P X i = K := ⟨_, rfl⟩
      rw [hK] at hend
      have HKK := Lib.hid hK
      have HHD := Lib.hid (show HdAt w2 g1 (j * 6 + 1) x.s x.m x.o x.h from ⟨l1, x1, x2, x3, x4⟩)
      clear hf hx hfc hwd hat x0 x1 x2 x3 x4 x5 lg hK hmm
      go_wp2_with fail
      refine (l3Put_at w2.heap.size (b3 + 1) b3 g1 (j * 6 + 1) g q P (totO (X.take i)) K (m : Int) (1 - ac) x.s x.m x.o x.h (2 * m) c3 G _ ⟨⟨hw2, by omega⟩, ⟨hgl, by omega⟩, by omega, by omega, by omega⟩ (by omega) HC.out.arn (HHD.out.below HC.out.bel) HC.out.wrd (by omega) (by omega) (by omega) (by omega) HP.out (by omega) (by rw [← HKK.out]; exact HPL.out) (by omega) HOKX.out.1).mono ?_
      rintro e w6 ⟨rfl, hA, hO, hk⟩
      rw [HTT.out] at hA
      have HC6 := Lib.hid (HC.out.put hw2 hk hA hO)
      have HON6 : Hid (ColOn f R P X (fun j d => j < i + 1 ∧ d < 2) (upd (upd G K (1 + 2 * (x.s + 16 * (x.m + 4096 * x.o)))) (K + 1) x.h)) := Lib.hid (by
        have q1 := HON.out.put hiX (d := 0) (by rw [HWO.out]; omega) (K := K) (by rw [HKK.out]; rfl) (v := 1 + 2 * (x.s + 16 * (x.m + 4096 * x.o))) (by unfold colAt; rw [if_pos rfl, HXX.out]; rfl)
        have q2 := q1.put hiX (d := 1) (by rw [HWO.out]; omega) (K := K + 1) (by rw [HKK.out]) (v := x.h) (by unfold colAt; rw [if_neg (by omega), if_pos rfl, HXX.out])
        exact q2.less (fun j d _ _ h => by omega))
      have hz6 := hk.size
      have hbl6 := hA.1
      clear hA hO hk HC HON c0
      obtain ⟨la, lc, rfl, -⟩ := row_src HC6.out.row
      have HLN : Hid (l ++ [(K : Int)] = (newPlaces P X).take (i + 1)) := Lib.hid (by rw [newPlaces_take P X hiX, ← HLL.out, HKK.out])
      go_wp2_with (at_builtin; go_loud (refine wpList_append_lies _ rfl _ _ 22 rfl (b3 + 1) 2 i0 (.int .i64 0) 1 8 Tryz.underlying22 hif hz0 hz1 hz2 rfl (by decide) (.slice la l.length lc) l.length (nums l.length (lf l)) rfl (ownsRow_below HC6.out.row ((Below.refl _ _).alloc (Nat.le_refl _) _)) ⟨w6.heap.size, 0, none⟩ 1 1 [.int .i64 (K : Int)] rfl rfl (news1 w6 (K : Int)) (by intro u hu; simp only [List.mem_cons, List.mem_nil_iff, or_false] at hu; subst hu; rfl) (by omega) (by unfold maxLen; omega) (by omega) (by simp; omega) (w6.heap.size + 1) (by simp) ?_); intro g9 cap9 w9 hown9 hgrow9 hat9 hlt9)
      have HC9 := Lib.hid (HC6.out.append hw2 hgrow9 (u' := .slice (some ⟨g9, 0, none⟩) (l.length + 1) cap9) (l' := l ++ [(K : Int)]) (by rw [show (l ++ [(K : Int)]).length = l.length + 1 by simp, ← nums_snoc]; exact hown9))
      clear hown9 hgrow9 hat9 HC6
      go_wp2
      go_roundw
      case rel => first | exact ⟨i + 1, l ++ [(K : Int)], _, by omega, by go_num, by rw [List.length_append, HLI.out]; rfl, HC9, HLN, HON6⟩ | ((repeat apply Exists.intro); exact ⟨⟨i + 1, l ++ [(K : Int)], _, by omega, by go_num, by rw [List.length_append, HLI.out]; rfl, HC9, HLN, HON6⟩, rfl⟩)
      case measure => simp [intOf]; omega
    · have hlt' : ¬ (i : Int) < (R.length : Int) := by omega
      obtain rfl : i = R.length := by omega
      obtain ⟨Q, hQ⟩ : ∃ Q, newPlaces P X = Q := ⟨_, rfl⟩
      have hlq : l = Q := by rw [HLL.out, hQ, List.take_of_length_le (by rw [← hQ, newPlaces_length, HLEN.out]; exact Nat.le_refl _)]
      subst hlq
      have HQL : Hid (l.length = R.length) := HLI
      have HQA : Hid (∀ i, i < R.length → lf l i = (placeAt P X i : Int)) := Lib.hid (fun i hi => by rw [← hQ]; exact newPlaces_lf P X (by rw [HLEN.out]; exact hi))
      have HQ := Lib.hid hQ
      have HC1 : Hid (CS w2 wr b3 g q (m : Int) (1 - ac) ((totO X : Nat) : Int) (2 * m) c3 u10 l G) := Lib.hid (by
        have h9 := HC.out
        rwa [List.take_of_length_le (by rw [HLEN.out]; exact Nat.le_refl _)] at h9)
      have HON1 : Hid (ColOn f R P X (fun j d => d < 2 ∨ j < 0) G) := Lib.hid (HON.out.less (fun j d hj _ h => by have := HLEN.out; omega))
      clear HC HON HLL HLI hQ
      obtain ⟨pa, pc, rfl, -⟩ := row_src HC1.out.row
      have HQX : Hid (l = newPlaces P X) := Lib.hid HQ.out.symm
      generalize l = Q at *
      clear HQ
      go_wp2
      go_loopw [12] (fun p wr => ∃ (i : Nat) (G : Nat → Int), i ≤ R.length ∧ p = .int .i64 (i : Int) ∧ Hid (CS w2 wr b3 g q (m : Int) (1 - ac) ((totO X : Nat) : Int) (2 * m) c3 (.slice pa Q.length pc) Q G) ∧ Hid (ColOn f R P X (fun j d => d < 2 ∨ j < i) G)) (fun p _ => R.length - (intOf p).toNat)
      case atStart => exact ⟨0, G, by omega, rfl, HC1, HON1⟩
      case round =>
        clear HC1 HON1 hbw hbl
        obtain ⟨i, G, hi, rfl, HC, HON⟩ := hrel
        have hbw := HC.out.bel.size
        have hbl := HC.out.arn.1
        by_cases hlt : i < R.length
        · have hlt' : (i : Int) < (R.length : Int) := by omega
          have hi0 : (0 : Int) ≤ (i : Int) := by omega
          have hiX : i < X.length := by rw [HLEN.out]; exact hlt
          obtain ⟨rb, ro, rfl, hrb, hrc⟩ := src_some (HR2.out.below HC.out.bel) (by omega)
          have c0 := hrc i hlt
          obtain ⟨y, hy⟩ : ∃ y, lf R i = y := ⟨_, rfl⟩
          obtain ⟨x, hx⟩ : ∃ x, X[i] = x := ⟨_, rfl⟩
          have HF : Hid (findO L y = some x) := Lib.hid (by
            have h9 := objsO_get HSUB.out i hlt (by rw [HX.out]; exact hiX)
            rw [← hy, ← hx, lf_at hlt, h9]
            simp only [HX.out])
          have HXX := Lib.hid hx
          have HYR : Hid (y ∈ R) := Lib.hid (hy ▸ lf_mem hlt)
          rw [hy] at c0
          clear hrc hy hx
          go_wp2_with fail
          refine ((HM2.out.below HC.out.bel).find y).mono ?_
          rintro e w' ⟨rfl, hf⟩
          rw [← HL.out] at hf
          rcases hf with ⟨hf, rfl⟩ | ⟨j, x', hf, hx, rfl⟩
          · rw [HF.out] at hf; cases hf
          rw [HF.out] at hf
          obtain rfl := Option.some.inj hf
          rw [HL.out] at hx
          obtain ⟨g1, c1, gg, cc, e1, hjm, l1, x0, x1, x2, x3, x4, x5, lg, hfc, ⟨s0, s1⟩, hmm, hat, hwd⟩ := HM2.out.get hx
          simp only [Value.slice.injEq] at e1
          obtain ⟨rfl, -, rfl⟩ := e1
          have hj' : (j : Int) < (M.length : Int) := by omega
          have hj0 : (0 : Int) ≤ (j : Int) := by omega
          have HFC := Lib.hid hfc; have HWD := Lib.hid hwd
          have hend := placeAt_end P X hiX
          have HWO : Hid (wordsO X[i] = 2 + x.s.toNat) := Lib.hid (by rw [HXX.out]; rfl)
          rw [HWO.out] at hend
          obtain ⟨K, hK⟩ : ∃ K, placeAt P X i = K := ⟨_, rfl⟩
          rw [hK] at hend
          have HKK := Lib.hid hK
          clear hf hx hfc hwd hat x0 x3 x4 hK
          have HC0 : Hid (ColOn f R P X (fun j d => d < 2 ∨ j < i ∨ (j = i ∧ d < 2 + 0)) G) := Lib.hid (HON.out.less (fun j d _ _ h => by omega))
          go_wp2
          go_loopw [14] (fun p wr => ∃ (k : Nat) (G : Nat → Int), (k : Int) ≤ x.s ∧ p = .int .i64 (k : Int) ∧ Hid (CS w2 wr b3 g q (m : Int) (1 - ac) ((totO X : Nat) : Int) (2 * m) c3 (.slice pa Q.length pc) Q G) ∧ Hid (ColOn f R P X (fun j d => d < 2 ∨ j < i ∨ (j = i ∧ d < 2 + k)) G)) (fun p _ => x.s.toNat - (intOf p).toNat)
          case atStart => exact ⟨0, G, by omega, rfl, HC, HC0⟩
          case round =>
            clear HC HC0 HON c0 hbw hbl
            obtain ⟨k, G, hks, rfl, HCQ, HONQ⟩ := hrel
            have hbw := HCQ.out.bel.size
            have hbl := HCQ.out.arn.1
            have x1q := (HCQ.out.bel.cell (p := ⟨g1, j * 6 + 1, none⟩) l1).trans x1
            have x2q := (HCQ.out.bel.cell (p := ⟨g1, j * 6 + 2, none⟩) l1).trans x2
            have x5q := (HCQ.out.bel.cell (p := ⟨g1, j * 6 + 5, none⟩) l1).trans x5
            have l1q : g1 < wr.heap.size := by omega
            by_cases hltk : (k : Int) < x.s
            · have hkt : k < x.s.toNat := by omega
              have hkn : (k : Int) < (x.s.toNat : Int) := by omega
              have hk0 : (0 : Int) ≤ (k : Int) := by omega
              have fk := (HCQ.out.bel.cell (p := ⟨gg, k, none⟩) lg).trans (HFC.out k hkt)
              obtain ⟨w1', w2'⟩ := HWD.out k hkt
              have HRS2 := Lib.hid (fun q => (HR2.out.below HCQ.out.bel).below (drewN_below wr q))
              have HCD := Lib.hid (fun q => HCQ.out.below (drewN_below wr q))
              have HTG := Lib.hid (fun hb h0 => by
                have h9 := reach_target (L := L) (roots := roots) HK.out HO.out HALL.out (y := y) (by rw [HR.out]; exact HYR.out) HF.out hkt hb h0
                rw [HR.out] at h9
                exact goes_mem (Q := newPlaces P X) h9)
              obtain ⟨Y, hY⟩ : ∃ Y, f (x.at_.toNat + 2 + k) = Y := ⟨_, rfl⟩
              have HY := Lib.hid hY
              rw [hY] at fk w1' w2' HTG
              clear hY
              have hdd : x.m / P2 k % 2 = 1 ∨ x.m / P2 k % 2 = 0 := by omega
              rcases hdd with hd | hd
              · by_cases h0 : Y = 0
                · have HB1' := Lib.hid hd
                  subst h0
                  clear HTG HRS2
                  go_wp2_with fail
                  refine (l2Pointer_at g1 (j * 6 + 1) k x.m true _ x2q hmm (by omega) (by rw [hd]; rfl)).mono ?_
                  rintro e w5 ⟨rfl, q5, rfl⟩
                  have HC6 := Lib.hid (HCD.out q5)
                  clear HCD x1q x2q x5q fk HCQ hbw hbl
                  have hbw6 := HC6.out.bel.size
                  have hbl6 := HC6.out.arn.1
                  generalize wr.drewN q5 = w6 at *
                  clear hd
                  go_wp2
                  obtain ⟨pb, po, rfl, hpb, hpl, hpc⟩ : ∃ pb po, pa = some ⟨pb, po, none⟩ ∧ b3 + 1 ≤ pb ∧ pb < w6.heap.size ∧ ∀ i, i < Q.length → w6.cell? ⟨pb, po + i, none⟩ = some (.int .i64 (lf Q i)) := by
                    rcases own_of_row HC6.out.row with h0 | ⟨pb, po, e1, e2, e3, e4⟩
                    · have := HQL.out; omega
                    · exact ⟨pb, po, e1, e2, e3, fun i hi => (e4 i hi).1⟩
                  have hci := hpc i (by have := HQL.out; omega)
                  rw [HQA.out i hlt, HKK.out] at hci
                  have A6 := Lib.hid HC6.out.arn
                  have hgb : g ≠ b3 := by omega
                  have hgp : g ≠ pb := by omega
                  have Ad := Lib.hid A6.out.drew
                  have Aw := Lib.hid ((A6.out.other (p := ⟨g, q + (K + 2 + k), none⟩) hgb (.int .i64 0)).drew)
                  have Aw2 := Lib.hid (Ad.out.other (p := ⟨g, q + (K + 2 + k), none⟩) hgb (.int .i64 0))
                  have hcd : w6.drew.cell? ⟨pb, po + i, none⟩ = some (.int .i64 (K : Int)) := ((Below.refl w6.heap.size w6).drew.cell (p := ⟨pb, po + i, none⟩) hpl).trans hci
                  have hcw : (w6.setCell ⟨g, q + (K + 2 + k), none⟩ (.int .i64 0)).drew.cell? ⟨pb, po + i, none⟩ = some (.int .i64 (K : Int)) := by
                    have h1 : (w6.setCell ⟨g, q + (K + 2 + k), none⟩ (.int .i64 0)).cell? ⟨pb, po + i, none⟩ = some (.int .i64 (K : Int)) := by rw [World.cell?_setCell_other _ _ _ _ (fun e => hgp (by have := congrArg Addr.block e; first | exact this | exact this.symm))]; exact hci
                    simpa using h1
                  have hcw2 : (w6.drew.setCell ⟨g, q + (K + 2 + k), none⟩ (.int .i64 0)).cell? ⟨pb, po + i, none⟩ = some (.int .i64 (K : Int)) := by
                    rw [World.cell?_setCell_other _ _ _ _ (fun e => hgp (by have := congrArg Addr.block e; first | exact this | exact this.symm))]; exact hcd
                  have a1 := A6.out.at 1 rfl
                  have la := A6.out.1
                  have hkI0 : (0 : Int) ≤ (K : Int) + 2 + (k : Int) := by omega
                  have hkI1 : (K : Int) + 2 + (k : Int) < ((2 * m : Nat) : Int) := by omega
                  have hkI1' : (K : Int) + 2 + (k : Int) < 2 * (m : Int) := by omega
                  have hpi0 : (i : Int) < (Q.length : Int) := by have := HQL.out; omega
                  have hi0' : (0 : Int) ≤ (i : Int) := by omega
                  obtain ⟨dd, hdd⟩ := ownIn_cell3 HC6.out.wrd (K + 2 + k) (by omega)
                  have hdf := (hdd.2).2
                  have hgl6 := hdd.1
                  have hd6 := (hdd.2).1
                  have HC9 : Hid (CS w2 ((w6.setCell ⟨g, q + (K + 2 + k), none⟩ (.int .i64 0)).drew) b3 g q (m : Int) (1 - ac) ((totO X : Nat) : Int) (2 * m) c3 (.slice (some ⟨pb, po, none⟩) Q.length pc) Q (upd G (K + 2 + k) 0)) := Lib.hid
                    ((HC6.out.put hw2 (keeps_setCell (p := ⟨g, q + (K + 2 + k), none⟩) hgl (by show g < b3 + 1; omega) (.int .i64 0)) (HC6.out.arn.other hgb _) (ownIn_put HC6.out.wrd (K + 2 + k) (by omega) 0)).below (Below.refl _ _).drew)
                  have HON9 : Hid (ColOn f R P X (fun j d => d < 2 ∨ j < i ∨ (j = i ∧ d < 2 + (k + 1))) (upd G (K + 2 + k) 0)) := Lib.hid (by
                    have q1 := HONQ.out.put hiX (d := 2 + k) (by rw [HWO.out]; omega) (K := K + 2 + k) (by rw [HKK.out]; omega) (v := 0) (by
                      unfold colAt
                      rw [if_neg (by omega), if_neg (by omega), show 2 + k - 2 = k by omega, HXX.out]
                      unfold mapF; rw [if_neg (fun h => h.2 HY.out), HY.out])
                    exact q1.less (fun j d _ _ h => by omega))
                  have HDD := Lib.hid hdd
                  clear hpc hdd
                  have hwA : IntKind.i64.wrap ((K : Int) + 2) = (K : Int) + 2 := IntWalk.i64_in _ (by omega)
                  have hwB : IntKind.i64.wrap ((K : Int) + 2 + (k : Int)) = (K : Int) + 2 + (k : Int) := IntWalk.i64_in _ (by omega)
                  have hwC : ((K : Int) + 2 + (k : Int)).toNat = K + 2 + k := by omega
                  go_region_held3 (fun w' => w'.cell? ⟨b3, 1, none⟩ = some (.slice (some ⟨g, q, none⟩) (2 * m) c3) ∧ w'.cell? ⟨pb, po + i, none⟩ = some (.int .i64 (K : Int)))
                    (first | (with_reducible exact two_cells A6.out hci) | (with_reducible exact two_cells Ad.out hcd) | (with_reducible exact two_cells Aw.out hcw) | (with_reducible exact two_cells Aw2.out hcw2))
                    (fail)
                  clear hwA hwB hwC hcw hcw2 hcd a1 A6 Ad Aw Aw2 hd6 hdf
                  generalize (w6.setCell ⟨g, q + (K + 2 + k), none⟩ (.int .i64 0)).drew = w9 at *
                  go_wp2
                  go_roundw
                  case rel => first | exact ⟨k + 1, _, by omega, by go_num, HC9, HON9⟩ | ((repeat apply Exists.intro); exact ⟨⟨k + 1, _, by omega, by go_num, HC9, HON9⟩, rfl⟩)
                  case measure => simp [intOf]; omega
                · obtain ⟨t, ht1, ht2, ht3⟩ := HTG.out hd h0
                  have HNI : Hid (numI R (Y - 1) = (t : Int)) := Lib.hid (by unfold numI; rw [ht1])
                  obtain ⟨z, hz⟩ : ∃ z : Nat, placeAt P X t = z := ⟨_, rfl⟩
                  have hzb : z ≤ 400 := by have := placeAt_top P X t; omega
                  have HG3 : Hid (goes R (newPlaces P X) (Y - 1) = (z : Int)) := Lib.hid (by rw [ht3, newPlaces_get P X (by rw [HLEN.out]; exact ht2), hz])
                  have HZ := Lib.hid hz
                  have HB1' := Lib.hid hd
                  have HB2' := Lib.hid h0
                  have h0b : (Y != 0) = true := by simpa using h0
                  clear h0
                  clear HTG ht1 ht3 hz
                  go_wp2_with fail
                  refine (l2Pointer_at g1 (j * 6 + 1) k x.m true _ x2q hmm (by omega) (by rw [hd]; rfl)).mono ?_
                  rintro e w5 ⟨rfl, q5, rfl⟩
                  have HC6 := Lib.hid (HCD.out q5)
                  have HR6 := Lib.hid (HRS2.out q5)
                  clear HCD HRS2 x1q x2q x5q fk HCQ hbw hbl
                  have hbw6 := HC6.out.bel.size
                  have hbl6 := HC6.out.arn.1
                  generalize wr.drewN q5 = w6 at *
                  clear hd
                  go_wp2_with fail
                  refine (l4Number_any (some ⟨rb, ro, none⟩) R c2 (Y - 1) _ HR6.out (by omega)).mono ?_
                  rintro e w' ⟨rfl, rfl⟩
                  rw [HNI.out]
                  obtain ⟨pb, po, rfl, hpb, hpl, hpc⟩ : ∃ pb po, pa = some ⟨pb, po, none⟩ ∧ b3 + 1 ≤ pb ∧ pb < w6.heap.size ∧ ∀ i, i < Q.length → w6.cell? ⟨pb, po + i, none⟩ = some (.int .i64 (lf Q i)) := by
                    rcases own_of_row HC6.out.row with h0 | ⟨pb, po, e1, e2, e3, e4⟩
                    · have := HQL.out; omega
                    · exact ⟨pb, po, e1, e2, e3, fun i hi => (e4 i hi).1⟩
                  have hzc := hpc t (by have := HQL.out; omega)
                  rw [HQA.out t ht2, HZ.out] at hzc
                  have htq : (t : Int) < (Q.length : Int) := by have := HQL.out; omega
                  have ht0 : (0 : Int) ≤ (t : Int) := by omega
                  go_wp2
                  have hci := hpc i (by have := HQL.out; omega)
                  rw [HQA.out i hlt, HKK.out] at hci
                  have A6 := Lib.hid HC6.out.arn
                  have hgb : g ≠ b3 := by omega
                  have hgp : g ≠ pb := by omega
                  have Ad := Lib.hid A6.out.drew
                  have Aw := Lib.hid ((A6.out.other (p := ⟨g, q + (K + 2 + k), none⟩) hgb (.int .i64 ((z : Int) + 1))).drew)
                  have Aw2 := Lib.hid (Ad.out.other (p := ⟨g, q + (K + 2 + k), none⟩) hgb (.int .i64 ((z : Int) + 1)))
                  have hcd : w6.drew.cell? ⟨pb, po + i, none⟩ = some (.int .i64 (K : Int)) := ((Below.refl w6.heap.size w6).drew.cell (p := ⟨pb, po + i, none⟩) hpl).trans hci
                  have hcw : (w6.setCell ⟨g, q + (K + 2 + k), none⟩ (.int .i64 ((z : Int) + 1))).drew.cell? ⟨pb, po + i, none⟩ = some (.int .i64 (K : Int)) := by
                    have h1 : (w6.setCell ⟨g, q + (K + 2 + k), none⟩ (.int .i64 ((z : Int) + 1))).cell? ⟨pb, po + i, none⟩ = some (.int .i64 (K : Int)) := by rw [World.cell?_setCell_other _ _ _ _ (fun e => hgp (by have := congrArg Addr.block e; first | exact this | exact this.symm))]; exact hci
                    simpa using h1
                  have hcw2 : (w6.drew.setCell ⟨g, q + (K + 2 + k), none⟩ (.int .i64 ((z : Int) + 1))).cell? ⟨pb, po + i, none⟩ = some (.int .i64 (K : Int)) := by
                    rw [World.cell?_setCell_other _ _ _ _ (fun e => hgp (by have := congrArg Addr.block e; first | exact this | exact this.symm))]; exact hcd
                  have a1 := A6.out.at 1 rfl
                  have la := A6.out.1
                  have hkI0 : (0 : Int) ≤ (K : Int) + 2 + (k : Int) := by omega
                  have hkI1 : (K : Int) + 2 + (k : Int) < ((2 * m : Nat) : Int) := by omega
                  have hkI1' : (K : Int) + 2 + (k : Int) < 2 * (m : Int) := by omega
                  have hpi0 : (i : Int) < (Q.length : Int) := by have := HQL.out; omega
                  have hi0' : (0 : Int) ≤ (i : Int) := by omega
                  obtain ⟨dd, hdd⟩ := ownIn_cell3 HC6.out.wrd (K + 2 + k) (by omega)
                  have hdf := (hdd.2).2
                  have hgl6 := hdd.1
                  have hd6 := (hdd.2).1
                  have HC9 : Hid (CS w2 ((w6.setCell ⟨g, q + (K + 2 + k), none⟩ (.int .i64 ((z : Int) + 1))).drew) b3 g q (m : Int) (1 - ac) ((totO X : Nat) : Int) (2 * m) c3 (.slice (some ⟨pb, po, none⟩) Q.length pc) Q (upd G (K + 2 + k) ((z : Int) + 1))) := Lib.hid
                    ((HC6.out.put hw2 (keeps_setCell (p := ⟨g, q + (K + 2 + k), none⟩) hgl (by show g < b3 + 1; omega) (.int .i64 ((z : Int) + 1))) (HC6.out.arn.other hgb _) (ownIn_put HC6.out.wrd (K + 2 + k) (by omega) ((z : Int) + 1))).below (Below.refl _ _).drew)
                  have HON9 : Hid (ColOn f R P X (fun j d => d < 2 ∨ j < i ∨ (j = i ∧ d < 2 + (k + 1))) (upd G (K + 2 + k) ((z : Int) + 1))) := Lib.hid (by
                    have q1 := HONQ.out.put hiX (d := 2 + k) (by rw [HWO.out]; omega) (K := K + 2 + k) (by rw [HKK.out]; omega) (v := (z : Int) + 1) (by
                      unfold colAt
                      rw [if_neg (by omega), if_neg (by omega), show 2 + k - 2 = k by omega, HXX.out]
                      unfold mapF; rw [if_pos ⟨HB1'.out, fun h => HB2'.out (HY.out.symm.trans h)⟩, HY.out, HG3.out])
                    exact q1.less (fun j d _ _ h => by omega))
                  have HDD := Lib.hid hdd
                  clear hpc hdd
                  have hwA : IntKind.i64.wrap ((K : Int) + 2) = (K : Int) + 2 := IntWalk.i64_in _ (by omega)
                  have hwB : IntKind.i64.wrap ((K : Int) + 2 + (k : Int)) = (K : Int) + 2 + (k : Int) := IntWalk.i64_in _ (by omega)
                  have hwC : ((K : Int) + 2 + (k : Int)).toNat = K + 2 + k := by omega
                  go_region_held3 (fun w' => w'.cell? ⟨b3, 1, none⟩ = some (.slice (some ⟨g, q, none⟩) (2 * m) c3) ∧ w'.cell? ⟨pb, po + i, none⟩ = some (.int .i64 (K : Int)))
                    (first | (with_reducible exact two_cells A6.out hci) | (with_reducible exact two_cells Ad.out hcd) | (with_reducible exact two_cells Aw.out hcw) | (with_reducible exact two_cells Aw2.out hcw2))
                    (fail)
                  clear hwA hwB hwC hcw hcw2 hcd a1 A6 Ad Aw Aw2 hd6 hdf
                  generalize (w6.setCell ⟨g, q + (K + 2 + k), none⟩ (.int .i64 ((z : Int) + 1))).drew = w9 at *
                  go_wp2
                  go_roundw
                  case rel => first | exact ⟨k + 1, _, by omega, by go_num, HC9, HON9⟩ | ((repeat apply Exists.intro); exact ⟨⟨k + 1, _, by omega, by go_num, HC9, HON9⟩, rfl⟩)
                  case measure => simp [intOf]; omega
              · have HB1' : Hid (¬ x.m / P2 (k : Int) % 2 = 1) := Lib.hid (by omega)
                clear HTG HRS2
                go_wp2_with fail
                refine (l2Pointer_at g1 (j * 6 + 1) k x.m false _ x2q hmm (by omega) (by rw [hd]; rfl)).mono ?_
                rintro e w5 ⟨rfl, q5, rfl⟩
                have HC6 := Lib.hid (HCD.out q5)
                clear HCD x1q x2q x5q fk HCQ hbw hbl
                have hbw6 := HC6.out.bel.size
                have hbl6 := HC6.out.arn.1
                generalize wr.drewN q5 = w6 at *
                clear hd
                go_wp2
                obtain ⟨pb, po, rfl, hpb, hpl, hpc⟩ : ∃ pb po, pa = some ⟨pb, po, none⟩ ∧ b3 + 1 ≤ pb ∧ pb < w6.heap.size ∧ ∀ i, i < Q.length → w6.cell? ⟨pb, po + i, none⟩ = some (.int .i64 (lf Q i)) := by
                  rcases own_of_row HC6.out.row with h0 | ⟨pb, po, e1, e2, e3, e4⟩
                  · have := HQL.out; omega
                  · exact ⟨pb, po, e1, e2, e3, fun i hi => (e4 i hi).1⟩
                have hci := hpc i (by have := HQL.out; omega)
                rw [HQA.out i hlt, HKK.out] at hci
                have A6 := Lib.hid HC6.out.arn
                have hgb : g ≠ b3 := by omega
                have hgp : g ≠ pb := by omega
                have Ad := Lib.hid A6.out.drew
                have Aw := Lib.hid ((A6.out.other (p := ⟨g, q + (K + 2 + k), none⟩) hgb (.int .i64 (Y))).drew)
                have Aw2 := Lib.hid (Ad.out.other (p := ⟨g, q + (K + 2 + k), none⟩) hgb (.int .i64 (Y)))
                have hcd : w6.drew.cell? ⟨pb, po + i, none⟩ = some (.int .i64 (K : Int)) := ((Below.refl w6.heap.size w6).drew.cell (p := ⟨pb, po + i, none⟩) hpl).trans hci
                have hcw : (w6.setCell ⟨g, q + (K + 2 + k), none⟩ (.int .i64 (Y))).drew.cell? ⟨pb, po + i, none⟩ = some (.int .i64 (K : Int)) := by
                  have h1 : (w6.setCell ⟨g, q + (K + 2 + k), none⟩ (.int .i64 (Y))).cell? ⟨pb, po + i, none⟩ = some (.int .i64 (K : Int)) := by rw [World.cell?_setCell_other _ _ _ _ (fun e => hgp (by have := congrArg Addr.block e; first | exact this | exact this.symm))]; exact hci
                  simpa using h1
                have hcw2 : (w6.drew.setCell ⟨g, q + (K + 2 + k), none⟩ (.int .i64 (Y))).cell? ⟨pb, po + i, none⟩ = some (.int .i64 (K : Int)) := by
                  rw [World.cell?_setCell_other _ _ _ _ (fun e => hgp (by have := congrArg Addr.block e; first | exact this | exact this.symm))]; exact hcd
                have a1 := A6.out.at 1 rfl
                have la := A6.out.1
                have hkI0 : (0 : Int) ≤ (K : Int) + 2 + (k : Int) := by omega
                have hkI1 : (K : Int) + 2 + (k : Int) < ((2 * m : Nat) : Int) := by omega
                have hkI1' : (K : Int) + 2 + (k : Int) < 2 * (m : Int) := by omega
                have hpi0 : (i : Int) < (Q.length : Int) := by have := HQL.out; omega
                have hi0' : (0 : Int) ≤ (i : Int) := by omega
                obtain ⟨dd, hdd⟩ := ownIn_cell3 HC6.out.wrd (K + 2 + k) (by omega)
                have hdf := (hdd.2).2
                have hgl6 := hdd.1
                have hd6 := (hdd.2).1
                have HC9 : Hid (CS w2 ((w6.setCell ⟨g, q + (K + 2 + k), none⟩ (.int .i64 (Y))).drew) b3 g q (m : Int) (1 - ac) ((totO X : Nat) : Int) (2 * m) c3 (.slice (some ⟨pb, po, none⟩) Q.length pc) Q (upd G (K + 2 + k) (Y))) := Lib.hid
                  ((HC6.out.put hw2 (keeps_setCell (p := ⟨g, q + (K + 2 + k), none⟩) hgl (by show g < b3 + 1; omega) (.int .i64 (Y))) (HC6.out.arn.other hgb _) (ownIn_put HC6.out.wrd (K + 2 + k) (by omega) (Y))).below (Below.refl _ _).drew)
                have HON9 : Hid (ColOn f R P X (fun j d => d < 2 ∨ j < i ∨ (j = i ∧ d < 2 + (k + 1))) (upd G (K + 2 + k) (Y))) := Lib.hid (by
                  have q1 := HONQ.out.put hiX (d := 2 + k) (by rw [HWO.out]; omega) (K := K + 2 + k) (by rw [HKK.out]; omega) (v := Y) (by
                    unfold colAt
                    rw [if_neg (by omega), if_neg (by omega), show 2 + k - 2 = k by omega, HXX.out]
                    unfold mapF; rw [if_neg (fun h => HB1'.out h.1), HY.out])
                  exact q1.less (fun j d _ _ h => by omega))
                have HDD := Lib.hid hdd
                clear hpc hdd
                have hwA : IntKind.i64.wrap ((K : Int) + 2) = (K : Int) + 2 := IntWalk.i64_in _ (by omega)
                have hwB : IntKind.i64.wrap ((K : Int) + 2 + (k : Int)) = (K : Int) + 2 + (k : Int) := IntWalk.i64_in _ (by omega)
                have hwC : ((K : Int) + 2 + (k : Int)).toNat = K + 2 + k := by omega
                go_region_held3 (fun w' => w'.cell? ⟨b3, 1, none⟩ = some (.slice (some ⟨g, q, none⟩) (2 * m) c3) ∧ w'.cell? ⟨pb, po + i, none⟩ = some (.int .i64 (K : Int)))
                  (first | (with_reducible exact two_cells A6.out hci) | (with_reducible exact two_cells Ad.out hcd) | (with_reducible exact two_cells Aw.out hcw) | (with_reducible exact two_cells Aw2.out hcw2))
                  (fail)
                clear hwA hwB hwC hcw hcw2 hcd a1 A6 Ad Aw Aw2 hd6 hdf
                generalize (w6.setCell ⟨g, q + (K + 2 + k), none⟩ (.int .i64 (Y))).drew = w9 at *
                go_wp2
                go_roundw
                case rel => first | exact ⟨k + 1, _, by omega, by go_num, HC9, HON9⟩ | ((repeat apply Exists.intro); exact ⟨⟨k + 1, _, by omega, by go_num, HC9, HON9⟩, rfl⟩)
                case measure => simp [intOf]; omega
            · have HON2 : Hid (ColOn f R P X (fun j d => d < 2 ∨ j < i + 1) G) := Lib.hid (HONQ.out.less (fun j d hj hd h => by
                by_cases hji : j = i
                · subst hji
                  have := HWO.out
                  omega
                · omega))
              go_wp2
              go_roundw
              case rel => first | exact ⟨i + 1, G, by omega, by go_num, HCQ, HON2⟩ | ((repeat apply Exists.intro); exact ⟨⟨i + 1, G, by omega, by go_num, HCQ, HON2⟩, rfl⟩)
              case measure => simp [intOf]; omega
        · have hlt' : ¬ (i : Int) < (R.length : Int) := by omega
          obtain rfl : i = R.length := by omega
          have HCOL : Hid (IsCol f L R P G) := Lib.hid (isCol_of (by rw [HX.out]; exact HON.out.less (fun j d hj _ _ => by have := HLEN.out; omega)))
          clear hbw hbl HON
          generalize wr = w7 at *
          have HB7 := Lib.hid (HB2.out.trans (HC.out.bel.mono HB2.out.size))
          have hz7 := HB7.out.size
          have hz72 := HC.out.bel.size
          have hb37 := HC.out.arn.1
          have OW7 : Hid ((w7.alloc (.cells #[] 2)).ownsRow w7.heap.size 2 1 (.slice (some ⟨w7.heap.size, 0, none⟩) 0 0) ([] : List Int).length (nums ([] : List Int).length (lf []))) := Lib.hid (by
            have h9 := World.ownsRow_lit w7 #[] 0 (e := 2) (size := 1) (Nat.le_refl _) (by simp [maxLen]) rfl
            simpa [nums] using h9)
          have HA7 : Hid (Below w7.heap.size w7 (w7.alloc (.cells #[] 2))) := Lib.hid ((Below.refl _ _).alloc (Nat.le_refl _) _)
          go_wp2
          generalize w7.alloc (.cells #[] 2) = w8 at *
          go_loopw [16, 17] (fun u p wr => ∃ (i : Nat) (l : List Int), i ≤ roots.length ∧ p = .int .i64 (i : Int) ∧ l.length = i ∧ Hid (Below w7.heap.size w7 wr) ∧ Hid (wr.ownsRow w7.heap.size 2 1 u l.length (nums l.length (lf l))) ∧ Hid (l = (roots.map (goes R (newPlaces P X))).take i)) (fun _ p _ => roots.length - (intOf p).toNat)
          case atStart => exact ⟨0, [], by omega, rfl, rfl, HA7, OW7, Lib.hid (by simp)⟩
          case round =>
            clear HA7 OW7
            obtain ⟨i, l, hi, rfl, hll, HB, OW, HLL⟩ := hrel
            have hl4 : l.length ≤ 400 := by omega
            have HLI := Lib.hid hll
            have hzr := HB.out.size
            clear hll
            by_cases hlt : i < roots.length
            · have hlt' : (i : Int) < (roots.length : Int) := by omega
              have hi0 : (0 : Int) ≤ (i : Int) := by omega
              obtain ⟨rb, ro, rfl, hrb, hrc⟩ := src_some ((HRS.out.below HB7.out).below HB.out) (by omega)
              have c0 := hrc i hlt
              have HYR : Hid (lf roots i ∈ R) := Lib.hid (by rw [← HR.out]; exact reachO_roots f L roots _ (lf_mem hlt))
              have HLA : Hid ((roots.map (goes R (newPlaces P X))).take (i + 1) = (roots.map (goes R (newPlaces P X))).take i ++ [goes R (newPlaces P X) (lf roots i)]) := Lib.hid (by
                rw [List.take_succ_eq_append_getElem (by simpa using hlt), lf_at hlt]; simp)
              obtain ⟨y, hy⟩ : ∃ y, lf roots i = y := ⟨_, rfl⟩
              rw [hy] at c0 HYR HLA
              obtain ⟨t, ht1, ht2, ht3⟩ := goes_mem (Q := newPlaces P X) HYR.out
              have HNI : Hid (numI R y = (t : Int)) := Lib.hid (by unfold numI; rw [ht1])
              obtain ⟨z, hz⟩ : ∃ z : Nat, placeAt P X t = z := ⟨_, rfl⟩
              have HG3 : Hid (goes R (newPlaces P X) y = (z : Int)) := Lib.hid (by rw [ht3, newPlaces_get P X (by rw [HLEN.out]; exact ht2), hz])
              have HZ := Lib.hid hz
              clear hrc hy ht1 ht3 hz
              have HR7 := Lib.hid ((HR2.out.below HC.out.bel).below HB.out)
              obtain ⟨pb, po, rfl, hpb, hpl, hpc⟩ : ∃ pb po, pa = some ⟨pb, po, none⟩ ∧ b3 + 1 ≤ pb ∧ pb < w7.heap.size ∧ ∀ i, i < Q.length → w7.cell? ⟨pb, po + i, none⟩ = some (.int .i64 (lf Q i)) := by
                rcases own_of_row HC.out.row with h0 | ⟨pb, po, e1, e2, e3, e4⟩
                · have := HQL.out; omega
                · exact ⟨pb, po, e1, e2, e3, fun i hi => (e4 i hi).1⟩
              have hzc := hpc t (by have := HQL.out; omega)
              rw [HQA.out t ht2, HZ.out] at hzc
              have hzd := (HB.out.cell (p := ⟨pb, po + t, none⟩) hpl).trans hzc
              have hplr : pb < wr.heap.size := by omega
              have htq : (t : Int) < (Q.length : Int) := by have := HQL.out; omega
              have ht0 : (0 : Int) ≤ (t : Int) := by omega
              clear hpc hzc
              obtain ⟨la, lc, rfl, -⟩ := row_src OW.out
              have HGE : Hid (∀ k, (Value.slice la l.length lc).ownBlock = some k → w7.heap.size ≤ k) := Lib.hid (fun k hk => (OW.out.lt k hk).1)
              go_wp2_with fail
              refine (l4Number_any a2 R c2 y _ HR7.out (by omega)).mono ?_
              rintro e w' ⟨rfl, rfl⟩
              rw [HNI.out]
              go_wp2_with (at_builtin; go_loud (refine wpList_append_lies _ rfl _ _ 22 rfl (w7.heap.size) 2 i0 (.int .i64 0) 1 8 Tryz.underlying22 hif hz0 hz1 hz2 rfl (by decide) (.slice la l.length lc) l.length (nums l.length (lf l)) rfl (ownsRow_below OW.out ((Below.refl _ _).alloc (Nat.le_refl _) _)) ⟨wr.heap.size, 0, none⟩ 1 1 [.int .i64 (z : Int)] rfl rfl (news1 wr (z : Int)) (by intro u hu; simp only [List.mem_cons, List.mem_nil_iff, or_false] at hu; subst hu; rfl) (by omega) (by unfold maxLen; omega) (by omega) (by simp; omega) (wr.heap.size + 1) (by simp) ?_); intro g9 cap9 w9 hown9 hgrow9 hat9 hlt9)
              have HB9 : Hid (Below w7.heap.size w7 w9) := Lib.hid ((HB.out.alloc hzr _).grown hgrow9 (by simp; omega) (fun k hk => HGE.out k hk))
              have OW9 : Hid (w9.ownsRow w7.heap.size 2 1 (.slice (some ⟨g9, 0, none⟩) (l.length + 1) cap9) (l ++ [(z : Int)]).length (nums (l ++ [(z : Int)]).length (lf (l ++ [(z : Int)])))) := Lib.hid (by rw [show (l ++ [(z : Int)]).length = l.length + 1 by simp, ← nums_snoc]; exact hown9)
              have HLL9 : Hid (l ++ [(z : Int)] = (roots.map (goes R (newPlaces P X))).take (i + 1)) := Lib.hid (by rw [HLA.out, ← HLL.out, HG3.out])
              clear hown9 hgrow9 hat9 hzd c0
              go_wp2
              go_roundw
              case rel => first | exact ⟨i + 1, l ++ [(z : Int)], by omega, by go_num, by rw [List.length_append, HLI.out]; rfl, HB9, OW9, HLL9⟩ | ((repeat apply Exists.intro); exact ⟨⟨i + 1, l ++ [(z : Int)], by omega, by go_num, by rw [List.length_append, HLI.out]; rfl, HB9, OW9, HLL9⟩, rfl⟩)
              case measure => simp [intOf]; omega
            · have hlt' : ¬ (i : Int) < (roots.length : Int) := by omega
              obtain rfl : i = roots.length := by omega
              have hle : l = roots.map (goes R (newPlaces P X)) := by rw [HLL.out, List.take_of_length_le (by simp)]
              have HLE := Lib.hid hle
              clear hle
              have AF := Lib.hid (HC.out.arn.below HB.out)
              have XF := Lib.hid ((X2.out.below HC.out.bel).below HB.out)
              have WF := Lib.hid (HC.out.wrd.below HB.out)
              have HBF := Lib.hid (HB7.out.trans (HB.out.mono hz7))
              obtain ⟨la, lc, rfl, hlo⟩ := own_of_row' OW.out
              have HLO := Lib.hid hlo
              clear hlo
              have lA := AF.out.1; have cA0 := AF.out.at 0 rfl; have cA1 := AF.out.at 1 rfl; have cA2 := AF.out.at 2 rfl; have cA3 := AF.out.at 3 rfl
              have lX := XF.out.1; have cX0 := XF.out.at 0 rfl; have fX0 := XF.out.free 0 rfl; have cX1 := XF.out.at 1 rfl; have fX1 := XF.out.free 1 rfl; have cX2 := XF.out.at 2 rfl; have fX2 := XF.out.free 2 rfl; have cX3 := XF.out.at 3 rfl; have fX3 := XF.out.free 3 rfl
              go_wp2
              have hneX : ∀ k, (⟨w.heap.size, k, none⟩ : Addr).block < w2.heap.size := fun k => by show w.heap.size < w2.heap.size; omega
              refine bodyPost_ret (v := .tuple #[.agg #[.int .i64 (m : Int), .slice (some ⟨g, q, none⟩) (2 * m) c3, .int .i64 (1 - ac), .int .i64 ((totO X : Nat) : Int)], .slice la l.length lc]) (by simp [results, Tryz.results42, go_sem, cX0, cX1, cX2, cX3]) rfl ⟨some ⟨g, q, none⟩, c3, la, lc, w7.heap.size, G, by rw [HLI.out], HCOL.out, ?_, ?_, ?_, hz7, ?_, HC3.out⟩
              · refine OwnIn.widen (lo := w2.heap.size) (hi := b3 + 1) ?_ (by omega) (by omega)
                repeat (with_reducible refine OwnIn.setCell ?_ (.inl (hneX _)) _)
                exact WF.out
              · rw [← HLE.out, ← HLI.out]
                refine row_keeps (w := wr) (lo := w.heap.size) (hi := w.heap.size + 1) OW.out ?_ (by omega)
                repeat (refine Keeps.trans ?_ (keeps_setCell (Nat.le_refl _) (Nat.lt_succ_self _) _))
                exact Keeps.refl _ _ _
              · simp; omega
              · repeat (first | (with_reducible refine Below.setCell ?_ (by (try simp); (try omega)) _) | (with_reducible refine Below.alloc ?_ (by (try simp); (try omega)) _) | (with_reducible refine Below.drew ?_))
                exact HBF.out
end Go.Proofs.YtnpklnpicelcmaaGreat

namespace Go.Proofs.YtnpklnpicelcmaaGreat
open Go.RowKit Go.Maps
set_option linter.unusedVariables false

/-- What is carried through the draw of alike: the source, the bytes, the two answers' blocks, the arena, its words, the roots. -/
structure DA (W w : World) (ca : Option Addr) (k kc : Nat) (B : Nat → Int) (t P : Nat) (h ac bu : Int) (a : Option Addr) (n c : Nat) (f : Nat → Int) (ra : Option Addr) (l : List Int) : Prop where
  bel : Below W.heap.size W w
  src : Blk w (W.heap.size + 2) [.slice ca k kc, .int .i64 (t : Int)]
  byt : SrcB w (W.heap.size + 2) ca k B
  r0 : Blk w W.heap.size [.int .i64 0, .slice none 0 0, .int .i64 0, .int .i64 0]
  r1 : Blk w (W.heap.size + 1) [.int .i64 0, .slice none 0 0, .int .i64 0, .int .i64 0]
  arn : Blk w P [.int .i64 h, .slice a n c, .int .i64 ac, .int .i64 bu]
  wrd : OwnIn w (W.heap.size + 3) P a n f
  rts : OwnIn w (W.heap.size + 3) P ra l.length (lf l)
  hP : W.heap.size + 3 ≤ P

theorem DA.below {W w w' : World} {ca : Option Addr} {k kc t P : Nat} {B : Nat → Int} {h ac bu : Int} {a : Option Addr} {n c : Nat} {f : Nat → Int} {ra : Option Addr} {l : List Int} (d : DA W w ca k kc B t P h ac bu a n c f ra l) (hb : Below w.heap.size w w') : DA W w' ca k kc B t P h ac bu a n c f ra l :=
  ⟨d.bel.trans (hb.mono d.bel.size), d.src.below hb, d.byt.below hb, d.r0.below hb, d.r1.below hb, d.arn.below hb, d.wrd.below hb, d.rts.below hb, d.hP⟩

/-- .. and the second arena and list. -/
structure DB (W w : World) (ca : Option Addr) (k kc : Nat) (B : Nat → Int) (t P : Nat) (h ac bu : Int) (a : Option Addr) (n c : Nat) (f : Nat → Int) (ra : Option Addr) (l : List Int) (Q : Nat) (h' ac' bu' : Int) (a' : Option Addr) (n' c' : Nat) (f' : Nat → Int) (rb : Option Addr) (rd md : Nat) (l' : List Int) : Prop where
  da : DA W w ca k kc B t P h ac bu a n c f ra l
  bb : Blk w Q [.int .i64 h', .slice a' n' c', .int .i64 ac', .int .i64 bu']
  wb : OwnIn w (P + 1) md a' n' f'
  row : w.ownsRow md 2 1 (.slice rb l'.length rd) l'.length (nums l'.length (lf l'))
  hmd : P + 1 ≤ md
  hQ : P + 1 ≤ Q

theorem DB.below {W w w' : World} {ca : Option Addr} {k kc t P : Nat} {B : Nat → Int} {h ac bu : Int} {a : Option Addr} {n c : Nat} {f : Nat → Int} {ra : Option Addr} {l : List Int} {Q : Nat} {h' ac' bu' : Int} {a' : Option Addr} {n' c' : Nat} {f' : Nat → Int} {rb : Option Addr} {rd md : Nat} {l' : List Int} (d : DB W w ca k kc B t P h ac bu a n c f ra l Q h' ac' bu' a' n' c' f' rb rd md l') (hb : Below w.heap.size w w') : DB W w' ca k kc B t P h ac bu a n c f ra l Q h' ac' bu' a' n' c' f' rb rd md l' :=
  ⟨d.da.below hb, d.bb.below hb, d.wb.below hb, ownsRow_below d.row hb, d.hmd, d.hQ⟩

theorem own_row {w : World} {B e n c : Nat} {a : Option Addr} {l : List Int} (h : w.ownsRow B e 1 (.slice a n c) l.length (nums l.length (lf l))) : n = l.length ∧ Own w B a l.length (lf l) := by
  obtain ⟨a', c', he, ho⟩ := own_of_row' h
  simp only [Value.slice.injEq] at he
  obtain ⟨rfl, rfl, rfl⟩ := he
  exact ⟨rfl, ho⟩

theorem DB.own {W w : World} {ca : Option Addr} {k kc t P : Nat} {B : Nat → Int} {h ac bu : Int} {a : Option Addr} {n c : Nat} {f : Nat → Int} {ra : Option Addr} {l : List Int} {Q : Nat} {h' ac' bu' : Int} {a' : Option Addr} {n' c' : Nat} {f' : Nat → Int} {rb : Option Addr} {rd md : Nat} {l' : List Int} (d : DB W w ca k kc B t P h ac bu a n c f ra l Q h' ac' bu' a' n' c' f' rb rd md l') : Own w (P + 1) rb l'.length (lf l') := (own_row d.row).2.mono d.hmd

theorem DA.keeps {W w w' : World} {ca : Option Addr} {k kc t P : Nat} {B : Nat → Int} {h ac bu : Int} {a : Option Addr} {n c : Nat} {f : Nat → Int} {ra : Option Addr} {l : List Int} {lo hi : Nat} (d : DA W w ca k kc B t P h ac bu a n c f ra l) (hk : Keeps w w' lo hi) (hl : P + 1 ≤ lo) : DA W w' ca k kc B t P h ac bu a n c f ra l := by
  have hP := d.hP
  have hPw := d.arn.1
  exact ⟨d.bel.trans (hk.below (by omega) d.bel.size), d.src.keeps hk (.inl (by omega)), d.byt.keeps hk (by omega), d.r0.keeps hk (.inl (by omega)), d.r1.keeps hk (.inl (by omega)), d.arn.keeps hk (.inl (by omega)), d.wrd.keeps hk (.inl (by omega)), d.rts.keeps hk (.inl (by omega)), d.hP⟩

theorem DB.two {W w : World} {ca : Option Addr} {k kc t P : Nat} {B : Nat → Int} {h ac bu : Int} {a : Option Addr} {n c : Nat} {f : Nat → Int} {ra : Option Addr} {l : List Int} {Q : Nat} {h' ac' bu' : Int} {a' : Option Addr} {n' c' : Nat} {f' : Nat → Int} {rb : Option Addr} {rd md : Nat} {l' : List Int} (d : DB W w ca k kc B t P h ac bu a n c f ra l Q h' ac' bu' a' n' c' f' rb rd md l') : w.cell? ⟨Q, 1, none⟩ = some (.slice a' n' c') ∧ w.cell? ⟨Q, 3, none⟩ = some (.int .i64 bu') := ⟨d.bb.at 1 rfl, d.bb.at 3 rfl⟩

theorem DB.append {W w w' : World} {ca : Option Addr} {k kc t P : Nat} {B : Nat → Int} {h ac bu : Int} {a : Option Addr} {n c : Nat} {f : Nat → Int} {ra : Option Addr} {l : List Int} {Q : Nat} {h' ac' bu' : Int} {a' : Option Addr} {n' c' : Nat} {f' : Nat → Int} {rb rb' : Option Addr} {rd rd' md : Nat} {l' l'' : List Int} (d : DB W w ca k kc B t P h ac bu a n c f ra l Q h' ac' bu' a' n' c' f' rb rd md l') (hg : w.grownBy w' (Value.slice rb l'.length rd).ownBlock) (hpb : ∀ k, (Value.slice rb l'.length rd).ownBlock = some k → k < Q) (hr : w'.ownsRow md 2 1 (.slice rb' l''.length rd') l''.length (nums l''.length (lf l''))) : DB W w' ca k kc B t P h ac bu a n c f ra l Q h' ac' bu' a' n' c' f' rb' rd' md l'' := by
  have hP := d.da.hP
  have hM := d.hmd
  have hPw := d.da.arn.1
  have hz : w.heap.size ≤ w'.heap.size := hg.size
  have hk : Keeps w w' md w'.heap.size := ⟨hg.os, hg.tape, hg.output, hz, fun q hq hd => by
    rcases hd with hd | hd
    · exact hg.block q hq (fun e => by have := (d.row.lt q e.symm).1; omega)
    · omega⟩
  have eQ := hg.block Q d.bb.1 (fun e => by have := hpb Q e.symm; omega)
  exact ⟨⟨d.da.bel.trans (hk.below (by omega) d.da.bel.size), d.da.src.keeps hk (.inl (by omega)), d.da.byt.keeps hk (by omega), d.da.r0.keeps hk (.inl (by omega)), d.da.r1.keeps hk (.inl (by omega)), d.da.arn.keeps hk (.inl (by omega)), d.da.wrd.keeps hk (.inl (by omega)), d.da.rts.keeps hk (.inl (by omega)), d.da.hP⟩, ⟨Nat.lt_of_lt_of_le d.bb.1 hz, fun i u hu => ⟨(World.cell?_of_block (w := w) (a := ⟨Q, i, none⟩) eQ).trans (d.bb.2 i u hu).1, (World.frozen?_of_block (w := w) (a := ⟨Q, i, none⟩) eQ).trans (d.bb.2 i u hu).2⟩⟩, d.wb.keeps hk (.inl (by omega)), hr, d.hmd, d.hQ⟩
end Go.Proofs.YtnpklnpicelcmaaGreat

namespace Go.Proofs.YtnpklnpicelcmaaGreat
open Go.RowKit
set_option linter.unusedVariables false

/-- A node whose numbers are right. -/
def Neat (t : GM) : Prop := (1 ≤ t.at_ ∧ t.at_ ≤ 9999) ∧ HOk t.s t.m 0 t.h

/-- The code of a node. -/
def IsNode (t : GM) (c : Int) : Prop :=
  (¬ Neat t ∧ c = 3) ∨ (Neat t ∧ ¬ (t.n : Int) = t.s ∧ c = 2) ∨ (Neat t ∧ (t.n : Int) = t.s ∧ ¬ (∀ k, k < t.n → Word (t.f k)) ∧ c = 3) ∨ (Neat t ∧ (t.n : Int) = t.s ∧ (∀ k, k < t.n → Word (t.f k)) ∧ c = 0)

theorem isNode_zero {t : GM} (h : IsNode t 0) : Neat t ∧ (t.n : Int) = t.s ∧ ∀ k, k < t.n → Word (t.f k) := by
  rcases h with ⟨_, h⟩ | ⟨_, _, h⟩ | ⟨_, _, _, h⟩ | ⟨h1, h2, h3, _⟩
  · omega
  · omega
  · omega
  · exact ⟨h1, h2, h3⟩

def MNum (te qu ha : Int) : Prop := (0 ≤ te ∧ te ≤ 3) ∧ (2 ≤ qu ∧ qu ≤ 200) ∧ (0 ≤ ha ∧ ha ≤ 99999)

def MLen (M K : Nat) : Prop := (1 ≤ (M : Int) ∧ (M : Int) ≤ 8) ∧ (0 ≤ (K : Int) ∧ (K : Int) ≤ 150)

def MSlot (M : Nat) (S : Nat → SL) : Prop := ∀ i, i < M → (0 ≤ (S i).g ∧ (S i).g ≤ 99) ∧ (0 ≤ (S i).nd ∧ (S i).nd ≤ 9999)

def MRise (K : Nat) (T : Nat → GM) : Prop := ∀ i, i + 1 < K → (T i).at_ < (T (i + 1)).at_

/-- There is a node of this number. -/
def Has (K : Nat) (T : Nat → GM) (v : Int) : Prop := ∃ j, j < K ∧ (T j).at_ = v

/-- A field that is a pointer. -/
def IsP (t : GM) (k : Nat) : Prop := t.m / P2 (k : Int) % 2 = 1

def MLead (M : Nat) (S : Nat → SL) (K : Nat) (T : Nat → GM) : Prop := (∀ i, i < M → (S i).nd = 0 ∨ Has K T (S i).nd) ∧ ∀ i, i < K → ∀ k, k < (T i).n → IsP (T i) k → (T i).f k = 0 ∨ Has K T ((T i).f k)

def MGive (M : Nat) (S : Nat → SL) : Prop := ∀ i, i < M → (S i).nd = 0 ∨ ¬ (S i).g = 0

/-- A machine that is right. -/
structure MOk (te qu ha : Int) (M : Nat) (S : Nat → SL) (K : Nat) (T : Nat → GM) : Prop where
  num : MNum te qu ha
  len : MLen M K
  slot : MSlot M S
  node : ∀ i, i < K → IsNode (T i) 0
  rise : MRise K T
  lead : MLead M S K T
  give : MGive M S
end Go.Proofs.YtnpklnpicelcmaaGreat

namespace Go.Proofs.YtnpklnpicelcmaaGreat
open Go.RowKit
set_option linter.unusedVariables false

/-- What the closure reads. -/
structure CapN (w : World) (rb : Nat) (a : Option Addr) (N k : Nat) (T : Nat → GM) : Prop where
  blk : Blk w rb [.slice a N k]
  nv : NV w a N T

theorem CapN.below {w w' : World} {rb N k : Nat} {a : Option Addr} {T : Nat → GM} (h : CapN w rb a N k T) (hb : Below w.heap.size w w') : CapN w' rb a N k T := ⟨h.blk.below hb, h.nv.below hb⟩
end Go.Proofs.YtnpklnpicelcmaaGreat

namespace Go.Proofs.YtnpklnpicelcmaaGreat
open Go.RowKit
set_option linter.unusedVariables false

theorem pv_get {w : World} {a : Option Addr} {N : Nat} {T : Nat → SL} (h : PV w a N T) {i : Nat} (hi : i < N) : ∃ b q, a = some ⟨b, q, none⟩ ∧ b < w.heap.size ∧ TwoG w b (q + i * 2) (T i) := by
  rcases h with h0 | ⟨b, q, ha, hg⟩
  · omega
  · exact ⟨b, q, ha, hg.lt, hg.two i hi⟩
end Go.Proofs.YtnpklnpicelcmaaGreat

namespace Go.Proofs.YtnpklnpicelcmaaGreat
open Go.RowKit
set_option linter.unusedVariables false

/-- What the closure reads. -/
structure CapM (w : World) (g : Nat) (te qu ha : Int) (sa : Option Addr) (M kc : Nat) (na : Option Addr) (K nc : Nat) (T : Nat → GM) : Prop where
  blk : Blk w g [.int .i64 te, .int .i64 qu, .int .i64 ha, .slice sa M kc, .slice na K nc]
  nv : NV w na K T

theorem CapM.below {w w' : World} {g : Nat} {te qu ha : Int} {sa : Option Addr} {M kc : Nat} {na : Option Addr} {K nc : Nat} {T : Nat → GM} (h : CapM w g te qu ha sa M kc na K nc T) (hb : Below w.heap.size w w') : CapM w' g te qu ha sa M kc na K nc T := ⟨h.blk.below hb, h.nv.below hb⟩
end Go.Proofs.YtnpklnpicelcmaaGreat

namespace Go.Proofs.YtnpklnpicelcmaaGreat
open Go.RowKit
set_option linter.unusedVariables false

theorem cap2 {w : World} {g : Nat} {te qu ha : Int} {sa na : Option Addr} {M kc K nc : Nat} (hC : Blk w g [.int .i64 te, .int .i64 qu, .int .i64 ha, .slice sa M kc, .slice na K nc]) : w.cell? ⟨g, 3, none⟩ = some (.slice sa M kc) ∧ w.cell? ⟨g, 4, none⟩ = some (.slice na K nc) := ⟨hC.at 3 rfl, hC.at 4 rfl⟩
end Go.Proofs.YtnpklnpicelcmaaGreat

namespace Go.Proofs.YtnpklnpicelcmaaGreat
open Go.ChangeShapes Go.WideShapes Go.ChangeAt Go.RowKit Go.Joins Go.Deep
set_option linter.unusedVariables false

instance : Inhabited SL := ⟨⟨0, 0⟩⟩
end Go.Proofs.YtnpklnpicelcmaaGreat

namespace Go.Proofs.YtnpklnpicelcmaaGreat
open Go.RowKit
set_option linter.unusedVariables false

/-- A row of slots that nothing was given of. -/
def zS : Nat → SL := fun _ => ⟨0, 0⟩
end Go.Proofs.YtnpklnpicelcmaaGreat

namespace Go.Proofs.YtnpklnpicelcmaaGreat
open Go.RowKit
set_option linter.unusedVariables false

/-- The first place of a node of this number, or how many there are. -/
def ixN (T : Nat → GM) (x : Int) : Nat → Nat
  | 0 => 0
  | K + 1 => if ixN T x K < K then ixN T x K else if (T K).at_ = x then K else K + 1

/-- What of a list is not 0. -/
def nz (l : List Int) : List Int := l.filter (fun x => decide (¬ x = 0))

/-- The node of a number. -/
def nodeM (K : Nat) (T : Nat → GM) (x : Int) : GM := T (ixN T x K)

section

variable {M : Nat} {S : Nat → SL} {K : Nat} {T : Nat → GM} {i : Nat} {O : List Int}

end
end Go.Proofs.YtnpklnpicelcmaaGreat

namespace Go.Proofs.YtnpklnpicelcmaaGreat
open Go.RowKit
set_option linter.unusedVariables false

/-- A node, and what stands for it. -/
def NIso (φ : Int → Int) (t t' : GM) : Prop := t'.s = t.s ∧ t'.m = t.m ∧ t'.h = t.h ∧ t'.n = t.n ∧ ∀ k, k < t.n → t'.f k = if t.m / P2 (k : Int) % 2 = 1 then φ (t.f k) else t.f k

/-- Two machines that are alike over some nodes, from which nothing else is reached. -/
structure MIso (U : List Int) (φ : Int → Int) (M : Nat) (S : Nat → SL) (K : Nat) (T : Nat → GM) (S' : Nat → SL) (K' : Nat) (T' : Nat → GM) : Prop where
  nd : U.Nodup
  z : φ 0 = 0
  u0 : (0 : Int) ∉ U
  nz : ∀ x ∈ U, ¬ φ x = 0
  inj : ∀ x ∈ U, ∀ y ∈ U, φ x = φ y → x = y
  has : ∀ x ∈ U, Has K T x
  has' : ∀ x ∈ U, Has K' T' (φ x)
  slots : ∀ i, i < M → (S i).nd = 0 ∨ (S i).nd ∈ U
  slot : ∀ i, i < M → (S' i).g = (S i).g ∧ (S' i).nd = φ (S i).nd
  node : ∀ x ∈ U, NIso φ (nodeM K T x) (nodeM K' T' (φ x))
  clo : ∀ x ∈ U, ∀ k, k < (nodeM K T x).n → IsP (nodeM K T x) k → (nodeM K T x).f k = 0 ∨ (nodeM K T x).f k ∈ U

section

variable {U : List Int} {φ : Int → Int} {M : Nat} {S S' : Nat → SL} {K K' : Nat} {T T' : Nat → GM}

theorem lf_map {φ : Int → Int} {l : List Int} {i : Nat} (hi : i < l.length) : lf (l.map φ) i = φ (lf l i) := by
  rw [lf_at (by rw [List.length_map]; exact hi), lf_at hi, List.getElem_map]

end
end Go.Proofs.YtnpklnpicelcmaaGreat

namespace Go.Proofs.YtnpklnpicelcmaaGreat
open Go.RowKit
set_option linter.unusedVariables false

def updS (S : Nat → SL) (i : Nat) (s : SL) : Nat → SL := fun j => if j = i then s else S j

section

variable {U : List Int} {φ : Int → Int} {M : Nat} {S S' : Nat → SL} {K K' : Nat} {T T' : Nat → GM}

end

/-- A machine that can be tidied. -/
structure MWk (M : Nat) (S : Nat → SL) (K : Nat) (T : Nat → GM) : Prop where
  node : ∀ i, i < K → 1 ≤ (T i).at_ ∧ HOk (T i).s (T i).m 0 (T i).h ∧ ((T i).n : Int) = (T i).s
  rise : MRise K T
  lead : MLead M S K T

theorem MOk.wk {te qu ha : Int} {M : Nat} {S : Nat → SL} {K : Nat} {T : Nat → GM} (h : MOk te qu ha M S K T) : MWk M S K T :=
  ⟨fun i hi => ⟨(isNode_zero (h.node i hi)).1.1.1, (isNode_zero (h.node i hi)).1.2, (isNode_zero (h.node i hi)).2.1⟩, h.rise, h.lead⟩

section

variable {M : Nat} {S : Nat → SL} {K : Nat} {T : Nat → GM}

end
end Go.Proofs.YtnpklnpicelcmaaGreat

namespace Go.Proofs.YtnpklnpicelcmaaGreat
open Go.RowKit
set_option linter.unusedVariables false

instance (t : GM) (k : Nat) : Decidable (IsP t k) := inferInstanceAs (Decidable (_ = _))

/-- What an op turns of a machine. -/
structure MS where
  ha : Int
  S : Nat → SL
  K : Nat
  T : Nat → GM

/-- The slot of a handle. -/
def HSl (te : Int) (M : Nat) (S : Nat → SL) (x : Int) : Prop := (0 ≤ x ∧ 1 ≤ x / 32 ∧ x / 32 ≤ 99) ∧ x % 4 = te ∧ x / 4 % 8 < (M : Int) ∧ ¬ (S (x / 4 % 8).toNat).nd = 0 ∧ (S (x / 4 % 8).toNat).g = x / 32

instance (te : Int) (M : Nat) (S : Nat → SL) (x : Int) : Decidable (HSl te M S x) := inferInstanceAs (Decidable (_ ∧ _))

def slN (x : Int) : Nat := (x / 4 % 8).toNat

/-- The first slot that can be given, or how many there are. -/
def CanG (s : SL) : Prop := s.nd = 0 ∧ s.g < 99

instance (s : SL) : Decidable (CanG s) := inferInstanceAs (Decidable (_ ∧ _))

def freeS (S : Nat → SL) : Nat → Nat
  | 0 => 0
  | M + 1 => if freeS S M < M then freeS S M else if CanG (S M) then M else M + 1

theorem freeS_congr {S S' : Nat → SL} : ∀ {M : Nat}, (∀ i, i < M → (CanG (S' i) ↔ CanG (S i))) → freeS S' M = freeS S M
  | 0, _ => rfl
  | M + 1, h => by
    rw [freeS, freeS, freeS_congr fun i hi => h i (by omega)]
    by_cases h1 : freeS S M < M
    · rw [if_pos h1, if_pos h1]
    · rw [if_neg h1, if_neg h1]
      by_cases h2 : CanG (S M)
      · rw [if_pos h2, if_pos ((h M (by omega)).2 h2)]
      · rw [if_neg h2, if_neg fun h3 => h2 ((h M (by omega)).1 h3)]

section

variable {U : List Int} {φ : Int → Int} {M : Nat} {m m' : MS} {te qu : Int}

theorem MIso.zero_iff {S S' : Nat → SL} {K K' : Nat} {T T' : Nat → GM} (h : MIso U φ M S K T S' K' T') {i : Nat} (hi : i < M) : (S' i).nd = 0 ↔ (S i).nd = 0 := by
  rw [(h.slot i hi).2]
  rcases h.slots i hi with h1 | h1
  · rw [h1, h.z]
  · have h2 := h.nz _ h1
    have h3 : ¬ (S i).nd = 0 := fun e => h.u0 (e ▸ h1)
    exact ⟨fun e => absurd e h2, fun e => absurd e h3⟩

theorem MIso.hsl {S S' : Nat → SL} {K K' : Nat} {T T' : Nat → GM} (h : MIso U φ M S K T S' K' T') (x : Int) : HSl te M S' x ↔ HSl te M S x := by
  have hlt : x / 4 % 8 < (M : Int) → (x / 4 % 8).toNat < M := fun h => by omega
  unfold HSl
  constructor
  · rintro ⟨h1, h2, h3, h4, h5⟩
    exact ⟨h1, h2, h3, fun e => h4 ((h.zero_iff (hlt h3)).2 e), by rw [← (h.slot _ (hlt h3)).1]; exact h5⟩
  · rintro ⟨h1, h2, h3, h4, h5⟩
    exact ⟨h1, h2, h3, fun e => h4 ((h.zero_iff (hlt h3)).1 e), by rw [(h.slot _ (hlt h3)).1]; exact h5⟩

theorem HSl.lt {S : Nat → SL} {x : Int} (h : HSl te M S x) : slN x < M := by have := h.2.2.1; unfold slN; omega

theorem MIso.free {S S' : Nat → SL} {K K' : Nat} {T T' : Nat → GM} (h : MIso U φ M S K T S' K' T') : freeS S' M = freeS S M :=
  freeS_congr fun i hi => by unfold CanG; rw [h.zero_iff hi, (h.slot i hi).1]

end
end Go.Proofs.YtnpklnpicelcmaaGreat

namespace Go.Proofs.YtnpklnpicelcmaaGreat
open Go.RowKit
set_option linter.unusedVariables false

/-- The cells of a machine, from a place of a block on. -/
structure MAt (w : World) (g o : Nat) (te qu ha : Int) (sa : Option Addr) (M kc : Nat) (na : Option Addr) (K nc : Nat) : Prop where
  lt : g < w.heap.size
  c0 : w.cell? ⟨g, o, none⟩ = some (.int .i64 te)
  c1 : w.cell? ⟨g, o + 1, none⟩ = some (.int .i64 qu)
  c2 : w.cell? ⟨g, o + 2, none⟩ = some (.int .i64 ha)
  c3 : w.cell? ⟨g, o + 3, none⟩ = some (.slice sa M kc)
  c4 : w.cell? ⟨g, o + 4, none⟩ = some (.slice na K nc)

section

variable {w w' : World} {g o : Nat} {te qu ha : Int} {sa : Option Addr} {M kc : Nat} {na : Option Addr} {K nc : Nat}

theorem MAt.below (h : MAt w g o te qu ha sa M kc na K nc) (hb : Below w.heap.size w w') : MAt w' g o te qu ha sa M kc na K nc :=
  ⟨Nat.lt_of_lt_of_le h.lt hb.size, (hb.cell (p := ⟨g, o, none⟩) h.lt).trans h.c0, (hb.cell (p := ⟨g, o + 1, none⟩) h.lt).trans h.c1, (hb.cell (p := ⟨g, o + 2, none⟩) h.lt).trans h.c2, (hb.cell (p := ⟨g, o + 3, none⟩) h.lt).trans h.c3, (hb.cell (p := ⟨g, o + 4, none⟩) h.lt).trans h.c4⟩

end

/-- A node whose numbers are right, of any number. -/
def Nd (t : GM) : Prop := HOk t.s t.m 0 t.h ∧ (t.n : Int) = t.s

theorem MWk.nd {M : Nat} {S : Nat → SL} {K : Nat} {T : Nat → GM} (h : MWk M S K T) : ∀ i, i < K → Nd (T i) := fun i hi => (h.node i hi).2
end Go.Proofs.YtnpklnpicelcmaaGreat

namespace Go.Proofs.YtnpklnpicelcmaaGreat
open Go.RowKit Go.Maps
set_option linter.unusedVariables false

/-- A pointer to a node of a row. -/
def ptrV (na : Option Addr) (i : Nat) : Value := match na with | some ⟨b, q, s⟩ => .pointer (some ⟨b, q + i * 5, s⟩) | none => .pointer none
end Go.Proofs.YtnpklnpicelcmaaGreat

namespace Go.Proofs.YtnpklnpicelcmaaGreat
open Go.RowKit Go.Maps
set_option linter.unusedVariables false

/-- A row of pointers to the nodes of a list. -/
def PR (w : World) (na : Option Addr) (K : Nat) (T : Nat → GM) (ra : Option Addr) (R : List Int) : Prop :=
  R.length = 0 ∨ ∃ rb ro, ra = some ⟨rb, ro, none⟩ ∧ rb < w.heap.size ∧ ∀ i, i < R.length → w.cell? ⟨rb, ro + i, none⟩ = some (ptrV na (ixN T (lf R i) K))

theorem PR.below {w w' : World} {na : Option Addr} {K : Nat} {T : Nat → GM} {ra : Option Addr} {R : List Int} (h : PR w na K T ra R) (hb : Below w.heap.size w w') : PR w' na K T ra R := by
  rcases h with h | ⟨rb, ro, e, hl, hc⟩
  · exact .inl h
  · exact .inr ⟨rb, ro, e, Nat.lt_of_lt_of_le hl hb.size, fun i hi => (hb.cell (p := ⟨rb, ro + i, none⟩) hl).trans (hc i hi)⟩

/-- A row that adding leaves as it is. -/
def Apart (w : World) (a : Option Addr) (n rb mb : Nat) (v : Value) : Prop := n = 0 ∨ ∃ b o, a = some ⟨b, o, none⟩ ∧ b ≠ rb ∧ b ≠ mb ∧ v.ownBlock ≠ some b ∧ b < w.heap.size

theorem Apart.size {w w' : World} {a : Option Addr} {n rb mb : Nat} {v : Value} (h : Apart w a n rb mb v) (hz : w.heap.size ≤ w'.heap.size) : Apart w' a n rb mb v := by
  rcases h with h | ⟨b, o, h1, h2, h3, h4, h5⟩
  · exact .inl h
  · exact .inr ⟨b, o, h1, h2, h3, h4, by omega⟩
end Go.Proofs.YtnpklnpicelcmaaGreat

namespace Go.Proofs.YtnpklnpicelcmaaGreat
open Go.RowKit Go.Maps
set_option linter.unusedVariables false

theorem cap9 {w : World} {H A : Nat} {v0 v1 v2 v3 te qu ha sa na : Value} (hH : Blk w H [v0, v1, v2, v3]) (hA : Blk w A [te, qu, ha, sa, na]) : w.cell? ⟨H, 0, none⟩ = some v0 ∧ w.cell? ⟨H, 1, none⟩ = some v1 ∧ w.cell? ⟨H, 2, none⟩ = some v2 ∧ w.cell? ⟨H, 3, none⟩ = some v3 ∧ w.cell? ⟨A, 0, none⟩ = some te ∧ w.cell? ⟨A, 1, none⟩ = some qu ∧ w.cell? ⟨A, 2, none⟩ = some ha ∧ w.cell? ⟨A, 3, none⟩ = some sa ∧ w.cell? ⟨A, 4, none⟩ = some na :=
  ⟨hH.at 0 rfl, hH.at 1 rfl, hH.at 2 rfl, hH.at 3 rfl, hA.at 0 rfl, hA.at 1 rfl, hA.at 2 rfl, hA.at 3 rfl, hA.at 4 rfl⟩
end Go.Proofs.YtnpklnpicelcmaaGreat

namespace Go.Proofs.YtnpklnpicelcmaaGreat
open Go.RowKit
set_option linter.unusedVariables false

/-- The cells of a row of slots. -/
def slC (S : Nat → SL) : Nat → List Value
  | 0 => []
  | n + 1 => slC S n ++ [.int .i64 (S n).g, .int .i64 (S n).nd]

theorem slC_len (S : Nat → SL) : ∀ n, (slC S n).length = n * 2
  | 0 => rfl
  | n + 1 => by simp only [slC, List.length_append, slC_len S n, List.length_cons, List.length_nil]; omega

theorem slC_get (S : Nat → SL) : ∀ n i, i < n → (slC S n)[i * 2]? = some (.int .i64 (S i).g) ∧ (slC S n)[i * 2 + 1]? = some (.int .i64 (S i).nd)
  | 0, i, h => absurd h (Nat.not_lt_zero _)
  | n + 1, i, h => by
    have hl := slC_len S n
    rcases Nat.lt_succ_iff_lt_or_eq.mp h with h1 | rfl
    · obtain ⟨a, b⟩ := slC_get S n i h1
      unfold slC
      rw [List.getElem?_append_left (by omega), List.getElem?_append_left (by omega)]
      exact ⟨a, b⟩
    · unfold slC
      rw [List.getElem?_append_right (by omega), List.getElem?_append_right (by omega), hl]
      simp

theorem slC_one (S : Nat → SL) : ∀ n, ∀ u ∈ slC S n, u.oneCell' = true
  | 0, u, h => by cases h
  | n + 1, u, h => by
    unfold slC at h
    rcases List.mem_append.mp h with h | h
    · exact slC_one S n u h
    · simp only [List.mem_cons, List.mem_nil_iff, or_false] at h
      rcases h with rfl | rfl <;> rfl

theorem slC_at (S : Nat → SL) (n j : Nat) (u : Value) (h : (slC S n)[j]? = some u) : ∃ i, i < n ∧ ((j = i * 2 ∧ u = .int .i64 (S i).g) ∨ (j = i * 2 + 1 ∧ u = .int .i64 (S i).nd)) := by
  have hl : j < n * 2 := by rw [← slC_len S n]; exact (List.getElem?_eq_some_iff.mp h).1
  have hi : j / 2 < n := by omega
  obtain ⟨a, b⟩ := slC_get S n (j / 2) hi
  refine ⟨j / 2, hi, ?_⟩
  rcases (by omega : j = j / 2 * 2 ∨ j = j / 2 * 2 + 1) with e | e
  · left; refine ⟨e, ?_⟩
    rw [← e, h] at a; exact Option.some.inj a
  · right; refine ⟨e, ?_⟩
    rw [← e, h] at b; exact Option.some.inj b

theorem row_shape2 {w : World} {B e sz n : Nat} {v : Value} {xs : List Value} (h : w.ownsRow B e sz v n xs) : ∃ a cap, v = .slice a n cap ∧ n ≤ cap ∧ cap ≤ maxLen ∧ (a = none → n = 0 ∧ cap = 0) := by
  rcases h.2 with ⟨h1, h2⟩ | ⟨g, cap', cur, h1, hB, hg, hnc, hcm, hcs, _⟩
  · exact ⟨none, 0, by rw [h1, h2], by omega, by simp [maxLen], fun _ => ⟨h2, rfl⟩⟩
  · exact ⟨_, cap', h1, hnc, hcm, fun h => by simp at h⟩

theorem pv_news {w : World} {b q N : Nat} {S : Nat → SL} (h : PSrc w b q N S) : ∀ (j : Nat) (u : Value), (slC S N)[j]? = some u → w.cell? ((⟨b, q, none⟩ : Addr).add j) = some u := fun j u hu => by
  obtain ⟨i, hi, ⟨rfl, rfl⟩ | ⟨rfl, rfl⟩⟩ := slC_at S N j u hu
  · have := (h.two i hi).1
    have e : (⟨b, q, none⟩ : Addr).add (i * 2) = ⟨b, q + i * 2, none⟩ := by cases hx : i * 2 <;> simp [Addr.add]
    rw [e]; exact this
  · have := (h.two i hi).2
    have e : (⟨b, q, none⟩ : Addr).add (i * 2 + 1) = ⟨b, q + i * 2 + 1, none⟩ := by simp [Addr.add]; omega
    rw [e]; exact this
end Go.Proofs.YtnpklnpicelcmaaGreat

namespace Go.Proofs.YtnpklnpicelcmaaGreat
open Go.RowKit
set_option linter.unusedVariables false

theorem NVO.widen {w : World} {lo hi lo' hi' N : Nat} {a : Option Addr} {T : Nat → GM} (h : NVO w lo hi a N T) (h1 : lo' ≤ lo) (h2 : hi ≤ hi') : NVO w lo' hi' a N T := by
  rcases h with h0 | ⟨b, q, e, h⟩
  · exact .inl h0
  · exact .inr ⟨b, q, e, ⟨Nat.le_trans h1 h.glo, Nat.lt_of_lt_of_le h.ghi h2, h.lt, h.six, h.free, fun i hi => (h.flds i hi).widen h1 h2, h.off, h.apart⟩⟩
end Go.Proofs.YtnpklnpicelcmaaGreat

namespace Go.Proofs.YtnpklnpicelcmaaGreat
open Go.RowKit
set_option linter.unusedVariables false

/-- A slot's node is written. -/
theorem pown_nd2 {w : World} {lo hi b q N i : Nat} {U : Nat → SL} (h : POwn w lo hi b q N U) (hi' : i < N) (v : Int) : POwn (w.setCell ⟨b, q + i * 2 + 1, none⟩ (.int .i64 v)) lo hi b q N (updS U i ⟨(U i).g, v⟩) ∧ Keeps w (w.setCell ⟨b, q + i * 2 + 1, none⟩ (.int .i64 v)) lo hi := by
  refine ⟨⟨h.glo, h.ghi, by simpa using h.lt, fun j hj => ?_, fun j hj => ?_⟩, keeps_setCell h.glo h.ghi _⟩
  · obtain ⟨c0, c1⟩ := h.two j hj
    by_cases e : j = i
    · subst e
      have e9 : updS U j ⟨(U j).g, v⟩ j = ⟨(U j).g, v⟩ := by unfold updS; rw [if_pos rfl]
      rw [e9]
      exact ⟨by rw [World.cell?_setCell_other _ _ _ _ (by simp)]; exact c0, World.cell?_setCell_same w ⟨b, q + j * 2 + 1, none⟩ (.int .i64 v) c1⟩
    · have e9 : updS U i ⟨(U i).g, v⟩ j = U j := by unfold updS; rw [if_neg e]
      rw [e9]
      exact ⟨by rw [World.cell?_setCell_other _ _ _ _ (by simp; try omega)]; exact c0, by rw [World.cell?_setCell_other _ _ _ _ (by simp; try omega)]; exact c1⟩
  · exact ⟨by rw [World.frozen?_setCell]; exact (h.free j hj).1, by rw [World.frozen?_setCell]; exact (h.free j hj).2⟩
end Go.Proofs.YtnpklnpicelcmaaGreat

namespace Go.Proofs.YtnpklnpicelcmaaGreat
open Go.RowKit
set_option linter.unusedVariables false

theorem FldG.other {w : World} {lo : Nat} {v : Value} {M : List GM} {p : Addr} {u : Value} (h : FldG w lo v M) (hp : ∀ t ∈ M, t.n = 0 ∨ t.g ≠ p.block) : FldG (w.setCell p u) lo v M :=
  ⟨fun t ht => by
    rcases h.1 t ht with h0 | ⟨h1, h2, h3, q, h4, h5⟩
    · exact .inl h0
    · rcases hp t ht with h0 | h0
      · exact .inl h0
      · have e : (w.setCell p u).heap[t.g]? = w.heap[t.g]? := Below.heap_setCell _ _ _ t.g h0
        exact .inr ⟨h1, by simpa using h2, h3, q, h4, fun k hk => ⟨(World.cell?_of_block (w := w) (a := ⟨t.g, q + k, none⟩) e).trans (h5 k hk).1, (World.frozen?_of_block (w := w) (a := ⟨t.g, q + k, none⟩) e).trans (h5 k hk).2⟩⟩, h.2⟩
end Go.Proofs.YtnpklnpicelcmaaGreat

namespace Go.Proofs.YtnpklnpicelcmaaGreat
open Go.RowKit
set_option linter.unusedVariables false

/-- The sum of the first numbers. -/
def sumF (f : Nat → Int) : Nat → Int
  | 0 => 0
  | n + 1 => sumF f n + f n

theorem sumF_succ (f : Nat → Int) (n : Nat) : sumF f (n + 1) = sumF f n + f n := rfl

theorem sumF_bd {f : Nat → Int} {lo hi : Int} : ∀ (n : Nat), (∀ i, i < n → lo ≤ f i ∧ f i ≤ hi) → lo * (n : Int) ≤ sumF f n ∧ sumF f n ≤ hi * (n : Int)
  | 0, _ => by simp [sumF]
  | n + 1, h => by
    have ih := sumF_bd n fun i hi => h i (by omega)
    have hn := h n (by omega)
    rw [sumF_succ]
    have e1 : lo * ((n + 1 : Nat) : Int) = lo * (n : Int) + lo := by rw [Int.natCast_succ, Int.mul_add, Int.mul_one]
    have e2 : hi * ((n + 1 : Nat) : Int) = hi * (n : Int) + hi := by rw [Int.natCast_succ, Int.mul_add, Int.mul_one]
    omega
end Go.Proofs.YtnpklnpicelcmaaGreat

namespace Go.Proofs.YtnpklnpicelcmaaGreat
open Go.RowKit
set_option linter.unusedVariables false

theorem src_get {w : World} {a : Option Addr} {n : Nat} {f : Nat → Int} (h : Src w a n f) {i : Nat} (hi : i < n) : ∃ b q, a = some ⟨b, q, none⟩ ∧ b < w.heap.size ∧ w.cell? ⟨b, q + i, none⟩ = some (.int .i64 (f i)) := by
  rcases h with h | ⟨b, off, h1, h3, h4⟩
  · omega
  · exact ⟨b, off, h1, h3, h4 i hi⟩

set_option maxRecDepth 100000 in
set_option maxHeartbeats 800000 in
theorem sumOf_any (a : Option Addr) (n c : Nat) (f : Nat → Int) (w : World) (hs : Src w a n f) (hn : n ≤ 1000) (hf : ∀ i, i < n → 0 ≤ f i ∧ f i ≤ 100000) :
    Calls Tryz.prog 90 #[.slice a n c] w fun e w' => e = .returned (.int .i64 (sumF f n)) ∧ w = w' := by
  have HS := Lib.hid hs; have HF := Lib.hid hf
  clear hs hf
  go_enter Tryz.func90, Tryz.ntmps90
  go_wp2
  go_loop [3, 8] (fun u p => ∃ i : Nat, i ≤ n ∧ p = .int .i64 (i : Int) ∧ u = .int .i64 (sumF f i)) (fun _ p => n - (intOf p).toNat)
  case atStart => exact ⟨0, Nat.zero_le _, rfl, rfl⟩
  case round =>
    obtain ⟨i, hi, rfl, rfl⟩ := hrel
    by_cases hlt : i < n
    · have hlt' : (i : Int) < (n : Int) := by omega
      have hi0 : (0 : Int) ≤ (i : Int) := by omega
      obtain ⟨b, q, e1, l1, x0⟩ := src_get HS.out hlt
      subst e1
      have hfi := HF.out i hlt
      have hsb := sumF_bd (f := f) (lo := 0) (hi := 100000) i (fun j hj => HF.out j (by omega))
      have hsu := sumF_succ f i
      have HSU := Lib.hid hsu
      generalize f i = v at *
      generalize sumF f i = s at *
      have hs0 : 0 ≤ s := by omega
      have hs1 : s ≤ 100000000 := by omega
      clear hsb hsu
      go_wp2
      go_round
      case rel => exact ⟨i + 1, by omega, by go_num, by rw [HSU.out]⟩
      case measure => simp [intOf]; omega
    · have hlt' : ¬ (i : Int) < (n : Int) := by omega
      go_wp2
      go_ret
      obtain rfl : i = n := by omega
      exact ⟨rfl, rfl⟩
end Go.Proofs.YtnpklnpicelcmaaGreat

namespace Go.Proofs.YtnpklnpicelcmaaGreat
open Go.ChangeShapes Go.WideShapes Go.ChangeAt Go.RowKit Go.Joins Go.Deep
set_option linter.unusedVariables false

set_option maxRecDepth 100000 in
theorem open_ints1 {H : Type} {enc : TypeId × Value → H} {W : World} {fuel : Nat} {cs : List Value} {y : DataW H × List MemPlace} (hf : DataW.trod enc Tryz.prog W 0 (fun _ => true) true fuel 22 cs = some y) :
    ∃ (a : Option Addr) (n c : Nat) (f : Nat → Int), cs = [.slice a n c] ∧ Src W a n f ∧ n ≤ maxLen := by
  rcases open_ints Tryz.underlying22 Tryz.underlying2 (by kernel_rfl) hf with ⟨hcs, _⟩ | ⟨x, l, c, zs, hcs, _, hl, hm, hz, _, hcell, _⟩
  · exact ⟨none, 0, 0, fun _ => 0, hcs, .inl rfl, Nat.zero_le _⟩
  · have hlz : l ≤ zs.length := by
      rw [hz]; split
      · exact hl
      · exact Nat.le_refl _
    exact ⟨some x, l, c, fun i => zs.getD i 0, hcs, src_ints hlz hcell, Nat.le_trans hl hm⟩
end Go.Proofs.YtnpklnpicelcmaaGreat

namespace Go.Proofs.YtnpklnpicelcmaaGreat
open Go.RowKit
set_option linter.unusedVariables false

set_option maxRecDepth 100000 in
set_option maxHeartbeats 800000 in
theorem heldReplyS_any (a : Option Addr) (N c : Nat) (k : Int) (w : World) (hs : PV w a N (smkd k)) (hk0 : 0 ≤ k) (hk1 : k + 2 * (N : Int) ≤ 1048576) :
    Calls Tryz.prog 33 #[.slice a N c, .int .i64 k] w fun e w' => e = .returned (.int .i64 (k + 2 * (N : Int))) ∧ w = w' := by
  have H := Lib.hid hs
  clear hs
  go_enter Tryz.func33, Tryz.ntmps33
  go_wp2
  go_loop [1, 5] (fun u p => ∃ i : Nat, i ≤ N ∧ p = .int .i64 i ∧ u = .int .i64 (k + 2 * (i : Int))) (fun _ p => N - (intOf p).toNat)
  case atStart => exact ⟨0, Nat.zero_le _, rfl, by simp⟩
  case round =>
    obtain ⟨i, hi, rfl, rfl⟩ := hrel
    by_cases hlt : i < N
    · have hlt' : (i : Int) < (N : Int) := by omega
      have hi0 : (0 : Int) ≤ (i : Int) := by omega
      rcases H.out with h0 | ⟨b, q, rfl, hg⟩
      · omega
      obtain ⟨x0, x1⟩ := hg.two i hlt
      have hlt0 := hg.lt
      simp only [smkd] at x0 x1
      generalize hK : k + 2 * (i : Int) = K at *
      have hK0 : 0 ≤ K := by omega
      have hK1 : K + 2 ≤ 1048576 := by omega
      have HKK := Lib.hid hK
      clear hK hg
      go_wp2
      go_round
      case rel => exact ⟨i + 1, by omega, by go_num, by have := HKK.out; go_num⟩
      case measure => simp [intOf]; omega
    · go_wp2
      go_ret
      obtain rfl : i = N := by omega
      exact ⟨rfl, rfl⟩

set_option maxRecDepth 100000 in
set_option maxHeartbeats 800000 in
theorem markReplyS_any (a : Option Addr) (lo hi N c : Nat) (T : Nat → SL) (k : Int) (w : World) (hs : PVO w lo hi a N T) (hk0 : 0 ≤ k) (hk1 : k + 2 * (N : Int) ≤ 1048576) :
    Calls Tryz.prog 30 #[.slice a N c, .int .i64 k] w fun e w' => e = .returned (.int .i64 (k + 2 * (N : Int))) ∧ PVO w' lo hi a N (smkd k) ∧ Keeps w w' lo hi := by
  have H := Lib.hid hs
  clear hs
  go_enter Tryz.func30, Tryz.ntmps30
  go_wp2
  go_loopw [1, 5] (fun u p wr => ∃ i : Nat, i ≤ N ∧ p = .int .i64 i ∧ u = .int .i64 (k + 2 * (i : Int)) ∧ Hid (Keeps w wr lo hi) ∧ Hid (PVO wr lo hi a N (fun j => if j < i then smkd k j else T j))) (fun _ p _ => N - (intOf p).toNat)
  case atStart => exact ⟨0, Nat.zero_le _, rfl, by simp, Keeps.refl _ _ _, by simpa using H⟩
  case round =>
    obtain ⟨i, hi9, rfl, rfl, HK, HR⟩ := hrel
    by_cases hlt : i < N
    · have hlt' : (i : Int) < (N : Int) := by omega
      have hi0 : (0 : Int) ≤ (i : Int) := by omega
      rcases HR.out with h0 | ⟨b, q, rfl, hg⟩
      · omega
      obtain ⟨x0, x1⟩ := hg.two i hlt
      obtain ⟨f0, f1⟩ := hg.free i hlt
      have hlt0 := hg.lt
      generalize hK : k + 2 * (i : Int) = K at *
      have hK0 : 0 ≤ K := by omega
      have hK1 : K + 2 ≤ 1048576 := by omega
      have HKK := Lib.hid hK
      have HQ := Lib.hid (pown_put (i := i) (t := ⟨K, K + 1⟩) hg hlt)
      clear hK hg HR
      go_wp2
      go_roundw
      case rel =>
        refine ⟨i + 1, by omega, by go_num, by have := HKK.out; go_num, HK.out.trans HQ.out.2, .inr ⟨b, q, rfl, HQ.out.1.congr fun j hj => ?_⟩⟩
        by_cases e : j = i
        · subst e
          simp only [if_true, Nat.lt_succ_self, smkd, HKK.out]
        · rw [if_neg e]
          have h2 : (j < i + 1) = (j < i) := by simp only [eq_iff_iff]; omega
          simp only [h2]
      case measure => simp [intOf]; omega
    · go_wp2
      go_ret
      obtain rfl : i = N := by omega
      refine ⟨rfl, ?_, HK.out⟩
      exact HR.out.congr fun j hj => by simp [hj]
end Go.Proofs.YtnpklnpicelcmaaGreat

