/- Texts merged: Q8 to NH1. -/
import Derived.Test.YtnpklnpicelcmaaPJ1
import Derived.RangeFuncNested
import Derived.RangeFuncBound
import Derived.RangeFuncCalls
import Derived.RangeFuncLeaves
import Derived.Shelf.RegionOpen
import Derived.OwnWalkIn
import Derived.TacticsInMore
import Derived.LoopNIn
import Derived.LoopIn
import Derived.Maps.OwnIn
import Derived.Maps.AppendAt
import Derived.Maps.Own
import Derived.Maps.OwnOps
import Derived.Maps.OwnSet
import Derived.OneCell
import Derived.WalkMore
import Derived.Laws.IdiomCopy
import Derived.Deep.RegionWith
import Derived.DeepKeys4
import Derived.WideKeyArgs2
import Derived.IntWalk
import Derived.Laws.MakeOwn
import Derived.Laws.EntriesVeiled
import Derived.Deep.MidRow
namespace Go.Proofs.Ytnpklnpicelcmaa
open Go.RowKit Go.Shelf
set_option linter.unusedVariables false
attribute [local go_sem] Oper.semAt_some

theorem walk_any (h ac bu : Int) (a : Option Addr) (n c : Nat) (w : World) : Calls Try.prog 68 #[.agg #[.int .i64 h, .slice a n c, .int .i64 ac, .int .i64 bu]] w (fun e w' => e = .returned (.func (.func 105) #[] #[.pointer (some ⟨w.heap.size, 0, none⟩)]) ∧ w' = w.alloc (.cells #[.int .i64 h, .slice a n c, .int .i64 ac, .int .i64 bu] 30)) := by
  go_enter Try.func68, Try.ntmps68
  go_wp2
  go_ret
  exact ⟨rfl, rfl⟩

theorem first_at (b off n c A e : Nat) (f : Nat → Int) (w : World) (hs : Src w (some ⟨b, off, none⟩) n f) (hA : A < e) (he : e ≤ n) (hn : n ≤ 1048576) (hnc : n ≤ c) (hcm : c ≤ maxLen) :
    Calls Try.prog 107 #[.slice (some ⟨b, off + A, none⟩) (e - A) (c - A)] w (fun en w' => Below w.heap.size w w' ∧ ((Good f e A ∧ ∃ ta tc, en = .returned (.agg #[.int .i64 0, .int .i64 0, .int .i64 (f A / 2 % 16), .int .i64 (f A / 32 % 4096), .int .i64 (f A / 131072), .int .i64 (f (A + 1)), .slice ta (szOf f A) tc]) ∧ Own w' w.heap.size ta (szOf f A) (fun k => f (A + 2 + k))) ∨ (¬ Good f e A ∧ en = .returned (.agg #[.int .i64 1, .int .i64 0, .int .i64 0, .int .i64 0, .int .i64 0, .int .i64 0, .slice none 0 0])))) := by
  have hs' : Src w (some ⟨b, off + A, none⟩) (e - A) (fun k => f (A + k)) := hs.elim (fun h => .inl (by omega)) (fun ⟨b', o', h1, h3, h4⟩ => .inr ⟨b', o' + A, by cases h1; rfl, h3, fun i hi => by rw [show o' + A + i = o' + (A + i) by omega]; exact h4 (A + i) (by omega)⟩)
  have hgood : Good (fun k => f (A + k)) (e - A) 0 ↔ Good f e A := by
    constructor
    · rintro ⟨h1, h2, h3⟩; exact ⟨by omega, h2, by have h3' : 0 + 2 + szOf f A ≤ e - A := h3; omega⟩
    · rintro ⟨h1, h2, h3⟩; exact ⟨by omega, h2, by show 0 + 2 + szOf f A ≤ e - A; omega⟩
  refine (implFirst_any b (off + A) (e - A) (c - A) (fun k => f (A + k)) w hs' (by omega) (by omega) (by omega)).mono ?_
  rintro en w' ⟨hb, hc⟩
  refine ⟨hb, ?_⟩
  rcases hc with ⟨h1, ta, tc, h2, h3⟩ | ⟨h1, h2⟩
  · exact .inl ⟨hgood.1 h1, ta, tc, h2, h3.congr fun i _ => by show f (A + (2 + i)) = f (A + 2 + i); rw [Nat.add_assoc]⟩
  · exact .inr ⟨fun h => h1 (hgood.2 h), h2⟩

/-- What has come, and what is told of it. -/
def Match (f : Nat → Int) (M : List GM) (L : List Ob) : Prop := M.length = L.length ∧ ∀ (i : Nat) (t : GM) (y : Ob), M[i]? = some t → L[i]? = some y → GSame t (obG f y)

theorem match_snoc {f : Nat → Int} {M : List GM} {L : List Ob} {t : GM} {y : Ob} (h : Match f M L) (ht : GSame t (obG f y)) : Match f (M ++ [t]) (L ++ [y]) := by
  refine ⟨by simp [h.1], fun i u v hu hv => ?_⟩
  rcases Nat.lt_or_ge i M.length with hi | hi
  · rw [List.getElem?_append_left hi] at hu
    rw [List.getElem?_append_left (by rw [← h.1]; exact hi)] at hv
    exact h.2 i u v hu hv
  · rw [List.getElem?_append_right hi] at hu
    rw [List.getElem?_append_right (by rw [← h.1]; exact hi), ← h.1] at hv
    rcases Nat.eq_zero_or_pos (i - M.length) with h0 | h0
    · rw [h0] at hu hv
      simp only [List.getElem?_cons_zero, Option.some.injEq] at hu hv
      subst hu; subst hv; exact ht
    · rw [List.getElem?_eq_none (by simp; omega)] at hu
      cases hu

/-- What a round keeps. -/
def Kept (n0 A1 : Nat) (W0 W1 W' : World) : Prop := Below n0 W1 W' ∧ W'.heap[A1]? = W1.heap[A1]? ∧ ∀ b, W0.heap.size ≤ b → b < W1.heap.size → W'.heap[b]? = W1.heap[b]?

theorem blk_block {w w' : World} {b : Nat} {cs : List Value} (h : Blk w b cs) (e : w'.heap[b]? = w.heap[b]?) : Blk w' b cs := by
  refine ⟨?_, fun i u hu => ?_⟩
  · have h1 : w.heap[b]? = some (w.heap[b]'h.1) := Array.getElem?_eq_getElem h.1
    rw [h1] at e
    exact (Array.getElem?_eq_some_iff.1 e).1
  · obtain ⟨h1, h2⟩ := h.2 i u hu
    exact ⟨(World.cell?_of_block (w := w) (a := ⟨b, i, none⟩) e).trans h1, (World.frozen?_of_block (w := w) (a := ⟨b, i, none⟩) e).trans h2⟩

set_option maxRecDepth 100000 in
set_option maxHeartbeats 1600000 in
theorem iter_in (m l A1 : Nat) (h ac : Int) (ab ao n c P U : Nat) (f : Nat → Int) (w W : World) (J : List GM → World → Prop) (Jx : World → Prop)
    (hJ : ∀ pre V V', J pre V → Below V.heap.size V V' → J pre V')
    (hgo : ∀ pre (t : GM) V0 V1, J pre V0 → pre.length < 400 → Below V0.heap.size V0 V1 → Own V1 V0.heap.size t.a t.n t.f → YieldAt Fence.wide (m - 1) Try.prog l #[.agg #[.int .i64 0, .int .i64 t.at_, .int .i64 t.s, .int .i64 t.m, .int .i64 t.o, .int .i64 t.h, .slice t.a t.n t.c]] V1 fun e V' => e = .returned (.bool true) ∧ J (pre ++ [t]) V' ∧ Kept w.heap.size A1 V0 V1 V')
    (hno : ∀ pre V0 V1, J pre V0 → Below V0.heap.size V0 V1 → YieldAt Fence.wide (m - 1) Try.prog l #[.agg #[.int .i64 1, .int .i64 0, .int .i64 0, .int .i64 0, .int .i64 0, .int .i64 0, .slice none 0 0]] V1 fun e V' => e = .returned (.bool false) ∧ Jx V')
    (hs : Src w (some ⟨ab, ao, none⟩) n f) (hW : Below w.heap.size w W) (hA : Blk W A1 [.int .i64 h, .slice (some ⟨ab, ao, none⟩) n c, .int .i64 ac, .int .i64 (U : Int)])
    (h1 : 8 ≤ h) (h2 : h ≤ 200) (h3 : 0 ≤ ac) (h4 : ac ≤ 1) (hP : baseI ac h = (P : Int)) (hn : (n : Int) = 2 * h) (hPU : P + U ≤ n) (hnc : n ≤ c) (hcm : c ≤ maxLen) (h0 : J [] W) :
    CallsIn Fence.wide m Try.prog 105 #[.func (.yield l) #[] #[], .pointer (some ⟨A1, 0, none⟩)] W fun e V' => (∃ v, e = .returned v) ∧
      ((∃ L xs, parse f (P + U) P = some L ∧ Match f xs L ∧ J xs V') ∨ (parse f (P + U) P = none ∧ Jx V')) := by
  have HS := Lib.hid hs; have HW := Lib.hid hW; have HA := Lib.hid hA; have HJ := Lib.hid hJ; have HGO := Lib.hid hgo; have HNO := Lib.hid hno; have H0 := Lib.hid h0; have HP := Lib.hid hP; have HCM := Lib.hid hcm
  obtain ⟨E, hE⟩ : ∃ E : Nat, P + U = E := ⟨_, rfl⟩
  rw [hE] at hPU ⊢
  have HE := Lib.hid hE
  have HEI : Hid ((P : Int) + (U : Int) = (E : Int)) := Lib.hid (by omega)
  have hPE : P ≤ E := by omega
  have hn4 : n ≤ 400 := by omega
  have hUb : (U : Int) ≤ 400 := by omega
  have hPb : (P : Int) ≤ 400 := by omega
  clear hs hW hA hJ hgo hno h0 hP hE hcm hn
  have cA := HA.out
  have lA := HA.out.1; have cA0 := HA.out.at 0 rfl; have fA0 := HA.out.free 0 rfl; have cA1 := HA.out.at 1 rfl; have fA1 := HA.out.free 1 rfl; have cA2 := HA.out.at 2 rfl; have fA2 := HA.out.free 2 rfl; have cA3 := HA.out.at 3 rfl; have fA3 := HA.out.free 3 rfl
  clear cA
  refine callsIn_of_wp Try.func105 rfl trivial ?_ rfl
  simp only [Try.ntmps105, List.size_toArray, List.length_cons, List.length_nil, Nat.reduceAdd, Nat.reduceSub, Array.replicate_succ, Array.replicate_zero, List.push_toArray, List.append_toArray, List.nil_append, List.cons_append]
  gi_wp2_with fail
  refine ⟨trivial, fun hx => (by simp [Fence.wide] at hx), (callsIn_wide.2 (baseOf_any h ac (U : Int) (some ⟨ab, ao, none⟩) n c _ h1 h2 h3 h4)).mono ?_⟩
  rintro e w1 ⟨rfl, hb⟩
  rw [HP.out]
  have HA1 := Lib.hid (HA.out.below hb); have HW1 := Lib.hid (HW.out.trans (hb.mono HW.out.size)); have H1 := Lib.hid (HJ.out _ _ _ H0.out hb)
  clear hb h1 h2 h3 h4 HA HW H0
  clear lA cA0 fA0 cA1 fA1 cA2 fA2 cA3 fA3
  have lA := HA1.out.1; have cA0 := HA1.out.at 0 rfl; have fA0 := HA1.out.free 0 rfl; have cA1 := HA1.out.at 1 rfl; have fA1 := HA1.out.free 1 rfl; have cA2 := HA1.out.at 2 rfl; have fA2 := HA1.out.free 2 rfl; have cA3 := HA1.out.at 3 rfl; have fA3 := HA1.out.free 3 rfl
  gi_wp2
  clear lA cA0 fA0 cA1 fA1 cA2 fA2 cA3 fA3
  rw [HEI.out]
  gi_loopw [3] (fun p wr => ∃ (pre : List GM) (L : List Ob) (A : Nat), p = .int .i64 (A : Int) ∧ P ≤ A ∧ A ≤ E ∧ 2 * pre.length ≤ A ∧ Hid (parse f E P = (parse f E A).map (L ++ ·)) ∧ Hid (Match f pre L) ∧ Hid (J pre wr) ∧ Hid (Blk wr A1 [.int .i64 h, .slice (some ⟨ab, ao, none⟩) n c, .int .i64 ac, .int .i64 (U : Int)]) ∧ Hid (Below w.heap.size w wr)) (fun p _ => E - (intOf p).toNat)
  case atStart => exact ⟨[], [], P, rfl, Nat.le_refl _, hPE, Nat.zero_le _, Lib.hid (by cases parse f E P <;> rfl), Lib.hid ⟨rfl, fun i t y ht => by cases ht⟩, H1, HA1, HW1⟩
  clear H1 HA1 HW1
  case round =>
    obtain ⟨pre, L, A, rfl, hPA, hAE, hlen, HPR, HMT, HJr, HAr, HWr⟩ := hrel
    have hA0 : (0 : Int) ≤ (A : Int) := by omega
    by_cases hlt : A < E
    · have hlt' : (A : Int) < (E : Int) := by omega
      have hle' : (A : Int) ≤ (E : Int) := by omega
      have hEc : (E : Int) ≤ (c : Int) := by omega
      have hcA : ¬ c = A := by omega
      have lA := HAr.out.1; have cA0 := HAr.out.at 0 rfl; have fA0 := HAr.out.free 0 rfl; have cA1 := HAr.out.at 1 rfl; have fA1 := HAr.out.free 1 rfl; have cA2 := HAr.out.at 2 rfl; have fA2 := HAr.out.free 2 rfl; have cA3 := HAr.out.at 3 rfl; have fA3 := HAr.out.free 3 rfl
      gi_wp2_with fail
      clear lA cA0 fA0 cA1 fA1 cA2 fA2 cA3 fA3
      refine ⟨trivial, fun hx => (by simp [Fence.wide] at hx), (callsIn_wide.2 (first_at ab ao n c A E f _ (HS.out.below HWr.out) hlt hPU (by omega) hnc HCM.out)).mono ?_⟩
      rintro en w2 ⟨hb, hc⟩
      have HBW := Lib.hid hb
      have HA2 := Lib.hid (HAr.out.below hb)
      have zr := hb.size
      clear hb hlt' hle' hEc hcA
      rcases hc with ⟨hgd, ta, tc, rfl, ho⟩ | ⟨hbd, rfl⟩
      · have HGD := Lib.hid hgd
        have HO := Lib.hid ho
        have hsz := good_size hgd
        have hsE : A + 2 + szOf f A ≤ E := hgd.2.2
        clear hgd ho
        have X0 := Lib.hid (Blk.new_at (w := w2) (cs := #[.int .i64 0, .int .i64 0, .int .i64 (f A / 2 % 16), .int .i64 (f A / 32 % 4096), .int .i64 (f A / 131072), .int .i64 (f (A + 1)), .slice ta (szOf f A) tc]) (t := 140) w2.heap.size rfl)
        have X1 : Hid (Blk (w2.alloc (.cells #[.int .i64 0, .int .i64 (A : Int), .int .i64 (f A / 2 % 16), .int .i64 (f A / 32 % 4096), .int .i64 (f A / 131072), .int .i64 (f (A + 1)), .slice ta (szOf f A) tc] 140)) w2.heap.size [.int .i64 0, .int .i64 (A : Int), .int .i64 (f A / 2 % 16), .int .i64 (f A / 32 % 4096), .int .i64 (f A / 131072), .int .i64 (f (A + 1)), .slice ta (szOf f A) tc]) := Lib.hid (Blk.new_at (w := w2) (cs := #[.int .i64 0, .int .i64 (A : Int), .int .i64 (f A / 2 % 16), .int .i64 (f A / 32 % 4096), .int .i64 (f A / 131072), .int .i64 (f (A + 1)), .slice ta (szOf f A) tc]) (t := 140) w2.heap.size rfl)
        have hz1 : (w2.alloc (.cells #[.int .i64 0, .int .i64 (A : Int), .int .i64 (f A / 2 % 16), .int .i64 (f A / 32 % 4096), .int .i64 (f A / 131072), .int .i64 (f (A + 1)), .slice ta (szOf f A) tc] 140)).heap.size = w2.heap.size + 1 := by simp
        have HZ1 := Lib.hid hz1
        clear hz1
        have HB2 : Hid (Below w2.heap.size w2 (w2.alloc (.cells #[.int .i64 0, .int .i64 (A : Int), .int .i64 (f A / 2 % 16), .int .i64 (f A / 32 % 4096), .int .i64 (f A / 131072), .int .i64 (f (A + 1)), .slice ta (szOf f A) tc] 140))) := Lib.hid ((Below.refl _ w2).alloc (Nat.le_refl _) _)
        have HA3 := Lib.hid (HA2.out.below HB2.out)
        have HBr : Hid (Below wr.heap.size wr (w2.alloc (.cells #[.int .i64 0, .int .i64 (A : Int), .int .i64 (f A / 2 % 16), .int .i64 (f A / 32 % 4096), .int .i64 (f A / 131072), .int .i64 (f (A + 1)), .slice ta (szOf f A) tc] 140))) := Lib.hid (HBW.out.trans (HB2.out.mono zr))
        obtain ⟨fn, tmps, assign, body, hy, hR⟩ := HGO.out pre ⟨(A : Int), f A / 2 % 16, f A / 32 % 4096, f A / 131072, f (A + 1), ta, szOf f A, tc, fun k => f (A + 2 + k)⟩ wr _ HJr.out (by omega) HBr.out (HO.out.below HB2.out)
        dsimp only at hy
        have lX := X0.out.1; have cX0 := X0.out.at 0 rfl; have fX0 := X0.out.free 0 rfl; have cX1 := X0.out.at 1 rfl; have fX1 := X0.out.free 1 rfl; have cX2 := X0.out.at 2 rfl; have fX2 := X0.out.free 2 rfl; have cX3 := X0.out.at 3 rfl; have fX3 := X0.out.free 3 rfl; have cX4 := X0.out.at 4 rfl; have fX4 := X0.out.free 4 rfl; have cX5 := X0.out.at 5 rfl; have fX5 := X0.out.free 5 rfl; have cX6 := X0.out.at 6 rfl; have fX6 := X0.out.free 6 rfl
        have lY := X1.out.1; have cY0 := X1.out.at 0 rfl; have fY0 := X1.out.free 0 rfl; have cY1 := X1.out.at 1 rfl; have fY1 := X1.out.free 1 rfl; have cY2 := X1.out.at 2 rfl; have fY2 := X1.out.free 2 rfl; have cY3 := X1.out.at 3 rfl; have fY3 := X1.out.free 3 rfl; have cY4 := X1.out.at 4 rfl; have fY4 := X1.out.free 4 rfl; have cY5 := X1.out.at 5 rfl; have fY5 := X1.out.free 5 rfl; have cY6 := X1.out.at 6 rfl; have fY6 := X1.out.free 6 rfl
        gi_wp2
        clear lX cX0 fX0 cX1 fX1 cX2 fX2 cX3 fX3 cX4 fX4 cX5 fX5 cX6 fX6
        clear lY cY0 fY0 cY1 fY1 cY2 fY2 cY3 fY3 cY4 fY4 cY5 fY5 cY6 fY6
        refine ⟨fun hx => (by simp [Fence.wide] at hx), hR.mono ?_⟩
        rintro e W3 ⟨rfl, hJ3, hk3⟩
        have X3 := Lib.hid (blk_block X1.out (hk3.2.2 w2.heap.size zr (by rw [HZ1.out]; omega)))
        have A3 := Lib.hid (blk_block HA3.out hk3.2.1)
        have W3B := Lib.hid (((HWr.out.trans (HBr.out.mono HWr.out.size))).trans hk3.1)
        have J3 := Lib.hid hJ3
        clear hy hR hJ3 hk3
        have lX := X3.out.1; have cX2 := X3.out.at 2 rfl
        have HPS := Lib.hid (parse_step HPR.out hlt HGD.out)
        have HM3 : Hid (Match f (pre ++ [⟨(A : Int), f A / 2 % 16, f A / 32 % 4096, f A / 131072, f (A + 1), ta, szOf f A, tc, fun k => f (A + 2 + k)⟩]) (L ++ [objAt f A])) := Lib.hid (match_snoc HMT.out ⟨rfl, rfl, rfl, rfl, rfl, rfl, fun _ _ => rfl⟩)
        obtain ⟨sz0, sz1, sz2⟩ := hsz
        have HSZ := Lib.hid sz2
        have hAb : (A : Int) ≤ 400 := by omega
        gi_wp2
        go_roundw
        case rel => exact ⟨_, _, A + 2 + szOf f A, by have := HSZ.out; go_num, by omega, hsE, by simp; omega, HPS, HM3, J3, A3, W3B⟩
        case measure => have := HSZ.out; simp [intOf]; omega
      · have HBD := Lib.hid hbd
        clear hbd
        have X0 := Lib.hid (Blk.new_at (w := w2) (cs := #[.int .i64 1, .int .i64 0, .int .i64 0, .int .i64 0, .int .i64 0, .int .i64 0, .slice none 0 0]) (t := 140) w2.heap.size rfl)
        have HBr : Hid (Below wr.heap.size wr (w2.alloc (.cells #[.int .i64 1, .int .i64 0, .int .i64 0, .int .i64 0, .int .i64 0, .int .i64 0, .slice none 0 0] 140))) := Lib.hid (HBW.out.alloc zr _)
        obtain ⟨fn, tmps, assign, body, hy, hR⟩ := HNO.out pre wr _ HJr.out HBr.out
        have lX := X0.out.1; have cX0 := X0.out.at 0 rfl; have fX0 := X0.out.free 0 rfl; have cX1 := X0.out.at 1 rfl; have fX1 := X0.out.free 1 rfl; have cX2 := X0.out.at 2 rfl; have fX2 := X0.out.free 2 rfl; have cX3 := X0.out.at 3 rfl; have fX3 := X0.out.free 3 rfl; have cX4 := X0.out.at 4 rfl; have fX4 := X0.out.free 4 rfl; have cX5 := X0.out.at 5 rfl; have fX5 := X0.out.free 5 rfl; have cX6 := X0.out.at 6 rfl; have fX6 := X0.out.free 6 rfl
        gi_wp2
        clear lX cX0 fX0 cX1 fX1 cX2 fX2 cX3 fX3 cX4 fX4 cX5 fX5 cX6 fX6
        refine ⟨fun hx => (by simp [Fence.wide] at hx), hR.mono ?_⟩
        rintro e W3 ⟨rfl, hJ3⟩
        have HN : Hid (parse f E P = none) := Lib.hid (by rw [HPR.out, parse_bad hlt HBD.out]; rfl)
        gi_wp2
        refine bodyPost_ret (results_none rfl _ _ _) rfl ?_
        exact ⟨⟨_, rfl⟩, .inr ⟨HN.out, hJ3⟩⟩
    · have hlt' : ¬ (A : Int) < (E : Int) := by omega
      have HN : Hid (parse f E P = some L) := Lib.hid (by rw [HPR.out, parse_stop hlt]; simp)
      gi_wp2
      go_end0
      exact ⟨⟨_, rfl⟩, .inl ⟨L, HN.out, pre, HMT.out, HJr.out⟩⟩
end Go.Proofs.Ytnpklnpicelcmaa

namespace Go.Proofs.Ytnpklnpicelcmaa
open Go.RowKit
set_option linter.unusedVariables false

def gcells (t : GM) : List Value := [.int .i64 t.at_, .int .i64 t.s, .int .i64 t.m, .int .i64 t.o, .int .i64 t.h, .slice t.a t.n t.c]

def rowG (M : List GM) : List Value := M.flatMap gcells

theorem rowG_snoc (M : List GM) (t : GM) : rowG (M ++ [t]) = rowG M ++ gcells t := by simp [rowG]

theorem rowG_get : ∀ (M : List GM) (i : Nat) (t : GM), M[i]? = some t → ∀ j, j < 6 → (rowG M)[i * 6 + j]? = (gcells t)[j]?
  | [], i, t, h, j, hj => by simp at h
  | u :: M, 0, t, h, j, hj => by
    simp only [List.getElem?_cons_zero, Option.some.injEq] at h
    subst h
    simp only [rowG, List.flatMap_cons, Nat.zero_mul, Nat.zero_add]
    rw [List.getElem?_append_left (by simp [gcells]; omega)]
  | u :: M, i + 1, t, h, j, hj => by
    have ih := rowG_get M i t (by simpa using h) j hj
    simp only [rowG, List.flatMap_cons] at ih ⊢
    rw [List.getElem?_append_right (by simp [gcells]; omega)]
    have e : (i + 1) * 6 + j - (gcells u).length = i * 6 + j := by simp [gcells]; omega
    rw [e]; exact ih

/-- Each object's fields are numbers of their own, later ones in later blocks. -/
def FldG (w : World) (lo : Nat) (v : Value) (M : List GM) : Prop :=
  (∀ t ∈ M, t.n = 0 ∨ (lo ≤ t.g ∧ t.g < w.heap.size ∧ some t.g ≠ v.ownBlock ∧ ∃ q, t.a = some ⟨t.g, q, none⟩ ∧ ∀ k, k < t.n → w.cell? ⟨t.g, q + k, none⟩ = some (.int .i64 (t.f k)) ∧ w.frozen? ⟨t.g, q + k, none⟩ = false)) ∧ M.Pairwise (fun t u => t.n = 0 ∨ u.n = 0 ∨ t.g < u.g)

theorem FldG.block {w w' : World} {lo : Nat} {v : Value} {M : List GM} (h : FldG w lo v M) (hz : w.heap.size ≤ w'.heap.size) (hb : ∀ b, lo ≤ b → b < w.heap.size → some b ≠ v.ownBlock → w'.heap[b]? = w.heap[b]?) : FldG w' lo v M :=
  ⟨fun t ht => by
    rcases h.1 t ht with h0 | ⟨h1, h2, h3, q, h4, h5⟩
    · exact .inl h0
    · have e := hb t.g h1 h2 h3
      exact .inr ⟨h1, Nat.lt_of_lt_of_le h2 hz, h3, q, h4, fun k hk => ⟨(World.cell?_of_block (w := w) (a := ⟨t.g, q + k, none⟩) e).trans (h5 k hk).1, (World.frozen?_of_block (w := w) (a := ⟨t.g, q + k, none⟩) e).trans (h5 k hk).2⟩⟩, h.2⟩

theorem FldG.below {w w' : World} {lo : Nat} {v : Value} {M : List GM} (h : FldG w lo v M) (hb : Below w.heap.size w w') : FldG w' lo v M := h.block hb.size fun b _ h2 _ => hb.block b h2

theorem FldG.snoc {w0 w1 w2 : World} {lo : Nat} {v v' : Value} {M : List GM} (t : GM) (h : FldG w0 lo v M) (hz : w0.heap.size ≤ w1.heap.size) (h01 : ∀ (b : Nat) (o : Obj), w0.heap[b]? = some o → o.isCells = true → w1.heap[b]? = some o) (hg : w1.grownBy w2 v.ownBlock)
    (hat : v'.ownBlock = v.ownBlock ∨ v'.ownBlock = some w1.heap.size) (hlo : lo ≤ w0.heap.size) (hv : ∀ k, v.ownBlock = some k → k < w0.heap.size) (ho : Own w1 w0.heap.size t.a t.n t.f) : FldG w2 lo v' (M ++ [t]) := by
  refine ⟨fun u hu => ?_, ?_⟩
  · rcases List.mem_append.mp hu with hu | hu
    · rcases Nat.eq_zero_or_pos u.n with hp | hp
      · exact .inl hp
      rcases h.1 u hu with h0 | ⟨h1, h2, h3, q, h4, h5⟩
      · exact .inl h0
      · obtain ⟨ob, hob, hcb⟩ := cells_of_cell (h5 0 hp).1
        have e := (hg.block u.g (Nat.lt_of_lt_of_le h2 hz) h3).trans ((h01 u.g ob hob hcb).trans hob.symm)
        refine .inr ⟨h1, Nat.lt_of_lt_of_le (Nat.lt_of_lt_of_le h2 hz) hg.size, ?_, q, h4, fun k hk => ⟨(World.cell?_of_block (w := w0) (a := ⟨u.g, q + k, none⟩) e).trans (h5 k hk).1, (World.frozen?_of_block (w := w0) (a := ⟨u.g, q + k, none⟩) e).trans (h5 k hk).2⟩⟩
        rcases hat with hat | hat
        · rw [hat]; exact h3
        · rw [hat]; intro he; simp only [Option.some.injEq] at he; omega
    · simp only [List.mem_singleton] at hu
      subst hu
      rcases ho with h0 | ⟨b, off, he, h1, h2, h3⟩
      · exact .inl h0
      · have hgb : u.g = b := by simp [GM.g, he]
        have hne : some b ≠ v.ownBlock := fun hx => by have := hv b hx.symm; omega
        have e := hg.block b h2 hne
        refine .inr ⟨by omega, by rw [hgb]; exact Nat.lt_of_lt_of_le h2 hg.size, ?_, off, by rw [hgb]; exact he, fun k hk => ?_⟩
        · rw [hgb]
          rcases hat with hat | hat
          · rw [hat]; exact hne
          · rw [hat]; intro hx; simp only [Option.some.injEq] at hx; omega
        · rw [hgb]
          exact ⟨(World.cell?_of_block (w := w1) (a := ⟨b, off + k, none⟩) e).trans (h3 k hk).1, (World.frozen?_of_block (w := w1) (a := ⟨b, off + k, none⟩) e).trans (h3 k hk).2⟩
  · rw [List.pairwise_append]
    refine ⟨h.2, by simp, fun u hu x hx => ?_⟩
    simp only [List.mem_singleton] at hx
    subst hx
    rcases h.1 u hu with h0 | ⟨_, h2, _⟩
    · exact .inl h0
    · rcases ho with h0 | ⟨b, off, he, h1, _⟩
      · exact .inr (.inl h0)
      · have hgb : x.g = b := by simp [GM.g, he]
        exact .inr (.inr (by omega))

def gT (M : List GM) (i : Nat) : GM := M[i]?.getD gzero

theorem gT_at {M : List GM} {i : Nat} {t : GM} (h : M[i]? = some t) : gT M i = t := by simp [gT, h]

theorem rowG_GVO {w : World} {base lo : Nat} {v : Value} {M : List GM} (h : w.ownsRow base 138 6 v M.length (rowG M)) (hf : FldG w lo v M) (hl : lo ≤ base) : ∃ a c, v = .slice a M.length c ∧ GVO w lo w.heap.size a M.length (gT M) := by
  rcases Nat.eq_zero_or_pos M.length with h0 | hp
  · rcases h.2 with ⟨h1, h2⟩ | ⟨g, cap, cur, h1, _⟩
    · exact ⟨none, 0, by rw [h1, h2], .inl h0⟩
    · exact ⟨_, cap, h1, .inl h0⟩
  · obtain ⟨gb, cap, rfl, hb, hlt⟩ := h.form hp
    refine ⟨_, cap, rfl, .inr ⟨gb, 0, rfl, ?_⟩⟩
    have hfr : ∀ k, k < M.length * 6 → w.frozen? ⟨gb, k, none⟩ = false := fun k hk => by
      have := h.frozenAt k
      simpa using this
    have hce : ∀ i t, M[i]? = some t → ∀ j u, (gcells t)[j]? = some u → w.cell? ⟨gb, i * 6 + j, none⟩ = some u := fun i t ht j u hu => by
      have hi : i < M.length := (List.getElem?_eq_some_iff.mp ht).1
      have hj : j < 6 := by
        have := (List.getElem?_eq_some_iff.mp hu).1
        simpa [gcells] using this
      have hc := h.cellAt (i * 6 + j) (by omega)
      rw [rowG_get M i t ht j hj, hu] at hc
      simpa using hc
    refine ⟨by omega, hlt, hlt, fun i hi => ?_, fun i hi => ?_, fun i hi => ?_, fun i hi => ?_, fun i j hi hj hij => ?_⟩
    · have ht := List.getElem?_eq_getElem hi
      rw [gT_at ht, Nat.zero_add]
      exact ⟨hce i _ ht 0 _ rfl, hce i _ ht 1 _ rfl, hce i _ ht 2 _ rfl, hce i _ ht 3 _ rfl, hce i _ ht 4 _ rfl, hce i _ ht 5 _ rfl⟩
    · rw [Nat.zero_add]
      exact ⟨hfr _ (by omega), hfr _ (by omega), hfr _ (by omega), hfr _ (by omega), hfr _ (by omega), hfr _ (by omega)⟩
    · have ht := List.getElem?_eq_getElem hi
      rw [gT_at ht]
      rcases hf.1 M[i] (List.getElem_mem hi) with h0 | ⟨h1, h2, _, q, h4, h5⟩
      · exact .inl h0
      · exact .inr ⟨_, q, h4, ⟨h1, h2⟩, h2, h5⟩
    · have ht := List.getElem?_eq_getElem hi
      rw [gT_at ht]
      rcases hf.1 M[i] (List.getElem_mem hi) with h0 | ⟨_, _, h3, _⟩
      · exact .inl h0
      · right
        intro he
        exact h3 (by rw [he]; rfl)
    · have hp := List.pairwise_iff_getElem.mp hf.2
      rw [gT_at (List.getElem?_eq_getElem hi), gT_at (List.getElem?_eq_getElem hj)]
      rcases Nat.lt_or_ge i j with hlt' | hge
      · rcases hp i j hi hj hlt' with h0 | h0 | h0
        · exact .inl h0
        · exact .inr (.inl h0)
        · exact .inr (.inr (by omega))
      · rcases hp j i hj hi (by omega) with h0 | h0 | h0
        · exact .inr (.inl h0)
        · exact .inl h0
        · exact .inr (.inr (by omega))

theorem match_same {f : Nat → Int} {M : List GM} {L : List Ob} (h : Match f M L) (i : Nat) (hi : i < L.length) : GSame (gT M i) (obT f L i) := by
  have h1 : i < M.length := by rw [h.1]; exact hi
  rw [gT_at (List.getElem?_eq_getElem h1)]
  have := h.2 i _ _ (List.getElem?_eq_getElem h1) (List.getElem?_eq_getElem hi)
  simpa [obT, List.getElem?_eq_getElem hi, xT] using this
end Go.Proofs.Ytnpklnpicelcmaa

namespace Go.Proofs.Ytnpklnpicelcmaa
open Go.RowKit Go.Shelf
set_option linter.unusedVariables false

/-- What lay below B, and what holds cells, is as it was. -/
structure Turn (B : Nat) (V V' : World) : Prop where
  os : V'.os = V.os
  tape : V'.tape = V.tape
  output : V'.output = V.output
  size : V.heap.size ≤ V'.heap.size
  same : ∀ (k : Nat) (o : Obj), V.heap[k]? = some o → (k < B ∨ o.isCells = true) → V'.heap[k]? = some o

theorem Turn.of_below {B : Nat} {V V' : World} (h : Below V.heap.size V V') : Turn B V V' :=
  ⟨h.os, h.tape, h.output, h.size, fun k o hk _ => (h.block k (Array.getElem?_eq_some_iff.1 hk).1).trans hk⟩

theorem Turn.trans {B : Nat} {V V' V'' : World} (h : Turn B V V') (h' : Turn B V' V'') : Turn B V V'' :=
  ⟨h'.os.trans h.os, h'.tape.trans h.tape, h'.output.trans h.output, Nat.le_trans h.size h'.size, fun k o hk hc => h'.same k o (h.same k o hk hc) hc⟩

theorem Turn.put {B : Nat} {V : World} {l : Nat} {o : Obj} (o' : Obj) (hl : B ≤ l) (h : V.heap[l]? = some o) (hc : o.isCells = false) : Turn B V (V.putObj l o') :=
  ⟨rfl, rfl, rfl, by simp, fun k x hk hx => by
    have hne : k ≠ l := fun e => by
      subst e
      rw [h] at hk
      cases hk
      rcases hx with hx | hx
      · omega
      · rw [hc] at hx; cases hx
    rw [World.putObj_heap_other hne]; exact hk⟩

theorem Turn.below {B n : Nat} {V V' : World} (h : Turn B V V') (hn : n ≤ B) (hz : n ≤ V.heap.size) : Below n V V' :=
  ⟨h.os, h.tape, h.output, h.size, fun k hk => by
    have hk' : V.heap[k]? = some (V.heap[k]'(by omega)) := Array.getElem?_eq_getElem (by omega)
    rw [hk']; exact h.same k _ hk' (.inl (by omega))⟩

theorem Turn.cell {B : Nat} {V V' : World} (h : Turn B V V') {p : Addr} {v : Value} (hc : V.cell? p = some v) : V'.cell? p = some v ∧ V'.frozen? p = V.frozen? p ∧ V'.heap[p.block]? = V.heap[p.block]? := by
  obtain ⟨o, ho, hcc⟩ := cells_of_cell hc
  have e : V'.heap[p.block]? = V.heap[p.block]? := (h.same _ o ho (.inr hcc)).trans ho.symm
  exact ⟨(World.cell?_of_block e).trans hc, World.frozen?_of_block e, e⟩

theorem Turn.blk {B : Nat} {V V' : World} (h : Turn B V V') {b : Nat} {cs : List Value} (hb : Blk V b cs) (hne : cs ≠ []) : Blk V' b cs := by
  cases cs with
  | nil => exact absurd rfl hne
  | cons u cs => exact blk_block hb (h.cell (hb.2 0 u rfl).1).2.2

theorem Turn.own {B : Nat} {V V' : World} (h : Turn B V V') {lo n : Nat} {a : Option Addr} {f : Nat → Int} (ho : Own V lo a n f) : Own V' lo a n f := by
  rcases ho with h0 | ⟨b, off, he, h1, h2, h3⟩
  · exact .inl h0
  · exact .inr ⟨b, off, he, h1, Nat.lt_of_lt_of_le h2 h.size, fun k hk => by
      obtain ⟨e1, e2, _⟩ := h.cell (h3 k hk).1
      exact ⟨e1, e2.trans (h3 k hk).2⟩⟩

theorem Turn.row {B : Nat} {V V' : World} (h : Turn B V V') {base e size n : Nat} {v : Value} {xs : List Value} (ho : V.ownsRow base e size v n xs) : V'.ownsRow base e size v n xs := by
  refine ⟨ho.1, ?_⟩
  rcases ho.2 with h0 | ⟨g, cap, cur, h1, h2, h3, h4⟩
  · exact .inl h0
  · exact .inr ⟨g, cap, cur, h1, h2, h.same g _ h3 (.inr rfl), h4⟩

theorem Turn.fld {B : Nat} {V V' : World} (h : Turn B V V') {lo : Nat} {v : Value} {M : List GM} (ho : FldG V lo v M) : FldG V' lo v M :=
  ⟨fun t ht => by
    rcases Nat.eq_zero_or_pos t.n with h0 | hp
    · exact .inl h0
    · rcases ho.1 t ht with h0 | ⟨h1, h2, h3, q, h4, h5⟩
      · exact .inl h0
      · exact .inr ⟨h1, Nat.lt_of_lt_of_le h2 h.size, h3, q, h4, fun k hk => by
          obtain ⟨e1, e2, _⟩ := h.cell (h5 k hk).1
          exact ⟨e1, e2.trans (h5 k hk).2⟩⟩, ho.2⟩

set_option maxHeartbeats 800000 in
/-- A loop over the iterator of objects: what each round owes, and what it is told. -/
theorem range_objs {n : Nat} {g : Operand} {p : Tmp} {assign body : Code} {Q : Exit → Act → World → Prop} {a : Act} {W0 : World} {gf : Nat} {lb : Array Value}
    (hg : a.eval g = .func (.func gf) #[] lb) (eg : ∀ args w, (callFunc gf args).run Try.prog w = .ok (.enter gf args) w)
    (S : List GM → Prop) (N : Prop) (I : List GM → World → Prop) (Ix : World → Prop) (n0 A1 : Nat) (hn0 : n0 ≤ W0.heap.size) (hA1 : A1 < W0.heap.size)
    (hI : ∀ s V V', I s V → Turn W0.heap.size V V' → I s V') (hIx : ∀ V V', Ix V → Turn W0.heap.size V V' → Ix V') (h0 : I [] W0)
    (hit : ∀ (l : Nat) (J : List GM → World → Prop) (Jx : World → Prop) (W1 : World), Below W0.heap.size W0 W1 → (∀ pre V V', J pre V → Below V.heap.size V V' → J pre V') →
      (∀ pre (t : GM) V0 V1, J pre V0 → pre.length < 400 → Below V0.heap.size V0 V1 → Own V1 V0.heap.size t.a t.n t.f → YieldAt Fence.wide (n - 1 - 1) Try.prog l #[.agg #[.int .i64 0, .int .i64 t.at_, .int .i64 t.s, .int .i64 t.m, .int .i64 t.o, .int .i64 t.h, .slice t.a t.n t.c]] V1 fun e V' => e = .returned (.bool true) ∧ J (pre ++ [t]) V' ∧ Kept n0 A1 V0 V1 V') →
      (∀ pre V0 V1, J pre V0 → Below V0.heap.size V0 V1 → YieldAt Fence.wide (n - 1 - 1) Try.prog l #[.agg #[.int .i64 1, .int .i64 0, .int .i64 0, .int .i64 0, .int .i64 0, .int .i64 0, .slice none 0 0]] V1 fun e V' => e = .returned (.bool false) ∧ Jx V') → J [] W1 →
      CallsIn Fence.wide (n - 1) Try.prog gf (#[.func (.yield l) #[] #[]] ++ lb) W1 fun e V' => (∃ v, e = .returned v) ∧ ((∃ xs, S xs ∧ J xs V') ∨ (N ∧ Jx V')))
    (a₁ : Value → Nat → Act)
    (hassign : ∀ (l : Nat) (c0 c1 c2 c3 c4 c5 : Int) (sa : Option Addr) (sn sc : Nat) (V1 : World) (K : Act → World → Prop), K (a₁ (.agg #[.int .i64 c0, .int .i64 c1, .int .i64 c2, .int .i64 c3, .int .i64 c4, .int .i64 c5, .slice sa sn sc]) V1.heap.size) (V1.alloc (.cells #[.int .i64 c0, .int .i64 c1, .int .i64 c2, .int .i64 c3, .int .i64 c4, .int .i64 c5, .slice sa sn sc] 140)) →
      assign.wpIn (Fence.wide.inRound l) (n - 1 - 1) Try.prog (Exit.then K (fun _ _ _ => False)) { tmps := a.tmps.setIfInBounds p (.agg #[.int .i64 c0, .int .i64 c1, .int .i64 c2, .int .i64 c3, .int .i64 c4, .int .i64 c5, .slice sa sn sc]), defers := [] } V1)
    (hgo : ∀ (l : Nat) (pre : List GM) (t : GM) (V0 V1 V2 : World), I pre V0 → pre.length < 400 → Turn W0.heap.size V0 V2 → V0.heap.size ≤ V1.heap.size → V2.heap.size = V1.heap.size + 1 → W0.heap.size ≤ V0.heap.size → Blk V2 V1.heap.size [.int .i64 0, .int .i64 t.at_, .int .i64 t.s, .int .i64 t.m, .int .i64 t.o, .int .i64 t.h, .slice t.a t.n t.c] → Own V2 V0.heap.size t.a t.n t.f →
      body.wpIn (Fence.wide.inRound l) (n - 1 - 1) Try.prog (fun ex _ V3 => ex = .normal ∧ KeepsOthers V2 V3 ∧ I (pre ++ [t]) V3 ∧ Kept n0 A1 V0 V2 V3) (a₁ (.agg #[.int .i64 0, .int .i64 t.at_, .int .i64 t.s, .int .i64 t.m, .int .i64 t.o, .int .i64 t.h, .slice t.a t.n t.c]) V1.heap.size) V2)
    (hno : ∀ (l : Nat) (pre : List GM) (V0 V1 V2 : World), I pre V0 → Turn W0.heap.size V0 V2 → V0.heap.size ≤ V1.heap.size → V2.heap.size = V1.heap.size + 1 → W0.heap.size ≤ V0.heap.size → Blk V2 V1.heap.size [.int .i64 1, .int .i64 0, .int .i64 0, .int .i64 0, .int .i64 0, .int .i64 0, .slice none 0 0] →
      body.wpIn (Fence.wide.inRound l) (n - 1 - 1) Try.prog (fun ex _ V3 => ex = .ret ∧ KeepsOthers V2 V3 ∧ Ix V3) (a₁ (.agg #[.int .i64 1, .int .i64 0, .int .i64 0, .int .i64 0, .int .i64 0, .int .i64 0, .slice none 0 0]) V1.heap.size) V2)
    (hdone : ∀ (D : Nat) (xs : List GM) (V : World), W0.heap.size ≤ D → S xs → I xs V → V.heap[D]? = some (.deferred (some [])) → Q .normal { a with defers := { target := .collected D, args := #[] } :: a.defers } V)
    (hstop : ∀ (D : Nat) (V : World), W0.heap.size ≤ D → N → Ix V → V.heap[D]? = some (.deferred (some [])) → Code.ret.wpIn Fence.wide n Try.prog Q { a with defers := { target := .collected D, args := #[] } :: a.defers } V) :
    (Code.rangeFunc g #[p] assign body).wpIn Fence.wide n Try.prog Q a W0 := by
  refine wpIn_rangeFunc ?_
  intro fn hfn
  obtain ⟨rec, hrec⟩ : ∃ rec : LoopState → Option Code → Loop, rec = fun st pe => { state := st, pending := pe, fn, tmps := a.tmps, params := #[p], assign, body, defers := W0.heap.size } := ⟨_, rfl⟩
  have hfold : ∀ v : Value, (#[p].zip #[v]).foldl (fun tmps (t, a) => tmps.setIfInBounds t a) a.tmps = a.tmps.setIfInBounds p v := fun v => by simp
  have hL1 : ((W0.alloc (.deferred (some []))).alloc (.loop (rec .ready none))).heap[W0.heap.size + 1]? = some (.loop (rec .ready none)) := by
    have := World.alloc_heap_new (W0.alloc (.deferred (some []))) (.loop (rec .ready none)); rwa [World.size_alloc] at this
  have hK1 : ((W0.alloc (.deferred (some []))).alloc (.loop (rec .ready none))).heap[W0.heap.size]? = some (.deferred (some [])) := (Below.heap_alloc _ _ _ (by simp)).trans (World.alloc_heap_new W0 _)
  have hB1 : Below W0.heap.size W0 ((W0.alloc (.deferred (some []))).alloc (.loop (rec .ready none))) := ((Below.refl _ W0).alloc (Nat.le_refl _) _).alloc (by simp) _
  refine ⟨W0.heap.size + 1, [{ target := .collected W0.heap.size, args := #[] }], (W0.alloc (.deferred (some []))).alloc (.loop (rec .ready none)), { target := .fn (.func gf) lb, args := #[.func (.yield (W0.heap.size + 1)) #[] #[]] }, (W0.alloc (.deferred (some []))).alloc (.loop (rec .ready none)), gf,
    #[.func (.yield (W0.heap.size + 1)) #[] #[]] ++ lb, (W0.alloc (.deferred (some []))).alloc (.loop (rec .ready none)), ?_, ?_, ?_, ?_, fun hx => (by simp [Fence.wide] at hx), ?_⟩
  · rw [hrec]; exact run_enterLoop_outer _ _ _ _ _
  · simp only [resolve, hg]
    simp [go_sem]
  · intro f' _; trivial
  · simp [invoke, go_sem, eg]
  refine (hit (W0.heap.size + 1)
    (fun pre V => I pre V ∧ V.heap[W0.heap.size + 1]? = some (.loop (rec .ready none)) ∧ V.heap[W0.heap.size]? = some (.deferred (some [])))
    (fun V => Ix V ∧ V.heap[W0.heap.size + 1]? = some (.loop (rec .done (some .ret))) ∧ V.heap[W0.heap.size]? = some (.deferred (some [])))
    _ hB1 (fun pre V V' hs hb => ⟨hI _ _ _ hs.1 (Turn.of_below hb), (hb.block _ (Array.getElem?_eq_some_iff.1 hs.2.1).1).trans hs.2.1, (hb.block _ (Array.getElem?_eq_some_iff.1 hs.2.2).1).trans hs.2.2⟩) ?_ ?_ ⟨hI _ _ _ h0 (Turn.of_below hB1), hL1, hK1⟩).mono ?_
  · rintro pre t V0 V1 ⟨hi, hl, hk⟩ hlen hb ho
    have hls := (Array.getElem?_eq_some_iff.1 hl).1
    have hz := hb.size
    have hz0 : W0.heap.size ≤ V0.heap.size := by omega
    have hl1 : V1.heap[W0.heap.size + 1]? = some (.loop (rec .ready none)) := (hb.block _ hls).trans hl
    have hk1 : V1.heap[W0.heap.size]? = some (.deferred (some [])) := (hb.block _ (by omega)).trans hk
    have hy := run_yield (P := Try.prog) (args := #[.agg #[.int .i64 0, .int .i64 t.at_, .int .i64 t.s, .int .i64 t.m, .int .i64 t.o, .int .i64 t.h, .slice t.a t.n t.c]]) hl1 (by rw [hrec]; rfl)
    rw [hrec] at hy
    refine ⟨fn, _, assign, body, hy, roundIn_of_wpIn hfn ?_⟩
    dsimp only
    rw [hfold]
    refine hassign (W0.heap.size + 1) 0 t.at_ t.s t.m t.o t.h t.a t.n t.c V1 _ ?_
    refine ⟨_, run_beginRound ((Below.heap_alloc _ _ _ (by omega)).trans hl1) (by rw [hrec]), ?_⟩
    have hla : (V1.alloc (.cells #[.int .i64 0, .int .i64 t.at_, .int .i64 t.s, .int .i64 t.m, .int .i64 t.o, .int .i64 t.h, .slice t.a t.n t.c] 140)).heap[W0.heap.size + 1]? = some (.loop (rec .ready none)) := (Below.heap_alloc _ _ _ (by omega)).trans hl1
    have hka : (V1.alloc (.cells #[.int .i64 0, .int .i64 t.at_, .int .i64 t.s, .int .i64 t.m, .int .i64 t.o, .int .i64 t.h, .slice t.a t.n t.c] 140)).heap[W0.heap.size]? = some (.deferred (some [])) := (Below.heap_alloc _ _ _ (by omega)).trans hk1
    have hT1 : Turn W0.heap.size (V1.alloc (.cells #[.int .i64 0, .int .i64 t.at_, .int .i64 t.s, .int .i64 t.m, .int .i64 t.o, .int .i64 t.h, .slice t.a t.n t.c] 140)) ((V1.alloc (.cells #[.int .i64 0, .int .i64 t.at_, .int .i64 t.s, .int .i64 t.m, .int .i64 t.o, .int .i64 t.h, .slice t.a t.n t.c] 140)).putObj (W0.heap.size + 1) (.loop { rec .ready none with state := .busy })) := Turn.put _ (by omega) hla rfl
    have hT12 : Turn W0.heap.size V1 ((V1.alloc (.cells #[.int .i64 0, .int .i64 t.at_, .int .i64 t.s, .int .i64 t.m, .int .i64 t.o, .int .i64 t.h, .slice t.a t.n t.c] 140)).putObj (W0.heap.size + 1) (.loop { rec .ready none with state := .busy })) := (Turn.of_below ((Below.refl _ V1).alloc (Nat.le_refl _) _)).trans hT1
    have hT : Turn W0.heap.size V0 ((V1.alloc (.cells #[.int .i64 0, .int .i64 t.at_, .int .i64 t.s, .int .i64 t.m, .int .i64 t.o, .int .i64 t.h, .slice t.a t.n t.c] 140)).putObj (W0.heap.size + 1) (.loop { rec .ready none with state := .busy })) := (Turn.of_below hb).trans hT12
    have hz2 : ((V1.alloc (.cells #[.int .i64 0, .int .i64 t.at_, .int .i64 t.s, .int .i64 t.m, .int .i64 t.o, .int .i64 t.h, .slice t.a t.n t.c] 140)).putObj (W0.heap.size + 1) (.loop { rec .ready none with state := .busy })).heap.size = V1.heap.size + 1 := by simp
    have hB2 : Blk ((V1.alloc (.cells #[.int .i64 0, .int .i64 t.at_, .int .i64 t.s, .int .i64 t.m, .int .i64 t.o, .int .i64 t.h, .slice t.a t.n t.c] 140)).putObj (W0.heap.size + 1) (.loop { rec .ready none with state := .busy })) V1.heap.size [.int .i64 0, .int .i64 t.at_, .int .i64 t.s, .int .i64 t.m, .int .i64 t.o, .int .i64 t.h, .slice t.a t.n t.c] := hT1.blk (Blk.new_at (w := V1) (cs := #[.int .i64 0, .int .i64 t.at_, .int .i64 t.s, .int .i64 t.m, .int .i64 t.o, .int .i64 t.h, .slice t.a t.n t.c]) (t := 140) V1.heap.size rfl) (by simp)
    have hl2 : ((V1.alloc (.cells #[.int .i64 0, .int .i64 t.at_, .int .i64 t.s, .int .i64 t.m, .int .i64 t.o, .int .i64 t.h, .slice t.a t.n t.c] 140)).putObj (W0.heap.size + 1) (.loop { rec .ready none with state := .busy })).heap[W0.heap.size + 1]? = some (.loop { rec .ready none with state := .busy }) := World.putObj_heap_same (Array.getElem?_eq_some_iff.1 hla).1
    have hk2 : ((V1.alloc (.cells #[.int .i64 0, .int .i64 t.at_, .int .i64 t.s, .int .i64 t.m, .int .i64 t.o, .int .i64 t.h, .slice t.a t.n t.c] 140)).putObj (W0.heap.size + 1) (.loop { rec .ready none with state := .busy })).heap[W0.heap.size]? = some (.deferred (some [])) := (World.putObj_heap_other (by omega)).trans hka
    refine wpIn_mono (hgo (W0.heap.size + 1) pre t V0 V1 _ hi hlen hT hb.size hz2 hz0 hB2 (hT1.own (ho.alloc _))) ?_
    rintro ex a3 V3 ⟨rfl, hko, hi3, hkp⟩
    have hl3 := hko.same _ _ hl2 rfl
    have hk3 := hko.same _ _ hk2 rfl
    have hT3 : Turn W0.heap.size V3 (V3.putObj (W0.heap.size + 1) (.loop (rec .ready none))) := Turn.put _ (by omega) hl3 rfl
    have hl3' := (Array.getElem?_eq_some_iff.1 hl3).1
    have hend : (Instr.endRound (W0.heap.size + 1) none).run Try.prog V3 = .ok (.bool true) (V3.putObj (W0.heap.size + 1) (.loop (rec .ready none))) := by
      have := run_endRound (P := Try.prog) none hl3
      rw [hrec] at this ⊢; exact this
    refine ⟨_, _, hend, rfl, ⟨hI _ _ _ hi3 hT3, World.putObj_heap_same hl3', (World.putObj_heap_other (by omega)).trans hk3⟩, ?_, ?_, fun b hb0 hb1 => ?_⟩
    · exact (hT12.below hn0 (by omega)).trans (hkp.1.trans (hT3.below hn0 (by have := hko.size; have := hT12.size; omega)))
    · have e1 : V1.heap[A1]? = some (V1.heap[A1]'(by omega)) := Array.getElem?_eq_getElem (by omega)
      have e2 := hT12.same A1 _ e1 (.inl hA1)
      have e3 := hkp.2.1.trans e2
      rw [e1]; exact hT3.same A1 _ e3 (.inl hA1)
    · refine (World.putObj_heap_other (by omega)).trans ((hkp.2.2 b hb0 (by rw [hz2]; omega)).trans ((World.putObj_heap_other (by omega)).trans (Below.heap_alloc _ _ _ hb1)))
  · rintro pre V0 V1 ⟨hi, hl, hk⟩ hb
    have hls := (Array.getElem?_eq_some_iff.1 hl).1
    have hz := hb.size
    have hz0 : W0.heap.size ≤ V0.heap.size := by omega
    have hl1 : V1.heap[W0.heap.size + 1]? = some (.loop (rec .ready none)) := (hb.block _ hls).trans hl
    have hk1 : V1.heap[W0.heap.size]? = some (.deferred (some [])) := (hb.block _ (by omega)).trans hk
    have hy := run_yield (P := Try.prog) (args := #[.agg #[.int .i64 1, .int .i64 0, .int .i64 0, .int .i64 0, .int .i64 0, .int .i64 0, .slice none 0 0]]) hl1 (by rw [hrec]; rfl)
    rw [hrec] at hy
    refine ⟨fn, _, assign, body, hy, roundIn_of_wpIn hfn ?_⟩
    dsimp only
    rw [hfold]
    refine hassign (W0.heap.size + 1) 1 0 0 0 0 0 none 0 0 V1 _ ?_
    refine ⟨_, run_beginRound ((Below.heap_alloc _ _ _ (by omega)).trans hl1) (by rw [hrec]), ?_⟩
    have hla : (V1.alloc (.cells #[.int .i64 1, .int .i64 0, .int .i64 0, .int .i64 0, .int .i64 0, .int .i64 0, .slice none 0 0] 140)).heap[W0.heap.size + 1]? = some (.loop (rec .ready none)) := (Below.heap_alloc _ _ _ (by omega)).trans hl1
    have hka : (V1.alloc (.cells #[.int .i64 1, .int .i64 0, .int .i64 0, .int .i64 0, .int .i64 0, .int .i64 0, .slice none 0 0] 140)).heap[W0.heap.size]? = some (.deferred (some [])) := (Below.heap_alloc _ _ _ (by omega)).trans hk1
    have hT1 : Turn W0.heap.size (V1.alloc (.cells #[.int .i64 1, .int .i64 0, .int .i64 0, .int .i64 0, .int .i64 0, .int .i64 0, .slice none 0 0] 140)) ((V1.alloc (.cells #[.int .i64 1, .int .i64 0, .int .i64 0, .int .i64 0, .int .i64 0, .int .i64 0, .slice none 0 0] 140)).putObj (W0.heap.size + 1) (.loop { rec .ready none with state := .busy })) := Turn.put _ (by omega) hla rfl
    have hT12 : Turn W0.heap.size V1 ((V1.alloc (.cells #[.int .i64 1, .int .i64 0, .int .i64 0, .int .i64 0, .int .i64 0, .int .i64 0, .slice none 0 0] 140)).putObj (W0.heap.size + 1) (.loop { rec .ready none with state := .busy })) := (Turn.of_below ((Below.refl _ V1).alloc (Nat.le_refl _) _)).trans hT1
    have hT : Turn W0.heap.size V0 ((V1.alloc (.cells #[.int .i64 1, .int .i64 0, .int .i64 0, .int .i64 0, .int .i64 0, .int .i64 0, .slice none 0 0] 140)).putObj (W0.heap.size + 1) (.loop { rec .ready none with state := .busy })) := (Turn.of_below hb).trans hT12
    have hz2 : ((V1.alloc (.cells #[.int .i64 1, .int .i64 0, .int .i64 0, .int .i64 0, .int .i64 0, .int .i64 0, .slice none 0 0] 140)).putObj (W0.heap.size + 1) (.loop { rec .ready none with state := .busy })).heap.size = V1.heap.size + 1 := by simp
    have hB2 : Blk ((V1.alloc (.cells #[.int .i64 1, .int .i64 0, .int .i64 0, .int .i64 0, .int .i64 0, .int .i64 0, .slice none 0 0] 140)).putObj (W0.heap.size + 1) (.loop { rec .ready none with state := .busy })) V1.heap.size [.int .i64 1, .int .i64 0, .int .i64 0, .int .i64 0, .int .i64 0, .int .i64 0, .slice none 0 0] := hT1.blk (Blk.new_at (w := V1) (cs := #[.int .i64 1, .int .i64 0, .int .i64 0, .int .i64 0, .int .i64 0, .int .i64 0, .slice none 0 0]) (t := 140) V1.heap.size rfl) (by simp)
    have hl2 : ((V1.alloc (.cells #[.int .i64 1, .int .i64 0, .int .i64 0, .int .i64 0, .int .i64 0, .int .i64 0, .slice none 0 0] 140)).putObj (W0.heap.size + 1) (.loop { rec .ready none with state := .busy })).heap[W0.heap.size + 1]? = some (.loop { rec .ready none with state := .busy }) := World.putObj_heap_same (Array.getElem?_eq_some_iff.1 hla).1
    have hk2 : ((V1.alloc (.cells #[.int .i64 1, .int .i64 0, .int .i64 0, .int .i64 0, .int .i64 0, .int .i64 0, .slice none 0 0] 140)).putObj (W0.heap.size + 1) (.loop { rec .ready none with state := .busy })).heap[W0.heap.size]? = some (.deferred (some [])) := (World.putObj_heap_other (by omega)).trans hka
    refine wpIn_mono (hno (W0.heap.size + 1) pre V0 V1 _ hi hT hb.size hz2 hz0 hB2) ?_
    rintro ex a3 V3 ⟨rfl, hko, hi3⟩
    have hl3 := hko.same _ _ hl2 rfl
    have hk3 := hko.same _ _ hk2 rfl
    have hT3 : Turn W0.heap.size V3 (V3.putObj (W0.heap.size + 1) (.loop (rec .done (some .ret)))) := Turn.put _ (by omega) hl3 rfl
    have hl3' := (Array.getElem?_eq_some_iff.1 hl3).1
    have hend : (Instr.endRound (W0.heap.size + 1) (some .ret)).run Try.prog V3 = .ok (.bool false) (V3.putObj (W0.heap.size + 1) (.loop (rec .done (some .ret)))) := by
      have := run_endRound (P := Try.prog) (some .ret) hl3
      rw [hrec] at this ⊢; exact this
    exact ⟨_, _, hend, rfl, hIx _ _ hi3 hT3, World.putObj_heap_same hl3', (World.putObj_heap_other (by omega)).trans hk3⟩
  · rintro e W2 ⟨⟨v, rfl⟩, (⟨xs, hS, hi, hl, hk⟩ | ⟨hN, hi, hl, hk⟩)⟩
    · exact ⟨none, _, by have := run_endLoop (P := Try.prog) hl (by rw [hrec]; simp); rw [hrec] at this; exact this, hdone _ xs _ (Nat.le_refl _) hS (hI _ _ _ hi (Turn.put _ (by omega) hl rfl)) ((World.putObj_heap_other (by omega)).trans hk)⟩
    · exact ⟨some .ret, _, by have := run_endLoop (P := Try.prog) hl (by rw [hrec]; simp); rw [hrec] at this; exact this, hstop _ _ (Nat.le_refl _) hN (hIx _ _ hi (Turn.put _ (by omega) hl rfl)) ((World.putObj_heap_other (by omega)).trans hk)⟩
end Go.Proofs.Ytnpklnpicelcmaa

namespace Go.Proofs.Ytnpklnpicelcmaa
open Go.RowKit Go.Shelf
attribute [local go_sem] Oper.semAt_some
set_option linter.unusedVariables false

theorem cells_new6 (w : World) (t : GM) : ∀ j u, (gcells t)[j]? = some u → (w.alloc (.cells #[.int .i64 t.at_, .int .i64 t.s, .int .i64 t.m, .int .i64 t.o, .int .i64 t.h, .slice t.a t.n t.c] 138)).cell? ((⟨w.heap.size, 0, none⟩ : Addr).add j) = some u := fun j u h => by
  have := ((Blk.new w #[.int .i64 t.at_, .int .i64 t.s, .int .i64 t.m, .int .i64 t.o, .int .i64 t.h, .slice t.a t.n t.c] 138).2 j u h).1
  cases j with
  | zero => exact this
  | succ j => simpa [Addr.add] using this

theorem row_far {w : World} {base e size n b : Nat} {v : Value} {xs : List Value} (h : w.ownsRow base e size v n xs) (hb : b < base) : v.ownBlock ≠ some b := fun he => by have := (h.lt b he).1; omega

theorem blk_grown {w w' : World} {b : Nat} {cs : List Value} {row : Option Nat} (h : Blk w b cs) (hg : w.grownBy w' row) (hne : row ≠ some b) : Blk w' b cs := blk_block h (hg.block b h.1 (fun e => hne e.symm))

theorem row_set {w : World} {base e size n : Nat} {v : Value} {xs : List Value} (h : w.ownsRow base e size v n xs) {p : Addr} (hp : p.block < base) (u : Value) : (w.setCell p u).ownsRow base e size v n xs := by
  refine ⟨h.1, ?_⟩
  rcases h.2 with h0 | ⟨g, cap, cur, h1, h2, h3, h4⟩
  · exact .inl h0
  · exact .inr ⟨g, cap, cur, h1, h2, (Below.heap_setCell w p u g (by omega)).trans h3, h4⟩

theorem row_cells {w : World} {base e size n : Nat} {v : Value} {xs : List Value} (h : w.ownsRow base e size v n xs) (j : Nat) (o : Obj) (hj : v.ownBlock = some j) (ho : w.heap[j]? = some o) : o.isCells = true := by
  rcases h.2 with ⟨rfl, _⟩ | ⟨g, cap, cur, rfl, _, hg, _⟩
  · simp [Value.ownBlock] at hj
  · simp only [Value.ownBlock, Option.some.injEq] at hj
    subst hj
    rw [hg] at ho
    cases ho; rfl

set_option maxRecDepth 100000 in
set_option maxHeartbeats 800000 in
theorem implOI_fault (h ac bu : Int) (a : Option Addr) (n c : Nat) (f : Nat → Int) (k : Int) (w : World) (hs : Src w a n f) (hk : IsFault h n f ac bu k) (hk0 : ¬ k = 0) :
    Calls Try.prog 30 #[.agg #[.int .i64 h, .slice a n c, .int .i64 ac, .int .i64 bu]] w (RetORG w f k []) := by
  have HS := Lib.hid hs; have HK := Lib.hid hk
  clear hs hk
  go_enter Try.func30, Try.ntmps30
  go_wp2_with fail
  refine (implFault_any h ac bu a n c f k _ ((HS.out.alloc _).alloc _) HK.out).mono ?_
  rintro e w1 ⟨rfl, hb⟩
  have HB1 := Lib.hid (thru2 (Below.refl _ _) hb)
  have R_1 := Lib.hid ((Blk.new_at (w := w.alloc (.cells #[.int .i64 h, .slice a n c, .int .i64 ac, .int .i64 bu] 30)) (cs := #[.int .i64 0, .slice none 0 0]) (t := 62) (w.heap.size + 1) (by simp)).below hb)
  have z1 : w.heap.size + 2 ≤ w1.heap.size := by have := hb.size; simp at this; omega
  clear hb
  have hd : (k != 0) = true := by simpa using hk0
  have lR := R_1.out.1; have cR0 := R_1.out.at 0 rfl; have fR0 := R_1.out.free 0 rfl; have cR1 := R_1.out.at 1 rfl; have fR1 := R_1.out.free 1 rfl
  go_wp2
  refine bodyPost_ret (v := .agg #[.int .i64 k, .slice none 0 0]) (by simp [results, Try.results30, go_sem, cR0, cR1]) rfl ⟨none, 0, fun _ => gzero, rfl, .inl rfl, fun i hi => (by simp at hi), ?_, Nat.le_refl _, by simp [maxLen]⟩
  repeat (first | (with_reducible refine Below.setCell ?_ (by (try simp); (try omega)) _) | (with_reducible refine Below.alloc ?_ (by (try simp); (try omega)) _) | (with_reducible refine Below.drew ?_))
  exact HB1.out

set_option maxRecDepth 100000 in
set_option maxHeartbeats 3200000 in
theorem implOI_none (h ac bu : Int) (a : Option Addr) (n c : Nat) (f : Nat → Int) (co : Int) (L : List Ob) (w : World) (hs : Src w a n f) (hnc : n ≤ c) (hcm : c ≤ maxLen) (hk : IsFault h n f ac bu 0)
    (hc : (parse f ((baseI ac h).toNat + bu.toNat) (baseI ac h).toNat = none ∧ co = 1 ∧ L = []) ∨ (parse f ((baseI ac h).toNat + bu.toNat) (baseI ac h).toNat = some L ∧ co = 0)) :
    Calls Try.prog 30 #[.agg #[.int .i64 h, .slice a n c, .int .i64 ac, .int .i64 bu]] w (RetORG w f co L) := by
  obtain ⟨⟨⟨g1, g2⟩, ⟨g3, g4⟩, g5, g6⟩, gn, gw⟩ := isFault_ok hk
  have hb0 : 0 ≤ baseI ac h ∧ baseI ac h ≤ h ∧ baseI ac h + h ≤ 2 * h := by rcases (by omega : ac = 0 ∨ ac = 1) with rfl | rfl <;> simp [baseI] <;> omega
  obtain ⟨P, hP⟩ : ∃ P : Nat, baseI ac h = (P : Int) := ⟨(baseI ac h).toNat, by omega⟩
  obtain ⟨U, rfl⟩ : ∃ U : Nat, bu = (U : Int) := ⟨bu.toNat, by omega⟩
  rw [hP, Int.toNat_natCast, Int.toNat_natCast] at hc
  obtain ⟨ab, ao, rfl⟩ : ∃ ab ao, a = some ⟨ab, ao, none⟩ := by
    rcases hs with h0 | ⟨b, off, he, _⟩
    · omega
    · exact ⟨b, off, he⟩
  have hPU : P + U ≤ n := by omega
  have HS := Lib.hid hs; have HK := Lib.hid hk; have HC := Lib.hid hc; have HP := Lib.hid hP; have HCM := Lib.hid hcm
  have HG := Lib.hid (show 8 ≤ h ∧ h ≤ 200 ∧ 0 ≤ ac ∧ ac ≤ 1 ∧ (n : Int) = 2 * h from ⟨g1, g2, g3, g4, gn⟩)
  clear hs hk hc hP hcm gw hb0 g1 g2 g3 g4 g5 g6 gn
  obtain ⟨m, _⟩ : ∃ m : Nat, m = m := ⟨9, rfl⟩
  refine (callsIn_wide (n := m)).1 ?_
  refine callsIn_of_wp_marks Try.func30 rfl trivial ?_ rfl
  simp only [Try.ntmps30, List.size_toArray, List.length_cons, List.length_nil, Nat.reduceAdd, Nat.reduceSub, Array.replicate_succ, Array.replicate_zero, List.push_toArray, List.append_toArray, List.nil_append, List.cons_append]
  gi_wp2_with fail
  refine ⟨trivial, fun hx => (by simp [Fence.wide] at hx), (callsIn_wide.2 (implFault_any h ac (U : Int) (some ⟨ab, ao, none⟩) n c f 0 _ ((HS.out.alloc _).alloc _) HK.out)).mono ?_⟩
  rintro e w1 ⟨rfl, hb⟩
  have HB1 := Lib.hid (thru2 (Below.refl _ _) hb)
  have A_1 := Lib.hid (((Blk.new_at (w := w) (cs := #[.int .i64 h, .slice (some ⟨ab, ao, none⟩) n c, .int .i64 ac, .int .i64 (U : Int)]) (t := 30) (w.heap.size) rfl).alloc _).below hb)
  have R_1 := Lib.hid ((Blk.new_at (w := w.alloc (.cells #[.int .i64 h, .slice (some ⟨ab, ao, none⟩) n c, .int .i64 ac, .int .i64 (U : Int)] 30)) (cs := #[.int .i64 0, .slice none 0 0]) (t := 62) (w.heap.size + 1) (by simp)).below hb)
  have z1 : w.heap.size + 2 ≤ w1.heap.size := by have := hb.size; simp at this; omega
  clear hb
  have lA := A_1.out.1; have cA0 := A_1.out.at 0 rfl; have fA0 := A_1.out.free 0 rfl; have cA1 := A_1.out.at 1 rfl; have fA1 := A_1.out.free 1 rfl; have cA2 := A_1.out.at 2 rfl; have fA2 := A_1.out.free 2 rfl; have cA3 := A_1.out.at 3 rfl; have fA3 := A_1.out.free 3 rfl
  gi_wp2_with fail
  clear lA cA0 fA0 cA1 fA1 cA2 fA2 cA3 fA3
  refine ⟨trivial, fun hx => (by simp [Fence.wide] at hx), (callsIn_wide.2 (walk_any h ac (U : Int) (some ⟨ab, ao, none⟩) n c _)).mono ?_⟩
  rintro e w2 ⟨rfl, rfl⟩
  have HB0 : Hid (Below w.heap.size w ((w1.alloc (.cells #[.slice none 0 0] 60)).alloc (.cells #[.int .i64 h, .slice (some ⟨ab, ao, none⟩) n c, .int .i64 ac, .int .i64 (U : Int)] 30))) := Lib.hid ((HB1.out.alloc HB1.out.size _).alloc (by have := HB1.out.size; simp; omega) _)
  have T0 : Hid (Blk ((w1.alloc (.cells #[.slice none 0 0] 60)).alloc (.cells #[.int .i64 h, .slice (some ⟨ab, ao, none⟩) n c, .int .i64 ac, .int .i64 (U : Int)] 30)) w1.heap.size [.slice none 0 0]) := Lib.hid ((Blk.new_at (w := w1) (cs := #[.slice none 0 0]) (t := 60) w1.heap.size rfl).alloc _)
  have A0 : Hid (Blk ((w1.alloc (.cells #[.slice none 0 0] 60)).alloc (.cells #[.int .i64 h, .slice (some ⟨ab, ao, none⟩) n c, .int .i64 ac, .int .i64 (U : Int)] 30)) (w1.heap.size + 1) [.int .i64 h, .slice (some ⟨ab, ao, none⟩) n c, .int .i64 ac, .int .i64 (U : Int)]) := Lib.hid (Blk.new_at (w := w1.alloc (.cells #[.slice none 0 0] 60)) (cs := #[.int .i64 h, .slice (some ⟨ab, ao, none⟩) n c, .int .i64 ac, .int .i64 (U : Int)]) (t := 30) (w1.heap.size + 1) (by simp))
  have R0 : Hid (Blk ((w1.alloc (.cells #[.slice none 0 0] 60)).alloc (.cells #[.int .i64 h, .slice (some ⟨ab, ao, none⟩) n c, .int .i64 ac, .int .i64 (U : Int)] 30)) (w.heap.size + 1) [.int .i64 0, .slice none 0 0]) := Lib.hid ((R_1.out.alloc _).alloc _)
  have z0 : ((w1.alloc (.cells #[.slice none 0 0] 60)).alloc (.cells #[.int .i64 h, .slice (some ⟨ab, ao, none⟩) n c, .int .i64 ac, .int .i64 (U : Int)] 30)).heap.size = w1.heap.size + 2 := by simp
  gi_wp2
  generalize (w1.alloc (.cells #[.slice none 0 0] 60)).alloc (.cells #[.int .i64 h, .slice (some ⟨ab, ao, none⟩) n c, .int .i64 ac, .int .i64 (U : Int)] 30) = W0 at *
  have z0' : w.heap.size + 4 ≤ W0.heap.size := by omega
  have hn0 : w.heap.size ≤ W0.heap.size := by omega
  have hA1 : w1.heap.size + 1 < W0.heap.size := by omega
  have HZ0 := Lib.hid z0
  clear HB1 R_1 A_1 z0
  obtain ⟨i0, hi, hi0, hi1, hi2⟩ := info_parts Try.info138
  refine range_objs (gf := 105) (lb := #[.pointer (some ⟨w1.heap.size + 1, 0, none⟩)]) rfl (enters_of Try.func105 (by kernel_rfl) rfl)
    (fun xs => ∃ L', parse f (P + U) P = some L' ∧ Match f xs L') (parse f (P + U) P = none)
    (fun pre V => Below w.heap.size w V ∧ Blk V (w.heap.size + 1) [.int .i64 0, .slice none 0 0] ∧ ∃ va vc, Blk V w1.heap.size [.slice va pre.length vc] ∧ V.ownsRow W0.heap.size 138 6 (.slice va pre.length vc) pre.length (rowG pre) ∧ FldG V W0.heap.size (.slice va pre.length vc) pre)
    (fun V => Below w.heap.size w V ∧ Blk V (w.heap.size + 1) [.int .i64 1, .slice none 0 0])
    w.heap.size (w1.heap.size + 1) hn0 hA1 ?stable ?stablex ?start ?iter
    (fun v B => { tmps := #[.agg #[.int .i64 h, .slice (some ⟨ab, ao, none⟩) n c, .int .i64 ac, .int .i64 (U : Int)], .pointer (some ⟨w.heap.size, 0, none⟩), .pointer (some ⟨w.heap.size + 1, 0, none⟩), .int .i64 0, .pointer (some ⟨w1.heap.size, 0, none⟩), .pointer (some ⟨B, 0, none⟩), .agg #[.int .i64 h, .slice (some ⟨ab, ao, none⟩) n c, .int .i64 ac, .int .i64 (U : Int)], .int .i64 0, .int .i64 0, .bool false, undef, undef, .agg #[.int .i64 h, .slice (some ⟨ab, ao, none⟩) n c, .int .i64 ac, .int .i64 (U : Int)], .func (.func 105) #[] #[.pointer (some ⟨w1.heap.size + 1, 0, none⟩)], v, undef, undef, undef, undef, undef, undef, undef, undef, undef, undef, undef, undef, undef], defers := [] })
    ?assign ?go ?no ?done ?stop
  case stable =>
    rintro s V V' ⟨h1, h2, va, vc, h3, h4, h5⟩ hT
    exact ⟨h1.trans (hT.below hn0 h1.size), hT.blk h2 (by simp), va, vc, hT.blk h3 (by simp), hT.row h4, hT.fld h5⟩
  case stablex =>
    rintro V V' ⟨h1, h2⟩ hT
    exact ⟨h1.trans (hT.below hn0 h1.size), hT.blk h2 (by simp)⟩
  case start => exact ⟨HB0.out, R0.out, none, 0, T0.out, World.ownsRow_nil _ _ _ _, ⟨fun t ht => (by cases ht), List.Pairwise.nil⟩⟩
  case iter =>
    intro l J Jx W1 hb hJ hgo hno hJ0
    obtain ⟨g1, g2, g3, g4, gn⟩ := HG.out
    refine (iter_in (m - 1) l (w1.heap.size + 1) h ac ab ao n c P U f w W1 J Jx hJ hgo hno HS.out (HB0.out.trans (hb.mono hn0)) (A0.out.below hb) g1 g2 g3 g4 HP.out gn hPU hnc HCM.out hJ0).mono ?_
    rintro e V' ⟨hv, ⟨L', xs, h1, h2, h3⟩ | h1⟩
    · exact ⟨hv, .inl ⟨xs, ⟨L', h1, h2⟩, h3⟩⟩
    · exact ⟨hv, .inr h1⟩
  case assign =>
    intro l c0 c1 c2 c3 c4 c5 sa sn sc V1 K hK
    gi_wp2
    exact hK
  case go =>
    rintro l pre t V0 V1 V2 ⟨hB, hR, va, vc, hT, how, hfl⟩ hlen hTn hz hz2 hz0 hX ho
    have T2 := Lib.hid (hTn.blk hT (by simp)); have X2 := Lib.hid hX; have R2 := Lib.hid (hTn.blk hR (by simp)); have OW2 := Lib.hid (hTn.row how); have HFL := Lib.hid hfl; have HTN := Lib.hid hTn; have HO := Lib.hid ho; have HOW := Lib.hid how
    have HB2 := Lib.hid (hB.trans (hTn.below hn0 hB.size))
    have HZ2 := Lib.hid hz2
    have hV02 : V0.heap.size ≤ V2.heap.size := by omega
    clear hT hX hR how hfl hTn ho hB hz2
    have hnew := cells_new6 V2 t
    have lT := T2.out.1; have cT0 := T2.out.at 0 rfl; have fT0 := T2.out.free 0 rfl
    have lX := X2.out.1; have cX0 := X2.out.at 0 rfl; have fX0 := X2.out.free 0 rfl; have cX1 := X2.out.at 1 rfl; have fX1 := X2.out.free 1 rfl; have cX2 := X2.out.at 2 rfl; have fX2 := X2.out.free 2 rfl; have cX3 := X2.out.at 3 rfl; have fX3 := X2.out.free 3 rfl; have cX4 := X2.out.at 4 rfl; have fX4 := X2.out.free 4 rfl; have cX5 := X2.out.at 5 rfl; have fX5 := X2.out.free 5 rfl; have cX6 := X2.out.at 6 rfl; have fX6 := X2.out.free 6 rfl
    gi_wp2_with (gi_at_builtin; go_loud (refine wpListIn_append_own_at _ rfl _ _ 60 rfl W0.heap.size 138 i0 _ 6 64 Try.underlying60 hi hi0 hi1 hi2 rfl (by decide) _ pre.length _ rfl (OW2.out.alloc _) ⟨V2.heap.size, 0, none⟩ 1 1 (gcells t) rfl rfl hnew (by intro u hu; simp [gcells] at hu; rcases hu with rfl | rfl | rfl | rfl | rfl | rfl <;> rfl) (by unfold maxLen; omega) (by omega) (by simp; omega) ?_); intro v' w4 hown hgrow _ hat; obtain ⟨g', cap', rfl⟩ := ownsRow_succ hown; have T3 := Lib.hid (blk_grown (T2.out.alloc _) hgrow (row_far OW2.out (by omega))); clear lT cT0 fT0; have lT := T3.out.1; have cT0 := T3.out.at 0 rfl; have fT0 := T3.out.free 0 rfl)
    clear lT cT0 fT0 lX cX0 cX1 cX2 cX3 cX4 cX5 cX6 fX0 fX1 fX2 fX3 fX4 fX5 fX6
    have z := HZ0.out
    have hsv : some (⟨g', 0, none⟩ : Addr) = some ⟨g', 0, none⟩ := rfl
    have hfar : ∀ b, b < W0.heap.size → some b ≠ (Value.slice va pre.length vc).ownBlock := fun b hb e => row_far OW2.out hb e.symm
    have hBn : ∀ n1, n1 ≤ w1.heap.size → Below n1 V2 (w4.setCell ⟨w1.heap.size, 0, none⟩ (.slice (some ⟨g', 0, none⟩) (pre.length + 1) cap')) := fun n1 h1 =>
      (((Below.refl n1 V2).alloc (by omega) _).grown hgrow (by simp; omega) (fun k e => by have := (OW2.out.lt k e).1; omega)).setCell h1 _
    refine ⟨(KeepsOthers.alloc V2 _).trans ((KeepsOthers.of_grownBy hgrow (row_cells (OW2.out.alloc _))).trans (KeepsOthers.setCell _ _ _)), ⟨HB2.out.trans (hBn _ (by omega)), (blk_grown (R2.out.alloc _) hgrow (row_far OW2.out (by omega))).other (by simp; omega) _, some ⟨g', 0, none⟩, cap', T3.out.set 0 (by simp) _, row_set (by rw [rowG_snoc]; exact hown) (by show w1.heap.size < W0.heap.size; omega) _, ?_⟩, hBn _ (by omega), ?_, fun b hb1 hb2 => ?_⟩
    · exact (FldG.snoc t HFL.out (by simp; omega) (fun b o hb hc => (Below.heap_alloc _ _ _ (Array.getElem?_eq_some_iff.1 (HTN.out.same b o hb (.inr hc))).1).trans (HTN.out.same b o hb (.inr hc))) hgrow hat hz0 (fun k e => (HOW.out.lt k e).2) (HO.out.alloc _)).block (by simp) (fun b h1 _ _ => Below.heap_setCell _ _ _ b (by show b ≠ w1.heap.size; omega))
    · exact (Below.heap_setCell _ _ _ _ (by show w1.heap.size + 1 ≠ w1.heap.size; omega)).trans ((hgrow.block _ (by simp; omega) (hfar _ hA1)).trans (Below.heap_alloc _ _ _ (by omega)))
    · exact (Below.heap_setCell _ _ _ _ (by show b ≠ w1.heap.size; omega)).trans ((hgrow.block _ (by simp; omega) (fun e => by have := (HOW.out.lt b e.symm).2; omega)).trans (Below.heap_alloc _ _ _ hb2))
  case no =>
    rintro l pre V0 V1 V2 ⟨hB, hR, va, vc, hT, how, hfl⟩ hTn hz hz2 hz0 hX
    have X2 := Lib.hid hX; have R2 := Lib.hid (hTn.blk hR (by simp))
    have HB2 := Lib.hid (hB.trans (hTn.below hn0 hB.size))
    clear hT hX hR how hfl hTn hB
    have lX := X2.out.1; have cX0 := X2.out.at 0 rfl; have fX0 := X2.out.free 0 rfl; have cX1 := X2.out.at 1 rfl; have fX1 := X2.out.free 1 rfl; have cX2 := X2.out.at 2 rfl; have fX2 := X2.out.free 2 rfl; have cX3 := X2.out.at 3 rfl; have fX3 := X2.out.free 3 rfl; have cX4 := X2.out.at 4 rfl; have fX4 := X2.out.free 4 rfl; have cX5 := X2.out.at 5 rfl; have fX5 := X2.out.free 5 rfl; have cX6 := X2.out.at 6 rfl; have fX6 := X2.out.free 6 rfl
    have lR := R2.out.1; have cR0 := R2.out.at 0 rfl; have fR0 := R2.out.free 0 rfl; have cR1 := R2.out.at 1 rfl; have fR1 := R2.out.free 1 rfl
    gi_wp2
    exact ⟨(KeepsOthers.setCell _ _ _).trans (KeepsOthers.setCell _ _ _), HB2.out.trans (((Below.refl _ V2).setCell (by show w.heap.size ≤ w.heap.size + 1; omega) _).setCell (by show w.heap.size ≤ w.heap.size + 1; omega) _), (R2.out.set 0 (by simp) _).set 1 (by simp) _⟩
  case done =>
    rintro D xs V hD ⟨L', h1, h2⟩ ⟨hB, hR, va, vc, hT, how, hfl⟩ hK
    have T2 := Lib.hid hT; have R2 := Lib.hid hR
    have lT := T2.out.1; have cT0 := T2.out.at 0 rfl; have fT0 := T2.out.free 0 rfl
    have lR := R2.out.1; have cR0 := R2.out.at 0 rfl; have fR0 := R2.out.free 0 rfl; have cR1 := R2.out.at 1 rfl; have fR1 := R2.out.free 1 rfl
    gi_wp2
    clear lT cT0 fT0 lR cR0 cR1 fR0 fR1
    have hRD : (⟨w.heap.size + 1, 0, none⟩ : Addr).block < W0.heap.size := by show w.heap.size + 1 < W0.heap.size; omega
    have hK' := ((KeepsOthers.setCell V ⟨w.heap.size + 1, 0, none⟩ (.int .i64 0)).trans (KeepsOthers.setCell _ ⟨w.heap.size + 1, 1, none⟩ (.slice va xs.length vc))).same D _ hK rfl
    have hBV := ((Below.refl w.heap.size V).setCell (p := ⟨w.heap.size + 1, 0, none⟩) (by show w.heap.size ≤ w.heap.size + 1; omega) (.int .i64 0)).setCell (p := ⟨w.heap.size + 1, 1, none⟩) (by show w.heap.size ≤ w.heap.size + 1; omega) (.slice va xs.length vc)
    have hRV : Blk ((V.setCell ⟨w.heap.size + 1, 0, none⟩ (.int .i64 0)).setCell ⟨w.heap.size + 1, 1, none⟩ (.slice va xs.length vc)) (w.heap.size + 1) [.int .i64 0, .slice va xs.length vc] := (R2.out.set 0 (by simp) _).set 1 (by simp) _
    have hOV := row_set (row_set how hRD (.int .i64 0)) (p := ⟨w.heap.size + 1, 1, none⟩) hRD (.slice va xs.length vc)
    have hFV : FldG ((V.setCell ⟨w.heap.size + 1, 0, none⟩ (.int .i64 0)).setCell ⟨w.heap.size + 1, 1, none⟩ (.slice va xs.length vc)) W0.heap.size (.slice va xs.length vc) xs := hfl.block (by simp) (fun b hb _ _ => (Below.heap_setCell _ _ _ b (by show b ≠ w.heap.size + 1; omega)).trans (Below.heap_setCell _ _ _ b (by show b ≠ w.heap.size + 1; omega)))
    have hzV : V.heap.size ≤ ((V.setCell ⟨w.heap.size + 1, 0, none⟩ (.int .i64 0)).setCell ⟨w.heap.size + 1, 1, none⟩ (.slice va xs.length vc)).heap.size := by simp
    generalize (V.setCell ⟨w.heap.size + 1, 0, none⟩ (.int .i64 0)).setCell ⟨w.heap.size + 1, 1, none⟩ (.slice va xs.length vc) = Vf at *
    have hTF : Turn W0.heap.size Vf (Vf.putObj D (.deferred none)) := Turn.put _ hD hK' rfl
    have hRW := hTF.blk hRV (by simp)
    obtain ⟨rfl, rfl⟩ : co = 0 ∧ L = L' := by
      rcases HC.out with ⟨hx, _⟩ | ⟨hx, hy⟩
      · rw [hx] at h1; cases h1
      · rw [hx] at h1; cases h1; exact ⟨hy, rfl⟩
    obtain ⟨a', c', he, hg⟩ := rowG_GVO (hTF.row hOV) (hTF.fld hFV) (Nat.le_refl _)
    simp only [Value.slice.injEq] at he
    obtain ⟨rfl, _, rfl⟩ := he
    obtain ⟨hc1, hc2⟩ := row_cap (hTF.row hOV)
    have hBF := (hB.trans hBV).trans (hTF.below hn0 (by have := hB.size; omega))
    have c0 := hRW.at 0 rfl
    have c1 := hRW.at 1 rfl
    refine ⟨by simp, .inl ⟨_, _, rfl, run_takeDeferred hK', ?_⟩⟩
    refine ⟨.agg #[.int .i64 0, .slice va xs.length vc], by simp [results, Try.results30, go_sem, c0, c1], ?_⟩
    rw [h2.1] at hg hc1 ⊢
    exact ⟨va, vc, gT xs, rfl, gvo_mono hg hn0, match_same h2, hBF, hc1, hc2⟩
  case stop =>
    rintro D V hD hN ⟨hB, hR⟩ hK
    gi_wp2
    have hTF : Turn W0.heap.size V (V.putObj D (.deferred none)) := Turn.put _ hD hK rfl
    have hRW := hTF.blk hR (by simp)
    obtain ⟨rfl, rfl⟩ : co = 1 ∧ L = [] := by
      rcases HC.out with ⟨_, hx⟩ | ⟨hx, _⟩
      · exact hx
      · rw [hx] at hN; cases hN
    have hBF := hB.trans (hTF.below hn0 hB.size)
    have c0 := hRW.at 0 rfl
    have c1 := hRW.at 1 rfl
    refine ⟨by simp, .inl ⟨_, _, rfl, run_takeDeferred hK, ?_⟩⟩
    refine ⟨.agg #[.int .i64 1, .slice none 0 0], by simp [results, Try.results30, go_sem, c0, c1], ?_⟩
    exact ⟨none, 0, fun _ => gzero, rfl, .inl rfl, fun i hi => (by simp at hi), hBF, Nat.le_refl _, by simp [maxLen]⟩

theorem implOI : ImplOI := fun h ac bu a n c f co L w hs hnc hcm hk => by
  rcases hk with ⟨k, h1, h2, rfl, rfl⟩ | ⟨h1, h2, h3, h4⟩ | ⟨h1, h2, h3⟩
  · exact implOI_fault h ac bu a n c f _ w hs h1 h2
  · exact implOI_none h ac bu a n c f co L w hs hnc hcm h1 (.inl ⟨h2, h3, h4⟩)
  · exact implOI_none h ac bu a n c f co L w hs hnc hcm h1 (.inr ⟨h2, h3⟩)
end Go.Proofs.Ytnpklnpicelcmaa

namespace Go.Proofs.Ytnpklnpicelcmaa
open Go.RowKit
set_option linter.unusedVariables false

/-- Elements that are new are put behind all others, one after the other. -/
def addNew (out : List Int) : List Int → List Int
  | [] => out
  | x :: xs => addNew (if x ∈ out then out else out ++ [x]) xs

theorem mem_addNew (xs : List Int) : ∀ out y, y ∈ addNew out xs ↔ y ∈ out ∨ y ∈ xs := by
  induction xs with
  | nil => intro out y; simp [addNew]
  | cons x xs ih =>
    intro out y
    rw [addNew, ih]
    by_cases h : x ∈ out
    · rw [if_pos h]
      constructor
      · rintro (h1 | h1)
        · exact .inl h1
        · exact .inr (List.mem_cons_of_mem _ h1)
      · rintro (h1 | h1)
        · exact .inl h1
        · rcases List.mem_cons.mp h1 with rfl | h2
          · exact .inl h
          · exact .inr h2
    · rw [if_neg h]
      simp only [List.mem_append, List.mem_cons, List.not_mem_nil, or_false]
      constructor
      · rintro ((h1 | h1) | h1)
        · exact .inl h1
        · exact .inr (.inl h1)
        · exact .inr (.inr h1)
      · rintro (h1 | h1 | h1)
        · exact .inl (.inl h1)
        · exact .inl (.inr h1)
        · exact .inr h1

/-- The scan: for each place from i on, where it leads. -/
def scanF (succ : Int → List Int) : Nat → Nat → List Int → List Int
  | 0, _, out => out
  | n + 1, i, out => if i < out.length then scanF succ n (i + 1) (addNew out (succ (out.getD i 0))) else out

theorem scanF_sub (succ : Int → List Int) (U : List Int) (hU : ∀ x ∈ U, ∀ y ∈ succ x, y ∈ U) : ∀ n i out, (∀ x ∈ out, x ∈ U) → ∀ x ∈ scanF succ n i out, x ∈ U := by
  intro n
  induction n with
  | zero => exact fun i out h => h
  | succ n ih =>
    intro i out hs
    rw [scanF]
    by_cases h : i < out.length
    · rw [if_pos h]
      refine ih _ _ fun x hx => ?_
      rcases (mem_addNew _ _ _).1 hx with h1 | h1
      · exact hs x h1
      · have hg : out.getD i 0 ∈ out := by
          rw [List.getD_eq_getElem?_getD, List.getElem?_eq_getElem h]; exact List.getElem_mem h
        exact hU _ (hs _ hg) x h1
    · rw [if_neg h]; exact hs

theorem nodup_length {xs U : List Int} (hn : xs.Nodup) (hs : ∀ x ∈ xs, x ∈ U) : xs.length ≤ U.length := by
  induction xs generalizing U with
  | nil => exact Nat.zero_le _
  | cons x xs ih =>
    have hx := List.nodup_cons.mp hn
    have := ih hx.2 (U := U.erase x) (fun y hy => (List.mem_erase_of_ne (fun e => by subst e; exact hx.1 hy)).mpr (hs y (List.mem_cons_of_mem _ hy)))
    have h2 := List.length_erase_of_mem (hs x (List.mem_cons_self ..))
    have h3 : 0 < U.length := List.length_pos_of_mem (hs x (List.mem_cons_self ..))
    simp only [List.length_cons]
    omega

/-- What is reached. -/
def reachL (succ : Int → List Int) (n : Nat) (roots : List Int) : List Int := scanF succ n 0 (addNew [] roots)

theorem addNew_sub {U roots : List Int} (hr : ∀ x ∈ roots, x ∈ U) : ∀ x ∈ addNew [] roots, x ∈ U := fun x hx => by
  rcases (mem_addNew _ _ _).1 hx with h1 | h1
  · cases h1
  · exact hr x h1

theorem reachL_sub (succ : Int → List Int) (n : Nat) (U roots : List Int) (hU : ∀ x ∈ U, ∀ y ∈ succ x, y ∈ U) (hr : ∀ x ∈ roots, x ∈ U) : ∀ x ∈ reachL succ n roots, x ∈ U := scanF_sub succ U hU n 0 _ (addNew_sub hr)
end Go.Proofs.Ytnpklnpicelcmaa

namespace Go.Proofs.Ytnpklnpicelcmaa
open Go.RowKit
set_option linter.unusedVariables false

/-- Where an object's pointers lead, in the order of its fields. -/
def ptrs (f : Nat → Int) (x : Ob) : List Int := (List.range x.s.toNat).filterMap fun (k : Nat) => if x.m / P2 (k : Int) % 2 = 1 ∧ ¬ f (x.at_.toNat + 2 + k) = 0 then some (f (x.at_.toNat + 2 + k) - 1) else none

def succO (f : Nat → Int) (L : List Ob) (p : Int) : List Int := match findO L p with | some x => ptrs f x | none => []

def placesO (L : List Ob) : List Int := L.map Ob.at_

def reachO (f : Nat → Int) (L : List Ob) (roots : List Int) : List Int := reachL (succO f L) L.length roots

theorem mem_ptrs {f : Nat → Int} {x : Ob} {y : Int} : y ∈ ptrs f x ↔ ∃ k : Nat, k < x.s.toNat ∧ x.m / P2 (k : Int) % 2 = 1 ∧ ¬ f (x.at_.toNat + 2 + k) = 0 ∧ y = f (x.at_.toNat + 2 + k) - 1 := by
  unfold ptrs
  rw [List.mem_filterMap]
  constructor
  · rintro ⟨k, hk, he⟩
    by_cases h : x.m / P2 (k : Int) % 2 = 1 ∧ ¬ f (x.at_.toNat + 2 + k) = 0
    · rw [if_pos h] at he
      exact ⟨k, by simpa using hk, h.1, h.2, (Option.some.inj he).symm⟩
    · rw [if_neg h] at he; cases he
  · rintro ⟨k, hk, h1, h2, rfl⟩
    exact ⟨k, by simpa using hk, if_pos ⟨h1, h2⟩⟩

theorem mem_placesO {L : List Ob} {p : Int} : p ∈ placesO L ↔ ∃ x, findO L p = some x := by
  unfold placesO
  constructor
  · intro h
    obtain ⟨x, hx, rfl⟩ := List.mem_map.mp h
    cases hf : findO L x.at_ with
    | some y => exact ⟨y, rfl⟩
    | none =>
      have := List.find?_eq_none.mp hf x hx
      simp at this
  · rintro ⟨x, hf⟩
    have h1 := List.find?_some hf
    exact List.mem_map.mpr ⟨x, List.mem_of_find?_eq_some hf, by simpa using h1⟩

theorem succO_sub {f : Nat → Int} {L : List Ob} (hp : Points f L) (hs : ∀ x ∈ L, 0 ≤ x.s) : ∀ p ∈ placesO L, ∀ y ∈ succO f L p, y ∈ placesO L := by
  intro p _ y hy
  unfold succO at hy
  cases hf : findO L p with
  | none => rw [hf] at hy; cases hy
  | some x =>
    rw [hf] at hy
    obtain ⟨k, hk, h1, h2, rfl⟩ := mem_ptrs.1 hy
    have hx := List.mem_of_find?_eq_some hf
    have h0 := hs x hx
    have hl := hp x hx k (by omega) h1
    unfold leadsB at hl
    rw [if_neg h2] at hl
    cases hf2 : findO L (f (x.at_.toNat + 2 + k) - 1) with
    | none => rw [hf2] at hl; cases hl
    | some z => exact mem_placesO.2 ⟨z, hf2⟩

theorem reachO_sub {f : Nat → Int} {L : List Ob} {roots : List Int} (hp : Points f L) (hs : ∀ x ∈ L, 0 ≤ x.s) (hr : ∀ p ∈ roots, p ∈ placesO L) : ∀ p ∈ reachO f L roots, p ∈ placesO L := reachL_sub _ _ _ _ (succO_sub hp hs) hr

/-- The number of a place in a list. -/
def numL (l : List Int) (v : Int) : Option Nat := l.findIdx? (· == v)
end Go.Proofs.Ytnpklnpicelcmaa

namespace Go.Proofs.Ytnpklnpicelcmaa
open Go.RowKit
set_option linter.unusedVariables false

def packO (x : Ob) : Int := 1 + 2 * (x.s + 16 * (x.m + 4096 * x.o))

def wordsO (x : Ob) : Nat := 2 + x.s.toNat

def totO : List Ob → Nat
  | [] => 0
  | x :: X => wordsO x + totO X

def ObOk (x : Ob) : Prop := HOk x.s x.m x.o x.h ∧ x.m ≤ 4095

/-- The place of the object of a number. -/
def placeAt (P : Nat) (X : List Ob) (i : Nat) : Nat := P + totO (X.take i)

theorem placeAt_zero (P : Nat) (X : List Ob) : placeAt P X 0 = P := by simp [placeAt, totO]

theorem placeAt_succ (P : Nat) (x : Ob) (X : List Ob) (i : Nat) : placeAt P (x :: X) (i + 1) = placeAt (P + wordsO x) X i := by simp [placeAt, totO]; omega

theorem totO_take_lt : ∀ (X : List Ob) (i : Nat) (hi : i < X.length), totO (X.take i) + wordsO X[i] ≤ totO X
  | x :: X, 0, _ => by simp [totO]
  | x :: X, i + 1, hi => by
    have := totO_take_lt X i (by simpa using hi)
    simp only [List.take_succ_cons, totO, List.getElem_cons_succ]
    omega

theorem placeAt_end (P : Nat) (X : List Ob) {i : Nat} (hi : i < X.length) : placeAt P X i + wordsO X[i] ≤ P + totO X := by
  have := totO_take_lt X i hi
  unfold placeAt; omega

theorem placeAt_step (P : Nat) (X : List Ob) {i : Nat} (hi : i < X.length) : placeAt P X (i + 1) = placeAt P X i + wordsO X[i] := by
  induction X generalizing P i with
  | nil => simp at hi
  | cons x X ih =>
    cases i with
    | zero => rw [placeAt_succ, placeAt_zero, placeAt_zero]; rfl
    | succ i => rw [placeAt_succ, placeAt_succ, ih (P + wordsO x) (by simpa using hi)]; rfl

theorem placeAt_lt (P : Nat) (X : List Ob) : ∀ (i j : Nat), i < j → j ≤ X.length → placeAt P X i + 2 ≤ placeAt P X j
  | i, 0, h, _ => by omega
  | i, j + 1, h, hj => by
    have hw : wordsO X[j] = 2 + X[j].s.toNat := rfl
    rw [placeAt_step P X (show j < X.length by omega)]
    rcases Nat.lt_succ_iff_lt_or_eq.mp h with h1 | h1
    · have := placeAt_lt P X i j h1 (by omega); omega
    · subst h1; omega

/-- The new places, in order. -/
def newPlaces (P : Nat) (X : List Ob) : List Int := (List.range X.length).map fun i => (placeAt P X i : Int)
end Go.Proofs.Ytnpklnpicelcmaa

namespace Go.Proofs.Ytnpklnpicelcmaa
open Go.RowKit
set_option linter.unusedVariables false

/-- Where the object of a place is now. -/
def goes (R Q : List Int) (p : Int) : Int := Q.getD ((numL R p).getD 0) 0

/-- What a field holds now. -/
def mapF (f : Nat → Int) (R Q : List Int) (x : Ob) (k : Nat) : Int :=
  if x.m / P2 (k : Int) % 2 = 1 ∧ ¬ f (x.at_.toNat + 2 + k) = 0 then goes R Q (f (x.at_.toNat + 2 + k) - 1) + 1 else f (x.at_.toNat + 2 + k)

theorem getD_get {R : List Int} {i : Nat} (hi : i < R.length) : R.getD i 0 = R[i] := by
  rw [List.getD_eq_getElem?_getD, List.getElem?_eq_getElem hi]; rfl

/-- What is known of an arena that is right. -/
structure Right (f : Nat → Int) (L : List Ob) : Prop where
  points : Points f L
  size : ∀ x ∈ L, 0 ≤ x.s
  ok : ∀ x ∈ L, ObOk x
  apart : ∀ x ∈ L, findO L x.at_ = some x

section

variable {f g : Nat → Int} {L : List Ob} {roots : List Int} {P : Nat}

end
end Go.Proofs.Ytnpklnpicelcmaa

namespace Go.Proofs.Ytnpklnpicelcmaa
open Go.RowKit
set_option linter.unusedVariables false

/-- Two fields are alike. -/
def FldAlike (R R' : List Int) (bit : Prop) (v w : Int) : Prop := (bit → ((v = 0 ↔ w = 0) ∧ (¬ v = 0 → numL R (v - 1) = numL R' (w - 1)))) ∧ (¬ bit → v = w)

/-- What is reached from both is alike. -/
structure AlikeO (f : Nat → Int) (L : List Ob) (ra : List Int) (g : Nat → Int) (L' : List Ob) (rb : List Int) : Prop where
  rlen : ra.length = rb.length
  len : (reachO f L ra).length = (reachO g L' rb).length
  obj : ∀ i, i < (reachO f L ra).length → ∃ x y, findO L ((reachO f L ra).getD i 0) = some x ∧ findO L' ((reachO g L' rb).getD i 0) = some y ∧ (x.s = y.s ∧ x.m = y.m ∧ x.o = y.o ∧ x.h = y.h) ∧
    ∀ k : Nat, k < x.s.toNat → FldAlike (reachO f L ra) (reachO g L' rb) (x.m / P2 (k : Int) % 2 = 1) (f (x.at_.toNat + 2 + k)) (g (y.at_.toNat + 2 + k))
  roots : ∀ i, i < ra.length → numL (reachO f L ra) (ra.getD i 0) = numL (reachO g L' rb) (rb.getD i 0)

section

variable {f g e : Nat → Int} {L L' L2 : List Ob} {ra rb rc : List Int}

theorem AlikeO.symm (h : AlikeO f L ra g L' rb) : AlikeO g L' rb f L ra := by
  refine ⟨h.rlen.symm, h.len.symm, fun i hi => ?_, fun i hi => (h.roots i (by rw [h.rlen]; exact hi)).symm⟩
  obtain ⟨x, y, h1, h2, ⟨a1, a2, a3, a4⟩, h4⟩ := h.obj i (by rw [h.len]; exact hi)
  refine ⟨y, x, h2, h1, ⟨a1.symm, a2.symm, a3.symm, a4.symm⟩, fun k hk => ?_⟩
  obtain ⟨b1, b2⟩ := h4 k (by rw [a1]; exact hk)
  rw [← a2]
  exact ⟨fun hb => ⟨(b1 hb).1.symm, fun hw => ((b1 hb).2 (fun hv => hw ((b1 hb).1.1 hv))).symm⟩, fun hb => (b2 hb).symm⟩

theorem AlikeO.trans (h : AlikeO f L ra g L' rb) (k : AlikeO g L' rb e L2 rc) : AlikeO f L ra e L2 rc := by
  refine ⟨h.rlen.trans k.rlen, h.len.trans k.len, fun i hi => ?_, fun i hi => (h.roots i hi).trans (k.roots i (by rw [← h.rlen]; exact hi))⟩
  obtain ⟨x, y, h1, h2, ⟨a1, a2, a3, a4⟩, h4⟩ := h.obj i hi
  obtain ⟨y', z, k1, k2, ⟨c1, c2, c3, c4⟩, k4⟩ := k.obj i (by rw [← h.len]; exact hi)
  rw [h2] at k1
  obtain rfl := Option.some.inj k1
  refine ⟨x, z, h1, k2, ⟨a1.trans c1, a2.trans c2, a3.trans c3, a4.trans c4⟩, fun q hq => ?_⟩
  obtain ⟨b1, b2⟩ := h4 q hq
  obtain ⟨d1, d2⟩ := k4 q (by rw [← a1]; exact hq)
  rw [← a2] at d1 d2
  exact ⟨fun hb => ⟨(b1 hb).1.trans (d1 hb).1, fun hv => ((b1 hb).2 hv).trans ((d1 hb).2 (fun hw => hv ((b1 hb).1.2 hw)))⟩, fun hb => (b2 hb).trans (d2 hb)⟩

theorem AlikeO.refl (hr : Right f L) (hroots : ∀ p ∈ ra, p ∈ placesO L) : AlikeO f L ra f L ra := by
  refine ⟨rfl, rfl, fun i hi => ?_, fun _ _ => rfl⟩
  have hm : (reachO f L ra).getD i 0 ∈ reachO f L ra := by rw [getD_get hi]; exact List.getElem_mem hi
  obtain ⟨x, hx⟩ := mem_placesO.1 (reachO_sub hr.points hr.size hroots _ hm)
  exact ⟨x, x, hx, hx, ⟨rfl, rfl, rfl, rfl⟩, fun k _ => ⟨fun _ => ⟨Iff.rfl, fun _ => rfl⟩, fun _ => rfl⟩⟩

end

section

variable {f g : Nat → Int} {L : List Ob} {roots : List Int} {P : Nat}

end
end Go.Proofs.Ytnpklnpicelcmaa

namespace Go.Proofs.Ytnpklnpicelcmaa
open Go.RowKit
set_option linter.unusedVariables false

/-- A list as a row's numbers. -/
def lf (l : List Int) : Nat → Int := fun i => l.getD i 0

/-- Where an object's pointers lead, from a field on. -/
def ptrsF (f : Nat → Int) (x : Ob) (k : Nat) : List Int := ((List.range x.s.toNat).drop k).filterMap fun (k : Nat) => if x.m / P2 (k : Int) % 2 = 1 ∧ ¬ f (x.at_.toNat + 2 + k) = 0 then some (f (x.at_.toNat + 2 + k) - 1) else none

/-- The scan: the places from i on are still to be looked at. -/
structure SC (f : Nat → Int) (L : List Ob) (roots : List Int) (i : Nat) (O : List Int) : Prop where
  nd : O.Nodup
  sub : ∀ p ∈ O, p ∈ placesO L
  le : i ≤ O.length
  all : reachO f L roots = scanF (succO f L) (L.length - i) i O

/-- The scan within an object. -/
structure SI (f : Nat → Int) (L : List Ob) (roots : List Int) (i k : Nat) (x : Ob) (O : List Int) : Prop where
  nd : O.Nodup
  sub : ∀ p ∈ O, p ∈ placesO L
  lt : i < O.length
  at_ : findO L (lf O i) = some x
  all : reachO f L roots = scanF (succO f L) (L.length - (i + 1)) (i + 1) (addNew O (ptrsF f x k))

section

variable {f : Nat → Int} {L : List Ob} {roots O : List Int} {i k : Nat} {x : Ob}

theorem SC.len (h : SC f L roots i O) : O.length ≤ L.length := by have := nodup_length h.nd h.sub; simpa [placesO] using this

theorem SI.len (h : SI f L roots i k x O) : O.length ≤ L.length := by have := nodup_length h.nd h.sub; simpa [placesO] using this

end

/-- A table: the i-th of a list has the i-th value. -/
def tab (R : List Int) (v : Nat → Int) (p : Int) : Option Int := (numL R p).map v
end Go.Proofs.Ytnpklnpicelcmaa

namespace Go.Proofs.Ytnpklnpicelcmaa
open Go.RowKit
set_option linter.unusedVariables false

/-- The objects of a list in memory, as the model walks need them. -/
structure OMS (w : World) (base lo : Nat) (f : Nat → Int) (v : Value) (M : List OM) : Prop where
  row : w.ownsRow base 138 6 v M.length (rowCells M)
  fl : Flds w lo f v M
  len : M.length ≤ 400
  ok : ∀ t ∈ M, (0 ≤ t.x.s ∧ t.x.s ≤ 12) ∧ (0 ≤ t.x.m ∧ t.x.m ≤ 4095) ∧ (0 ≤ t.x.at_ ∧ t.x.at_ ≤ 1000000) ∧ ∀ k, k < t.x.s.toNat → -1000000000 ≤ f (t.x.at_.toNat + 2 + k) ∧ f (t.x.at_.toNat + 2 + k) ≤ 1000000000

theorem OMS.below {w w' : World} {base lo : Nat} {f : Nat → Int} {v : Value} {M : List OM} (h : OMS w base lo f v M) (hb : Below w.heap.size w w') : OMS w' base lo f v M := ⟨ownsRow_below h.row hb, h.fl.below hb, h.len, h.ok⟩

theorem OMS.size {w : World} {base lo : Nat} {f : Nat → Int} {v : Value} {M : List OM} (h : OMS w base lo f v M) : ∀ x ∈ M.map OM.x, 0 ≤ x.s := fun x hx => by
  obtain ⟨t, ht, rfl⟩ := List.mem_map.mp hx
  exact (h.ok t ht).1.1

theorem OMS.place {w : World} {base lo : Nat} {f : Nat → Int} {v : Value} {M : List OM} (h : OMS w base lo f v M) : ∀ p ∈ placesO (M.map OM.x), 0 ≤ p ∧ p ≤ 1000000 := fun p hp => by
  obtain ⟨y, hy, rfl⟩ := List.mem_map.mp hp
  obtain ⟨t, ht, rfl⟩ := List.mem_map.mp hy
  exact (h.ok t ht).2.2.1
end Go.Proofs.Ytnpklnpicelcmaa

namespace Go.Proofs.Ytnpklnpicelcmaa
open Go.RowKit
set_option linter.unusedVariables false

theorem OMS.lo {w : World} {base lo base' lo' : Nat} {f : Nat → Int} {v : Value} {M : List OM} (h : OMS w base lo f v M) (h1 : base' ≤ base) (h2 : lo' ≤ lo) : OMS w base' lo' f v M := by
  refine ⟨?_, ⟨fun t ht => ?_, h.fl.2⟩, h.len, h.ok⟩
  · refine ⟨h.row.1, ?_⟩
    rcases h.row.2 with h0 | ⟨g, cap, cur, e1, e2, e3⟩
    · exact .inl h0
    · exact .inr ⟨g, cap, cur, e1, Nat.le_trans h1 e2, e3⟩
  · obtain ⟨e1, e2⟩ := h.fl.1 t ht
    exact ⟨Nat.le_trans h2 e1, e2⟩
end Go.Proofs.Ytnpklnpicelcmaa

namespace Go.Proofs.Ytnpklnpicelcmaa
open Go.RowKit
set_option linter.unusedVariables false

theorem own_of_row' {w : World} {B e : Nat} {v : Value} {l : List Int} (h : w.ownsRow B e 1 v l.length (nums l.length (lf l))) : ∃ a c, v = .slice a l.length c ∧ Own w B a l.length (lf l) := by
  obtain ⟨a, c, rfl, _⟩ := row_shape h
  exact ⟨a, c, rfl, own_of_row h⟩
end Go.Proofs.Ytnpklnpicelcmaa

namespace Go.Proofs.Ytnpklnpicelcmaa
open Go.RowKit Go.Maps
set_option linter.unusedVariables false

/-- A block is a map in which the i-th of a list has the i-th value, and nothing else is there. -/
def MapT (w : World) (b n : Nat) (R : List Int) (v : Nat → Int) : Prop :=
  ∃ D : DataW Unit, w.ownsMap Try.prog 2 (plainElem Try.prog 2) b n D ∧ ∀ p, (Lit.int .i64 p).wf = true → Maps.has D (.int .i64 p) = decide (p ∈ R) ∧ D.atKey (.int .i64 p) (.lit (.int .i64 0)) = .lit (.int .i64 ((tab R v p).getD 0))

section

variable {w : World} {b n : Nat} {R : List Int} {v : Nat → Int} {p : Int}

theorem MapT.lt (h : MapT w b n R v) : b < w.heap.size := by obtain ⟨D, h1, _⟩ := h; exact h1.lt

theorem MapT.block {w' : World} (h : MapT w b n R v) (hb : w'.heap[b]? = w.heap[b]?) : MapT w' b n R v := by
  obtain ⟨D, ⟨es, clock, h1, h2⟩, h3⟩ := h
  exact ⟨D, ⟨es, clock, hb.trans h1, h2⟩, h3⟩

theorem MapT.below {w' : World} (h : MapT w b n R v) (hb : Below w.heap.size w w') : MapT w' b n R v := h.block (hb.block b h.lt)

theorem MapT.alloc (h : MapT w b n R v) (o : Obj) : MapT (w.alloc o) b n R v := h.below ((Below.refl _ _).alloc (Nat.le_refl _) o)

theorem MapT.drew (h : MapT w b n R v) : MapT w.drew b n R v := h.below (Below.refl _ _).drew

theorem MapT.grown {w' : World} {row : Option Nat} (h : MapT w b n R v) (hg : w.grownBy w' row) (hne : row ≠ some b) : MapT w' b n R v := h.block (hg.block b h.lt (fun e => hne e.symm))

theorem MapT.set (h : MapT w b n R v) {p : Addr} (hp : b ≠ p.block) (u : Value) : MapT (w.setCell p u) b n R v := h.block (Below.heap_setCell _ _ _ b hp)

end

/-- A row of objects is read. -/
theorem rowG_GV {w : World} {base : Nat} {v : Value} {M : List GM} (h : w.ownsRow base 138 6 v M.length (rowG M)) (hf : ∀ t ∈ M, Src w t.a t.n t.f) : ∃ a c, v = .slice a M.length c ∧ GV w a M.length (gT M) := by
  rcases Nat.eq_zero_or_pos M.length with h0 | hp
  · rcases h.2 with ⟨h1, h2⟩ | ⟨g, cap, cur, h1, _⟩
    · exact ⟨none, 0, by rw [h1, h2], .inl h0⟩
    · exact ⟨_, _, h1, .inl h0⟩
  · obtain ⟨g, cap, rfl, hb, hlt⟩ := h.form hp
    have hce : ∀ i t, M[i]? = some t → ∀ j u, (gcells t)[j]? = some u → w.cell? ⟨g, i * 6 + j, none⟩ = some u := fun i t ht j u hu => by
      have hi : i < M.length := (List.getElem?_eq_some_iff.mp ht).1
      have hj : j < 6 := by
        have := (List.getElem?_eq_some_iff.mp hu).1
        simpa [gcells] using this
      have hc := h.cellAt (i * 6 + j) (by omega)
      rw [rowG_get M i t ht j hj, hu] at hc
      simpa using hc
    refine ⟨_, _, rfl, .inr ⟨g, 0, rfl, hlt, fun i hi => ?_, fun i hi => ?_⟩⟩
    · have ht := List.getElem?_eq_getElem hi
      rw [gT_at ht, Nat.zero_add]
      exact ⟨hce i _ ht 0 _ rfl, hce i _ ht 1 _ rfl, hce i _ ht 2 _ rfl, hce i _ ht 3 _ rfl, hce i _ ht 4 _ rfl, hce i _ ht 5 _ rfl⟩
    · rw [gT_at (List.getElem?_eq_getElem hi)]
      exact hf _ (List.getElem_mem hi)
end Go.Proofs.Ytnpklnpicelcmaa

namespace Go.Proofs.Ytnpklnpicelcmaa
open Go.RowKit Go.Maps
set_option linter.unusedVariables false

/-- What is reached so far, as the program has it: in the block rb, with the map mb and the row v. -/
structure RS (w : World) (base rb mb : Nat) (v : Value) (M : List GM) (f : Nat → Int) (L : List Ob) (O : List Int) : Prop where
  blk : Blk w rb [.int .i64 0, v, .map (some mb)]
  hrb : base ≤ rb
  hmb : base ≤ mb
  hne : mb ≠ rb
  vr : v.ownBlock ≠ some rb
  vm : v.ownBlock ≠ some mb
  row : w.ownsRow base 138 6 v M.length (rowG M)
  map : MapT w mb O.length O (fun i => (i : Int))
  len : M.length = O.length
  src : ∀ t ∈ M, Src w t.a t.n t.f ∧ (t.n = 0 ∨ t.g + 1 < base)
  same : ∀ i t, M[i]? = some t → ∃ x, findO L (lf O i) = some x ∧ GSame t (obG f x)

section

variable {w w' : World} {base rb mb : Nat} {v : Value} {M : List GM} {f : Nat → Int} {L : List Ob} {O : List Int}

theorem RS.below (h : RS w base rb mb v M f L O) (hb : Below w.heap.size w w') : RS w' base rb mb v M f L O :=
  ⟨h.blk.below hb, h.hrb, h.hmb, h.hne, h.vr, h.vm, ownsRow_below h.row hb, h.map.below hb, h.len, fun t ht => ⟨(h.src t ht).1.below hb, (h.src t ht).2⟩, h.same⟩

theorem RS.set (h : RS w base rb mb v M f L O) {p : Addr} (hp : p.block + 1 = base) (u : Value) : RS (w.setCell p u) base rb mb v M f L O := by
  have h1 := h.hrb; have h2 := h.hmb
  refine ⟨h.blk.other (by omega) _, h.hrb, h.hmb, h.hne, h.vr, h.vm, row_set h.row (by omega) _, h.map.set (by omega) _, h.len, fun t ht => ⟨?_, (h.src t ht).2⟩, h.same⟩
  obtain ⟨h3, h4⟩ := h.src t ht
  rcases h3 with h0 | ⟨b, o, e1, h5, h6⟩
  · exact .inl h0
  · rcases h4 with h0 | h4
    · exact .inl h0
    · have : t.g = b := (by simp [GM.g, e1])
      exact .inr ⟨b, o, e1, by simpa using h5, fun i hi => (World.cell?_of_block (w := w) (a := ⟨b, o + i, none⟩) (Below.heap_setCell _ _ _ b (by omega))).trans (h6 i hi)⟩

theorem RS.out (h : RS w base rb mb v M f L O) : ∃ a c, v = .slice a M.length c ∧ GV w a M.length (gT M) := rowG_GV h.row (fun t ht => (h.src t ht).1)

end
end Go.Proofs.Ytnpklnpicelcmaa

namespace Go.Proofs.Ytnpklnpicelcmaa
open Go.RowKit Go.Maps
set_option linter.unusedVariables false

/-- What is known of the objects of an arena without a fault, as the program reads them. -/
structure Shaped (w : World) (a : Option Addr) (T : Nat → GM) (f : Nat → Int) (L : List Ob) : Prop where
  gv : GV w a L.length T
  same : ∀ i, i < L.length → GSame (T i) (obT f L i)
  sort : ∀ i j, i < j → j < L.length → (T i).at_ < (T j).at_
  right : Right f L
  len : L.length ≤ 400
  place : ∀ x ∈ L, 0 ≤ x.at_ ∧ x.at_ ≤ 1000000
  word : ∀ x ∈ L, ∀ k, k < x.s.toNat → -1000000000 ≤ f (x.at_.toNat + 2 + k) ∧ f (x.at_.toNat + 2 + k) ≤ 1000000000

section

variable {w w' : World} {a : Option Addr} {T : Nat → GM} {f : Nat → Int} {L : List Ob}

theorem Shaped.below (h : Shaped w a T f L) (hb : Below w.heap.size w w') : Shaped w' a T f L := ⟨h.gv.below hb, h.same, h.sort, h.right, h.len, h.place, h.word⟩

theorem Shaped.src (h : Shaped w a T f L) {i : Nat} (hi : i < L.length) : Src w (T i).a (T i).n (T i).f := by
  rcases h.gv with h0 | ⟨b, q, _, g⟩
  · omega
  · exact g.flds i hi

end
end Go.Proofs.Ytnpklnpicelcmaa

namespace Go.Proofs.Ytnpklnpicelcmaa
open Go.RowKit Go.Maps
set_option linter.unusedVariables false

/-- A block that holds no more than a code, an empty row and no map. -/
def Dead (w : World) (R : Nat) : Prop := ∃ t fr, w.heap[R]? = some (.cells #[.int .i64 0, .slice none 0 0, .map none] t fr)

theorem Dead.below {w w' : World} {R : Nat} (h : Dead w R) (hb : Below w.heap.size w w') : Dead w' R := by
  obtain ⟨t, fr, h1⟩ := h
  exact ⟨t, fr, (hb.block R (Array.getElem?_eq_some_iff.1 h1).1).trans h1⟩
end Go.Proofs.Ytnpklnpicelcmaa

namespace Go.Proofs.Ytnpklnpicelcmaa
open Go.RowKit Go.Maps
set_option linter.unusedVariables false

/-- What the closure reads. -/
structure Cap (w : World) (rb mb nn : Nat) (v : Value) (O : List Int) : Prop where
  blk : Blk w rb [.int .i64 0, v, .map (some mb)]
  map : MapT w mb nn O (fun i => (i : Int))

theorem Cap.below {w w' : World} {rb mb nn : Nat} {v : Value} {O : List Int} (h : Cap w rb mb nn v O) (hb : Below w.heap.size w w') : Cap w' rb mb nn v O := ⟨h.blk.below hb, h.map.below hb⟩
end Go.Proofs.Ytnpklnpicelcmaa

namespace Go.Proofs.Ytnpklnpicelcmaa
open Go.RowKit Go.Maps
set_option linter.unusedVariables false

/-- A row of objects that may be written. -/
structure RW (w : World) (b q N : Nat) (V : Nat → GM) : Prop where
  lt : b < w.heap.size
  six : ∀ k, k < N → SixG w b (q + k * 6) (V k)
  free : ∀ k, k < N → SixF w b (q + k * 6)
  flds : ∀ k, k < N → Src w (V k).a (V k).n (V k).f
  off : ∀ k, k < N → (V k).n = 0 ∨ (V k).g ≠ b

theorem RW.below {w w' : World} {b q N : Nat} {V : Nat → GM} (h : RW w b q N V) (hb : Below w.heap.size w w') : RW w' b q N V :=
  ⟨Nat.lt_of_lt_of_le h.lt hb.size, fun k hk => (h.six k hk).below hb h.lt, fun k hk => (h.free k hk).below hb h.lt, fun k hk => (h.flds k hk).below hb, h.off⟩

theorem src_six {w : World} {b o : Nat} {t u : GM} (h : Src w u.a u.n u.f) (hb : u.n = 0 ∨ u.g ≠ b) : Src (sixW w b o t) u.a u.n u.f := by
  rcases h with h0 | ⟨b', o', e, h1, h2⟩
  · exact .inl h0
  · rcases hb with h0 | hb
    · exact .inl h0
    · have hg : u.g = b' := by simp [GM.g, e]
      have hk := (sixW_keeps w b o t).block b' h1 (by omega)
      exact .inr ⟨b', o', e, Nat.lt_of_lt_of_le h1 (sixW_keeps w b o t).size, fun i hi => (World.cell?_of_block (w := w) (a := ⟨b', o' + i, none⟩) hk).trans (h2 i hi)⟩

theorem sixF_six {w : World} {b o o' : Nat} {t : GM} (h : SixF w b o) : SixF (sixW w b o' t) b o :=
  ⟨(sixW_frozen _ _ _ _ _).trans h.1, (sixW_frozen _ _ _ _ _).trans h.2.1, (sixW_frozen _ _ _ _ _).trans h.2.2.1, (sixW_frozen _ _ _ _ _).trans h.2.2.2.1, (sixW_frozen _ _ _ _ _).trans h.2.2.2.2.1, (sixW_frozen _ _ _ _ _).trans h.2.2.2.2.2⟩

theorem RW.set {w : World} {b q N i : Nat} {V : Nat → GM} {t : GM} (h : RW w b q N V) (hi : i < N) (hs : Src w t.a t.n t.f) (ho : t.n = 0 ∨ t.g ≠ b) : RW (sixW w b (q + i * 6) t) b q N (fun k => if k = i then t else V k) := by
  refine ⟨Nat.lt_of_lt_of_le h.lt (sixW_keeps w b _ t).size, fun k hk => ?_, fun k hk => sixF_six (h.free k hk), fun k hk => ?_, fun k hk => ?_⟩
  · by_cases e : k = i
    · subst e; rw [if_pos rfl]; exact sixW_at (h.six k hk) t
    · rw [if_neg e]; exact sixW_other (h.six k hk) (by omega) t
  · by_cases e : k = i
    · rw [if_pos e]; exact src_six hs ho
    · rw [if_neg e]; exact src_six (h.flds k hk) (h.off k hk)
  · by_cases e : k = i
    · rw [if_pos e]; exact ho
    · rw [if_neg e]; exact h.off k hk
end Go.Proofs.Ytnpklnpicelcmaa

namespace Go.Proofs.Ytnpklnpicelcmaa
open Go.RowKit Go.Maps
set_option linter.unusedVariables false

theorem setCells_size (b : Nat) : ∀ (vs : List Value) (o : Nat) (w : World), (w.setCells b o vs).heap.size = w.heap.size
  | [], o, w => rfl
  | v :: vs, o, w => by
    have h1 := setCells_size b vs (o + 1) (w.setCell ⟨b, o, none⟩ v)
    exact h1.trans (by simp)

theorem RW.has {w : World} {b q N : Nat} {V : Nat → GM} (h : RW w b q N V) (o : Nat) (ho : o < N * 6) : (w.cell? ⟨b, q + o, none⟩).isSome = true ∧ w.frozen? ⟨b, q + o, none⟩ = false := by
  obtain ⟨k, r, hr, e⟩ : ∃ k r, r < 6 ∧ o = k * 6 + r := ⟨o / 6, o % 6, Nat.mod_lt _ (by omega), by omega⟩
  subst e
  have hk : k < N := by omega
  obtain ⟨x0, x1, x2, x3, x4, x5⟩ := h.six k hk
  obtain ⟨g0, g1, g2, g3, g4, g5⟩ := h.free k hk
  rw [← Nat.add_assoc]
  match r, hr with
  | 0, _ => exact ⟨by rw [Nat.add_zero, x0]; rfl, g0⟩
  | 1, _ => exact ⟨by rw [x1]; rfl, g1⟩
  | 2, _ => exact ⟨by rw [x2]; rfl, g2⟩
  | 3, _ => exact ⟨by rw [x3]; rfl, g3⟩
  | 4, _ => exact ⟨by rw [x4]; rfl, g4⟩
  | 5, _ => exact ⟨by rw [x5]; rfl, g5⟩
end Go.Proofs.Ytnpklnpicelcmaa

namespace Go.Proofs.Ytnpklnpicelcmaa
open Go.RowKit Go.Maps
set_option linter.unusedVariables false

/-- What is carried through the draw: the source, the bytes, the arena, the answer's block, the arena's words, the roots. -/
structure DS (W w : World) (ca : Option Addr) (k kc : Nat) (B : Nat → Int) (t P : Nat) (h ac bu : Int) (a : Option Addr) (n c : Nat) (f : Nat → Int) (u : Value) (l : List Int) : Prop where
  bel : Below W.heap.size W w
  src : Blk w (W.heap.size + 1) [.slice ca k kc, .int .i64 (t : Int)]
  byt : SrcB w (W.heap.size + 1) ca k B
  arn : Blk w P [.int .i64 h, .slice a n c, .int .i64 ac, .int .i64 bu]
  res : Blk w W.heap.size [.int .i64 0, .slice none 0 0, .int .i64 0, .int .i64 0]
  wrd : OwnIn w (W.heap.size + 2) P a n f
  row : w.ownsRow (P + 1) 2 1 u l.length (nums l.length (lf l))
  hP : W.heap.size + 2 ≤ P

theorem DS.below {W w w' : World} {ca : Option Addr} {k kc t P : Nat} {B f : Nat → Int} {h ac bu : Int} {a : Option Addr} {n c : Nat} {u : Value} {l : List Int} (d : DS W w ca k kc B t P h ac bu a n c f u l) (hb : Below w.heap.size w w') : DS W w' ca k kc B t P h ac bu a n c f u l :=
  ⟨d.bel.trans (hb.mono d.bel.size), d.src.below hb, d.byt.below hb, d.arn.below hb, d.res.below hb, d.wrd.below hb, ownsRow_below d.row hb, d.hP⟩
end Go.Proofs.Ytnpklnpicelcmaa

namespace Go.Proofs.Ytnpklnpicelcmaa
open Go.RowKit Go.Maps
set_option linter.unusedVariables false

/-- What the law of what is reached has at hand. -/
structure LR (W w : World) (P P5 P6 P7 : Nat) (h ac bu : Int) (a : Option Addr) (n c : Nat) (f : Nat → Int) (ra : Option Addr) (l : List Int) (co : Int) (R : List Int) (ua : Option Addr) (uc : Nat) (G : List Int) (ga : Option Addr) (gc : Nat) (wv : Int) : Prop where
  bel : Below W.heap.size W w
  arn : Blk w P [.int .i64 h, .slice a n c, .int .i64 ac, .int .i64 bu]
  wrd : Src w a n f
  rts : Src w ra l.length (lf l)
  rb : Blk w P5 [.int .i64 co, .slice ua R.length uc]
  rl : Src w ua R.length (lf R)
  gb : Blk w P6 [.int .i64 co, .slice ga G.length gc]
  gl : Src w ga G.length (lf G)
  wb : Blk w P7 [.int .i64 co, .int .i64 wv]

section

variable {W w w' : World} {P P5 P6 P7 : Nat} {h ac bu : Int} {a : Option Addr} {n c : Nat} {f : Nat → Int} {ra : Option Addr} {l : List Int} {co : Int} {R : List Int} {ua : Option Addr} {uc : Nat} {G : List Int} {ga : Option Addr} {gc : Nat} {wv : Int}

theorem LR.below (d : LR W w P P5 P6 P7 h ac bu a n c f ra l co R ua uc G ga gc wv) (hb : Below w.heap.size w w') : LR W w' P P5 P6 P7 h ac bu a n c f ra l co R ua uc G ga gc wv :=
  ⟨d.bel.trans (hb.mono d.bel.size), d.arn.below hb, d.wrd.below hb, d.rts.below hb, d.rb.below hb, d.rl.below hb, d.gb.below hb, d.gl.below hb, d.wb.below hb⟩

theorem LR.drew (d : LR W w P P5 P6 P7 h ac bu a n c f ra l co R ua uc G ga gc wv) : LR W w.drew P P5 P6 P7 h ac bu a n c f ra l co R ua uc G ga gc wv := d.below (Below.refl _ _).drew

end
end Go.Proofs.Ytnpklnpicelcmaa

namespace Go.Proofs.Ytnpklnpicelcmaa
open Go.RowKit
set_option linter.unusedVariables false

/-- The word of number d of an object, behind a collection. -/
def colAt (f : Nat → Int) (R : List Int) (P : Nat) (X : List Ob) (x : Ob) (d : Nat) : Int := if d = 0 then packO x else if d = 1 then x.h else mapF f R (newPlaces P X) x (d - 2)

/-- The words of a set are so; beside the objects there is nothing. -/
structure ColOn (f : Nat → Int) (R : List Int) (P : Nat) (X : List Ob) (D : Nat → Nat → Prop) (g : Nat → Int) : Prop where
  on : ∀ j (hj : j < X.length) d, D j d → d < wordsO X[j] → g (placeAt P X j + d) = colAt f R P X X[j] d
  rest : ∀ i, ¬ (P ≤ i ∧ i < P + totO X) → g i = 0

theorem placeAt_mono (P : Nat) (X : List Ob) {i j : Nat} (h : i ≤ j) (hj : j ≤ X.length) : placeAt P X i ≤ placeAt P X j := by
  rcases Nat.lt_or_eq_of_le h with h1 | rfl
  · have := placeAt_lt P X i j h1 hj; omega
  · exact Nat.le_refl _

theorem placeAt_next (P : Nat) (X : List Ob) {i j : Nat} (h : i < j) (hj : j < X.length) : placeAt P X i + wordsO (X[i]'(by omega)) ≤ placeAt P X j := by
  rw [← placeAt_step P X (show i < X.length by omega)]
  exact placeAt_mono P X h (by omega)

theorem place_apart {P : Nat} {X : List Ob} {i j d e : Nat} (hi : i < X.length) (hj : j < X.length) (hd : d < wordsO X[i]) (he : e < wordsO X[j]) (h : placeAt P X i + d = placeAt P X j + e) : i = j ∧ d = e := by
  rcases Nat.lt_trichotomy i j with h1 | rfl | h1
  · have := placeAt_next P X h1 hj; omega
  · exact ⟨rfl, by omega⟩
  · have := placeAt_next P X h1 hi; omega

theorem placeAt_ge (P : Nat) (X : List Ob) (i : Nat) : P ≤ placeAt P X i := by unfold placeAt; omega

section

variable {f g : Nat → Int} {R : List Int} {P : Nat} {X : List Ob} {D E : Nat → Nat → Prop} {i d : Nat}

theorem ColOn.set (h : ColOn f R P X D g) (hi : i < X.length) (hd : d < wordsO X[i]) {v : Int} (hv : v = colAt f R P X X[i] d) : ColOn f R P X (fun j e => D j e ∨ (j = i ∧ e = d)) (upd g (placeAt P X i + d) v) := by
  refine ⟨fun j hj e h1 h2 => ?_, fun k hk => ?_⟩
  · unfold upd
    by_cases he : placeAt P X j + e = placeAt P X i + d
    · obtain ⟨rfl, rfl⟩ := place_apart hj hi h2 hd he
      rw [if_pos rfl, hv]
    · rw [if_neg he]
      rcases h1 with h1 | ⟨rfl, rfl⟩
      · exact h.on j hj e h1 h2
      · exact absurd rfl he
  · unfold upd
    have := placeAt_end P X hi
    have := placeAt_ge P X i
    rw [if_neg (by omega)]
    exact h.rest k hk

theorem ColOn.congr {g' : Nat → Int} (h : ColOn f R P X D g) (e : ∀ k, g' k = g k) : ColOn f R P X D g' := ⟨fun j hj d h1 h2 => (e _).trans (h.on j hj d h1 h2), fun i hi => (e i).trans (h.rest i hi)⟩

end
end Go.Proofs.Ytnpklnpicelcmaa

namespace Go.Proofs.Ytnpklnpicelcmaa
open Go.RowKit
set_option linter.unusedVariables false

/-- A head lies amid a block. -/
structure HdAt (w : World) (d q : Nat) (s m o h : Int) : Prop where
  lt : d < w.heap.size
  c0 : w.cell? ⟨d, q, none⟩ = some (.int .i64 s)
  c1 : w.cell? ⟨d, q + 1, none⟩ = some (.int .i64 m)
  c2 : w.cell? ⟨d, q + 2, none⟩ = some (.int .i64 o)
  c3 : w.cell? ⟨d, q + 3, none⟩ = some (.int .i64 h)

theorem HdAt.block {w w' : World} {d q : Nat} {s m o h : Int} (x : HdAt w d q s m o h) (e : w'.heap[d]? = w.heap[d]?) (z : w.heap.size ≤ w'.heap.size) : HdAt w' d q s m o h :=
  ⟨Nat.lt_of_lt_of_le x.lt z, (World.cell?_of_block (a := ⟨d, q, none⟩) e).trans x.c0, (World.cell?_of_block (a := ⟨d, q + 1, none⟩) e).trans x.c1, (World.cell?_of_block (a := ⟨d, q + 2, none⟩) e).trans x.c2, (World.cell?_of_block (a := ⟨d, q + 3, none⟩) e).trans x.c3⟩

theorem HdAt.below {w w' : World} {d q : Nat} {s m o h : Int} (x : HdAt w d q s m o h) (hb : Below w.heap.size w w') : HdAt w' d q s m o h := x.block (hb.block d x.lt) hb.size

theorem HdAt.drew {w : World} {d q : Nat} {s m o h : Int} (x : HdAt w d q s m o h) : HdAt w.drew d q s m o h := x.below (Below.refl _ _).drew

theorem HdAt.alloc {w : World} {d q : Nat} {s m o h : Int} (x : HdAt w d q s m o h) (ob : Obj) : HdAt (w.alloc ob) d q s m o h := x.below ((Below.refl _ _).alloc (Nat.le_refl _) ob)
end Go.Proofs.Ytnpklnpicelcmaa

namespace Go.Proofs.Ytnpklnpicelcmaa
open Go.RowKit Go.Maps
set_option linter.unusedVariables false

/-- Where a field leads, once all stands where a table says. -/
def mvF (R : List Int) (v : Nat → Int) (t : GM) (k : Nat) : Int := if t.m / P2 (k : Int) % 2 = 1 ∧ ¬ t.f k = 0 then (tab R v (t.f k - 1)).getD 0 + 1 else t.f k

def mvT (R : List Int) (v : Nat → Int) (t : GM) : GM := ⟨(tab R v t.at_).getD 0, t.s, t.m, t.o, t.h, none, t.n, 0, mvF R v t⟩
end Go.Proofs.Ytnpklnpicelcmaa

namespace Go.Proofs.Ytnpklnpicelcmaa
open Go.RowKit Go.Maps
set_option linter.unusedVariables false

/-- A list of objects that stand where a table says, while it is made. -/
structure ML (w : World) (base : Nat) (u : Value) (M : List GM) (R : List Int) (v : Nat → Int) (T : Nat → GM) : Prop where
  row : w.ownsRow base 138 6 u M.length (rowG M)
  src : ∀ t ∈ M, Src w t.a t.n t.f ∧ (t.n = 0 ∨ u.ownBlock ≠ some t.g)
  far : ∀ t ∈ M, t.n = 0 ∨ base ≤ t.g
  same : ∀ i t, M[i]? = some t → GSame t (mvT R v (T i))

theorem ML.below {w w' : World} {base : Nat} {u : Value} {M : List GM} {R : List Int} {v : Nat → Int} {T : Nat → GM} (h : ML w base u M R v T) (hb : Below w.heap.size w w') : ML w' base u M R v T := ⟨ownsRow_below h.row hb, fun t ht => ⟨(h.src t ht).1.below hb, (h.src t ht).2⟩, h.far, h.same⟩

/-- A row of objects in blocks from a place on. -/
def GVB (w : World) (base : Nat) (a : Option Addr) (N : Nat) (T : Nat → GM) : Prop := N = 0 ∨ ∃ b q, a = some ⟨b, q, none⟩ ∧ base ≤ b ∧ GSrc w b q N T ∧ ∀ i, i < N → (T i).n = 0 ∨ base ≤ (T i).g

theorem GVB.keeps {w w' : World} {base lo hi : Nat} {a : Option Addr} {N : Nat} {T : Nat → GM} (h : GVB w base a N T) (hk : Keeps w w' lo hi) (hb : hi ≤ base) : GVB w' base a N T := by
  rcases h with h | ⟨b, q, h1, h2, h3, h4⟩
  · exact .inl h
  · exact .inr ⟨b, q, h1, h2, h3.keeps hk (.inr (by omega)) (fun i hi => by rcases h4 i hi with h5 | h5; exact .inl h5; exact .inr (.inr (by omega))), h4⟩

theorem GVB.below {w w' : World} {base : Nat} {a : Option Addr} {N : Nat} {T : Nat → GM} (h : GVB w base a N T) (hb : Below w.heap.size w w') : GVB w' base a N T := by
  rcases h with h | ⟨b, q, h1, h2, h3, h4⟩
  · exact .inl h
  · exact .inr ⟨b, q, h1, h2, h3.below hb, h4⟩
end Go.Proofs.Ytnpklnpicelcmaa

namespace Go.Proofs.Ytnpklnpicelcmaa
open Go.RowKit Go.Maps
set_option linter.unusedVariables false

theorem own_copy {w : World} {lo hi g q n : Nat} {G : Nat → Int} (h : OwnIn w lo hi (some ⟨g, q, none⟩) n G) (K m : Nat) (F : Nat → Int) (hK : K + m ≤ n) : OwnIn (w.setCells g (q + K) (nums m F)) lo hi (some ⟨g, q, none⟩) n (fun i => if K ≤ i ∧ i < K + m then F (i - K) else G i) := by
  rcases h with h0 | ⟨b', o', e1, h1, hb, hc⟩
  · exact .inl h0
  · cases e1
    refine .inr ⟨g, q, rfl, h1, by rw [setCells_size]; exact hb, fun i hi => ⟨?_, ?_⟩⟩
    · dsimp only
      by_cases hin : K ≤ i ∧ i < K + m
      · rw [if_pos hin]
        obtain ⟨j, rfl⟩ : ∃ j, i = K + j := ⟨i - K, by omega⟩
        have hj : j < (nums m F).length := by rw [nums_length]; omega
        have := World.cell?_setCells_in g (nums m F) (q + K) w (fun k hk => by
          rw [nums_length] at hk
          rw [Nat.add_assoc, (hc (K + k) (by omega)).1]; rfl) j hj
        rw [← Nat.add_assoc, this]
        have h9 := nums_get m F j (by omega)
        rw [List.getElem?_eq_getElem hj] at h9
        rw [h9, show K + j - K = j by omega]
      · rw [if_neg hin, World.cell?_setCells_out g (nums m F) (q + K) w ⟨g, q + i, none⟩ (fun _ _ => by rw [nums_length]; show q + i < q + K ∨ q + K + m ≤ q + i; omega)]
        exact (hc i hi).1
    · rw [World.frozen?_setCells]; exact (hc i hi).2

theorem keeps_copy {w : World} {lo hi g : Nat} (h1 : lo ≤ g) (h2 : g < hi) : ∀ (vs : List Value) (o : Nat) (w' : World), Keeps w w' lo hi → Keeps w (w'.setCells g o vs) lo hi
  | [], _, _, h => h
  | v :: vs, o, w', h => keeps_copy h1 h2 vs (o + 1) _ (h.trans (keeps_setCell (p := ⟨g, o, none⟩) h1 h2 v))

section

variable {h ac bu : Int} {n : Nat} {f : Nat → Int} {L : List Ob} {roots : List Int}

end
end Go.Proofs.Ytnpklnpicelcmaa

namespace Go.Proofs.Ytnpklnpicelcmaa
open Go.RowKit
set_option linter.unusedVariables false

/-- What lies in memory while the model collects. -/
structure CS (W w : World) (b : Nat) (g q : Nat) (h ac U : Int) (n c : Nat) (u : Value) (l : List Int) (G : Nat → Int) : Prop where
  bel : Below W.heap.size W w
  arn : Blk w b [.int .i64 h, .slice (some ⟨g, q, none⟩) n c, .int .i64 ac, .int .i64 U]
  wrd : OwnIn w W.heap.size (b + 1) (some ⟨g, q, none⟩) n G
  row : w.ownsRow (b + 1) 2 1 u l.length (nums l.length (lf l))

section

variable {W w w' : World} {b g q : Nat} {h ac U : Int} {n c : Nat} {u : Value} {l : List Int} {G : Nat → Int}

theorem CS.below (d : CS W w b g q h ac U n c u l G) (hb : Below w.heap.size w w') : CS W w' b g q h ac U n c u l G := ⟨d.bel.trans (hb.mono d.bel.size), d.arn.below hb, d.wrd.below hb, ownsRow_below d.row hb⟩

end
end Go.Proofs.Ytnpklnpicelcmaa

namespace Go.Proofs.Ytnpklnpicelcmaa
open Go.RowKit Go.Maps
set_option linter.unusedVariables false

/-- The words while the program collects. -/
structure PW (W w : World) (g q n : Nat) (G : Nat → Int) : Prop where
  kp : Keeps W w g (g + 1)
  wrd : OwnIn w g (g + 1) (some ⟨g, q, none⟩) n G

theorem PW.below {W w w' : World} {g q n : Nat} {G : Nat → Int} (d : PW W w g q n G) (hb : Below w.heap.size w w') : PW W w' g q n G := ⟨d.kp.trans (keeps_of_below hb g (g + 1)), d.wrd.below hb⟩

theorem MapT.keeps {w w' : World} {b n lo hi : Nat} {R : List Int} {v : Nat → Int} (h : MapT w b n R v) (hk : Keeps w w' lo hi) (hd : b < lo ∨ hi ≤ b) : MapT w' b n R v := h.block (hk.block b h.lt hd)
end Go.Proofs.Ytnpklnpicelcmaa

namespace Go.Proofs.Ytnpklnpicelcmaa
open Go.RowKit Go.Maps
set_option linter.unusedVariables false

def idV : Nat → Int := fun i => (i : Int)

/-- What lies of an object amid a list, for the comparison. -/
structure ObM (w : World) (g1 o g : Nat) (c : Nat) (f : Nat → Int) (x : Ob) : Prop where
  lt : g1 < w.heap.size
  c1 : w.cell? ⟨g1, o + 1, none⟩ = some (.int .i64 x.s)
  c2 : w.cell? ⟨g1, o + 2, none⟩ = some (.int .i64 x.m)
  c3 : w.cell? ⟨g1, o + 3, none⟩ = some (.int .i64 x.o)
  c4 : w.cell? ⟨g1, o + 4, none⟩ = some (.int .i64 x.h)
  c5 : w.cell? ⟨g1, o + 5, none⟩ = some (.slice (some ⟨g, 0, none⟩) x.s.toNat c)
  lg : g < w.heap.size
  fl : ∀ k, k < x.s.toNat → w.cell? ⟨g, k, none⟩ = some (.int .i64 (f (x.at_.toNat + 2 + k)))

theorem ObM.below {w w' : World} {g1 o g c : Nat} {f : Nat → Int} {x : Ob} (h : ObM w g1 o g c f x) (hb : Below w.heap.size w w') : ObM w' g1 o g c f x := by
  have hz := hb.size
  exact ⟨Nat.lt_of_lt_of_le h.lt hz, (hb.cell (p := ⟨g1, o + 1, none⟩) h.lt).trans h.c1, (hb.cell (p := ⟨g1, o + 2, none⟩) h.lt).trans h.c2, (hb.cell (p := ⟨g1, o + 3, none⟩) h.lt).trans h.c3, (hb.cell (p := ⟨g1, o + 4, none⟩) h.lt).trans h.c4, (hb.cell (p := ⟨g1, o + 5, none⟩) h.lt).trans h.c5, Nat.lt_of_lt_of_le h.lg hz, fun k hk => (hb.cell (p := ⟨g, k, none⟩) h.lg).trans (h.fl k hk)⟩
end Go.Proofs.Ytnpklnpicelcmaa

namespace Go.Proofs.Ytnpklnpicelcmaa
open Go.RowKit Go.Maps
set_option linter.unusedVariables false

/-- What is known of what was reached, where both codes are 0. -/
def InU2 (w : World) (z : Prop) (f : Nat → Int) (L : List Ob) (roots : List Int) (a : Option Addr) (N : Nat) (mv : Option Nat) : Prop :=
  z → N = (reachO f L roots).length ∧ ∃ mb T, mv = some mb ∧ GV w a (reachO f L roots).length T ∧ MapT w mb (reachO f L roots).length (reachO f L roots) idV ∧ ∀ i, i < (reachO f L roots).length → ∃ x, findO L (lf (reachO f L roots) i) = some x ∧ GSame (T i) (obG f x)

theorem InU2.below {w w' : World} {z : Prop} {f : Nat → Int} {L : List Ob} {roots : List Int} {a : Option Addr} {N : Nat} {mv : Option Nat} (h : InU2 w z f L roots a N mv) (hb : Below w.heap.size w w') : InU2 w' z f L roots a N mv := fun hz => by
  obtain ⟨h1, mb, T, h2, h3, h4, h5⟩ := h hz
  exact ⟨h1, mb, T, h2, h3.below hb, h4.below hb, h5⟩
end Go.Proofs.Ytnpklnpicelcmaa

namespace Go.Proofs.Ytnpklnpicelcmaa
open Go.RowKit Go.Maps
set_option linter.unusedVariables false

structure LA (W w : World) (P : Nat) (h ac bu : Int) (a : Option Addr) (n c : Nat) (f : Nat → Int) (ra : Option Addr) (l : List Int) (h' ac' bu' : Int) (a' : Option Addr) (n' c' : Nat) (f' : Nat → Int) (rb : Option Addr) (l' : List Int) : Prop where
  bel : Below W.heap.size W w
  ab : Blk w P [.int .i64 h, .slice a n c, .int .i64 ac, .int .i64 bu]
  bb : Blk w (P + 1) [.int .i64 h', .slice a' n' c', .int .i64 ac', .int .i64 bu']
  wa : Src w a n f
  ra : Src w ra l.length (lf l)
  wb : Src w a' n' f'
  rb : Src w rb l'.length (lf l')

section

variable {W w w' : World} {P : Nat} {h ac bu : Int} {a : Option Addr} {n c : Nat} {f : Nat → Int} {ra : Option Addr} {l : List Int} {h' ac' bu' : Int} {a' : Option Addr} {n' c' : Nat} {f' : Nat → Int} {rb : Option Addr} {l' : List Int}

theorem LA.below (d : LA W w P h ac bu a n c f ra l h' ac' bu' a' n' c' f' rb l') (hb : Below w.heap.size w w') : LA W w' P h ac bu a n c f ra l h' ac' bu' a' n' c' f' rb l' :=
  ⟨d.bel.trans (hb.mono d.bel.size), d.ab.below hb, d.bb.below hb, d.wa.below hb, d.ra.below hb, d.wb.below hb, d.rb.below hb⟩

theorem LA.drew (d : LA W w P h ac bu a n c f ra l h' ac' bu' a' n' c' f' rb l') : LA W w.drew P h ac bu a n c f ra l h' ac' bu' a' n' c' f' rb l' := d.below (Below.refl _ _).drew

end
end Go.Proofs.Ytnpklnpicelcmaa

namespace Go.Proofs.Ytnpklnpicelcmaa
open Go.RowKit
set_option linter.unusedVariables false

/-- A node in memory: as an object, with no owner. -/
def FivG (w : World) (b o : Nat) (t : GM) : Prop := w.cell? ⟨b, o, none⟩ = some (.int .i64 t.at_) ∧ w.cell? ⟨b, o + 1, none⟩ = some (.int .i64 t.s) ∧ w.cell? ⟨b, o + 2, none⟩ = some (.int .i64 t.m) ∧ w.cell? ⟨b, o + 3, none⟩ = some (.int .i64 t.h) ∧ w.cell? ⟨b, o + 4, none⟩ = some (.slice t.a t.n t.c)

def FivF (w : World) (b o : Nat) : Prop := w.frozen? ⟨b, o, none⟩ = false ∧ w.frozen? ⟨b, o + 1, none⟩ = false ∧ w.frozen? ⟨b, o + 2, none⟩ = false ∧ w.frozen? ⟨b, o + 3, none⟩ = false ∧ w.frozen? ⟨b, o + 4, none⟩ = false

theorem FivG.block {w w' : World} {b o : Nat} {t : GM} (h : FivG w b o t) (e : w'.heap[b]? = w.heap[b]?) : FivG w' b o t :=
  ⟨(World.cell?_of_block (w := w) (a := ⟨b, o, none⟩) e).trans h.1, (World.cell?_of_block (w := w) (a := ⟨b, o + 1, none⟩) e).trans h.2.1, (World.cell?_of_block (w := w) (a := ⟨b, o + 2, none⟩) e).trans h.2.2.1, (World.cell?_of_block (w := w) (a := ⟨b, o + 3, none⟩) e).trans h.2.2.2.1, (World.cell?_of_block (w := w) (a := ⟨b, o + 4, none⟩) e).trans h.2.2.2.2⟩

theorem FivF.block {w w' : World} {b o : Nat} (h : FivF w b o) (e : w'.heap[b]? = w.heap[b]?) : FivF w' b o :=
  ⟨(World.frozen?_of_block (w := w) (a := ⟨b, o, none⟩) e).trans h.1, (World.frozen?_of_block (w := w) (a := ⟨b, o + 1, none⟩) e).trans h.2.1, (World.frozen?_of_block (w := w) (a := ⟨b, o + 2, none⟩) e).trans h.2.2.1, (World.frozen?_of_block (w := w) (a := ⟨b, o + 3, none⟩) e).trans h.2.2.2.1, (World.frozen?_of_block (w := w) (a := ⟨b, o + 4, none⟩) e).trans h.2.2.2.2⟩

theorem FivG.below {w w' : World} {b o : Nat} {t : GM} (h : FivG w b o t) (hb : Below w.heap.size w w') (hl : b < w.heap.size) : FivG w' b o t := h.block (hb.block b hl)

theorem FivF.below {w w' : World} {b o : Nat} (h : FivF w b o) (hb : Below w.heap.size w w') (hl : b < w.heap.size) : FivF w' b o := h.block (hb.block b hl)

theorem FivG.keeps {w w' : World} {b o lo hi : Nat} {t : GM} (h : FivG w b o t) (hk : Keeps w w' lo hi) (hl : b < w.heap.size) (hd : b < lo ∨ hi ≤ b) : FivG w' b o t := h.block (hk.block b hl hd)

theorem FivF.keeps {w w' : World} {b o lo hi : Nat} (h : FivF w b o) (hk : Keeps w w' lo hi) (hl : b < w.heap.size) (hd : b < lo ∨ hi ≤ b) : FivF w' b o := h.block (hk.block b hl hd)

/-- A row of objects is read. -/
structure NSrc (w : World) (b q N : Nat) (T : Nat → GM) : Prop where
  lt : b < w.heap.size
  six : ∀ i, i < N → FivG w b (q + i * 5) (T i)
  flds : ∀ i, i < N → Src w (T i).a (T i).n (T i).f

/-- A row of objects of the call's own, in blocks from lo to hi. -/
structure NOwn (w : World) (lo hi b q N : Nat) (T : Nat → GM) : Prop where
  glo : lo ≤ b
  ghi : b < hi
  lt : b < w.heap.size
  six : ∀ i, i < N → FivG w b (q + i * 5) (T i)
  free : ∀ i, i < N → FivF w b (q + i * 5)
  flds : ∀ i, i < N → OwnIn w lo hi (T i).a (T i).n (T i).f
  off : ∀ i, i < N → (T i).n = 0 ∨ (T i).g ≠ b
  apart : ∀ i j, i < N → j < N → i ≠ j → (T i).n = 0 ∨ (T j).n = 0 ∨ (T i).g ≠ (T j).g

theorem NOwn.src {w : World} {lo hi b q N : Nat} {T : Nat → GM} (h : NOwn w lo hi b q N T) : NSrc w b q N T := ⟨h.lt, h.six, fun i hi => (h.flds i hi).src⟩

theorem NSrc.below {w w' : World} {b q N : Nat} {T : Nat → GM} (h : NSrc w b q N T) (hb : Below w.heap.size w w') : NSrc w' b q N T :=
  ⟨Nat.lt_of_lt_of_le h.lt hb.size, fun i hi => (h.six i hi).below hb h.lt, fun i hi => (h.flds i hi).below hb⟩

theorem NOwn.below {w w' : World} {lo hi b q N : Nat} {T : Nat → GM} (h : NOwn w lo hi b q N T) (hb : Below w.heap.size w w') : NOwn w' lo hi b q N T :=
  ⟨h.glo, h.ghi, Nat.lt_of_lt_of_le h.lt hb.size, fun i hi => (h.six i hi).below hb h.lt, fun i hi => (h.free i hi).below hb h.lt, fun i hi => (h.flds i hi).below hb, h.off, h.apart⟩

theorem NOwn.keeps {w w' : World} {lo hi lo' hi' b q N : Nat} {T : Nat → GM} (h : NOwn w lo hi b q N T) (hk : Keeps w w' lo' hi') (hd : hi ≤ lo' ∨ hi' ≤ lo) : NOwn w' lo hi b q N T := by
  have h1 := h.glo; have h2 := h.ghi
  exact ⟨h.glo, h.ghi, Nat.lt_of_lt_of_le h.lt hk.size, fun i hi => (h.six i hi).keeps hk h.lt (by omega), fun i hi => (h.free i hi).keeps hk h.lt (by omega), fun i hi => (h.flds i hi).keeps hk hd, h.off, h.apart⟩

theorem NSrc.keeps {w w' : World} {lo hi b q N : Nat} {T : Nat → GM} (h : NSrc w b q N T) (hk : Keeps w w' lo hi) (hd : b < lo ∨ hi ≤ b) (hf : ∀ i, i < N → (T i).n = 0 ∨ (T i).g < lo ∨ hi ≤ (T i).g) : NSrc w' b q N T := by
  refine ⟨Nat.lt_of_lt_of_le h.lt hk.size, fun i hi => (h.six i hi).keeps hk h.lt hd, fun i hi => ?_⟩
  rcases h.flds i hi with h0 | ⟨b', o', he, hl, hc⟩
  · exact .inl h0
  · rcases hf i hi with h0 | hf
    · exact .inl h0
    · have hg : (T i).g = b' := by simp [GM.g, he]
      have e := hk.block b' hl (by omega)
      exact .inr ⟨b', o', he, Nat.lt_of_lt_of_le hl hk.size, fun k hk' => (World.cell?_of_block (w := w) (a := ⟨b', o' + k, none⟩) e).trans (hc k hk')⟩

theorem NSrc.drew {w : World} {b q N : Nat} {T : Nat → GM} (h : NSrc w b q N T) : NSrc w.drew b q N T := h.below (Below.refl _ _).drew

theorem NSrc.alloc {w : World} {b q N : Nat} {T : Nat → GM} (h : NSrc w b q N T) (o : Obj) : NSrc (w.alloc o) b q N T := h.below ((Below.refl _ _).alloc (Nat.le_refl _) o)

theorem NOwn.drew {w : World} {lo hi b q N : Nat} {T : Nat → GM} (h : NOwn w lo hi b q N T) : NOwn w.drew lo hi b q N T := h.below (Below.refl _ _).drew

theorem NOwn.alloc {w : World} {lo hi b q N : Nat} {T : Nat → GM} (h : NOwn w lo hi b q N T) (o : Obj) : NOwn (w.alloc o) lo hi b q N T := h.below ((Below.refl _ _).alloc (Nat.le_refl _) o)

theorem NSrc.congr {w : World} {b q N : Nat} {T U : Nat → GM} (h : NSrc w b q N T) (e : ∀ i, i < N → T i = U i) : NSrc w b q N U :=
  ⟨h.lt, fun i hi => by rw [← e i hi]; exact h.six i hi, fun i hi => by rw [← e i hi]; exact h.flds i hi⟩

theorem NOwn.congr {w : World} {lo hi b q N : Nat} {T U : Nat → GM} (h : NOwn w lo hi b q N T) (e : ∀ i, i < N → T i = U i) : NOwn w lo hi b q N U :=
  ⟨h.glo, h.ghi, h.lt, fun i hi => by rw [← e i hi]; exact h.six i hi, h.free, fun i hi => by rw [← e i hi]; exact h.flds i hi, fun i hi => by rw [← e i hi]; exact h.off i hi, fun i j hi hj hij => by rw [← e i hi, ← e j hj]; exact h.apart i j hi hj hij⟩
end Go.Proofs.Ytnpklnpicelcmaa

namespace Go.Proofs.Ytnpklnpicelcmaa
open Go.RowKit
set_option linter.unusedVariables false

def NV (w : World) (a : Option Addr) (N : Nat) (T : Nat → GM) : Prop := N = 0 ∨ ∃ b q, a = some ⟨b, q, none⟩ ∧ NSrc w b q N T

def NVO (w : World) (lo hi : Nat) (a : Option Addr) (N : Nat) (T : Nat → GM) : Prop := N = 0 ∨ ∃ b q, a = some ⟨b, q, none⟩ ∧ NOwn w lo hi b q N T

theorem NVO.src {w : World} {lo hi N : Nat} {a : Option Addr} {T : Nat → GM} (h : NVO w lo hi a N T) : NV w a N T := by
  rcases h with h0 | ⟨b, q, e, h⟩
  · exact .inl h0
  · exact .inr ⟨b, q, e, h.src⟩

theorem NV.below {w w' : World} {a : Option Addr} {N : Nat} {T : Nat → GM} (h : NV w a N T) (hb : Below w.heap.size w w') : NV w' a N T := by
  rcases h with h0 | ⟨b, q, e, h⟩
  · exact .inl h0
  · exact .inr ⟨b, q, e, h.below hb⟩

theorem NVO.below {w w' : World} {lo hi N : Nat} {a : Option Addr} {T : Nat → GM} (h : NVO w lo hi a N T) (hb : Below w.heap.size w w') : NVO w' lo hi a N T := by
  rcases h with h0 | ⟨b, q, e, h⟩
  · exact .inl h0
  · exact .inr ⟨b, q, e, h.below hb⟩

theorem NVO.keeps {w w' : World} {lo hi lo' hi' N : Nat} {a : Option Addr} {T : Nat → GM} (h : NVO w lo hi a N T) (hk : Keeps w w' lo' hi') (hd : hi ≤ lo' ∨ hi' ≤ lo) : NVO w' lo hi a N T := by
  rcases h with h0 | ⟨b, q, e, h⟩
  · exact .inl h0
  · exact .inr ⟨b, q, e, h.keeps hk hd⟩

theorem NV.drew {w : World} {a : Option Addr} {N : Nat} {T : Nat → GM} (h : NV w a N T) : NV w.drew a N T := h.below (Below.refl _ _).drew

theorem NV.alloc {w : World} {a : Option Addr} {N : Nat} {T : Nat → GM} (h : NV w a N T) (o : Obj) : NV (w.alloc o) a N T := h.below ((Below.refl _ _).alloc (Nat.le_refl _) o)

theorem NVO.drew {w : World} {lo hi N : Nat} {a : Option Addr} {T : Nat → GM} (h : NVO w lo hi a N T) : NVO w.drew lo hi a N T := h.below (Below.refl _ _).drew

theorem NVO.alloc {w : World} {lo hi N : Nat} {a : Option Addr} {T : Nat → GM} (h : NVO w lo hi a N T) (o : Obj) : NVO (w.alloc o) lo hi a N T := h.below ((Below.refl _ _).alloc (Nat.le_refl _) o)
end Go.Proofs.Ytnpklnpicelcmaa

namespace Go.Proofs.Ytnpklnpicelcmaa
open Go.RowKit
set_option linter.unusedVariables false

/-- A slot in memory. -/
structure SL where
  g : Int
  nd : Int

def TwoG (w : World) (b o : Nat) (t : SL) : Prop := w.cell? ⟨b, o, none⟩ = some (.int .i64 t.g) ∧ w.cell? ⟨b, o + 1, none⟩ = some (.int .i64 t.nd)

def TwoF (w : World) (b o : Nat) : Prop := w.frozen? ⟨b, o, none⟩ = false ∧ w.frozen? ⟨b, o + 1, none⟩ = false

theorem TwoG.block {w w' : World} {b o : Nat} {t : SL} (h : TwoG w b o t) (e : w'.heap[b]? = w.heap[b]?) : TwoG w' b o t :=
  ⟨(World.cell?_of_block (w := w) (a := ⟨b, o, none⟩) e).trans h.1, (World.cell?_of_block (w := w) (a := ⟨b, o + 1, none⟩) e).trans h.2⟩

theorem TwoF.block {w w' : World} {b o : Nat} (h : TwoF w b o) (e : w'.heap[b]? = w.heap[b]?) : TwoF w' b o :=
  ⟨(World.frozen?_of_block (w := w) (a := ⟨b, o, none⟩) e).trans h.1, (World.frozen?_of_block (w := w) (a := ⟨b, o + 1, none⟩) e).trans h.2⟩

/-- A row of slots is read. -/
structure PSrc (w : World) (b q N : Nat) (T : Nat → SL) : Prop where
  lt : b < w.heap.size
  two : ∀ i, i < N → TwoG w b (q + i * 2) (T i)

/-- A row of slots of the call's own. -/
structure POwn (w : World) (lo hi b q N : Nat) (T : Nat → SL) : Prop where
  glo : lo ≤ b
  ghi : b < hi
  lt : b < w.heap.size
  two : ∀ i, i < N → TwoG w b (q + i * 2) (T i)
  free : ∀ i, i < N → TwoF w b (q + i * 2)

theorem POwn.src {w : World} {lo hi b q N : Nat} {T : Nat → SL} (h : POwn w lo hi b q N T) : PSrc w b q N T := ⟨h.lt, h.two⟩

theorem PSrc.below {w w' : World} {b q N : Nat} {T : Nat → SL} (h : PSrc w b q N T) (hb : Below w.heap.size w w') : PSrc w' b q N T :=
  ⟨Nat.lt_of_lt_of_le h.lt hb.size, fun i hi => (h.two i hi).block (hb.block b h.lt)⟩

theorem POwn.below {w w' : World} {lo hi b q N : Nat} {T : Nat → SL} (h : POwn w lo hi b q N T) (hb : Below w.heap.size w w') : POwn w' lo hi b q N T :=
  ⟨h.glo, h.ghi, Nat.lt_of_lt_of_le h.lt hb.size, fun i hi => (h.two i hi).block (hb.block b h.lt), fun i hi => (h.free i hi).block (hb.block b h.lt)⟩

theorem PSrc.keeps {w w' : World} {lo hi b q N : Nat} {T : Nat → SL} (h : PSrc w b q N T) (hk : Keeps w w' lo hi) (hd : b < lo ∨ hi ≤ b) : PSrc w' b q N T :=
  ⟨Nat.lt_of_lt_of_le h.lt hk.size, fun i hi => (h.two i hi).block (hk.block b h.lt hd)⟩

theorem POwn.keeps {w w' : World} {lo hi lo' hi' b q N : Nat} {T : Nat → SL} (h : POwn w lo hi b q N T) (hk : Keeps w w' lo' hi') (hd : hi ≤ lo' ∨ hi' ≤ lo) : POwn w' lo hi b q N T := by
  have h1 := h.glo; have h2 := h.ghi
  exact ⟨h.glo, h.ghi, Nat.lt_of_lt_of_le h.lt hk.size, fun i hi => (h.two i hi).block (hk.block b h.lt (by omega)), fun i hi => (h.free i hi).block (hk.block b h.lt (by omega))⟩

theorem POwn.congr {w : World} {lo hi b q N : Nat} {T U : Nat → SL} (h : POwn w lo hi b q N T) (e : ∀ i, i < N → T i = U i) : POwn w lo hi b q N U :=
  ⟨h.glo, h.ghi, h.lt, fun i hi => e i hi ▸ h.two i hi, h.free⟩

theorem PSrc.congr {w : World} {b q N : Nat} {T U : Nat → SL} (h : PSrc w b q N T) (e : ∀ i, i < N → T i = U i) : PSrc w b q N U :=
  ⟨h.lt, fun i hi => e i hi ▸ h.two i hi⟩

theorem POwn.widen {w : World} {lo hi lo' hi' b q N : Nat} {T : Nat → SL} (h : POwn w lo hi b q N T) (h1 : lo' ≤ lo) (h2 : hi ≤ hi') : POwn w lo' hi' b q N T :=
  ⟨Nat.le_trans h1 h.glo, Nat.lt_of_lt_of_le h.ghi h2, h.lt, h.two, h.free⟩

def PV (w : World) (a : Option Addr) (N : Nat) (T : Nat → SL) : Prop := N = 0 ∨ ∃ b q, a = some ⟨b, q, none⟩ ∧ PSrc w b q N T

def PVO (w : World) (lo hi : Nat) (a : Option Addr) (N : Nat) (T : Nat → SL) : Prop := N = 0 ∨ ∃ b q, a = some ⟨b, q, none⟩ ∧ POwn w lo hi b q N T

theorem PVO.src {w : World} {lo hi N : Nat} {a : Option Addr} {T : Nat → SL} (h : PVO w lo hi a N T) : PV w a N T := by
  rcases h with h0 | ⟨b, q, ha, h⟩
  · exact .inl h0
  · exact .inr ⟨b, q, ha, h.src⟩

theorem PV.below {w w' : World} {N : Nat} {a : Option Addr} {T : Nat → SL} (h : PV w a N T) (hb : Below w.heap.size w w') : PV w' a N T := by
  rcases h with h0 | ⟨b, q, ha, h⟩
  · exact .inl h0
  · exact .inr ⟨b, q, ha, h.below hb⟩

theorem PVO.below {w w' : World} {lo hi N : Nat} {a : Option Addr} {T : Nat → SL} (h : PVO w lo hi a N T) (hb : Below w.heap.size w w') : PVO w' lo hi a N T := by
  rcases h with h0 | ⟨b, q, ha, h⟩
  · exact .inl h0
  · exact .inr ⟨b, q, ha, h.below hb⟩

theorem PVO.keeps {w w' : World} {lo hi lo' hi' N : Nat} {a : Option Addr} {T : Nat → SL} (h : PVO w lo hi a N T) (hk : Keeps w w' lo' hi') (hd : hi ≤ lo' ∨ hi' ≤ lo) : PVO w' lo hi a N T := by
  rcases h with h0 | ⟨b, q, ha, h⟩
  · exact .inl h0
  · exact .inr ⟨b, q, ha, h.keeps hk hd⟩

theorem PVO.widen {w : World} {lo hi lo' hi' N : Nat} {a : Option Addr} {T : Nat → SL} (h : PVO w lo hi a N T) (h1 : lo' ≤ lo) (h2 : hi ≤ hi') : PVO w lo' hi' a N T := by
  rcases h with h0 | ⟨b, q, ha, h⟩
  · exact .inl h0
  · exact .inr ⟨b, q, ha, h.widen h1 h2⟩

theorem PV.drew {w : World} {N : Nat} {a : Option Addr} {T : Nat → SL} (h : PV w a N T) : PV w.drew a N T := h.below (Below.refl _ _).drew

theorem PV.alloc {w : World} {N : Nat} {a : Option Addr} {T : Nat → SL} (h : PV w a N T) (o : Obj) : PV (w.alloc o) a N T := h.below ((Below.refl _ _).alloc (Nat.le_refl _) o)

theorem PVO.drew {w : World} {lo hi N : Nat} {a : Option Addr} {T : Nat → SL} (h : PVO w lo hi a N T) : PVO w.drew lo hi a N T := h.below (Below.refl _ _).drew

theorem PVO.alloc {w : World} {lo hi N : Nat} {a : Option Addr} {T : Nat → SL} (h : PVO w lo hi a N T) (o : Obj) : PVO (w.alloc o) lo hi a N T := h.below ((Below.refl _ _).alloc (Nat.le_refl _) o)

theorem PV.congr {w : World} {N : Nat} {a : Option Addr} {T U : Nat → SL} (h : PV w a N T) (e : ∀ i, i < N → T i = U i) : PV w a N U := by
  rcases h with h0 | ⟨b, q, ha, h⟩
  · exact .inl h0
  · exact .inr ⟨b, q, ha, h.congr e⟩

theorem PVO.congr {w : World} {lo hi N : Nat} {a : Option Addr} {T U : Nat → SL} (h : PVO w lo hi a N T) (e : ∀ i, i < N → T i = U i) : PVO w lo hi a N U := by
  rcases h with h0 | ⟨b, q, ha, h⟩
  · exact .inl h0
  · exact .inr ⟨b, q, ha, h.congr e⟩

/-- A slot is written. -/
def twoW (w : World) (b o : Nat) (t : SL) : World := (w.setCell ⟨b, o, none⟩ (.int .i64 t.g)).setCell ⟨b, o + 1, none⟩ (.int .i64 t.nd)

theorem twoW_at {w : World} {b o : Nat} {t0 : SL} (h : TwoG w b o t0) (t : SL) : TwoG (twoW w b o t) b o t := by
  obtain ⟨x0, x1⟩ := h
  simp [twoW, TwoG, x0, x1, World.cell?_setCell_other, World.cell?_setCell_same']

theorem twoW_other {w : World} {b o o' : Nat} {u : SL} (h : TwoG w b o u) (hd : o + 2 ≤ o' ∨ o' + 2 ≤ o) (t : SL) : TwoG (twoW w b o' t) b o u := by
  have g : ∀ x, x < 2 → ∀ y, y < 2 → (⟨b, o' + y, none⟩ : Addr) ≠ ⟨b, o + x, none⟩ := fun x hx y hy e => by simp at e; try omega
  have k : ∀ x, x < 2 → (twoW w b o' t).cell? ⟨b, o + x, none⟩ = w.cell? ⟨b, o + x, none⟩ := fun x hx => by
    unfold twoW
    rw [World.cell?_setCell_other _ _ _ _ (g x hx 1 (by omega)), World.cell?_setCell_other _ _ _ _ (show (⟨b, o', none⟩ : Addr) ≠ ⟨b, o + x, none⟩ from g x hx 0 (by omega))]
  exact ⟨(k 0 (by omega)).trans h.1, (k 1 (by omega)).trans h.2⟩

theorem twoW_frozen (w : World) (b o : Nat) (t : SL) (p : Addr) : (twoW w b o t).frozen? p = w.frozen? p := by simp [twoW, World.frozen?_setCell]

theorem twoW_keeps (w : World) (b o : Nat) (t : SL) : Keeps w (twoW w b o t) b (b + 1) := by
  unfold twoW
  refine Keeps.trans ?_ (keeps_setCell (p := ⟨b, o + 1, none⟩) (Nat.le_refl b) (Nat.lt_succ_self b) _)
  exact keeps_setCell (p := ⟨b, o, none⟩) (Nat.le_refl b) (Nat.lt_succ_self b) _

/-- One slot of a row is laid. -/
theorem pown_put {w : World} {lo hi b q N i : Nat} {U : Nat → SL} {t : SL} (h : POwn w lo hi b q N U) (hi' : i < N) : POwn (twoW w b (q + i * 2) t) lo hi b q N (fun j => if j = i then t else U j) ∧ Keeps w (twoW w b (q + i * 2) t) lo hi := by
  have k5 := twoW_keeps w b (q + i * 2) t
  have h1 := h.glo; have h2 := h.ghi
  refine ⟨⟨h.glo, h.ghi, Nat.lt_of_lt_of_le h.lt k5.size, fun j hj => ?_, fun j hj => ?_⟩, k5.widen h1 (by omega)⟩
  · by_cases e : j = i
    · subst e; rw [if_pos rfl]; exact twoW_at (h.two j hj) t
    · rw [if_neg e]; exact twoW_other (h.two j hj) (by omega) t
  · have hf := h.free j hj
    exact ⟨(twoW_frozen _ _ _ _ _).trans hf.1, (twoW_frozen _ _ _ _ _).trans hf.2⟩
end Go.Proofs.Ytnpklnpicelcmaa

namespace Go.Proofs.Ytnpklnpicelcmaa
open Go.RowKit
set_option linter.unusedVariables false

theorem twosG {w : World} {g1 g2 q1 q2 i : Nat} {t u : SL} (h1 : TwoG w g1 (q1 + i * 2) t) (h2 : TwoG w g2 (q2 + i * 2) u) : w.cell? ⟨g1, q1 + i * 2, none⟩ = some (.int .i64 t.g) ∧ w.cell? ⟨g1, q1 + i * 2 + 1, none⟩ = some (.int .i64 t.nd) ∧ w.cell? ⟨g2, q2 + i * 2, none⟩ = some (.int .i64 u.g) ∧ w.cell? ⟨g2, q2 + i * 2 + 1, none⟩ = some (.int .i64 u.nd) := ⟨h1.1, h1.2, h2.1, h2.2⟩
end Go.Proofs.Ytnpklnpicelcmaa

namespace Go.Proofs.Ytnpklnpicelcmaa
open Go.RowKit
set_option linter.unusedVariables false

/-- A new row of slots that holds the same. -/
def RetSlots (W : World) (N : Nat) (T : Nat → SL) (e : Ending) (w' : World) : Prop :=
  ∃ a c, e = .returned (.slice a N c) ∧ PVO w' W.heap.size w'.heap.size a N T ∧ Below W.heap.size W w'
end Go.Proofs.Ytnpklnpicelcmaa

namespace Go.Proofs.Ytnpklnpicelcmaa
open Go.RowKit Go.Maps
set_option linter.unusedVariables false

/-- What is carried through the draw of alike: the source, the bytes, the two answers' blocks, the arena, its words, the roots. -/
structure DA (W w : World) (ca : Option Addr) (k kc : Nat) (B : Nat → Int) (t P : Nat) (h ac bu : Int) (a : Option Addr) (n c : Nat) (f : Nat → Int) (ra : Option Addr) (l : List Int) : Prop where
  bel : Below W.heap.size W w
  src : Blk w (W.heap.size + 2) [.slice ca k kc, .int .i64 (t : Int)]
  byt : SrcB w (W.heap.size + 2) ca k B
  r0 : Blk w W.heap.size [.int .i64 0, .slice none 0 0, .int .i64 0, .int .i64 0]
  r1 : Blk w (W.heap.size + 1) [.int .i64 0, .slice none 0 0, .int .i64 0, .int .i64 0]
  arn : Blk w P [.int .i64 h, .slice a n c, .int .i64 ac, .int .i64 bu]
  wrd : OwnIn w (W.heap.size + 3) P a n f
  rts : OwnIn w (W.heap.size + 3) P ra l.length (lf l)
  hP : W.heap.size + 3 ≤ P

theorem DA.below {W w w' : World} {ca : Option Addr} {k kc t P : Nat} {B : Nat → Int} {h ac bu : Int} {a : Option Addr} {n c : Nat} {f : Nat → Int} {ra : Option Addr} {l : List Int} (d : DA W w ca k kc B t P h ac bu a n c f ra l) (hb : Below w.heap.size w w') : DA W w' ca k kc B t P h ac bu a n c f ra l :=
  ⟨d.bel.trans (hb.mono d.bel.size), d.src.below hb, d.byt.below hb, d.r0.below hb, d.r1.below hb, d.arn.below hb, d.wrd.below hb, d.rts.below hb, d.hP⟩

/-- .. and the second arena and list. -/
structure DB (W w : World) (ca : Option Addr) (k kc : Nat) (B : Nat → Int) (t P : Nat) (h ac bu : Int) (a : Option Addr) (n c : Nat) (f : Nat → Int) (ra : Option Addr) (l : List Int) (Q : Nat) (h' ac' bu' : Int) (a' : Option Addr) (n' c' : Nat) (f' : Nat → Int) (rb : Option Addr) (rd md : Nat) (l' : List Int) : Prop where
  da : DA W w ca k kc B t P h ac bu a n c f ra l
  bb : Blk w Q [.int .i64 h', .slice a' n' c', .int .i64 ac', .int .i64 bu']
  wb : OwnIn w (P + 1) md a' n' f'
  row : w.ownsRow md 2 1 (.slice rb l'.length rd) l'.length (nums l'.length (lf l'))
  hmd : P + 1 ≤ md
  hQ : P + 1 ≤ Q

theorem DB.below {W w w' : World} {ca : Option Addr} {k kc t P : Nat} {B : Nat → Int} {h ac bu : Int} {a : Option Addr} {n c : Nat} {f : Nat → Int} {ra : Option Addr} {l : List Int} {Q : Nat} {h' ac' bu' : Int} {a' : Option Addr} {n' c' : Nat} {f' : Nat → Int} {rb : Option Addr} {rd md : Nat} {l' : List Int} (d : DB W w ca k kc B t P h ac bu a n c f ra l Q h' ac' bu' a' n' c' f' rb rd md l') (hb : Below w.heap.size w w') : DB W w' ca k kc B t P h ac bu a n c f ra l Q h' ac' bu' a' n' c' f' rb rd md l' :=
  ⟨d.da.below hb, d.bb.below hb, d.wb.below hb, ownsRow_below d.row hb, d.hmd, d.hQ⟩

theorem own_row {w : World} {B e n c : Nat} {a : Option Addr} {l : List Int} (h : w.ownsRow B e 1 (.slice a n c) l.length (nums l.length (lf l))) : n = l.length ∧ Own w B a l.length (lf l) := by
  obtain ⟨a', c', he, ho⟩ := own_of_row' h
  simp only [Value.slice.injEq] at he
  obtain ⟨rfl, rfl, rfl⟩ := he
  exact ⟨rfl, ho⟩

theorem DB.own {W w : World} {ca : Option Addr} {k kc t P : Nat} {B : Nat → Int} {h ac bu : Int} {a : Option Addr} {n c : Nat} {f : Nat → Int} {ra : Option Addr} {l : List Int} {Q : Nat} {h' ac' bu' : Int} {a' : Option Addr} {n' c' : Nat} {f' : Nat → Int} {rb : Option Addr} {rd md : Nat} {l' : List Int} (d : DB W w ca k kc B t P h ac bu a n c f ra l Q h' ac' bu' a' n' c' f' rb rd md l') : Own w (P + 1) rb l'.length (lf l') := (own_row d.row).2.mono d.hmd

theorem DA.keeps {W w w' : World} {ca : Option Addr} {k kc t P : Nat} {B : Nat → Int} {h ac bu : Int} {a : Option Addr} {n c : Nat} {f : Nat → Int} {ra : Option Addr} {l : List Int} {lo hi : Nat} (d : DA W w ca k kc B t P h ac bu a n c f ra l) (hk : Keeps w w' lo hi) (hl : P + 1 ≤ lo) : DA W w' ca k kc B t P h ac bu a n c f ra l := by
  have hP := d.hP
  have hPw := d.arn.1
  exact ⟨d.bel.trans (hk.below (by omega) d.bel.size), d.src.keeps hk (.inl (by omega)), d.byt.keeps hk (by omega), d.r0.keeps hk (.inl (by omega)), d.r1.keeps hk (.inl (by omega)), d.arn.keeps hk (.inl (by omega)), d.wrd.keeps hk (.inl (by omega)), d.rts.keeps hk (.inl (by omega)), d.hP⟩

theorem DB.two {W w : World} {ca : Option Addr} {k kc t P : Nat} {B : Nat → Int} {h ac bu : Int} {a : Option Addr} {n c : Nat} {f : Nat → Int} {ra : Option Addr} {l : List Int} {Q : Nat} {h' ac' bu' : Int} {a' : Option Addr} {n' c' : Nat} {f' : Nat → Int} {rb : Option Addr} {rd md : Nat} {l' : List Int} (d : DB W w ca k kc B t P h ac bu a n c f ra l Q h' ac' bu' a' n' c' f' rb rd md l') : w.cell? ⟨Q, 1, none⟩ = some (.slice a' n' c') ∧ w.cell? ⟨Q, 3, none⟩ = some (.int .i64 bu') := ⟨d.bb.at 1 rfl, d.bb.at 3 rfl⟩
end Go.Proofs.Ytnpklnpicelcmaa

namespace Go.Proofs.Ytnpklnpicelcmaa
open Go.RowKit
set_option linter.unusedVariables false

def MRise (K : Nat) (T : Nat → GM) : Prop := ∀ i, i + 1 < K → (T i).at_ < (T (i + 1)).at_

/-- There is a node of this number. -/
def Has (K : Nat) (T : Nat → GM) (v : Int) : Prop := ∃ j, j < K ∧ (T j).at_ = v

/-- A field that is a pointer. -/
def IsP (t : GM) (k : Nat) : Prop := t.m / P2 (k : Int) % 2 = 1

def MLead (M : Nat) (S : Nat → SL) (K : Nat) (T : Nat → GM) : Prop := (∀ i, i < M → (S i).nd = 0 ∨ Has K T (S i).nd) ∧ ∀ i, i < K → ∀ k, k < (T i).n → IsP (T i) k → (T i).f k = 0 ∨ Has K T ((T i).f k)
end Go.Proofs.Ytnpklnpicelcmaa

namespace Go.Proofs.Ytnpklnpicelcmaa
open Go.RowKit
set_option linter.unusedVariables false

/-- What the closure reads. -/
structure CapN (w : World) (rb : Nat) (a : Option Addr) (N k : Nat) (T : Nat → GM) : Prop where
  blk : Blk w rb [.slice a N k]
  nv : NV w a N T

theorem CapN.below {w w' : World} {rb N k : Nat} {a : Option Addr} {T : Nat → GM} (h : CapN w rb a N k T) (hb : Below w.heap.size w w') : CapN w' rb a N k T := ⟨h.blk.below hb, h.nv.below hb⟩
end Go.Proofs.Ytnpklnpicelcmaa

namespace Go.Proofs.Ytnpklnpicelcmaa
open Go.RowKit
set_option linter.unusedVariables false

/-- What the closure reads. -/
structure CapM (w : World) (g : Nat) (te qu ha : Int) (sa : Option Addr) (M kc : Nat) (na : Option Addr) (K nc : Nat) (T : Nat → GM) : Prop where
  blk : Blk w g [.int .i64 te, .int .i64 qu, .int .i64 ha, .slice sa M kc, .slice na K nc]
  nv : NV w na K T

theorem CapM.below {w w' : World} {g : Nat} {te qu ha : Int} {sa : Option Addr} {M kc : Nat} {na : Option Addr} {K nc : Nat} {T : Nat → GM} (h : CapM w g te qu ha sa M kc na K nc T) (hb : Below w.heap.size w w') : CapM w' g te qu ha sa M kc na K nc T := ⟨h.blk.below hb, h.nv.below hb⟩
end Go.Proofs.Ytnpklnpicelcmaa

namespace Go.Proofs.Ytnpklnpicelcmaa
open Go.ChangeShapes Go.WideShapes Go.ChangeAt Go.RowKit Go.Joins Go.Deep
set_option linter.unusedVariables false

instance : Inhabited SL := ⟨⟨0, 0⟩⟩
end Go.Proofs.Ytnpklnpicelcmaa

namespace Go.Proofs.Ytnpklnpicelcmaa
open Go.RowKit
set_option linter.unusedVariables false

/-- A row of slots that nothing was given of. -/
def zS : Nat → SL := fun _ => ⟨0, 0⟩
end Go.Proofs.Ytnpklnpicelcmaa

namespace Go.Proofs.Ytnpklnpicelcmaa
open Go.RowKit
set_option linter.unusedVariables false

/-- The first place of a node of this number, or how many there are. -/
def ixN (T : Nat → GM) (x : Int) : Nat → Nat
  | 0 => 0
  | K + 1 => if ixN T x K < K then ixN T x K else if (T K).at_ = x then K else K + 1

/-- What of a list is not 0. -/
def nz (l : List Int) : List Int := l.filter (fun x => decide (¬ x = 0))

/-- The node of a number. -/
def nodeM (K : Nat) (T : Nat → GM) (x : Int) : GM := T (ixN T x K)

section

variable {M : Nat} {S : Nat → SL} {K : Nat} {T : Nat → GM} {i : Nat} {O : List Int}

end
end Go.Proofs.Ytnpklnpicelcmaa

namespace Go.Proofs.Ytnpklnpicelcmaa
open Go.RowKit
set_option linter.unusedVariables false

/-- A node, and what stands for it. -/
def NIso (φ : Int → Int) (t t' : GM) : Prop := t'.s = t.s ∧ t'.m = t.m ∧ t'.h = t.h ∧ t'.n = t.n ∧ ∀ k, k < t.n → t'.f k = if t.m / P2 (k : Int) % 2 = 1 then φ (t.f k) else t.f k

/-- Two machines that are alike over some nodes, from which nothing else is reached. -/
structure MIso (U : List Int) (φ : Int → Int) (M : Nat) (S : Nat → SL) (K : Nat) (T : Nat → GM) (S' : Nat → SL) (K' : Nat) (T' : Nat → GM) : Prop where
  nd : U.Nodup
  z : φ 0 = 0
  u0 : (0 : Int) ∉ U
  nz : ∀ x ∈ U, ¬ φ x = 0
  inj : ∀ x ∈ U, ∀ y ∈ U, φ x = φ y → x = y
  has : ∀ x ∈ U, Has K T x
  has' : ∀ x ∈ U, Has K' T' (φ x)
  slots : ∀ i, i < M → (S i).nd = 0 ∨ (S i).nd ∈ U
  slot : ∀ i, i < M → (S' i).g = (S i).g ∧ (S' i).nd = φ (S i).nd
  node : ∀ x ∈ U, NIso φ (nodeM K T x) (nodeM K' T' (φ x))
  clo : ∀ x ∈ U, ∀ k, k < (nodeM K T x).n → IsP (nodeM K T x) k → (nodeM K T x).f k = 0 ∨ (nodeM K T x).f k ∈ U

section

variable {U : List Int} {φ : Int → Int} {M : Nat} {S S' : Nat → SL} {K K' : Nat} {T T' : Nat → GM}

end
end Go.Proofs.Ytnpklnpicelcmaa

namespace Go.Proofs.Ytnpklnpicelcmaa
open Go.RowKit
set_option linter.unusedVariables false

section

variable {U : List Int} {φ : Int → Int} {M : Nat} {S S' : Nat → SL} {K K' : Nat} {T T' : Nat → GM}

end

/-- A machine that can be tidied. -/
structure MWk (M : Nat) (S : Nat → SL) (K : Nat) (T : Nat → GM) : Prop where
  node : ∀ i, i < K → 1 ≤ (T i).at_ ∧ HOk (T i).s (T i).m 0 (T i).h ∧ ((T i).n : Int) = (T i).s
  rise : MRise K T
  lead : MLead M S K T

section

variable {M : Nat} {S : Nat → SL} {K : Nat} {T : Nat → GM}

end
end Go.Proofs.Ytnpklnpicelcmaa

namespace Go.Proofs.Ytnpklnpicelcmaa
open Go.RowKit
set_option linter.unusedVariables false

instance (t : GM) (k : Nat) : Decidable (IsP t k) := inferInstanceAs (Decidable (_ = _))

/-- What an op turns of a machine. -/
structure MS where
  ha : Int
  S : Nat → SL
  K : Nat
  T : Nat → GM

/-- The slot of a handle. -/
def HSl (te : Int) (M : Nat) (S : Nat → SL) (x : Int) : Prop := (0 ≤ x ∧ 1 ≤ x / 32 ∧ x / 32 ≤ 99) ∧ x % 4 = te ∧ x / 4 % 8 < (M : Int) ∧ ¬ (S (x / 4 % 8).toNat).nd = 0 ∧ (S (x / 4 % 8).toNat).g = x / 32

instance (te : Int) (M : Nat) (S : Nat → SL) (x : Int) : Decidable (HSl te M S x) := inferInstanceAs (Decidable (_ ∧ _))

def slN (x : Int) : Nat := (x / 4 % 8).toNat

/-- The first slot that can be given, or how many there are. -/
def CanG (s : SL) : Prop := s.nd = 0 ∧ s.g < 99

instance (s : SL) : Decidable (CanG s) := inferInstanceAs (Decidable (_ ∧ _))

def freeS (S : Nat → SL) : Nat → Nat
  | 0 => 0
  | M + 1 => if freeS S M < M then freeS S M else if CanG (S M) then M else M + 1

theorem freeS_congr {S S' : Nat → SL} : ∀ {M : Nat}, (∀ i, i < M → (CanG (S' i) ↔ CanG (S i))) → freeS S' M = freeS S M
  | 0, _ => rfl
  | M + 1, h => by
    rw [freeS, freeS, freeS_congr fun i hi => h i (by omega)]
    by_cases h1 : freeS S M < M
    · rw [if_pos h1, if_pos h1]
    · rw [if_neg h1, if_neg h1]
      by_cases h2 : CanG (S M)
      · rw [if_pos h2, if_pos ((h M (by omega)).2 h2)]
      · rw [if_neg h2, if_neg fun h3 => h2 ((h M (by omega)).1 h3)]

section

variable {U : List Int} {φ : Int → Int} {M : Nat} {m m' : MS} {te qu : Int}

theorem MIso.zero_iff {S S' : Nat → SL} {K K' : Nat} {T T' : Nat → GM} (h : MIso U φ M S K T S' K' T') {i : Nat} (hi : i < M) : (S' i).nd = 0 ↔ (S i).nd = 0 := by
  rw [(h.slot i hi).2]
  rcases h.slots i hi with h1 | h1
  · rw [h1, h.z]
  · have h2 := h.nz _ h1
    have h3 : ¬ (S i).nd = 0 := fun e => h.u0 (e ▸ h1)
    exact ⟨fun e => absurd e h2, fun e => absurd e h3⟩

theorem HSl.lt {S : Nat → SL} {x : Int} (h : HSl te M S x) : slN x < M := by have := h.2.2.1; unfold slN; omega

theorem MIso.free {S S' : Nat → SL} {K K' : Nat} {T T' : Nat → GM} (h : MIso U φ M S K T S' K' T') : freeS S' M = freeS S M :=
  freeS_congr fun i hi => by unfold CanG; rw [h.zero_iff hi, (h.slot i hi).1]

end
end Go.Proofs.Ytnpklnpicelcmaa

namespace Go.Proofs.Ytnpklnpicelcmaa
open Go.RowKit
set_option linter.unusedVariables false

/-- The cells of a machine, from a place of a block on. -/
structure MAt (w : World) (g o : Nat) (te qu ha : Int) (sa : Option Addr) (M kc : Nat) (na : Option Addr) (K nc : Nat) : Prop where
  lt : g < w.heap.size
  c0 : w.cell? ⟨g, o, none⟩ = some (.int .i64 te)
  c1 : w.cell? ⟨g, o + 1, none⟩ = some (.int .i64 qu)
  c2 : w.cell? ⟨g, o + 2, none⟩ = some (.int .i64 ha)
  c3 : w.cell? ⟨g, o + 3, none⟩ = some (.slice sa M kc)
  c4 : w.cell? ⟨g, o + 4, none⟩ = some (.slice na K nc)

section

variable {w w' : World} {g o : Nat} {te qu ha : Int} {sa : Option Addr} {M kc : Nat} {na : Option Addr} {K nc : Nat}

theorem MAt.below (h : MAt w g o te qu ha sa M kc na K nc) (hb : Below w.heap.size w w') : MAt w' g o te qu ha sa M kc na K nc :=
  ⟨Nat.lt_of_lt_of_le h.lt hb.size, (hb.cell (p := ⟨g, o, none⟩) h.lt).trans h.c0, (hb.cell (p := ⟨g, o + 1, none⟩) h.lt).trans h.c1, (hb.cell (p := ⟨g, o + 2, none⟩) h.lt).trans h.c2, (hb.cell (p := ⟨g, o + 3, none⟩) h.lt).trans h.c3, (hb.cell (p := ⟨g, o + 4, none⟩) h.lt).trans h.c4⟩

end

/-- A node whose numbers are right, of any number. -/
def Nd (t : GM) : Prop := HOk t.s t.m 0 t.h ∧ (t.n : Int) = t.s

theorem MWk.nd {M : Nat} {S : Nat → SL} {K : Nat} {T : Nat → GM} (h : MWk M S K T) : ∀ i, i < K → Nd (T i) := fun i hi => (h.node i hi).2
end Go.Proofs.Ytnpklnpicelcmaa

namespace Go.Proofs.Ytnpklnpicelcmaa
open Go.RowKit Go.Maps
set_option linter.unusedVariables false

/-- A pointer to a node of a row. -/
def ptrV (na : Option Addr) (i : Nat) : Value := match na with | some ⟨b, q, s⟩ => .pointer (some ⟨b, q + i * 5, s⟩) | none => .pointer none

def ptrS (na : Option Addr) (K : Nat) (T : Nat → GM) (O : List Int) : List Value := O.map fun x => ptrV na (ixN T x K)

def nv1 : Nat → Int := fun i => (i : Int) + 1

/-- What is reached so far, as the program has it: in the block rb, with the map mb and the row v. -/
structure RN (w : World) (base rb mb : Nat) (v : Value) (na : Option Addr) (K : Nat) (T : Nat → GM) (O : List Int) : Prop where
  blk : Blk w rb [v, .map (some mb)]
  hrb : base ≤ rb
  hmb : base ≤ mb
  hne : mb ≠ rb
  vr : v.ownBlock ≠ some rb
  vm : v.ownBlock ≠ some mb
  row : w.ownsRow base 85 1 v O.length (ptrS na K T O)
  map : MapT w mb O.length O nv1

section

variable {w w' : World} {base rb mb : Nat} {v : Value} {na : Option Addr} {K : Nat} {T : Nat → GM} {O : List Int}

theorem RN.below (h : RN w base rb mb v na K T O) (hb : Below w.heap.size w w') : RN w' base rb mb v na K T O :=
  ⟨h.blk.below hb, h.hrb, h.hmb, h.hne, h.vr, h.vm, ownsRow_below h.row hb, h.map.below hb⟩

end
end Go.Proofs.Ytnpklnpicelcmaa

namespace Go.Proofs.Ytnpklnpicelcmaa
open Go.RowKit Go.Maps
set_option linter.unusedVariables false

/-- A row of pointers to the nodes of a list. -/
def PR (w : World) (na : Option Addr) (K : Nat) (T : Nat → GM) (ra : Option Addr) (R : List Int) : Prop :=
  R.length = 0 ∨ ∃ rb ro, ra = some ⟨rb, ro, none⟩ ∧ rb < w.heap.size ∧ ∀ i, i < R.length → w.cell? ⟨rb, ro + i, none⟩ = some (ptrV na (ixN T (lf R i) K))

theorem PR.below {w w' : World} {na : Option Addr} {K : Nat} {T : Nat → GM} {ra : Option Addr} {R : List Int} (h : PR w na K T ra R) (hb : Below w.heap.size w w') : PR w' na K T ra R := by
  rcases h with h | ⟨rb, ro, e, hl, hc⟩
  · exact .inl h
  · exact .inr ⟨rb, ro, e, Nat.lt_of_lt_of_le hl hb.size, fun i hi => (hb.cell (p := ⟨rb, ro + i, none⟩) hl).trans (hc i hi)⟩

/-- A row that adding leaves as it is. -/
def Apart (w : World) (a : Option Addr) (n rb mb : Nat) (v : Value) : Prop := n = 0 ∨ ∃ b o, a = some ⟨b, o, none⟩ ∧ b ≠ rb ∧ b ≠ mb ∧ v.ownBlock ≠ some b ∧ b < w.heap.size

theorem Apart.size {w w' : World} {a : Option Addr} {n rb mb : Nat} {v : Value} (h : Apart w a n rb mb v) (hz : w.heap.size ≤ w'.heap.size) : Apart w' a n rb mb v := by
  rcases h with h | ⟨b, o, h1, h2, h3, h4, h5⟩
  · exact .inl h
  · exact .inr ⟨b, o, h1, h2, h3, h4, by omega⟩
end Go.Proofs.Ytnpklnpicelcmaa

namespace Go.Proofs.Ytnpklnpicelcmaa
open Go.RowKit Go.Maps
set_option linter.unusedVariables false

def haV (a b d : Int) : Value := .agg #[.int .i64 a, .int .i64 b, .int .i64 d]

/-- How an element is told: whether it points at anything. -/
def ptrR (v : Value) : Option (DataW Unit × List MemPlace) := match v with | .pointer p => some (.lit (.bool p.isSome), []) | _ => none

/-- A slot that leads to a node by a handle of its own. -/
def Leads (te : Int) (S : Nat → SL) (i : Nat) (a b d : Int) : Prop := a = te ∧ ∃ j : Nat, j < i ∧ b = (j : Int) ∧ d = (S j).g ∧ ¬ (S j).nd = 0

/-- A map of handles: of the first slots. -/
def MapH (w : World) (b n : Nat) (te : Int) (S : Nat → SL) (i : Nat) : Prop :=
  ∃ D : DataW Unit, w.ownsMap Try.prog 106 ptrR b n D ∧ ∀ a c d kl, keyOf Try.prog 106 (haV a c d) = some kl → ∃ r : Bool, D.atKey kl (.lit (.bool false)) = .lit (.bool r) ∧ (r = true ↔ Leads te S i a c d)

theorem MapH.lt {w : World} {b n : Nat} {te : Int} {S : Nat → SL} {i : Nat} (h : MapH w b n te S i) : b < w.heap.size := by obtain ⟨D, h1, _⟩ := h; exact h1.lt

theorem MapH.block {w w' : World} {b n : Nat} {te : Int} {S : Nat → SL} {i : Nat} (h : MapH w b n te S i) (hb : w'.heap[b]? = w.heap[b]?) : MapH w' b n te S i := by
  obtain ⟨D, ⟨es, clock, h1, h2⟩, h3⟩ := h
  exact ⟨D, ⟨es, clock, hb.trans h1, h2⟩, h3⟩

theorem MapH.below {w w' : World} {b n : Nat} {te : Int} {S : Nat → SL} {i : Nat} (h : MapH w b n te S i) (hb : Below w.heap.size w w') : MapH w' b n te S i := h.block (hb.block b h.lt)
end Go.Proofs.Ytnpklnpicelcmaa

namespace Go.Proofs.Ytnpklnpicelcmaa
open Go.RowKit Go.Maps
set_option linter.unusedVariables false

theorem MapH.mono {w : World} {b n n' : Nat} {te : Int} {S : Nat → SL} {i : Nat} (h : MapH w b n te S i) (hn : n ≤ n') : MapH w b n' te S i := by
  obtain ⟨D, h1, h2⟩ := h
  exact ⟨D, h1.mono hn, h2⟩
end Go.Proofs.Ytnpklnpicelcmaa

namespace Go.Proofs.Ytnpklnpicelcmaa
open Go.RowKit
set_option linter.unusedVariables false

theorem NVO.widen {w : World} {lo hi lo' hi' N : Nat} {a : Option Addr} {T : Nat → GM} (h : NVO w lo hi a N T) (h1 : lo' ≤ lo) (h2 : hi ≤ hi') : NVO w lo' hi' a N T := by
  rcases h with h0 | ⟨b, q, e, h⟩
  · exact .inl h0
  · exact .inr ⟨b, q, e, ⟨Nat.le_trans h1 h.glo, Nat.lt_of_lt_of_le h.ghi h2, h.lt, h.six, h.free, fun i hi => (h.flds i hi).widen h1 h2, h.off, h.apart⟩⟩
end Go.Proofs.Ytnpklnpicelcmaa

namespace Go.Proofs.Ytnpklnpicelcmaa
open Go.ChangeShapes Go.WideShapes Go.ChangeAt Go.RowKit Go.Joins Go.Deep
set_option linter.unusedVariables false

set_option maxRecDepth 100000 in
theorem open_ints1 {H : Type} {enc : TypeId × Value → H} {W : World} {fuel : Nat} {cs : List Value} {y : DataW H × List MemPlace} (hf : DataW.trod enc Try.prog W 0 (fun _ => true) true fuel 22 cs = some y) :
    ∃ (a : Option Addr) (n c : Nat) (f : Nat → Int), cs = [.slice a n c] ∧ Src W a n f ∧ n ≤ maxLen := by
  rcases open_ints Try.underlying22 Try.underlying2 (by kernel_rfl) hf with ⟨hcs, _⟩ | ⟨x, l, c, zs, hcs, _, hl, hm, hz, _, hcell, _⟩
  · exact ⟨none, 0, 0, fun _ => 0, hcs, .inl rfl, Nat.zero_le _⟩
  · have hlz : l ≤ zs.length := by
      rw [hz]; split
      · exact hl
      · exact Nat.le_refl _
    exact ⟨some x, l, c, fun i => zs.getD i 0, hcs, src_ints hlz hcell, Nat.le_trans hl hm⟩
end Go.Proofs.Ytnpklnpicelcmaa

namespace Go.Proofs.Ytnpklnpicelcmaa
open Go.RowKit
set_option linter.unusedVariables false

set_option maxRecDepth 100000 in
set_option maxHeartbeats 400000 in
theorem eqHeapSlot_same (t : SL) (w : World) :
    Calls Try.prog 121 #[.agg #[.int .i64 t.g, .int .i64 t.nd], .agg #[.int .i64 t.g, .int .i64 t.nd]] w (RetBool w true) := by
  go_enter Try.func121, Try.ntmps121
  go_wp2
  go_ret
  exact ⟨rfl, ((Below.refl _ _).alloc (Nat.le_refl _) _).alloc (by simp) _⟩

set_option maxRecDepth 100000 in
set_option maxHeartbeats 1600000 in
theorem eqHeapSlotS_same (a1 a2 : Option Addr) (N k1 k2 : Nat) (T U : Nat → SL) (w : World) (h1 : PV w a1 N T) (h2 : PV w a2 N U) (he : ∀ i, i < N → T i = U i) (hN : N ≤ 1048576) :
    Calls Try.prog 108 #[.slice a1 N k1, .slice a2 N k2] w (RetBool w true) := by
  have H1 := Lib.hid h1; have H2 := Lib.hid (h2.congr fun i hi => (he i hi).symm)
  clear h1 h2 he
  go_enter Try.func108, Try.ntmps108
  go_wp2
  go_loopw [5] (fun p wr => ∃ i : Nat, i ≤ N ∧ p = .int .i64 (i : Int) ∧ Hid (Below w.heap.size w wr)) (fun p _ => N - (intOf p).toNat)
  case atStart => exact ⟨0, Nat.zero_le _, rfl, Below.refl _ _⟩
  case round =>
    obtain ⟨i, hi, rfl, HBr⟩ := hrel
    by_cases hlt : i < N
    · have hlt' : (i : Int) < (N : Int) := by omega
      have hi0 : (0 : Int) ≤ (i : Int) := by omega
      rcases H1.out.below HBr.out with h0 | ⟨g1, q1, rfl, r1⟩
      · omega
      rcases H2.out.below HBr.out with h0 | ⟨g2, q2, rfl, r2⟩
      · omega
      have X1 := Lib.hid (r1.two i hlt); have Y1 := Lib.hid (r2.two i hlt)
      have l1' := r1.lt; have l2' := r2.lt
      have hzr := HBr.out.size
      have Xd := Lib.hid ((r1.below (Below.refl _ _).drew).two i hlt); have Yd := Lib.hid ((r2.below (Below.refl _ _).drew).two i hlt)
      clear r1 r2
      generalize T i = t at *
      go_wp2_with fail
      go_region_held3 (fun w' => w'.cell? ⟨g1, q1 + i * 2, none⟩ = some (.int .i64 t.g) ∧ w'.cell? ⟨g1, q1 + i * 2 + 1, none⟩ = some (.int .i64 t.nd) ∧ w'.cell? ⟨g2, q2 + i * 2, none⟩ = some (.int .i64 t.g) ∧ w'.cell? ⟨g2, q2 + i * 2 + 1, none⟩ = some (.int .i64 t.nd))
        (first | (with_reducible exact twosG X1.out Y1.out) | (with_reducible exact twosG Xd.out Yd.out) | (with_reducible exact twosG X2.out Y2.out))
        (first | (go_at_call 121; refine (eqHeapSlot_same t _).mono ?_; rintro e w2 ⟨rfl, hb⟩; have HB2 := Lib.hid (thru0 (Below.refl wr.heap.size wr).drew hb); have X2 := Lib.hid (X1.out.block (HB2.out.block _ l1')); have Y2 := Lib.hid (Y1.out.block (HB2.out.block _ l2')); clear hb))
      have HB3 := Lib.hid (HBr.out.trans (HB2.out.mono hzr))
      go_wp2
      go_roundw
      case rel => exact ⟨i + 1, by omega, by go_num, HB3⟩
      case measure => simp [intOf]; omega
    · go_wp2
      go_ret
      exact ⟨rfl, HBr.out⟩

set_option maxRecDepth 100000 in
set_option maxHeartbeats 400000 in
theorem szHeapSlotS_ok (a : Option Addr) (N c : Nat) (l : Int) (w : World) (hl0 : 0 ≤ l) (hl : l ≤ 1048576) (hn : N ≤ maxLen) (hh : N ≤ l) :
    Calls Try.prog 101 #[.slice a N c, .int .i64 l] w fun e w' => e = .returned (.int .i64 (l - N)) ∧ w = w' := by
  unfold maxLen at hn
  go_enter Try.func101, Try.ntmps101
  go_wp2
  go_ret
  exact ⟨by go_num, rfl⟩

set_option maxRecDepth 100000 in
set_option maxHeartbeats 400000 in
theorem szHeapSlotS_no (a : Option Addr) (N c : Nat) (l : Int) (w : World) (hl0 : 0 ≤ l) (hl : l ≤ 1048576) (hn : N ≤ maxLen) (hh : l < N) :
    Calls Try.prog 101 #[.slice a N c, .int .i64 l] w fun e w' => e = .returned (.int .i64 (-1)) ∧ w = w' := by
  unfold maxLen at hn
  go_enter Try.func101, Try.ntmps101
  go_wp2
  go_ret
  exact ⟨rfl, rfl⟩
end Go.Proofs.Ytnpklnpicelcmaa

namespace Go.Proofs.Ytnpklnpicelcmaa
open Go.RowKit
set_option linter.unusedVariables false

set_option maxRecDepth 100000 in
set_option maxHeartbeats 800000 in
theorem toHeapSlot_any (t : SL) (w : World) :
    Calls Try.prog 119 #[.agg #[.int .i64 t.g, .int .i64 t.nd]] w fun e w' => e = .returned (.agg #[.int .i64 t.g, .int .i64 t.nd]) ∧ Below w.heap.size w w' := by
  go_enter Try.func119, Try.ntmps119
  go_wp2
  refine bodyPost_ret (v := .agg #[.int .i64 t.g, .int .i64 t.nd]) (by simp [results, Try.results119, go_sem]) rfl ⟨rfl, ?_⟩
  repeat (first | (with_reducible refine Below.setCell ?_ (by (try simp); (try omega)) _) | (with_reducible refine Below.alloc ?_ (by (try simp); (try omega)) _))
  exact Below.refl _ _

theorem Try.infoHS : (Try.prog.info? 199).map (fun i => (i.zero, i.size, i.bytes)) = some (some (.agg #[.int .i64 0, .int .i64 0]), 2, 16) := by kernel_rfl

theorem Try.underlyingRHS : Try.prog.underlying 130 = some (.slice 199) := by kernel_rfl

/-- A row of zero slots. -/
theorem pown_madeHS {w : World} {lo b N cap : Nat} (h : w.ownsRow lo 199 2 (.slice (some ⟨b, 0, none⟩) N cap) N (madeCells #[.int .i64 0, .int .i64 0] (N * 2)).toList) (hl : lo ≤ b) (hp : 0 < N) : POwn w lo w.heap.size b 0 N (fun _ => ⟨0, 0⟩) := by
  have hlt : b < w.heap.size := by
    rcases h.2 with ⟨h', _⟩ | ⟨g', cap', cur, h', _, hg, _⟩
    · cases h'
    · simp only [Value.slice.injEq, Option.some.injEq, Addr.mk.injEq, and_true, true_and] at h'
      obtain ⟨rfl, rfl⟩ := h'
      exact (Array.getElem?_eq_some_iff.mp hg).1
  have hc : ∀ i, i < N → ∀ j, j < 2 → w.cell? ⟨b, i * 2 + j, none⟩ = some (#[.int .i64 0, .int .i64 0] : Array Value)[(i * 2 + j) % 2]! := fun i hi j hj => by
    have := h.cellAt (i * 2 + j) (by omega)
    rw [made_get _ _ _ (by omega)] at this
    simpa using this
  refine ⟨hl, hlt, hlt, fun i hi => ?_, fun i hi => ?_⟩
  · have m : ∀ j, j < 2 → (i * 2 + j) % 2 = j := fun j hj => by omega
    rw [Nat.zero_add]
    have k0 := hc i hi 0 (by omega); have k1 := hc i hi 1 (by omega)
    rw [m 0 (by omega)] at k0; rw [m 1 (by omega)] at k1
    exact ⟨k0, k1⟩
  · rw [Nat.zero_add]
    exact ⟨h.frozenAt _, h.frozenAt _⟩

set_option maxRecDepth 100000 in
set_option maxHeartbeats 1600000 in
theorem toHeapSlotS_any (a : Option Addr) (N c : Nat) (T : Nat → SL) (w : World) (h : PV w a N T) (hN : N ≤ 1048576) :
    Calls Try.prog 104 #[.slice a N c] w (RetSlots w N T) := by
  obtain ⟨i0, hi, hz0, hz1, hz2⟩ := info_parts Try.infoHS
  have H := Lib.hid h
  clear h
  go_enter Try.func104, Try.ntmps104
  go_wp2_with (at_make; refine wpList_make_full _ rfl _ _ 130 rfl w.heap.size 199 i0 (.agg #[.int .i64 0, .int .i64 0]) 2 Try.underlyingRHS hi hz0 hz1 .i64 .i64 N N N rfl rfl rfl rfl (by rw [hz2]; omega) (by unfold maxLen; omega) (Nat.le_refl _) ?_; intro w1 hown1 hgrow1)
  have hb1 : Below w.heap.size w w1 := (Below.refl _ _).grown hgrow1 (Nat.le_refl _) (by intro k hk; simp at hk)
  have HB1 := Lib.hid hb1
  rcases Nat.eq_zero_or_pos N with rfl | hp
  · clear hown1 hgrow1 hb1
    go_loop [4] (fun p => p = .int .i64 0) (fun _ => 0)
    case atStart => rfl
    case round =>
      obtain rfl := hrel
      go_wp2
      go_ret
      exact ⟨_, _, rfl, .inl rfl, HB1.out⟩
  have hgm := pown_madeHS (b := w.heap.size) (lo := w.heap.size) hown1 (Nat.le_refl _) hp
  have HG := Lib.hid hgm
  have hb2 := hb1.size
  clear hown1 hgrow1 hb1 hgm
  go_loopw [4] (fun p wr => ∃ (i : Nat), i ≤ N ∧ p = .int .i64 (i : Int) ∧ Hid (Below w.heap.size w wr) ∧ Hid (POwn wr w.heap.size wr.heap.size w.heap.size 0 N (fun j => if j < i then T j else ⟨0, 0⟩))) (fun p _ => N - (intOf p).toNat)
  case atStart => exact ⟨0, Nat.zero_le _, rfl, HB1, by simpa using HG⟩
  case round =>
    obtain ⟨i, hi9, rfl, HBr, HR⟩ := hrel
    by_cases hlt : i < N
    · have hlt' : (i : Int) < (N : Int) := by omega
      have hi0 : (0 : Int) ≤ (i : Int) := by omega
      rcases H.out.below HBr.out with h0 | ⟨b, q, rfl, hg⟩
      · omega
      · have lt := hg.lt
        obtain ⟨x0, x1⟩ := hg.two i hlt
        have hzr := HBr.out.size
        have lR := HR.out.lt
        clear hg
        go_wp2_with fail
        refine (toHeapSlot_any (T i) _).mono ?_
        rintro e w2 ⟨rfl, hb⟩
        have hr2 := HR.out.below hb
        have h6 := hr2.two i hlt; have h7 := hr2.free i hlt
        have hs2 := hb.size
        have hq := pown_put (i := i) (t := T i) (hr2.widen (Nat.le_refl _) hs2) hlt
        rw [Nat.zero_add] at h6 h7 hq
        obtain ⟨y0, y1⟩ := h6
        obtain ⟨f0, f1⟩ := h7
        have l2 : w.heap.size < w2.heap.size := by omega
        have HQ := Lib.hid hq; have HB2 := Lib.hid (thru0 HBr.out hb)
        clear hb hq hr2 x0 x1
        go_wp2
        go_roundw
        case rel =>
          refine ⟨i + 1, by omega, by go_num, HB2.out.trans (HQ.out.2.below (Nat.le_refl _) (by omega)), (HQ.out.1.widen (Nat.le_refl _) HQ.out.2.size).congr fun j hj => ?_⟩
          by_cases e : j = i
          · subst e; simp
          · have h2 : (j < i + 1) = (j < i) := by simp only [eq_iff_iff]; omega
            simp only [if_neg e, h2]
        case measure => simp [intOf]; omega
    · obtain rfl : i = N := by omega
      go_wp2
      go_ret
      exact ⟨_, _, rfl, .inr ⟨w.heap.size, 0, rfl, HR.out.congr fun j hj => by simp [hj]⟩, HBr.out⟩
end Go.Proofs.Ytnpklnpicelcmaa

namespace Go.Proofs.Ytnpklnpicelcmaa
open Go.ChangeShapes Go.WideShapes Go.ChangeAt Go.RowKit Go.Joins Go.Deep
set_option linter.unusedVariables false

theorem Try.cellsM201 : Try.prog.cellsOf 201 = 2 := by kernel_rfl
end Go.Proofs.Ytnpklnpicelcmaa

namespace Go.Proofs.Ytnpklnpicelcmaa
open Go.RowKit Go.Maps
set_option linter.unusedVariables false

/-- What is carried: the arena and its roots, and what was collected. -/
structure FCD (W w : World) (P G : Nat) (h ac bu : Int) (a : Option Addr) (n c : Nat) (f : Nat → Int) (ra : Option Addr) (l : List Int) (rco rh : Int) (b : Option Addr) (m d : Nat) (g : Nat → Int) (rac rbu : Int) (rb : Option Addr) (l2 : List Int) (rd : Nat) (mv : Int) : Prop where
  bel : Below W.heap.size W w
  ab : Blk w P [.int .i64 h, .slice a n c, .int .i64 ac, .int .i64 bu]
  gb : Blk w G [.int .i64 rco, .int .i64 rh, .slice b m d, .int .i64 rac, .int .i64 rbu, .slice rb l2.length rd, .int .i64 mv]
  wa : Src w a n f
  ra : Src w ra l.length (lf l)
  wb : Src w b m g
  rb : Src w rb l2.length (lf l2)

section

variable {W w w' : World} {P G : Nat} {h ac bu : Int} {a : Option Addr} {n c : Nat} {f : Nat → Int} {ra : Option Addr} {l : List Int} {rco rh : Int} {b : Option Addr} {m d : Nat} {g : Nat → Int} {rac rbu : Int} {rb : Option Addr} {l2 : List Int} {rd : Nat} {mv : Int}

theorem FCD.below (x : FCD W w P G h ac bu a n c f ra l rco rh b m d g rac rbu rb l2 rd mv) (hb : Below w.heap.size w w') : FCD W w' P G h ac bu a n c f ra l rco rh b m d g rac rbu rb l2 rd mv :=
  ⟨x.bel.trans (hb.mono x.bel.size), x.ab.below hb, x.gb.below hb, x.wa.below hb, x.ra.below hb, x.wb.below hb, x.rb.below hb⟩

end
end Go.Proofs.Ytnpklnpicelcmaa

namespace Go.Proofs.Ytnpklnpicelcmaa
open Go.RowKit
set_option linter.unusedVariables false

/-- What is carried: a handle, its word, what is read, a new machine. -/
structure HSt (W w : World) (Bh Bw Br Bn : Nat) (x y z c v rc t s g nc te qu : Int) (sa : Option Addr) (n kc : Nat) : Prop where
  bel : Below W.heap.size W w
  hb : Blk w Bh [.int .i64 x, .int .i64 y, .int .i64 z]
  wb : Blk w Bw [.int .i64 c, .int .i64 v]
  rb : Blk w Br [.int .i64 rc, .int .i64 t, .int .i64 s, .int .i64 g]
  nb : Blk w Bn [.int .i64 nc, .int .i64 te, .int .i64 qu, .int .i64 0, .slice sa n kc, .slice none 0 0]
  pv : PV w sa n zS

theorem HSt.below {W w w' : World} {Bh Bw Br Bn : Nat} {x y z c v rc t s g nc te qu : Int} {sa : Option Addr} {n kc : Nat} (d : HSt W w Bh Bw Br Bn x y z c v rc t s g nc te qu sa n kc) (hb : Below w.heap.size w w') : HSt W w' Bh Bw Br Bn x y z c v rc t s g nc te qu sa n kc :=
  ⟨d.bel.trans (hb.mono d.bel.size), d.hb.below hb, d.wb.below hb, d.rb.below hb, d.nb.below hb, d.pv.below hb⟩
end Go.Proofs.Ytnpklnpicelcmaa

namespace Go.Proofs.Ytnpklnpicelcmaa
open Go.RowKit
set_option linter.unusedVariables false

/-- A tenant of a heap, in memory. -/
structure TN where
  q : Int
  h : Int
  a : Option Addr
  n : Nat
  c : Nat
  S : Nat → SL

def TN.g (t : TN) : Nat := match t.a with | some x => x.block | none => 0

def ThrG (w : World) (b o : Nat) (t : TN) : Prop := w.cell? ⟨b, o, none⟩ = some (.int .i64 t.q) ∧ w.cell? ⟨b, o + 1, none⟩ = some (.int .i64 t.h) ∧ w.cell? ⟨b, o + 2, none⟩ = some (.slice t.a t.n t.c)

def ThrF (w : World) (b o : Nat) : Prop := w.frozen? ⟨b, o, none⟩ = false ∧ w.frozen? ⟨b, o + 1, none⟩ = false ∧ w.frozen? ⟨b, o + 2, none⟩ = false

theorem ThrG.block {w w' : World} {b o : Nat} {t : TN} (h : ThrG w b o t) (e : w'.heap[b]? = w.heap[b]?) : ThrG w' b o t :=
  ⟨(World.cell?_of_block (w := w) (a := ⟨b, o, none⟩) e).trans h.1, (World.cell?_of_block (w := w) (a := ⟨b, o + 1, none⟩) e).trans h.2.1, (World.cell?_of_block (w := w) (a := ⟨b, o + 2, none⟩) e).trans h.2.2⟩

theorem ThrF.block {w w' : World} {b o : Nat} (h : ThrF w b o) (e : w'.heap[b]? = w.heap[b]?) : ThrF w' b o :=
  ⟨(World.frozen?_of_block (w := w) (a := ⟨b, o, none⟩) e).trans h.1, (World.frozen?_of_block (w := w) (a := ⟨b, o + 1, none⟩) e).trans h.2.1, (World.frozen?_of_block (w := w) (a := ⟨b, o + 2, none⟩) e).trans h.2.2⟩

theorem ThrG.below {w w' : World} {b o : Nat} {t : TN} (h : ThrG w b o t) (hb : Below w.heap.size w w') (hl : b < w.heap.size) : ThrG w' b o t := h.block (hb.block b hl)

theorem ThrF.below {w w' : World} {b o : Nat} (h : ThrF w b o) (hb : Below w.heap.size w w') (hl : b < w.heap.size) : ThrF w' b o := h.block (hb.block b hl)

theorem ThrG.keeps {w w' : World} {b o lo hi : Nat} {t : TN} (h : ThrG w b o t) (hk : Keeps w w' lo hi) (hl : b < w.heap.size) (hd : b < lo ∨ hi ≤ b) : ThrG w' b o t := h.block (hk.block b hl hd)

theorem ThrF.keeps {w w' : World} {b o lo hi : Nat} (h : ThrF w b o) (hk : Keeps w w' lo hi) (hl : b < w.heap.size) (hd : b < lo ∨ hi ≤ b) : ThrF w' b o := h.block (hk.block b hl hd)

/-- A row of tenants is read. -/
structure TSrc (w : World) (b q N : Nat) (T : Nat → TN) : Prop where
  lt : b < w.heap.size
  thr : ∀ i, i < N → ThrG w b (q + i * 3) (T i)
  slo : ∀ i, i < N → PV w (T i).a (T i).n (T i).S

/-- A row of tenants of the call's own, in blocks from lo to hi. -/
structure TOwn (w : World) (lo hi b q N : Nat) (T : Nat → TN) : Prop where
  glo : lo ≤ b
  ghi : b < hi
  lt : b < w.heap.size
  thr : ∀ i, i < N → ThrG w b (q + i * 3) (T i)
  free : ∀ i, i < N → ThrF w b (q + i * 3)
  slo : ∀ i, i < N → PVO w lo hi (T i).a (T i).n (T i).S
  off : ∀ i, i < N → (T i).n = 0 ∨ (T i).g ≠ b
  apart : ∀ i j, i < N → j < N → i ≠ j → (T i).n = 0 ∨ (T j).n = 0 ∨ (T i).g ≠ (T j).g

theorem TOwn.src {w : World} {lo hi b q N : Nat} {T : Nat → TN} (h : TOwn w lo hi b q N T) : TSrc w b q N T := ⟨h.lt, h.thr, fun i hi => (h.slo i hi).src⟩

theorem TSrc.below {w w' : World} {b q N : Nat} {T : Nat → TN} (h : TSrc w b q N T) (hb : Below w.heap.size w w') : TSrc w' b q N T :=
  ⟨Nat.lt_of_lt_of_le h.lt hb.size, fun i hi => (h.thr i hi).below hb h.lt, fun i hi => (h.slo i hi).below hb⟩

theorem TOwn.below {w w' : World} {lo hi b q N : Nat} {T : Nat → TN} (h : TOwn w lo hi b q N T) (hb : Below w.heap.size w w') : TOwn w' lo hi b q N T :=
  ⟨h.glo, h.ghi, Nat.lt_of_lt_of_le h.lt hb.size, fun i hi => (h.thr i hi).below hb h.lt, fun i hi => (h.free i hi).below hb h.lt, fun i hi => (h.slo i hi).below hb, h.off, h.apart⟩

theorem TOwn.keeps {w w' : World} {lo hi lo' hi' b q N : Nat} {T : Nat → TN} (h : TOwn w lo hi b q N T) (hk : Keeps w w' lo' hi') (hd : hi ≤ lo' ∨ hi' ≤ lo) : TOwn w' lo hi b q N T := by
  have h1 := h.glo; have h2 := h.ghi
  exact ⟨h.glo, h.ghi, Nat.lt_of_lt_of_le h.lt hk.size, fun i hi => (h.thr i hi).keeps hk h.lt (by omega), fun i hi => (h.free i hi).keeps hk h.lt (by omega), fun i hi => (h.slo i hi).keeps hk hd, h.off, h.apart⟩

theorem TSrc.drew {w : World} {b q N : Nat} {T : Nat → TN} (h : TSrc w b q N T) : TSrc w.drew b q N T := h.below (Below.refl _ _).drew

theorem TSrc.alloc {w : World} {b q N : Nat} {T : Nat → TN} (h : TSrc w b q N T) (o : Obj) : TSrc (w.alloc o) b q N T := h.below ((Below.refl _ _).alloc (Nat.le_refl _) o)

theorem TOwn.drew {w : World} {lo hi b q N : Nat} {T : Nat → TN} (h : TOwn w lo hi b q N T) : TOwn w.drew lo hi b q N T := h.below (Below.refl _ _).drew

theorem TOwn.alloc {w : World} {lo hi b q N : Nat} {T : Nat → TN} (h : TOwn w lo hi b q N T) (o : Obj) : TOwn (w.alloc o) lo hi b q N T := h.below ((Below.refl _ _).alloc (Nat.le_refl _) o)

theorem TSrc.congr {w : World} {b q N : Nat} {T U : Nat → TN} (h : TSrc w b q N T) (e : ∀ i, i < N → T i = U i) : TSrc w b q N U :=
  ⟨h.lt, fun i hi => by rw [← e i hi]; exact h.thr i hi, fun i hi => by rw [← e i hi]; exact h.slo i hi⟩

theorem TOwn.congr {w : World} {lo hi b q N : Nat} {T U : Nat → TN} (h : TOwn w lo hi b q N T) (e : ∀ i, i < N → T i = U i) : TOwn w lo hi b q N U :=
  ⟨h.glo, h.ghi, h.lt, fun i hi => by rw [← e i hi]; exact h.thr i hi, h.free, fun i hi => by rw [← e i hi]; exact h.slo i hi, fun i hi => by rw [← e i hi]; exact h.off i hi, fun i j hi hj hij => by rw [← e i hi, ← e j hj]; exact h.apart i j hi hj hij⟩

theorem TOwn.widen {w : World} {lo hi lo' hi' b q N : Nat} {T : Nat → TN} (h : TOwn w lo hi b q N T) (h1 : lo' ≤ lo) (h2 : hi ≤ hi') : TOwn w lo' hi' b q N T :=
  ⟨Nat.le_trans h1 h.glo, Nat.lt_of_lt_of_le h.ghi h2, h.lt, h.thr, h.free, fun i hi => (h.slo i hi).widen h1 h2, h.off, h.apart⟩

theorem pvo_at {w w' : World} {lo hi : Nat} {t : TN} (h : PVO w lo hi t.a t.n t.S) (he : t.n = 0 ∨ w'.heap[t.g]? = w.heap[t.g]?) (hs : w.heap.size ≤ w'.heap.size) : PVO w' lo hi t.a t.n t.S := by
  rcases h with h0 | ⟨b, q, ha, hg⟩
  · exact .inl h0
  · rcases he with h0 | he
    · exact .inl h0
    · have e : t.g = b := by simp [TN.g, ha]
      rw [e] at he
      exact .inr ⟨b, q, ha, hg.glo, hg.ghi, Nat.lt_of_lt_of_le hg.lt hs, fun i hi => (hg.two i hi).block he, fun i hi => (hg.free i hi).block he⟩

theorem pvo_g {w : World} {lo hi : Nat} {t : TN} (h : PVO w lo hi t.a t.n t.S) : t.n = 0 ∨ (lo ≤ t.g ∧ t.g < hi ∧ t.g < w.heap.size) := by
  rcases h with h0 | ⟨b, q, ha, hg⟩
  · exact .inl h0
  · have e : t.g = b := by simp [TN.g, ha]
    exact .inr (by rw [e]; exact ⟨hg.glo, hg.ghi, hg.lt⟩)
end Go.Proofs.Ytnpklnpicelcmaa

namespace Go.Proofs.Ytnpklnpicelcmaa
open Go.RowKit
set_option linter.unusedVariables false

def TV (w : World) (a : Option Addr) (N : Nat) (T : Nat → TN) : Prop := N = 0 ∨ ∃ b q, a = some ⟨b, q, none⟩ ∧ TSrc w b q N T

def TVO (w : World) (lo hi : Nat) (a : Option Addr) (N : Nat) (T : Nat → TN) : Prop := N = 0 ∨ ∃ b q, a = some ⟨b, q, none⟩ ∧ TOwn w lo hi b q N T

theorem TVO.src {w : World} {lo hi N : Nat} {a : Option Addr} {T : Nat → TN} (h : TVO w lo hi a N T) : TV w a N T := by
  rcases h with h0 | ⟨b, q, e, h⟩
  · exact .inl h0
  · exact .inr ⟨b, q, e, h.src⟩

theorem TV.below {w w' : World} {a : Option Addr} {N : Nat} {T : Nat → TN} (h : TV w a N T) (hb : Below w.heap.size w w') : TV w' a N T := by
  rcases h with h0 | ⟨b, q, e, h⟩
  · exact .inl h0
  · exact .inr ⟨b, q, e, h.below hb⟩

theorem TVO.below {w w' : World} {lo hi N : Nat} {a : Option Addr} {T : Nat → TN} (h : TVO w lo hi a N T) (hb : Below w.heap.size w w') : TVO w' lo hi a N T := by
  rcases h with h0 | ⟨b, q, e, h⟩
  · exact .inl h0
  · exact .inr ⟨b, q, e, h.below hb⟩

theorem TVO.keeps {w w' : World} {lo hi lo' hi' N : Nat} {a : Option Addr} {T : Nat → TN} (h : TVO w lo hi a N T) (hk : Keeps w w' lo' hi') (hd : hi ≤ lo' ∨ hi' ≤ lo) : TVO w' lo hi a N T := by
  rcases h with h0 | ⟨b, q, e, h⟩
  · exact .inl h0
  · exact .inr ⟨b, q, e, h.keeps hk hd⟩

theorem TVO.widen {w : World} {lo hi lo' hi' N : Nat} {a : Option Addr} {T : Nat → TN} (h : TVO w lo hi a N T) (h1 : lo' ≤ lo) (h2 : hi ≤ hi') : TVO w lo' hi' a N T := by
  rcases h with h0 | ⟨b, q, e, h⟩
  · exact .inl h0
  · exact .inr ⟨b, q, e, h.widen h1 h2⟩

theorem TV.drew {w : World} {a : Option Addr} {N : Nat} {T : Nat → TN} (h : TV w a N T) : TV w.drew a N T := h.below (Below.refl _ _).drew

theorem TV.alloc {w : World} {a : Option Addr} {N : Nat} {T : Nat → TN} (h : TV w a N T) (o : Obj) : TV (w.alloc o) a N T := h.below ((Below.refl _ _).alloc (Nat.le_refl _) o)

theorem TVO.drew {w : World} {lo hi N : Nat} {a : Option Addr} {T : Nat → TN} (h : TVO w lo hi a N T) : TVO w.drew lo hi a N T := h.below (Below.refl _ _).drew

theorem TVO.alloc {w : World} {lo hi N : Nat} {a : Option Addr} {T : Nat → TN} (h : TVO w lo hi a N T) (o : Obj) : TVO (w.alloc o) lo hi a N T := h.below ((Below.refl _ _).alloc (Nat.le_refl _) o)

theorem tv_get {w : World} {a : Option Addr} {N : Nat} {T : Nat → TN} (h : TV w a N T) {i : Nat} (hi : i < N) : ∃ b q, a = some ⟨b, q, none⟩ ∧ b < w.heap.size ∧ ThrG w b (q + i * 3) (T i) ∧ PV w (T i).a (T i).n (T i).S := by
  rcases h with h0 | ⟨b, q, ha, hg⟩
  · omega
  · exact ⟨b, q, ha, hg.lt, hg.thr i hi, hg.slo i hi⟩

/-- Two tenants that are the same. -/
def TnSame (t u : TN) : Prop := t.q = u.q ∧ t.h = u.h ∧ t.n = u.n ∧ ∀ i, i < t.n → t.S i = u.S i

theorem tnsame_symm {t u : TN} (h : TnSame t u) : TnSame u t := ⟨h.1.symm, h.2.1.symm, h.2.2.1.symm, fun i hi => (h.2.2.2 i (by have := h.2.2.1; omega)).symm⟩

theorem tnsame_trans {t u v : TN} (h : TnSame t u) (k : TnSame u v) : TnSame t v := ⟨h.1.trans k.1, h.2.1.trans k.2.1, h.2.2.1.trans k.2.2.1, fun i hi => (h.2.2.2 i hi).trans (k.2.2.2 i (by have := h.2.2.1; omega))⟩

set_option maxRecDepth 100000 in
set_option maxHeartbeats 800000 in
theorem eqTen_same (t u : TN) (w : World) (he : TnSame t u) (s1 : PV w t.a t.n t.S) (s2 : PV w u.a u.n u.S) (hn : t.n ≤ 1048576) :
    Calls Try.prog 73 #[.agg #[.int .i64 t.q, .int .i64 t.h, .slice t.a t.n t.c], .agg #[.int .i64 u.q, .int .i64 u.h, .slice u.a u.n u.c]] w (RetBool w true) := by
  obtain ⟨e1, e2, e3, e4⟩ := he
  rw [← e3] at s2
  rw [← e1, ← e2, ← e3]
  have S1 := Lib.hid s1; have S2 := Lib.hid s2; have E4 := Lib.hid e4
  clear s1 s2 e1 e2 e3 e4
  go_enter Try.func73, Try.ntmps73
  go_wp2_with fail
  refine (eqHeapSlotS_same _ _ _ _ _ t.S u.S _ ((S1.out.alloc _).alloc _) ((S2.out.alloc _).alloc _) E4.out hn).mono ?_
  rintro e w2 ⟨rfl, hb⟩
  have HB2 := Lib.hid (thru2 (Below.refl _ _) hb)
  clear hb
  go_wp2
  go_ret
  exact ⟨rfl, HB2.out⟩

theorem thrsG {w : World} {g1 g2 q1 q2 i : Nat} {t u : TN} (h1 : ThrG w g1 (q1 + i * 3) t) (h2 : ThrG w g2 (q2 + i * 3) u) : w.cell? ⟨g1, q1 + i * 3, none⟩ = some (.int .i64 t.q) ∧ w.cell? ⟨g1, q1 + i * 3 + 1, none⟩ = some (.int .i64 t.h) ∧ w.cell? ⟨g1, q1 + i * 3 + 2, none⟩ = some (.slice t.a t.n t.c) ∧ w.cell? ⟨g2, q2 + i * 3, none⟩ = some (.int .i64 u.q) ∧ w.cell? ⟨g2, q2 + i * 3 + 1, none⟩ = some (.int .i64 u.h) ∧ w.cell? ⟨g2, q2 + i * 3 + 2, none⟩ = some (.slice u.a u.n u.c) :=
  ⟨h1.1, h1.2.1, h1.2.2, h2.1, h2.2.1, h2.2.2⟩

set_option maxRecDepth 100000 in
set_option maxHeartbeats 1600000 in
theorem eqTV_same (a1 a2 : Option Addr) (N k1 k2 : Nat) (T U : Nat → TN) (w : World) (h1 : TV w a1 N T) (h2 : TV w a2 N U) (he : ∀ i, i < N → TnSame (T i) (U i)) (hN : N ≤ 1048576) (hn : ∀ i, i < N → (T i).n ≤ 1048576) :
    Calls Try.prog 36 #[.slice a1 N k1, .slice a2 N k2] w (RetBool w true) := by
  have H1 := Lib.hid h1; have H2 := Lib.hid h2; have HE := Lib.hid he; have HN := Lib.hid hn
  clear h1 h2 he hn
  go_enter Try.func36, Try.ntmps36
  go_wp2
  go_loopw [5] (fun p wr => ∃ i : Nat, i ≤ N ∧ p = .int .i64 (i : Int) ∧ Hid (Below w.heap.size w wr)) (fun p _ => N - (intOf p).toNat)
  case atStart => exact ⟨0, Nat.zero_le _, rfl, Below.refl _ _⟩
  case round =>
    obtain ⟨i, hi, rfl, HBr⟩ := hrel
    by_cases hlt : i < N
    · have hlt' : (i : Int) < (N : Int) := by omega
      have hi0 : (0 : Int) ≤ (i : Int) := by omega
      obtain ⟨g1, q1, e1, l1', x1, s1⟩ := tv_get (H1.out.below HBr.out) hlt
      obtain ⟨g2, q2, e2, l2', x2, s2⟩ := tv_get (H2.out.below HBr.out) hlt
      subst e1 e2
      have X1 := Lib.hid x1; have Y1 := Lib.hid x2
      have S1 := Lib.hid s1; have S2 := Lib.hid s2
      have hes := HE.out i hlt
      have hns := HN.out i hlt
      have hzr := HBr.out.size
      clear x1 x2 s1 s2
      generalize T i = t at *
      generalize U i = u at *
      have HES := Lib.hid hes
      clear hes
      have Xd := Lib.hid (X1.out.below (Below.refl _ _).drew l1'); have Yd := Lib.hid (Y1.out.below (Below.refl _ _).drew l2')
      go_wp2_with fail
      go_region_held3 (fun w' => w'.cell? ⟨g1, q1 + i * 3, none⟩ = some (.int .i64 t.q) ∧ w'.cell? ⟨g1, q1 + i * 3 + 1, none⟩ = some (.int .i64 t.h) ∧ w'.cell? ⟨g1, q1 + i * 3 + 2, none⟩ = some (.slice t.a t.n t.c) ∧ w'.cell? ⟨g2, q2 + i * 3, none⟩ = some (.int .i64 u.q) ∧ w'.cell? ⟨g2, q2 + i * 3 + 1, none⟩ = some (.int .i64 u.h) ∧ w'.cell? ⟨g2, q2 + i * 3 + 2, none⟩ = some (.slice u.a u.n u.c))
        (first | (with_reducible exact thrsG X1.out Y1.out) | (with_reducible exact thrsG Xd.out Yd.out) | (with_reducible exact thrsG X2.out Y2.out))
        (first | (go_at_call 73; refine (eqTen_same t u _ HES.out (S1.out.below (Below.refl _ _).drew) (S2.out.below (Below.refl _ _).drew) hns).mono ?_; rintro e w2 ⟨rfl, hb⟩; have HB2 := Lib.hid (thru0 (Below.refl wr.heap.size wr).drew hb); have X2 := Lib.hid (X1.out.below HB2.out l1'); have Y2 := Lib.hid (Y1.out.below HB2.out l2'); clear hb))
      have HB3 := Lib.hid (HBr.out.trans (HB2.out.mono hzr))
      go_wp2
      go_roundw
      case rel => exact ⟨i + 1, by omega, by go_num, HB3⟩
      case measure => simp [intOf]; omega
    · go_wp2
      go_ret
      exact ⟨rfl, HBr.out⟩

set_option maxRecDepth 100000 in
set_option maxHeartbeats 400000 in
theorem szTen_ok (t : TN) (l : Int) (w : World) (hl0 : 0 ≤ l) (hl : l ≤ 1048576) (hn : t.n ≤ maxLen) (hh : t.n ≤ l) :
    Calls Try.prog 62 #[.agg #[.int .i64 t.q, .int .i64 t.h, .slice t.a t.n t.c], .int .i64 l] w fun e w' => e = .returned (.int .i64 (l - t.n)) ∧ Below w.heap.size w w' := by
  have h9 : ¬ l - (t.n : Int) < 0 := by omega
  go_enter Try.func62, Try.ntmps62
  go_wp2_with (go_at_call 101; refine (szHeapSlotS_ok _ _ _ _ _ hl0 hl hn hh).mono ?_; rintro e w' ⟨rfl, rfl⟩)
  go_ret
  exact ⟨rfl, (Below.refl _ _).alloc (Nat.le_refl _) _⟩

set_option maxRecDepth 100000 in
set_option maxHeartbeats 400000 in
theorem szTen_no (t : TN) (l : Int) (w : World) (hl0 : 0 ≤ l) (hl : l ≤ 1048576) (hn : t.n ≤ maxLen) (hh : l < t.n) :
    Calls Try.prog 62 #[.agg #[.int .i64 t.q, .int .i64 t.h, .slice t.a t.n t.c], .int .i64 l] w fun e w' => e = .returned (.int .i64 (-1)) ∧ Below w.heap.size w w' := by
  go_enter Try.func62, Try.ntmps62
  go_wp2_with (go_at_call 101; refine (szHeapSlotS_no _ _ _ _ _ hl0 hl hn hh).mono ?_; rintro e w' ⟨rfl, rfl⟩)
  go_ret
  exact ⟨rfl, (Below.refl _ _).alloc (Nat.le_refl _) _⟩

def RetSzT (W : World) (N : Nat) (T : Nat → TN) (l : Int) (e : Ending) (w' : World) : Prop :=
  Below W.heap.size W w' ∧ ∃ r : Int, e = .returned (.int .i64 r) ∧ r ≤ l ∧ (r = -1 ∨ (0 ≤ r ∧ (N : Int) ≤ l ∧ ∀ i, i < N → ((T i).n : Int) ≤ l))

set_option maxRecDepth 100000 in
set_option maxHeartbeats 1600000 in
theorem szTenS_any (a : Option Addr) (N c : Nat) (T : Nat → TN) (l : Int) (w : World) (h : TV w a N T) (hN : N ≤ maxLen) (hn : ∀ i, i < N → (T i).n ≤ maxLen) (hl0 : 0 ≤ l) (hl : l ≤ 1048576) :
    Calls Try.prog 24 #[.slice a N c, .int .i64 l] w (RetSzT w N T l) := by
  have H := Lib.hid h; have HN := Lib.hid hn
  clear h hn
  unfold maxLen at hN
  by_cases hNl : (N : Int) ≤ l
  · go_enter Try.func24, Try.ntmps24
    go_wp2
    go_loopw [1, 5] (fun u p wr => ∃ (i : Nat) (x : Int), i ≤ N ∧ p = .int .i64 (i : Int) ∧ u = .int .i64 x ∧ 0 ≤ x ∧ x ≤ l - N ∧ Hid (Below w.heap.size w wr) ∧ Hid (∀ j, j < i → ((T j).n : Int) ≤ l)) (fun _ p _ => N - (intOf p).toNat)
    case atStart => exact ⟨0, l - N, Nat.zero_le _, rfl, rfl, by omega, by omega, Below.refl _ _, fun j hj => by omega⟩
    case round =>
      obtain ⟨i, x, hi, rfl, rfl, hx0, hx1, HBr, HE⟩ := hrel
      by_cases hlt : i < N
      · have hlt' : (i : Int) < (N : Int) := by omega
        have hi0 : (0 : Int) ≤ (i : Int) := by omega
        rcases H.out.below HBr.out with h0 | ⟨b, q, rfl, hg⟩
        · omega
        · have lt := hg.lt
          obtain ⟨x0, x1, x2⟩ := hg.thr i hlt
          have hnm := HN.out i hlt
          have HGE := Lib.hid (show ∀ j, j < i → ((T j).n : Int) ≤ l from HE.out)
          clear hg
          have hnx : ((T i).n : Int) ≤ l → ∀ j, j < i + 1 → ((T j).n : Int) ≤ l := fun h j hj => by
            rcases Nat.lt_succ_iff_lt_or_eq.mp hj with h1 | h1
            · exact HGE.out j h1
            · subst h1; exact h
          have HNX := Lib.hid hnx
          clear hnx
          by_cases hle : ((T i).n : Int) ≤ x
          · go_wp2_with fail
            refine (szTen_ok (T i) x _ hx0 (by omega) hnm hle).mono ?_
            rintro e w' ⟨rfl, hb⟩
            have HB2 := Lib.hid (thru0 HBr.out hb)
            have HX := Lib.hid (HNX.out (by omega))
            clear hb
            go_wp2
            go_roundw
            case rel => exact ⟨i + 1, x - (T i).n, by omega, by go_num, rfl, by omega, by omega, HB2, HX⟩
            case measure => simp [intOf]; omega
          · go_wp2_with fail
            refine (szTen_no (T i) x _ hx0 (by omega) hnm (by omega)).mono ?_
            rintro e w' ⟨rfl, hb⟩
            have HB2 := Lib.hid (thru0 HBr.out hb)
            clear hb
            go_wp2
            go_ret
            exact ⟨HB2.out, -1, rfl, by omega, .inl rfl⟩
      · obtain rfl : i = N := by omega
        go_wp2
        go_ret
        exact ⟨HBr.out, x, rfl, by omega, .inr ⟨hx0, hNl, HE.out⟩⟩
  · go_enter Try.func24, Try.ntmps24
    go_wp2
    go_ret
    exact ⟨Below.refl _ _, -1, rfl, by omega, .inl rfl⟩
end Go.Proofs.Ytnpklnpicelcmaa

namespace Go.Proofs.Ytnpklnpicelcmaa
open Go.RowKit
set_option linter.unusedVariables false

def tz : TN := ⟨0, 0, none, 0, 0, fun _ => ⟨0, 0⟩⟩

/-- A new tenant that holds the same. -/
def RetTen (W : World) (t : TN) (e : Ending) (w' : World) : Prop :=
  ∃ t' : TN, t'.q = t.q ∧ t'.h = t.h ∧ t'.n = t.n ∧ t'.S = t.S ∧ e = .returned (.agg #[.int .i64 t'.q, .int .i64 t'.h, .slice t'.a t'.n t'.c]) ∧ PVO w' W.heap.size w'.heap.size t'.a t'.n t'.S ∧ Below W.heap.size W w'

set_option maxRecDepth 100000 in
set_option maxHeartbeats 800000 in
theorem toTen_any (t : TN) (w : World) (hs : PV w t.a t.n t.S) (hn : t.n ≤ 1048576) :
    Calls Try.prog 66 #[.agg #[.int .i64 t.q, .int .i64 t.h, .slice t.a t.n t.c]] w (RetTen w t) := by
  have HS := Lib.hid hs
  clear hs
  go_enter Try.func66, Try.ntmps66
  go_wp2_with fail
  refine (toHeapSlotS_any t.a t.n t.c t.S _ (((HS.out.alloc _).alloc _).alloc _) hn).mono ?_
  rintro e w2 ⟨u, cu, rfl, ho, hb⟩
  have HB2 := Lib.hid (((((Below.refl w.heap.size w).alloc (Nat.le_refl _) _).alloc (by simp) _).alloc (by simp; omega) _).trans (hb.mono (by simp; omega)))
  have O_1 := Lib.hid ((Blk.new_at (w := (w.alloc (.cells #[.int .i64 t.q, .int .i64 t.h, .slice t.a t.n t.c] 125)).alloc (.cells #[.int .i64 0, .int .i64 0, .slice none 0 0] 132)) (cs := #[.int .i64 t.q, .int .i64 t.h, .slice none 0 0]) (t := 132) (w.heap.size + 2) (by simp)).below hb)
  have R_1 := Lib.hid (((Blk.new_at (w := w.alloc (.cells #[.int .i64 t.q, .int .i64 t.h, .slice t.a t.n t.c] 125)) (cs := #[.int .i64 0, .int .i64 0, .slice none 0 0]) (t := 132) (w.heap.size + 1) (by simp)).alloc _).below hb)
  have HO := Lib.hid (ho.widen (lo' := w.heap.size + 3) (by simp) (Nat.le_refl _))
  have z2 : w.heap.size + 3 ≤ w2.heap.size := by have := hb.size; simp at this; omega
  clear hb ho HS
  have cO0 := O_1.out.at 0 rfl; have fO0 := O_1.out.free 0 rfl; have cO1 := O_1.out.at 1 rfl; have fO1 := O_1.out.free 1 rfl; have cO2 := O_1.out.at 2 rfl; have fO2 := O_1.out.free 2 rfl; have lO := O_1.out.1
  have cR0 := R_1.out.at 0 rfl; have fR0 := R_1.out.free 0 rfl; have cR1 := R_1.out.at 1 rfl; have fR1 := R_1.out.free 1 rfl; have cR2 := R_1.out.at 2 rfl; have fR2 := R_1.out.free 2 rfl; have lR := R_1.out.1
  go_wp2
  refine bodyPost_ret (v := .agg #[.int .i64 t.q, .int .i64 t.h, .slice u t.n cu]) (by simp [results, Try.results66, go_sem, cR0, cR1, cR2]) rfl ⟨⟨t.q, t.h, u, t.n, cu, t.S⟩, rfl, rfl, rfl, rfl, rfl, ?_, ?_⟩
  · refine PVO.widen (lo := w.heap.size + 3) (hi := w2.heap.size) ?_ (by omega) (by simp)
    refine PVO.keeps (lo' := w.heap.size + 1) (hi' := w.heap.size + 3) HO.out ?_ (.inr (by omega))
    repeat (refine Keeps.trans ?_ (keeps_setCell (by (try simp); (try omega)) (by (try simp); (try omega)) _))
    exact Keeps.refl _ _ _
  · repeat (with_reducible refine Below.setCell ?_ (by (try simp); (try omega)) _)
    exact HB2.out

/-- A row of zero tenants. -/
theorem town_made {w : World} {lo b N cap : Nat} (h : w.ownsRow lo 132 3 (.slice (some ⟨b, 0, none⟩) N cap) N (madeCells #[.int .i64 0, .int .i64 0, .slice none 0 0] (N * 3)).toList) (hl : lo ≤ b) (hp : 0 < N) : TOwn w lo w.heap.size b 0 N (fun _ => tz) := by
  have hlt : b < w.heap.size := by
    rcases h.2 with ⟨h', _⟩ | ⟨g', cap', cur, h', _, hg, _⟩
    · cases h'
    · simp only [Value.slice.injEq, Option.some.injEq, Addr.mk.injEq, and_true, true_and] at h'
      obtain ⟨rfl, rfl⟩ := h'
      exact (Array.getElem?_eq_some_iff.mp hg).1
  have hc : ∀ i, i < N → ∀ j, j < 3 → w.cell? ⟨b, i * 3 + j, none⟩ = some (#[.int .i64 0, .int .i64 0, .slice none 0 0] : Array Value)[(i * 3 + j) % 3]! := fun i hi j hj => by
    have := h.cellAt (i * 3 + j) (by omega)
    rw [made_get _ _ _ (by omega)] at this
    simpa using this
  refine ⟨hl, hlt, hlt, fun i hi => ?_, fun i hi => ?_, fun i hi => .inl rfl, fun i hi => .inl rfl, fun i j hi hj hij => .inl rfl⟩
  · have m : ∀ j, j < 3 → (i * 3 + j) % 3 = j := fun j hj => by omega
    rw [Nat.zero_add]
    have k0 := hc i hi 0 (by omega); have k1 := hc i hi 1 (by omega); have k2 := hc i hi 2 (by omega)
    rw [m 0 (by omega)] at k0; rw [m 1 (by omega)] at k1; rw [m 2 (by omega)] at k2
    exact ⟨k0, k1, k2⟩
  · rw [Nat.zero_add]
    exact ⟨h.frozenAt _, h.frozenAt _, h.frozenAt _⟩

/-- The three cells of a tenant are written. -/
def thrW (w : World) (b o : Nat) (t : TN) : World := ((w.setCell ⟨b, o, none⟩ (.int .i64 t.q)).setCell ⟨b, o + 1, none⟩ (.int .i64 t.h)).setCell ⟨b, o + 2, none⟩ (.slice t.a t.n t.c)

theorem thrW_at {w : World} {b o : Nat} {t0 : TN} (h : ThrG w b o t0) (t : TN) : ThrG (thrW w b o t) b o t := by
  obtain ⟨x0, x1, x2⟩ := h
  simp [thrW, ThrG, x0, x1, x2, World.cell?_setCell_other, World.cell?_setCell_same']

theorem thrW_other {w : World} {b o o' : Nat} {u : TN} (h : ThrG w b o u) (hd : o + 3 ≤ o' ∨ o' + 3 ≤ o) (t : TN) : ThrG (thrW w b o' t) b o u := by
  have g : ∀ x, x < 3 → ∀ y, y < 3 → (⟨b, o' + y, none⟩ : Addr) ≠ ⟨b, o + x, none⟩ := fun x hx y hy e => by simp at e; try omega
  have k : ∀ x, x < 3 → (thrW w b o' t).cell? ⟨b, o + x, none⟩ = w.cell? ⟨b, o + x, none⟩ := fun x hx => by
    unfold thrW
    rw [World.cell?_setCell_other _ _ _ _ (g x hx 2 (by omega)), World.cell?_setCell_other _ _ _ _ (g x hx 1 (by omega)), World.cell?_setCell_other _ _ _ _ (show (⟨b, o', none⟩ : Addr) ≠ ⟨b, o + x, none⟩ from g x hx 0 (by omega))]
  exact ⟨(k 0 (by omega)).trans h.1, (k 1 (by omega)).trans h.2.1, (k 2 (by omega)).trans h.2.2⟩

theorem thrW_frozen (w : World) (b o : Nat) (t : TN) (p : Addr) : (thrW w b o t).frozen? p = w.frozen? p := by simp [thrW, World.frozen?_setCell]

theorem thrW_keeps (w : World) (b o : Nat) (t : TN) : Keeps w (thrW w b o t) b (b + 1) := by
  unfold thrW
  refine Keeps.trans ?_ (keeps_setCell (p := ⟨b, o + 2, none⟩) (Nat.le_refl b) (Nat.lt_succ_self b) _)
  refine Keeps.trans ?_ (keeps_setCell (p := ⟨b, o + 1, none⟩) (Nat.le_refl b) (Nat.lt_succ_self b) _)
  refine Keeps.trans ?_ (keeps_setCell (p := ⟨b, o, none⟩) (Nat.le_refl b) (Nat.lt_succ_self b) _)
  exact Keeps.refl _ _ _

theorem pvo_thr {w : World} {lo hi b o : Nat} {u : TN} (h : PVO w lo hi u.a u.n u.S) (hb : u.n = 0 ∨ u.g ≠ b) (t : TN) : PVO (thrW w b o t) lo hi u.a u.n u.S := by
  have k5 := thrW_keeps w b o t
  refine pvo_at h ?_ k5.size
  rcases hb with h0 | hne
  · exact .inl h0
  · rcases pvo_g h with h0 | ⟨_, _, hx⟩
    · exact .inl h0
    · exact .inr (k5.block _ (by omega) (by omega))

/-- One tenant of a row is laid. -/
theorem town_put {wr w2 : World} {lo b q N i : Nat} {U : Nat → TN} {t : TN} (h : TOwn wr lo wr.heap.size b q N U) (hi' : i < N) (hb : Below wr.heap.size wr w2) (ho : PVO w2 wr.heap.size w2.heap.size t.a t.n t.S) :
    TOwn (thrW w2 b (q + i * 3) t) lo (thrW w2 b (q + i * 3) t).heap.size b q N (fun j => if j = i then t else U j) ∧ Below lo w2 (thrW w2 b (q + i * 3) t) := by
  have h1 := h.glo; have h3 := h.lt
  have h' := h.below hb
  have k5 := thrW_keeps w2 b (q + i * 3) t
  have hs := hb.size; have hs5 := k5.size
  have hgt : t.n = 0 ∨ (wr.heap.size ≤ t.g ∧ t.g < w2.heap.size) := (pvo_g ho).imp_right fun x => ⟨x.1, x.2.2⟩
  have hgu : ∀ j, j < N → (U j).n = 0 ∨ (U j).g < wr.heap.size := fun j hj => (pvo_g (h.slo j hj)).imp_right fun x => x.2.2
  refine ⟨⟨h1, by omega, by omega, fun j hj => ?_, fun j hj => ?_, fun j hj => ?_, fun j hj => ?_, fun a c ha hc hac => ?_⟩, k5.below h1 (by omega)⟩
  · by_cases e : j = i
    · subst e; rw [if_pos rfl]; exact thrW_at (h'.thr j hj) t
    · rw [if_neg e]; exact thrW_other (h'.thr j hj) (by omega) t
  · have hf := h'.free j hj
    exact ⟨(thrW_frozen _ _ _ _ _).trans hf.1, (thrW_frozen _ _ _ _ _).trans hf.2.1, (thrW_frozen _ _ _ _ _).trans hf.2.2⟩
  · by_cases e : j = i
    · subst e; rw [if_pos rfl]
      exact (pvo_thr (PVO.widen ho (show lo ≤ wr.heap.size by omega) (Nat.le_refl _)) (by omega) t).widen (Nat.le_refl _) (by omega)
    · rw [if_neg e]
      exact (pvo_thr (h'.slo j hj) (h'.off j hj) t).widen (Nat.le_refl _) (by omega)
  · by_cases e : j = i
    · subst e; rw [if_pos rfl]; omega
    · rw [if_neg e]; exact h'.off j hj
  · by_cases ea : a = i
    · by_cases ec : c = i
      · exact absurd (ea.trans ec.symm) hac
      · rw [if_pos ea, if_neg ec]
        have := hgu c hc; omega
    · by_cases ec : c = i
      · rw [if_neg ea, if_pos ec]
        have := hgu a ha; omega
      · rw [if_neg ea, if_neg ec]; exact h'.apart a c ha hc hac

theorem Try.infoTN : (Try.prog.info? 132).map (fun i => (i.zero, i.size, i.bytes)) = some (some (.agg #[.int .i64 0, .int .i64 0, .slice none 0 0]), 3, 40) := by kernel_rfl

theorem Try.underlyingRTN : Try.prog.underlying 31 = some (.slice 132) := by kernel_rfl

/-- A new row that holds the same. -/
def RetTens (W : World) (N : Nat) (T : Nat → TN) (e : Ending) (w' : World) : Prop :=
  ∃ a c T', e = .returned (.slice a N c) ∧ TVO w' W.heap.size w'.heap.size a N T' ∧ (∀ i, i < N → TnSame (T i) (T' i)) ∧ Below W.heap.size W w'

set_option maxRecDepth 100000 in
set_option maxHeartbeats 1600000 in
theorem toTenS_any (a : Option Addr) (N c : Nat) (T : Nat → TN) (w : World) (h : TV w a N T) (hN : N ≤ 1048576) (hn : ∀ i, i < N → (T i).n ≤ 1048576) :
    Calls Try.prog 29 #[.slice a N c] w (RetTens w N T) := by
  obtain ⟨i0, hi, hz0, hz1, hz2⟩ := info_parts Try.infoTN
  have H := Lib.hid h; have HN := Lib.hid hn
  clear h hn
  go_enter Try.func29, Try.ntmps29
  go_wp2_with (at_make; refine wpList_make_full _ rfl _ _ 31 rfl w.heap.size 132 i0 (.agg #[.int .i64 0, .int .i64 0, .slice none 0 0]) 3 Try.underlyingRTN hi hz0 hz1 .i64 .i64 N N N rfl rfl rfl rfl (by rw [hz2]; omega) (by unfold maxLen; omega) (Nat.le_refl _) ?_; intro w1 hown1 hgrow1)
  have hb1 : Below w.heap.size w w1 := (Below.refl _ _).grown hgrow1 (Nat.le_refl _) (by intro k hk; simp at hk)
  have HB1 := Lib.hid hb1
  rcases Nat.eq_zero_or_pos N with rfl | hp
  · clear hown1 hgrow1 hb1
    go_loop [4] (fun p => p = .int .i64 0) (fun _ => 0)
    case atStart => rfl
    case round =>
      obtain rfl := hrel
      go_wp2
      go_ret
      exact ⟨_, _, (fun _ => tz), rfl, .inl rfl, fun i hi => by omega, HB1.out⟩
  have hgm := town_made (b := w.heap.size) (lo := w.heap.size) hown1 (Nat.le_refl _) hp
  have HG := Lib.hid hgm
  have hb2 := hb1.size
  clear hown1 hgrow1 hb1 hgm
  go_loopw [4] (fun p wr => ∃ (i : Nat) (T' : Nat → TN), i ≤ N ∧ p = .int .i64 (i : Int) ∧ Hid (Below w.heap.size w wr) ∧ Hid (TOwn wr w.heap.size wr.heap.size w.heap.size 0 N (fun j => if j < i then T' j else tz)) ∧ Hid (∀ j, j < i → TnSame (T j) (T' j))) (fun p _ => N - (intOf p).toNat)
  case atStart => exact ⟨0, (fun _ => tz), Nat.zero_le _, rfl, HB1, by simpa using HG, fun j hj => by omega⟩
  case round =>
    obtain ⟨i, T', hi9, rfl, HBr, HR, HE⟩ := hrel
    by_cases hlt : i < N
    · have hlt' : (i : Int) < (N : Int) := by omega
      have hi0 : (0 : Int) ≤ (i : Int) := by omega
      rcases H.out.below HBr.out with h0 | ⟨b, q, rfl, hg⟩
      · omega
      · have lt := hg.lt
        obtain ⟨x0, x1, x2⟩ := hg.thr i hlt
        have hsr := hg.slo i hlt
        have HSR := Lib.hid hsr
        have hnm := HN.out i hlt
        obtain ⟨U, hU⟩ : ∃ U : Nat → TN, U = fun j => if j < i then T' j else tz := ⟨_, rfl⟩
        have hR : TOwn wr w.heap.size wr.heap.size w.heap.size 0 N U := by rw [hU]; exact HR.out
        have HRU := Lib.hid hR; have HU := Lib.hid hU
        have hzr := HBr.out.size
        have lR := hR.lt
        clear hg hsr hU hR HR
        go_wp2_with fail
        refine (toTen_any (T i) _ HSR.out hnm).mono ?_
        rintro e w2 ⟨t', u1, u2, u3, u4, rfl, ho, hb⟩
        have hs' : TnSame (T i) t' := ⟨u1.symm, u2.symm, u3.symm, fun j _ => by rw [u4]⟩
        have hq := town_put (i := i) HRU.out hlt hb ho
        have h6 := ((HRU.out.below hb).thr i hlt); have h7 := ((HRU.out.below hb).free i hlt)
        rw [Nat.zero_add] at h6 h7 hq
        obtain ⟨y0, y1, y2⟩ := h6
        obtain ⟨f0, f1, f2⟩ := h7
        have l2 : w.heap.size < w2.heap.size := by have := hb.size; omega
        have HQ := Lib.hid hq; have HS' := Lib.hid hs'; have HB2 := Lib.hid (thru0 HBr.out hb)
        clear ho hb hq hs' x0 x1 x2 u1 u2 u3 u4
        go_wp2
        go_roundw
        case rel =>
          refine ⟨i + 1, fun j => if j = i then t' else T' j, by omega, by go_num, HB2.out.trans HQ.out.2, HQ.out.1.congr fun j hj => ?_, fun j hj => ?_⟩
          · by_cases e : j = i
            · subst e; simp
            · have h2 : (j < i + 1) = (j < i) := by simp only [eq_iff_iff]; omega
              simp only [if_neg e, HU.out, h2]
          · by_cases e : j = i
            · subst e; simp only [if_true]; exact HS'.out
            · simp only [if_neg e]; exact HE.out j (by omega)
        case measure => simp [intOf]; omega
    · obtain rfl : i = N := by omega
      go_wp2
      go_ret
      exact ⟨_, _, T', rfl, .inr ⟨w.heap.size, 0, rfl, HR.out.congr fun j hj => by simp [hj]⟩, HE.out, HBr.out⟩
end Go.Proofs.Ytnpklnpicelcmaa

namespace Go.Proofs.Ytnpklnpicelcmaa
open Go.RowKit
set_option linter.unusedVariables false

set_option maxRecDepth 100000 in
set_option maxHeartbeats 800000 in
theorem szHeap_any (h ac bu : Int) (a : Option Addr) (n c : Nat) (ta : Option Addr) (N tc : Nat) (T : Nat → TN) (l : Int) (w : World) (ht : TV w ta N T) (hn : n ≤ maxLen) (hN : N ≤ maxLen) (hm : ∀ i, i < N → (T i).n ≤ maxLen) (hl0 : 0 ≤ l) (hl : l ≤ 1048576) :
    Calls Try.prog 5 #[.agg #[.int .i64 h, .slice a n c, .int .i64 ac, .int .i64 bu, .slice ta N tc], .int .i64 l] w (fun e w' => Below w.heap.size w w' ∧ ∃ r : Int, e = .returned (.int .i64 r) ∧ r ≤ l ∧ (r = -1 ∨ (0 ≤ r ∧ (n : Int) ≤ l ∧ (N : Int) ≤ l ∧ ∀ i, i < N → ((T i).n : Int) ≤ l))) := by
  have G := Lib.hid ht; have HM := Lib.hid hm
  clear ht hm
  have HB0 := Lib.hid ((Below.refl w.heap.size w).alloc (Nat.le_refl _) (.cells #[.int .i64 h, .slice a n c, .int .i64 ac, .int .i64 bu, .slice ta N tc] 27))
  have A_0 := Lib.hid (Blk.new_at (w := w) (cs := #[.int .i64 h, .slice a n c, .int .i64 ac, .int .i64 bu, .slice ta N tc]) (t := 27) w.heap.size rfl)
  by_cases h1 : (n : Int) ≤ l
  · have h9 : ¬ l - (n : Int) < 0 := by omega
    go_enter Try.func5, Try.ntmps5
    go_wp2_with fail
    refine (szArena_ok h ac bu a n c l _ hl0 hl hn h1).mono ?_
    rintro e w1 ⟨rfl, hb⟩
    have HB1 := Lib.hid (thru0 HB0.out hb); have A_1 := Lib.hid (A_0.out.below hb)
    clear hb A_0 HB0
    have c4 := A_1.out.at 4 rfl; have lA := A_1.out.1
    go_wp2_with fail
    refine (szTenS_any ta N tc T (l - (n : Int)) _ (G.out.below HB1.out) hN HM.out (by omega) (by omega)).mono ?_
    rintro e w2 ⟨hb, r, rfl, hr1, hr2⟩
    have HB2 := Lib.hid (thru0 HB1.out hb)
    clear hb
    rcases hr2 with rfl | ⟨h0, h3, h2⟩
    · go_wp2
      go_ret
      exact ⟨HB2.out, -1, rfl, by omega, .inl rfl⟩
    · have h8 : ¬ r < 0 := by omega
      have H2 := Lib.hid h2
      clear h2
      go_wp2
      go_ret
      exact ⟨HB2.out, r, rfl, by omega, .inr ⟨h0, h1, by omega, fun i hi => by have := H2.out i hi; omega⟩⟩
  · go_enter Try.func5, Try.ntmps5
    go_wp2_with fail
    refine (szArena_no h ac bu a n c l _ hl0 hl hn (by omega)).mono ?_
    rintro e w1 ⟨rfl, hb⟩
    have HB1 := Lib.hid (thru0 HB0.out hb)
    clear hb
    go_wp2
    go_ret
    exact ⟨HB1.out, -1, rfl, by omega, .inl rfl⟩

/-- A new heap that holds the same. -/
def RetTH (W : World) (h : Int) (n : Nat) (f : Nat → Int) (ac bu : Int) (N : Nat) (T : Nat → TN) (e : Ending) (w' : World) : Prop :=
  ∃ (a : Option Addr) (c : Nat) (ta : Option Addr) (tc mid : Nat) (U : Nat → TN), e = .returned (.agg #[.int .i64 h, .slice a n c, .int .i64 ac, .int .i64 bu, .slice ta N tc]) ∧ OwnIn w' W.heap.size mid a n f ∧ TVO w' mid w'.heap.size ta N U ∧ W.heap.size ≤ mid ∧ mid ≤ w'.heap.size ∧ (∀ i, i < N → TnSame (T i) (U i)) ∧ Below W.heap.size W w' ∧ n ≤ c ∧ c ≤ maxLen

set_option maxRecDepth 100000 in
set_option maxHeartbeats 1600000 in
theorem toHeap_any (h ac bu : Int) (a : Option Addr) (n c : Nat) (f : Nat → Int) (ta : Option Addr) (N tc : Nat) (T : Nat → TN) (w : World) (hs : Src w a n f) (ht : TV w ta N T) (hn : n ≤ 1048576) (hN : N ≤ 1048576) (hm : ∀ i, i < N → (T i).n ≤ 1048576) :
    Calls Try.prog 7 #[.agg #[.int .i64 h, .slice a n c, .int .i64 ac, .int .i64 bu, .slice ta N tc]] w (RetTH w h n f ac bu N T) := by
  have S0 := Lib.hid hs; have G := Lib.hid ht; have HM := Lib.hid hm
  clear hs ht hm
  go_enter Try.func7, Try.ntmps7
  go_wp2_with fail
  refine (toArena_any h ac bu a n c f _ (((S0.out.alloc _).alloc _).alloc _) hn).mono ?_
  rintro e w1 ⟨a', c', rfl, ho, hb, hnc, hcm, _⟩
  have A_1 := Lib.hid ((((Blk.new_at (w := w) (cs := #[.int .i64 h, .slice a n c, .int .i64 ac, .int .i64 bu, .slice ta N tc]) (t := 27) w.heap.size rfl).alloc _).alloc _).below hb)
  have R_1 := Lib.hid (((Blk.new_at (w := w.alloc (.cells #[.int .i64 h, .slice a n c, .int .i64 ac, .int .i64 bu, .slice ta N tc] 27)) (cs := #[.int .i64 0, .slice none 0 0, .int .i64 0, .int .i64 0, .slice none 0 0]) (t := 33) (w.heap.size + 1) (by simp)).alloc _).below hb)
  have O_1 := Lib.hid ((Blk.new_at (w := (w.alloc (.cells #[.int .i64 h, .slice a n c, .int .i64 ac, .int .i64 bu, .slice ta N tc] 27)).alloc (.cells #[.int .i64 0, .slice none 0 0, .int .i64 0, .int .i64 0, .slice none 0 0] 33)) (cs := #[.int .i64 0, .slice none 0 0, .int .i64 0, .int .i64 0, .slice none 0 0]) (t := 33) (w.heap.size + 2) (by simp)).below hb)
  have HB1 := Lib.hid (((((Below.refl w.heap.size w).alloc (Nat.le_refl _) _).alloc (by simp) _).alloc (by simp; omega) _).trans (hb.mono (by simp; omega)))
  have z1 : w.heap.size + 3 ≤ w1.heap.size := by have := hb.size; simp at this; omega
  have HO1 := Lib.hid ((ho.mono (B' := w.heap.size + 3) (by simp)).into)
  clear hb ho S0
  have cA4 := A_1.out.at 4 rfl; have lA := A_1.out.1
  have cO0 := O_1.out.at 0 rfl; have fO0 := O_1.out.free 0 rfl; have cO1 := O_1.out.at 1 rfl; have fO1 := O_1.out.free 1 rfl; have cO2 := O_1.out.at 2 rfl; have fO2 := O_1.out.free 2 rfl; have cO3 := O_1.out.at 3 rfl; have fO3 := O_1.out.free 3 rfl; have cO4 := O_1.out.at 4 rfl; have fO4 := O_1.out.free 4 rfl; have lO := O_1.out.1
  go_wp2_with fail
  obtain ⟨ws, hws⟩ : ∃ ws, ws = (((w1.setCell ⟨w.heap.size + 1 + 1, 0, none⟩ (.int .i64 h)).setCell ⟨w.heap.size + 1 + 1, 1, none⟩ (.slice a' n c')).setCell ⟨w.heap.size + 1 + 1, 2, none⟩ (.int .i64 ac)).setCell ⟨w.heap.size + 1 + 1, 3, none⟩ (.int .i64 bu) := ⟨_, rfl⟩
  have hkw : Keeps w1 ws (w.heap.size + 2) (w.heap.size + 2 + 1) := by
    rw [hws]
    repeat (refine Keeps.trans ?_ (keeps_setCell (by (try simp); (try omega)) (by (try simp); (try omega)) _))
    exact Keeps.refl _ _ _
  have HBs : Hid (Below w.heap.size w ws) := Lib.hid (HB1.out.trans (hkw.below (by omega) HB1.out.size))
  have O_s : Hid (Blk ws (w.heap.size + 2) [.int .i64 h, .slice a' n c', .int .i64 ac, .int .i64 bu, .slice none 0 0]) := Lib.hid (by rw [hws]; exact (((O_1.out.set 0 (by simp) _).set 1 (by simp) _).set 2 (by simp) _).set 3 (by simp) _)
  have R_s := Lib.hid (R_1.out.keeps hkw (.inl (by omega)))
  have HOs := Lib.hid (HO1.out.keeps hkw (.inr (by omega)))
  have Gs := Lib.hid (G.out.below HBs.out)
  have zs : w.heap.size + 3 ≤ ws.heap.size := by have := hkw.size; omega
  have zz : ws.heap.size = w1.heap.size := by rw [hws]; simp
  rw [← hws]
  have HZ := Lib.hid zz
  clear hws hkw O_1 R_1 A_1 HB1 HO1 G cA4 cO0 fO0 cO1 fO1 cO2 fO2 cO3 fO3 cO4 fO4 lA lO zz
  refine (toTenS_any ta N tc T _ Gs.out hN HM.out).mono ?_
  rintro e w2 ⟨ta', tc', U, rfl, hno, hsm, hb⟩
  have HB2 := Lib.hid (thru0 HBs.out hb)
  have O_1 := Lib.hid (O_s.out.below hb); have R_1 := Lib.hid (R_s.out.below hb)
  have HO2 := Lib.hid (HOs.out.below hb); have HNO := Lib.hid hno; have HSM := Lib.hid hsm
  have z2 : ws.heap.size ≤ w2.heap.size := hb.size
  clear hb hno hsm O_s R_s HBs HOs Gs
  have cR0 := R_1.out.at 0 rfl; have fR0 := R_1.out.free 0 rfl; have cR1 := R_1.out.at 1 rfl; have fR1 := R_1.out.free 1 rfl; have cR2 := R_1.out.at 2 rfl; have fR2 := R_1.out.free 2 rfl; have cR3 := R_1.out.at 3 rfl; have fR3 := R_1.out.free 3 rfl; have cR4 := R_1.out.at 4 rfl; have fR4 := R_1.out.free 4 rfl; have lR := R_1.out.1
  have cO0 := O_1.out.at 0 rfl; have fO0 := O_1.out.free 0 rfl; have cO1 := O_1.out.at 1 rfl; have fO1 := O_1.out.free 1 rfl; have cO2 := O_1.out.at 2 rfl; have fO2 := O_1.out.free 2 rfl; have cO3 := O_1.out.at 3 rfl; have fO3 := O_1.out.free 3 rfl; have cO4 := O_1.out.at 4 rfl; have fO4 := O_1.out.free 4 rfl; have lO := O_1.out.1
  go_wp2
  refine bodyPost_ret (v := .agg #[.int .i64 h, .slice a' n c', .int .i64 ac, .int .i64 bu, .slice ta' N tc']) (by simp [results, Try.results7, go_sem, cR0, cR1, cR2, cR3, cR4]) rfl ⟨a', c', ta', tc', ws.heap.size, U, rfl, ?_, ?_, by omega, by (try simp); omega, HSM.out, ?_, hnc, hcm⟩
  · refine OwnIn.widen (lo := w.heap.size + 3) (hi := w1.heap.size) ?_ (by omega) (Nat.le_of_eq HZ.out.symm)
    refine OwnIn.keeps (lo' := w.heap.size + 1) (hi' := w.heap.size + 3) HO2.out ?_ (.inr (by omega))
    repeat (refine Keeps.trans ?_ (keeps_setCell (by (try simp); (try omega)) (by (try simp); (try omega)) _))
    exact Keeps.refl _ _ _
  · refine TVO.widen (lo := ws.heap.size) (hi := w2.heap.size) ?_ (Nat.le_refl _) (by simp)
    refine TVO.keeps (lo' := w.heap.size + 1) (hi' := w.heap.size + 3) HNO.out ?_ (.inr (by omega))
    repeat (refine Keeps.trans ?_ (keeps_setCell (by (try simp); (try omega)) (by (try simp); (try omega)) _))
    exact Keeps.refl _ _ _
  · repeat (with_reducible refine Below.setCell ?_ (by (try simp); (try omega)) _)
    exact HB2.out

set_option maxRecDepth 100000 in
set_option maxHeartbeats 800000 in
theorem eqHeap_same (h ac bu : Int) (a a' : Option Addr) (n c c' : Nat) (f g : Nat → Int) (ta ta' : Option Addr) (N tc tc' : Nat) (T U : Nat → TN) (w : World) (s1 : Src w a n f) (s2 : Src w a' n g) (t1 : TV w ta N T) (t2 : TV w ta' N U) (he : ∀ i, i < n → f i = g i) (hs : ∀ i, i < N → TnSame (T i) (U i)) (hn : n ≤ 1048576) (hN : N ≤ 1048576) (hm : ∀ i, i < N → (T i).n ≤ 1048576) :
    Calls Try.prog 9 #[.agg #[.int .i64 h, .slice a n c, .int .i64 ac, .int .i64 bu, .slice ta N tc], .agg #[.int .i64 h, .slice a' n c', .int .i64 ac, .int .i64 bu, .slice ta' N tc']] w (RetBool w true) := by
  have S1 := Lib.hid s1; have S2 := Lib.hid s2; have T1 := Lib.hid t1; have T2 := Lib.hid t2; have HE := Lib.hid he; have HS := Lib.hid hs; have HM := Lib.hid hm
  have HB0 := Lib.hid (((Below.refl w.heap.size w).alloc (Nat.le_refl _) (.cells #[.int .i64 h, .slice a n c, .int .i64 ac, .int .i64 bu, .slice ta N tc] 33)).alloc (by simp) (.cells #[.int .i64 h, .slice a' n c', .int .i64 ac, .int .i64 bu, .slice ta' N tc'] 33))
  have A_0 := Lib.hid ((Blk.new_at (w := w) (cs := #[.int .i64 h, .slice a n c, .int .i64 ac, .int .i64 bu, .slice ta N tc]) (t := 33) w.heap.size rfl).alloc (.cells #[.int .i64 h, .slice a' n c', .int .i64 ac, .int .i64 bu, .slice ta' N tc'] 33))
  have A_1 := Lib.hid (Blk.new_at (w := w.alloc (.cells #[.int .i64 h, .slice a n c, .int .i64 ac, .int .i64 bu, .slice ta N tc] 33)) (cs := #[.int .i64 h, .slice a' n c', .int .i64 ac, .int .i64 bu, .slice ta' N tc']) (t := 33) (w.heap.size + 1) (by simp))
  clear s1 s2 t1 t2 he hs hm
  go_enter Try.func9, Try.ntmps9
  go_wp2_with fail
  refine (eqArena_same h ac bu a a' n c c' f g _ ((S1.out.alloc _).alloc _) ((S2.out.alloc _).alloc _) hn HE.out).mono ?_
  rintro e w1 ⟨rfl, hb⟩
  have HB1 := Lib.hid (HB0.out.trans (hb.mono HB0.out.size))
  have B_0 := Lib.hid (A_0.out.below hb); have B_1 := Lib.hid (A_1.out.below hb)
  clear hb A_0 A_1
  have c0 := B_0.out.at 4 rfl; have c1 := B_1.out.at 4 rfl; have l0 := B_0.out.1; have l1 := B_1.out.1
  go_wp2_with fail
  refine (eqTV_same ta ta' N tc tc' T U _ (T1.out.below HB1.out) (T2.out.below HB1.out) HS.out hN HM.out).mono ?_
  rintro e w2 ⟨rfl, hb⟩
  have HB2 := Lib.hid (thru0 HB1.out hb)
  clear hb
  go_wp2
  go_ret
  exact ⟨rfl, HB2.out⟩
end Go.Proofs.Ytnpklnpicelcmaa

namespace Go.Proofs.Ytnpklnpicelcmaa
open Go.RowKit
set_option linter.unusedVariables false

theorem tnsame_n {N : Nat} {T T' : Nat → TN} (h : ∀ i, i < N → TnSame (T i) (T' i)) (hn : ∀ i, i < N → (T i).n ≤ 1048576) : ∀ i, i < N → (T' i).n ≤ 1048576 := fun i hi => by rw [← (h i hi).2.2.1]; exact hn i hi

theorem cap10Y {w : World} {A X : Nat} {u0 u1 u2 u3 u4 v0 v1 v2 v3 v4 : Value} (hA : Blk w A [u0, u1, u2, u3, u4]) (hX : Blk w X [v0, v1, v2, v3, v4]) : w.cell? ⟨A, 0, none⟩ = some u0 ∧ w.cell? ⟨A, 1, none⟩ = some u1 ∧ w.cell? ⟨A, 2, none⟩ = some u2 ∧ w.cell? ⟨A, 3, none⟩ = some u3 ∧ w.cell? ⟨A, 4, none⟩ = some u4 ∧ w.cell? ⟨X, 0, none⟩ = some v0 ∧ w.cell? ⟨X, 1, none⟩ = some v1 ∧ w.cell? ⟨X, 2, none⟩ = some v2 ∧ w.cell? ⟨X, 3, none⟩ = some v3 ∧ w.cell? ⟨X, 4, none⟩ = some v4 :=
  ⟨hA.at 0 rfl, hA.at 1 rfl, hA.at 2 rfl, hA.at 3 rfl, hA.at 4 rfl, hX.at 0 rfl, hX.at 1 rfl, hX.at 2 rfl, hX.at 3 rfl, hX.at 4 rfl⟩
end Go.Proofs.Ytnpklnpicelcmaa

namespace Go.Proofs.Ytnpklnpicelcmaa
open Go.ChangeShapes Go.WideShapes Go.ChangeAt Go.RowKit Go.Joins Go.Deep
set_option linter.unusedVariables false

theorem Try.cellsY27 : Try.prog.cellsOf 27 = 5 := by kernel_rfl

theorem Try.cellsY24 : Try.prog.cellsOf 24 = 4 := by kernel_rfl

theorem Try.cellsY125 : Try.prog.cellsOf 125 = 3 := by kernel_rfl

theorem Try.cellsY25 : Try.prog.cellsOf 25 = 1 := by kernel_rfl

theorem Try.cellsY123 : Try.prog.cellsOf 123 = 1 := by kernel_rfl
end Go.Proofs.Ytnpklnpicelcmaa

namespace Go.Proofs.Ytnpklnpicelcmaa
open Go.RowKit
set_option linter.unusedVariables false

/-- Each tenant's slots are a row of its own, later ones in later blocks. -/
def FldT (w : World) (lo : Nat) (v : Value) (M : List TN) : Prop :=
  (∀ t ∈ M, t.n = 0 ∨ (lo ≤ t.g ∧ t.g < w.heap.size ∧ some t.g ≠ v.ownBlock ∧ ∃ q, t.a = some ⟨t.g, q, none⟩ ∧ ∀ k, k < t.n → TwoG w t.g (q + k * 2) (t.S k) ∧ TwoF w t.g (q + k * 2))) ∧ M.Pairwise (fun t u => t.n = 0 ∨ u.n = 0 ∨ t.g < u.g)

theorem FldT.block {w w' : World} {lo : Nat} {v : Value} {M : List TN} (h : FldT w lo v M) (hz : w.heap.size ≤ w'.heap.size) (hb : ∀ b, lo ≤ b → b < w.heap.size → some b ≠ v.ownBlock → w'.heap[b]? = w.heap[b]?) : FldT w' lo v M :=
  ⟨fun t ht => by
    rcases h.1 t ht with h0 | ⟨h1, h2, h3, q, h4, h5⟩
    · exact .inl h0
    · have e := hb t.g h1 h2 h3
      exact .inr ⟨h1, Nat.lt_of_lt_of_le h2 hz, h3, q, h4, fun k hk => ⟨(h5 k hk).1.block e, (h5 k hk).2.block e⟩⟩, h.2⟩

theorem FldT.below {w w' : World} {lo : Nat} {v : Value} {M : List TN} (h : FldT w lo v M) (hb : Below w.heap.size w w') : FldT w' lo v M := h.block hb.size fun b _ h2 _ => hb.block b h2
end Go.Proofs.Ytnpklnpicelcmaa

