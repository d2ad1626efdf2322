/- Texts merged: Q10 to X1. -/
import Derived.Test.YtnpklnpicelcmaaGreatPC2
import Derived.Maps.Own
import Derived.Maps.OwnOps
import Derived.Maps.OwnSet
import Derived.OneCell
import Derived.WalkMore
namespace Go.Proofs.YtnpklnpicelcmaaGreat
open Go.RowKit Go.Shelf
attribute [local go_sem] Oper.semAt_some
set_option linter.unusedVariables false

theorem cells_new6 (w : World) (t : GM) : ∀ j u, (gcells t)[j]? = some u → (w.alloc (.cells #[.int .i64 t.at_, .int .i64 t.s, .int .i64 t.m, .int .i64 t.o, .int .i64 t.h, .slice t.a t.n t.c] 102)).cell? ((⟨w.heap.size, 0, none⟩ : Addr).add j) = some u := fun j u h => by
  have := ((Blk.new w #[.int .i64 t.at_, .int .i64 t.s, .int .i64 t.m, .int .i64 t.o, .int .i64 t.h, .slice t.a t.n t.c] 102).2 j u h).1
  cases j with
  | zero => exact this
  | succ j => simpa [Addr.add] using this

theorem row_far {w : World} {base e size n b : Nat} {v : Value} {xs : List Value} (h : w.ownsRow base e size v n xs) (hb : b < base) : v.ownBlock ≠ some b := fun he => by have := (h.lt b he).1; omega

theorem blk_grown {w w' : World} {b : Nat} {cs : List Value} {row : Option Nat} (h : Blk w b cs) (hg : w.grownBy w' row) (hne : row ≠ some b) : Blk w' b cs := blk_block h (hg.block b h.1 (fun e => hne e.symm))

theorem row_set {w : World} {base e size n : Nat} {v : Value} {xs : List Value} (h : w.ownsRow base e size v n xs) {p : Addr} (hp : p.block < base) (u : Value) : (w.setCell p u).ownsRow base e size v n xs := by
  refine ⟨h.1, ?_⟩
  rcases h.2 with h0 | ⟨g, cap, cur, h1, h2, h3, h4⟩
  · exact .inl h0
  · exact .inr ⟨g, cap, cur, h1, h2, (Below.heap_setCell w p u g (by omega)).trans h3, h4⟩

theorem row_cells {w : World} {base e size n : Nat} {v : Value} {xs : List Value} (h : w.ownsRow base e size v n xs) (j : Nat) (o : Obj) (hj : v.ownBlock = some j) (ho : w.heap[j]? = some o) : o.isCells = true := by
  rcases h.2 with ⟨rfl, _⟩ | ⟨g, cap, cur, rfl, _, hg, _⟩
  · simp [Value.ownBlock] at hj
  · simp only [Value.ownBlock, Option.some.injEq] at hj
    subst hj
    rw [hg] at ho
    cases ho; rfl

set_option maxRecDepth 100000 in
set_option maxHeartbeats 800000 in
theorem implOI_fault (h ac bu : Int) (a : Option Addr) (n c : Nat) (f : Nat → Int) (k : Int) (w : World) (hs : Src w a n f) (hk : IsFault h n f ac bu k) (hk0 : ¬ k = 0) :
    Calls Tryz.prog 109 #[.agg #[.int .i64 h, .slice a n c, .int .i64 ac, .int .i64 bu]] w (RetORG w f k []) := by
  have HS := Lib.hid hs; have HK := Lib.hid hk
  clear hs hk
  go_enter Tryz.func109, Tryz.ntmps109
  go_wp2_with fail
  refine (implFault_any h ac bu a n c f k _ ((HS.out.alloc _).alloc _) HK.out).mono ?_
  rintro e w1 ⟨rfl, hb⟩
  have HB1 := Lib.hid (thru2 (Below.refl _ _) hb)
  have R_1 := Lib.hid ((Blk.new_at (w := w.alloc (.cells #[.int .i64 h, .slice a n c, .int .i64 ac, .int .i64 bu] 29)) (cs := #[.int .i64 0, .slice none 0 0]) (t := 118) (w.heap.size + 1) (by simp)).below hb)
  have z1 : w.heap.size + 2 ≤ w1.heap.size := by have := hb.size; simp at this; omega
  clear hb
  have hd : (k != 0) = true := by simpa using hk0
  have lR := R_1.out.1; have cR0 := R_1.out.at 0 rfl; have fR0 := R_1.out.free 0 rfl; have cR1 := R_1.out.at 1 rfl; have fR1 := R_1.out.free 1 rfl
  go_wp2
  refine bodyPost_ret (v := .agg #[.int .i64 k, .slice none 0 0]) (by simp [results, Tryz.results109, go_sem, cR0, cR1]) rfl ⟨none, 0, fun _ => gzero, rfl, .inl rfl, fun i hi => (by simp at hi), ?_, Nat.le_refl _, by simp [maxLen]⟩
  repeat (first | (with_reducible refine Below.setCell ?_ (by (try simp); (try omega)) _) | (with_reducible refine Below.alloc ?_ (by (try simp); (try omega)) _) | (with_reducible refine Below.drew ?_))
  exact HB1.out

set_option maxRecDepth 100000 in
set_option maxHeartbeats 3200000 in
theorem implOI_none (h ac bu : Int) (a : Option Addr) (n c : Nat) (f : Nat → Int) (co : Int) (L : List Ob) (w : World) (hs : Src w a n f) (hnc : n ≤ c) (hcm : c ≤ maxLen) (hk : IsFault h n f ac bu 0)
    (hc : (parse f ((baseI ac h).toNat + bu.toNat) (baseI ac h).toNat = none ∧ co = 1 ∧ L = []) ∨ (parse f ((baseI ac h).toNat + bu.toNat) (baseI ac h).toNat = some L ∧ co = 0)) :
    Calls Tryz.prog 109 #[.agg #[.int .i64 h, .slice a n c, .int .i64 ac, .int .i64 bu]] w (RetORG w f co L) := by
  obtain ⟨⟨⟨g1, g2⟩, ⟨g3, g4⟩, g5, g6⟩, gn, gw⟩ := isFault_ok hk
  have hb0 : 0 ≤ baseI ac h ∧ baseI ac h ≤ h ∧ baseI ac h + h ≤ 2 * h := by rcases (by omega : ac = 0 ∨ ac = 1) with rfl | rfl <;> simp [baseI] <;> omega
  obtain ⟨P, hP⟩ : ∃ P : Nat, baseI ac h = (P : Int) := ⟨(baseI ac h).toNat, by omega⟩
  obtain ⟨U, rfl⟩ : ∃ U : Nat, bu = (U : Int) := ⟨bu.toNat, by omega⟩
  rw [hP, Int.toNat_natCast, Int.toNat_natCast] at hc
  obtain ⟨ab, ao, rfl⟩ : ∃ ab ao, a = some ⟨ab, ao, none⟩ := by
    rcases hs with h0 | ⟨b, off, he, _⟩
    · omega
    · exact ⟨b, off, he⟩
  have hPU : P + U ≤ n := by omega
  have HS := Lib.hid hs; have HK := Lib.hid hk; have HC := Lib.hid hc; have HP := Lib.hid hP; have HCM := Lib.hid hcm
  have HG := Lib.hid (show 8 ≤ h ∧ h ≤ 200 ∧ 0 ≤ ac ∧ ac ≤ 1 ∧ (n : Int) = 2 * h from ⟨g1, g2, g3, g4, gn⟩)
  clear hs hk hc hP hcm gw hb0 g1 g2 g3 g4 g5 g6 gn
  obtain ⟨m, _⟩ : ∃ m : Nat, m = m := ⟨9, rfl⟩
  refine (callsIn_wide (n := m)).1 ?_
  refine callsIn_of_wp_marks Tryz.func109 rfl trivial ?_ rfl
  simp only [Tryz.ntmps109, List.size_toArray, List.length_cons, List.length_nil, Nat.reduceAdd, Nat.reduceSub, Array.replicate_succ, Array.replicate_zero, List.push_toArray, List.append_toArray, List.nil_append, List.cons_append]
  gi_wp2_with fail
  refine ⟨trivial, fun hx => (by simp [Fence.wide] at hx), (callsIn_wide.2 (implFault_any h ac (U : Int) (some ⟨ab, ao, none⟩) n c f 0 _ ((HS.out.alloc _).alloc _) HK.out)).mono ?_⟩
  rintro e w1 ⟨rfl, hb⟩
  have HB1 := Lib.hid (thru2 (Below.refl _ _) hb)
  have A_1 := Lib.hid (((Blk.new_at (w := w) (cs := #[.int .i64 h, .slice (some ⟨ab, ao, none⟩) n c, .int .i64 ac, .int .i64 (U : Int)]) (t := 29) (w.heap.size) rfl).alloc _).below hb)
  have R_1 := Lib.hid ((Blk.new_at (w := w.alloc (.cells #[.int .i64 h, .slice (some ⟨ab, ao, none⟩) n c, .int .i64 ac, .int .i64 (U : Int)] 29)) (cs := #[.int .i64 0, .slice none 0 0]) (t := 118) (w.heap.size + 1) (by simp)).below hb)
  have z1 : w.heap.size + 2 ≤ w1.heap.size := by have := hb.size; simp at this; omega
  clear hb
  have lA := A_1.out.1; have cA0 := A_1.out.at 0 rfl; have fA0 := A_1.out.free 0 rfl; have cA1 := A_1.out.at 1 rfl; have fA1 := A_1.out.free 1 rfl; have cA2 := A_1.out.at 2 rfl; have fA2 := A_1.out.free 2 rfl; have cA3 := A_1.out.at 3 rfl; have fA3 := A_1.out.free 3 rfl
  gi_wp2_with fail
  clear lA cA0 fA0 cA1 fA1 cA2 fA2 cA3 fA3
  refine ⟨trivial, fun hx => (by simp [Fence.wide] at hx), (callsIn_wide.2 (walk_any h ac (U : Int) (some ⟨ab, ao, none⟩) n c _)).mono ?_⟩
  rintro e w2 ⟨rfl, rfl⟩
  have HB0 : Hid (Below w.heap.size w ((w1.alloc (.cells #[.slice none 0 0] 78)).alloc (.cells #[.int .i64 h, .slice (some ⟨ab, ao, none⟩) n c, .int .i64 ac, .int .i64 (U : Int)] 29))) := Lib.hid ((HB1.out.alloc HB1.out.size _).alloc (by have := HB1.out.size; simp; omega) _)
  have T0 : Hid (Blk ((w1.alloc (.cells #[.slice none 0 0] 78)).alloc (.cells #[.int .i64 h, .slice (some ⟨ab, ao, none⟩) n c, .int .i64 ac, .int .i64 (U : Int)] 29)) w1.heap.size [.slice none 0 0]) := Lib.hid ((Blk.new_at (w := w1) (cs := #[.slice none 0 0]) (t := 78) w1.heap.size rfl).alloc _)
  have A0 : Hid (Blk ((w1.alloc (.cells #[.slice none 0 0] 78)).alloc (.cells #[.int .i64 h, .slice (some ⟨ab, ao, none⟩) n c, .int .i64 ac, .int .i64 (U : Int)] 29)) (w1.heap.size + 1) [.int .i64 h, .slice (some ⟨ab, ao, none⟩) n c, .int .i64 ac, .int .i64 (U : Int)]) := Lib.hid (Blk.new_at (w := w1.alloc (.cells #[.slice none 0 0] 78)) (cs := #[.int .i64 h, .slice (some ⟨ab, ao, none⟩) n c, .int .i64 ac, .int .i64 (U : Int)]) (t := 29) (w1.heap.size + 1) (by simp))
  have R0 : Hid (Blk ((w1.alloc (.cells #[.slice none 0 0] 78)).alloc (.cells #[.int .i64 h, .slice (some ⟨ab, ao, none⟩) n c, .int .i64 ac, .int .i64 (U : Int)] 29)) (w.heap.size + 1) [.int .i64 0, .slice none 0 0]) := Lib.hid ((R_1.out.alloc _).alloc _)
  have z0 : ((w1.alloc (.cells #[.slice none 0 0] 78)).alloc (.cells #[.int .i64 h, .slice (some ⟨ab, ao, none⟩) n c, .int .i64 ac, .int .i64 (U : Int)] 29)).heap.size = w1.heap.size + 2 := by simp
  gi_wp2
  generalize (w1.alloc (.cells #[.slice none 0 0] 78)).alloc (.cells #[.int .i64 h, .slice (some ⟨ab, ao, none⟩) n c, .int .i64 ac, .int .i64 (U : Int)] 29) = W0 at *
  have z0' : w.heap.size + 4 ≤ W0.heap.size := by omega
  have hn0 : w.heap.size ≤ W0.heap.size := by omega
  have hA1 : w1.heap.size + 1 < W0.heap.size := by omega
  have HZ0 := Lib.hid z0
  clear HB1 R_1 A_1 z0
  obtain ⟨i0, hi, hi0, hi1, hi2⟩ := info_parts Tryz.info102
  refine range_objs (gf := 125) (lb := #[.pointer (some ⟨w1.heap.size + 1, 0, none⟩)]) rfl (enters_of Tryz.func125 (by kernel_rfl) rfl)
    (fun xs => ∃ L', parse f (P + U) P = some L' ∧ Match f xs L') (parse f (P + U) P = none)
    (fun pre V => Below w.heap.size w V ∧ Blk V (w.heap.size + 1) [.int .i64 0, .slice none 0 0] ∧ ∃ va vc, Blk V w1.heap.size [.slice va pre.length vc] ∧ V.ownsRow W0.heap.size 102 6 (.slice va pre.length vc) pre.length (rowG pre) ∧ FldG V W0.heap.size (.slice va pre.length vc) pre)
    (fun V => Below w.heap.size w V ∧ Blk V (w.heap.size + 1) [.int .i64 1, .slice none 0 0])
    w.heap.size (w1.heap.size + 1) hn0 hA1 ?stable ?stablex ?start ?iter
    (fun v B => { tmps := #[.agg #[.int .i64 h, .slice (some ⟨ab, ao, none⟩) n c, .int .i64 ac, .int .i64 (U : Int)], .pointer (some ⟨w.heap.size, 0, none⟩), .pointer (some ⟨w.heap.size + 1, 0, none⟩), .int .i64 0, .pointer (some ⟨w1.heap.size, 0, none⟩), .pointer (some ⟨B, 0, none⟩), .agg #[.int .i64 h, .slice (some ⟨ab, ao, none⟩) n c, .int .i64 ac, .int .i64 (U : Int)], .int .i64 0, .int .i64 0, .bool false, undef, undef, .agg #[.int .i64 h, .slice (some ⟨ab, ao, none⟩) n c, .int .i64 ac, .int .i64 (U : Int)], .func (.func 125) #[] #[.pointer (some ⟨w1.heap.size + 1, 0, none⟩)], v, undef, undef, undef, undef, undef, undef, undef, undef, undef, undef, undef, undef, undef], defers := [] })
    ?assign ?go ?no ?done ?stop
  case stable =>
    rintro s V V' ⟨h1, h2, va, vc, h3, h4, h5⟩ hT
    exact ⟨h1.trans (hT.below hn0 h1.size), hT.blk h2 (by simp), va, vc, hT.blk h3 (by simp), hT.row h4, hT.fld h5⟩
  case stablex =>
    rintro V V' ⟨h1, h2⟩ hT
    exact ⟨h1.trans (hT.below hn0 h1.size), hT.blk h2 (by simp)⟩
  case start => exact ⟨HB0.out, R0.out, none, 0, T0.out, World.ownsRow_nil _ _ _ _, ⟨fun t ht => (by cases ht), List.Pairwise.nil⟩⟩
  case iter =>
    intro l J Jx W1 hb hJ hgo hno hJ0
    obtain ⟨g1, g2, g3, g4, gn⟩ := HG.out
    refine (iter_in (m - 1) l (w1.heap.size + 1) h ac ab ao n c P U f w W1 J Jx hJ hgo hno HS.out (HB0.out.trans (hb.mono hn0)) (A0.out.below hb) g1 g2 g3 g4 HP.out gn hPU hnc HCM.out hJ0).mono ?_
    rintro e V' ⟨hv, ⟨L', xs, h1, h2, h3⟩ | h1⟩
    · exact ⟨hv, .inl ⟨xs, ⟨L', h1, h2⟩, h3⟩⟩
    · exact ⟨hv, .inr h1⟩
  case assign =>
    intro l c0 c1 c2 c3 c4 c5 sa sn sc V1 K hK
    gi_wp2
    exact hK
  case go =>
    rintro l pre t V0 V1 V2 ⟨hB, hR, va, vc, hT, how, hfl⟩ hlen hTn hz hz2 hz0 hX ho
    have T2 := Lib.hid (hTn.blk hT (by simp)); have X2 := Lib.hid hX; have R2 := Lib.hid (hTn.blk hR (by simp)); have OW2 := Lib.hid (hTn.row how); have HFL := Lib.hid hfl; have HTN := Lib.hid hTn; have HO := Lib.hid ho; have HOW := Lib.hid how
    have HB2 := Lib.hid (hB.trans (hTn.below hn0 hB.size))
    have HZ2 := Lib.hid hz2
    have hV02 : V0.heap.size ≤ V2.heap.size := by omega
    clear hT hX hR how hfl hTn ho hB hz2
    have hnew := cells_new6 V2 t
    have lT := T2.out.1; have cT0 := T2.out.at 0 rfl; have fT0 := T2.out.free 0 rfl
    have lX := X2.out.1; have cX0 := X2.out.at 0 rfl; have fX0 := X2.out.free 0 rfl; have cX1 := X2.out.at 1 rfl; have fX1 := X2.out.free 1 rfl; have cX2 := X2.out.at 2 rfl; have fX2 := X2.out.free 2 rfl; have cX3 := X2.out.at 3 rfl; have fX3 := X2.out.free 3 rfl; have cX4 := X2.out.at 4 rfl; have fX4 := X2.out.free 4 rfl; have cX5 := X2.out.at 5 rfl; have fX5 := X2.out.free 5 rfl; have cX6 := X2.out.at 6 rfl; have fX6 := X2.out.free 6 rfl
    gi_wp2_with (gi_at_builtin; go_loud (refine wpListIn_append_own_at _ rfl _ _ 78 rfl W0.heap.size 102 i0 _ 6 64 Tryz.underlying78 hi hi0 hi1 hi2 rfl (by decide) _ pre.length _ rfl (OW2.out.alloc _) ⟨V2.heap.size, 0, none⟩ 1 1 (gcells t) rfl rfl hnew (by intro u hu; simp [gcells] at hu; rcases hu with rfl | rfl | rfl | rfl | rfl | rfl <;> rfl) (by unfold maxLen; omega) (by omega) (by simp; omega) ?_); intro v' w4 hown hgrow _ hat; obtain ⟨g', cap', rfl⟩ := ownsRow_succ hown; have T3 := Lib.hid (blk_grown (T2.out.alloc _) hgrow (row_far OW2.out (by omega))); clear lT cT0 fT0; have lT := T3.out.1; have cT0 := T3.out.at 0 rfl; have fT0 := T3.out.free 0 rfl)
    clear lT cT0 fT0 lX cX0 cX1 cX2 cX3 cX4 cX5 cX6 fX0 fX1 fX2 fX3 fX4 fX5 fX6
    have z := HZ0.out
    have hsv : some (⟨g', 0, none⟩ : Addr) = some ⟨g', 0, none⟩ := rfl
    have hfar : ∀ b, b < W0.heap.size → some b ≠ (Value.slice va pre.length vc).ownBlock := fun b hb e => row_far OW2.out hb e.symm
    have hBn : ∀ n1, n1 ≤ w1.heap.size → Below n1 V2 (w4.setCell ⟨w1.heap.size, 0, none⟩ (.slice (some ⟨g', 0, none⟩) (pre.length + 1) cap')) := fun n1 h1 =>
      (((Below.refl n1 V2).alloc (by omega) _).grown hgrow (by simp; omega) (fun k e => by have := (OW2.out.lt k e).1; omega)).setCell h1 _
    refine ⟨(KeepsOthers.alloc V2 _).trans ((KeepsOthers.of_grownBy hgrow (row_cells (OW2.out.alloc _))).trans (KeepsOthers.setCell _ _ _)), ⟨HB2.out.trans (hBn _ (by omega)), (blk_grown (R2.out.alloc _) hgrow (row_far OW2.out (by omega))).other (by simp; omega) _, some ⟨g', 0, none⟩, cap', T3.out.set 0 (by simp) _, row_set (by rw [rowG_snoc]; exact hown) (by show w1.heap.size < W0.heap.size; omega) _, ?_⟩, hBn _ (by omega), ?_, fun b hb1 hb2 => ?_⟩
    · exact (FldG.snoc t HFL.out (by simp; omega) (fun b o hb hc => (Below.heap_alloc _ _ _ (Array.getElem?_eq_some_iff.1 (HTN.out.same b o hb (.inr hc))).1).trans (HTN.out.same b o hb (.inr hc))) hgrow hat hz0 (fun k e => (HOW.out.lt k e).2) (HO.out.alloc _)).block (by simp) (fun b h1 _ _ => Below.heap_setCell _ _ _ b (by show b ≠ w1.heap.size; omega))
    · exact (Below.heap_setCell _ _ _ _ (by show w1.heap.size + 1 ≠ w1.heap.size; omega)).trans ((hgrow.block _ (by simp; omega) (hfar _ hA1)).trans (Below.heap_alloc _ _ _ (by omega)))
    · exact (Below.heap_setCell _ _ _ _ (by show b ≠ w1.heap.size; omega)).trans ((hgrow.block _ (by simp; omega) (fun e => by have := (HOW.out.lt b e.symm).2; omega)).trans (Below.heap_alloc _ _ _ hb2))
  case no =>
    rintro l pre V0 V1 V2 ⟨hB, hR, va, vc, hT, how, hfl⟩ hTn hz hz2 hz0 hX
    have X2 := Lib.hid hX; have R2 := Lib.hid (hTn.blk hR (by simp))
    have HB2 := Lib.hid (hB.trans (hTn.below hn0 hB.size))
    clear hT hX hR how hfl hTn hB
    have lX := X2.out.1; have cX0 := X2.out.at 0 rfl; have fX0 := X2.out.free 0 rfl; have cX1 := X2.out.at 1 rfl; have fX1 := X2.out.free 1 rfl; have cX2 := X2.out.at 2 rfl; have fX2 := X2.out.free 2 rfl; have cX3 := X2.out.at 3 rfl; have fX3 := X2.out.free 3 rfl; have cX4 := X2.out.at 4 rfl; have fX4 := X2.out.free 4 rfl; have cX5 := X2.out.at 5 rfl; have fX5 := X2.out.free 5 rfl; have cX6 := X2.out.at 6 rfl; have fX6 := X2.out.free 6 rfl
    have lR := R2.out.1; have cR0 := R2.out.at 0 rfl; have fR0 := R2.out.free 0 rfl; have cR1 := R2.out.at 1 rfl; have fR1 := R2.out.free 1 rfl
    gi_wp2
    exact ⟨(KeepsOthers.setCell _ _ _).trans (KeepsOthers.setCell _ _ _), HB2.out.trans (((Below.refl _ V2).setCell (by show w.heap.size ≤ w.heap.size + 1; omega) _).setCell (by show w.heap.size ≤ w.heap.size + 1; omega) _), (R2.out.set 0 (by simp) _).set 1 (by simp) _⟩
  case done =>
    rintro D xs V hD ⟨L', h1, h2⟩ ⟨hB, hR, va, vc, hT, how, hfl⟩ hK
    have T2 := Lib.hid hT; have R2 := Lib.hid hR
    have lT := T2.out.1; have cT0 := T2.out.at 0 rfl; have fT0 := T2.out.free 0 rfl
    have lR := R2.out.1; have cR0 := R2.out.at 0 rfl; have fR0 := R2.out.free 0 rfl; have cR1 := R2.out.at 1 rfl; have fR1 := R2.out.free 1 rfl
    gi_wp2
    clear lT cT0 fT0 lR cR0 cR1 fR0 fR1
    have hRD : (⟨w.heap.size + 1, 0, none⟩ : Addr).block < W0.heap.size := by show w.heap.size + 1 < W0.heap.size; omega
    have hK' := ((KeepsOthers.setCell V ⟨w.heap.size + 1, 0, none⟩ (.int .i64 0)).trans (KeepsOthers.setCell _ ⟨w.heap.size + 1, 1, none⟩ (.slice va xs.length vc))).same D _ hK rfl
    have hBV := ((Below.refl w.heap.size V).setCell (p := ⟨w.heap.size + 1, 0, none⟩) (by show w.heap.size ≤ w.heap.size + 1; omega) (.int .i64 0)).setCell (p := ⟨w.heap.size + 1, 1, none⟩) (by show w.heap.size ≤ w.heap.size + 1; omega) (.slice va xs.length vc)
    have hRV : Blk ((V.setCell ⟨w.heap.size + 1, 0, none⟩ (.int .i64 0)).setCell ⟨w.heap.size + 1, 1, none⟩ (.slice va xs.length vc)) (w.heap.size + 1) [.int .i64 0, .slice va xs.length vc] := (R2.out.set 0 (by simp) _).set 1 (by simp) _
    have hOV := row_set (row_set how hRD (.int .i64 0)) (p := ⟨w.heap.size + 1, 1, none⟩) hRD (.slice va xs.length vc)
    have hFV : FldG ((V.setCell ⟨w.heap.size + 1, 0, none⟩ (.int .i64 0)).setCell ⟨w.heap.size + 1, 1, none⟩ (.slice va xs.length vc)) W0.heap.size (.slice va xs.length vc) xs := hfl.block (by simp) (fun b hb _ _ => (Below.heap_setCell _ _ _ b (by show b ≠ w.heap.size + 1; omega)).trans (Below.heap_setCell _ _ _ b (by show b ≠ w.heap.size + 1; omega)))
    have hzV : V.heap.size ≤ ((V.setCell ⟨w.heap.size + 1, 0, none⟩ (.int .i64 0)).setCell ⟨w.heap.size + 1, 1, none⟩ (.slice va xs.length vc)).heap.size := by simp
    generalize (V.setCell ⟨w.heap.size + 1, 0, none⟩ (.int .i64 0)).setCell ⟨w.heap.size + 1, 1, none⟩ (.slice va xs.length vc) = Vf at *
    have hTF : Turn W0.heap.size Vf (Vf.putObj D (.deferred none)) := Turn.put _ hD hK' rfl
    have hRW := hTF.blk hRV (by simp)
    obtain ⟨rfl, rfl⟩ : co = 0 ∧ L = L' := by
      rcases HC.out with ⟨hx, _⟩ | ⟨hx, hy⟩
      · rw [hx] at h1; cases h1
      · rw [hx] at h1; cases h1; exact ⟨hy, rfl⟩
    obtain ⟨a', c', he, hg⟩ := rowG_GVO (hTF.row hOV) (hTF.fld hFV) (Nat.le_refl _)
    simp only [Value.slice.injEq] at he
    obtain ⟨rfl, _, rfl⟩ := he
    obtain ⟨hc1, hc2⟩ := row_cap (hTF.row hOV)
    have hBF := (hB.trans hBV).trans (hTF.below hn0 (by have := hB.size; omega))
    have c0 := hRW.at 0 rfl
    have c1 := hRW.at 1 rfl
    refine ⟨by simp, .inl ⟨_, _, rfl, run_takeDeferred hK', ?_⟩⟩
    refine ⟨.agg #[.int .i64 0, .slice va xs.length vc], by simp [results, Tryz.results109, go_sem, c0, c1], ?_⟩
    rw [h2.1] at hg hc1 ⊢
    exact ⟨va, vc, gT xs, rfl, gvo_mono hg hn0, match_same h2, hBF, hc1, hc2⟩
  case stop =>
    rintro D V hD hN ⟨hB, hR⟩ hK
    gi_wp2
    have hTF : Turn W0.heap.size V (V.putObj D (.deferred none)) := Turn.put _ hD hK rfl
    have hRW := hTF.blk hR (by simp)
    obtain ⟨rfl, rfl⟩ : co = 1 ∧ L = [] := by
      rcases HC.out with ⟨_, hx⟩ | ⟨hx, _⟩
      · exact hx
      · rw [hx] at hN; cases hN
    have hBF := hB.trans (hTF.below hn0 hB.size)
    have c0 := hRW.at 0 rfl
    have c1 := hRW.at 1 rfl
    refine ⟨by simp, .inl ⟨_, _, rfl, run_takeDeferred hK, ?_⟩⟩
    refine ⟨.agg #[.int .i64 1, .slice none 0 0], by simp [results, Tryz.results109, go_sem, c0, c1], ?_⟩
    exact ⟨none, 0, fun _ => gzero, rfl, .inl rfl, fun i hi => (by simp at hi), hBF, Nat.le_refl _, by simp [maxLen]⟩

theorem implOI : ImplOI := fun h ac bu a n c f co L w hs hnc hcm hk => by
  rcases hk with ⟨k, h1, h2, rfl, rfl⟩ | ⟨h1, h2, h3, h4⟩ | ⟨h1, h2, h3⟩
  · exact implOI_fault h ac bu a n c f _ w hs h1 h2
  · exact implOI_none h ac bu a n c f co L w hs hnc hcm h1 (.inl ⟨h2, h3, h4⟩)
  · exact implOI_none h ac bu a n c f co L w hs hnc hcm h1 (.inr ⟨h2, h3⟩)
end Go.Proofs.YtnpklnpicelcmaaGreat

namespace Go.Proofs.YtnpklnpicelcmaaGreat
open Go.RowKit
set_option linter.unusedVariables false

theorem parse_sorted {f : Nat → Int} {e : Nat} : ∀ (d a : Nat) (L : List Ob), e - a ≤ d → parse f e a = some L → L.Pairwise (fun x y => x.at_ < y.at_)
  | d, a, L, hd, hp => by
    by_cases h : a < e
    · by_cases hg : Good f e a
      · rw [parse_good h hg] at hp
        cases hr : parse f e (a + 2 + szOf f a) with
        | none => rw [hr] at hp; cases hp
        | some L' =>
          rw [hr] at hp
          simp only [Option.map_some, Option.some.injEq] at hp
          subst hp
          match d with
          | 0 => omega
          | d + 1 =>
            refine List.pairwise_cons.mpr ⟨fun y hy => ?_, parse_sorted d _ L' (by omega) hr⟩
            have := parse_from (e - (a + 2 + szOf f a)) _ L' (Nat.le_refl _) hr y hy
            show (a : Int) < y.at_
            omega
      · rw [parse_bad h hg] at hp; cases hp
    · rw [parse_stop h] at hp
      cases hp
      exact List.Pairwise.nil

theorem sorted_at {f : Nat → Int} {e a : Nat} {L : List Ob} (hp : parse f e a = some L) (i j : Nat) (hij : i < j) (hj : j < L.length) : (obT f L i).at_ < (obT f L j).at_ := by
  have h := List.pairwise_iff_getElem.mp (parse_sorted (e - a) a L (Nat.le_refl _) hp) i j (by omega) hj hij
  simpa [obT, List.getElem?_eq_getElem hj, List.getElem?_eq_getElem (show i < L.length by omega), xT, obG] using h

theorem sorted_T {f : Nat → Int} {e a : Nat} {L : List Ob} {T : Nat → GM} (hp : parse f e a = some L) (hT : ∀ i, i < L.length → GSame (T i) (obT f L i)) (i j : Nat) (hij : i < j) (hj : j < L.length) : (T i).at_ < (T j).at_ := by
  rw [(hT i (by omega)).1, (hT j hj).1]; exact sorted_at hp i j hij hj

theorem obT_get (f : Nat → Int) {L : List Ob} {i : Nat} (hi : i < L.length) : obT f L i = obG f L[i] := by simp [obT, List.getElem?_eq_getElem hi, xT]

theorem heads_T {f : Nat → Int} {n e a : Nat} {L : List Ob} {T : Nat → GM} (hp : parse f e a = some L) (he : e ≤ n) (hw : ∀ i, i < n → Word (f i)) (hT : ∀ i, i < L.length → GSame (T i) (obT f L i)) : Heads L.length T := fun i hi => by
  obtain ⟨h1, h2, h3, h4, h5, h6, h7⟩ := hT i hi
  rw [obT_get f hi] at h1 h2 h3 h4 h5 h6 h7
  obtain ⟨a', hx, hg⟩ := parse_all (e - a) a L (Nat.le_refl _) hp L[i] (List.getElem_mem hi)
  obtain ⟨o1, _, _, _, o5⟩ := parse_ok hp he hw L[i] (List.getElem_mem hi)
  refine ⟨?_, ?_, fun k hk => ?_⟩
  · rw [h2, h3, h4, h5]
    show HOk L[i].s L[i].m L[i].o L[i].h
    rw [hx]; exact hg.2.1.2
  · rw [h6, h2]; rfl
  · rw [h7 k hk]
    rw [h6] at hk
    exact o5 k hk

theorem findO_at {f : Nat → Int} {e a : Nat} {L : List Ob} (hp : parse f e a = some L) {i : Nat} (hi : i < L.length) : findO L L[i].at_ = some L[i] := by
  have hs := List.pairwise_iff_getElem.mp (parse_sorted (e - a) a L (Nat.le_refl _) hp)
  cases hf : findO L L[i].at_ with
  | none =>
    have := List.find?_eq_none.mp hf L[i] (List.getElem_mem hi)
    simp at this
  | some x =>
    have h1 := List.find?_some hf
    have h2 := List.mem_of_find?_eq_some hf
    obtain ⟨j, hj, rfl⟩ := List.getElem_of_mem h2
    have h3 : L[j].at_ = L[i].at_ := by simpa using h1
    rcases Nat.lt_trichotomy i j with h | h | h
    · have := hs i j hi hj h; omega
    · subst h; rfl
    · have := hs j i hj hi h; omega

theorem may_leads {f : Nat → Int} {e a : Nat} {L : List Ob} {T : Nat → GM} (hp : parse f e a = some L) (hT : ∀ i, i < L.length → GSame (T i) (obT f L i)) (o v : Int) : MayG L.length T o v ↔ leadsB L o v = true := by
  unfold MayG leadsB
  by_cases h0 : v = 0
  · simp [h0]
  · rw [if_neg h0]
    constructor
    · rintro (h | ⟨i, hi, h1, h2⟩)
      · exact absurd h h0
      · obtain ⟨a1, _, _, a4, _⟩ := hT i hi
        rw [obT_get f hi] at a1 a4
        have e1 : L[i].at_ = v - 1 := by rw [← h1, a1]; rfl
        rw [← e1, findO_at hp hi]
        have : L[i].o = o := by rw [← h2, a4]; rfl
        simpa using this
    · intro h
      cases hf : findO L (v - 1) with
      | none => rw [hf] at h; cases h
      | some x =>
        rw [hf] at h
        have h1 := List.find?_some hf
        obtain ⟨j, hj, rfl⟩ := List.getElem_of_mem (List.mem_of_find?_eq_some hf)
        obtain ⟨a1, _, _, a4, _⟩ := hT j hj
        rw [obT_get f hj] at a1 a4
        refine .inr ⟨j, hj, ?_, ?_⟩
        · rw [a1]; show L[j].at_ = v - 1; simpa using h1
        · rw [a4]; show L[j].o = o; simpa using h

theorem ptg_points {f : Nat → Int} {e a : Nat} {L : List Ob} {T : Nat → GM} (hp : parse f e a = some L) (hT : ∀ i, i < L.length → GSame (T i) (obT f L i)) (hsz : ∀ y ∈ L, 0 ≤ y.s ∧ y.s ≤ 12) : PtG L.length T ↔ Points f L := by
  constructor
  · intro h x hx k hk hb
    obtain ⟨i, hi, rfl⟩ := List.getElem_of_mem hx
    obtain ⟨a1, a2, a3, a4, a5, a6, a7⟩ := hT i hi
    rw [obT_get f hi] at a1 a2 a3 a4 a5 a6 a7
    have hz := hsz L[i] hx
    have hkn : k < (T i).n := by rw [a6]; show k < L[i].s.toNat; omega
    have := (may_leads hp hT _ _).1 (h i hi k hkn (by rw [a3]; exact hb))
    rw [a4, a7 k hkn] at this
    exact this
  · intro h i hi k hk hb
    obtain ⟨a1, a2, a3, a4, a5, a6, a7⟩ := hT i hi
    rw [obT_get f hi] at a1 a2 a3 a4 a5 a6 a7
    refine (may_leads hp hT _ _).2 ?_
    rw [a4, a7 k hk]
    rw [a6] at hk
    have hk' : k < L[i].s.toNat := hk
    exact h L[i] (List.getElem_mem hi) k (by omega) (by rw [a3] at hb; exact hb)
end Go.Proofs.YtnpklnpicelcmaaGreat

namespace Go.Proofs.YtnpklnpicelcmaaGreat
open Go.RowKit
set_option linter.unusedVariables false

theorem gvo_set {w : World} {lo hi N : Nat} {a : Option Addr} {T : Nat → GM} (h : GVO w lo hi a N T) {p : Addr} (hp : p.block < lo) (u : Value) : GVO (w.setCell p u) lo hi a N T :=
  h.keeps (keeps_setCell (p := p) (Nat.le_refl _) (Nat.lt_succ_self _) u) (.inr (by omega))

theorem gvo_wide {w : World} {lo hi lo' hi' N : Nat} {a : Option Addr} {T : Nat → GM} (h : GVO w lo hi a N T) (h1 : lo' ≤ lo) (h2 : hi ≤ hi') : GVO w lo' hi' a N T := by
  rcases h with h0 | ⟨b, q, e, h⟩
  · exact .inl h0
  · exact .inr ⟨b, q, e, Nat.le_trans h1 h.glo, Nat.lt_of_lt_of_le h.ghi h2, h.lt, h.six, h.free, fun i hi => (h.flds i hi).widen h1 h2, h.off, h.apart⟩

theorem isOI_empty {h : Int} {n : Nat} {f : Nat → Int} {ac bu co : Int} {L : List Ob} (ho : IsOI h n f ac bu co L) (h0 : ¬ co = 0) : IsOI h n f ac bu co [] := by
  rcases ho with ⟨k, h1, h2, h3, _⟩ | ⟨h1, h2, h3, _⟩ | ⟨_, _, h3⟩
  · exact .inl ⟨k, h1, h2, h3, rfl⟩
  · exact .inr (.inl ⟨h1, h2, h3, rfl⟩)
  · exact absurd h3 h0

/-- What the objects of an arena that is right are, and the code of one that is not. -/
def IsSO (h : Int) (n : Nat) (f : Nat → Int) (ac bu k : Int) (L : List Ob) : Prop := (IsSF h n f ac bu k ∧ ¬ k = 0 ∧ L = []) ∨ (k = 0 ∧ IsSF h n f ac bu 0 ∧ IsOI h n f ac bu 0 L)

set_option maxRecDepth 100000 in
set_option maxHeartbeats 1600000 in
theorem shaped_fault (h ac bu : Int) (a : Option Addr) (n c : Nat) (f : Nat → Int) (w : World) (hs : Src w a n f) (hnc : n ≤ c) (hcm : c ≤ maxLen) (k : Int) (ho : IsOI h n f ac bu k []) (hk0 : ¬ k = 0) : Calls Tryz.prog 86 #[.agg #[.int .i64 h, .slice a n c, .int .i64 ac, .int .i64 bu]] w (RetORG w f k []) := by
  have HS := Lib.hid hs; have HCM := Lib.hid hcm; have HO := Lib.hid ho
  clear hs hcm ho
  go_enter Tryz.func86, Tryz.ntmps86
  go_wp2_with fail
  refine (implOI h ac bu a n c f k [] _ ((HS.out.alloc _).alloc _) hnc HCM.out HO.out).mono ?_
  rintro e w1 ⟨a1, c1, T, rfl, hg, hs1, hb, hc1, hc2⟩
  have HB1 := Lib.hid (thru2 (Below.refl _ _) hb)
  have A_1 := Lib.hid (((Blk.new_at (w := w) (cs := #[.int .i64 h, .slice a n c, .int .i64 ac, .int .i64 bu]) (t := 29) (w.heap.size) rfl).alloc _).below hb)
  have R_1 := Lib.hid ((Blk.new_at (w := w.alloc (.cells #[.int .i64 h, .slice a n c, .int .i64 ac, .int .i64 bu] 29)) (cs := #[.int .i64 0, .slice none 0 0]) (t := 118) (w.heap.size + 1) (by simp)).below hb)
  have S_1 := Lib.hid (((HS.out.alloc _).alloc _).below hb)
  have z1 : w.heap.size + 2 ≤ w1.heap.size := by have := hb.size; simp at this; omega
  have HG := Lib.hid (gvo_mono hg (show w.heap.size + 2 ≤ _ by simp))
  have HT := Lib.hid hs1
  have HC1 := Lib.hid (And.intro hc1 hc2)
  clear hb hg hs1 hc1 hc2
  have hd : (k != 0) = true := by simpa using hk0
  have HBL := HB1
  have lR := R_1.out.1; have cR0 := R_1.out.at 0 rfl; have fR0 := R_1.out.free 0 rfl; have cR1 := R_1.out.at 1 rfl; have fR1 := R_1.out.free 1 rfl
  go_wp2
  refine bodyPost_ret (v := .agg #[.int .i64 k, .slice a1 ([] : List Ob).length c1]) (by simp [results, Tryz.results86, go_sem, lR, cR0, cR1]) rfl ⟨a1, c1, T, rfl, ?_, HT.out, ?_, HC1.out.1, HC1.out.2⟩
  · refine gvo_wide (lo := w.heap.size + 2) (hi := w1.heap.size) ?_ (by omega) (by (try simp); (try omega))
    repeat (first | (with_reducible refine gvo_set ?_ (by (try simp); (try omega)) _) | (with_reducible refine GVO.alloc ?_ _))
    exact HG.out
  · repeat (first | (with_reducible refine Below.setCell ?_ (by (try simp); (try omega)) _) | (with_reducible refine Below.alloc ?_ (by (try simp); (try omega)) _) | (with_reducible refine Below.drew ?_))
    exact HBL.out

set_option maxRecDepth 100000 in
set_option maxHeartbeats 1600000 in
theorem shaped_stray (h ac bu : Int) (a : Option Addr) (n c : Nat) (f : Nat → Int) (w : World) (hs : Src w a n f) (hnc : n ≤ c) (hcm : c ≤ maxLen) (L : List Ob) (ho : IsOI h n f ac bu 0 L) (hp : ¬ Points f L) : Calls Tryz.prog 86 #[.agg #[.int .i64 h, .slice a n c, .int .i64 ac, .int .i64 bu]] w (RetORG w f 8 []) := by
  have hpz := (isOI_zero ho).2
  have hLs := parse_sizes _ _ L (Nat.le_refl _) hpz
  obtain ⟨⟨⟨q1, q2⟩, ⟨q3, q4⟩, q5, q6⟩, qn, qw⟩ := isFault_ok (isOI_zero ho).1
  have hPUn : (baseI ac h).toNat + bu.toNat ≤ n := by rcases (by omega : ac = 0 ∨ ac = 1) with rfl | rfl <;> simp [baseI] <;> omega
  have HSRT := Lib.hid (fun (T : Nat → GM) (hT : ∀ i, i < L.length → GSame (T i) (obT f L i)) => sorted_T hpz hT)
  have HHDS := Lib.hid (fun (T : Nat → GM) (hT : ∀ i, i < L.length → GSame (T i) (obT f L i)) => heads_T hpz hPUn qw hT)
  have HPTP := Lib.hid (fun (T : Nat → GM) (hT : ∀ i, i < L.length → GSame (T i) (obT f L i)) => ptg_points hpz hT hLs)
  have hL4 : L.length ≤ 1048576 := by have := parse_length _ _ L (Nat.le_refl _) hpz; omega
  have HKF := Lib.hid (isOI_zero ho).1
  have HO := Lib.hid ho
  clear hpz hLs q1 q2 q3 q4 q5 q6 qn qw hPUn ho
  have HS := Lib.hid hs; have HCM := Lib.hid hcm; have HNP := Lib.hid hp
  clear hs hcm hp
  go_enter Tryz.func86, Tryz.ntmps86
  go_wp2_with fail
  refine (implOI h ac bu a n c f 0 L _ ((HS.out.alloc _).alloc _) hnc HCM.out HO.out).mono ?_
  rintro e w1 ⟨a1, c1, T, rfl, hg, hs1, hb, hc1, hc2⟩
  have HB1 := Lib.hid (thru2 (Below.refl _ _) hb)
  have A_1 := Lib.hid (((Blk.new_at (w := w) (cs := #[.int .i64 h, .slice a n c, .int .i64 ac, .int .i64 bu]) (t := 29) (w.heap.size) rfl).alloc _).below hb)
  have R_1 := Lib.hid ((Blk.new_at (w := w.alloc (.cells #[.int .i64 h, .slice a n c, .int .i64 ac, .int .i64 bu] 29)) (cs := #[.int .i64 0, .slice none 0 0]) (t := 118) (w.heap.size + 1) (by simp)).below hb)
  have S_1 := Lib.hid (((HS.out.alloc _).alloc _).below hb)
  have z1 : w.heap.size + 2 ≤ w1.heap.size := by have := hb.size; simp at this; omega
  have HG := Lib.hid (gvo_mono hg (show w.heap.size + 2 ≤ _ by simp))
  have HT := Lib.hid hs1
  have HC1 := Lib.hid (And.intro hc1 hc2)
  clear hb hg hs1 hc1 hc2
  go_wp2_with fail
  refine (stray_any a1 L.length c1 T true _ (HG.out.src.alloc _) hL4 (HSRT.out T HT.out) (HHDS.out T HT.out) ⟨fun _ hq => HNP.out ((HPTP.out T HT.out).1 hq), fun _ => rfl⟩).mono ?_
  rintro e w2 ⟨rfl, hb⟩
  have HB2 := Lib.hid (thru1 HB1.out hb)
  have X_2 := Lib.hid ((Blk.new_at (w := w1) (cs := #[.int .i64 0, .slice a1 L.length c1]) (t := 118) (w1.heap.size) rfl).below hb)
  have R_2 := Lib.hid ((R_1.out.alloc _).below hb)
  have A_2 := Lib.hid ((A_1.out.alloc _).below hb)
  have S_2 := Lib.hid ((S_1.out.alloc _).below hb)
  have G_2 := Lib.hid ((HG.out.alloc (.cells #[.int .i64 0, .slice a1 L.length c1] 118)).below hb)
  have z2 : w1.heap.size + 1 ≤ w2.heap.size := by have := hb.size; simp at this; omega
  clear hb HB1 R_1 A_1 S_1 HG
  have HBL := HB2
  have lR := R_2.out.1; have cR0 := R_2.out.at 0 rfl; have fR0 := R_2.out.free 0 rfl; have cR1 := R_2.out.at 1 rfl; have fR1 := R_2.out.free 1 rfl
  go_wp2
  refine bodyPost_ret (v := .agg #[.int .i64 8, .slice none 0 0]) (by simp [results, Tryz.results86, go_sem, cR0, cR1]) rfl ⟨none, 0, fun _ => gzero, rfl, .inl rfl, fun i hi => (by simp at hi), ?_, Nat.le_refl _, by simp [maxLen]⟩
  repeat (first | (with_reducible refine Below.setCell ?_ (by (try simp); (try omega)) _) | (with_reducible refine Below.alloc ?_ (by (try simp); (try omega)) _) | (with_reducible refine Below.drew ?_))
  exact HBL.out

set_option maxRecDepth 100000 in
set_option maxHeartbeats 1600000 in
theorem shaped_word (h ac bu : Int) (a : Option Addr) (n c : Nat) (f : Nat → Int) (w : World) (hs : Src w a n f) (hnc : n ≤ c) (hcm : c ≤ maxLen) (L : List Ob) (ho : IsOI h n f ac bu 0 L) (hp : Points f L) (hr : ¬ Rest f n (baseI ac h).toNat bu.toNat) : Calls Tryz.prog 86 #[.agg #[.int .i64 h, .slice a n c, .int .i64 ac, .int .i64 bu]] w (RetORG w f 8 []) := by
  have hpz := (isOI_zero ho).2
  have hLs := parse_sizes _ _ L (Nat.le_refl _) hpz
  obtain ⟨⟨⟨q1, q2⟩, ⟨q3, q4⟩, q5, q6⟩, qn, qw⟩ := isFault_ok (isOI_zero ho).1
  have hPUn : (baseI ac h).toNat + bu.toNat ≤ n := by rcases (by omega : ac = 0 ∨ ac = 1) with rfl | rfl <;> simp [baseI] <;> omega
  have HSRT := Lib.hid (fun (T : Nat → GM) (hT : ∀ i, i < L.length → GSame (T i) (obT f L i)) => sorted_T hpz hT)
  have HHDS := Lib.hid (fun (T : Nat → GM) (hT : ∀ i, i < L.length → GSame (T i) (obT f L i)) => heads_T hpz hPUn qw hT)
  have HPTP := Lib.hid (fun (T : Nat → GM) (hT : ∀ i, i < L.length → GSame (T i) (obT f L i)) => ptg_points hpz hT hLs)
  have hL4 : L.length ≤ 1048576 := by have := parse_length _ _ L (Nat.le_refl _) hpz; omega
  have HKF := Lib.hid (isOI_zero ho).1
  have HO := Lib.hid ho
  clear hpz hLs q1 q2 q3 q4 q5 q6 qn qw hPUn ho
  have HS := Lib.hid hs; have HCM := Lib.hid hcm; have HNP := Lib.hid hp; have HRR := Lib.hid hr
  clear hs hcm hp hr
  go_enter Tryz.func86, Tryz.ntmps86
  go_wp2_with fail
  refine (implOI h ac bu a n c f 0 L _ ((HS.out.alloc _).alloc _) hnc HCM.out HO.out).mono ?_
  rintro e w1 ⟨a1, c1, T, rfl, hg, hs1, hb, hc1, hc2⟩
  have HB1 := Lib.hid (thru2 (Below.refl _ _) hb)
  have A_1 := Lib.hid (((Blk.new_at (w := w) (cs := #[.int .i64 h, .slice a n c, .int .i64 ac, .int .i64 bu]) (t := 29) (w.heap.size) rfl).alloc _).below hb)
  have R_1 := Lib.hid ((Blk.new_at (w := w.alloc (.cells #[.int .i64 h, .slice a n c, .int .i64 ac, .int .i64 bu] 29)) (cs := #[.int .i64 0, .slice none 0 0]) (t := 118) (w.heap.size + 1) (by simp)).below hb)
  have S_1 := Lib.hid (((HS.out.alloc _).alloc _).below hb)
  have z1 : w.heap.size + 2 ≤ w1.heap.size := by have := hb.size; simp at this; omega
  have HG := Lib.hid (gvo_mono hg (show w.heap.size + 2 ≤ _ by simp))
  have HT := Lib.hid hs1
  have HC1 := Lib.hid (And.intro hc1 hc2)
  clear hb hg hs1 hc1 hc2
  go_wp2_with fail
  refine (stray_any a1 L.length c1 T false _ (HG.out.src.alloc _) hL4 (HSRT.out T HT.out) (HHDS.out T HT.out) ⟨fun h => (by cases h), fun hq => absurd ((HPTP.out T HT.out).2 HNP.out) hq⟩).mono ?_
  rintro e w2 ⟨rfl, hb⟩
  have HB2 := Lib.hid (thru1 HB1.out hb)
  have X_2 := Lib.hid ((Blk.new_at (w := w1) (cs := #[.int .i64 0, .slice a1 L.length c1]) (t := 118) (w1.heap.size) rfl).below hb)
  have R_2 := Lib.hid ((R_1.out.alloc _).below hb)
  have A_2 := Lib.hid ((A_1.out.alloc _).below hb)
  have S_2 := Lib.hid ((S_1.out.alloc _).below hb)
  have G_2 := Lib.hid ((HG.out.alloc (.cells #[.int .i64 0, .slice a1 L.length c1] 118)).below hb)
  have z2 : w1.heap.size + 1 ≤ w2.heap.size := by have := hb.size; simp at this; omega
  clear hb HB1 R_1 A_1 S_1 HG
  have lA := A_2.out.1; have cA0 := A_2.out.at 0 rfl; have fA0 := A_2.out.free 0 rfl; have cA1 := A_2.out.at 1 rfl; have fA1 := A_2.out.free 1 rfl; have cA2 := A_2.out.at 2 rfl; have fA2 := A_2.out.free 2 rfl; have cA3 := A_2.out.at 3 rfl; have fA3 := A_2.out.free 3 rfl
  go_wp2_with fail
  clear lA cA0 fA0 cA1 fA1 cA2 fA2 cA3 fA3
  refine (strayw_any h ac bu a n c f true _ S_2.out HKF.out ⟨fun _ => HRR.out, fun _ => rfl⟩).mono ?_
  rintro e w3 ⟨rfl, hb⟩
  have HBL := Lib.hid (HB2.out.trans (hb.mono HB2.out.size))
  have X_3 := Lib.hid (X_2.out.below hb)
  have R_3 := Lib.hid (R_2.out.below hb)
  have G_3 := Lib.hid (G_2.out.below hb)
  have z3 := hb.size
  clear hb HB2 X_2 R_2 A_2 S_2 G_2
  have lR := R_3.out.1; have cR0 := R_3.out.at 0 rfl; have fR0 := R_3.out.free 0 rfl; have cR1 := R_3.out.at 1 rfl; have fR1 := R_3.out.free 1 rfl
  go_wp2
  refine bodyPost_ret (v := .agg #[.int .i64 8, .slice none 0 0]) (by simp [results, Tryz.results86, go_sem, cR0, cR1]) rfl ⟨none, 0, fun _ => gzero, rfl, .inl rfl, fun i hi => (by simp at hi), ?_, Nat.le_refl _, by simp [maxLen]⟩
  repeat (first | (with_reducible refine Below.setCell ?_ (by (try simp); (try omega)) _) | (with_reducible refine Below.alloc ?_ (by (try simp); (try omega)) _) | (with_reducible refine Below.drew ?_))
  exact HBL.out

set_option maxRecDepth 100000 in
set_option maxHeartbeats 1600000 in
theorem shaped_good (h ac bu : Int) (a : Option Addr) (n c : Nat) (f : Nat → Int) (w : World) (hs : Src w a n f) (hnc : n ≤ c) (hcm : c ≤ maxLen) (L : List Ob) (ho : IsOI h n f ac bu 0 L) (hp : Points f L) (hr : Rest f n (baseI ac h).toNat bu.toNat) : Calls Tryz.prog 86 #[.agg #[.int .i64 h, .slice a n c, .int .i64 ac, .int .i64 bu]] w (RetORG w f 0 L) := by
  have hpz := (isOI_zero ho).2
  have hLs := parse_sizes _ _ L (Nat.le_refl _) hpz
  obtain ⟨⟨⟨q1, q2⟩, ⟨q3, q4⟩, q5, q6⟩, qn, qw⟩ := isFault_ok (isOI_zero ho).1
  have hPUn : (baseI ac h).toNat + bu.toNat ≤ n := by rcases (by omega : ac = 0 ∨ ac = 1) with rfl | rfl <;> simp [baseI] <;> omega
  have HSRT := Lib.hid (fun (T : Nat → GM) (hT : ∀ i, i < L.length → GSame (T i) (obT f L i)) => sorted_T hpz hT)
  have HHDS := Lib.hid (fun (T : Nat → GM) (hT : ∀ i, i < L.length → GSame (T i) (obT f L i)) => heads_T hpz hPUn qw hT)
  have HPTP := Lib.hid (fun (T : Nat → GM) (hT : ∀ i, i < L.length → GSame (T i) (obT f L i)) => ptg_points hpz hT hLs)
  have hL4 : L.length ≤ 1048576 := by have := parse_length _ _ L (Nat.le_refl _) hpz; omega
  have HKF := Lib.hid (isOI_zero ho).1
  have HO := Lib.hid ho
  clear hpz hLs q1 q2 q3 q4 q5 q6 qn qw hPUn ho
  have HS := Lib.hid hs; have HCM := Lib.hid hcm; have HNP := Lib.hid hp; have HRR := Lib.hid hr
  clear hs hcm hp hr
  go_enter Tryz.func86, Tryz.ntmps86
  go_wp2_with fail
  refine (implOI h ac bu a n c f 0 L _ ((HS.out.alloc _).alloc _) hnc HCM.out HO.out).mono ?_
  rintro e w1 ⟨a1, c1, T, rfl, hg, hs1, hb, hc1, hc2⟩
  have HB1 := Lib.hid (thru2 (Below.refl _ _) hb)
  have A_1 := Lib.hid (((Blk.new_at (w := w) (cs := #[.int .i64 h, .slice a n c, .int .i64 ac, .int .i64 bu]) (t := 29) (w.heap.size) rfl).alloc _).below hb)
  have R_1 := Lib.hid ((Blk.new_at (w := w.alloc (.cells #[.int .i64 h, .slice a n c, .int .i64 ac, .int .i64 bu] 29)) (cs := #[.int .i64 0, .slice none 0 0]) (t := 118) (w.heap.size + 1) (by simp)).below hb)
  have S_1 := Lib.hid (((HS.out.alloc _).alloc _).below hb)
  have z1 : w.heap.size + 2 ≤ w1.heap.size := by have := hb.size; simp at this; omega
  have HG := Lib.hid (gvo_mono hg (show w.heap.size + 2 ≤ _ by simp))
  have HT := Lib.hid hs1
  have HC1 := Lib.hid (And.intro hc1 hc2)
  clear hb hg hs1 hc1 hc2
  go_wp2_with fail
  refine (stray_any a1 L.length c1 T false _ (HG.out.src.alloc _) hL4 (HSRT.out T HT.out) (HHDS.out T HT.out) ⟨fun h => (by cases h), fun hq => absurd ((HPTP.out T HT.out).2 HNP.out) hq⟩).mono ?_
  rintro e w2 ⟨rfl, hb⟩
  have HB2 := Lib.hid (thru1 HB1.out hb)
  have X_2 := Lib.hid ((Blk.new_at (w := w1) (cs := #[.int .i64 0, .slice a1 L.length c1]) (t := 118) (w1.heap.size) rfl).below hb)
  have R_2 := Lib.hid ((R_1.out.alloc _).below hb)
  have A_2 := Lib.hid ((A_1.out.alloc _).below hb)
  have S_2 := Lib.hid ((S_1.out.alloc _).below hb)
  have G_2 := Lib.hid ((HG.out.alloc (.cells #[.int .i64 0, .slice a1 L.length c1] 118)).below hb)
  have z2 : w1.heap.size + 1 ≤ w2.heap.size := by have := hb.size; simp at this; omega
  clear hb HB1 R_1 A_1 S_1 HG
  have lA := A_2.out.1; have cA0 := A_2.out.at 0 rfl; have fA0 := A_2.out.free 0 rfl; have cA1 := A_2.out.at 1 rfl; have fA1 := A_2.out.free 1 rfl; have cA2 := A_2.out.at 2 rfl; have fA2 := A_2.out.free 2 rfl; have cA3 := A_2.out.at 3 rfl; have fA3 := A_2.out.free 3 rfl
  go_wp2_with fail
  clear lA cA0 fA0 cA1 fA1 cA2 fA2 cA3 fA3
  refine (strayw_any h ac bu a n c f false _ S_2.out HKF.out ⟨fun h => (by cases h), fun hq => absurd HRR.out hq⟩).mono ?_
  rintro e w3 ⟨rfl, hb⟩
  have HBL := Lib.hid (HB2.out.trans (hb.mono HB2.out.size))
  have X_3 := Lib.hid (X_2.out.below hb)
  have R_3 := Lib.hid (R_2.out.below hb)
  have G_3 := Lib.hid (G_2.out.below hb)
  have z3 := hb.size
  clear hb HB2 X_2 R_2 A_2 S_2 G_2
  have lR := R_3.out.1; have cR0 := R_3.out.at 0 rfl; have fR0 := R_3.out.free 0 rfl; have cR1 := R_3.out.at 1 rfl; have fR1 := R_3.out.free 1 rfl
  have lX := X_3.out.1; have cX0 := X_3.out.at 0 rfl; have fX0 := X_3.out.free 0 rfl; have cX1 := X_3.out.at 1 rfl; have fX1 := X_3.out.free 1 rfl
  go_wp2
  refine bodyPost_ret (v := .agg #[.int .i64 0, .slice a1 (L).length c1]) (by simp [results, Tryz.results86, go_sem, cR0, cR1]) rfl ⟨a1, c1, T, rfl, ?_, HT.out, ?_, HC1.out.1, HC1.out.2⟩
  · refine gvo_wide (lo := w.heap.size + 2) (hi := w1.heap.size) ?_ (by omega) (by (try simp); (try omega))
    repeat (first | (with_reducible refine gvo_set ?_ (by (try simp); (try omega)) _) | (with_reducible refine GVO.alloc ?_ _))
    exact G_3.out
  · repeat (first | (with_reducible refine Below.setCell ?_ (by (try simp); (try omega)) _) | (with_reducible refine Below.alloc ?_ (by (try simp); (try omega)) _) | (with_reducible refine Below.drew ?_))
    exact HBL.out

theorem shaped_any (h ac bu : Int) (a : Option Addr) (n c : Nat) (f : Nat → Int) (w : World) (hs : Src w a n f) (hnc : n ≤ c) (hcm : c ≤ maxLen) (k : Int) (L : List Ob) (hk : IsSO h n f ac bu k L) : Calls Tryz.prog 86 #[.agg #[.int .i64 h, .slice a n c, .int .i64 ac, .int .i64 bu]] w (RetORG w f k L) := by
  rcases hk with ⟨hk, h0, rfl⟩ | ⟨rfl, hk, ho⟩
  · rcases hk with ⟨L0, ho, _⟩ | ⟨L0, ho, hsh, rfl⟩ | ⟨_, _, _, hz⟩
    · exact shaped_fault h ac bu a n c f w hs hnc hcm k (isOI_empty ho h0) h0
    · rcases hsh with ⟨_, _, hx⟩ | ⟨hx, _⟩
      · cases hx
      · by_cases hp : Points f L0
        · exact shaped_word h ac bu a n c f w hs hnc hcm L0 ho hp (fun hr => hx ⟨hp, hr⟩)
        · exact shaped_stray h ac bu a n c f w hs hnc hcm L0 ho hp
    · exact absurd hz h0
  · obtain ⟨hp, hr⟩ := isSF_shape hk ho
    exact shaped_good h ac bu a n c f w hs hnc hcm L ho hp hr
end Go.Proofs.YtnpklnpicelcmaaGreat

namespace Go.Proofs.YtnpklnpicelcmaaGreat
open Go.RowKit
set_option linter.unusedVariables false

/-- Elements that are new are put behind all others, one after the other. -/
def addNew (out : List Int) : List Int → List Int
  | [] => out
  | x :: xs => addNew (if x ∈ out then out else out ++ [x]) xs

theorem addNew_append (out xs ys : List Int) : addNew out (xs ++ ys) = addNew (addNew out xs) ys := by
  induction xs generalizing out with
  | nil => rfl
  | cons x xs ih => exact ih _

theorem addNew_prefix (xs : List Int) : ∀ out, out <+: addNew out xs := by
  induction xs with
  | nil => exact fun out => List.prefix_refl _
  | cons x xs ih =>
    intro out
    refine List.IsPrefix.trans ?_ (ih _)
    by_cases h : x ∈ out
    · rw [if_pos h]
      exact List.prefix_refl _
    · rw [if_neg h]; exact List.prefix_append _ _

theorem mem_addNew (xs : List Int) : ∀ out y, y ∈ addNew out xs ↔ y ∈ out ∨ y ∈ xs := by
  induction xs with
  | nil => intro out y; simp [addNew]
  | cons x xs ih =>
    intro out y
    rw [addNew, ih]
    by_cases h : x ∈ out
    · rw [if_pos h]
      constructor
      · rintro (h1 | h1)
        · exact .inl h1
        · exact .inr (List.mem_cons_of_mem _ h1)
      · rintro (h1 | h1)
        · exact .inl h1
        · rcases List.mem_cons.mp h1 with rfl | h2
          · exact .inl h
          · exact .inr h2
    · rw [if_neg h]
      simp only [List.mem_append, List.mem_cons, List.not_mem_nil, or_false]
      constructor
      · rintro ((h1 | h1) | h1)
        · exact .inl h1
        · exact .inr (.inl h1)
        · exact .inr (.inr h1)
      · rintro (h1 | h1 | h1)
        · exact .inl (.inl h1)
        · exact .inl (.inr h1)
        · exact .inr h1

theorem nodup_addNew (xs : List Int) : ∀ out, out.Nodup → (addNew out xs).Nodup := by
  induction xs with
  | nil => exact fun out h => h
  | cons x xs ih =>
    intro out hn
    refine ih _ ?_
    by_cases h : x ∈ out
    · rw [if_pos h]; exact hn
    · rw [if_neg h]
      refine List.nodup_append.mpr ⟨hn, by simp, fun a ha b hb => ?_⟩
      simp only [List.mem_singleton] at hb
      subst hb
      intro e; subst e; exact h ha

/-- The scan: for each place from i on, where it leads. -/
def scanF (succ : Int → List Int) : Nat → Nat → List Int → List Int
  | 0, _, out => out
  | n + 1, i, out => if i < out.length then scanF succ n (i + 1) (addNew out (succ (out.getD i 0))) else out

theorem scanF_stop {succ : Int → List Int} {n i : Nat} {out : List Int} (h : ¬ i < out.length) : scanF succ n i out = out := by
  cases n with
  | zero => rfl
  | succ n => rw [scanF, if_neg h]

theorem scanF_prefix (succ : Int → List Int) : ∀ n i out, out <+: scanF succ n i out := by
  intro n
  induction n with
  | zero => exact fun i out => List.prefix_refl _
  | succ n ih =>
    intro i out
    rw [scanF]
    by_cases h : i < out.length
    · rw [if_pos h]; exact (addNew_prefix _ _).trans (ih _ _)
    · rw [if_neg h]; exact List.prefix_refl _

theorem scanF_nodup (succ : Int → List Int) : ∀ n i out, out.Nodup → (scanF succ n i out).Nodup := by
  intro n
  induction n with
  | zero => exact fun i out h => h
  | succ n ih =>
    intro i out hn
    rw [scanF]
    by_cases h : i < out.length
    · rw [if_pos h]; exact ih _ _ (nodup_addNew _ _ hn)
    · rw [if_neg h]; exact hn

theorem scanF_sub (succ : Int → List Int) (U : List Int) (hU : ∀ x ∈ U, ∀ y ∈ succ x, y ∈ U) : ∀ n i out, (∀ x ∈ out, x ∈ U) → ∀ x ∈ scanF succ n i out, x ∈ U := by
  intro n
  induction n with
  | zero => exact fun i out h => h
  | succ n ih =>
    intro i out hs
    rw [scanF]
    by_cases h : i < out.length
    · rw [if_pos h]
      refine ih _ _ fun x hx => ?_
      rcases (mem_addNew _ _ _).1 hx with h1 | h1
      · exact hs x h1
      · have hg : out.getD i 0 ∈ out := by
          rw [List.getD_eq_getElem?_getD, List.getElem?_eq_getElem h]; exact List.getElem_mem h
        exact hU _ (hs _ hg) x h1
    · rw [if_neg h]; exact hs

theorem nodup_length {xs U : List Int} (hn : xs.Nodup) (hs : ∀ x ∈ xs, x ∈ U) : xs.length ≤ U.length := by
  induction xs generalizing U with
  | nil => exact Nat.zero_le _
  | cons x xs ih =>
    have hx := List.nodup_cons.mp hn
    have := ih hx.2 (U := U.erase x) (fun y hy => (List.mem_erase_of_ne (fun e => by subst e; exact hx.1 hy)).mpr (hs y (List.mem_cons_of_mem _ hy)))
    have h2 := List.length_erase_of_mem (hs x (List.mem_cons_self ..))
    have h3 : 0 < U.length := List.length_pos_of_mem (hs x (List.mem_cons_self ..))
    simp only [List.length_cons]
    omega

theorem prefix_getD {xs ys : List Int} (h : xs <+: ys) {i : Nat} (hi : i < xs.length) : ys.getD i 0 = xs.getD i 0 := by
  obtain ⟨t, rfl⟩ := h
  rw [List.getD_eq_getElem?_getD, List.getD_eq_getElem?_getD, List.getElem?_append_left hi]

/-- What was scanned leads into the list. -/
theorem scanF_closed (succ : Int → List Int) (U : List Int) (hU : ∀ x ∈ U, ∀ y ∈ succ x, y ∈ U) : ∀ n i out, out.Nodup → (∀ x ∈ out, x ∈ U) → U.length ≤ n + i →
    (∀ j, j < i → j < out.length → ∀ y ∈ succ (out.getD j 0), y ∈ out) → ∀ j, j < (scanF succ n i out).length → ∀ y ∈ succ ((scanF succ n i out).getD j 0), y ∈ scanF succ n i out := by
  intro n
  induction n with
  | zero =>
    intro i out hn hs hl hc j hj y hy
    have := nodup_length hn hs
    exact hc j (by simp only [scanF] at hj; omega) hj y hy
  | succ n ih =>
    intro i out hn hs hl hc
    rw [scanF]
    by_cases h : i < out.length
    · rw [if_pos h]
      have hp := addNew_prefix (succ (out.getD i 0)) out
      refine ih _ _ (nodup_addNew _ _ hn) (fun x hx => ?_) (by omega) (fun j hj hjl y hy => ?_)
      · rcases (mem_addNew _ _ _).1 hx with h1 | h1
        · exact hs x h1
        · have hg : out.getD i 0 ∈ out := by
            rw [List.getD_eq_getElem?_getD, List.getElem?_eq_getElem h]; exact List.getElem_mem h
          exact hU _ (hs _ hg) x h1
      · rw [prefix_getD hp (show j < out.length by omega)] at hy
        rcases Nat.lt_succ_iff_lt_or_eq.mp hj with h1 | h1
        · exact (mem_addNew _ _ _).2 (.inl (hc j h1 (by omega) y hy))
        · subst h1; exact (mem_addNew _ _ _).2 (.inr hy)
    · rw [if_neg h]
      exact fun j hj y hy => hc j (by omega) hj y hy

/-- What is reached. -/
def reachL (succ : Int → List Int) (n : Nat) (roots : List Int) : List Int := scanF succ n 0 (addNew [] roots)

theorem reachL_roots (succ : Int → List Int) (n : Nat) (roots : List Int) : ∀ x ∈ roots, x ∈ reachL succ n roots := fun x hx =>
  (scanF_prefix succ n 0 _).subset ((mem_addNew _ _ _).2 (.inr hx))

theorem reachL_nodup (succ : Int → List Int) (n : Nat) (roots : List Int) : (reachL succ n roots).Nodup := scanF_nodup succ n 0 _ (nodup_addNew _ _ List.nodup_nil)

theorem addNew_sub {U roots : List Int} (hr : ∀ x ∈ roots, x ∈ U) : ∀ x ∈ addNew [] roots, x ∈ U := fun x hx => by
  rcases (mem_addNew _ _ _).1 hx with h1 | h1
  · cases h1
  · exact hr x h1

theorem reachL_sub (succ : Int → List Int) (n : Nat) (U roots : List Int) (hU : ∀ x ∈ U, ∀ y ∈ succ x, y ∈ U) (hr : ∀ x ∈ roots, x ∈ U) : ∀ x ∈ reachL succ n roots, x ∈ U := scanF_sub succ U hU n 0 _ (addNew_sub hr)

theorem reachL_closed (succ : Int → List Int) (n : Nat) (U roots : List Int) (hU : ∀ x ∈ U, ∀ y ∈ succ x, y ∈ U) (hr : ∀ x ∈ roots, x ∈ U) (hn : U.length ≤ n) : ∀ x ∈ reachL succ n roots, ∀ y ∈ succ x, y ∈ reachL succ n roots := fun x hx y hy => by
  obtain ⟨j, hj, rfl⟩ := List.getElem_of_mem hx
  have := scanF_closed succ U hU n 0 _ (nodup_addNew _ _ List.nodup_nil) (addNew_sub hr) (by omega) (fun j hj => by omega) j hj y
  change y ∈ succ ((reachL succ n roots).getD j 0) → y ∈ reachL succ n roots at this
  rw [List.getD_eq_getElem?_getD, List.getElem?_eq_getElem hj] at this
  exact this hy
end Go.Proofs.YtnpklnpicelcmaaGreat

namespace Go.Proofs.YtnpklnpicelcmaaGreat
open Go.RowKit
set_option linter.unusedVariables false

/-- Where an object's pointers lead, in the order of its fields. -/
def ptrs (f : Nat → Int) (x : Ob) : List Int := (List.range x.s.toNat).filterMap fun (k : Nat) => if x.m / P2 (k : Int) % 2 = 1 ∧ ¬ f (x.at_.toNat + 2 + k) = 0 then some (f (x.at_.toNat + 2 + k) - 1) else none

def succO (f : Nat → Int) (L : List Ob) (p : Int) : List Int := match findO L p with | some x => ptrs f x | none => []

def placesO (L : List Ob) : List Int := L.map Ob.at_

def reachO (f : Nat → Int) (L : List Ob) (roots : List Int) : List Int := reachL (succO f L) L.length roots

theorem mem_ptrs {f : Nat → Int} {x : Ob} {y : Int} : y ∈ ptrs f x ↔ ∃ k : Nat, k < x.s.toNat ∧ x.m / P2 (k : Int) % 2 = 1 ∧ ¬ f (x.at_.toNat + 2 + k) = 0 ∧ y = f (x.at_.toNat + 2 + k) - 1 := by
  unfold ptrs
  rw [List.mem_filterMap]
  constructor
  · rintro ⟨k, hk, he⟩
    by_cases h : x.m / P2 (k : Int) % 2 = 1 ∧ ¬ f (x.at_.toNat + 2 + k) = 0
    · rw [if_pos h] at he
      exact ⟨k, by simpa using hk, h.1, h.2, (Option.some.inj he).symm⟩
    · rw [if_neg h] at he; cases he
  · rintro ⟨k, hk, h1, h2, rfl⟩
    exact ⟨k, by simpa using hk, if_pos ⟨h1, h2⟩⟩

theorem mem_placesO {L : List Ob} {p : Int} : p ∈ placesO L ↔ ∃ x, findO L p = some x := by
  unfold placesO
  constructor
  · intro h
    obtain ⟨x, hx, rfl⟩ := List.mem_map.mp h
    cases hf : findO L x.at_ with
    | some y => exact ⟨y, rfl⟩
    | none =>
      have := List.find?_eq_none.mp hf x hx
      simp at this
  · rintro ⟨x, hf⟩
    have h1 := List.find?_some hf
    exact List.mem_map.mpr ⟨x, List.mem_of_find?_eq_some hf, by simpa using h1⟩

theorem succO_sub {f : Nat → Int} {L : List Ob} (hp : Points f L) (hs : ∀ x ∈ L, 0 ≤ x.s) : ∀ p ∈ placesO L, ∀ y ∈ succO f L p, y ∈ placesO L := by
  intro p _ y hy
  unfold succO at hy
  cases hf : findO L p with
  | none => rw [hf] at hy; cases hy
  | some x =>
    rw [hf] at hy
    obtain ⟨k, hk, h1, h2, rfl⟩ := mem_ptrs.1 hy
    have hx := List.mem_of_find?_eq_some hf
    have h0 := hs x hx
    have hl := hp x hx k (by omega) h1
    unfold leadsB at hl
    rw [if_neg h2] at hl
    cases hf2 : findO L (f (x.at_.toNat + 2 + k) - 1) with
    | none => rw [hf2] at hl; cases hl
    | some z => exact mem_placesO.2 ⟨z, hf2⟩

theorem reachO_sub {f : Nat → Int} {L : List Ob} {roots : List Int} (hp : Points f L) (hs : ∀ x ∈ L, 0 ≤ x.s) (hr : ∀ p ∈ roots, p ∈ placesO L) : ∀ p ∈ reachO f L roots, p ∈ placesO L := reachL_sub _ _ _ _ (succO_sub hp hs) hr

theorem reachO_closed {f : Nat → Int} {L : List Ob} {roots : List Int} (hp : Points f L) (hs : ∀ x ∈ L, 0 ≤ x.s) (hr : ∀ p ∈ roots, p ∈ placesO L) : ∀ p ∈ reachO f L roots, ∀ y ∈ succO f L p, y ∈ reachO f L roots :=
  reachL_closed _ _ (placesO L) _ (succO_sub hp hs) hr (by simp [placesO])

theorem reachO_roots (f : Nat → Int) (L : List Ob) (roots : List Int) : ∀ p ∈ roots, p ∈ reachO f L roots := reachL_roots _ _ _

theorem reachO_nodup (f : Nat → Int) (L : List Ob) (roots : List Int) : (reachO f L roots).Nodup := reachL_nodup _ _ _

theorem reachO_length {f : Nat → Int} {L : List Ob} {roots : List Int} (hp : Points f L) (hs : ∀ x ∈ L, 0 ≤ x.s) (hr : ∀ p ∈ roots, p ∈ placesO L) : (reachO f L roots).length ≤ L.length := by
  have := nodup_length (reachO_nodup f L roots) (reachO_sub hp hs hr)
  simpa [placesO] using this

/-- The number of a place in a list. -/
def numL (l : List Int) (v : Int) : Option Nat := l.findIdx? (· == v)

theorem numL_some {l : List Int} {v : Int} (h : v ∈ l) : ∃ i, numL l v = some i ∧ i < l.length ∧ l.getD i 0 = v := by
  unfold numL
  cases hi : l.findIdx? (· == v) with
  | none =>
    have := List.findIdx?_eq_none_iff.mp hi v h
    simp at this
  | some i =>
    obtain ⟨h1, h2, _⟩ := List.findIdx?_eq_some_iff_getElem.mp hi
    refine ⟨i, rfl, h1, ?_⟩
    rw [List.getD_eq_getElem?_getD, List.getElem?_eq_getElem h1]
    simpa using h2

theorem numL_none {l : List Int} {v : Int} : numL l v = none ↔ v ∉ l := by
  unfold numL
  rw [List.findIdx?_eq_none_iff]
  constructor
  · intro h hv; have := h v hv; simp at this
  · intro h x hx
    simp only [beq_eq_false_iff_ne, ne_eq]
    intro e; subst e; exact h hx

theorem numL_at {l : List Int} (hn : l.Nodup) {i : Nat} (hi : i < l.length) : numL l (l.getD i 0) = some i := by
  have hg : l.getD i 0 = l[i] := by rw [List.getD_eq_getElem?_getD, List.getElem?_eq_getElem hi]; rfl
  obtain ⟨j, h1, h2, h3⟩ := numL_some (l := l) (v := l.getD i 0) (by rw [hg]; exact List.getElem_mem hi)
  rw [h1]
  have hj : l.getD j 0 = l[j] := by rw [List.getD_eq_getElem?_getD, List.getElem?_eq_getElem h2]; rfl
  rw [hj, hg] at h3
  rw [(List.getElem_inj hn).mp h3]
end Go.Proofs.YtnpklnpicelcmaaGreat

namespace Go.Proofs.YtnpklnpicelcmaaGreat
open Go.RowKit
set_option linter.unusedVariables false

def packO (x : Ob) : Int := 1 + 2 * (x.s + 16 * (x.m + 4096 * x.o))

def wordsO (x : Ob) : Nat := 2 + x.s.toNat

def totO : List Ob → Nat
  | [] => 0
  | x :: X => wordsO x + totO X

/-- Their heads stand there. -/
def HeadsAt (g : Nat → Int) : Nat → List Ob → Prop
  | _, [] => True
  | P, x :: X => g P = packO x ∧ g (P + 1) = x.h ∧ HeadsAt g (P + wordsO x) X

def ObOk (x : Ob) : Prop := HOk x.s x.m x.o x.h ∧ x.m ≤ 4095

/-- The place of the object of a number. -/
def placeAt (P : Nat) (X : List Ob) (i : Nat) : Nat := P + totO (X.take i)

theorem placeAt_zero (P : Nat) (X : List Ob) : placeAt P X 0 = P := by simp [placeAt, totO]

theorem placeAt_succ (P : Nat) (x : Ob) (X : List Ob) (i : Nat) : placeAt P (x :: X) (i + 1) = placeAt (P + wordsO x) X i := by simp [placeAt, totO]; omega

theorem totO_take_lt : ∀ (X : List Ob) (i : Nat) (hi : i < X.length), totO (X.take i) + wordsO X[i] ≤ totO X
  | x :: X, 0, _ => by simp [totO]
  | x :: X, i + 1, hi => by
    have := totO_take_lt X i (by simpa using hi)
    simp only [List.take_succ_cons, totO, List.getElem_cons_succ]
    omega

theorem placeAt_end (P : Nat) (X : List Ob) {i : Nat} (hi : i < X.length) : placeAt P X i + wordsO X[i] ≤ P + totO X := by
  have := totO_take_lt X i hi
  unfold placeAt; omega

theorem placeAt_step (P : Nat) (X : List Ob) {i : Nat} (hi : i < X.length) : placeAt P X (i + 1) = placeAt P X i + wordsO X[i] := by
  induction X generalizing P i with
  | nil => simp at hi
  | cons x X ih =>
    cases i with
    | zero => rw [placeAt_succ, placeAt_zero, placeAt_zero]; rfl
    | succ i => rw [placeAt_succ, placeAt_succ, ih (P + wordsO x) (by simpa using hi)]; rfl

theorem placeAt_lt (P : Nat) (X : List Ob) : ∀ (i j : Nat), i < j → j ≤ X.length → placeAt P X i + 2 ≤ placeAt P X j
  | i, 0, h, _ => by omega
  | i, j + 1, h, hj => by
    have hw : wordsO X[j] = 2 + X[j].s.toNat := rfl
    rw [placeAt_step P X (show j < X.length by omega)]
    rcases Nat.lt_succ_iff_lt_or_eq.mp h with h1 | h1
    · have := placeAt_lt P X i j h1 (by omega); omega
    · subst h1; omega

/-- The new places, in order. -/
def newPlaces (P : Nat) (X : List Ob) : List Int := (List.range X.length).map fun i => (placeAt P X i : Int)

theorem newPlaces_length (P : Nat) (X : List Ob) : (newPlaces P X).length = X.length := by simp [newPlaces]

theorem newPlaces_get (P : Nat) (X : List Ob) {i : Nat} (hi : i < X.length) : (newPlaces P X).getD i 0 = (placeAt P X i : Int) := by
  rw [List.getD_eq_getElem?_getD]
  simp [newPlaces, hi]
end Go.Proofs.YtnpklnpicelcmaaGreat

namespace Go.Proofs.YtnpklnpicelcmaaGreat
open Go.RowKit
set_option linter.unusedVariables false

/-- The objects at places, in their order. -/
def objsO (L : List Ob) (R : List Int) : List Ob := R.filterMap (findO L)

theorem objsO_length {L : List Ob} : ∀ {R : List Int}, (∀ p ∈ R, p ∈ placesO L) → (objsO L R).length = R.length
  | [], _ => rfl
  | p :: R, h => by
    obtain ⟨x, hx⟩ := mem_placesO.1 (h p (List.mem_cons_self ..))
    have := objsO_length (L := L) (R := R) (fun q hq => h q (List.mem_cons_of_mem _ hq))
    unfold objsO at this ⊢
    rw [List.filterMap_cons_some hx]
    simp [this]

theorem objsO_get {L : List Ob} : ∀ {R : List Int} (_ : ∀ p ∈ R, p ∈ placesO L) (i : Nat) (hi : i < R.length) (hi' : i < (objsO L R).length), findO L R[i] = some (objsO L R)[i]
  | p :: R, h, i, hi, hi' => by
    obtain ⟨x, hx⟩ := mem_placesO.1 (h p (List.mem_cons_self ..))
    have e : objsO L (p :: R) = x :: objsO L R := by unfold objsO; rw [List.filterMap_cons_some hx]
    cases i with
    | zero => simp only [e, List.getElem_cons_zero]; exact hx
    | succ i =>
      have := objsO_get (L := L) (R := R) (fun q hq => h q (List.mem_cons_of_mem _ hq)) i (by simpa using hi) (by simpa [e] using hi')
      simpa [e] using this

/-- Where the object of a place is now. -/
def goes (R Q : List Int) (p : Int) : Int := Q.getD ((numL R p).getD 0) 0

/-- What a field holds now. -/
def mapF (f : Nat → Int) (R Q : List Int) (x : Ob) (k : Nat) : Int :=
  if x.m / P2 (k : Int) % 2 = 1 ∧ ¬ f (x.at_.toNat + 2 + k) = 0 then goes R Q (f (x.at_.toNat + 2 + k) - 1) + 1 else f (x.at_.toNat + 2 + k)

/-- The words behind a collection. -/
structure IsCol (f : Nat → Int) (L : List Ob) (R : List Int) (P : Nat) (g : Nat → Int) : Prop where
  heads : HeadsAt g P (objsO L R)
  flds : ∀ (i : Nat) (hi : i < (objsO L R).length) (k : Nat), k < (objsO L R)[i].s.toNat → g (placeAt P (objsO L R) i + 2 + k) = mapF f R (newPlaces P (objsO L R)) (objsO L R)[i] k
  rest : ∀ j, ¬ (P ≤ j ∧ j < P + totO (objsO L R)) → g j = 0

theorem getD_get {R : List Int} {i : Nat} (hi : i < R.length) : R.getD i 0 = R[i] := by
  rw [List.getD_eq_getElem?_getD, List.getElem?_eq_getElem hi]; rfl

/-- What is known of an arena that is right. -/
structure Right (f : Nat → Int) (L : List Ob) : Prop where
  points : Points f L
  size : ∀ x ∈ L, 0 ≤ x.s
  ok : ∀ x ∈ L, ObOk x
  apart : ∀ x ∈ L, findO L x.at_ = some x

section

variable {f g : Nat → Int} {L : List Ob} {roots : List Int} {P : Nat}

end
end Go.Proofs.YtnpklnpicelcmaaGreat

namespace Go.Proofs.YtnpklnpicelcmaaGreat
open Go.RowKit
set_option linter.unusedVariables false

/-- Two fields are alike. -/
def FldAlike (R R' : List Int) (bit : Prop) (v w : Int) : Prop := (bit → ((v = 0 ↔ w = 0) ∧ (¬ v = 0 → numL R (v - 1) = numL R' (w - 1)))) ∧ (¬ bit → v = w)

/-- What is reached from both is alike. -/
structure AlikeO (f : Nat → Int) (L : List Ob) (ra : List Int) (g : Nat → Int) (L' : List Ob) (rb : List Int) : Prop where
  rlen : ra.length = rb.length
  len : (reachO f L ra).length = (reachO g L' rb).length
  obj : ∀ i, i < (reachO f L ra).length → ∃ x y, findO L ((reachO f L ra).getD i 0) = some x ∧ findO L' ((reachO g L' rb).getD i 0) = some y ∧ (x.s = y.s ∧ x.m = y.m ∧ x.o = y.o ∧ x.h = y.h) ∧
    ∀ k : Nat, k < x.s.toNat → FldAlike (reachO f L ra) (reachO g L' rb) (x.m / P2 (k : Int) % 2 = 1) (f (x.at_.toNat + 2 + k)) (g (y.at_.toNat + 2 + k))
  roots : ∀ i, i < ra.length → numL (reachO f L ra) (ra.getD i 0) = numL (reachO g L' rb) (rb.getD i 0)

section

variable {f g e : Nat → Int} {L L' L2 : List Ob} {ra rb rc : List Int}

theorem AlikeO.symm (h : AlikeO f L ra g L' rb) : AlikeO g L' rb f L ra := by
  refine ⟨h.rlen.symm, h.len.symm, fun i hi => ?_, fun i hi => (h.roots i (by rw [h.rlen]; exact hi)).symm⟩
  obtain ⟨x, y, h1, h2, ⟨a1, a2, a3, a4⟩, h4⟩ := h.obj i (by rw [h.len]; exact hi)
  refine ⟨y, x, h2, h1, ⟨a1.symm, a2.symm, a3.symm, a4.symm⟩, fun k hk => ?_⟩
  obtain ⟨b1, b2⟩ := h4 k (by rw [a1]; exact hk)
  rw [← a2]
  exact ⟨fun hb => ⟨(b1 hb).1.symm, fun hw => ((b1 hb).2 (fun hv => hw ((b1 hb).1.1 hv))).symm⟩, fun hb => (b2 hb).symm⟩

theorem AlikeO.trans (h : AlikeO f L ra g L' rb) (k : AlikeO g L' rb e L2 rc) : AlikeO f L ra e L2 rc := by
  refine ⟨h.rlen.trans k.rlen, h.len.trans k.len, fun i hi => ?_, fun i hi => (h.roots i hi).trans (k.roots i (by rw [← h.rlen]; exact hi))⟩
  obtain ⟨x, y, h1, h2, ⟨a1, a2, a3, a4⟩, h4⟩ := h.obj i hi
  obtain ⟨y', z, k1, k2, ⟨c1, c2, c3, c4⟩, k4⟩ := k.obj i (by rw [← h.len]; exact hi)
  rw [h2] at k1
  obtain rfl := Option.some.inj k1
  refine ⟨x, z, h1, k2, ⟨a1.trans c1, a2.trans c2, a3.trans c3, a4.trans c4⟩, fun q hq => ?_⟩
  obtain ⟨b1, b2⟩ := h4 q hq
  obtain ⟨d1, d2⟩ := k4 q (by rw [← a1]; exact hq)
  rw [← a2] at d1 d2
  exact ⟨fun hb => ⟨(b1 hb).1.trans (d1 hb).1, fun hv => ((b1 hb).2 hv).trans ((d1 hb).2 (fun hw => hv ((b1 hb).1.2 hw)))⟩, fun hb => (b2 hb).trans (d2 hb)⟩

theorem AlikeO.refl (hr : Right f L) (hroots : ∀ p ∈ ra, p ∈ placesO L) : AlikeO f L ra f L ra := by
  refine ⟨rfl, rfl, fun i hi => ?_, fun _ _ => rfl⟩
  have hm : (reachO f L ra).getD i 0 ∈ reachO f L ra := by rw [getD_get hi]; exact List.getElem_mem hi
  obtain ⟨x, hx⟩ := mem_placesO.1 (reachO_sub hr.points hr.size hroots _ hm)
  exact ⟨x, x, hx, hx, ⟨rfl, rfl, rfl, rfl⟩, fun k _ => ⟨fun _ => ⟨Iff.rfl, fun _ => rfl⟩, fun _ => rfl⟩⟩

end

section

variable {f g : Nat → Int} {L : List Ob} {roots : List Int} {P : Nat}

end
end Go.Proofs.YtnpklnpicelcmaaGreat

namespace Go.Proofs.YtnpklnpicelcmaaGreat
open Go.RowKit
set_option linter.unusedVariables false

theorem parse_tot_eq {f : Nat → Int} {e : Nat} : ∀ (d a : Nat) (L : List Ob), e - a ≤ d → a ≤ e → parse f e a = some L → a + totO L = e
  | d, a, L, hd, hae, hp => by
    by_cases h : a < e
    · by_cases hg : Good f e a
      · rw [parse_good h hg] at hp
        cases hr : parse f e (a + 2 + szOf f a) with
        | none => rw [hr] at hp; cases hp
        | some L' =>
          rw [hr] at hp
          simp only [Option.map_some, Option.some.injEq] at hp
          subst hp
          match d with
          | 0 => omega
          | d + 1 =>
            have ih := parse_tot_eq d _ L' (by omega) hg.2.2 hr
            have hw : wordsO (objAt f a) = 2 + szOf f a := rfl
            show a + (wordsO (objAt f a) + totO L') = e
            omega
      · rw [parse_bad h hg] at hp; cases hp
    · rw [parse_stop h] at hp
      cases hp
      show a + 0 = e
      omega

def sumW (w : Int → Nat) : List Int → Nat
  | [] => 0
  | p :: l => w p + sumW w l

theorem sumW_erase (w : Int → Nat) : ∀ (l : List Int) (p : Int), p ∈ l → sumW w l = w p + sumW w (l.erase p)
  | q :: l, p, h => by
    by_cases e : q = p
    · subst e
      rw [List.erase_cons_head]; rfl
    · have hm : p ∈ l := by
        rcases List.mem_cons.mp h with h1 | h1
        · exact absurd h1.symm e
        · exact h1
      rw [List.erase_cons_tail (by simpa using e)]
      have := sumW_erase w l p hm
      show w q + sumW w l = w p + (w q + sumW w (l.erase p))
      omega

theorem sumW_le (w : Int → Nat) : ∀ (R U : List Int), R.Nodup → (∀ p ∈ R, p ∈ U) → sumW w R ≤ sumW w U
  | [], _, _, _ => Nat.zero_le _
  | p :: R, U, hn, hs => by
    have hx := List.nodup_cons.mp hn
    have ih := sumW_le w R (U.erase p) hx.2 (fun q hq => (List.mem_erase_of_ne (fun e => by subst e; exact hx.1 hq)).mpr (hs q (List.mem_cons_of_mem _ hq)))
    have := sumW_erase w U p (hs p (List.mem_cons_self ..))
    show w p + sumW w R ≤ sumW w U
    omega

/-- How many words the object of a place has. -/
def wordsAt (L : List Ob) (p : Int) : Nat := match findO L p with | some x => wordsO x | none => 0

theorem tot_objs {L : List Ob} : ∀ {R : List Int}, (∀ p ∈ R, p ∈ placesO L) → totO (objsO L R) = sumW (wordsAt L) R
  | [], _ => rfl
  | p :: R, h => by
    obtain ⟨x, hx⟩ := mem_placesO.1 (h p (List.mem_cons_self ..))
    have e : objsO L (p :: R) = x :: objsO L R := by unfold objsO; rw [List.filterMap_cons_some hx]
    have hw : wordsAt L p = wordsO x := by unfold wordsAt; rw [hx]
    rw [e]
    show wordsO x + totO (objsO L R) = wordsAt L p + sumW (wordsAt L) R
    rw [hw, tot_objs fun q hq => h q (List.mem_cons_of_mem _ hq)]

theorem objs_all {L : List Ob} (ha : ∀ x ∈ L, findO L x.at_ = some x) : objsO L (placesO L) = L := by
  have key : ∀ X : List Ob, (∀ x ∈ X, findO L x.at_ = some x) → (X.map Ob.at_).filterMap (findO L) = X := by
    intro X
    induction X with
    | nil => intro _; rfl
    | cons x X ih =>
      intro h
      rw [List.map_cons, List.filterMap_cons_some (h x (List.mem_cons_self ..)), ih fun y hy => h y (List.mem_cons_of_mem _ hy)]
  exact key L ha

theorem tot_le {L : List Ob} {R : List Int} (ha : ∀ x ∈ L, findO L x.at_ = some x) (hn : R.Nodup) (hs : ∀ p ∈ R, p ∈ placesO L) : totO (objsO L R) ≤ totO L := by
  have h1 : totO L = sumW (wordsAt L) (placesO L) := by
    rw [← tot_objs (L := L) (R := placesO L) (fun p hp => hp), objs_all ha]
  rw [tot_objs hs, h1]
  exact sumW_le _ _ _ hn hs

theorem in_object : ∀ (X : List Ob) (P i : Nat), P ≤ i → i < P + totO X → ∃ (j : Nat) (hj : j < X.length), placeAt P X j ≤ i ∧ i < placeAt P X j + wordsO X[j]
  | [], P, i, h1, h2 => by simp [totO] at h2; omega
  | x :: X, P, i, h1, h2 => by
    by_cases h : i < P + wordsO x
    · exact ⟨0, by simp, by rw [placeAt_zero]; exact h1, by rw [placeAt_zero]; exact h⟩
    · have ht : totO (x :: X) = wordsO x + totO X := rfl
      obtain ⟨j, hj, h3, h4⟩ := in_object X (P + wordsO x) i (by omega) (by omega)
      exact ⟨j + 1, by simpa using hj, by rw [placeAt_succ]; exact h3, by rw [placeAt_succ]; simpa using h4⟩

theorem headsAt_get {g : Nat → Int} : ∀ (X : List Ob) (P : Nat), HeadsAt g P X → ∀ (i : Nat) (hi : i < X.length), g (placeAt P X i) = packO X[i] ∧ g (placeAt P X i + 1) = X[i].h
  | x :: X, P, h, 0, _ => by rw [placeAt_zero]; exact ⟨h.1, h.2.1⟩
  | x :: X, P, h, i + 1, hi => by
    rw [placeAt_succ]
    simpa using headsAt_get X (P + wordsO x) h.2.2 i (by simpa using hi)

theorem right_of {h : Int} {n : Nat} {f : Nat → Int} {ac bu : Int} {L : List Ob} (hk : IsSF h n f ac bu 0) (ho : IsOI h n f ac bu 0 L) : Right f L := by
  have hpz := (isOI_zero ho).2
  obtain ⟨⟨⟨q1, q2⟩, ⟨q3, q4⟩, q5, q6⟩, qn, qw⟩ := isFault_ok (isOI_zero ho).1
  have hPUn : (baseI ac h).toNat + bu.toNat ≤ n := by rcases (by omega : ac = 0 ∨ ac = 1) with rfl | rfl <;> simp [baseI] <;> omega
  refine ⟨(isSF_shape hk ho).1, fun x hx => ?_, fun x hx => ?_, fun x hx => ?_⟩
  · exact (parse_ok hpz hPUn qw x hx).1.1
  · obtain ⟨a', he, hg⟩ := parse_all _ _ L (Nat.le_refl _) hpz x hx
    refine ⟨?_, (parse_ok hpz hPUn qw x hx).2.1.2⟩
    rw [he]; exact hg.2.1.2
  · obtain ⟨i, hi, rfl⟩ := List.getElem_of_mem hx
    exact findO_at hpz hi
end Go.Proofs.YtnpklnpicelcmaaGreat

namespace Go.Proofs.YtnpklnpicelcmaaGreat
open Go.RowKit
set_option linter.unusedVariables false

/-- A list as a row's numbers. -/
def lf (l : List Int) : Nat → Int := fun i => l.getD i 0

theorem lf_at {l : List Int} {i : Nat} (h : i < l.length) : lf l i = l[i] := getD_get h

theorem lf_mem {l : List Int} {i : Nat} (h : i < l.length) : lf l i ∈ l := by rw [lf_at h]; exact List.getElem_mem h

theorem nums_lf (l : List Int) : nums l.length (lf l) = l.map (fun x => Value.int .i64 x) := by
  apply List.ext_getElem?
  intro i
  by_cases hi : i < l.length
  · rw [nums_get _ _ _ hi, lf_at hi]; simp [hi]
  · rw [List.getElem?_eq_none (by rw [nums_length]; omega), List.getElem?_eq_none (by simp; omega)]

theorem nums_snoc (l : List Int) (x : Int) : nums l.length (lf l) ++ [Value.int .i64 x] = nums (l.length + 1) (lf (l ++ [x])) := by
  have h := nums_lf (l ++ [x])
  rw [show (l ++ [x]).length = l.length + 1 by simp] at h
  rw [h, nums_lf]; simp

theorem lf_last (l : List Int) (x : Int) : lf (l ++ [x]) l.length = x := by unfold lf; simp

theorem lf_left {l : List Int} {i : Nat} (h : i < l.length) (x : Int) : lf (l ++ [x]) i = lf l i := by
  unfold lf; rw [List.getD_eq_getElem?_getD, List.getElem?_append_left h, ← List.getD_eq_getElem?_getD]

/-- Where an object's pointers lead, from a field on. -/
def ptrsF (f : Nat → Int) (x : Ob) (k : Nat) : List Int := ((List.range x.s.toNat).drop k).filterMap fun (k : Nat) => if x.m / P2 (k : Int) % 2 = 1 ∧ ¬ f (x.at_.toNat + 2 + k) = 0 then some (f (x.at_.toNat + 2 + k) - 1) else none

theorem ptrsF_zero (f : Nat → Int) (x : Ob) : ptrsF f x 0 = ptrs f x := rfl

theorem ptrsF_end {f : Nat → Int} {x : Ob} {k : Nat} (h : x.s.toNat ≤ k) : ptrsF f x k = [] := by
  unfold ptrsF; rw [List.drop_eq_nil_of_le (by simpa using h)]; rfl

theorem ptrsF_yes {f : Nat → Int} {x : Ob} {k : Nat} (h : k < x.s.toNat) (h1 : x.m / P2 (k : Int) % 2 = 1) (h2 : ¬ f (x.at_.toNat + 2 + k) = 0) : ptrsF f x k = (f (x.at_.toNat + 2 + k) - 1) :: ptrsF f x (k + 1) := by
  unfold ptrsF
  rw [List.drop_eq_getElem_cons (by simpa using h), List.getElem_range]
  exact List.filterMap_cons_some (if_pos ⟨h1, h2⟩)

theorem ptrsF_no {f : Nat → Int} {x : Ob} {k : Nat} (h : k < x.s.toNat) (h1 : ¬ (x.m / P2 (k : Int) % 2 = 1 ∧ ¬ f (x.at_.toNat + 2 + k) = 0)) : ptrsF f x k = ptrsF f x (k + 1) := by
  unfold ptrsF
  rw [List.drop_eq_getElem_cons (by simpa using h), List.getElem_range]
  exact List.filterMap_cons_none (if_neg h1)

def add1 (O : List Int) (p : Int) : List Int := if p ∈ O then O else O ++ [p]

theorem addNew_cons (O : List Int) (p : Int) (ps : List Int) : addNew O (p :: ps) = addNew (add1 O p) ps := rfl

theorem add1_nodup {O : List Int} (h : O.Nodup) (p : Int) : (add1 O p).Nodup := nodup_addNew [p] O h

theorem add1_mem {O : List Int} {p q : Int} : q ∈ add1 O p ↔ q ∈ O ∨ q = p := by
  exact (mem_addNew [p] O q).trans (by simp)

theorem add1_le (O : List Int) (p : Int) : O.length ≤ (add1 O p).length := by unfold add1; split <;> simp

theorem add1_lf {O : List Int} {i : Nat} (h : i < O.length) (p : Int) : lf (add1 O p) i = lf O i := by
  unfold add1; split
  · rfl
  · exact lf_left h p

/-- The scan: the places from i on are still to be looked at. -/
structure SC (f : Nat → Int) (L : List Ob) (roots : List Int) (i : Nat) (O : List Int) : Prop where
  nd : O.Nodup
  sub : ∀ p ∈ O, p ∈ placesO L
  le : i ≤ O.length
  all : reachO f L roots = scanF (succO f L) (L.length - i) i O

/-- The scan within an object. -/
structure SI (f : Nat → Int) (L : List Ob) (roots : List Int) (i k : Nat) (x : Ob) (O : List Int) : Prop where
  nd : O.Nodup
  sub : ∀ p ∈ O, p ∈ placesO L
  lt : i < O.length
  at_ : findO L (lf O i) = some x
  all : reachO f L roots = scanF (succO f L) (L.length - (i + 1)) (i + 1) (addNew O (ptrsF f x k))

section

variable {f : Nat → Int} {L : List Ob} {roots O : List Int} {i k : Nat} {x : Ob}

theorem SC.len (h : SC f L roots i O) : O.length ≤ L.length := by have := nodup_length h.nd h.sub; simpa [placesO] using this

theorem SI.len (h : SI f L roots i k x O) : O.length ≤ L.length := by have := nodup_length h.nd h.sub; simpa [placesO] using this

theorem sc_start (hr : ∀ p ∈ roots, p ∈ placesO L) : SC f L roots 0 (addNew [] roots) := ⟨nodup_addNew _ _ List.nodup_nil, addNew_sub hr, Nat.zero_le _, rfl⟩

theorem sc_in (h : SC f L roots i O) (hi : i < O.length) : ∃ x, findO L (lf O i) = some x ∧ SI f L roots i 0 x O := by
  obtain ⟨x, hx⟩ := mem_placesO.1 (h.sub _ (lf_mem hi))
  refine ⟨x, hx, h.nd, h.sub, hi, hx, ?_⟩
  have hl := h.len
  rw [h.all, show L.length - i = L.length - (i + 1) + 1 by omega, scanF, if_pos hi, ptrsF_zero]
  congr 1
  have : succO f L (O.getD i 0) = ptrs f x := by unfold succO; rw [show O.getD i 0 = lf O i from rfl, hx]
  rw [this]

theorem sc_end (h : SC f L roots i O) (hi : ¬ i < O.length) : reachO f L roots = O := by rw [h.all, scanF_stop hi]

theorem si_end (h : SI f L roots i k x O) (hk : x.s.toNat ≤ k) : SC f L roots (i + 1) O := ⟨h.nd, h.sub, h.lt, by rw [h.all, ptrsF_end hk]; rfl⟩

theorem si_no (h : SI f L roots i k x O) (hk : k < x.s.toNat) (h1 : ¬ (x.m / P2 (k : Int) % 2 = 1 ∧ ¬ f (x.at_.toNat + 2 + k) = 0)) : SI f L roots i (k + 1) x O := ⟨h.nd, h.sub, h.lt, h.at_, by rw [h.all, ptrsF_no hk h1]⟩

theorem si_in (hp : Points f L) (hs : ∀ x ∈ L, 0 ≤ x.s) (h : SI f L roots i k x O) (hk : k < x.s.toNat) (h1 : x.m / P2 (k : Int) % 2 = 1) (h2 : ¬ f (x.at_.toNat + 2 + k) = 0) : f (x.at_.toNat + 2 + k) - 1 ∈ placesO L := by
  refine succO_sub hp hs _ (h.sub _ (lf_mem h.lt)) _ ?_
  unfold succO; rw [h.at_]
  exact mem_ptrs.2 ⟨k, hk, h1, h2, rfl⟩

theorem si_yes (hp : Points f L) (hs : ∀ x ∈ L, 0 ≤ x.s) (h : SI f L roots i k x O) (hk : k < x.s.toNat) (h1 : x.m / P2 (k : Int) % 2 = 1) (h2 : ¬ f (x.at_.toNat + 2 + k) = 0) : SI f L roots i (k + 1) x (add1 O (f (x.at_.toNat + 2 + k) - 1)) := by
  have hin := si_in hp hs h hk h1 h2
  refine ⟨add1_nodup h.nd _, fun p hq => ?_, Nat.lt_of_lt_of_le h.lt (add1_le _ _), by rw [add1_lf h.lt]; exact h.at_, by rw [h.all, ptrsF_yes hk h1 h2, addNew_cons]⟩
  rcases add1_mem.1 hq with h' | rfl
  · exact h.sub p h'
  · exact hin

end

/-- A table: the i-th of a list has the i-th value. -/
def tab (R : List Int) (v : Nat → Int) (p : Int) : Option Int := (numL R p).map v

theorem tab_nil (v : Nat → Int) (p : Int) : tab [] v p = none := rfl

theorem numL_snoc {R : List Int} {p : Int} (h : p ∉ R) (q : Int) : numL (R ++ [p]) q = if q = p then some R.length else numL R q := by
  unfold numL
  rw [List.findIdx?_append]
  by_cases e : q = p
  · subst e
    rw [if_pos rfl, show R.findIdx? (· == q) = none from numL_none.2 h]
    simp
  · rw [if_neg e]
    have : ([p] : List Int).findIdx? (· == q) = none := by simp [List.findIdx?_cons]; intro h; exact e h.symm
    rw [this]
    cases R.findIdx? (· == q) <;> rfl

theorem tab_snoc {R : List Int} {p : Int} (h : p ∉ R) (v : Nat → Int) (q : Int) : tab (R ++ [p]) v q = if q = p then some (v R.length) else tab R v q := by
  unfold tab
  rw [numL_snoc h]
  split <;> rfl
end Go.Proofs.YtnpklnpicelcmaaGreat

namespace Go.Proofs.YtnpklnpicelcmaaGreat
open Go.RowKit
set_option linter.unusedVariables false

theorem news1 (w : World) (x : Int) : ∀ (j : Nat) (u : Value), ([.int .i64 x] : List Value)[j]? = some u → (w.alloc (.cells #[.int .i64 x] 2)).cell? ((⟨w.heap.size, 0, none⟩ : Addr).add j) = some u := fun j u hu => by
  match j, hu with
  | 0, hu => exact (Blk.new w #[.int .i64 x] 2).at 0 hu
  | j + 1, hu => simp at hu

set_option maxRecDepth 100000 in
set_option maxHeartbeats 800000 in
theorem l1Has_any (a : Option Addr) (l : List Int) (c : Nat) (v : Int) (w : World) (hs : Src w a l.length (lf l)) (hl : l.length ≤ 1048576) :
    Calls Tryz.prog 105 #[.slice a l.length c, .int .i64 v] w fun e w' => e = .returned (.bool (decide (v ∈ l))) ∧ w = w' := by
  have HS := Lib.hid hs
  clear hs
  go_enter Tryz.func105, Tryz.ntmps105
  go_wp2
  go_loop [5] (fun p => ∃ i : Nat, i ≤ l.length ∧ p = .int .i64 (i : Int) ∧ Hid (∀ j, j < i → ¬ lf l j = v)) (fun p => l.length - (intOf p).toNat)
  case atStart => exact ⟨0, Nat.zero_le _, rfl, Lib.hid (fun j hj => by omega)⟩
  case round =>
    obtain ⟨i, hi, rfl, HD⟩ := hrel
    by_cases hlt : i < l.length
    · have hlt' : (i : Int) < (l.length : Int) := by omega
      have hi0 : (0 : Int) ≤ (i : Int) := by omega
      obtain ⟨b, off, rfl, hb, hc⟩ := src_some HS.out (by omega)
      have c0 := hc i hlt
      have hmem := lf_mem hlt
      obtain ⟨y, hy⟩ : ∃ y, lf l i = y := ⟨_, rfl⟩
      have HY := Lib.hid hy
      rw [hy] at c0 hmem
      clear hc hy
      by_cases he : y = v
      · subst he
        have HM : Hid (decide (y ∈ l) = true) := Lib.hid (decide_eq_true hmem)
        clear hmem
        go_wp2
        go_ret
        exact ⟨by rw [HM.out]; rfl, rfl⟩
      · have hb' : (y == v) = false := by simpa using he
        clear hmem
        go_wp2
        go_round
        case rel => exact ⟨i + 1, by omega, by go_num, Lib.hid (fun j hj => by
          rcases Nat.lt_succ_iff_lt_or_eq.mp hj with h1 | h1
          · exact HD.out j h1
          · subst h1; rw [HY.out]; exact he)⟩
        case measure => simp [intOf]; omega
    · have hlt' : ¬ (i : Int) < (l.length : Int) := by omega
      have HM : Hid (decide (v ∈ l) = false) := Lib.hid (decide_eq_false (fun hm => by
        obtain ⟨j, hj, he⟩ := List.getElem_of_mem hm
        exact HD.out j (by omega) (by rw [lf_at hj]; exact he)))
      go_wp2
      go_ret
      exact ⟨by rw [HM.out]; rfl, rfl⟩

theorem numL_first {l : List Int} {v : Int} {i : Nat} (hi : i < l.length) (he : lf l i = v) (hf : ∀ j, j < i → ¬ lf l j = v) : numL l v = some i := by
  unfold numL
  rw [List.findIdx?_eq_some_iff_getElem]
  refine ⟨hi, by rw [lf_at hi] at he; simpa using he, fun j hj => ?_⟩
  have := hf j hj
  rw [lf_at (by omega)] at this
  simpa using this

/-- The number as the model tells it. -/
def numI (l : List Int) (v : Int) : Int := match numL l v with | some i => (i : Int) | none => -1

set_option maxRecDepth 100000 in
set_option maxHeartbeats 800000 in
theorem l4Number_any (a : Option Addr) (l : List Int) (c : Nat) (v : Int) (w : World) (hs : Src w a l.length (lf l)) (hl : l.length ≤ 1048576) :
    Calls Tryz.prog 84 #[.slice a l.length c, .int .i64 v] w fun e w' => e = .returned (.int .i64 (numI l v)) ∧ w = w' := by
  have HS := Lib.hid hs
  clear hs
  go_enter Tryz.func84, Tryz.ntmps84
  go_wp2
  go_loop [5] (fun p => ∃ i : Nat, i ≤ l.length ∧ p = .int .i64 (i : Int) ∧ Hid (∀ j, j < i → ¬ lf l j = v)) (fun p => l.length - (intOf p).toNat)
  case atStart => exact ⟨0, Nat.zero_le _, rfl, Lib.hid (fun j hj => by omega)⟩
  case round =>
    obtain ⟨i, hi, rfl, HD⟩ := hrel
    by_cases hlt : i < l.length
    · have hlt' : (i : Int) < (l.length : Int) := by omega
      have hi0 : (0 : Int) ≤ (i : Int) := by omega
      obtain ⟨b, off, rfl, hb, hc⟩ := src_some HS.out (by omega)
      have c0 := hc i hlt
      obtain ⟨y, hy⟩ : ∃ y, lf l i = y := ⟨_, rfl⟩
      have HY := Lib.hid hy
      rw [hy] at c0
      clear hc hy
      by_cases he : y = v
      · have HM : Hid (numI l v = (i : Int)) := Lib.hid (by unfold numI; rw [numL_first hlt (by rw [HY.out]; exact he) HD.out])
        subst he
        go_wp2
        go_ret
        exact ⟨by rw [HM.out]; rfl, rfl⟩
      · have hb' : (y == v) = false := by simpa using he
        go_wp2
        go_round
        case rel => exact ⟨i + 1, by omega, by go_num, Lib.hid (fun j hj => by
          rcases Nat.lt_succ_iff_lt_or_eq.mp hj with h1 | h1
          · exact HD.out j h1
          · subst h1; rw [HY.out]; exact he)⟩
        case measure => simp [intOf]; omega
    · have hlt' : ¬ (i : Int) < (l.length : Int) := by omega
      have HM : Hid (numI l v = -1) := Lib.hid (by
        have : numL l v = none := numL_none.2 (fun hm => by
          obtain ⟨j, hj, he⟩ := List.getElem_of_mem hm
          exact HD.out j (by omega) (by rw [lf_at hj]; exact he))
        unfold numI; rw [this])
      go_wp2
      go_ret
      exact ⟨by rw [HM.out]; rfl, rfl⟩
end Go.Proofs.YtnpklnpicelcmaaGreat

namespace Go.Proofs.YtnpklnpicelcmaaGreat
open Go.RowKit
set_option linter.unusedVariables false

theorem row_src {w : World} {B e : Nat} {v : Value} {l : List Int} (h : w.ownsRow B e 1 v l.length (nums l.length (lf l))) : ∃ a c, v = .slice a l.length c ∧ Src w a l.length (lf l) := by
  obtain ⟨a, c, rfl, _⟩ := row_shape h
  exact ⟨a, c, rfl, (own_of_row h).src⟩

/-- The objects of a list in memory, as the model walks need them. -/
structure OMS (w : World) (base lo : Nat) (f : Nat → Int) (v : Value) (M : List OM) : Prop where
  row : w.ownsRow base 102 6 v M.length (rowCells M)
  fl : Flds w lo f v M
  len : M.length ≤ 400
  ok : ∀ t ∈ M, (0 ≤ t.x.s ∧ t.x.s ≤ 12) ∧ (0 ≤ t.x.m ∧ t.x.m ≤ 4095) ∧ (0 ≤ t.x.at_ ∧ t.x.at_ ≤ 1000000) ∧ ∀ k, k < t.x.s.toNat → -1000000000 ≤ f (t.x.at_.toNat + 2 + k) ∧ f (t.x.at_.toNat + 2 + k) ≤ 1000000000

theorem OMS.below {w w' : World} {base lo : Nat} {f : Nat → Int} {v : Value} {M : List OM} (h : OMS w base lo f v M) (hb : Below w.heap.size w w') : OMS w' base lo f v M := ⟨ownsRow_below h.row hb, h.fl.below hb, h.len, h.ok⟩

/-- The object of a place, in memory. -/
theorem OMS.get {w : World} {base lo : Nat} {f : Nat → Int} {v : Value} {M : List OM} (h : OMS w base lo f v M) {i : Nat} {x : Ob} (hx : (M.map OM.x)[i]? = some x) :
    ∃ (g1 c1 g c : Nat), v = .slice (some ⟨g1, 0, none⟩) M.length c1 ∧ i < M.length ∧ g1 < w.heap.size ∧ w.cell? ⟨g1, i * 6, none⟩ = some (.int .i64 x.at_) ∧ w.cell? ⟨g1, i * 6 + 1, none⟩ = some (.int .i64 x.s) ∧ w.cell? ⟨g1, i * 6 + 2, none⟩ = some (.int .i64 x.m) ∧ w.cell? ⟨g1, i * 6 + 3, none⟩ = some (.int .i64 x.o) ∧ w.cell? ⟨g1, i * 6 + 4, none⟩ = some (.int .i64 x.h) ∧ w.cell? ⟨g1, i * 6 + 5, none⟩ = some (.slice (some ⟨g, 0, none⟩) x.s.toNat c) ∧ g < w.heap.size ∧ (∀ k, k < x.s.toNat → w.cell? ⟨g, k, none⟩ = some (.int .i64 (f (x.at_.toNat + 2 + k)))) ∧
      (0 ≤ x.s ∧ x.s ≤ 12) ∧ (0 ≤ x.m ∧ x.m ≤ 4095) ∧ (0 ≤ x.at_ ∧ x.at_ ≤ 1000000) ∧ ∀ k, k < x.s.toNat → -1000000000 ≤ f (x.at_.toNat + 2 + k) ∧ f (x.at_.toNat + 2 + k) ≤ 1000000000 := by
  have hlt : i < M.length := by have := (List.getElem?_eq_some_iff.mp hx).1; simpa using this
  obtain ⟨g1, c1, rfl, _, l1, o1⟩ := row_form h.row (by omega)
  have ht := (o1 i M[i] (List.getElem?_eq_getElem hlt)).six
  have hx' : M[i].x = x := by simpa [hlt] using hx
  have hfs := h.fl.1 M[i] (List.getElem_mem hlt)
  have hk := h.ok M[i] (List.getElem_mem hlt)
  generalize M[i] = t at *
  obtain ⟨x', g, c⟩ := t
  obtain rfl : x' = x := hx'
  obtain ⟨t0, t1, t2, t3, t4, t5⟩ := ht
  exact ⟨g1, c1, g, c, rfl, hlt, l1, t0, t1, t2, t3, t4, t5, hfs.2.1, fun k hk => (hfs.2.2.2 k hk).1, hk.1, hk.2.1, hk.2.2.1, hk.2.2.2⟩

theorem OMS.find {w : World} {base lo : Nat} {f : Nat → Int} {v : Value} {M : List OM} (h : OMS w base lo f v M) (p : Int) : Calls Tryz.prog 82 #[v, .int .i64 p] w (RetFind w (M.map OM.x) p) := l3Find_any v M base p w h.row h.len

theorem OMS.size {w : World} {base lo : Nat} {f : Nat → Int} {v : Value} {M : List OM} (h : OMS w base lo f v M) : ∀ x ∈ M.map OM.x, 0 ≤ x.s := fun x hx => by
  obtain ⟨t, ht, rfl⟩ := List.mem_map.mp hx
  exact (h.ok t ht).1.1

theorem OMS.place {w : World} {base lo : Nat} {f : Nat → Int} {v : Value} {M : List OM} (h : OMS w base lo f v M) : ∀ p ∈ placesO (M.map OM.x), 0 ≤ p ∧ p ≤ 1000000 := fun p hp => by
  obtain ⟨y, hy, rfl⟩ := List.mem_map.mp hp
  obtain ⟨t, ht, rfl⟩ := List.mem_map.mp hy
  exact (h.ok t ht).2.2.1

theorem roots_snoc {l : List Int} {i : Nat} (h : i < l.length) (O : List Int) : addNew O (l.take (i + 1)) = add1 (addNew O (l.take i)) (lf l i) := by
  rw [List.take_succ_eq_append_getElem h, addNew_append, lf_at h]; rfl

theorem addNew_len (xs : List Int) : ∀ O : List Int, (addNew O xs).length ≤ O.length + xs.length := by
  induction xs with
  | nil => intro O; exact Nat.le_refl _
  | cons x xs ih => intro O; have := ih (add1 O x); rw [addNew_cons]; have h2 : (add1 O x).length ≤ O.length + 1 := (by unfold add1; split <;> simp); simp only [List.length_cons]; omega

set_option maxRecDepth 100000 in
set_option maxHeartbeats 3200000 in
theorem l4Reach_any (v : Value) (M : List OM) (base lo : Nat) (ra : Option Addr) (roots : List Int) (rc : Nat) (f : Nat → Int) (w : World) (hm : OMS w base lo f v M) (hp : Points f (M.map OM.x)) (hrs : Src w ra roots.length (lf roots)) (hrn : roots.length ≤ 1048576) (hr : ∀ p ∈ roots, p ∈ placesO (M.map OM.x)) :
    Calls Tryz.prog 78 #[v, .slice ra roots.length rc] w (RetInts w (reachO f (M.map OM.x) roots).length (lf (reachO f (M.map OM.x) roots))) := by
  have HM := Lib.hid hm; have HP := Lib.hid hp; have HRS := Lib.hid hrs; have HR := Lib.hid hr
  have HSZ := Lib.hid hm.size
  have HPL := Lib.hid hm.place
  have hml := hm.len
  obtain ⟨a1, k1, rfl⟩ := row_nil hm.row
  obtain ⟨i0, hif, hz0, hz1, hz2⟩ := info_parts Tryz.info2
  clear hm hp hrs hr
  go_enter Tryz.func78, Tryz.ntmps78
  go_wp2_with fail
  have HBa : Hid (Below w.heap.size w (w.alloc (.cells #[] 2))) := (Below.refl _ _).alloc (Nat.le_refl _) _
  have OWa : Hid ((w.alloc (.cells #[] 2)).ownsRow w.heap.size 2 1 (.slice (some ⟨w.heap.size, 0, none⟩) 0 0) ([] : List Int).length (nums ([] : List Int).length (lf []))) := World.ownsRow_lit w #[] 0 (Nat.le_refl _) (by simp [maxLen]) rfl
  have za : w.heap.size + 1 ≤ (w.alloc (.cells #[] 2)).heap.size := by simp
  generalize w.alloc (.cells #[] 2) = wa at *
  go_loopw [5, 6] (fun u q wr => ∃ (i : Nat) (O : List Int), i ≤ roots.length ∧ q = .int .i64 (i : Int) ∧ Hid (Below w.heap.size w wr) ∧ Hid (wr.ownsRow w.heap.size 2 1 u O.length (nums O.length (lf O))) ∧ Hid (O = addNew [] (roots.take i)) ∧ O.length ≤ i) (fun _ q _ => roots.length - (intOf q).toNat)
  case atStart => exact ⟨0, [], by omega, rfl, HBa, OWa, Lib.hid rfl, by simp⟩
  case round =>
    obtain ⟨i, O, hi, rfl, HB_r, OW_r, HO, hol⟩ := hrel
    clear HBa OWa za
    by_cases hlt : i < roots.length
    · have hlt' : (i : Int) < (roots.length : Int) := by omega
      have hi0 : (0 : Int) ≤ (i : Int) := by omega
      have hzr := HB_r.out.size
      have RS := Lib.hid (HRS.out.below HB_r.out)
      obtain ⟨rb, ro, rfl, hrb, hrc⟩ := src_some RS.out (by omega)
      have c0 := hrc i hlt
      obtain ⟨a5, c5, rfl, hs5⟩ := row_src OW_r.out
      have HS5 := Lib.hid hs5
      have HSN := Lib.hid (roots_snoc hlt [])
      obtain ⟨y, hy⟩ : ∃ y, lf roots i = y := ⟨_, rfl⟩
      rw [hy] at c0
      have HY := Lib.hid hy
      clear hrc hs5 hy
      go_wp2_with fail
      refine (l1Has_any a5 O c5 y _ HS5.out (by omega)).mono ?_
      rintro e w' ⟨rfl, rfl⟩
      by_cases hin : y ∈ O
      · have hd : decide (y ∈ O) = true := decide_eq_true hin
        rw [hd]
        have HO' : Hid (O = addNew [] (roots.take (i + 1))) := Lib.hid (by rw [HSN.out, HY.out, ← HO.out, add1, if_pos hin])
        clear hin hd
        go_wp2
        go_roundw
        case rel => first | exact ⟨i + 1, O, by omega, by go_num, HB_r, OW_r, HO', by omega⟩ | ((repeat apply Exists.intro); exact ⟨⟨i + 1, O, by omega, by go_num, HB_r, OW_r, HO', by omega⟩, rfl⟩)
        case measure => simp [intOf]; omega
      · have hd : decide (y ∈ O) = false := decide_eq_false hin
        rw [hd]
        have HO' : Hid (O ++ [y] = addNew [] (roots.take (i + 1))) := Lib.hid (by rw [HSN.out, HY.out, ← HO.out, add1, if_neg hin])
        have HGE : Hid (∀ k, (Value.slice a5 O.length c5).ownBlock = some k → w.heap.size ≤ k) := Lib.hid (fun k hk => ownBlock_ge OW_r.out hk)
        clear hin hd
        go_wp2_with (at_builtin; go_loud (refine wpList_append_lies _ rfl _ _ 22 rfl w.heap.size 2 i0 (.int .i64 0) 1 8 Tryz.underlying22 hif hz0 hz1 hz2 rfl (by decide) (.slice a5 O.length c5) O.length (nums O.length (lf O)) rfl (ownsRow_below OW_r.out ((Below.refl _ _).alloc (Nat.le_refl _) _)) ⟨wr.heap.size, 0, none⟩ 1 1 [.int .i64 y] rfl rfl (news1 wr y) (by intro u hu; simp only [List.mem_cons, List.mem_nil_iff, or_false] at hu; subst hu; rfl) (by omega) (by unfold maxLen; omega) (by omega) (by simp; omega) (wr.heap.size + 1) (by simp) ?_); intro g9 cap9 w9 hown9 hgrow9 hat9 hlt9)
        have HB9 : Hid (Below w.heap.size w w9) := (HB_r.out.alloc hzr _).grown hgrow9 (by simp; omega) (fun k hk => HGE.out k hk)
        have OW9 : Hid (w9.ownsRow w.heap.size 2 1 (.slice (some ⟨g9, 0, none⟩) (O.length + 1) cap9) (O ++ [y]).length (nums (O ++ [y]).length (lf (O ++ [y])))) := Lib.hid (by
          rw [show (O ++ [y]).length = O.length + 1 by simp, ← nums_snoc]; exact hown9)
        clear hown9 hgrow9 hat9
        go_wp2
        go_roundw
        case rel => first | exact ⟨i + 1, O ++ [y], by omega, by go_num, HB9, OW9, HO', by simp; omega⟩ | ((repeat apply Exists.intro); exact ⟨⟨i + 1, O ++ [y], by omega, by go_num, HB9, OW9, HO', by simp; omega⟩, rfl⟩)
        case measure => simp [intOf]; omega
    · have hlt' : ¬ (i : Int) < (roots.length : Int) := by omega
      obtain rfl : i = roots.length := by omega
      have HSC : Hid (SC f (M.map OM.x) roots 0 O) := Lib.hid (by have e := HO.out; rw [List.take_length] at e; rw [e]; exact sc_start HR.out)
      clear HO
      go_wp2
      go_loopw [5, 7] (fun u q wq => ∃ (i : Nat) (O : List Int), q = .int .i64 (i : Int) ∧ i ≤ M.length ∧ Hid (Below w.heap.size w wq) ∧ Hid (wq.ownsRow w.heap.size 2 1 u O.length (nums O.length (lf O))) ∧ Hid (SC f (M.map OM.x) roots i O)) (fun _ q _ => M.length - (intOf q).toNat)
      case atStart => exact ⟨0, O, rfl, by omega, HB_r, OW_r, HSC⟩
      case round =>
        clear HB_r OW_r HSC
        obtain ⟨i, O, rfl, him, HB_r, OW_r, HSC⟩ := hrel
        have hom : O.length ≤ M.length := by have := HSC.out.len; simpa using this
        have hzr := HB_r.out.size
        obtain ⟨a5, c5, rfl, hs5⟩ := row_src OW_r.out
        by_cases hio : i < O.length
        · have hlt' : (i : Int) < (O.length : Int) := by omega
          have hi0 : (0 : Int) ≤ (i : Int) := by omega
          obtain ⟨ob, oo, rfl, hob, hoc⟩ := src_some hs5 (by omega)
          have c0 := hoc i hio
          obtain ⟨x, hx, hsi⟩ := sc_in HSC.out hio
          have HSI := Lib.hid hsi
          obtain ⟨y, hy⟩ : ∃ y, lf O i = y := ⟨_, rfl⟩
          rw [hy] at c0 hx
          have HX := Lib.hid hx
          clear hs5 hoc hy hsi hx
          go_wp2_with fail
          refine ((HM.out.below HB_r.out).find y).mono ?_
          rintro e w' ⟨rfl, hf⟩
          rcases hf with ⟨hf, rfl⟩ | ⟨j, x', hf, hx, rfl⟩
          · rw [HX.out] at hf; cases hf
          rw [HX.out] at hf
          obtain rfl := Option.some.inj hf
          obtain ⟨g1, c1, g, c, e1, hjm, l1, x0, x1, x2, x3, x4, x5, lg, hfc, ⟨s0, s1⟩, hmm, hat, hwd⟩ := HM.out.get hx
          simp only [Value.slice.injEq] at e1
          obtain ⟨rfl, -, rfl⟩ := e1
          have hj' : (j : Int) < (M.length : Int) := by omega
          have hj0 : (0 : Int) ≤ (j : Int) := by omega
          have HFC := Lib.hid hfc; have HWD := Lib.hid hwd; have HAT := Lib.hid hat
          clear hf hx hfc hwd hat
          go_wp2
          go_loopw [5, 9] (fun u q wq => ∃ (k : Nat) (O : List Int), (k : Int) ≤ x.s ∧ q = .int .i64 (k : Int) ∧ Hid (Below w.heap.size w wq) ∧ Hid (wq.ownsRow w.heap.size 2 1 u O.length (nums O.length (lf O))) ∧ Hid (SI f (M.map OM.x) roots i k x O)) (fun _ q _ => x.s.toNat - (intOf q).toNat)
          case atStart => exact ⟨0, O, by omega, rfl, HB_r, OW_r, HSI⟩
          case round =>
            clear OW_r HSI HSC HX c0 hom hio hlt' HB_r hzr
            obtain ⟨k, O, hks, rfl, HB_q, OW_q, HSI⟩ := hrel
            have hwz := HB_q.out.size
            have x1q := (HB_q.out.cell (p := ⟨g1, j * 6 + 1, none⟩) l1).trans x1
            have x2q := (HB_q.out.cell (p := ⟨g1, j * 6 + 2, none⟩) l1).trans x2
            have x5q := (HB_q.out.cell (p := ⟨g1, j * 6 + 5, none⟩) l1).trans x5
            have hom : O.length ≤ M.length := by have := HSI.out.len; simpa using this
            obtain ⟨a5, c5, rfl, hs5⟩ := row_src OW_q.out
            have HS5 := Lib.hid hs5
            have HSD := Lib.hid (fun q => hs5.below (drewN_below wr q))
            have l1q : g1 < wr.heap.size := by omega
            clear hs5
            by_cases hlt : (k : Int) < x.s
            · have hkt : k < x.s.toNat := by omega
              have hkn : (k : Int) < (x.s.toNat : Int) := by omega
              have hk0 : (0 : Int) ≤ (k : Int) := by omega
              have fk := (HB_q.out.cell (p := ⟨g, k, none⟩) lg).trans (HFC.out k hkt)
              obtain ⟨w1', w2'⟩ := HWD.out k hkt
              have HIN := Lib.hid (si_in HP.out HSZ.out HSI.out hkt)
              have HYES := Lib.hid (si_yes HP.out HSZ.out HSI.out hkt)
              have HNO := Lib.hid (si_no HSI.out hkt)
              obtain ⟨y, hy⟩ : ∃ y, f (x.at_.toNat + 2 + k) = y := ⟨_, rfl⟩
              rw [hy] at fk w1' w2' HIN HYES HNO
              clear hy
              have HQ9 := Lib.hid (fun q => below_drewN HB_q.out q)
              have OWD := Lib.hid (fun q => ownsRow_below OW_q.out (drewN_below wr q))
              have hdd : x.m / P2 k % 2 = 1 ∨ x.m / P2 k % 2 = 0 := by omega
              rcases hdd with hd | hd
              · by_cases h0 : y = 0
                · have HSI' := Lib.hid (HNO.out (fun h => h.2 h0))
                  have hge : ¬ (0 : Int) ≤ y - 1 := by omega
                  clear HIN HYES HNO
                  go_wp2_with fail
                  refine (l2Pointer_at g1 (j * 6 + 1) k x.m true _ x2q hmm (by omega) (by rw [hd]; rfl)).mono ?_
                  rintro e w5 ⟨rfl, q5, rfl⟩
                  have HB6 := Lib.hid (HQ9.out q5)
                  have OW6 := Lib.hid (OWD.out q5)
                  have SR6 := Lib.hid (HSD.out q5)
                  clear HQ9 OWD HSD
                  generalize wr.drewN q5 = w6 at *
                  go_wp2
                  go_roundw
                  case rel => first | exact ⟨k + 1, O, by omega, by go_num, HB6, OW6, HSI'⟩ | ((repeat apply Exists.intro); exact ⟨⟨k + 1, O, by omega, by go_num, HB6, OW6, HSI'⟩, rfl⟩)
                  case measure => simp [intOf]; omega
                · have hpl := HPL.out _ (HIN.out hd h0)
                  have hge : (0 : Int) ≤ y - 1 := by omega
                  have HSI' := Lib.hid (HYES.out hd h0)
                  clear HIN HYES HNO
                  by_cases hmem : y - 1 ∈ O
                  · have hdc : decide (y - 1 ∈ O) = true := decide_eq_true hmem
                    rw [add1, if_pos hmem] at HSI'
                    clear hmem
                    go_wp2_with fail
                    refine (l2Pointer_at g1 (j * 6 + 1) k x.m true _ x2q hmm (by omega) (by rw [hd]; rfl)).mono ?_
                    rintro e w5 ⟨rfl, q5, rfl⟩
                    have HB6 := Lib.hid (HQ9.out q5)
                    have OW6 := Lib.hid (OWD.out q5)
                    have SR6 := Lib.hid (HSD.out q5)
                    clear HQ9 OWD HSD
                    generalize wr.drewN q5 = w6 at *
                    go_wp2_with fail
                    refine (l1Has_any a5 O c5 (y - 1) _ SR6.out (by omega)).mono ?_
                    rintro e w' ⟨rfl, rfl⟩
                    rw [hdc]
                    go_wp2
                    go_roundw
                    case rel => first | exact ⟨k + 1, O, by omega, by go_num, HB6, OW6, HSI'⟩ | ((repeat apply Exists.intro); exact ⟨⟨k + 1, O, by omega, by go_num, HB6, OW6, HSI'⟩, rfl⟩)
                    case measure => simp [intOf]; omega
                  · have hdc : decide (y - 1 ∈ O) = false := decide_eq_false hmem
                    rw [add1, if_neg hmem] at HSI'
                    clear hmem
                    go_wp2_with fail
                    refine (l2Pointer_at g1 (j * 6 + 1) k x.m true _ x2q hmm (by omega) (by rw [hd]; rfl)).mono ?_
                    rintro e w5 ⟨rfl, q5, rfl⟩
                    have HB6 := Lib.hid (HQ9.out q5)
                    have OW6 := Lib.hid (OWD.out q5)
                    have SR6 := Lib.hid (HSD.out q5)
                    clear HQ9 OWD HSD
                    generalize wr.drewN q5 = w6 at *
                    go_wp2_with fail
                    refine (l1Has_any a5 O c5 (y - 1) _ SR6.out (by omega)).mono ?_
                    rintro e w' ⟨rfl, rfl⟩
                    rw [hdc]
                    have z6 := HB6.out.size
                    have HGE : Hid (∀ k, (Value.slice a5 O.length c5).ownBlock = some k → w.heap.size ≤ k) := Lib.hid (fun k hk => ownBlock_ge OW6.out hk)
                    clear x1q x2q x5q fk HS5 OW_q SR6
                    go_wp2_with (at_builtin; go_loud (refine wpList_append_lies _ rfl _ _ 22 rfl w.heap.size 2 i0 (.int .i64 0) 1 8 Tryz.underlying22 hif hz0 hz1 hz2 rfl (by decide) (.slice a5 O.length c5) O.length (nums O.length (lf O)) rfl (ownsRow_below OW6.out ((Below.refl _ _).alloc (Nat.le_refl _) _)) ⟨w6.heap.size, 0, none⟩ 1 1 [.int .i64 (y - 1)] rfl rfl (news1 w6 (y - 1)) (by intro u hu; simp only [List.mem_cons, List.mem_nil_iff, or_false] at hu; subst hu; rfl) (by omega) (by unfold maxLen; omega) (by omega) (by simp; omega) (w6.heap.size + 1) (by simp) ?_); intro g9 cap9 w9 hown9 hgrow9 hat9 hlt9)
                    have HB9 : Hid (Below w.heap.size w w9) := (HB6.out.alloc z6 _).grown hgrow9 (by simp; omega) (fun k hk => HGE.out k hk)
                    have OW9 : Hid (w9.ownsRow w.heap.size 2 1 (.slice (some ⟨g9, 0, none⟩) (O.length + 1) cap9) (O ++ [y - 1]).length (nums (O ++ [y - 1]).length (lf (O ++ [y - 1])))) := Lib.hid (by
                      rw [show (O ++ [y - 1]).length = O.length + 1 by simp, ← nums_snoc]; exact hown9)
                    clear hown9 hgrow9 hat9
                    go_wp2
                    go_roundw
                    case rel => first | exact ⟨k + 1, (O ++ [y - 1]), by omega, by go_num, HB9, OW9, HSI'⟩ | ((repeat apply Exists.intro); exact ⟨⟨k + 1, (O ++ [y - 1]), by omega, by go_num, HB9, OW9, HSI'⟩, rfl⟩)
                    case measure => simp [intOf]; omega
              · have HSI' := Lib.hid (HNO.out (fun h => by have := h.1; omega))
                clear HIN HYES HNO
                go_wp2_with fail
                refine (l2Pointer_at g1 (j * 6 + 1) k x.m false _ x2q hmm (by omega) (by rw [hd]; rfl)).mono ?_
                rintro e w5 ⟨rfl, q5, rfl⟩
                have HB6 := Lib.hid (HQ9.out q5)
                have OW6 := Lib.hid (OWD.out q5)
                have SR6 := Lib.hid (HSD.out q5)
                clear HQ9 OWD HSD
                generalize wr.drewN q5 = w6 at *
                go_wp2
                go_roundw
                case rel => first | exact ⟨k + 1, O, by omega, by go_num, HB6, OW6, HSI'⟩ | ((repeat apply Exists.intro); exact ⟨⟨k + 1, O, by omega, by go_num, HB6, OW6, HSI'⟩, rfl⟩)
                case measure => simp [intOf]; omega
            · have hio2 := HSI.out.lt
              have HSC' := Lib.hid (si_end HSI.out (by omega))
              go_wp2
              go_roundw
              case rel => first | exact ⟨i + 1, O, by go_num, by omega, HB_q, OW_q, HSC'⟩ | ((repeat apply Exists.intro); exact ⟨⟨i + 1, O, by go_num, by omega, HB_q, OW_q, HSC'⟩, rfl⟩)
              case measure => simp [intOf]; omega
        · have hlt' : ¬ (i : Int) < (O.length : Int) := by omega
          have HE := Lib.hid (sc_end HSC.out hio)
          have HRet := Lib.hid (retInts_of_row OW_r.out HB_r.out)
          clear hs5
          go_wp2
          go_ret
          rw [HE.out]
          exact HRet.out
end Go.Proofs.YtnpklnpicelcmaaGreat

namespace Go.Proofs.YtnpklnpicelcmaaGreat
open Go.RowKit
set_option linter.unusedVariables false

theorem l3Objs_any (b : Nat) (h ac bu : Int) (a : Option Addr) (n c : Nat) (f : Nat → Int) (L : List Ob) (w : World) (hB : Blk w b [.int .i64 h, .slice a n c, .int .i64 ac, .int .i64 bu]) (hs : Src w a n f) (hcn : n ≤ c) (hcm : c ≤ maxLen) (ho : IsOI h n f ac bu 0 L) :
    Calls Tryz.prog 38 #[.pointer (some ⟨b, 0, none⟩)] w fun e w' => Below w.heap.size w w' ∧ ∃ v M, L = M.map OM.x ∧ e = .returned (.tuple #[v, .bool true]) ∧ OMS w' w.heap.size w.heap.size f v M := by
  obtain ⟨h4, h5⟩ := isOI_zero ho
  obtain ⟨⟨⟨g1, g2⟩, ⟨g3, g4⟩, g5, g6⟩, gn, gw⟩ := isFault_ok h4
  have hb := baseI_bd (ac := ac) g1
  obtain ⟨P, hP⟩ : ∃ P : Nat, baseI ac h = (P : Int) := ⟨(baseI ac h).toNat, by omega⟩
  obtain ⟨U, rfl⟩ : ∃ U : Nat, bu = (U : Int) := ⟨bu.toNat, by omega⟩
  obtain ⟨ab, ao, rfl, hab, hac⟩ := src_some hs (by omega)
  rw [hP, Int.toNat_natCast, Int.toNat_natCast] at h5
  have hPU : P + U ≤ n := by rcases (by omega : ac = 0 ∨ ac = 1) with rfl | rfl <;> simp [baseI] at hP <;> omega
  have hok := parse_ok h5 hPU gw
  have hln := parse_length (P + U - P) P L (Nat.le_refl _) h5
  refine (l3Objects_any b P U h ac ab ao n c f w hB hs g1 g2 g3 g4 hP hPU (by omega) hcn hcm (fun i hi => by have := gw i hi; unfold Word at this; omega)).mono ?_
  rintro e w' ⟨hb1, hr⟩
  rw [h5] at hr
  refine ⟨hb1, ?_⟩
  obtain ⟨hx, _⟩ | ⟨v, M, hx, rfl, hown, hfl⟩ := hr
  · cases hx
  obtain rfl := Option.some.inj hx
  refine ⟨v, M, rfl, rfl, hown, hfl, by have : M.length = (M.map OM.x).length := (by simp); omega, fun t ht => ?_⟩
  have h9 := hok t.x (List.mem_map_of_mem ht)
  exact ⟨h9.1, h9.2.1, ⟨h9.2.2.2.1.1, by omega⟩, h9.2.2.2.2⟩

/-- What is asked of an arena and roots. -/
def IsAsk (h : Int) (n : Nat) (f : Nat → Int) (ac bu : Int) (roots : List Int) (co : Int) (L : List Ob) : Prop :=
  (IsSF h n f ac bu co ∧ ¬ co = 0) ∨ (IsSF h n f ac bu 0 ∧ 60 < roots.length ∧ co = 2) ∨ (IsSF h n f ac bu 0 ∧ IsOI h n f ac bu 0 L ∧ roots.length ≤ 60 ∧ (∃ p ∈ roots, p ∉ placesO L) ∧ co = 4) ∨ (IsSF h n f ac bu 0 ∧ IsOI h n f ac bu 0 L ∧ roots.length ≤ 60 ∧ (∀ p ∈ roots, p ∈ placesO L) ∧ co = 0)

theorem isAsk_zero {h : Int} {n : Nat} {f : Nat → Int} {ac bu : Int} {roots : List Int} {L : List Ob} (hk : IsAsk h n f ac bu roots 0 L) : IsSF h n f ac bu 0 ∧ IsOI h n f ac bu 0 L ∧ roots.length ≤ 60 ∧ ∀ p ∈ roots, p ∈ placesO L := by
  rcases hk with ⟨_, h⟩ | ⟨_, _, h⟩ | ⟨_, _, _, _, h⟩ | ⟨h1, h2, h3, h4, _⟩
  · exact absurd rfl h
  · cases h
  · cases h
  · exact ⟨h1, h2, h3, h4⟩

theorem OMS.lo {w : World} {base lo base' lo' : Nat} {f : Nat → Int} {v : Value} {M : List OM} (h : OMS w base lo f v M) (h1 : base' ≤ base) (h2 : lo' ≤ lo) : OMS w base' lo' f v M := by
  refine ⟨?_, ⟨fun t ht => ?_, h.fl.2⟩, h.len, h.ok⟩
  · refine ⟨h.row.1, ?_⟩
    rcases h.row.2 with h0 | ⟨g, cap, cur, e1, e2, e3⟩
    · exact .inl h0
    · exact .inr ⟨g, cap, cur, e1, Nat.le_trans h1 e2, e3⟩
  · obtain ⟨e1, e2⟩ := h.fl.1 t ht
    exact ⟨Nat.le_trans h2 e1, e2⟩
end Go.Proofs.YtnpklnpicelcmaaGreat

namespace Go.Proofs.YtnpklnpicelcmaaGreat
open Go.RowKit
set_option linter.unusedVariables false

def outR (f : Nat → Int) (L : List Ob) (roots : List Int) (co : Int) : List Int := if co = 0 then reachO f L roots else []

def outG (f : Nat → Int) (L : List Ob) (roots : List Int) (co : Int) : List Int := if co = 0 then (placesO L).filter (fun p => decide (p ∉ reachO f L roots)) else []

theorem outR_zero (f : Nat → Int) (L : List Ob) (roots : List Int) : outR f L roots 0 = reachO f L roots := rfl

theorem outR_no (f : Nat → Int) (L : List Ob) (roots : List Int) {co : Int} (h : ¬ co = 0) : outR f L roots co = [] := if_neg h

theorem outG_no (f : Nat → Int) (L : List Ob) (roots : List Int) {co : Int} (h : ¬ co = 0) : outG f L roots co = [] := if_neg h

set_option maxRecDepth 100000 in
set_option maxHeartbeats 400000 in
theorem l2Words_at (b off : Nat) (s : Int) (w : World) (c0 : w.cell? ⟨b, off, none⟩ = some (.int .i64 s)) (h0 : 0 ≤ s ∧ s ≤ 12) :
    Calls Tryz.prog 73 #[.pointer (some ⟨b, off, none⟩)] w fun e w' => e = .returned (.int .i64 (s + 2)) ∧ w = w' := by
  obtain ⟨h1, h2⟩ := h0
  go_enter Tryz.func73, Tryz.ntmps73
  go_wp2
  go_ret
  exact ⟨rfl, rfl⟩

theorem sumW_snoc (u : Int → Nat) (l : List Int) (p : Int) : sumW u (l ++ [p]) = sumW u l + u p := by
  induction l with
  | nil => simp [sumW]
  | cons q l ih => simp only [List.cons_append, sumW, ih]; omega

theorem sumW_take {u : Int → Nat} {l : List Int} {i : Nat} (h : i < l.length) : sumW u (l.take (i + 1)) = sumW u (l.take i) + u (lf l i) := by
  rw [List.take_succ_eq_append_getElem h, sumW_snoc, lf_at h]

theorem wordsAt_some {L : List Ob} {p : Int} {x : Ob} (h : findO L p = some x) : wordsAt L p = 2 + x.s.toNat := by unfold wordsAt; rw [h]; rfl

set_option maxRecDepth 100000 in
set_option maxHeartbeats 1600000 in
theorem l4Words_any (v : Value) (M : List OM) (base lo : Nat) (ra : Option Addr) (R : List Int) (rc : Nat) (f : Nat → Int) (w : World) (hm : OMS w base lo f v M) (hrs : Src w ra R.length (lf R)) (hrn : R.length ≤ 400) (hr : ∀ p ∈ R, p ∈ placesO (M.map OM.x)) :
    Calls Tryz.prog 77 #[v, .slice ra R.length rc] w fun e w' => e = .returned (.int .i64 (sumW (wordsAt (M.map OM.x)) R : Int)) ∧ w = w' := by
  have HM := Lib.hid hm; have HRS := Lib.hid hrs; have HR := Lib.hid hr
  have hml := hm.len
  obtain ⟨a1, k1, rfl⟩ := row_nil hm.row
  clear hm hrs hr
  go_enter Tryz.func77, Tryz.ntmps77
  go_wp2
  go_loop [5, 6] (fun u q => ∃ i : Nat, i ≤ R.length ∧ q = .int .i64 (i : Int) ∧ u = .int .i64 (sumW (wordsAt (M.map OM.x)) (R.take i) : Int) ∧ sumW (wordsAt (M.map OM.x)) (R.take i) ≤ i * 14) (fun _ q => R.length - (intOf q).toNat)
  case atStart => exact ⟨0, by omega, rfl, by simp [sumW], by simp [sumW]⟩
  case round =>
    obtain ⟨i, hi, rfl, rfl, hsum⟩ := hrel
    by_cases hlt : i < R.length
    · have hlt' : (i : Int) < (R.length : Int) := by omega
      have hi0 : (0 : Int) ≤ (i : Int) := by omega
      obtain ⟨rb, ro, rfl, hrb, hrc⟩ := src_some HRS.out (by omega)
      have c0 := hrc i hlt
      have HST := Lib.hid (sumW_take (u := wordsAt (M.map OM.x)) hlt)
      have hpl := HR.out _ (lf_mem hlt)
      obtain ⟨y, hy⟩ : ∃ y, lf R i = y := ⟨_, rfl⟩
      rw [hy] at c0 HST hpl
      have HPL := Lib.hid hpl
      clear hrc hy hpl
      go_wp2_with fail
      refine (HM.out.find y).mono ?_
      rintro e w' ⟨rfl, hf⟩
      rcases hf with ⟨hf, rfl⟩ | ⟨j, x, hf, hx, rfl⟩
      · obtain ⟨z, hz⟩ := mem_placesO.1 HPL.out
        rw [hf] at hz; cases hz
      obtain ⟨g1, c1, g, c, e1, hjm, l1, x0, x1, x2, x3, x4, x5, lg, hfc, ⟨s0, s1⟩, hmm, hat, hwd⟩ := HM.out.get hx
      simp only [Value.slice.injEq] at e1
      obtain ⟨rfl, -, rfl⟩ := e1
      have hj' : (j : Int) < (M.length : Int) := by omega
      have hj0 : (0 : Int) ≤ (j : Int) := by omega
      have HW := Lib.hid (wordsAt_some hf)
      clear hf hx hfc hwd hat
      go_wp2_with fail
      refine (l2Words_at g1 (j * 6 + 1) x.s _ x1 ⟨s0, s1⟩).mono ?_
      rintro e w' ⟨rfl, rfl⟩
      have e2 : (sumW (wordsAt (M.map OM.x)) (R.take (i + 1)) : Int) = (sumW (wordsAt (M.map OM.x)) (R.take i) : Int) + (x.s + 2) := by rw [HST.out, HW.out]; omega
      have e3 : sumW (wordsAt (M.map OM.x)) (R.take (i + 1)) ≤ (i + 1) * 14 := by rw [HST.out, HW.out]; omega
      have E2 := Lib.hid e2; have E3 := Lib.hid e3
      clear e2 e3
      generalize sumW (wordsAt (M.map OM.x)) (R.take i) = sm at *
      go_wp2
      go_round
      case rel => first | exact ⟨i + 1, by omega, by go_num, by rw [E2.out], E3.out⟩ | ((repeat apply Exists.intro); exact ⟨⟨i + 1, by omega, by go_num, by rw [E2.out], E3.out⟩, rfl⟩)
      case measure => simp [intOf]; omega
    · have hlt' : ¬ (i : Int) < (R.length : Int) := by omega
      obtain rfl : i = R.length := by omega
      go_wp2
      go_ret
      exact ⟨rfl, rfl⟩
end Go.Proofs.YtnpklnpicelcmaaGreat

namespace Go.Proofs.YtnpklnpicelcmaaGreat
open Go.RowKit
set_option linter.unusedVariables false

theorem own_of_row' {w : World} {B e : Nat} {v : Value} {l : List Int} (h : w.ownsRow B e 1 v l.length (nums l.length (lf l))) : ∃ a c, v = .slice a l.length c ∧ Own w B a l.length (lf l) := by
  obtain ⟨a, c, rfl, _⟩ := row_shape h
  exact ⟨a, c, rfl, own_of_row h⟩
end Go.Proofs.YtnpklnpicelcmaaGreat

namespace Go.Proofs.YtnpklnpicelcmaaGreat
open Go.RowKit Go.Maps
set_option linter.unusedVariables false

theorem Tryz.underlyingMap : Tryz.prog.underlying 57 = some (.map 2 2) := by kernel_rfl

theorem Tryz.underlyingI : Tryz.prog.underlying 2 = some (.int .i64) := by kernel_rfl

theorem keyI : Keyed Tryz.prog 2 := int_keyed Tryz.underlyingI

theorem zeroI (w : World) : (zeroValue 2).run Tryz.prog w = .ok (.int .i64 0) w := by kernel_rfl

theorem wfI {p : Int} (h : -1000000000 ≤ p ∧ p ≤ 1000000000) : (Lit.int .i64 p).wf = true := WalkArith.wf_i64 (by omega)

/-- A block is a map in which the i-th of a list has the i-th value, and nothing else is there. -/
def MapT (w : World) (b n : Nat) (R : List Int) (v : Nat → Int) : Prop :=
  ∃ D : DataW Unit, w.ownsMap Tryz.prog 2 (plainElem Tryz.prog 2) b n D ∧ ∀ p, (Lit.int .i64 p).wf = true → Maps.has D (.int .i64 p) = decide (p ∈ R) ∧ D.atKey (.int .i64 p) (.lit (.int .i64 0)) = .lit (.int .i64 ((tab R v p).getD 0))

section

variable {w : World} {b n : Nat} {R : List Int} {v : Nat → Int} {p : Int}

theorem MapT.lt (h : MapT w b n R v) : b < w.heap.size := by obtain ⟨D, h1, _⟩ := h; exact h1.lt

theorem MapT.block {w' : World} (h : MapT w b n R v) (hb : w'.heap[b]? = w.heap[b]?) : MapT w' b n R v := by
  obtain ⟨D, ⟨es, clock, h1, h2⟩, h3⟩ := h
  exact ⟨D, ⟨es, clock, hb.trans h1, h2⟩, h3⟩

theorem MapT.below {w' : World} (h : MapT w b n R v) (hb : Below w.heap.size w w') : MapT w' b n R v := h.block (hb.block b h.lt)

theorem MapT.alloc (h : MapT w b n R v) (o : Obj) : MapT (w.alloc o) b n R v := h.below ((Below.refl _ _).alloc (Nat.le_refl _) o)

theorem MapT.drew (h : MapT w b n R v) : MapT w.drew b n R v := h.below (Below.refl _ _).drew

theorem MapT.drewN (h : MapT w b n R v) (q : Nat) : MapT (w.drewN q) b n R v := h.below (drewN_below w q)

theorem MapT.grown {w' : World} {row : Option Nat} (h : MapT w b n R v) (hg : w.grownBy w' row) (hne : row ≠ some b) : MapT w' b n R v := h.block (hg.block b h.lt (fun e => hne e.symm))

theorem MapT.set (h : MapT w b n R v) {p : Addr} (hp : b ≠ p.block) (u : Value) : MapT (w.setCell p u) b n R v := h.block (Below.heap_setCell _ _ _ b hp)

theorem MapT.made (w : World) (v : Nat → Int) : MapT (w.alloc (.map #[] 0)) w.heap.size 0 [] v := ⟨.map [], World.ownsMap_made _ _ _ _, fun p _ => ⟨by simp [Maps.has_eq], by simp [tab_nil]; rfl⟩⟩

theorem MapT.look_ok (h : MapT w b n R v) (hp : -1000000000 ≤ p ∧ p ≤ 1000000000) : (Instr.lookup 57 (.map (some b)) (.int .i64 p) true).run Tryz.prog w = .ok (.tuple #[.int .i64 ((tab R v p).getD 0), .bool (decide (p ∈ R))]) w := by
  obtain ⟨D, h1, h2⟩ := h
  obtain ⟨x, ps, hr, hx⟩ := h1.look_ok keyI Tryz.underlyingMap (zeroI w) (plainElem_int Tryz.underlyingI (wfI (p := 0) (by omega))) (keyOf_int_mk Tryz.underlyingI (wfI hp))
  obtain ⟨h3, h4⟩ := h2 p (wfI hp)
  rw [h4] at hx
  obtain ⟨c, rfl, hc, _⟩ := plainElem_int_inv Tryz.underlyingI hx
  have : (tab R v p).getD 0 = c := by simpa using congrArg Prod.fst hc
  rw [hr, h3, this]

theorem MapT.look (h : MapT w b n R v) (hp : -1000000000 ≤ p ∧ p ≤ 1000000000) : (Instr.lookup 57 (.map (some b)) (.int .i64 p) false).run Tryz.prog w = .ok (.int .i64 ((tab R v p).getD 0)) w := by
  obtain ⟨D, h1, h2⟩ := h
  obtain ⟨c, hr, hc, _⟩ := h1.lookup_int keyI Tryz.underlyingMap Tryz.underlyingI (zeroI w) (keyOf_int_mk Tryz.underlyingI (wfI hp))
  obtain ⟨h3, h4⟩ := h2 p (wfI hp)
  rw [h4] at hc
  have : (tab R v p).getD 0 = c := by simpa using hc
  rw [hr, this]

theorem MapT.update (h : MapT w b n R v) (hn : n < maxLen) (hp : -1000000000 ≤ p ∧ p ≤ 1000000000) (hv : -1000000000 ≤ v R.length ∧ v R.length ≤ 1000000000) (hq : p ∉ R) : ∃ w', (Instr.mapUpdate 57 (.map (some b)) (.int .i64 p) (.int .i64 (v R.length))).run Tryz.prog w = .ok () w' ∧ MapT w' b (n + 1) (R ++ [p]) v ∧ w.grownBy w' (some b) := by
  obtain ⟨D, h1, h2⟩ := h
  obtain ⟨w', hr, h3, h4⟩ := h1.update keyI Tryz.underlyingMap hn (keyOf_int_mk Tryz.underlyingI (wfI hp)) (plainElem_int Tryz.underlyingI (wfI hv))
  refine ⟨w', hr, ⟨_, h3, fun q hwq => ?_⟩, h4⟩
  have hk : WideAt.IsKeyLit (Lit.int .i64 p) := by trivial
  by_cases e : q = p
  · subst e
    refine ⟨by rw [Maps.has_put_same h1.isMap hk]; simp, ?_⟩
    rw [Maps.atKey_put_same h1.isMap hk, tab_snoc hq, if_pos rfl]; rfl
  · have hne : Lit.int .i64 q ≠ Lit.int .i64 p := fun h => e (by simpa using h)
    refine ⟨by rw [Maps.has_put_other hne, (h2 q hwq).1]; simp [e], ?_⟩
    rw [Maps.atKey_put_other hne, (h2 q hwq).2, tab_snoc hq, if_neg e]

end

/-- A row of objects is read. -/
theorem rowG_GV {w : World} {base : Nat} {v : Value} {M : List GM} (h : w.ownsRow base 102 6 v M.length (rowG M)) (hf : ∀ t ∈ M, Src w t.a t.n t.f) : ∃ a c, v = .slice a M.length c ∧ GV w a M.length (gT M) := by
  rcases Nat.eq_zero_or_pos M.length with h0 | hp
  · rcases h.2 with ⟨h1, h2⟩ | ⟨g, cap, cur, h1, _⟩
    · exact ⟨none, 0, by rw [h1, h2], .inl h0⟩
    · exact ⟨_, _, h1, .inl h0⟩
  · obtain ⟨g, cap, rfl, hb, hlt⟩ := h.form hp
    have hce : ∀ i t, M[i]? = some t → ∀ j u, (gcells t)[j]? = some u → w.cell? ⟨g, i * 6 + j, none⟩ = some u := fun i t ht j u hu => by
      have hi : i < M.length := (List.getElem?_eq_some_iff.mp ht).1
      have hj : j < 6 := by
        have := (List.getElem?_eq_some_iff.mp hu).1
        simpa [gcells] using this
      have hc := h.cellAt (i * 6 + j) (by omega)
      rw [rowG_get M i t ht j hj, hu] at hc
      simpa using hc
    refine ⟨_, _, rfl, .inr ⟨g, 0, rfl, hlt, fun i hi => ?_, fun i hi => ?_⟩⟩
    · have ht := List.getElem?_eq_getElem hi
      rw [gT_at ht, Nat.zero_add]
      exact ⟨hce i _ ht 0 _ rfl, hce i _ ht 1 _ rfl, hce i _ ht 2 _ rfl, hce i _ ht 3 _ rfl, hce i _ ht 4 _ rfl, hce i _ ht 5 _ rfl⟩
    · rw [gT_at (List.getElem?_eq_getElem hi)]
      exact hf _ (List.getElem_mem hi)
end Go.Proofs.YtnpklnpicelcmaaGreat

namespace Go.Proofs.YtnpklnpicelcmaaGreat
open Go.RowKit Go.Maps
set_option linter.unusedVariables false

/-- Where a field of an object leads, in the program's words. -/
def tgtV (t : GM) (k : Nat) : Option Int := if t.m / P2 (k : Int) % 2 = 1 ∧ ¬ t.f k = 0 then some (t.f k - 1) else none

def RetTgt (W : World) (r : Option Int) (e : Ending) (w' : World) : Prop := Below W.heap.size W w' ∧ e = .returned (.tuple #[.int .i64 (r.getD 0), .bool r.isSome])

theorem mid5 {w : World} {b : Nat} {v0 v1 v2 v3 v4 v5 u : Value} {p : Addr} (h : Blk w b [v0, v1, v2, v3, v4, v5]) (hp : w.cell? p = some u) : w.cell? ⟨b, 1, none⟩ = some v1 ∧ w.cell? ⟨b, 2, none⟩ = some v2 ∧ w.cell? ⟨b, 3, none⟩ = some v3 ∧ w.cell? ⟨b, 4, none⟩ = some v4 ∧ w.cell? ⟨b, 5, none⟩ = some v5 ∧ w.cell? p = some u := ⟨h.at 1 rfl, h.at 2 rfl, h.at 3 rfl, h.at 4 rfl, h.at 5 rfl, hp⟩

set_option maxRecDepth 100000 in
set_option maxHeartbeats 3200000 in
theorem target_any (t : GM) (k : Nat) (w : World) (hs : Src w t.a t.n t.f) (hk : k < t.n) (hok : HOk t.s t.m t.o t.h) (htn : t.n = t.s.toNat) (hwd : -1000000000 ≤ t.f k ∧ t.f k ≤ 1000000000) :
    Calls Tryz.prog 115 #[.agg #[.int .i64 t.at_, .int .i64 t.s, .int .i64 t.m, .int .i64 t.o, .int .i64 t.h, .slice t.a t.n t.c], .int .i64 (k : Int)] w (RetTgt w (tgtV t k)) := by
  have ht12 : t.n ≤ 12 := by have := hok.1; omega
  have hst : t.s = (t.n : Int) := by have := hok.1; omega
  obtain ⟨tb, tf, hta, ltb, hck⟩ : ∃ tb tf, t.a = some ⟨tb, tf, none⟩ ∧ tb < w.heap.size ∧ w.cell? ⟨tb, tf + k, none⟩ = some (.int .i64 (t.f k)) := by
    rcases hs with h0 | ⟨tb, tf, h1, h2, h3⟩
    · omega
    · exact ⟨tb, tf, h1, h2, h3 k hk⟩
  obtain ⟨hw1, hw2⟩ := hwd
  have hk' : (k : Int) < (t.n : Int) := by omega
  have hk0 : (0 : Int) ≤ (k : Int) := by omega
  have hkI : (0 : Int) ≤ (k : Int) ∧ (k : Int) ≤ t.s - 1 := by omega
  have HIP : Hid (∃ r, IsIP t.s t.m t.o t.h (k : Int) r ∧ r = (t.m / P2 (k : Int) % 2 == 1)) := Lib.hid ⟨_, .inl ⟨⟨hok, hkI⟩, rfl⟩, rfl⟩
  obtain ⟨r, hip, hr⟩ := HIP.out
  have HI := Lib.hid hip; have HR := Lib.hid hr
  obtain ⟨y, hy⟩ : ∃ y, t.f k = y := ⟨_, rfl⟩
  have HY := Lib.hid hy
  rw [hy] at hck hw1 hw2
  rw [hta]
  have ha1 : ∀ (v : Int) (w : World), (Instr.typeAssert (fieldV true v) 185 109 true).run Tryz.prog w = .ok (.tuple #[.int .i64 v, .bool true]) w := fun v w => as_ptr _ w
  have ha2 : ∀ (v : Int) (w : World), (Instr.typeAssert (fieldV false v) 185 109 true).run Tryz.prog w = .ok (.tuple #[.int .i64 0, .bool false]) w := fun v w => as_plain _ w
  have X0 := Lib.hid (Blk.new_at (w := w) (cs := #[.int .i64 t.at_, .int .i64 t.s, .int .i64 t.m, .int .i64 t.o, .int .i64 t.h, .slice (some ⟨tb, tf, none⟩) t.n t.c]) (t := 102) w.heap.size rfl)
  have HB0 := Lib.hid ((Below.refl w.heap.size w).alloc (Nat.le_refl _) (.cells #[.int .i64 t.at_, .int .i64 t.s, .int .i64 t.m, .int .i64 t.o, .int .i64 t.h, .slice (some ⟨tb, tf, none⟩) t.n t.c] 102))
  have c0 := HB0.out.cell (p := ⟨tb, tf + k, none⟩) ltb
  rw [hck] at c0
  clear hip hr hs hok hta hck hkI HIP hy htn hst
  go_enter Tryz.func115, Tryz.ntmps115
  go_wp2_with fail
  have Xd := Lib.hid X0.out.drew
  have zz : w.heap.size + 1 ≤ (w.alloc (.cells #[.int .i64 t.at_, .int .i64 t.s, .int .i64 t.m, .int .i64 t.o, .int .i64 t.h, .slice (some ⟨tb, tf, none⟩) t.n t.c] 102)).heap.size := by simp
  have lt0 : tb < (w.alloc (.cells #[.int .i64 t.at_, .int .i64 t.s, .int .i64 t.m, .int .i64 t.o, .int .i64 t.h, .slice (some ⟨tb, tf, none⟩) t.n t.c] 102)).heap.size := by omega
  generalize w.alloc (.cells #[.int .i64 t.at_, .int .i64 t.s, .int .i64 t.m, .int .i64 t.o, .int .i64 t.h, .slice (some ⟨tb, tf, none⟩) t.n t.c] 102) = w0 at *
  have cd : w0.drew.cell? ⟨tb, tf + k, none⟩ = some (.int .i64 y) := by simpa using c0
  have ltd : tb < w0.drew.heap.size := by simpa using lt0
  cases r with
  | true =>
    have hd : t.m / P2 (k : Int) % 2 = 1 := by have := HR.out; simpa using this.symm
    go_region_held3 (fun w' => w'.cell? ⟨w.heap.size, 1, none⟩ = some (.int .i64 t.s) ∧ w'.cell? ⟨w.heap.size, 2, none⟩ = some (.int .i64 t.m) ∧ w'.cell? ⟨w.heap.size, 3, none⟩ = some (.int .i64 t.o) ∧ w'.cell? ⟨w.heap.size, 4, none⟩ = some (.int .i64 t.h) ∧ w'.cell? ⟨w.heap.size, 5, none⟩ = some (.slice (some ⟨tb, tf, none⟩) t.n t.c) ∧ w'.cell? ⟨tb, tf + k, none⟩ = some (.int .i64 y))
      (first | (with_reducible exact mid5 X0.out c0) | (with_reducible exact mid5 Xd.out cd) | (with_reducible exact mid5 X2.out c2))
      (first | (go_at_call 121; (refine (fieldOf_any t.s t.m t.o t.h (k : Int) y true _ HI.out).mono ?_; rintro e w2 ⟨rfl, hb⟩; have HB2 := Lib.hid ((HB0.out.drew).trans (hb.mono (by simp; omega))); have X2 := Lib.hid (Xd.out.below hb); have c2 := (hb.cell (p := ⟨tb, tf + k, none⟩) ltd).trans cd; clear hb)))
    by_cases h0 : y = 0
    · have HT : Hid (tgtV t k = none) := Lib.hid (by unfold tgtV; rw [HY.out, if_neg (fun h => h.2 h0)])
      subst h0
      go_wp2
      refine bodyPost_ret (v := .tuple #[.int .i64 0, .bool false]) (by simp [results, Tryz.results115, go_sem]) rfl ?_
      rw [HT.out]
      exact ⟨HB2.out, rfl⟩
    · have HT : Hid (tgtV t k = some (y - 1)) := Lib.hid (by unfold tgtV; rw [HY.out, if_pos ⟨hd, h0⟩])
      have h0' : (y == 0) = false := by simpa using h0
      clear hd
      go_wp2_with fail
      refine (place_any y _ hw1 hw2).mono ?_
      rintro e w3 ⟨rfl, hb⟩
      have HB3 := Lib.hid (HB2.out.trans (hb.mono HB2.out.size))
      clear hb
      go_wp2
      refine bodyPost_ret (v := .tuple #[.int .i64 (y - 1), .bool true]) (by simp [results, Tryz.results115, go_sem]) rfl ?_
      rw [HT.out]
      exact ⟨HB3.out, rfl⟩
  | false =>
    have hd : ¬ t.m / P2 (k : Int) % 2 = 1 := by have := HR.out; simpa using this.symm
    have HT : Hid (tgtV t k = none) := Lib.hid (by unfold tgtV; rw [if_neg (fun h => hd h.1)])
    clear hd
    go_region_held3 (fun w' => w'.cell? ⟨w.heap.size, 1, none⟩ = some (.int .i64 t.s) ∧ w'.cell? ⟨w.heap.size, 2, none⟩ = some (.int .i64 t.m) ∧ w'.cell? ⟨w.heap.size, 3, none⟩ = some (.int .i64 t.o) ∧ w'.cell? ⟨w.heap.size, 4, none⟩ = some (.int .i64 t.h) ∧ w'.cell? ⟨w.heap.size, 5, none⟩ = some (.slice (some ⟨tb, tf, none⟩) t.n t.c) ∧ w'.cell? ⟨tb, tf + k, none⟩ = some (.int .i64 y))
      (first | (with_reducible exact mid5 X0.out c0) | (with_reducible exact mid5 Xd.out cd) | (with_reducible exact mid5 X2.out c2))
      (first | (go_at_call 121; (refine (fieldOf_any t.s t.m t.o t.h (k : Int) y false _ HI.out).mono ?_; rintro e w2 ⟨rfl, hb⟩; have HB2 := Lib.hid ((HB0.out.drew).trans (hb.mono (by simp; omega))); have X2 := Lib.hid (Xd.out.below hb); have c2 := (hb.cell (p := ⟨tb, tf + k, none⟩) ltd).trans cd; clear hb)))
    go_wp2
    refine bodyPost_ret (v := .tuple #[.int .i64 0, .bool false]) (by simp [results, Tryz.results115, go_sem]) rfl ?_
    rw [HT.out]
    exact ⟨HB2.out, rfl⟩
end Go.Proofs.YtnpklnpicelcmaaGreat

namespace Go.Proofs.YtnpklnpicelcmaaGreat
open Go.RowKit Go.Maps
set_option linter.unusedVariables false

theorem Tryz.infoOb9 : (Tryz.prog.info? 102).map (fun i => (i.zero, i.size, i.bytes)) = some (some (.agg #[.int .i64 0, .int .i64 0, .int .i64 0, .int .i64 0, .int .i64 0, .slice none 0 0]), 6, 64) := by kernel_rfl

/-- What is reached so far, as the program has it: in the block rb, with the map mb and the row v. -/
structure RS (w : World) (base rb mb : Nat) (v : Value) (M : List GM) (f : Nat → Int) (L : List Ob) (O : List Int) : Prop where
  blk : Blk w rb [.int .i64 0, v, .map (some mb)]
  hrb : base ≤ rb
  hmb : base ≤ mb
  hne : mb ≠ rb
  vr : v.ownBlock ≠ some rb
  vm : v.ownBlock ≠ some mb
  row : w.ownsRow base 102 6 v M.length (rowG M)
  map : MapT w mb O.length O (fun i => (i : Int))
  len : M.length = O.length
  src : ∀ t ∈ M, Src w t.a t.n t.f ∧ (t.n = 0 ∨ t.g + 1 < base)
  same : ∀ i t, M[i]? = some t → ∃ x, findO L (lf O i) = some x ∧ GSame t (obG f x)

section

variable {w w' : World} {base rb mb : Nat} {v : Value} {M : List GM} {f : Nat → Int} {L : List Ob} {O : List Int}

theorem RS.below (h : RS w base rb mb v M f L O) (hb : Below w.heap.size w w') : RS w' base rb mb v M f L O :=
  ⟨h.blk.below hb, h.hrb, h.hmb, h.hne, h.vr, h.vm, ownsRow_below h.row hb, h.map.below hb, h.len, fun t ht => ⟨(h.src t ht).1.below hb, (h.src t ht).2⟩, h.same⟩

theorem src_far {base : Nat} {t : GM} (h : Src w t.a t.n t.f) (hg : t.n = 0 ∨ t.g + 1 < base) (hb : Below base w w') (hz : w.heap.size ≤ w'.heap.size) : Src w' t.a t.n t.f := by
  rcases h with h0 | ⟨b, o, e1, h2, h3⟩
  · exact .inl h0
  · rcases hg with h0 | hg
    · exact .inl h0
    · have hg' : b < base := by have : t.g = b := (by simp [GM.g, e1]); omega
      exact .inr ⟨b, o, e1, by omega, fun i hi => (World.cell?_of_block (w := w) (a := ⟨b, o + i, none⟩) (hb.block b hg')).trans (h3 i hi)⟩

theorem RS.set (h : RS w base rb mb v M f L O) {p : Addr} (hp : p.block + 1 = base) (u : Value) : RS (w.setCell p u) base rb mb v M f L O := by
  have h1 := h.hrb; have h2 := h.hmb
  refine ⟨h.blk.other (by omega) _, h.hrb, h.hmb, h.hne, h.vr, h.vm, row_set h.row (by omega) _, h.map.set (by omega) _, h.len, fun t ht => ⟨?_, (h.src t ht).2⟩, h.same⟩
  obtain ⟨h3, h4⟩ := h.src t ht
  rcases h3 with h0 | ⟨b, o, e1, h5, h6⟩
  · exact .inl h0
  · rcases h4 with h0 | h4
    · exact .inl h0
    · have : t.g = b := (by simp [GM.g, e1])
      exact .inr ⟨b, o, e1, by simpa using h5, fun i hi => (World.cell?_of_block (w := w) (a := ⟨b, o + i, none⟩) (Below.heap_setCell _ _ _ b (by omega))).trans (h6 i hi)⟩

theorem RS.out (h : RS w base rb mb v M f L O) : ∃ a c, v = .slice a M.length c ∧ GV w a M.length (gT M) := rowG_GV h.row (fun t ht => (h.src t ht).1)

end

set_option maxRecDepth 100000 in
set_option maxHeartbeats 1600000 in
theorem add_old (base rb mb : Nat) (v : Value) (M : List GM) (f : Nat → Int) (L : List Ob) (O : List Int) (t : GM) (w : World) (h : RS w base rb mb v M f L O) (hp : -1000000000 ≤ t.at_ ∧ t.at_ ≤ 1000000000) (hin : t.at_ ∈ O) (hz : base ≤ w.heap.size) :
    Calls Tryz.prog 114 #[.pointer (some ⟨rb, 0, none⟩), .agg #[.int .i64 t.at_, .int .i64 t.s, .int .i64 t.m, .int .i64 t.o, .int .i64 t.h, .slice t.a t.n t.c]] w fun e w' => e = .returned (.tuple #[]) ∧ Below base w w' ∧ w.heap.size ≤ w'.heap.size ∧ RS w' base rb mb v M f L O := by
  have H := Lib.hid h
  have hd : decide (t.at_ ∈ O) = true := decide_eq_true hin
  have X0 := Lib.hid (Blk.new_at (w := w) (cs := #[.int .i64 t.at_, .int .i64 t.s, .int .i64 t.m, .int .i64 t.o, .int .i64 t.h, .slice t.a t.n t.c]) (t := 102) w.heap.size rfl)
  have B0 := Lib.hid (h.blk.alloc (.cells #[.int .i64 t.at_, .int .i64 t.s, .int .i64 t.m, .int .i64 t.o, .int .i64 t.h, .slice t.a t.n t.c] 102))
  have HB0 := Lib.hid ((Below.refl w.heap.size w).alloc (Nat.le_refl _) (.cells #[.int .i64 t.at_, .int .i64 t.s, .int .i64 t.m, .int .i64 t.o, .int .i64 t.h, .slice t.a t.n t.c] 102))
  have hlk := fun q => ((h.map.alloc (.cells #[.int .i64 t.at_, .int .i64 t.s, .int .i64 t.m, .int .i64 t.o, .int .i64 t.h, .slice t.a t.n t.c] 102)).drewN q).look_ok hp
  rw [hd] at hlk
  clear h
  go_enter Tryz.func114, Tryz.ntmps114
  go_wp2_with fail
  have zz : w.heap.size + 1 ≤ (w.alloc (.cells #[.int .i64 t.at_, .int .i64 t.s, .int .i64 t.m, .int .i64 t.o, .int .i64 t.h, .slice t.a t.n t.c] 102)).heap.size := by simp
  generalize w.alloc (.cells #[.int .i64 t.at_, .int .i64 t.s, .int .i64 t.m, .int .i64 t.o, .int .i64 t.h, .slice t.a t.n t.c] 102) = w0 at *
  have lX := X0.out.1; have cX0 := X0.out.at 0 rfl; have cX1 := X0.out.at 1 rfl; have cX2 := X0.out.at 2 rfl; have cX3 := X0.out.at 3 rfl; have cX4 := X0.out.at 4 rfl; have cX5 := X0.out.at 5 rfl
  have lB := B0.out.1; have cB0 := B0.out.at 0 rfl; have cB1 := B0.out.at 1 rfl; have cB2 := B0.out.at 2 rfl
  go_quiet (fail)
  clear hlk
  go_wp2
  refine bodyPost_ret (v := .tuple #[]) (by simp [results, Tryz.results114, go_sem]) rfl ?_
  have hb := below_drewN HB0.out
  exact ⟨rfl, (hb _).mono hz, (hb _).size, H.out.below (hb _)⟩
end Go.Proofs.YtnpklnpicelcmaaGreat

namespace Go.Proofs.YtnpklnpicelcmaaGreat
open Go.RowKit Go.Maps
set_option linter.unusedVariables false

theorem rowG_val {w : World} {base : Nat} {v : Value} {M : List GM} (h : w.ownsRow base 102 6 v M.length (rowG M)) : ∃ a c, v = .slice a M.length c := by
  rcases h.2 with ⟨e1, e2⟩ | ⟨g, cap, cur, e1, _⟩
  · exact ⟨none, 0, by rw [e1, e2]⟩
  · exact ⟨_, _, e1⟩

theorem obj_one (t : GM) : ∀ u ∈ gcells t, u.oneCell' = true := by
  intro u hu
  simp [gcells] at hu
  rcases hu with rfl | rfl | rfl | rfl | rfl | rfl <;> rfl

set_option maxRecDepth 100000 in
set_option maxHeartbeats 3200000 in
theorem add_new (base rb mb : Nat) (v : Value) (M : List GM) (f : Nat → Int) (L : List Ob) (O : List Int) (t : GM) (x : Ob) (w : World) (h : RS w base rb mb v M f L O) (hp : -1000000000 ≤ t.at_ ∧ t.at_ ≤ 1000000000) (hin : t.at_ ∉ O) (hz : base ≤ w.heap.size) (hx : findO L t.at_ = some x) (hsm : GSame t (obG f x)) (hsr : Src w t.a t.n t.f) (hfar : t.n = 0 ∨ t.g + 1 < base) (hl : O.length ≤ 400) :
    Calls Tryz.prog 114 #[.pointer (some ⟨rb, 0, none⟩), .agg #[.int .i64 t.at_, .int .i64 t.s, .int .i64 t.m, .int .i64 t.o, .int .i64 t.h, .slice t.a t.n t.c]] w fun e w' => e = .returned (.tuple #[]) ∧ Below base w w' ∧ w.heap.size ≤ w'.heap.size ∧ ∃ v', RS w' base rb mb v' (M ++ [t]) f L (O ++ [t.at_]) := by
  have HML := Lib.hid h.len
  have hml4 : M.length ≤ 400 := by rw [h.len]; exact hl
  have H := Lib.hid h; have HX := Lib.hid hx; have HSM := Lib.hid hsm; have HSR := Lib.hid hsr; have HFAR := Lib.hid hfar; have HP := Lib.hid hp; have HIN := Lib.hid hin
  have hd : decide (t.at_ ∈ O) = false := decide_eq_false hin
  have X0 := Lib.hid (Blk.new_at (w := w) (cs := #[.int .i64 t.at_, .int .i64 t.s, .int .i64 t.m, .int .i64 t.o, .int .i64 t.h, .slice t.a t.n t.c]) (t := 102) w.heap.size rfl)
  have B0 := Lib.hid (h.blk.alloc (.cells #[.int .i64 t.at_, .int .i64 t.s, .int .i64 t.m, .int .i64 t.o, .int .i64 t.h, .slice t.a t.n t.c] 102))
  have HB0 := Lib.hid ((Below.refl w.heap.size w).alloc (Nat.le_refl _) (.cells #[.int .i64 t.at_, .int .i64 t.s, .int .i64 t.m, .int .i64 t.o, .int .i64 t.h, .slice t.a t.n t.c] 102))
  have hlk := fun q => ((h.map.alloc (.cells #[.int .i64 t.at_, .int .i64 t.s, .int .i64 t.m, .int .i64 t.o, .int .i64 t.h, .slice t.a t.n t.c] 102)).drewN q).look_ok hp
  rw [hd] at hlk
  have hrbl : rb < w.heap.size := h.blk.1
  have hmbl : mb < w.heap.size := h.map.lt
  have hr1 := h.hrb; have hm1 := h.hmb; have hne := h.hne
  obtain ⟨j0, hif, hj0, hj1, hj2⟩ := info_parts Tryz.infoOb9
  obtain ⟨av, kv, hv⟩ := rowG_val h.row
  subst hv
  clear h hx hsm hsr hfar hp hin
  go_enter Tryz.func114, Tryz.ntmps114
  go_wp2_with fail
  have zz : w.heap.size + 1 = (w.alloc (.cells #[.int .i64 t.at_, .int .i64 t.s, .int .i64 t.m, .int .i64 t.o, .int .i64 t.h, .slice t.a t.n t.c] 102)).heap.size := by simp
  
  generalize w.alloc (.cells #[.int .i64 t.at_, .int .i64 t.s, .int .i64 t.m, .int .i64 t.o, .int .i64 t.h, .slice t.a t.n t.c] 102) = w0 at *
  have lX := X0.out.1; have cX0 := X0.out.at 0 rfl; have cX1 := X0.out.at 1 rfl; have cX2 := X0.out.at 2 rfl; have cX3 := X0.out.at 3 rfl; have cX4 := X0.out.at 4 rfl; have cX5 := X0.out.at 5 rfl
  have lB := B0.out.1; have cB0 := B0.out.at 0 rfl; have cB1 := B0.out.at 1 rfl; have cB2 := B0.out.at 2 rfl
  go_quiet (fail)
  clear hlk
  have M0 := Lib.hid (H.out.map.below (by rw [show w.heap.size = w.heap.size from rfl]; exact HB0.out))
  have HB1 := Lib.hid (below_drewN HB0.out nq)
  have X1 := Lib.hid (X0.out.below (drewN_below w0 nq)); have B1 := Lib.hid (B0.out.below (drewN_below w0 nq)); have M1 := Lib.hid (M0.out.drewN nq)
  have z1 : w.heap.size + 1 = (w0.drewN nq).heap.size := by simpa using zz
  clear lX cX0 cX1 cX2 cX3 cX4 cX5
  clear lB cB0 cB1 cB2
  clear X0 B0 HB0 M0 zz
  generalize w0.drewN nq = w1 at *
  go_wp2_with fail
  have lX := X1.out.1; have cX0 := X1.out.at 0 rfl; have cX1 := X1.out.at 1 rfl; have cX2 := X1.out.at 2 rfl; have cX3 := X1.out.at 3 rfl; have cX4 := X1.out.at 4 rfl; have cX5 := X1.out.at 5 rfl
  have lB := B1.out.1; have cB0 := B1.out.at 0 rfl; have cB1 := B1.out.at 1 rfl; have cB2 := B1.out.at 2 rfl
  go_still_tail 11, (by kernel_rfl)
  change wpList _ _ _ _ _ w1.drew
  clear lX cX0 cX1 cX2 cX3 cX4 cX5
  clear lB cB0 cB1 cB2
  have HB2 := Lib.hid HB1.out.drew; have X2 := Lib.hid X1.out.drew; have B2 := Lib.hid B1.out.drew; have M2 := Lib.hid M1.out.drew
  have z2 : w.heap.size + 1 = w1.drew.heap.size := by simpa using z1
  clear HB1 X1 B1 M1 z1
  generalize w1.drew = w2 at *
  obtain ⟨w3, hr3, hm3, hg3⟩ := M2.out.update (by unfold maxLen; omega) HP.out (by constructor <;> omega) HIN.out
  rw [← HML.out] at hr3
  have HB3 : Hid (Below base w w3) := Lib.hid ((HB2.out.mono hz).grown hg3 (by omega) (fun k hk => by cases hk; exact hm1))
  have hz3 : w.heap.size + 1 ≤ w3.heap.size := by have := hg3.size; omega
  have X3 := Lib.hid (blk_grown X2.out hg3 (by simp; omega))
  have B3 := Lib.hid (blk_grown B2.out hg3 (by simp; omega))
  have M3 := Lib.hid hm3
  have OW3 : Hid (w3.ownsRow base 102 6 (.slice av M.length kv) M.length (rowG M)) := Lib.hid ((ownsRow_below H.out.row HB2.out).kept hg3 (.inr H.out.vm))
  clear X2 B2 M2 HB2 hm3 hg3
  go_wp2_with fail
  clear hr3
  have lX := X3.out.1; have cX0 := X3.out.at 0 rfl; have cX1 := X3.out.at 1 rfl; have cX2 := X3.out.at 2 rfl; have cX3 := X3.out.at 3 rfl; have cX4 := X3.out.at 4 rfl; have cX5 := X3.out.at 5 rfl
  have lB := B3.out.1; have cB0 := B3.out.at 0 rfl; have fB0 := B3.out.free 0 rfl; have cB1 := B3.out.at 1 rfl; have fB1 := B3.out.free 1 rfl; have cB2 := B3.out.at 2 rfl; have fB2 := B3.out.free 2 rfl
  have hnew := cells_new6 w3.drew t
  go_region_law (first | (refine step_append_lies _ rfl (.tmp 32) (.tmp 34) 78 rfl base 102 j0 _ 6 64 Tryz.underlying78 hif hj0 hj1 hj2 rfl (by decide) (.slice av M.length kv) M.length (rowG M) rfl (OW3.out.drew.alloc _) ⟨w3.drew.heap.size, 0, none⟩ 1 1 (gcells t) rfl rfl hnew (obj_one t) (by omega) (by unfold maxLen; omega) (by omega) (by simp; omega) (w3.heap.size + 1) (by simp) ?_; intro g9 cap9 w9 hown9 hgrow9 hat9 hlt9; have T9 := Lib.hid (blk_grown (B3.out.drew.alloc _) hgrow9 H.out.vr); have l9 := T9.out.1; have d91 := T9.out.at 1 rfl; have e91 := T9.out.free 1 rfl))
  all_goals (
    have HB9 : Hid (Below base w w9) := Lib.hid ((HB3.out.drew.alloc (by simp; omega) _).grown hgrow9 (by simp; omega) (fun k hk => (OW3.out.lt k hk).1))
    have hz9 : w.heap.size ≤ w9.heap.size := (by have := hgrow9.size; simp at this; omega)
    have hg9r : g9 ≠ rb := (by rcases hat9 with he | he; (intro e; exact H.out.vr (by rw [he, e])); omega)
    have hg9m : g9 ≠ mb := (by rcases hat9 with he | he; (intro e; exact H.out.vm (by rw [he, e])); omega)
    have M9 := Lib.hid ((M3.out.drew.alloc (.cells #[.int .i64 t.at_, .int .i64 t.s, .int .i64 t.m, .int .i64 t.o, .int .i64 t.h, .slice t.a t.n t.c] 102)).grown hgrow9 H.out.vm)
    have OW9 := Lib.hid hown9
    clear hown9 hgrow9 hat9 l9 d91 e91 hnew
    clear lX cX0 cX1 cX2 cX3 cX4 cX5
    clear lB cB0 fB0 cB1 fB1 cB2 fB2
    go_wp2
    refine bodyPost_end (v := .tuple #[]) (by simp [results, Tryz.results114, go_sem]) rfl ?_
    have hbF : Below base w (w9.setCell ⟨rb, 1, none⟩ (.slice (some ⟨g9, 0, none⟩) (M.length + 1) cap9)) := HB9.out.setCell hr1 _
    have hzF : w.heap.size ≤ (w9.setCell ⟨rb, 1, none⟩ (.slice (some ⟨g9, 0, none⟩) (M.length + 1) cap9)).heap.size := (by simpa using hz9)
    refine ⟨rfl, hbF, hzF, .slice (some ⟨g9, 0, none⟩) (M.length + 1) cap9, T9.out.set 1 (by simp) _, hr1, hm1, hne, fun e => hg9r (by simpa [Value.ownBlock] using e), fun e => hg9m (by simpa [Value.ownBlock] using e), ?_, ?_, by rw [List.length_append, List.length_append, HML.out]; rfl, fun u hu => ?_, fun i u hu => ?_⟩
    · rw [rowG_snoc, List.length_append]
      exact ownsRow_setCell_other OW9.out (fun e => hg9r (by simpa [Value.ownBlock] using e)) _
    · rw [List.length_append]
      exact M9.out.set hne _
    · rcases List.mem_append.mp hu with hu | hu
      · exact ⟨src_far (H.out.src u hu).1 (H.out.src u hu).2 hbF hzF, (H.out.src u hu).2⟩
      · simp only [List.mem_singleton] at hu
        subst hu
        exact ⟨src_far HSR.out HFAR.out hbF hzF, HFAR.out⟩
    · rcases Nat.lt_or_ge i M.length with hi | hi
      · rw [List.getElem?_append_left hi] at hu
        obtain ⟨z, h1, h2⟩ := H.out.same i u hu
        exact ⟨z, by rw [lf_left (by rw [← HML.out]; exact hi)]; exact h1, h2⟩
      · have hi' : i = M.length := (by have := (List.getElem?_eq_some_iff.mp hu).1; simp at this; omega)
        subst hi'
        rw [List.getElem?_append_right (Nat.le_refl _), Nat.sub_self] at hu
        have hu' : t = u := (by simpa using hu)
        subst hu'
        exact ⟨x, by rw [HML.out, lf_last]; exact HX.out, HSM.out⟩)

theorem add_any (base rb mb : Nat) (v : Value) (M : List GM) (f : Nat → Int) (L : List Ob) (O : List Int) (t : GM) (x : Ob) (w : World) (h : RS w base rb mb v M f L O) (hp : -1000000000 ≤ t.at_ ∧ t.at_ ≤ 1000000000) (hz : base ≤ w.heap.size) (hx : findO L t.at_ = some x) (hsm : GSame t (obG f x)) (hsr : Src w t.a t.n t.f) (hfar : t.n = 0 ∨ t.g + 1 < base) (hl : O.length ≤ 400) :
    Calls Tryz.prog 114 #[.pointer (some ⟨rb, 0, none⟩), .agg #[.int .i64 t.at_, .int .i64 t.s, .int .i64 t.m, .int .i64 t.o, .int .i64 t.h, .slice t.a t.n t.c]] w fun e w' => e = .returned (.tuple #[]) ∧ Below base w w' ∧ w.heap.size ≤ w'.heap.size ∧ ∃ v' M', RS w' base rb mb v' M' f L (add1 O t.at_) := by
  by_cases hin : t.at_ ∈ O
  · refine (add_old base rb mb v M f L O t w h hp hin hz).mono ?_
    rintro e w' ⟨h1, h2, h3, h4⟩
    exact ⟨h1, h2, h3, v, M, by rw [add1, if_pos hin]; exact h4⟩
  · refine (add_new base rb mb v M f L O t x w h hp hin hz hx hsm hsr hfar hl).mono ?_
    rintro e w' ⟨h1, h2, h3, v', h4⟩
    exact ⟨h1, h2, h3, v', _, by rw [add1, if_neg hin]; exact h4⟩
end Go.Proofs.YtnpklnpicelcmaaGreat

namespace Go.Proofs.YtnpklnpicelcmaaGreat
open Go.RowKit Go.Maps
set_option linter.unusedVariables false

theorem fld_obj7 (v0 v1 v2 v3 v4 v5 v6 : Value) (w : World) : (Instr.field 172 (.agg #[v0, v1, v2, v3, v4, v5, v6]) 1).run Tryz.prog w = .ok (.agg #[v1, v2, v3, v4, v5, v6]) w := by kernel_rfl

/-- What is known of the objects of an arena without a fault, as the program reads them. -/
structure Shaped (w : World) (a : Option Addr) (T : Nat → GM) (f : Nat → Int) (L : List Ob) : Prop where
  gv : GV w a L.length T
  same : ∀ i, i < L.length → GSame (T i) (obT f L i)
  sort : ∀ i j, i < j → j < L.length → (T i).at_ < (T j).at_
  right : Right f L
  len : L.length ≤ 400
  place : ∀ x ∈ L, 0 ≤ x.at_ ∧ x.at_ ≤ 1000000
  word : ∀ x ∈ L, ∀ k, k < x.s.toNat → -1000000000 ≤ f (x.at_.toNat + 2 + k) ∧ f (x.at_.toNat + 2 + k) ≤ 1000000000

section

variable {w w' : World} {a : Option Addr} {T : Nat → GM} {f : Nat → Int} {L : List Ob}

theorem Shaped.below (h : Shaped w a T f L) (hb : Below w.heap.size w w') : Shaped w' a T f L := ⟨h.gv.below hb, h.same, h.sort, h.right, h.len, h.place, h.word⟩

theorem Shaped.src (h : Shaped w a T f L) {i : Nat} (hi : i < L.length) : Src w (T i).a (T i).n (T i).f := by
  rcases h.gv with h0 | ⟨b, q, _, g⟩
  · omega
  · exact g.flds i hi

theorem gm_lt {t : GM} (h : Src w t.a t.n t.f) : t.n = 0 ∨ t.g < w.heap.size := by
  rcases h with h0 | ⟨b, o, e, hb, _⟩
  · exact .inl h0
  · exact .inr (by simpa [GM.g, e] using hb)

theorem Shaped.obj (h : Shaped w a T f L) {i : Nat} (hi : i < L.length) : findO L (T i).at_ = some L[i] ∧ GSame (T i) (obG f L[i]) ∧ (0 ≤ (T i).at_ ∧ (T i).at_ ≤ 1000000) := by
  have hs := h.same i hi
  rw [obT_get f hi] at hs
  have e : (T i).at_ = L[i].at_ := hs.1
  exact ⟨by rw [e]; exact h.right.apart _ (List.getElem_mem hi), hs, by rw [e]; exact h.place _ (List.getElem_mem hi)⟩

theorem Shaped.nope (h : Shaped w a T f L) {p : Int} (hn : ∀ i, i < L.length → ¬ (T i).at_ = p) : p ∉ placesO L := fun hp => by
  obtain ⟨x, hx, rfl⟩ := List.mem_map.mp hp
  obtain ⟨i, hi, rfl⟩ := List.getElem_of_mem hx
  have hs := h.same i hi
  rw [obT_get f hi] at hs
  exact hn i hi hs.1

theorem Shaped.yes (h : Shaped w a T f L) {i : Nat} (hi : i < L.length) : (T i).at_ ∈ placesO L := mem_placesO.2 ⟨_, (h.obj hi).1⟩

end

/-- The program's scan: at a field of an object, or at the end. -/
def ST (f : Nat → Int) (L : List Ob) (roots : List Int) (n i : Nat) (O : List Int) : Prop := (n = O.length ∧ i = 0 ∧ SC f L roots n O) ∨ ∃ x, i ≤ x.s.toNat ∧ SI f L roots n i x O

theorem st_of_sc {f : Nat → Int} {L : List Ob} {roots O : List Int} {n : Nat} (h : SC f L roots n O) : ST f L roots n 0 O := by
  rcases Nat.lt_or_ge n O.length with h1 | h1
  · obtain ⟨x, _, hx⟩ := sc_in h h1
    exact .inr ⟨x, Nat.zero_le _, hx⟩
  · have := h.le
    exact .inl ⟨by omega, rfl, h⟩

theorem ST.len {f : Nat → Int} {L : List Ob} {roots O : List Int} {n i : Nat} (h : ST f L roots n i O) : O.length ≤ L.length := by
  rcases h with ⟨_, _, h⟩ | ⟨_, _, h⟩
  · exact h.len
  · exact h.len

theorem tgt_eq {t : GM} {f : Nat → Int} {x : Ob} (h : GSame t (obG f x)) {k : Nat} (hk : k < x.s.toNat) : tgtV t k = if x.m / P2 (k : Int) % 2 = 1 ∧ ¬ f (x.at_.toNat + 2 + k) = 0 then some (f (x.at_.toNat + 2 + k) - 1) else none := by
  obtain ⟨h1, h2, h3, h4, h5, h6, h7⟩ := h
  have e := h7 k (by rw [h6]; exact hk)
  have e' : t.f k = f (x.at_.toNat + 2 + k) := e
  have e3 : t.m = x.m := h3
  unfold tgtV
  rw [e', e3]

def RetReach (W : World) (f : Nat → Int) (L : List Ob) (roots : List Int) (e : Ending) (w' : World) : Prop :=
  Below W.heap.size W w' ∧ (((∃ p ∈ roots, p ∉ placesO L) ∧ e = .returned (.agg #[.int .i64 4, .slice none 0 0, .map none])) ∨
    ((∀ p ∈ roots, p ∈ placesO L) ∧ ∃ a c mb T, e = .returned (.agg #[.int .i64 0, .slice a (reachO f L roots).length c, .map (some mb)]) ∧ GV w' a (reachO f L roots).length T ∧ MapT w' mb (reachO f L roots).length (reachO f L roots) (fun i => (i : Int)) ∧ ∀ i, i < (reachO f L roots).length → ∃ x, findO L (lf (reachO f L roots) i) = some x ∧ GSame (T i) (obG f x)))

theorem ret_of_rs {W w : World} {base rb mb : Nat} {av : Option Addr} {kv : Nat} {M : List GM} {f : Nat → Int} {L : List Ob} {O roots : List Int} (hall : ∀ p ∈ roots, p ∈ placesO L) (he : reachO f L roots = O) (h : RS w base rb mb (.slice av M.length kv) M f L O) (hb : Below W.heap.size W w) : RetReach W f L roots (.returned (.agg #[.int .i64 0, .slice av M.length kv, .map (some mb)])) w := by
  obtain ⟨a, c, e, hg⟩ := h.out
  simp only [Value.slice.injEq] at e
  obtain ⟨rfl, -, rfl⟩ := e
  have hl := h.len
  rw [hl] at hg
  refine ⟨hb, .inr ⟨hall, av, kv, mb, gT M, by rw [he, hl], by rw [he]; exact hg, by rw [he]; exact h.map, fun i hi => ?_⟩⟩
  rw [he] at hi ⊢
  have hi' : i < M.length := by omega
  rw [gT_at (List.getElem?_eq_getElem hi')]
  exact h.same i _ (List.getElem?_eq_getElem hi')

set_option maxRecDepth 100000 in
set_option maxHeartbeats 1600000 in
theorem reachOf_any (a : Option Addr) (kc : Nat) (T : Nat → GM) (f : Nat → Int) (L : List Ob) (ra : Option Addr) (roots : List Int) (rc : Nat) (w : World) (hsh : Shaped w a T f L) (hrs : Src w ra roots.length (lf roots)) (hrn : roots.length ≤ 60) :
    Calls Tryz.prog 92 #[.slice a L.length kc, .slice ra roots.length rc] w (RetReach w f L roots) := by
  have HSH := Lib.hid hsh; have HRS := Lib.hid hrs
  have hL4 := hsh.len
  have hmk := @run_makeMap Tryz.prog
  clear hsh hrs
  go_enter Tryz.func92, Tryz.ntmps92
  go_wp2_with fail
  go_step3
  have HW0 := Lib.hid ((Below.refl w.heap.size w).alloc (Nat.le_refl _) (.cells #[.int .i64 0, .slice none 0 0, .map none] 92))
  have R0 := Lib.hid (Blk.new_at (w := w) (cs := #[.int .i64 0, .slice none 0 0, .map none]) (t := 92) w.heap.size rfl)
  have z0 : (w.alloc (.cells #[.int .i64 0, .slice none 0 0, .map none] 92)).heap.size = w.heap.size + 1 := by simp
  have HM1 := Lib.hid ((MapT.made (w.alloc (.cells #[.int .i64 0, .slice none 0 0, .map none] 92)) (fun i => (i : Int))).alloc (.cells #[.int .i64 0, .slice none 0 0, .map (some (w.heap.size + 1))] 92))
  have B1 := Lib.hid (Blk.new_at (w := (w.alloc (.cells #[.int .i64 0, .slice none 0 0, .map none] 92)).alloc (.map #[] 0)) (cs := #[.int .i64 0, .slice none 0 0, .map (some (w.heap.size + 1))]) (t := 92) (w.heap.size + 1 + 1) (by simp))
  go_wp2_with fail
  generalize w.alloc (.cells #[.int .i64 0, .slice none 0 0, .map none] 92) = W0 at *
  rw [z0] at HM1
  have RS0 : Hid (RS ((W0.alloc (.map #[] 0)).alloc (.cells #[.int .i64 0, .slice none 0 0, .map (some (w.heap.size + 1))] 92)) (w.heap.size + 1) (w.heap.size + 1 + 1) (w.heap.size + 1) (.slice none 0 0) [] f L []) := Lib.hid
    ⟨B1.out, by omega, Nat.le_refl _, by omega, by simp [Value.ownBlock], by simp [Value.ownBlock], World.ownsRow_nil _ _ _ _, HM1.out, rfl, fun t ht => (by cases ht), fun i t ht => (by simp at ht)⟩
  have HB0 : Hid (Below (w.heap.size + 1) W0 ((W0.alloc (.map #[] 0)).alloc (.cells #[.int .i64 0, .slice none 0 0, .map (some (w.heap.size + 1))] 92))) := Lib.hid (((Below.refl _ _).alloc (by omega) _).alloc (by simp; omega) _)
  have zz : w.heap.size + 3 ≤ ((W0.alloc (.map #[] 0)).alloc (.cells #[.int .i64 0, .slice none 0 0, .map (some (w.heap.size + 1))] 92)).heap.size := by simp; omega
  generalize (W0.alloc (.map #[] 0)).alloc (.cells #[.int .i64 0, .slice none 0 0, .map (some (w.heap.size + 1))] 92) = W3 at *
  clear HM1 B1
  generalize hrb : w.heap.size + 1 + 1 = rb at *
  generalize hmb : w.heap.size + 1 = mb at *
  have HBW : Hid (∀ wr, Below mb W0 wr → Below w.heap.size w wr) := Lib.hid (fun wr hb => HW0.out.trans (hb.mono (by omega)))
  go_loopw [17] (fun p wr => ∃ (i : Nat) (v : Value) (M : List GM), i ≤ roots.length ∧ p = .int .i64 (i : Int) ∧ Hid (Below mb W0 wr) ∧ Hid (RS wr mb rb mb v M f L (addNew [] (roots.take i))) ∧ Hid (∀ j, j < i → lf roots j ∈ placesO L)) (fun p _ => roots.length - (intOf p).toNat)
  case atStart => exact ⟨0, _, [], by omega, rfl, HB0, RS0, Lib.hid (fun j hj => by omega)⟩
  case round =>
    clear HB0 RS0 zz
    obtain ⟨i, v, M, hi, rfl, HB_r, RS_r, HD⟩ := hrel
    have hzr : mb ≤ wr.heap.size := by have := RS_r.out.map.lt; omega
    by_cases hlt : i < roots.length
    · have hlt' : (i : Int) < (roots.length : Int) := by omega
      have hi0 : (0 : Int) ≤ (i : Int) := by omega
      obtain ⟨xb, xo, rfl, hxb, hxc⟩ := src_some (HRS.out.below (HBW.out _ HB_r.out)) (by omega)
      have c0 := hxc i hlt
      obtain ⟨y, hy⟩ : ∃ y, lf roots i = y := ⟨_, rfl⟩
      have HY := Lib.hid hy
      have HME := Lib.hid (lf_mem hlt)
      have HSN := Lib.hid (roots_snoc hlt [])
      rw [hy] at c0 HME HSN
      clear hxc hy
      go_wp2_with fail
      refine (find_any a L.length kc T y _ (HSH.out.below (HBW.out _ HB_r.out)).gv (by omega) HSH.out.sort).mono ?_
      rintro e w1 ⟨hb, hr⟩
      have HB1 := Lib.hid (HB_r.out.trans (hb.mono hzr))
      have RS1 := Lib.hid (RS_r.out.below hb)
      have z1 := hb.size
      clear hb
      rcases hr with ⟨j, hj, hat, rfl⟩ | ⟨hn, rfl⟩
      · obtain ⟨ho1, ho2, ho3⟩ := HSH.out.obj hj
        have HO := Lib.hid (And.intro ho1 (And.intro ho2 (And.intro ho3 (And.intro (HSH.out.src hj) (HSH.out.yes hj)))))
        have HL6 := Lib.hid (addNew_len (roots.take i) [])
        have HAT := Lib.hid hat
        clear ho1 ho2 ho3 hat
        generalize T j = t at *
        go_wp2_with fail
        have RS2 := Lib.hid (RS1.out.below ((Below.refl _ _).alloc (Nat.le_refl _) (.cells #[.int .i64 0, .int .i64 t.at_, .int .i64 t.s, .int .i64 t.m, .int .i64 t.o, .int .i64 t.h, .slice t.a t.n t.c] 172)))
        have HB2 := Lib.hid (HB1.out.alloc (by omega) (.cells #[.int .i64 0, .int .i64 t.at_, .int .i64 t.s, .int .i64 t.m, .int .i64 t.o, .int .i64 t.h, .slice t.a t.n t.c] 172))
        have z2 : w1.heap.size + 1 = (w1.alloc (.cells #[.int .i64 0, .int .i64 t.at_, .int .i64 t.s, .int .i64 t.m, .int .i64 t.o, .int .i64 t.h, .slice t.a t.n t.c] 172)).heap.size := by simp
        clear RS1 HB1
        generalize w1.alloc (.cells #[.int .i64 0, .int .i64 t.at_, .int .i64 t.s, .int .i64 t.m, .int .i64 t.o, .int .i64 t.h, .slice t.a t.n t.c] 172) = w2 at *
        have hs2 := HO.out.2.2.2.1
        refine (add_any mb rb mb v M f L _ t L[j] _ RS2.out (by have := HO.out.2.2.1; omega) (by omega) HO.out.1 HO.out.2.1 (HO.out.2.2.2.1.below (HBW.out _ HB2.out)) (by rcases gm_lt hs2 with h0 | h0; exact .inl h0; exact .inr (by omega)) (by have := HL6.out; simp at this; omega)).mono ?_
        rintro e w3 ⟨rfl, hb, hz, v', M', hrs⟩
        have HB3 := Lib.hid (HB2.out.trans hb)
        have RS3 : Hid (RS w3 mb rb mb v' M' f L (addNew [] (roots.take (i + 1)))) := Lib.hid (by rw [HSN.out, ← HAT.out]; exact hrs)
        have HP := Lib.hid (show y ∈ placesO L by rw [← HAT.out]; exact HO.out.2.2.2.2)
        clear hb hrs hs2 HB2 RS2 HO
        go_wp2
        go_roundw
        case rel => first | exact ⟨i + 1, v', M', by omega, by go_num, HB3, RS3, Lib.hid (fun j hj => by rcases Nat.lt_succ_iff_lt_or_eq.mp hj with h1 | h1; exact HD.out j h1; subst h1; rw [HY.out]; exact HP.out)⟩ | ((repeat apply Exists.intro); exact ⟨⟨i + 1, v', M', by omega, by go_num, HB3, RS3, Lib.hid (fun j hj => by rcases Nat.lt_succ_iff_lt_or_eq.mp hj with h1 | h1; exact HD.out j h1; subst h1; rw [HY.out]; exact HP.out)⟩, rfl⟩)
        case measure => simp [intOf]; omega
      · have hnp := HSH.out.nope hn
        have HNP := Lib.hid hnp
        have R_1 := Lib.hid (blk_under R0.out HB1.out (by omega))
        clear hn hnp
        have lR := R_1.out.1; have cR0 := R_1.out.at 0 rfl; have fR0 := R_1.out.free 0 rfl; have cR1 := R_1.out.at 1 rfl; have fR1 := R_1.out.free 1 rfl; have cR2 := R_1.out.at 2 rfl; have fR2 := R_1.out.free 2 rfl
        go_wp2
        refine bodyPost_ret (v := .agg #[.int .i64 4, .slice none 0 0, .map none]) (by simp [results, Tryz.results92, go_sem, cR0, cR1, cR2, lR]) rfl ⟨?_, .inl ⟨⟨y, HME.out, HNP.out⟩, rfl⟩⟩
        repeat (first | (with_reducible refine Below.setCell ?_ (by (try simp); (try omega)) _) | (with_reducible refine Below.alloc ?_ (by (try simp); (try omega)) _) | (with_reducible refine Below.drew ?_))
        exact HBW.out _ HB1.out
    · have hlt' : ¬ (i : Int) < (roots.length : Int) := by omega
      obtain rfl : i = roots.length := by omega
      have HALL : Hid (∀ p ∈ roots, p ∈ placesO L) := Lib.hid (fun p hp => by
        obtain ⟨j, hj, rfl⟩ := List.getElem_of_mem hp
        rw [← lf_at hj]; exact HD.out j hj)
      have HSC : Hid (SC f L roots 0 (addNew [] roots)) := Lib.hid (sc_start HALL.out)
      have RS4 : Hid (RS wr mb rb mb v M f L (addNew [] roots)) := Lib.hid (by have := RS_r.out; rw [List.take_length] at this; exact this)
      clear HD RS_r
      have st0 := st_of_sc HSC.out
      have ST0 := Lib.hid st0
      clear hlt hlt' HSC HRS st0 hrn hi
      go_wp2
      go_step3
      go_wp2_with fail
      go_loopw [9, 10] (fun p q wr => ∃ (n i : Nat) (v : Value) (M : List GM) (O : List Int), p = .int .i64 (n : Int) ∧ q = .int .i64 (i : Int) ∧ n ≤ L.length ∧ i ≤ 12 ∧ Hid (Below mb W0 wr) ∧ Hid (RS wr mb rb mb v M f L O) ∧ Hid (ST f L roots n i O)) (fun p q _ => (L.length - (intOf p).toNat) * 14 + (13 - (intOf q).toNat))
      case atStart => exact ⟨0, 0, v, M, _, rfl, rfl, by omega, by omega, HB_r, RS4, ST0⟩
      case round =>
        clear HB_r RS4 ST0 hzr
        obtain ⟨n, i, v, M, O, rfl, rfl, hnl, hi12, HB_r, RS_r, STT⟩ := hrel
        have hzr : mb ≤ wr.heap.size := by have := RS_r.out.map.lt; omega
        have hml := Lib.hid RS_r.out.len
        have hol := ST.len STT.out
        have hB := RS_r.out.blk
        obtain ⟨av, kv, hv⟩ := rowG_val RS_r.out.row
        subst hv
        have lB := hB.1; have cB0 := hB.at 0 rfl; have cB1 := hB.at 1 rfl; have cB2 := hB.at 2 rfl
        clear hB
        rcases STT.out with ⟨hn, hi0, hsc⟩ | ⟨x, hix, hsi⟩
        · have hnm : n = M.length := by rw [hml.out]; exact hn
          subst hi0
          have HSC := Lib.hid hsc
          have R_r := Lib.hid (blk_under R0.out HB_r.out (by omega))
          have HE : Hid (reachO f L roots = O) := Lib.hid (sc_end hsc (by omega))
          obtain ⟨a', c', he, hg⟩ := rowG_GV RS_r.out.row (fun t ht => (RS_r.out.src t ht).1)
          have HGV := Lib.hid hg; have HEE := Lib.hid he
          clear hsc hg he hn
          subst hnm
          have lR := R_r.out.1; have cR0 := R_r.out.at 0 rfl; have fR0 := R_r.out.free 0 rfl; have cR1 := R_r.out.at 1 rfl; have fR1 := R_r.out.free 1 rfl; have cR2 := R_r.out.at 2 rfl; have fR2 := R_r.out.free 2 rfl
          go_wp2
          rw [Exit.noGoto_ret]
          refine bodyPost_ret (v := .agg #[.int .i64 0, .slice av M.length kv, .map (some mb)]) (by simp [results, Tryz.results92, go_sem, cR0, cR1, cR2]) rfl ?_
          have hRF := ((RS_r.out.set (p := ⟨w.heap.size, 0, none⟩) hmb (.int .i64 0)).set (p := ⟨w.heap.size, 1, none⟩) hmb (.slice av M.length kv)).set (p := ⟨w.heap.size, 2, none⟩) hmb (.map (some mb))
          have hBF : Below w.heap.size w (((wr.setCell ⟨w.heap.size, 0, none⟩ (.int .i64 0)).setCell ⟨w.heap.size, 1, none⟩ (.slice av M.length kv)).setCell ⟨w.heap.size, 2, none⟩ (.map (some mb))) := (((HBW.out _ HB_r.out).setCell (Nat.le_refl _) _).setCell (Nat.le_refl _) _).setCell (Nat.le_refl _) _
          exact ret_of_rs HALL.out HE.out hRF hBF
        · have hnO : n < O.length := hsi.lt
          have hnM : n < M.length := by rw [hml.out]; exact hnO
          have hnm : ¬ n = M.length := by omega
          have hnm' : ((n : Int) == (M.length : Int)) = false := by simp; omega
          have hn0 : (0 : Int) ≤ (n : Int) := by omega
          have hnI : (n : Int) < (M.length : Int) := by omega
          obtain ⟨a', c', he, hg⟩ := RS_r.out.out
          simp only [Value.slice.injEq] at he
          obtain ⟨rfl, -, rfl⟩ := he
          obtain ⟨gb, gq, rfl, gs⟩ : ∃ b q, av = some ⟨b, q, none⟩ ∧ GSrc wr b q M.length (gT M) := by
            rcases hg with h0 | h
            · omega
            · exact h
          have hMn : M[n]? = some M[n] := List.getElem?_eq_getElem hnM
          obtain ⟨x', hx', hsame⟩ := RS_r.out.same n M[n] hMn
          rw [hsi.at_] at hx'
          obtain rfl := Option.some.inj hx'
          have hsx := gs.six n hnM
          have hfx := gs.flds n hnM
          rw [gT_at hMn] at hsx hfx
          have hxL : x ∈ L := List.mem_of_find?_eq_some hsi.at_
          have hok := HSH.out.right.ok x hxL
          have hwd := HSH.out.word x hxL
          generalize M[n] = t at *
          obtain ⟨s0, s1, s2, s3, s4, s5⟩ := hsx
          have htn : t.n = x.s.toNat := hsame.2.2.2.2.2.1
          have htx : t.s = x.s ∧ t.m = x.m ∧ t.o = x.o ∧ t.h = x.h := ⟨hsame.2.1, hsame.2.2.1, hsame.2.2.2.1, hsame.2.2.2.2.1⟩
          have HSM := Lib.hid hsame; have HFX := Lib.hid hfx; have HOK := Lib.hid hok; have HWD := Lib.hid hwd; have HSI := Lib.hid hsi; have HTX := Lib.hid htx
          have hs12 : x.s.toNat ≤ 12 := by have := hok.1.1; omega
          have HTN := Lib.hid htn
          clear hsame hfx hok hwd hsi htx gs hg hMn hxL htn hml
          by_cases hie : i = t.n
          · have hie' : ((i : Int) == (t.n : Int)) = true := by simp; omega
            have STN := Lib.hid (st_of_sc (si_end HSI.out (by rw [← HTN.out, hie]; exact Nat.le_refl _)))
            go_wp2
            go_roundw
            case rel => first | exact ⟨n + 1, 0, _, M, O, by go_num, rfl, by omega, by omega, HB_r, RS_r, STN⟩ | ((repeat apply Exists.intro); exact ⟨⟨n + 1, 0, _, M, O, by go_num, rfl, by omega, by omega, HB_r, RS_r, STN⟩, rfl⟩)
            case measure => simp [intOf]; omega
          · have hie' : ((i : Int) == (t.n : Int)) = false := by simp; omega
            have hit : i < t.n := by have := HTN.out; omega
            have hkx : i < x.s.toNat := by have := HTN.out; omega
            have HTG := Lib.hid (tgt_eq HSM.out hkx)
            go_wp2_with fail
            clear s0 s1 s2 s3 s4 s5
            refine (target_any t i _ HFX.out hit (by rw [HTX.out.1, HTX.out.2.1, HTX.out.2.2.1, HTX.out.2.2.2]; exact HOK.out.1) (by rw [HTX.out.1]; exact HTN.out) (by rw [show t.f i = f (x.at_.toNat + 2 + i) from HSM.out.2.2.2.2.2.2 i hit]; exact HWD.out i hkx)).mono ?_
            rintro e w1 ⟨hb, rfl⟩
            have HB1 := Lib.hid (HB_r.out.trans (hb.mono hzr))
            have RS1 := Lib.hid (RS_r.out.below hb)
            have z1 := hb.size
            clear hb
            rw [HTG.out]
            by_cases hd : x.m / P2 (i : Int) % 2 = 1 ∧ ¬ f (x.at_.toNat + 2 + i) = 0
            · rw [if_pos hd]
              have hsy := si_yes HSH.out.right.points HSH.out.right.size HSI.out hkx hd.1 hd.2
              have hin := si_in HSH.out.right.points HSH.out.right.size HSI.out hkx hd.1 hd.2
              obtain ⟨y, hy⟩ : ∃ y, f (x.at_.toNat + 2 + i) - 1 = y := ⟨_, rfl⟩
              rw [hy] at hsy hin ⊢
              have HSY := Lib.hid hsy; have HIN := Lib.hid hin
              clear hsy hin hd hy
              simp only [Option.getD_some, Option.isSome_some]
              go_wp2_with fail
              refine (find_any _ L.length kc T y _ (HSH.out.below (HBW.out _ HB1.out)).gv (by omega) HSH.out.sort).mono ?_
              rintro e w2 ⟨hb, hr⟩
              have HB2 := Lib.hid (HB1.out.trans (hb.mono (by omega)))
              have RS2 := Lib.hid (RS1.out.below hb)
              have z2 := hb.size
              clear hb
              rcases hr with ⟨j, hj, hat, rfl⟩ | ⟨hn, rfl⟩
              case inr => exact absurd HIN.out (HSH.out.nope hn)
              obtain ⟨ho1, ho2, ho3⟩ := HSH.out.obj hj
              have HO := Lib.hid (And.intro ho1 (And.intro ho2 (And.intro ho3 (HSH.out.src hj))))
              have HAT := Lib.hid hat
              clear ho1 ho2 ho3 hat
              have hf7 := fld_obj7
              generalize T j = u at *
              go_wp2_with fail
              have hs2 := HO.out.2.2.2
              refine (add_any mb rb mb _ M f L O u L[j] _ RS2.out (by have := HO.out.2.2.1; omega) (by omega) HO.out.1 HO.out.2.1 (HO.out.2.2.2.below (HBW.out _ HB2.out)) (by rcases gm_lt hs2 with h0 | h0; exact .inl h0; exact .inr (by omega)) (by omega)).mono ?_
              rintro e w3 ⟨rfl, hb, hz, v', M', hrs⟩
              have HB3 := Lib.hid (HB2.out.trans hb)
              have RS3 : Hid (RS w3 mb rb mb v' M' f L (add1 O y)) := Lib.hid (by rw [← HAT.out]; exact hrs)
              have STN : Hid (ST f L roots n (i + 1) (add1 O y)) := Lib.hid (.inr ⟨x, by omega, HSY.out⟩)
              clear hb hrs hs2 HB2 RS2 HO hf7
              go_wp2
              go_roundw
              case rel => first | exact ⟨n, i + 1, v', M', _, rfl, by go_num, by omega, by omega, HB3, RS3, STN⟩ | ((repeat apply Exists.intro); exact ⟨⟨n, i + 1, v', M', _, rfl, by go_num, by omega, by omega, HB3, RS3, STN⟩, rfl⟩)
              case measure => simp [intOf]; omega
            · rw [if_neg hd]
              have STN : Hid (ST f L roots n (i + 1) O) := Lib.hid (.inr ⟨x, by omega, si_no HSI.out hkx hd⟩)
              simp only [Option.getD_none, Option.isSome_none]
              clear hd
              go_wp2
              go_roundw
              case rel => first | exact ⟨n, i + 1, _, M, O, rfl, by go_num, by omega, by omega, HB1, RS1, STN⟩ | ((repeat apply Exists.intro); exact ⟨⟨n, i + 1, _, M, O, rfl, by go_num, by omega, by omega, HB1, RS1, STN⟩, rfl⟩)
              case measure => simp [intOf]; omega
end Go.Proofs.YtnpklnpicelcmaaGreat

namespace Go.Proofs.YtnpklnpicelcmaaGreat
open Go.RowKit Go.Maps
set_option linter.unusedVariables false

theorem shaped_of {h : Int} {n : Nat} {f : Nat → Int} {ac bu : Int} {L : List Ob} {w : World} {a : Option Addr} {T : Nat → GM} (hk : IsSF h n f ac bu 0) (ho : IsOI h n f ac bu 0 L) (hg : GV w a L.length T) (hT : ∀ i, i < L.length → GSame (T i) (obT f L i)) : Shaped w a T f L := by
  obtain ⟨h4, h5⟩ := isOI_zero ho
  obtain ⟨⟨⟨g1, g2⟩, ⟨g3, g4⟩, g5, g6⟩, gn, gw⟩ := isFault_ok h4
  have hb := baseI_bd (ac := ac) g1
  have hPU : (baseI ac h).toNat + bu.toNat ≤ n := by
    have hb0 : 0 ≤ baseI ac h ∧ baseI ac h ≤ h ∧ baseI ac h + h ≤ 2 * h := by rcases (by omega : ac = 0 ∨ ac = 1) with rfl | rfl <;> simp [baseI] <;> omega
    omega
  have hok := parse_ok h5 hPU gw
  have hln := parse_length _ _ L (Nat.le_refl _) h5
  refine ⟨hg, hT, fun i j hij hj => sorted_T h5 hT i j hij hj, right_of hk ho, by omega, fun x hx => ?_, fun x hx => (hok x hx).2.2.2.2⟩
  have := (hok x hx).2.2.2.1
  omega

/-- A block that holds no more than a code, an empty row and no map. -/
def Dead (w : World) (R : Nat) : Prop := ∃ t fr, w.heap[R]? = some (.cells #[.int .i64 0, .slice none 0 0, .map none] t fr)

theorem dead_new {w : World} {t : TypeId} (R : Nat) (hR : R = w.heap.size) : Dead (w.alloc (.cells #[.int .i64 0, .slice none 0 0, .map none] t)) R := by
  subst hR
  exact ⟨t, _, (heap_alloc_new w _)⟩

theorem Dead.below {w w' : World} {R : Nat} (h : Dead w R) (hb : Below w.heap.size w w') : Dead w' R := by
  obtain ⟨t, fr, h1⟩ := h
  exact ⟨t, fr, (hb.block R (Array.getElem?_eq_some_iff.1 h1).1).trans h1⟩

def lain (w : World) (R : Nat) (x y : Value) : World := ((w.setCell ⟨R, 0, none⟩ (.int .i64 0)).setCell ⟨R, 1, none⟩ x).setCell ⟨R, 2, none⟩ y

theorem lain_block {w : World} {R b : Nat} {x y : Value} (h : b ≠ R) : (lain w R x y).heap[b]? = w.heap[b]? :=
  (Below.heap_setCell _ _ _ b h).trans ((Below.heap_setCell _ _ _ b h).trans (Below.heap_setCell _ _ _ b h))

theorem dead_cell {w : World} {R : Nat} (h : Dead w R) (o : Nat) : w.cell? ⟨R, o, none⟩ = (#[.int .i64 0, .slice none 0 0, .map none] : Array Value)[o]? := by
  obtain ⟨t, fr, h1⟩ := h
  exact cell_of_row w R o _ t fr h1

theorem dead_int {w : World} {R b o : Nat} {v : Int} (h : Dead w R) (hc : w.cell? ⟨b, o, none⟩ = some (.int .i64 v)) (x y : Value) : (lain w R x y).cell? ⟨b, o, none⟩ = some (.int .i64 v) := by
  by_cases e : b = R
  · subst e
    have h0 := dead_cell h o
    rw [hc] at h0
    match o, h0 with
    | 0, h0 =>
      have h9 : v = 0 := by simpa using h0
      subst h9
      have hc' : (w.setCell ⟨b, 0, none⟩ (.int .i64 0)).cell? ⟨b, 0, none⟩ = some (.int .i64 0) := by rw [World.cell?_setCell_same' _ _ _ (by rw [hc]; rfl)]
      unfold lain
      rw [World.cell?_setCell_other _ _ _ _ (by simp), World.cell?_setCell_other _ _ _ _ (by simp)]
      exact hc'
    | 1, h0 => simp at h0
    | 2, h0 => simp at h0
    | o + 3, h0 => simp at h0
  · exact (World.cell?_of_block (w := w) (a := ⟨b, o, none⟩) (lain_block e)).trans hc

theorem dead_src {w : World} {R : Nat} {a : Option Addr} {n : Nat} {f : Nat → Int} (h : Dead w R) (hs : Src w a n f) (x y : Value) : Src (lain w R x y) a n f := by
  rcases hs with h0 | ⟨b, o, e, hb, hc⟩
  · exact .inl h0
  · exact .inr ⟨b, o, e, by simpa [lain] using hb, fun i hi => dead_int h (hc i hi) x y⟩

theorem dead_gv {w : World} {R : Nat} {a : Option Addr} {N : Nat} {T : Nat → GM} (h : Dead w R) (hg : GV w a N T) (x y : Value) : GV (lain w R x y) a N T := by
  rcases hg with h0 | ⟨b, q, e, g⟩
  · exact .inl h0
  · rcases Nat.eq_zero_or_pos N with h0 | hp
    · exact .inl h0
    have hne : b ≠ R := fun e => by
      subst e
      have h0 := (g.six 0 hp).1
      have h1 := (g.six 0 hp).2.1
      rw [dead_cell h] at h0 h1
      match q, h0, h1 with
      | 0, h0, h1 => simp at h1
      | 1, h0, h1 => simp at h0
      | 2, h0, h1 => simp at h0
      | q + 3, h0, h1 => simp at h0
    exact .inr ⟨b, q, e, by have := g.lt; simpa [lain] using this, fun i hi => (g.six i hi).block (lain_block hne), fun i hi => dead_src h (g.flds i hi) x y⟩

theorem dead_map {w : World} {R mb n : Nat} {O : List Int} {v : Nat → Int} (h : Dead w R) (hm : MapT w mb n O v) (x y : Value) : MapT (lain w R x y) mb n O v := by
  refine hm.block (lain_block fun e => ?_)
  subst e
  obtain ⟨t, fr, h1⟩ := h
  obtain ⟨D, ⟨es, clock, h2, _⟩, _⟩ := hm
  rw [h1] at h2; cases h2

def RetIn (W : World) (f : Nat → Int) (roots : List Int) (co : Int) (L : List Ob) (e : Ending) (w' : World) : Prop :=
  Below W.heap.size W w' ∧ ((¬ co = 0 ∧ e = .returned (.agg #[.int .i64 co, .slice none 0 0, .map none])) ∨
    (co = 0 ∧ ∃ a c mb T, e = .returned (.agg #[.int .i64 0, .slice a (reachO f L roots).length c, .map (some mb)]) ∧ GV w' a (reachO f L roots).length T ∧ MapT w' mb (reachO f L roots).length (reachO f L roots) (fun i => (i : Int)) ∧ ∀ i, i < (reachO f L roots).length → ∃ x, findO L (lf (reachO f L roots) i) = some x ∧ GSame (T i) (obG f x)))

set_option maxRecDepth 100000 in
set_option maxHeartbeats 1600000 in
theorem reachIn_code (h ac bu : Int) (a : Option Addr) (n c : Nat) (f : Nat → Int) (ra : Option Addr) (roots : List Int) (rc : Nat) (co : Int) (L : List Ob) (w : World) (hs : Src w a n f) (hcn : n ≤ c) (hcm : c ≤ maxLen) (hrs : Src w ra roots.length (lf roots)) (hk : IsSF h n f ac bu co) (h0 : ¬ co = 0) :
    Calls Tryz.prog 48 #[.agg #[.int .i64 h, .slice a n c, .int .i64 ac, .int .i64 bu], .slice ra roots.length rc] w (RetIn w f roots co L) := by
  have HS := Lib.hid hs; have HK := Lib.hid hk; have HCM := Lib.hid hcm; have HRS := Lib.hid hrs
  clear hs hk hcm hrs
  go_enter Tryz.func48, Tryz.ntmps48
  go_wp2_with fail
  refine (shaped_any h ac bu a n c f _ ((HS.out.alloc _).alloc _) hcn HCM.out co [] (.inl ⟨HK.out, h0, rfl⟩)).mono ?_
  rintro e w1 ⟨a1, c1, T, rfl, hg, hT, hb, hc1, hc2⟩
  have HB1 := Lib.hid (thru2 (Below.refl _ _) hb)
  have R_1 := Lib.hid ((Blk.new_at (w := w.alloc (.cells #[.int .i64 h, .slice a n c, .int .i64 ac, .int .i64 bu] 29)) (cs := #[.int .i64 0, .slice none 0 0, .map none]) (t := 92) (w.heap.size + 1) (by simp)).below hb)
  have z1 : w.heap.size + 2 ≤ w1.heap.size := by have := hb.size; simp at this; omega
  have HG := Lib.hid hg; have HT := Lib.hid hT
  have HBb := Lib.hid hb
  clear hb hg hT hc1 hc2
  have hz := HB1.out.size
  have hd : (co != 0) = true := by simpa using h0
  have H0 := Lib.hid h0
  clear h0
  have lR := R_1.out.1; have cR0 := R_1.out.at 0 rfl; have fR0 := R_1.out.free 0 rfl; have cR1 := R_1.out.at 1 rfl; have fR1 := R_1.out.free 1 rfl; have cR2 := R_1.out.at 2 rfl; have fR2 := R_1.out.free 2 rfl
  go_wp2
  refine bodyPost_ret (v := .agg #[.int .i64 co, .slice none 0 0, .map none]) (by simp [results, Tryz.results48, go_sem, cR0, cR1, cR2, lR]) rfl ⟨?_, .inl ⟨H0.out, rfl⟩⟩
  repeat (first | (with_reducible refine Below.setCell ?_ (by (try simp); (try omega)) _) | (with_reducible refine Below.alloc ?_ (by (try simp); (try omega)) _) | (with_reducible refine Below.drew ?_))
  exact HB1.out

set_option maxRecDepth 100000 in
set_option maxHeartbeats 1600000 in
theorem reachIn_many (h ac bu : Int) (a : Option Addr) (n c : Nat) (f : Nat → Int) (ra : Option Addr) (roots : List Int) (rc : Nat) (co : Int) (L : List Ob) (w : World) (hs : Src w a n f) (hcn : n ≤ c) (hcm : c ≤ maxLen) (hrs : Src w ra roots.length (lf roots)) (hk : IsSF h n f ac bu 0) (L0 : List Ob) (ho : IsOI h n f ac bu 0 L0) (h0 : 60 < roots.length) :
    Calls Tryz.prog 48 #[.agg #[.int .i64 h, .slice a n c, .int .i64 ac, .int .i64 bu], .slice ra roots.length rc] w (RetIn w f roots 2 L) := by
  have HS := Lib.hid hs; have HK := Lib.hid hk; have HCM := Lib.hid hcm; have HRS := Lib.hid hrs
  clear hs hk hcm hrs
  go_enter Tryz.func48, Tryz.ntmps48
  go_wp2_with fail
  refine (shaped_any h ac bu a n c f _ ((HS.out.alloc _).alloc _) hcn HCM.out 0 L0 (.inr ⟨rfl, HK.out, ho⟩)).mono ?_
  rintro e w1 ⟨a1, c1, T, rfl, hg, hT, hb, hc1, hc2⟩
  have HB1 := Lib.hid (thru2 (Below.refl _ _) hb)
  have R_1 := Lib.hid ((Blk.new_at (w := w.alloc (.cells #[.int .i64 h, .slice a n c, .int .i64 ac, .int .i64 bu] 29)) (cs := #[.int .i64 0, .slice none 0 0, .map none]) (t := 92) (w.heap.size + 1) (by simp)).below hb)
  have z1 : w.heap.size + 2 ≤ w1.heap.size := by have := hb.size; simp at this; omega
  have HG := Lib.hid hg; have HT := Lib.hid hT
  have HBb := Lib.hid hb
  clear hb hg hT hc1 hc2
  have hz := HB1.out.size
  have hd : (60 : Int) < (roots.length : Int) := by omega
  clear h0 ho
  have lR := R_1.out.1; have cR0 := R_1.out.at 0 rfl; have fR0 := R_1.out.free 0 rfl; have cR1 := R_1.out.at 1 rfl; have fR1 := R_1.out.free 1 rfl; have cR2 := R_1.out.at 2 rfl; have fR2 := R_1.out.free 2 rfl
  go_wp2
  refine bodyPost_ret (v := .agg #[.int .i64 2, .slice none 0 0, .map none]) (by simp [results, Tryz.results48, go_sem, cR0, cR1, cR2, lR]) rfl ⟨?_, .inl ⟨by decide, rfl⟩⟩
  repeat (first | (with_reducible refine Below.setCell ?_ (by (try simp); (try omega)) _) | (with_reducible refine Below.alloc ?_ (by (try simp); (try omega)) _) | (with_reducible refine Below.drew ?_))
  exact HB1.out

set_option maxRecDepth 100000 in
set_option maxHeartbeats 1600000 in
theorem reachIn_rest (h ac bu : Int) (a : Option Addr) (n c : Nat) (f : Nat → Int) (ra : Option Addr) (roots : List Int) (rc : Nat) (co : Int) (L : List Ob) (w : World) (hs : Src w a n f) (hcn : n ≤ c) (hcm : c ≤ maxLen) (hrs : Src w ra roots.length (lf roots)) (hk : IsSF h n f ac bu 0) (ho : IsOI h n f ac bu 0 L) (h60 : roots.length ≤ 60) (hco : ((∃ p ∈ roots, p ∉ placesO L) ∧ co = 4) ∨ ((∀ p ∈ roots, p ∈ placesO L) ∧ co = 0)) :
    Calls Tryz.prog 48 #[.agg #[.int .i64 h, .slice a n c, .int .i64 ac, .int .i64 bu], .slice ra roots.length rc] w (RetIn w f roots co L) := by
  have HS := Lib.hid hs; have HK := Lib.hid hk; have HCM := Lib.hid hcm; have HRS := Lib.hid hrs
  have HO := Lib.hid ho; have HCO := Lib.hid hco
  clear hs hk hcm hrs ho hco
  go_enter Tryz.func48, Tryz.ntmps48
  go_wp2_with fail
  refine (shaped_any h ac bu a n c f _ ((HS.out.alloc _).alloc _) hcn HCM.out 0 L (.inr ⟨rfl, HK.out, HO.out⟩)).mono ?_
  rintro e w1 ⟨a1, c1, T, rfl, hg, hT, hb, hc1, hc2⟩
  have HB1 := Lib.hid (thru2 (Below.refl _ _) hb)
  have R_1 := Lib.hid ((Blk.new_at (w := w.alloc (.cells #[.int .i64 h, .slice a n c, .int .i64 ac, .int .i64 bu] 29)) (cs := #[.int .i64 0, .slice none 0 0, .map none]) (t := 92) (w.heap.size + 1) (by simp)).below hb)
  have z1 : w.heap.size + 2 ≤ w1.heap.size := by have := hb.size; simp at this; omega
  have HG := Lib.hid hg; have HT := Lib.hid hT
  have HBb := Lib.hid hb
  clear hb hg hT hc1 hc2
  have hz := HB1.out.size
  have hd : ¬ (60 : Int) < (roots.length : Int) := by omega
  have DE_1 := Lib.hid ((dead_new (w := w.alloc (.cells #[.int .i64 h, .slice a n c, .int .i64 ac, .int .i64 bu] 29)) (t := 92) (w.heap.size + 1) (by simp)).below HBb.out)
  have HSH := Lib.hid (shaped_of HK.out HO.out HG.out.src HT.out)
  clear HG HT
  go_wp2_with fail
  have HB2 := Lib.hid (HB1.out.alloc hz (.cells #[.int .i64 0, .slice a1 L.length c1] 118))
  have DE2 := Lib.hid (DE_1.out.below ((Below.refl _ _).alloc (Nat.le_refl _) (.cells #[.int .i64 0, .slice a1 L.length c1] 118)))
  have R_2 := Lib.hid (R_1.out.alloc (.cells #[.int .i64 0, .slice a1 L.length c1] 118))
  have SH2 := Lib.hid (HSH.out.below ((Below.refl _ _).alloc (Nat.le_refl _) (.cells #[.int .i64 0, .slice a1 L.length c1] 118)))
  have hz2 : w.heap.size + 2 ≤ (w1.alloc (.cells #[.int .i64 0, .slice a1 L.length c1] 118)).heap.size := by simp; omega
  clear HB1 R_1 HSH
  generalize w1.alloc (.cells #[.int .i64 0, .slice a1 L.length c1] 118) = w2 at *
  refine (reachOf_any a1 c1 T f L ra roots rc _ SH2.out (HRS.out.below HB2.out) h60).mono ?_
  rintro e w3 ⟨hb, hr⟩
  have HB3 := Lib.hid (thru0 HB2.out hb)
  have R_3 := Lib.hid (R_2.out.below hb)
  have DE3 := Lib.hid (DE2.out.below hb)
  have z3 := hb.size
  clear hb
  have lR := R_3.out.1; have cR0 := R_3.out.at 0 rfl; have fR0 := R_3.out.free 0 rfl; have cR1 := R_3.out.at 1 rfl; have fR1 := R_3.out.free 1 rfl; have cR2 := R_3.out.at 2 rfl; have fR2 := R_3.out.free 2 rfl
  rcases hr with ⟨hbad, rfl⟩ | ⟨hall, a3, c3, mb, U, rfl, hgv, hmp, hsm⟩
  · have hc4 : co = 4 := by
      rcases HCO.out with ⟨_, h4⟩ | ⟨hq, _⟩
      · exact h4
      · obtain ⟨p, hp, hq'⟩ := hbad; exact absurd (hq p hp) hq'
    subst hc4
    clear hbad
    go_wp2
    refine bodyPost_ret (v := .agg #[.int .i64 4, .slice none 0 0, .map none]) (by simp [results, Tryz.results48, go_sem, cR0, cR1, cR2]) rfl ⟨?_, .inl ⟨by decide, rfl⟩⟩
    repeat (first | (with_reducible refine Below.setCell ?_ (by (try simp); (try omega)) _) | (with_reducible refine Below.alloc ?_ (by (try simp); (try omega)) _) | (with_reducible refine Below.drew ?_))
    exact HB3.out
  · have hc0 : co = 0 := by
      rcases HCO.out with ⟨⟨p, hp, hq⟩, _⟩ | ⟨_, h0⟩
      · exact absurd (hall p hp) hq
      · exact h0
    subst hc0
    have HGV := Lib.hid hgv; have HMP := Lib.hid hmp; have HSM := Lib.hid hsm
    clear hall hgv hmp hsm
    go_wp2
    refine bodyPost_ret (v := .agg #[.int .i64 0, .slice a3 (reachO f L roots).length c3, .map (some mb)]) (by simp [results, Tryz.results48, go_sem, cR0, cR1, cR2]) rfl ⟨?_, .inr ⟨rfl, a3, c3, mb, U, rfl, dead_gv DE3.out HGV.out _ _, dead_map DE3.out HMP.out _ _, HSM.out⟩⟩
    repeat (first | (with_reducible refine Below.setCell ?_ (by (try simp); (try omega)) _) | (with_reducible refine Below.alloc ?_ (by (try simp); (try omega)) _) | (with_reducible refine Below.drew ?_))
    exact HB3.out
end Go.Proofs.YtnpklnpicelcmaaGreat

namespace Go.Proofs.YtnpklnpicelcmaaGreat
open Go.RowKit Go.Maps
set_option linter.unusedVariables false

theorem news1b (w : World) (x : Int) (B : Nat) (hB : B = w.heap.size) : ∀ (j : Nat) (u : Value), ([.int .i64 x] : List Value)[j]? = some u → (w.alloc (.cells #[.int .i64 x] 2)).cell? ((⟨B, 0, none⟩ : Addr).add j) = some u := hB ▸ news1 w x

theorem nums_succ (n : Nat) (f : Nat → Int) : nums (n + 1) f = nums n f ++ [.int .i64 (f n)] := by simp [nums, List.range_succ]

theorem fld_ir (x y : Value) (w : World) : (Instr.field 153 (.agg #[x, y]) 1).run Tryz.prog w = .ok y w := by kernel_rfl

theorem gv_get {w : World} {a : Option Addr} {N : Nat} {T : Nat → GM} (h : GV w a N T) {i : Nat} (hi : i < N) : ∃ b q, a = some ⟨b, q, none⟩ ∧ b < w.heap.size ∧ SixG w b (q + i * 6) (T i) := by
  rcases h with h0 | ⟨b, q, e, g⟩
  · omega
  · exact ⟨b, q, e, g.lt, g.six i hi⟩

set_option maxRecDepth 100000 in
set_option maxHeartbeats 1600000 in
theorem words_any (co : Int) (mv : Value) (a : Option Addr) (O : List Int) (c : Nat) (T : Nat → GM) (L : List Ob) (f : Nat → Int) (w : World) (hg : GV w a O.length T) (hl : O.length ≤ 400) (hO : ∀ i, i < O.length → ∃ x, findO L (lf O i) = some x ∧ GSame (T i) (obG f x)) (hok : ∀ x ∈ L, ObOk x) :
    Calls Tryz.prog 55 #[.agg #[.int .i64 co, .slice a O.length c, mv]] w (fun e w' => e = .returned (.int .i64 (sumW (wordsAt L) O : Int)) ∧ Below w.heap.size w w') := by
  have G := Lib.hid hg; have HO := Lib.hid hO; have HOK := Lib.hid hok
  have hfi := fld_ir
  clear hg hO hok
  go_enter Tryz.func55, Tryz.ntmps55
  go_wp2
  go_loopw [3, 9] (fun u p wr => ∃ i : Nat, i ≤ O.length ∧ p = .int .i64 (i : Int) ∧ u = .int .i64 (sumW (wordsAt L) (O.take i) : Int) ∧ sumW (wordsAt L) (O.take i) ≤ i * 14 ∧ Hid (Below w.heap.size w wr)) (fun _ p _ => O.length - (intOf p).toNat)
  case atStart => exact ⟨0, Nat.zero_le _, rfl, by simp [sumW], by simp [sumW], (Below.refl _ _).alloc (Nat.le_refl _) _⟩
  case round =>
    obtain ⟨i, hi, rfl, rfl, hsum, HB_r⟩ := hrel
    have hzr := HB_r.out.size
    by_cases hlt : i < O.length
    · have hlt' : (i : Int) < (O.length : Int) := by omega
      have hi0 : (0 : Int) ≤ (i : Int) := by omega
      obtain ⟨b, q, rfl, lb, hsix⟩ := gv_get (G.out.below HB_r.out) hlt
      obtain ⟨x, hx, hs⟩ := HO.out i hlt
      have hok := HOK.out x (List.mem_of_find?_eq_some hx)
      have hts : (T i).s = x.s ∧ (T i).m = x.m ∧ (T i).o = x.o ∧ (T i).h = x.h := ⟨hs.2.1, hs.2.2.1, hs.2.2.2.1, hs.2.2.2.2.1⟩
      have HST := Lib.hid (sumW_take (u := wordsAt L) hlt)
      have HW := Lib.hid (wordsAt_some hx)
      have hs12 := hok.1.1
      have HK : Hid (HOk (T i).s (T i).m (T i).o (T i).h) := Lib.hid (by rw [hts.1, hts.2.1, hts.2.2.1, hts.2.2.2]; exact hok.1)
      have hss : (T i).s = x.s := hts.1
      have HSS := Lib.hid hss
      have hsb : 0 ≤ (T i).s ∧ (T i).s ≤ 12 := by rw [hss]; exact hs12
      have HAL : Hid (Below w.heap.size w (wr.alloc (.cells #[.int .i64 (T i).at_, .int .i64 (T i).s, .int .i64 (T i).m, .int .i64 (T i).o, .int .i64 (T i).h, .slice (T i).a (T i).n (T i).c] 102))) := Lib.hid (HB_r.out.alloc hzr _)
      have e3 : sumW (wordsAt L) (O.take (i + 1)) ≤ (i + 1) * 14 := by rw [HST.out, HW.out]; omega
      have e2 : (sumW (wordsAt L) (O.take (i + 1)) : Int) = (sumW (wordsAt L) (O.take i) : Int) + ((T i).s + 2) := by rw [HST.out, HW.out, hss]; omega
      have E2 := Lib.hid e2; have E3 := Lib.hid e3
      clear hs hok hts e2 e3 hx hss hs12
      generalize T i = t at *
      obtain ⟨s0, s1, s2, s3, s4, s5⟩ := hsix
      obtain ⟨hsb1, hsb2⟩ := hsb
      go_wp2_with fail
      refine (implWO_yes t.s t.m t.o t.h _ HK.out).mono ?_
      rintro e w2 ⟨rfl, hb⟩
      have HB2 := Lib.hid (thru0 HAL.out hb)
      clear hb s0 s1 s2 s3 s4 s5
      generalize sumW (wordsAt L) (O.take i) = sm at *
      go_wp2
      go_roundw
      case rel => first | exact ⟨i + 1, by omega, by go_num, by rw [E2.out], E3.out, HB2⟩ | ((repeat apply Exists.intro); exact ⟨⟨i + 1, by omega, by go_num, by rw [E2.out], E3.out, HB2⟩, rfl⟩)
      case measure => simp [intOf]; omega
    · have hlt' : ¬ (i : Int) < (O.length : Int) := by omega
      obtain rfl : i = O.length := by omega
      have HT : Hid (O.take O.length = O) := Lib.hid List.take_length
      go_wp2
      go_ret
      exact ⟨rfl, HB_r.out⟩
end Go.Proofs.YtnpklnpicelcmaaGreat

namespace Go.Proofs.YtnpklnpicelcmaaGreat
open Go.RowKit Go.Maps
set_option linter.unusedVariables false

theorem reachIn_any (h ac bu : Int) (a : Option Addr) (n c : Nat) (f : Nat → Int) (ra : Option Addr) (roots : List Int) (rc : Nat) (co : Int) (L : List Ob) (w : World) (hs : Src w a n f) (hcn : n ≤ c) (hcm : c ≤ maxLen) (hrs : Src w ra roots.length (lf roots)) (hk : IsAsk h n f ac bu roots co L) :
    Calls Tryz.prog 48 #[.agg #[.int .i64 h, .slice a n c, .int .i64 ac, .int .i64 bu], .slice ra roots.length rc] w (RetIn w f roots co L) := by
  rcases hk with ⟨h1, h2⟩ | ⟨h1, h2, rfl⟩ | ⟨h1, h2, h3, h4, rfl⟩ | ⟨h1, h2, h3, h4, rfl⟩
  · exact reachIn_code h ac bu a n c f ra roots rc co L w hs hcn hcm hrs h1 h2
  · obtain ⟨L0, hL0⟩ := isSF_zero h1
    exact reachIn_many h ac bu a n c f ra roots rc 2 L w hs hcn hcm hrs h1 L0 hL0 h2
  · exact reachIn_rest h ac bu a n c f ra roots rc 4 L w hs hcn hcm hrs h1 h2 h3 (.inl ⟨h4, rfl⟩)
  · exact reachIn_rest h ac bu a n c f ra roots rc 0 L w hs hcn hcm hrs h1 h2 h3 (.inr ⟨h4, rfl⟩)
end Go.Proofs.YtnpklnpicelcmaaGreat

namespace Go.Proofs.YtnpklnpicelcmaaGreat
open Go.RowKit Go.Maps
set_option linter.unusedVariables false

theorem reach_small {h : Int} {n : Nat} {f : Nat → Int} {ac bu : Int} {roots : List Int} {co : Int} {L : List Ob} (hk : IsAsk h n f ac bu roots co L) : (outR f L roots co).length ≤ 400 ∧ (outG f L roots co).length ≤ 400 := by
  by_cases h0 : co = 0
  · subst h0
    obtain ⟨h1, h2, h3, h4⟩ := isAsk_zero hk
    have hri := right_of h1 h2
    have h9 := reachO_length hri.points hri.size h4
    have h8 := isOI_small h2
    refine ⟨by rw [outR_zero]; omega, ?_⟩
    unfold outG
    rw [if_pos rfl]
    have := List.length_filter_le (fun p => decide (p ∉ reachO f L roots)) (placesO L)
    simp [placesO] at this ⊢
    omega
  · rw [outR_no f L roots h0, outG_no f L roots h0]; simp

set_option maxRecDepth 100000 in
set_option maxHeartbeats 400000 in
theorem markInts_big (a : Option Addr) (n c lo hi : Nat) (f : Nat → Int) (k : Int) (w : World) (ho : OwnIn w lo hi a n f) (hn : n ≤ 1048576) (hk0 : 0 ≤ k) (hk1 : k ≤ 4194304) :
    Calls Tryz.prog 31 #[.slice a n c, .int .i64 k] w (RetMark w lo hi a n k) := by
  have HO := Lib.hid ho
  clear ho
  go_enter Tryz.func31, Tryz.ntmps31
  go_wp2
  go_loopw [1, 5] (fun q p wr => ∃ i : Nat, i ≤ n ∧ p = .int .i64 i ∧ q = .int .i64 (k + i) ∧ Hid (Keeps w wr lo hi) ∧ Hid (OwnIn wr lo hi a n (fun j => if j < i then k + j else f j))) (fun _ p _ => n - (intOf p).toNat)
  case atStart => exact ⟨0, Nat.zero_le _, rfl, by simp, Keeps.refl _ _ _, by simpa using HO⟩
  case round =>
    obtain ⟨i, hi', rfl, rfl, HK, HR⟩ := hrel
    by_cases hlt : i < n
    · obtain ⟨b, off, rfl, hb, hc⟩ := src_some HR.out.src (by omega)
      have c1 := hc i hlt
      have hfz : wr.frozen? ⟨b, off + i, none⟩ = false := by
        rcases HR.out with h | ⟨b', off', h1, _, _, h4⟩
        · omega
        · simp only [Option.some.injEq, Addr.mk.injEq, and_true] at h1
          obtain ⟨rfl, rfl⟩ := h1
          exact (h4 i hlt).2
      have hst := Lib.hid (HR.out.stored i hlt (k + i))
      have hlt' : (i : Int) < (n : Int) := by omega
      clear hc
      go_wp2
      go_roundw
      case rel =>
        refine ⟨i + 1, by omega, by go_num, by go_num, HK.out.trans hst.out.2, hst.out.1.congr fun j hj => ?_⟩
        by_cases h1 : j = i
        · subst h1; simp
        · have h2 : (j < i + 1) = (j < i) := by simp only [eq_iff_iff]; omega
          simp only [h1, if_false, h2]
      case measure => simp [intOf]; omega
    · go_wp2
      go_ret
      obtain rfl : i = n := by omega
      exact ⟨rfl, HR.out.congr fun j hj => by simp [hj], HK.out⟩
end Go.Proofs.YtnpklnpicelcmaaGreat

namespace Go.Proofs.YtnpklnpicelcmaaGreat
open Go.RowKit Go.Maps
set_option linter.unusedVariables false

/-- What the closure reads. -/
structure Cap (w : World) (rb mb nn : Nat) (v : Value) (O : List Int) : Prop where
  blk : Blk w rb [.int .i64 0, v, .map (some mb)]
  map : MapT w mb nn O (fun i => (i : Int))

theorem Cap.below {w w' : World} {rb mb nn : Nat} {v : Value} {O : List Int} (h : Cap w rb mb nn v O) (hb : Below w.heap.size w w') : Cap w' rb mb nn v O := ⟨h.blk.below hb, h.map.below hb⟩
end Go.Proofs.YtnpklnpicelcmaaGreat

namespace Go.Proofs.YtnpklnpicelcmaaGreat
open Go.RowKit Go.Maps
set_option linter.unusedVariables false

/-- A row of objects that may be written. -/
structure RW (w : World) (b q N : Nat) (V : Nat → GM) : Prop where
  lt : b < w.heap.size
  six : ∀ k, k < N → SixG w b (q + k * 6) (V k)
  free : ∀ k, k < N → SixF w b (q + k * 6)
  flds : ∀ k, k < N → Src w (V k).a (V k).n (V k).f
  off : ∀ k, k < N → (V k).n = 0 ∨ (V k).g ≠ b

theorem RW.below {w w' : World} {b q N : Nat} {V : Nat → GM} (h : RW w b q N V) (hb : Below w.heap.size w w') : RW w' b q N V :=
  ⟨Nat.lt_of_lt_of_le h.lt hb.size, fun k hk => (h.six k hk).below hb h.lt, fun k hk => (h.free k hk).below hb h.lt, fun k hk => (h.flds k hk).below hb, h.off⟩

theorem src_six {w : World} {b o : Nat} {t u : GM} (h : Src w u.a u.n u.f) (hb : u.n = 0 ∨ u.g ≠ b) : Src (sixW w b o t) u.a u.n u.f := by
  rcases h with h0 | ⟨b', o', e, h1, h2⟩
  · exact .inl h0
  · rcases hb with h0 | hb
    · exact .inl h0
    · have hg : u.g = b' := by simp [GM.g, e]
      have hk := (sixW_keeps w b o t).block b' h1 (by omega)
      exact .inr ⟨b', o', e, Nat.lt_of_lt_of_le h1 (sixW_keeps w b o t).size, fun i hi => (World.cell?_of_block (w := w) (a := ⟨b', o' + i, none⟩) hk).trans (h2 i hi)⟩

theorem sixF_six {w : World} {b o o' : Nat} {t : GM} (h : SixF w b o) : SixF (sixW w b o' t) b o :=
  ⟨(sixW_frozen _ _ _ _ _).trans h.1, (sixW_frozen _ _ _ _ _).trans h.2.1, (sixW_frozen _ _ _ _ _).trans h.2.2.1, (sixW_frozen _ _ _ _ _).trans h.2.2.2.1, (sixW_frozen _ _ _ _ _).trans h.2.2.2.2.1, (sixW_frozen _ _ _ _ _).trans h.2.2.2.2.2⟩

theorem RW.set {w : World} {b q N i : Nat} {V : Nat → GM} {t : GM} (h : RW w b q N V) (hi : i < N) (hs : Src w t.a t.n t.f) (ho : t.n = 0 ∨ t.g ≠ b) : RW (sixW w b (q + i * 6) t) b q N (fun k => if k = i then t else V k) := by
  refine ⟨Nat.lt_of_lt_of_le h.lt (sixW_keeps w b _ t).size, fun k hk => ?_, fun k hk => sixF_six (h.free k hk), fun k hk => ?_, fun k hk => ?_⟩
  · by_cases e : k = i
    · subst e; rw [if_pos rfl]; exact sixW_at (h.six k hk) t
    · rw [if_neg e]; exact sixW_other (h.six k hk) (by omega) t
  · by_cases e : k = i
    · rw [if_pos e]; exact src_six hs ho
    · rw [if_neg e]; exact src_six (h.flds k hk) (h.off k hk)
  · by_cases e : k = i
    · rw [if_pos e]; exact ho
    · rw [if_neg e]; exact h.off k hk

def ki (T : Nat → GM) (O : List Int) (j : Nat) : List Nat := (List.range j).filter (fun k => decide ((T k).at_ ∉ O))

theorem ki_succ (T : Nat → GM) (O : List Int) (j : Nat) : ki T O (j + 1) = if (T j).at_ ∉ O then ki T O j ++ [j] else ki T O j := by
  unfold ki
  rw [List.range_succ, List.filter_append]
  by_cases h : (T j).at_ ∉ O
  · rw [if_pos h]; simp [h]
  · rw [if_neg h]; simp [h]

/-- What the row is like when the objects ahead of j have been looked at. -/
def KI (T : Nat → GM) (O : List Int) (N i j : Nat) (V : Nat → GM) : Prop := i = (ki T O j).length ∧ (∀ k (hk : k < (ki T O j).length), V k = T (ki T O j)[k]) ∧ ∀ k, j ≤ k → k < N → V k = T k

theorem KI.skip {T : Nat → GM} {O : List Int} {N i j : Nat} {V : Nat → GM} (h : KI T O N i j V) (hj : (T j).at_ ∈ O) : KI T O N i (j + 1) V := by
  have e : ki T O (j + 1) = ki T O j := by rw [ki_succ, if_neg (fun hn => hn hj)]
  refine ⟨by rw [e]; exact h.1, fun k hk => ?_, fun k hk => h.2.2 k (by omega)⟩
  have hk' : k < (ki T O j).length := by rw [e] at hk; exact hk
  rw [h.2.1 k hk']
  simp only [e]
end Go.Proofs.YtnpklnpicelcmaaGreat

namespace Go.Proofs.YtnpklnpicelcmaaGreat
open Go.RowKit Go.Maps
set_option linter.unusedVariables false

theorem setCells_size (b : Nat) : ∀ (vs : List Value) (o : Nat) (w : World), (w.setCells b o vs).heap.size = w.heap.size
  | [], o, w => rfl
  | v :: vs, o, w => by
    have h1 := setCells_size b vs (o + 1) (w.setCell ⟨b, o, none⟩ v)
    exact h1.trans (by simp)

theorem RW.has {w : World} {b q N : Nat} {V : Nat → GM} (h : RW w b q N V) (o : Nat) (ho : o < N * 6) : (w.cell? ⟨b, q + o, none⟩).isSome = true ∧ w.frozen? ⟨b, q + o, none⟩ = false := by
  obtain ⟨k, r, hr, e⟩ : ∃ k r, r < 6 ∧ o = k * 6 + r := ⟨o / 6, o % 6, Nat.mod_lt _ (by omega), by omega⟩
  subst e
  have hk : k < N := by omega
  obtain ⟨x0, x1, x2, x3, x4, x5⟩ := h.six k hk
  obtain ⟨g0, g1, g2, g3, g4, g5⟩ := h.free k hk
  rw [← Nat.add_assoc]
  match r, hr with
  | 0, _ => exact ⟨by rw [Nat.add_zero, x0]; rfl, g0⟩
  | 1, _ => exact ⟨by rw [x1]; rfl, g1⟩
  | 2, _ => exact ⟨by rw [x2]; rfl, g2⟩
  | 3, _ => exact ⟨by rw [x3]; rfl, g3⟩
  | 4, _ => exact ⟨by rw [x4]; rfl, g4⟩
  | 5, _ => exact ⟨by rw [x5]; rfl, g5⟩
end Go.Proofs.YtnpklnpicelcmaaGreat

namespace Go.Proofs.YtnpklnpicelcmaaGreat
open Go.RowKit Go.Maps
set_option linter.unusedVariables false

/-- What is carried through the draw: the source, the bytes, the arena, the answer's block, the arena's words, the roots. -/
structure DS (W w : World) (ca : Option Addr) (k kc : Nat) (B : Nat → Int) (t P : Nat) (h ac bu : Int) (a : Option Addr) (n c : Nat) (f : Nat → Int) (u : Value) (l : List Int) : Prop where
  bel : Below W.heap.size W w
  src : Blk w (W.heap.size + 1) [.slice ca k kc, .int .i64 (t : Int)]
  byt : SrcB w (W.heap.size + 1) ca k B
  arn : Blk w P [.int .i64 h, .slice a n c, .int .i64 ac, .int .i64 bu]
  res : Blk w W.heap.size [.int .i64 0, .slice none 0 0, .int .i64 0, .int .i64 0]
  wrd : OwnIn w (W.heap.size + 2) P a n f
  row : w.ownsRow (P + 1) 2 1 u l.length (nums l.length (lf l))
  hP : W.heap.size + 2 ≤ P

theorem DS.below {W w w' : World} {ca : Option Addr} {k kc t P : Nat} {B f : Nat → Int} {h ac bu : Int} {a : Option Addr} {n c : Nat} {u : Value} {l : List Int} (d : DS W w ca k kc B t P h ac bu a n c f u l) (hb : Below w.heap.size w w') : DS W w' ca k kc B t P h ac bu a n c f u l :=
  ⟨d.bel.trans (hb.mono d.bel.size), d.src.below hb, d.byt.below hb, d.arn.below hb, d.res.below hb, d.wrd.below hb, ownsRow_below d.row hb, d.hP⟩

theorem DS.append {W w w' : World} {o : Obj} {ca : Option Addr} {k kc t P : Nat} {B f : Nat → Int} {h ac bu : Int} {a : Option Addr} {n c : Nat} {u u' : Value} {l l' : List Int} (d : DS W w ca k kc B t P h ac bu a n c f u l) (hg : (w.alloc o).grownBy w' u.ownBlock) (hr : w'.ownsRow (P + 1) 2 1 u' l'.length (nums l'.length (lf l'))) : DS W w' ca k kc B t P h ac bu a n c f u' l' := by
  have hP := d.hP
  have hPw := d.arn.1
  have hz : w.heap.size ≤ w'.heap.size := by have := hg.size; simp at this; omega
  have hk : Keeps w w' (P + 1) w'.heap.size := ⟨hg.os, hg.tape, hg.output, hz, fun q hq hd => by
    rcases hd with hd | hd
    · exact (hg.block q (by simp; omega) (fun e => by have := (d.row.lt q e.symm).1; omega)).trans (Below.heap_alloc _ _ _ hq)
    · omega⟩
  exact ⟨d.bel.trans (hk.below (by omega) d.bel.size), d.src.keeps hk (.inl (by omega)), d.byt.keeps hk (by omega), d.arn.keeps hk (.inl (by omega)), d.res.keeps hk (.inl (by omega)), d.wrd.keeps hk (.inl (by omega)), hr, d.hP⟩
end Go.Proofs.YtnpklnpicelcmaaGreat

namespace Go.Proofs.YtnpklnpicelcmaaGreat
open Go.RowKit Go.Maps
set_option linter.unusedVariables false

/-- What the law of what is reached has at hand. -/
structure LR (W w : World) (P P5 P6 P7 : Nat) (h ac bu : Int) (a : Option Addr) (n c : Nat) (f : Nat → Int) (ra : Option Addr) (l : List Int) (co : Int) (R : List Int) (ua : Option Addr) (uc : Nat) (G : List Int) (ga : Option Addr) (gc : Nat) (wv : Int) : Prop where
  bel : Below W.heap.size W w
  arn : Blk w P [.int .i64 h, .slice a n c, .int .i64 ac, .int .i64 bu]
  wrd : Src w a n f
  rts : Src w ra l.length (lf l)
  rb : Blk w P5 [.int .i64 co, .slice ua R.length uc]
  rl : Src w ua R.length (lf R)
  gb : Blk w P6 [.int .i64 co, .slice ga G.length gc]
  gl : Src w ga G.length (lf G)
  wb : Blk w P7 [.int .i64 co, .int .i64 wv]

section

variable {W w w' : World} {P P5 P6 P7 : Nat} {h ac bu : Int} {a : Option Addr} {n c : Nat} {f : Nat → Int} {ra : Option Addr} {l : List Int} {co : Int} {R : List Int} {ua : Option Addr} {uc : Nat} {G : List Int} {ga : Option Addr} {gc : Nat} {wv : Int}

theorem LR.below (d : LR W w P P5 P6 P7 h ac bu a n c f ra l co R ua uc G ga gc wv) (hb : Below w.heap.size w w') : LR W w' P P5 P6 P7 h ac bu a n c f ra l co R ua uc G ga gc wv :=
  ⟨d.bel.trans (hb.mono d.bel.size), d.arn.below hb, d.wrd.below hb, d.rts.below hb, d.rb.below hb, d.rl.below hb, d.gb.below hb, d.gl.below hb, d.wb.below hb⟩

theorem LR.drew (d : LR W w P P5 P6 P7 h ac bu a n c f ra l co R ua uc G ga gc wv) : LR W w.drew P P5 P6 P7 h ac bu a n c f ra l co R ua uc G ga gc wv := d.below (Below.refl _ _).drew

theorem LR.c7 (d : LR W w P P5 P6 P7 h ac bu a n c f ra l co R ua uc G ga gc wv) : w.cell? ⟨P, 0, none⟩ = some (.int .i64 h) ∧ w.cell? ⟨P, 1, none⟩ = some (.slice a n c) ∧ w.cell? ⟨P, 2, none⟩ = some (.int .i64 ac) ∧ w.cell? ⟨P, 3, none⟩ = some (.int .i64 bu) ∧ w.cell? ⟨P5, 0, none⟩ = some (.int .i64 co) ∧ w.cell? ⟨P6, 0, none⟩ = some (.int .i64 co) ∧ w.cell? ⟨P7, 0, none⟩ = some (.int .i64 co) ∧ w.cell? ⟨P7, 1, none⟩ = some (.int .i64 wv) :=
  ⟨d.arn.at 0 rfl, d.arn.at 1 rfl, d.arn.at 2 rfl, d.arn.at 3 rfl, d.rb.at 0 rfl, d.gb.at 0 rfl, d.wb.at 0 rfl, d.wb.at 1 rfl⟩

end
end Go.Proofs.YtnpklnpicelcmaaGreat

namespace Go.Proofs.YtnpklnpicelcmaaGreat
open Go.RowKit
set_option linter.unusedVariables false

/-- The word of number d of an object, behind a collection. -/
def colAt (f : Nat → Int) (R : List Int) (P : Nat) (X : List Ob) (x : Ob) (d : Nat) : Int := if d = 0 then packO x else if d = 1 then x.h else mapF f R (newPlaces P X) x (d - 2)

/-- The words of a set are so; beside the objects there is nothing. -/
structure ColOn (f : Nat → Int) (R : List Int) (P : Nat) (X : List Ob) (D : Nat → Nat → Prop) (g : Nat → Int) : Prop where
  on : ∀ j (hj : j < X.length) d, D j d → d < wordsO X[j] → g (placeAt P X j + d) = colAt f R P X X[j] d
  rest : ∀ i, ¬ (P ≤ i ∧ i < P + totO X) → g i = 0

theorem wordsO_two (x : Ob) : 2 ≤ wordsO x := by unfold wordsO; omega

theorem placeAt_mono (P : Nat) (X : List Ob) {i j : Nat} (h : i ≤ j) (hj : j ≤ X.length) : placeAt P X i ≤ placeAt P X j := by
  rcases Nat.lt_or_eq_of_le h with h1 | rfl
  · have := placeAt_lt P X i j h1 hj; omega
  · exact Nat.le_refl _

theorem placeAt_next (P : Nat) (X : List Ob) {i j : Nat} (h : i < j) (hj : j < X.length) : placeAt P X i + wordsO (X[i]'(by omega)) ≤ placeAt P X j := by
  rw [← placeAt_step P X (show i < X.length by omega)]
  exact placeAt_mono P X h (by omega)

theorem place_apart {P : Nat} {X : List Ob} {i j d e : Nat} (hi : i < X.length) (hj : j < X.length) (hd : d < wordsO X[i]) (he : e < wordsO X[j]) (h : placeAt P X i + d = placeAt P X j + e) : i = j ∧ d = e := by
  rcases Nat.lt_trichotomy i j with h1 | rfl | h1
  · have := placeAt_next P X h1 hj; omega
  · exact ⟨rfl, by omega⟩
  · have := placeAt_next P X h1 hi; omega

theorem placeAt_ge (P : Nat) (X : List Ob) (i : Nat) : P ≤ placeAt P X i := by unfold placeAt; omega

section

variable {f g : Nat → Int} {R : List Int} {P : Nat} {X : List Ob} {D E : Nat → Nat → Prop} {i d : Nat}

theorem ColOn.less (h : ColOn f R P X D g) (hD : ∀ j d, (hj : j < X.length) → d < wordsO X[j] → E j d → D j d) : ColOn f R P X E g := ⟨fun j hj d h1 h2 => h.on j hj d (hD j d hj h2 h1) h2, h.rest⟩

theorem ColOn.set (h : ColOn f R P X D g) (hi : i < X.length) (hd : d < wordsO X[i]) {v : Int} (hv : v = colAt f R P X X[i] d) : ColOn f R P X (fun j e => D j e ∨ (j = i ∧ e = d)) (upd g (placeAt P X i + d) v) := by
  refine ⟨fun j hj e h1 h2 => ?_, fun k hk => ?_⟩
  · unfold upd
    by_cases he : placeAt P X j + e = placeAt P X i + d
    · obtain ⟨rfl, rfl⟩ := place_apart hj hi h2 hd he
      rw [if_pos rfl, hv]
    · rw [if_neg he]
      rcases h1 with h1 | ⟨rfl, rfl⟩
      · exact h.on j hj e h1 h2
      · exact absurd rfl he
  · unfold upd
    have := placeAt_end P X hi
    have := placeAt_ge P X i
    rw [if_neg (by omega)]
    exact h.rest k hk

theorem ColOn.put (h : ColOn f R P X D g) (hi : i < X.length) (hd : d < wordsO X[i]) {K : Nat} (hK : K = placeAt P X i + d) {v : Int} (hv : v = colAt f R P X X[i] d) : ColOn f R P X (fun j e => D j e ∨ (j = i ∧ e = d)) (upd g K v) := by rw [hK]; exact h.set hi hd hv

/-- All the words of an object at once. -/
theorem ColOn.obj (h : ColOn f R P X D g) (hi : i < X.length) {g' : Nat → Int} (hin : ∀ d, d < wordsO X[i] → g' (placeAt P X i + d) = colAt f R P X X[i] d) (hout : ∀ k, ¬ (placeAt P X i ≤ k ∧ k < placeAt P X i + wordsO X[i]) → g' k = g k) : ColOn f R P X (fun j e => D j e ∨ j = i) g' := by
  refine ⟨fun j hj e h1 h2 => ?_, fun k hk => ?_⟩
  · by_cases he : j = i
    · subst he; exact hin e h2
    · rw [hout _ (fun hq => he (place_apart (P := P) (d := e) (e := placeAt P X j + e - placeAt P X i) hj hi h2 (by omega) (by omega)).1)]
      rcases h1 with h1 | h1
      · exact h.on j hj e h1 h2
      · exact absurd h1 he
  · have := placeAt_end P X hi
    have := placeAt_ge P X i
    rw [hout k (by omega)]
    exact h.rest k hk

theorem headsAt_of {g : Nat → Int} : ∀ (X : List Ob) (P : Nat), (∀ (i : Nat) (hi : i < X.length), g (placeAt P X i) = packO X[i] ∧ g (placeAt P X i + 1) = X[i].h) → HeadsAt g P X
  | [], _, _ => trivial
  | x :: X, P, h => by
    have h0 := h 0 (by simp)
    rw [placeAt_zero] at h0
    refine ⟨h0.1, h0.2, headsAt_of X (P + wordsO x) fun i hi => ?_⟩
    have := h (i + 1) (by simpa using hi)
    rw [placeAt_succ] at this
    simpa using this

theorem isCol_of {L : List Ob} (h : ColOn f R P (objsO L R) (fun _ _ => True) g) : IsCol f L R P g := by
  refine ⟨headsAt_of _ _ fun i hi => ?_, fun i hi k hk => ?_, h.rest⟩
  · have hw := wordsO_two (objsO L R)[i]
    have h0 := h.on i hi 0 trivial (by omega)
    have h1 := h.on i hi 1 trivial (by omega)
    unfold colAt at h0 h1
    rw [if_pos rfl] at h0
    rw [if_neg (by omega), if_pos rfl] at h1
    exact ⟨h0, h1⟩
  · have h0 := h.on i hi (2 + k) trivial (by unfold wordsO; omega)
    unfold colAt at h0
    rw [if_neg (by omega), if_neg (by omega), show 2 + k - 2 = k by omega, ← Nat.add_assoc] at h0
    exact h0

/-- Two results are the same words. -/
theorem isCol_same {L : List Ob} {g' : Nat → Int} (h : IsCol f L R P g) (h' : IsCol f L R P g') : ∀ k, g k = g' k := by
  intro k
  by_cases hk : P ≤ k ∧ k < P + totO (objsO L R)
  · obtain ⟨j, hj, h1, h2⟩ := in_object _ _ _ hk.1 hk.2
    have e1 := headsAt_get _ _ h.heads j hj
    have e2 := headsAt_get _ _ h'.heads j hj
    obtain ⟨d, rfl⟩ : ∃ d, k = placeAt P (objsO L R) j + d := ⟨k - placeAt P (objsO L R) j, by omega⟩
    rcases (by omega : d = 0 ∨ d = 1 ∨ 2 ≤ d) with rfl | rfl | hd
    · exact e1.1.trans e2.1.symm
    · exact e1.2.trans e2.2.symm
    · have hw : wordsO (objsO L R)[j] = 2 + (objsO L R)[j].s.toNat := rfl
      have f1 := h.flds j hj (d - 2) (by omega)
      have f2 := h'.flds j hj (d - 2) (by omega)
      rw [show placeAt P (objsO L R) j + d = placeAt P (objsO L R) j + 2 + (d - 2) by omega, f1, f2]
  · rw [h.rest k hk, h'.rest k hk]

theorem colOn_zero : ColOn f R P X (fun _ _ => False) (fun _ => 0) := ⟨fun _ _ _ h => h.elim, fun _ _ => rfl⟩

theorem ColOn.congr {g' : Nat → Int} (h : ColOn f R P X D g) (e : ∀ k, g' k = g k) : ColOn f R P X D g' := ⟨fun j hj d h1 h2 => (e _).trans (h.on j hj d h1 h2), fun i hi => (e i).trans (h.rest i hi)⟩

end

theorem newPlaces_lf (P : Nat) (X : List Ob) {i : Nat} (hi : i < X.length) : lf (newPlaces P X) i = (placeAt P X i : Int) := newPlaces_get P X hi

theorem newPlaces_take (P : Nat) (X : List Ob) {i : Nat} (hi : i < X.length) : (newPlaces P X).take (i + 1) = (newPlaces P X).take i ++ [(placeAt P X i : Int)] := by
  rw [List.take_succ_eq_append_getElem (by rw [newPlaces_length]; exact hi), ← lf_at (by rw [newPlaces_length]; exact hi), newPlaces_lf P X hi]

theorem totO_take (X : List Ob) {i : Nat} (hi : i < X.length) : totO (X.take (i + 1)) = totO (X.take i) + wordsO X[i] := by
  have := placeAt_step 0 X hi
  unfold placeAt at this
  omega

theorem goes_num {R Q : List Int} {p : Int} {i : Nat} (h : numL R p = some i) : goes R Q p = Q.getD i 0 := by unfold goes; rw [h]; rfl
end Go.Proofs.YtnpklnpicelcmaaGreat

