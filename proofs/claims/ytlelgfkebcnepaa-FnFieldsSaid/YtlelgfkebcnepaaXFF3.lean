/- Texts merged: K21 to Q8. -/
import Derived.Test.YtlelgfkebcnepaaXFF2
import Derived.Deep.Slices
import Derived.Deep.LoopGhost
import Derived.Shelf.Abstract
import Derived.RangeFuncNested
import Derived.RangeFuncBound
import Derived.RangeFuncCalls
import Derived.RangeFuncLeaves
import Derived.Shelf.RegionOpen
import Derived.OwnWalkIn
import Derived.TacticsInMore
import Derived.LoopNIn
import Derived.LoopIn
namespace Go.Proofs.Ytlelgfkebcnepaa
open Go.RowKit
set_option linter.unusedVariables false

def RetMin (W : World) (x y : Int) (e : Ending) (w' : World) : Prop := (∃ z : Int, (z = x ∨ z = y) ∧ e = .returned (.int .i64 z)) ∧ W = w'

theorem min_any (x y : Int) (w : World) : Calls Try.prog 102 #[.int .i64 x, .int .i64 y] w (RetMin w x y) := by
  by_cases h : x < y
  · go_enter Try.func102, Try.ntmps102
    go_wp2
    go_ret
    exact ⟨⟨x, .inl rfl, rfl⟩, rfl⟩
  · go_enter Try.func102, Try.ntmps102
    go_wp2
    go_ret
    exact ⟨⟨y, .inr rfl, rfl⟩, rfl⟩

theorem upd_word {f : Nat → Int} (h : ∀ j, Word (f j)) (k : Nat) (v : Int) (hv : Word v) : ∀ j, Word (upd f k v j) := fun j => by
  unfold upd; split
  · exact hv
  · exact h j

/-- How many fields the objects from a place on have. -/
def tot (M : List OM) (i : Nat) : Nat := ((M.drop i).map (fun t => t.x.s.toNat)).sum

theorem tot_step {M : List OM} {i : Nat} {t : OM} (h : M[i]? = some t) : tot M i = t.x.s.toNat + tot M (i + 1) := by
  obtain ⟨hi, he⟩ := List.getElem?_eq_some_iff.mp h
  unfold tot
  rw [List.drop_eq_getElem_cons hi, he]; simp

theorem parse_tot {f : Nat → Int} {e : Nat} : ∀ (d a : Nat) (L : List Ob), e - a ≤ d → parse f e a = some L → (L.map (fun x => x.s.toNat)).sum ≤ e - a
  | 0, a, L, hd, hp => by
    rw [parse_stop (by omega)] at hp
    cases hp; simp
  | d + 1, a, L, hd, hp => by
    by_cases h : a < e
    · by_cases hg : Good f e a
      · rw [parse_good h hg] at hp
        obtain ⟨L', hp', rfl⟩ := Option.map_eq_some_iff.mp hp
        have ih := parse_tot d _ L' (by omega) hp'
        have h2 := hg.2.2
        simp only [List.map_cons, List.sum_cons, objAt]
        unfold szOf at h2 ih
        omega
      · rw [parse_bad h hg] at hp; cases hp
    · rw [parse_stop h] at hp
      cases hp; simp

theorem tot_zero {f : Nat → Int} {e a : Nat} {M : List OM} (hp : parse f e a = some (M.map OM.x)) : tot M 0 ≤ e - a := by
  have := parse_tot (e - a) a _ (Nat.le_refl _) hp
  simp only [List.map_map] at this
  unfold tot
  simp only [List.drop_zero]
  exact this

theorem ownsRow_keeps {w w' : World} {base e size n lo hi : Nat} {v : Value} {xs : List Value} (h : w.ownsRow base e size v n xs) (hk : Keeps w w' lo hi) (hb : hi ≤ base) : w'.ownsRow base e size v n xs := by
  refine ⟨h.1, ?_⟩
  rcases h.2 with h0 | ⟨g, cap, cur, h1, h2, h3, h4⟩
  · exact .inl h0
  · have hg : g < w.heap.size := by
      rcases Nat.lt_or_ge g w.heap.size with hlt | hge
      · exact hlt
      · rw [Array.getElem?_eq_none hge] at h3; cases h3
    exact .inr ⟨g, cap, cur, h1, h2, (hk.block g hg (.inr (by omega))).trans h3, h4⟩

theorem row_six {w : World} {base gq cq i : Nat} {M : List OM} {ti : OM} (h : w.ownsRow base 42 6 (.slice (some ⟨gq, 0, none⟩) M.length cq) M.length (rowCells M)) (hi : M[i]? = some ti) : Six w gq (i * 6) ti.x ti.g ti.c ∧ gq < w.heap.size := by
  have h0 : 0 < M.length := by have := (List.getElem?_eq_some_iff.mp hi).1; omega
  obtain ⟨gq', cq', e1, _, lk, ok⟩ := row_form h h0
  simp only [Value.slice.injEq, Option.some.injEq, Addr.mk.injEq, and_true] at e1
  obtain ⟨rfl, -, rfl⟩ := e1
  exact ⟨(ok i ti hi).six, lk⟩

theorem keeps_under {w wr w' : World} {lo hi B : Nat} (h : Keeps w wr lo hi) (hb : Below B wr w') (hB : w.heap.size ≤ B) : Keeps w w' lo hi :=
  ⟨hb.os.trans h.os, hb.tape.trans h.tape, hb.output.trans h.output, Nat.le_trans h.size hb.size, fun k hk hd => (hb.block k (by omega)).trans (h.block k hk hd)⟩

theorem own_in {w : World} {lo hi ub uo n : Nat} {f : Nat → Int} (h : Own w lo (some ⟨ub, uo, none⟩) n f) (hh : ub < hi) : OwnIn w lo hi (some ⟨ub, uo, none⟩) n f := by
  rcases h with h0 | ⟨b', o', he, h1, h2, h3⟩
  · exact .inl h0
  · cases he
    exact .inr ⟨ub, uo, rfl, ⟨h1, hh⟩, h2, h3⟩

theorem srcB_under {w w' : World} {S D : Nat} {a : Option Addr} {k : Nat} {B : Nat → Int} (h : SrcB w S a k B) (hb : Below D w w') (hS : S ≤ D) : SrcB w' S a k B := by
  rcases h with h | ⟨b, off, h1, h2, h3, h4⟩
  · exact .inl h
  · have e := hb.block b (by omega)
    exact .inr ⟨b, off, h1, h2, Nat.lt_of_lt_of_le h3 hb.size, fun i hi => ⟨(World.cell?_of_block (w := w) (a := ⟨b, off + i, none⟩) e).trans (h4 i hi).1, (h4 i hi).2⟩⟩

def RetDraw3 (W : World) (b : Nat) (ca : Option Addr) (k kc t : Nat) (e : Ending) (w' : World) : Prop :=
  ∃ (m c t' : Nat) (a : Option Addr) (f : Nat → Int) (ac bu : Int), (12 ≤ m ∧ m ≤ 60 ∧ 0 ≤ ac ∧ ac ≤ 1 ∧ 0 ≤ bu ∧ bu ≤ (m : Int)) ∧ e = .returned (.agg #[.int .i64 (m : Int), .slice a (2 * m) c, .int .i64 ac, .int .i64 bu]) ∧ OwnIn w' W.heap.size w'.heap.size a (2 * m) f ∧
    Blk w' b [.slice ca k kc, .int .i64 (t' : Int)] ∧ t' ≤ t + 300 ∧ Keeps W w' b (b + 1) ∧ 2 * m ≤ c ∧ c ≤ maxLen

set_option maxRecDepth 100000 in
set_option maxHeartbeats 3200000 in
theorem draw3_any (b S : Nat) (ca : Option Addr) (k kc t : Nat) (B : Nat → Int) (w : World) (hB0 : Blk w b [.slice ca k kc, .int .i64 (t : Int)]) (hs : SrcB w S ca k B) (hS : S ≤ b) (hk0 : k ≤ 1048576) (ht : t ≤ 30) :
    Calls Try.prog 99 #[.pointer (some ⟨b, 0, none⟩)] w (RetDraw3 w b ca k kc t) := by
  have hbw := hB0.1
  have S_0 := Lib.hid hB0
  have B_0 := Lib.hid hs
  clear hB0 hs
  go_enter Try.func99, Try.ntmps99
  go_wp2_with fail
  refine (of_any [12, 24, 40, 60] b S _ ca k kc t 4 B _ _ (S_0.out.alloc _) (B_0.out.alloc _) hS hk0 (by omega) rfl (by simp) (by simp) rfl (by simp)).mono ?_
  rintro e w1 ⟨v, rfl, hv, hB, hk⟩
  obtain ⟨m, rfl, hm⟩ : ∃ m : Nat, v = (m : Int) ∧ (m = 12 ∨ m = 24 ∨ m = 40 ∨ m = 60) := by
    simp only [List.mem_cons, List.not_mem_nil, or_false] at hv
    rcases hv with rfl | rfl | rfl | rfl
    · exact ⟨12, rfl, by omega⟩
    · exact ⟨24, rfl, by omega⟩
    · exact ⟨40, rfl, by omega⟩
    · exact ⟨60, rfl, by omega⟩
  have hm1 : m ≤ 60 := by omega
  have hm2 : 12 ≤ m := by omega
  clear hv
  have HK_1 : Hid (Keeps w w1 b (b + 1)) := (((Keeps.refl w b (b + 1)).alloc _).alloc _).trans hk
  have z1 : w.heap.size + 2 ≤ w1.heap.size := by have := hk.size; simp at this; omega
  have S_1 := Lib.hid (src_cast hB)
  have B_1 := Lib.hid (((B_0.out.alloc _).alloc _).keeps hk hS)
  have R_1 := Lib.hid (((Blk.new_at (w.heap.size) (by simp)).alloc _).keeps hk (by omega))
  clear hk hB S_0 B_0
  go_wp2_with fail
  refine (l1New_any m _ (by omega)).mono ?_
  rintro e w2 ⟨u, cu, rfl, ho, hb, hcu, hcm, hnu⟩
  have hk := keeps_of_below hb b (b + 1)
  have HK_2 : Hid (Keeps w w2 b (b + 1)) := HK_1.out.trans hk
  have z2 : w1.heap.size ≤ w2.heap.size := hk.size
  have S_2 := Lib.hid (S_1.out.below hb)
  have B_2 := Lib.hid (B_1.out.below hb)
  have R_2 := Lib.hid (R_1.out.below hb)
  have RW_2 : Hid (OwnIn w2 w1.heap.size w2.heap.size u (2 * m) (fun _ => 0)) := ho.into
  clear hk hb HK_1 S_1 B_1 R_1 ho
  go_wp2_with fail
  refine (next_is _ b S ca k kc (t + 1) 2 B _ rfl (S_2.out.alloc _) (B_2.out.alloc _) hS hk0 (by omega) (by omega) (by omega)).mono ?_
  rintro e w3 ⟨v3, rfl, hv3, hB, hk⟩
  have HK_3 : Hid (Keeps w w3 b (b + 1)) := (HK_2.out.alloc _).trans hk
  have z3 : w2.heap.size + 1 ≤ w3.heap.size := by have := hk.size; simp at this; omega
  have S_3 := Lib.hid (src_cast hB)
  have B_3 := Lib.hid ((B_2.out.alloc _).keeps hk hS)
  have R_3 := Lib.hid ((R_2.out.alloc _).keeps hk (by omega))
  have RW_3 := Lib.hid ((RW_2.out.alloc _).keeps hk (by omega))
  have T_3 := Lib.hid ((Blk.new_at (w2.heap.size) (by simp)).keeps hk (by omega))
  clear hk hB HK_2 S_2 B_2 R_2 RW_2
  have lT := T_3.out.1
  have cT0 := T_3.out.at 0 rfl
  have fT0 := T_3.out.free 0 rfl
  have cT1 := T_3.out.at 1 rfl
  have fT1 := T_3.out.free 1 rfl
  have cT2 := T_3.out.at 2 rfl
  have fT2 := T_3.out.free 2 rfl
  have cT3 := T_3.out.at 3 rfl
  have fT3 := T_3.out.free 3 rfl
  go_upto_region 3 with (fail)
  have S_4 : Hid (Blk (w3.setCell ⟨w2.heap.size, 2, none⟩ (.int .i64 (v3 : Int))) b [.slice ca k kc, .int .i64 ((t + 1 + 1 : Nat) : Int)]) := S_3.out.other (by (try simp); (try omega)) _
  have B_4 : Hid (SrcB (w3.setCell ⟨w2.heap.size, 2, none⟩ (.int .i64 (v3 : Int))) S ca k B) := B_3.out.setCell (by (try simp); (try omega)) _
  have R_4 : Hid (Blk (w3.setCell ⟨w2.heap.size, 2, none⟩ (.int .i64 (v3 : Int))) w.heap.size [.int .i64 0, .slice none 0 0, .int .i64 0, .int .i64 0]) := R_3.out.other (by (try simp); (try omega)) _
  have T_4 : Hid (Blk (w3.setCell ⟨w2.heap.size, 2, none⟩ (.int .i64 (v3 : Int))) w2.heap.size [.int .i64 (m : Int), .slice u (2 * m) cu, .int .i64 (v3 : Int), .int .i64 0]) := T_3.out.set 2 (by simp) _
  have RW_4 : Hid (OwnIn (w3.setCell ⟨w2.heap.size, 2, none⟩ (.int .i64 (v3 : Int))) w1.heap.size w2.heap.size u (2 * m) (fun _ => 0)) := RW_3.out.setCell (by (try simp); (try omega)) _
  have HK_4 : Hid (Keeps w (w3.setCell ⟨w2.heap.size, 2, none⟩ (.int .i64 (v3 : Int))) b (b + 1)) := HK_3.out.setNew (by (try simp); (try omega)) _
  have z4 : w3.heap.size ≤ (w3.setCell ⟨w2.heap.size, 2, none⟩ (.int .i64 (v3 : Int))).heap.size := by simp
  clear HK_3 S_3 B_3 R_3 RW_3 T_3 lT cT0 fT0 cT1 fT1 cT2 fT2 cT3 fT3
  generalize w3.setCell ⟨w2.heap.size, 2, none⟩ (.int .i64 (v3 : Int)) = w4 at *
  go_wp2_with fail
  refine (next_is _ b S ca k kc (t + 1 + 1) 9 B _ rfl S_4.out B_4.out hS hk0 (by omega) (by omega) (by omega)).mono ?_
  rintro e w5 ⟨v5, rfl, hv5, hB, hk⟩
  have HK_5 : Hid (Keeps w w5 b (b + 1)) := HK_4.out.trans hk
  have z5 : w4.heap.size ≤ w5.heap.size := hk.size
  have S_5 := Lib.hid (src_cast hB)
  have B_5 := Lib.hid (B_4.out.keeps hk hS)
  have R_5 := Lib.hid (R_4.out.keeps hk (by omega))
  have T_5 := Lib.hid (T_4.out.keeps hk (by omega))
  have RW_5 := Lib.hid (RW_4.out.keeps hk (by omega))
  clear hk hB S_4 B_4 R_4 T_4 RW_4 HK_4
  obtain ⟨ub, uo, rfl, hub, hubw, _⟩ := ownIn_some RW_5.out (by omega)
  have hub1 := hub.1; have hub2 := hub.2
  clear hub
  go_wp2
  go_loopw [4] (fun q wr => ∃ (i t' U : Nat) (f : Nat → Int), i ≤ 8 ∧ q = .int .i64 (i : Int) ∧ t' + 7 * i ≤ t + 60 ∧ U ≤ m ∧ w5.heap.size ≤ wr.heap.size ∧ (∀ j, Word (f j)) ∧ Hid (Blk wr b [.slice ca k kc, .int .i64 ((t' : Nat) : Int)]) ∧ Hid (SrcB wr S ca k B) ∧ Hid (Blk wr w.heap.size [.int .i64 0, .slice none 0 0, .int .i64 0, .int .i64 0]) ∧ Hid (Blk wr w2.heap.size [.int .i64 (m : Int), .slice (some ⟨ub, uo, none⟩) (2 * m) cu, .int .i64 (v3 : Int), .int .i64 (U : Int)]) ∧ Hid (OwnIn wr w1.heap.size w2.heap.size (some ⟨ub, uo, none⟩) (2 * m) f) ∧ Hid (Keeps w wr b (b + 1))) (fun q _ => (intOf q).toNat)
  case atStart => exact ⟨v5, _, 0, _, by omega, rfl, by omega, by omega, Nat.le_refl _, (fun j => (show Word 0 by unfold Word; omega)), S_5, B_5, R_5, T_5, RW_5, HK_5⟩
  case round =>
    obtain ⟨i, t', U, f, hi, rfl, ht', hU, zr, hf, S_r, B_r, R_r, T_r, RW_r, HK_r⟩ := hrel
    have HF := Lib.hid hf
    clear hf S_5 B_5 R_5 T_5 RW_5 HK_5
    by_cases h0 : 0 < i
    · have h0' : (0 : Int) < (i : Int) := by omega
      go_wp2_with fail
      refine (l2Draw_any b S ca k kc t' B _ S_r.out B_r.out hS hk0 (by omega)).mono ?_
      rintro e w8 ⟨s, mm, o, hh, rfl, hok, hB, hk⟩
      have z8 : wr.heap.size ≤ w8.heap.size := hk.size
      have S_8 := Lib.hid hB; have B_8 := Lib.hid (B_r.out.keeps hk hS); have R_8 := Lib.hid (R_r.out.keeps hk (by omega)); have T_8 := Lib.hid (T_r.out.keeps hk (by omega)); have RW_8 := Lib.hid (RW_r.out.keeps hk (by omega)); have HK_8 := Lib.hid (HK_r.out.trans hk)
      have HOK := Lib.hid hok
      obtain ⟨⟨hs0, hs12⟩, _, _, hh0, hh1⟩ := hok
      clear hB hk S_r B_r R_r T_r RW_r HK_r
      go_upto_region 7 with (fail)
      have S_9 := Lib.hid (S_8.out.alloc (.cells #[.int .i64 s, .int .i64 mm, .int .i64 o, .int .i64 hh] 28)); have B_9 := Lib.hid (B_8.out.alloc (.cells #[.int .i64 s, .int .i64 mm, .int .i64 o, .int .i64 hh] 28)); have R_9 := Lib.hid (R_8.out.alloc (.cells #[.int .i64 s, .int .i64 mm, .int .i64 o, .int .i64 hh] 28)); have T_9 := Lib.hid (T_8.out.alloc (.cells #[.int .i64 s, .int .i64 mm, .int .i64 o, .int .i64 hh] 28)); have RW_9 := Lib.hid (RW_8.out.alloc (.cells #[.int .i64 s, .int .i64 mm, .int .i64 o, .int .i64 hh] 28)); have HK_9 := Lib.hid (HK_8.out.alloc (.cells #[.int .i64 s, .int .i64 mm, .int .i64 o, .int .i64 hh] 28))
      have H_9 : Hid (Blk (w8.alloc (.cells #[.int .i64 s, .int .i64 mm, .int .i64 o, .int .i64 hh] 28)) w8.heap.size [.int .i64 s, .int .i64 mm, .int .i64 o, .int .i64 hh]) := Lib.hid (Blk.new_at (w := w8) (w8.heap.size) rfl)
      have z9 : w8.heap.size + 1 ≤ (w8.alloc (.cells #[.int .i64 s, .int .i64 mm, .int .i64 o, .int .i64 hh] 28)).heap.size := by simp
      clear S_8 B_8 R_8 T_8 RW_8 HK_8
      generalize (w8.alloc (.cells #[.int .i64 s, .int .i64 mm, .int .i64 o, .int .i64 hh] 28)) = w9 at *
      go_cut [5] (fun s5 wx => s5 = .pointer (some ⟨w8.heap.size, 0, none⟩) ∧ w9.heap.size ≤ wx.heap.size ∧ ∃ X : Nat, X ≤ 12 ∧ Hid (Blk wx w8.heap.size [.int .i64 (X : Int), .int .i64 mm, .int .i64 o, .int .i64 hh]) ∧ Hid (Blk wx b [.slice ca k kc, .int .i64 ((t' + 1 + 1 + 1 + 1 + 1 : Nat) : Int)]) ∧ Hid (SrcB wx S ca k B) ∧ Hid (Blk wx w.heap.size [.int .i64 0, .slice none 0 0, .int .i64 0, .int .i64 0]) ∧ Hid (Blk wx w2.heap.size [.int .i64 (m : Int), .slice (some ⟨ub, uo, none⟩) (2 * m) cu, .int .i64 (v3 : Int), .int .i64 (U : Int)]) ∧ Hid (OwnIn wx w1.heap.size w2.heap.size (some ⟨ub, uo, none⟩) (2 * m) f) ∧ Hid (Keeps w wx b (b + 1)))
      case first =>
        have cH0 := H_9.out.at 0 rfl; have fH0 := H_9.out.free 0 rfl; have lH := H_9.out.1
        go_region_law (first | (go_simp; go_at_call 76; refine (of_drew [1, 2, 3] b S _ ca k kc (t' + 1 + 1 + 1 + 1) 3 B _ w9 S_9.out.drew B_9.out.drew hS hk0 (by omega) rfl (by simp) (by simp) rfl (by simp)).mono ?_; rintro e w10 ⟨x, rfl, mx, hB, hk⟩; have hx : 1 ≤ x ∧ x ≤ 3 := (by simp only [List.mem_cons, List.mem_nil_iff, or_false] at mx; omega); have z10 : w9.heap.size + 1 ≤ w10.heap.size := (by have := hk.size; simp at this; omega); have S_10 := Lib.hid (src_cast hB); have B_10 := Lib.hid ((B_9.out.drew.alloc _).keeps hk hS); have R_10 := Lib.hid ((R_9.out.drew.alloc _).keeps hk (by omega)); have T_10 := Lib.hid ((T_9.out.drew.alloc _).keeps hk (by omega)); have RW_10 := Lib.hid ((RW_9.out.drew.alloc _).keeps hk (by omega)); have H_10 := Lib.hid ((H_9.out.drew.alloc _).keeps hk (by omega)); have HK_10 := Lib.hid (((HK_9.out.trans (keeps_of_below (Below.refl _ _).drew _ _)).alloc _).trans hk); have gH0 := H_10.out.at 0 rfl; have gF0 := H_10.out.free 0 rfl; have gL := H_10.out.1; clear mx hB hk) | (go_at_call 76; refine (of_drew [1, 2, 3] b S _ ca k kc (t' + 1 + 1 + 1 + 1) 3 B _ w9 S_9.out.drew B_9.out.drew hS hk0 (by omega) rfl (by simp) (by simp) rfl (by simp)).mono ?_; rintro e w10 ⟨x, rfl, mx, hB, hk⟩; have hx : 1 ≤ x ∧ x ≤ 3 := (by simp only [List.mem_cons, List.mem_nil_iff, or_false] at mx; omega); have z10 : w9.heap.size + 1 ≤ w10.heap.size := (by have := hk.size; simp at this; omega); have S_10 := Lib.hid (src_cast hB); have B_10 := Lib.hid ((B_9.out.drew.alloc _).keeps hk hS); have R_10 := Lib.hid ((R_9.out.drew.alloc _).keeps hk (by omega)); have T_10 := Lib.hid ((T_9.out.drew.alloc _).keeps hk (by omega)); have RW_10 := Lib.hid ((RW_9.out.drew.alloc _).keeps hk (by omega)); have H_10 := Lib.hid ((H_9.out.drew.alloc _).keeps hk (by omega)); have HK_10 := Lib.hid (((HK_9.out.trans (keeps_of_below (Below.refl _ _).drew _ _)).alloc _).trans hk); have gH0 := H_10.out.at 0 rfl; have gF0 := H_10.out.free 0 rfl; have gL := H_10.out.1; clear mx hB hk) | (go_simp; go_at_call 102; refine (min_any s x _).mono ?_; rintro e w' ⟨⟨z, hz, rfl⟩, rfl⟩) | (go_at_call 102; refine (min_any s x _).mono ?_; rintro e w' ⟨⟨z, hz, rfl⟩, rfl⟩))
        all_goals (obtain ⟨X, rfl⟩ : ∃ X : Nat, z = X := ⟨z.toNat, by omega⟩; go_wp2_with fail; go_meet; exact ⟨rfl, by (try simp); omega, X, by omega, H_10.out.set 0 (by simp) _, S_10.out.other (by (try simp); (try omega)) _, B_10.out.setCell (by (try simp); (try omega)) _, R_10.out.other (by (try simp); (try omega)) _, T_10.out.other (by (try simp); (try omega)) _, RW_10.out.setCell (by (try simp); (try omega)) _, HK_10.out.setNew (by (try simp); (try omega)) _⟩)
      case rest =>
        obtain ⟨rfl, z11, X, hX, H_11, S_11, B_11, R_11, T_11, RW_11, HK_11⟩ := hcut
        clear S_9 B_9 R_9 T_9 RW_9 HK_9 H_9
        rename World => w11
        have lH := H_11.out.1; have cH0 := H_11.out.at 0 rfl; have fH0 := H_11.out.free 0 rfl; have cH1 := H_11.out.at 1 rfl; have fH1 := H_11.out.free 1 rfl; have cH2 := H_11.out.at 2 rfl; have fH2 := H_11.out.free 2 rfl; have cH3 := H_11.out.at 3 rfl; have fH3 := H_11.out.free 3 rfl
        go_wp2_with fail
        (with_reducible refine (power_any X _ hX).mono ?_)
        rintro e w' ⟨rfl, rfl⟩
        have hp1 : 1 ≤ 2 ^ X := Nat.one_le_two_pow
        have hp2 : 2 ^ X ≤ 4096 := (Nat.pow_le_pow_right (n := 2) (by omega) hX)
        have HP2 := Lib.hid (P2_nat X)
        go_wp2_with fail
        refine (next_is (P2 (X : Int)) b S ca k kc (t' + 1 + 1 + 1 + 1 + 1) (2 ^ X) B _ HP2.out S_11.out B_11.out hS hk0 (by omega) hp1 (by omega)).mono ?_
        rintro e w12 ⟨v12, rfl, hv12, hB, hk⟩
        have z12 : w11.heap.size ≤ w12.heap.size := hk.size
        have S_12 := Lib.hid (src_cast hB); have B_12 := Lib.hid (B_11.out.keeps hk hS); have HK_12 := Lib.hid (HK_11.out.trans hk); have R_12 := Lib.hid (R_11.out.keeps hk (by omega)); have T_12 := Lib.hid (T_11.out.keeps hk (by omega)); have RW_12 := Lib.hid (RW_11.out.keeps hk (by omega)); have H_12 := Lib.hid (H_11.out.keeps hk (by omega))
        clear hk hB S_11 B_11 R_11 T_11 RW_11 HK_11 H_11 lH cH0 fH0 cH1 fH1 cH2 fH2 cH3 fH3
        have lH := H_12.out.1; have cH0 := H_12.out.at 0 rfl; have fH0 := H_12.out.free 0 rfl; have cH1 := H_12.out.at 1 rfl; have fH1 := H_12.out.free 1 rfl; have cH2 := H_12.out.at 2 rfl; have fH2 := H_12.out.free 2 rfl; have cH3 := H_12.out.at 3 rfl; have fH3 := H_12.out.free 3 rfl
        go_upto_region 9 with (fail)
        have S_13 := Lib.hid (S_12.out.other (p := ⟨w8.heap.size, 1, none⟩) (by (try simp); (try omega)) (.int .i64 (v12 : Int))); have B_13 := Lib.hid (B_12.out.setCell (p := ⟨w8.heap.size, 1, none⟩) (by (try simp); (try omega)) (.int .i64 (v12 : Int))); have R_13 := Lib.hid (R_12.out.other (p := ⟨w8.heap.size, 1, none⟩) (by (try simp); (try omega)) (.int .i64 (v12 : Int))); have T_13 := Lib.hid (T_12.out.other (p := ⟨w8.heap.size, 1, none⟩) (by (try simp); (try omega)) (.int .i64 (v12 : Int))); have RW_13 := Lib.hid (RW_12.out.setCell (p := ⟨w8.heap.size, 1, none⟩) (by (try simp); (try omega)) (.int .i64 (v12 : Int))); have HK_13 := Lib.hid (HK_12.out.setNew (p := ⟨w8.heap.size, 1, none⟩) (by (try simp); (try omega)) (.int .i64 (v12 : Int)))
        have H_13 : Hid (Blk (w12.setCell ⟨w8.heap.size, 1, none⟩ (.int .i64 (v12 : Int))) w8.heap.size [.int .i64 (X : Int), .int .i64 (v12 : Int), .int .i64 o, .int .i64 hh]) := Lib.hid (H_12.out.set 1 (by simp) _)
        have z13 : w12.heap.size ≤ (w12.setCell ⟨w8.heap.size, 1, none⟩ (.int .i64 (v12 : Int))).heap.size := by simp
        clear S_12 B_12 R_12 T_12 RW_12 HK_12 H_12 lH cH0 fH0 cH1 fH1 cH2 fH2 cH3 fH3
        generalize (w12.setCell ⟨w8.heap.size, 1, none⟩ (.int .i64 (v12 : Int))) = w13 at *
        have lH := H_13.out.1; have cH0 := H_13.out.at 0 rfl; have fH0 := H_13.out.free 0 rfl; have cH1 := H_13.out.at 1 rfl; have fH1 := H_13.out.free 1 rfl; have cH2 := H_13.out.at 2 rfl; have fH2 := H_13.out.free 2 rfl; have cH3 := H_13.out.at 3 rfl; have fH3 := H_13.out.free 3 rfl
        go_wp2_with fail
        refine (next_is 2 b S ca k kc (t' + 1 + 1 + 1 + 1 + 1 + 1) 2 B _ rfl S_13.out B_13.out hS hk0 (by omega) (by omega) (by omega)).mono ?_
        rintro e w14 ⟨v14, rfl, hv14, hB, hk⟩
        have z14 : w13.heap.size ≤ w14.heap.size := hk.size
        have S_14 := Lib.hid (src_cast hB); have B_14 := Lib.hid (B_13.out.keeps hk hS); have HK_14 := Lib.hid (HK_13.out.trans hk); have R_14 := Lib.hid (R_13.out.keeps hk (by omega)); have T_14 := Lib.hid (T_13.out.keeps hk (by omega)); have RW_14 := Lib.hid (RW_13.out.keeps hk (by omega)); have H_14 := Lib.hid (H_13.out.keeps hk (by omega))
        clear hk hB S_13 B_13 R_13 T_13 RW_13 HK_13 H_13 lH cH0 fH0 cH1 fH1 cH2 fH2 cH3 fH3
        have lH := H_14.out.1; have cH0 := H_14.out.at 0 rfl; have fH0 := H_14.out.free 0 rfl; have cH1 := H_14.out.at 1 rfl; have fH1 := H_14.out.free 1 rfl; have cH2 := H_14.out.at 2 rfl; have fH2 := H_14.out.free 2 rfl; have cH3 := H_14.out.at 3 rfl; have fH3 := H_14.out.free 3 rfl
        go_upto_region 10 with (fail)
        have S_15 := Lib.hid (S_14.out.other (p := ⟨w8.heap.size, 2, none⟩) (by (try simp); (try omega)) (.int .i64 (v14 : Int))); have B_15 := Lib.hid (B_14.out.setCell (p := ⟨w8.heap.size, 2, none⟩) (by (try simp); (try omega)) (.int .i64 (v14 : Int))); have R_15 := Lib.hid (R_14.out.other (p := ⟨w8.heap.size, 2, none⟩) (by (try simp); (try omega)) (.int .i64 (v14 : Int))); have T_15 := Lib.hid (T_14.out.other (p := ⟨w8.heap.size, 2, none⟩) (by (try simp); (try omega)) (.int .i64 (v14 : Int))); have RW_15 := Lib.hid (RW_14.out.setCell (p := ⟨w8.heap.size, 2, none⟩) (by (try simp); (try omega)) (.int .i64 (v14 : Int))); have HK_15 := Lib.hid (HK_14.out.setNew (p := ⟨w8.heap.size, 2, none⟩) (by (try simp); (try omega)) (.int .i64 (v14 : Int)))
        have H_15 : Hid (Blk (w14.setCell ⟨w8.heap.size, 2, none⟩ (.int .i64 (v14 : Int))) w8.heap.size [.int .i64 (X : Int), .int .i64 (v12 : Int), .int .i64 (v14 : Int), .int .i64 hh]) := Lib.hid (H_14.out.set 2 (by simp) _)
        have z15 : w14.heap.size ≤ (w14.setCell ⟨w8.heap.size, 2, none⟩ (.int .i64 (v14 : Int))).heap.size := by simp
        clear S_14 B_14 R_14 T_14 RW_14 HK_14 H_14 lH cH0 fH0 cH1 fH1 cH2 fH2 cH3 fH3
        generalize (w14.setCell ⟨w8.heap.size, 2, none⟩ (.int .i64 (v14 : Int))) = w15 at *
        have T_d := Lib.hid T_15.out.drew; have H_d := Lib.hid H_15.out.drew; have RW_d := Lib.hid RW_15.out.drew; have S_d := Lib.hid S_15.out.drew; have B_d := Lib.hid B_15.out.drew; have R_d := Lib.hid R_15.out.drew; have HK_d := Lib.hid (HK_15.out.trans (keeps_of_below (Below.refl _ _).drew _ _))
        have lT := T_15.out.1; have lH := H_15.out.1
        have HXB := Lib.hid (show 0 ≤ (X : Int) ∧ (X : Int) ≤ 12 from ⟨by omega, by omega⟩)
        have hwS : IntKind.i64.wrap ((U : Int) + ((X : Int) + 2)) = (U : Int) + ((X : Int) + 2) := IntWalk.i64_in _ (by omega)
        have hze : w8.heap.size ≤ w15.heap.size := by omega
        obtain ⟨P, hP⟩ : ∃ P : Nat, baseI (v3 : Int) (m : Int) = (P : Int) := ⟨(baseI (v3 : Int) (m : Int)).toNat, by have := baseI_bd (ac := (v3 : Int)) (h := (m : Int)) (by omega); omega⟩
        have hPm : P ≤ m := by have := baseI_bd (ac := (v3 : Int)) (h := (m : Int)) (by omega); omega
        have HPH := Lib.hid hP
        clear hP
        by_cases hroom : U + (X + 2) ≤ m
        · have hr1 : (U : Int) + ((X : Int) + 2) ≤ (m : Int) := by omega
          go_wp2_with fail
          go_region_held3 (fun w' => w'.cell? ⟨w2.heap.size, 0, none⟩ = some (.int .i64 (m : Int)) ∧ w'.cell? ⟨w2.heap.size, 3, none⟩ = some (.int .i64 (U : Int)))
            (first | (with_reducible exact ⟨T_15.out.at 0 rfl, T_15.out.at 3 rfl⟩) | (with_reducible exact ⟨T_d.out.at 0 rfl, T_d.out.at 3 rfl⟩))
            (first | (go_at_call 65; refine (l2Words_any w8.heap.size (X : Int) (v12 : Int) (v14 : Int) hh _ H_d.out HXB.out).mono ?_; rintro e w' ⟨rfl, rfl⟩))
          go_wp2_with fail
          refine (l3Put_any w1.heap.size w2.heap.size w8.heap.size ub uo P U (P + U) (m : Int) (v3 : Int) (X : Int) (v12 : Int) (v14 : Int) hh (2 * m) cu f _ ⟨by omega, hub1, by omega, by omega, by omega⟩ (by (try simp); omega) (by (try simp); omega) T_d.out H_d.out RW_d.out.out (by omega) (by omega) (by omega) (by omega) HPH.out (by omega) rfl (by omega) ⟨HXB.out, ⟨by omega, by have := HP2.out; omega⟩, ⟨by omega, by omega⟩, by omega, by omega⟩).mono ?_
          rintro e w16 ⟨rfl, hT, ho, hb⟩
          have z16 : w15.heap.size ≤ w16.heap.size := by have := hb.size; simpa using this
          have S_16 := Lib.hid (blk_under S_d.out hb (by omega)); have B_16 := Lib.hid (srcB_under B_d.out hb (by omega)); have R_16 := Lib.hid (blk_under R_d.out hb (by omega)); have HK_16 := Lib.hid (keeps_under HK_d.out hb (by omega)); have RW_16 := Lib.hid (own_in ho hub2)
          have T_16 : Hid (Blk w16 w2.heap.size [.int .i64 (m : Int), .slice (some ⟨ub, uo, none⟩) (2 * m) cu, .int .i64 (v3 : Int), .int .i64 ((U + (X + 2) : Nat) : Int)]) := Lib.hid (by rw [show ((U + (X + 2) : Nat) : Int) = (U : Int) + ((X : Int) + 2) from by omega]; exact hT)
          have HF' := Lib.hid (upd_word (upd_word HF.out (P + U) (1 + 2 * ((X : Int) + 16 * ((v12 : Int) + 4096 * (v14 : Int)))) (by unfold Word; omega)) (P + U + 1) hh (by unfold Word; omega))
          clear hT ho hb hwS
          go_wp2
          go_roundw
          case rel => exact ⟨i - 1, t' + 1 + 1 + 1 + 1 + 1 + 1 + 1, U + (X + 2), _, by omega, by go_num, by omega, by omega, by omega, HF'.out, S_16, B_16, R_16, T_16, RW_16, HK_16⟩
          case measure => simp [intOf]; omega
        · have hr1 : ¬ (U : Int) + ((X : Int) + 2) ≤ (m : Int) := by omega
          go_wp2_with fail
          go_region_held3 (fun w' => w'.cell? ⟨w2.heap.size, 0, none⟩ = some (.int .i64 (m : Int)) ∧ w'.cell? ⟨w2.heap.size, 3, none⟩ = some (.int .i64 (U : Int)))
            (first | (with_reducible exact ⟨T_15.out.at 0 rfl, T_15.out.at 3 rfl⟩) | (with_reducible exact ⟨T_d.out.at 0 rfl, T_d.out.at 3 rfl⟩))
            (first | (go_at_call 65; refine (l2Words_any w8.heap.size (X : Int) (v12 : Int) (v14 : Int) hh _ H_d.out HXB.out).mono ?_; rintro e w' ⟨rfl, rfl⟩))
          go_wp2
          go_roundw
          case rel => exact ⟨i - 1, t' + 1 + 1 + 1 + 1 + 1 + 1 + 1, U, f, by omega, by go_num, by omega, by omega, by (try simp); omega, HF.out, S_d, B_d, R_d, T_d, RW_d, HK_d⟩
          case measure => simp [intOf]; omega
    · obtain rfl : i = 0 := by omega
      obtain ⟨P, hP⟩ : ∃ P : Nat, baseI (v3 : Int) (m : Int) = (P : Int) := ⟨(baseI (v3 : Int) (m : Int)).toNat, by have := baseI_bd (ac := (v3 : Int)) (h := (m : Int)) (by omega); omega⟩
      have hPm : P ≤ m := by have := baseI_bd (ac := (v3 : Int)) (h := (m : Int)) (by omega); omega
      have HPH := Lib.hid hP
      clear hP
      have HWD : Hid (∀ j, j < 2 * m → f j ≤ 9223372036854775807) := Lib.hid (fun j _ => by have := HF.out j; unfold Word at this; omega)
      have HCM := Lib.hid hcm
      go_wp2_with fail
      refine (l3Objects_any w2.heap.size P U (m : Int) (v3 : Int) ub uo (2 * m) cu f _ T_r.out RW_r.out.src (by omega) (by omega) (by omega) (by omega) HPH.out (by omega) (by omega) hcu HCM.out HWD.out).mono ?_
      rintro e w8 ⟨hb, hr⟩
      have z8 : wr.heap.size ≤ w8.heap.size := hb.size
      have S_8 := Lib.hid (S_r.out.below hb); have B_8 := Lib.hid (B_r.out.below hb); have R_8 := Lib.hid (R_r.out.below hb); have T_8 := Lib.hid (T_r.out.below hb); have RW_8 := Lib.hid (RW_r.out.below hb); have HK_8 := Lib.hid (keeps_under HK_r.out hb (by omega))
      clear hb S_r B_r R_r T_r RW_r HK_r
      rcases hr with ⟨_, rfl⟩ | ⟨v, M, hp, rfl, hown, hfl⟩
      · go_wp2
        go_loopw [8] (fun p wr2 => p = .int .i64 0 ∧ wr2 = w8) (fun _ _ => 0)
        case atStart => exact ⟨rfl, rfl⟩
        case round =>
          obtain ⟨rfl, rfl⟩ := hrel
          have cR0 := R_8.out.at 0 rfl; have cR1 := R_8.out.at 1 rfl; have cR2 := R_8.out.at 2 rfl; have cR3 := R_8.out.at 3 rfl; have fR0 := R_8.out.free 0 rfl; have fR1 := R_8.out.free 1 rfl; have fR2 := R_8.out.free 2 rfl; have fR3 := R_8.out.free 3 rfl; have lR := R_8.out.1
          have cT0 := T_8.out.at 0 rfl; have cT1 := T_8.out.at 1 rfl; have cT2 := T_8.out.at 2 rfl; have cT3 := T_8.out.at 3 rfl; have lT := T_8.out.1
          go_wp2
          refine bodyPost_ret (v := .agg #[.int .i64 (m : Int), .slice (some ⟨ub, uo, none⟩) (2 * m) cu, .int .i64 (v3 : Int), .int .i64 (U : Int)]) (by simp [results, Try.results99, go_sem, cR0, cR1, cR2, cR3]) rfl ⟨m, cu, t', some ⟨ub, uo, none⟩, f, _, _, by omega, rfl, ?_, ?_, by omega, ?_, hcu, HCM.out⟩
          · refine OwnIn.widen (lo := w1.heap.size) (hi := w2.heap.size) ?_ (by omega) (by (try simp); (try omega))
            repeat (with_reducible refine OwnIn.setCell ?_ (.inl (by (try simp); (try omega))) _)
            exact RW_8.out
          · repeat (with_reducible refine Blk.other ?_ (by (try simp); (try omega)) _)
            exact S_8.out
          · repeat (with_reducible refine Keeps.setNew ?_ (by (try simp); (try omega)) _)
            exact HK_8.out
      · obtain ⟨aq, kq, hv⟩ := row_nil hown
        have hlM : M.length ≤ 60 := by have := parse_length (P + U - P) P _ (Nat.le_refl _) hp; simp at this; omega
        have htot : tot M 0 ≤ 60 := by have := tot_zero hp; omega
        have hpk := parse_ok hp (show P + U ≤ 2 * m by omega) (fun j _ => HF.out j)
        have HPK := Lib.hid hpk
        have OW_8 := Lib.hid hown
        clear hpk hp hfl hown
        subst hv
        obtain ⟨Bq, hBq⟩ : ∃ Bq, Bq = wr.heap.size := ⟨_, rfl⟩
        rw [← hBq] at OW_8
        have hB1 : w2.heap.size ≤ Bq := by omega
        have hB2 : Bq ≤ w8.heap.size := by omega
        clear hBq
        go_wp2
        go_loopw [8] (fun p wq => ∃ (i t2 : Nat) (g : Nat → Int), i ≤ M.length ∧ p = .int .i64 (i : Int) ∧ t2 + 3 * tot M i ≤ t + 240 ∧ w8.heap.size ≤ wq.heap.size ∧ Hid (Blk wq b [.slice ca k kc, .int .i64 ((t2 : Nat) : Int)]) ∧ Hid (SrcB wq S ca k B) ∧ Hid (Blk wq w.heap.size [.int .i64 0, .slice none 0 0, .int .i64 0, .int .i64 0]) ∧ Hid (Blk wq w2.heap.size [.int .i64 (m : Int), .slice (some ⟨ub, uo, none⟩) (2 * m) cu, .int .i64 (v3 : Int), .int .i64 (U : Int)]) ∧ Hid (OwnIn wq w1.heap.size w2.heap.size (some ⟨ub, uo, none⟩) (2 * m) g) ∧ Hid (Keeps w wq b (b + 1)) ∧ Hid (wq.ownsRow Bq 42 6 (.slice aq M.length kq) M.length (rowCells M))) (fun p _ => M.length - (intOf p).toNat)
        case atStart => exact ⟨0, t', f, Nat.zero_le _, rfl, by omega, Nat.le_refl _, S_8, B_8, R_8, T_8, RW_8, HK_8, OW_8⟩
        case round =>
          obtain ⟨i, t2, g, hi9, rfl, ht2, zq, S_q, B_q, R_q, T_q, RW_q, HK_q, OW_q⟩ := hrel
          clear S_8 B_8 R_8 T_8 RW_8 HK_8 OW_8
          by_cases hlt : i < M.length
          · have hlt' : (i : Int) < (M.length : Int) := by omega
            have hi0 : (0 : Int) ≤ (i : Int) := by omega
            obtain ⟨gq, cq, e1, hgq, lq, oq⟩ := row_form OW_q.out (by omega)
            simp only [Value.slice.injEq] at e1
            obtain ⟨rfl, -, rfl⟩ := e1
            have hget := List.getElem?_eq_getElem hlt
            have hts := tot_step hget
            have hmem : M[i].x ∈ M.map OM.x := List.mem_map_of_mem (List.getElem_mem hlt)
            have hpx := HPK.out _ hmem
            have hsx := (oq i M[i] hget).six
            generalize hTI : M[i] = ti at *
            have HGET := Lib.hid hget
            obtain ⟨⟨p1, p2⟩, ⟨p3, p4⟩, ⟨p5, p6⟩, ⟨p7, p8⟩, -⟩ := hpx
            clear hmem hTI hget oq
            have HSX := Lib.hid hsx
            obtain ⟨x0, x1, x2, x3, x4, x5⟩ := hsx
            go_wp2
            go_loopw [10] (fun p wk => ∃ (k9 t3 : Nat) (g' : Nat → Int), k9 ≤ ti.x.s.toNat ∧ p = .int .i64 (k9 : Int) ∧ t3 + 3 * (ti.x.s.toNat - k9) + 3 * tot M (i + 1) ≤ t + 240 ∧ w8.heap.size ≤ wk.heap.size ∧ Hid (Blk wk b [.slice ca k kc, .int .i64 ((t3 : Nat) : Int)]) ∧ Hid (SrcB wk S ca k B) ∧ Hid (Blk wk w.heap.size [.int .i64 0, .slice none 0 0, .int .i64 0, .int .i64 0]) ∧ Hid (Blk wk w2.heap.size [.int .i64 (m : Int), .slice (some ⟨ub, uo, none⟩) (2 * m) cu, .int .i64 (v3 : Int), .int .i64 (U : Int)]) ∧ Hid (OwnIn wk w1.heap.size w2.heap.size (some ⟨ub, uo, none⟩) (2 * m) g') ∧ Hid (Keeps w wk b (b + 1)) ∧ Hid (wk.ownsRow Bq 42 6 (.slice (some ⟨gq, 0, none⟩) M.length kq) M.length (rowCells M))) (fun p _ => ti.x.s.toNat - (intOf p).toNat)
            case atStart => exact ⟨0, t2, g, Nat.zero_le _, rfl, by omega, zq, S_q, B_q, R_q, T_q, RW_q, HK_q, OW_q⟩
            case round =>
              obtain ⟨k9, t3, g', hk9, rfl, ht3, zk, S_k, B_k, R_k, T_k, RW_k, HK_k, OW_k⟩ := hrel
              clear x0 x1 x2 x3 x4 x5
              obtain ⟨gq', cq', e1, _, lk, ok⟩ := row_form OW_k.out (by omega)
              simp only [Value.slice.injEq, Option.some.injEq, Addr.mk.injEq, and_true] at e1
              obtain ⟨rfl, -, rfl⟩ := e1
              have hsk := (ok i ti HGET.out).six
              have HSK := Lib.hid hsk
              obtain ⟨x0, x1, x2, x3, x4, x5⟩ := hsk
              by_cases hkl : k9 < ti.x.s.toNat
              · have hkl' : (k9 : Int) < ti.x.s := by omega
                have hk0' : (0 : Int) ≤ (k9 : Int) := by omega
                go_wp2_with fail
                refine (next_is 99 b S ca k kc t3 99 B _ rfl S_k.out B_k.out hS hk0 (by omega) (by omega) (by omega)).mono ?_
                rintro e w20 ⟨v20, rfl, hv20, hB, hk⟩
                have z20 : wr.heap.size + 0 ≤ w20.heap.size := by have := hk.size; (try simp at this); omega
                have S_20 := Lib.hid (src_cast hB); have B_20 := Lib.hid (B_k.out.keeps hk hS); have HK_20 := Lib.hid (HK_k.out.trans hk); have R_20 := Lib.hid (R_k.out.keeps hk (by omega)); have T_20 := Lib.hid (T_k.out.keeps hk (by omega)); have RW_20 := Lib.hid (RW_k.out.keeps hk (by omega)); have OW_20 := Lib.hid (ownsRow_keeps OW_k.out hk (by omega))
                clear hk hB S_k B_k R_k T_k RW_k HK_k OW_k HSK x0 x1 x2 x3 x4 x5
                go_wp2_with fail
                refine (of_any [5, -3, (v20 : Int)] b S _ ca k kc (t3 + 1) 3 B _ _ S_20.out B_20.out hS hk0 (by omega) rfl (by simp) (by simp) rfl (by simp)).mono ?_
                rintro e w21 ⟨v21, rfl, _, hB, hk⟩
                have z21 : w20.heap.size + 1 ≤ w21.heap.size := by have := hk.size; (try simp at this); omega
                have S_21 := Lib.hid (src_cast hB); have B_21 := Lib.hid ((B_20.out.alloc _).keeps hk hS); have HK_21 := Lib.hid ((HK_20.out.alloc _).trans hk); have R_21 := Lib.hid ((R_20.out.alloc _).keeps hk (by omega)); have T_21 := Lib.hid ((T_20.out.alloc _).keeps hk (by omega)); have RW_21 := Lib.hid ((RW_20.out.alloc _).keeps hk (by omega)); have OW_21 := Lib.hid (ownsRow_keeps (ownsRow_below OW_20.out ((Below.refl _ _).alloc (Nat.le_refl _) _)) hk (by omega))
                clear hk hB S_20 B_20 R_20 T_20 RW_20 HK_20 OW_20
                have hs21 := row_six OW_21.out HGET.out
                have lq21 := hs21.2
                have HP4 := Lib.hid (show 0 ≤ ti.x.m ∧ ti.x.m ≤ 4095 from ⟨p3, p4⟩)
                go_wp2_with fail
                refine (l2Pointer_at gq (i * 6 + 1) k9 ti.x.m _ _ hs21.1.2.2.1 HP4.out (by omega) rfl).mono ?_
                rintro e w' ⟨rfl, q, rfl⟩
                have hdn := drewN_below w21 q
                have z22 : w21.heap.size ≤ (w21.drewN q).heap.size := hdn.size
                have S_22 := Lib.hid (S_21.out.below hdn); have B_22 := Lib.hid (B_21.out.below hdn); have R_22 := Lib.hid (R_21.out.below hdn); have T_22 := Lib.hid (T_21.out.below hdn); have RW_22 := Lib.hid (RW_21.out.below hdn); have HK_22 := Lib.hid (HK_21.out.trans (keeps_of_below hdn _ _)); have OW_22 := Lib.hid (ownsRow_below OW_21.out hdn)
                clear hdn hs21 lq21 S_21 B_21 R_21 T_21 RW_21 HK_21 OW_21
                generalize w21.drewN q = w22 at *
                generalize (ti.x.m / P2 (k9 : Int) % 2 == 1) = r
                cases r
                · obtain ⟨⟨y0, y1, y2, y3, y4, y5⟩, lq6⟩ := row_six OW_22.out HGET.out
                  obtain ⟨A, hA⟩ : ∃ A : Nat, ti.x.at_ = (A : Int) := ⟨ti.x.at_.toNat, by omega⟩
                  have hKn : A + 2 + k9 < 2 * m := by omega
                  have hA9 : (A : Int) ≤ 400 := by omega
                  rw [hA] at y0
                  clear hA
                  have hw1 : IntKind.i64.wrap ((A : Int) + 2) = (A : Int) + 2 := IntWalk.i64_in _ (by omega)
                  have hw2 : IntKind.i64.wrap ((A : Int) + 2 + (k9 : Int)) = (A : Int) + 2 + (k9 : Int) := IntWalk.i64_in _ (by omega)
                  obtain ⟨st, stf⟩ := ownIn_cell RW_22.out (A + 2 + k9) hKn
                  have hn1 : ub ≠ w2.heap.size := by omega
                  have hn2 : ub ≠ gq := by omega
                  have hn3 : ub ≠ b := by omega
                  have hn4 : ub ≠ w.heap.size := by omega
                  have lT := T_22.out.1; have cT1 := T_22.out.at 1 rfl
                  have T_d := Lib.hid T_22.out.drew; have y0d : (w22.drew).cell? ⟨gq, i * 6, none⟩ = some (.int .i64 (A : Int)) := y0
                  have hne9 : (⟨ub, uo + (A + 2 + k9), none⟩ : Addr) ≠ ⟨gq, i * 6, none⟩ := fun e => hn2 (congrArg Addr.block e)
                  have y0s : ∀ u, ((w22.setCell ⟨ub, uo + (A + 2 + k9), none⟩ u).drew).cell? ⟨gq, i * 6, none⟩ = some (.int .i64 (A : Int)) := fun u => (World.cell?_setCell_other _ _ _ _ hne9).trans y0
                  have hTN : ((A : Int) + 2 + (k9 : Int)).toNat = A + 2 + k9 := by omega
                  have hI0 : (0 : Int) ≤ (A : Int) + 2 + (k9 : Int) := by omega
                  have hI1 : (A : Int) + 2 + (k9 : Int) < 2 * (m : Int) := by omega
                  have HY := Lib.hid y0s
                  clear y0s hne9 y1 y2 y3 y4 y5
                  go_wp2_with fail
                  go_region_held3 (fun w' => w'.cell? ⟨w2.heap.size, 1, none⟩ = some (.slice (some ⟨ub, uo, none⟩) (2 * m) cu) ∧ w'.cell? ⟨gq, i * 6, none⟩ = some (.int .i64 (A : Int)))
                    (first | (with_reducible exact ⟨T_22.out.at 1 rfl, y0⟩) | (with_reducible exact ⟨T_d.out.at 1 rfl, y0d⟩) | (with_reducible exact ⟨((T_22.out.other (p := ⟨ub, uo + (A + 2 + k9), none⟩) hn1 _).drew).at 1 rfl, HY.out _⟩))
                    (fail)
                  have hst := RW_22.out.stored (A + 2 + k9) hKn v21
                  go_wp2
                  go_roundw
                  case rel => exact ⟨k9 + 1, t3 + 1 + 1, _, by omega, by go_num, by omega, by (try simp); omega, (S_22.out.other hn3 _).drew, (B_22.out.setCell (by (try simp); (try omega)) _).drew, (R_22.out.other hn4 _).drew, (T_22.out.other hn1 _).drew, hst.1.drew, (HK_22.out.setNew (by (try simp); (try omega)) _).trans (keeps_of_below (Below.refl _ _).drew _ _), ownsRow_below (ownsRow_other OW_22.out (by (try simp); (try omega)) _) (Below.refl _ _).drew⟩
                  case measure => simp [intOf]; omega
                · have hM1 : 1 ≤ M.length := by omega
                  go_wp2_with fail
                  refine (next_is (M.length : Int) b S ca k kc (t3 + 1 + 1) M.length B _ rfl S_22.out B_22.out hS hk0 (by omega) hM1 (by omega)).mono ?_
                  rintro e w23 ⟨v23, rfl, hv23, hB, hk⟩
                  have z23 : w22.heap.size ≤ w23.heap.size := hk.size
                  have S_23 := Lib.hid (src_cast hB); have B_23 := Lib.hid (B_22.out.keeps hk hS); have HK_23 := Lib.hid (HK_22.out.trans hk); have R_23 := Lib.hid (R_22.out.keeps hk (by omega)); have T_23 := Lib.hid (T_22.out.keeps hk (by omega)); have RW_23 := Lib.hid (RW_22.out.keeps hk (by omega)); have OW_23 := Lib.hid (ownsRow_keeps OW_22.out hk (by omega))
                  clear hk hB S_22 B_22 R_22 T_22 RW_22 HK_22 OW_22
                  have hv0 : (0 : Int) ≤ (v23 : Int) := by omega
                  have hv1 : (v23 : Int) < (M.length : Int) := by omega
                  have hgj := List.getElem?_eq_getElem hv23
                  have hpj := HPK.out M[v23].x (List.mem_map_of_mem (List.getElem_mem hv23))
                  generalize M[v23] = tj at *
                  have HGJ := Lib.hid hgj
                  obtain ⟨-, -, -, ⟨pj7, pj8⟩, -⟩ := hpj
                  clear hgj
                  have hwj : IntKind.i64.wrap (tj.x.at_ + 1) = tj.x.at_ + 1 := IntWalk.i64_in _ (by omega)
                  obtain ⟨⟨z0, z1, z2, z3, z4, z5⟩, lqj⟩ := row_six OW_23.out HGJ.out
                  obtain ⟨⟨y0, y1, y2, y3, y4, y5⟩, _⟩ := row_six OW_23.out HGET.out
                  have z3d : w23.drew.cell? ⟨gq, v23 * 6 + 3, none⟩ = some (.int .i64 tj.x.o) := z3
                  have y3d : w23.drew.cell? ⟨gq, i * 6 + 3, none⟩ = some (.int .i64 ti.x.o) := y3
                  clear z1 z2 z4 z5 y0 y1 y2 y4 y5
                  by_cases hoo : tj.x.o = ti.x.o
                  · have hdo : (tj.x.o == ti.x.o) = true := by simpa using hoo
                    go_wp2_with fail
                    go_region_held3 (fun w' => w'.cell? ⟨gq, v23 * 6 + 3, none⟩ = some (.int .i64 tj.x.o) ∧ w'.cell? ⟨gq, i * 6 + 3, none⟩ = some (.int .i64 ti.x.o))
                      (first | (with_reducible exact ⟨z3, y3⟩) | (with_reducible exact ⟨z3d, y3d⟩))
                      (fail)
                    have S_24 := Lib.hid S_23.out.drew; have B_24 := Lib.hid B_23.out.drew; have R_24 := Lib.hid R_23.out.drew; have T_24 := Lib.hid T_23.out.drew; have RW_24 := Lib.hid RW_23.out.drew; have HK_24 := Lib.hid (HK_23.out.trans (keeps_of_below (Below.refl _ _).drew _ _)); have OW_24 := Lib.hid (ownsRow_below OW_23.out (Below.refl _ _).drew)
                    have z0' : w23.drew.cell? ⟨gq, v23 * 6, none⟩ = some (.int .i64 tj.x.at_) := z0
                    have z24 : w23.heap.size ≤ w23.drew.heap.size := Nat.le_refl _
                    clear z0 z3 y3 z3d y3d S_23 B_23 R_23 T_23 RW_23 HK_23 OW_23
                    generalize w23.drew = w24 at *
                    obtain ⟨⟨y0, y1, y2, y3, y4, y5⟩, lq6⟩ := row_six OW_24.out HGET.out
                    obtain ⟨A, hA⟩ : ∃ A : Nat, ti.x.at_ = (A : Int) := ⟨ti.x.at_.toNat, by omega⟩
                    have hKn : A + 2 + k9 < 2 * m := by omega
                    have hA9 : (A : Int) ≤ 400 := by omega
                    rw [hA] at y0
                    clear hA
                    have hw1 : IntKind.i64.wrap ((A : Int) + 2) = (A : Int) + 2 := IntWalk.i64_in _ (by omega)
                    have hw2 : IntKind.i64.wrap ((A : Int) + 2 + (k9 : Int)) = (A : Int) + 2 + (k9 : Int) := IntWalk.i64_in _ (by omega)
                    obtain ⟨st, stf⟩ := ownIn_cell RW_24.out (A + 2 + k9) hKn
                    have hn1 : ub ≠ w2.heap.size := by omega
                    have hn2 : ub ≠ gq := by omega
                    have hn3 : ub ≠ b := by omega
                    have hn4 : ub ≠ w.heap.size := by omega
                    have lT := T_24.out.1; have cT1 := T_24.out.at 1 rfl
                    have T_d := Lib.hid T_24.out.drew; have y0d : (w24.drew).cell? ⟨gq, i * 6, none⟩ = some (.int .i64 (A : Int)) := y0
                    have hne9 : (⟨ub, uo + (A + 2 + k9), none⟩ : Addr) ≠ ⟨gq, i * 6, none⟩ := fun e => hn2 (congrArg Addr.block e)
                    have y0s : ∀ u, ((w24.setCell ⟨ub, uo + (A + 2 + k9), none⟩ u).drew).cell? ⟨gq, i * 6, none⟩ = some (.int .i64 (A : Int)) := fun u => (World.cell?_setCell_other _ _ _ _ hne9).trans y0
                    have hTN : ((A : Int) + 2 + (k9 : Int)).toNat = A + 2 + k9 := by omega
                    have hI0 : (0 : Int) ≤ (A : Int) + 2 + (k9 : Int) := by omega
                    have hI1 : (A : Int) + 2 + (k9 : Int) < 2 * (m : Int) := by omega
                    have HY := Lib.hid y0s
                    clear y0s hne9 y1 y2 y3 y4 y5
                    go_wp2_with fail
                    go_region_held3 (fun w' => w'.cell? ⟨w2.heap.size, 1, none⟩ = some (.slice (some ⟨ub, uo, none⟩) (2 * m) cu) ∧ w'.cell? ⟨gq, i * 6, none⟩ = some (.int .i64 (A : Int)))
                      (first | (with_reducible exact ⟨T_24.out.at 1 rfl, y0⟩) | (with_reducible exact ⟨T_d.out.at 1 rfl, y0d⟩) | (with_reducible exact ⟨((T_24.out.other (p := ⟨ub, uo + (A + 2 + k9), none⟩) hn1 _).drew).at 1 rfl, HY.out _⟩))
                      (fail)
                    have hst := RW_24.out.stored (A + 2 + k9) hKn (tj.x.at_ + 1)
                    go_wp2
                    go_roundw
                    case rel => exact ⟨k9 + 1, t3 + 1 + 1 + 1, _, by omega, by go_num, by omega, by (try simp); omega, (S_24.out.other hn3 _).drew, (B_24.out.setCell (by (try simp); (try omega)) _).drew, (R_24.out.other hn4 _).drew, (T_24.out.other hn1 _).drew, hst.1.drew, (HK_24.out.setNew (by (try simp); (try omega)) _).trans (keeps_of_below (Below.refl _ _).drew _ _), ownsRow_below (ownsRow_other OW_24.out (by (try simp); (try omega)) _) (Below.refl _ _).drew⟩
                    case measure => simp [intOf]; omega
                  · have hdo : (tj.x.o == ti.x.o) = false := by simpa using hoo
                    go_wp2_with fail
                    go_region_held3 (fun w' => w'.cell? ⟨gq, v23 * 6 + 3, none⟩ = some (.int .i64 tj.x.o) ∧ w'.cell? ⟨gq, i * 6 + 3, none⟩ = some (.int .i64 ti.x.o))
                      (first | (with_reducible exact ⟨z3, y3⟩) | (with_reducible exact ⟨z3d, y3d⟩))
                      (fail)
                    have S_24 := Lib.hid S_23.out.drew; have B_24 := Lib.hid B_23.out.drew; have R_24 := Lib.hid R_23.out.drew; have T_24 := Lib.hid T_23.out.drew; have RW_24 := Lib.hid RW_23.out.drew; have HK_24 := Lib.hid (HK_23.out.trans (keeps_of_below (Below.refl _ _).drew _ _)); have OW_24 := Lib.hid (ownsRow_below OW_23.out (Below.refl _ _).drew)
                    have z0' : w23.drew.cell? ⟨gq, v23 * 6, none⟩ = some (.int .i64 tj.x.at_) := z0
                    have z24 : w23.heap.size ≤ w23.drew.heap.size := Nat.le_refl _
                    clear z0 z3 y3 z3d y3d S_23 B_23 R_23 T_23 RW_23 HK_23 OW_23
                    generalize w23.drew = w24 at *
                    obtain ⟨⟨y0, y1, y2, y3, y4, y5⟩, lq6⟩ := row_six OW_24.out HGET.out
                    obtain ⟨A, hA⟩ : ∃ A : Nat, ti.x.at_ = (A : Int) := ⟨ti.x.at_.toNat, by omega⟩
                    have hKn : A + 2 + k9 < 2 * m := by omega
                    have hA9 : (A : Int) ≤ 400 := by omega
                    rw [hA] at y0
                    clear hA
                    have hw1 : IntKind.i64.wrap ((A : Int) + 2) = (A : Int) + 2 := IntWalk.i64_in _ (by omega)
                    have hw2 : IntKind.i64.wrap ((A : Int) + 2 + (k9 : Int)) = (A : Int) + 2 + (k9 : Int) := IntWalk.i64_in _ (by omega)
                    obtain ⟨st, stf⟩ := ownIn_cell RW_24.out (A + 2 + k9) hKn
                    have hn1 : ub ≠ w2.heap.size := by omega
                    have hn2 : ub ≠ gq := by omega
                    have hn3 : ub ≠ b := by omega
                    have hn4 : ub ≠ w.heap.size := by omega
                    have lT := T_24.out.1; have cT1 := T_24.out.at 1 rfl
                    have T_d := Lib.hid T_24.out.drew; have y0d : (w24.drew).cell? ⟨gq, i * 6, none⟩ = some (.int .i64 (A : Int)) := y0
                    have hne9 : (⟨ub, uo + (A + 2 + k9), none⟩ : Addr) ≠ ⟨gq, i * 6, none⟩ := fun e => hn2 (congrArg Addr.block e)
                    have y0s : ∀ u, ((w24.setCell ⟨ub, uo + (A + 2 + k9), none⟩ u).drew).cell? ⟨gq, i * 6, none⟩ = some (.int .i64 (A : Int)) := fun u => (World.cell?_setCell_other _ _ _ _ hne9).trans y0
                    have hTN : ((A : Int) + 2 + (k9 : Int)).toNat = A + 2 + k9 := by omega
                    have hI0 : (0 : Int) ≤ (A : Int) + 2 + (k9 : Int) := by omega
                    have hI1 : (A : Int) + 2 + (k9 : Int) < 2 * (m : Int) := by omega
                    have HY := Lib.hid y0s
                    clear y0s hne9 y1 y2 y3 y4 y5
                    go_wp2_with fail
                    go_region_held3 (fun w' => w'.cell? ⟨w2.heap.size, 1, none⟩ = some (.slice (some ⟨ub, uo, none⟩) (2 * m) cu) ∧ w'.cell? ⟨gq, i * 6, none⟩ = some (.int .i64 (A : Int)))
                      (first | (with_reducible exact ⟨T_24.out.at 1 rfl, y0⟩) | (with_reducible exact ⟨T_d.out.at 1 rfl, y0d⟩) | (with_reducible exact ⟨((T_24.out.other (p := ⟨ub, uo + (A + 2 + k9), none⟩) hn1 _).drew).at 1 rfl, HY.out _⟩))
                      (fail)
                    have hst := RW_24.out.stored (A + 2 + k9) hKn 0
                    go_wp2
                    go_roundw
                    case rel => exact ⟨k9 + 1, t3 + 1 + 1 + 1, _, by omega, by go_num, by omega, by (try simp); omega, (S_24.out.other hn3 _).drew, (B_24.out.setCell (by (try simp); (try omega)) _).drew, (R_24.out.other hn4 _).drew, (T_24.out.other hn1 _).drew, hst.1.drew, (HK_24.out.setNew (by (try simp); (try omega)) _).trans (keeps_of_below (Below.refl _ _).drew _ _), ownsRow_below (ownsRow_other OW_24.out (by (try simp); (try omega)) _) (Below.refl _ _).drew⟩
                    case measure => simp [intOf]; omega
              · have hkl' : ¬ (k9 : Int) < ti.x.s := by omega
                obtain rfl : k9 = ti.x.s.toNat := by omega
                go_wp2
                go_roundw
                case rel => exact ⟨i + 1, t3, g', by omega, by go_num, by omega, by omega, S_k, B_k, R_k, T_k, RW_k, HK_k, OW_k⟩
                case measure => simp [intOf]; omega
          · obtain rfl : i = M.length := by omega
            have cR0 := R_q.out.at 0 rfl; have cR1 := R_q.out.at 1 rfl; have cR2 := R_q.out.at 2 rfl; have cR3 := R_q.out.at 3 rfl; have fR0 := R_q.out.free 0 rfl; have fR1 := R_q.out.free 1 rfl; have fR2 := R_q.out.free 2 rfl; have fR3 := R_q.out.free 3 rfl; have lR := R_q.out.1
            have cT0 := T_q.out.at 0 rfl; have cT1 := T_q.out.at 1 rfl; have cT2 := T_q.out.at 2 rfl; have cT3 := T_q.out.at 3 rfl; have lT := T_q.out.1
            go_wp2
            refine bodyPost_ret (v := .agg #[.int .i64 (m : Int), .slice (some ⟨ub, uo, none⟩) (2 * m) cu, .int .i64 (v3 : Int), .int .i64 (U : Int)]) (by simp [results, Try.results99, go_sem, cR0, cR1, cR2, cR3]) rfl ⟨m, cu, t2, some ⟨ub, uo, none⟩, g, _, _, by omega, rfl, ?_, ?_, by omega, ?_, hcu, HCM.out⟩
            · refine OwnIn.widen (lo := w1.heap.size) (hi := w2.heap.size) ?_ (by omega) (by (try simp); (try omega))
              repeat (with_reducible refine OwnIn.setCell ?_ (.inl (by (try simp); (try omega))) _)
              exact RW_q.out
            · repeat (with_reducible refine Blk.other ?_ (by (try simp); (try omega)) _)
              exact S_q.out
            · repeat (with_reducible refine Keeps.setNew ?_ (by (try simp); (try omega)) _)
              exact HK_q.out
end Go.Proofs.Ytlelgfkebcnepaa

namespace Go.Proofs.Ytlelgfkebcnepaa
open Go.RowKit
set_option linter.unusedVariables false

def RetBent3 (W : World) (b : Nat) (ca : Option Addr) (k kc t : Nat) (e : Ending) (w' : World) : Prop :=
  ∃ (h ac bu : Int) (n c t' : Nat) (a : Option Addr) (f : Nat → Int), e = .returned (.agg #[.int .i64 h, .slice a n c, .int .i64 ac, .int .i64 bu]) ∧ OwnIn w' W.heap.size w'.heap.size a n f ∧
    Blk w' b [.slice ca k kc, .int .i64 (t' : Int)] ∧ t' ≤ t + 400 ∧ Keeps W w' b (b + 1) ∧ n ≤ 120 ∧ n ≤ c ∧ c ≤ maxLen

theorem src_keeps {w w' : World} {q off n lo hi : Nat} {f : Nat → Int} (h : Src w (some ⟨q, off, none⟩) n f) (hk : Keeps w w' lo hi) (hd : q < lo ∨ hi ≤ q) : Src w' (some ⟨q, off, none⟩) n f := by
  rcases h with h0 | ⟨b', o', he, hl, hc⟩
  · exact .inl h0
  · cases he
    have e := hk.block q hl hd
    exact .inr ⟨q, off, rfl, Nat.lt_of_lt_of_le hl hk.size, fun i hi => (World.cell?_of_block (w := w) (a := ⟨q, off + i, none⟩) e).trans (hc i hi)⟩

theorem maxx_any (x y : Int) (w : World) : Calls Try.prog 103 #[.int .i64 x, .int .i64 y] w (RetMin w x y) := by
  by_cases h : y < x
  · go_enter Try.func103, Try.ntmps103
    go_wp2
    go_ret
    exact ⟨⟨x, .inl rfl, rfl⟩, rfl⟩
  · go_enter Try.func103, Try.ntmps103
    go_wp2
    go_ret
    exact ⟨⟨y, .inr rfl, rfl⟩, rfl⟩

set_option maxRecDepth 100000 in
set_option maxHeartbeats 6400000 in
theorem bent3_any (b S : Nat) (ca : Option Addr) (k kc t : Nat) (B : Nat → Int) (w : World) (hB0 : Blk w b [.slice ca k kc, .int .i64 (t : Int)]) (hs : SrcB w S ca k B) (hS : S ≤ b) (hk0 : k ≤ 1048576) (ht : t ≤ 30) :
    Calls Try.prog 53 #[.pointer (some ⟨b, 0, none⟩)] w (RetBent3 w b ca k kc t) := by
  have hbw := hB0.1
  have S_0 := Lib.hid hB0
  have B_0 := Lib.hid hs
  clear hB0 hs
  go_enter Try.func53, Try.ntmps53
  go_wp2_with fail
  refine (draw3_any b S ca k kc t B _ (S_0.out.alloc _) (B_0.out.alloc _) hS hk0 ht).mono ?_
  rintro e w1 ⟨m, cu, t', u, f, ac, bu, ⟨hm2, hm1, hac0, hac1, hbu0, hbu1⟩, rfl, ho, hB, htt, hk, hcu, hcm⟩
  have HK_1 : Hid (Keeps w w1 b (b + 1)) := ((Keeps.refl w b (b + 1)).alloc _).trans hk
  have z1 : w.heap.size + 1 ≤ w1.heap.size := by have := hk.size; simp at this; omega
  have S_1 := Lib.hid hB
  have B_1 := Lib.hid ((B_0.out.alloc _).keeps hk hS)
  have R_1 := Lib.hid ((Blk.new_at (w.heap.size) rfl).keeps hk (by omega))
  have RW_1 : Hid (OwnIn w1 (w.heap.size + 1) w1.heap.size u (2 * m) f) := ho.widen (by simp) (Nat.le_refl _)
  obtain ⟨ub, uo, rfl, hub, hubw, _⟩ := ownIn_some RW_1.out (by omega)
  have hub1 := hub.1; have hub2 := hub.2
  clear ho hB hk S_0 B_0 hub
  go_wp2_with fail
  refine (next_is _ b S ca k kc t' 18 B _ rfl (S_1.out.alloc _) (B_1.out.alloc _) hS hk0 (by omega) (by omega) (by omega)).mono ?_
  rintro e w2 ⟨v2, rfl, hv2, hB, hk⟩
  have HK_2 : Hid (Keeps w w2 b (b + 1)) := (HK_1.out.alloc _).trans hk
  have z2 : w1.heap.size + 1 ≤ w2.heap.size := by have := hk.size; simp at this; omega
  have S_2 := Lib.hid (src_cast hB)
  have B_2 := Lib.hid ((B_1.out.alloc _).keeps hk hS)
  have R_2 := Lib.hid ((R_1.out.alloc _).keeps hk (by omega))
  have RW_2 := Lib.hid ((RW_1.out.alloc _).keeps hk (by omega))
  have T_2 := Lib.hid ((Blk.new_at (w1.heap.size) (by simp)).keeps hk (by omega))
  clear hk hB S_1 B_1 R_1 RW_1 HK_1
  have hcu9 : 2 * m ≤ cu := hcu
  rcases (by omega : v2 = 0 ∨ v2 = 1 ∨ v2 = 2 ∨ v2 = 3 ∨ v2 = 4 ∨ 5 ≤ v2) with rfl | rfl | rfl | rfl | rfl | h5
  · go_wp2_with fail
    refine (bent_any b S ca k kc (t' + 1) B _ S_2.out B_2.out hS hk0 (by omega)).mono ?_
    rintro e w3 ⟨h3, ac3, bu3, n3, c3, t3, a3, f3, rfl, ho, hB, ht3, hk, hn3, hnc3, hcm3⟩
    have z3 : w2.heap.size ≤ w3.heap.size := hk.size
    have S_3 := Lib.hid hB; have R_3 := Lib.hid (R_2.out.keeps hk (by omega)); have HK_3 := Lib.hid (HK_2.out.trans hk); have HO := Lib.hid ho
    clear hB hk ho S_2 B_2 R_2 T_2 RW_2 HK_2
    have lR := R_3.out.1; have cR0 := R_3.out.at 0 rfl; have fR0 := R_3.out.free 0 rfl; have cR1 := R_3.out.at 1 rfl; have fR1 := R_3.out.free 1 rfl; have cR2 := R_3.out.at 2 rfl; have fR2 := R_3.out.free 2 rfl; have cR3 := R_3.out.at 3 rfl; have fR3 := R_3.out.free 3 rfl
    go_wp2
    refine bodyPost_ret (v := .agg #[.int .i64 h3, .slice a3 n3 c3, .int .i64 ac3, .int .i64 bu3]) (by simp [results, Try.results53, go_sem, cR0, cR1, cR2, cR3]) rfl ⟨_, _, _, _, _, t3, _, f3, rfl, ?_, ?_, by omega, ?_, by omega, by omega, by omega⟩
    · refine OwnIn.widen (lo := w2.heap.size) (hi := w3.heap.size) ?_ (by omega) (by (try simp); (try omega))
      repeat (with_reducible refine OwnIn.setCell ?_ (.inl (by (try simp); (try omega))) _)
      exact HO.out
    · repeat (with_reducible refine Blk.other ?_ (by (try simp); (try omega)) _)
      exact S_3.out
    · repeat (with_reducible refine Keeps.setNew ?_ (by (try simp); (try omega)) _)
      exact HK_3.out
  · go_upto_region 6 with (fail)
    have lT := T_2.out.1; have cT0 := T_2.out.at 0 rfl; have fT0 := T_2.out.free 0 rfl; have cT1 := T_2.out.at 1 rfl; have fT1 := T_2.out.free 1 rfl; have cT2 := T_2.out.at 2 rfl; have fT2 := T_2.out.free 2 rfl; have cT3 := T_2.out.at 3 rfl; have fT3 := T_2.out.free 3 rfl
    go_region_law (first | (go_simp; go_at_call 76; refine (of_drew [1, 2] b S _ ca k kc (t' + 1) 2 B _ w2 S_2.out.drew B_2.out.drew hS hk0 (by omega) rfl (by simp) (by simp) rfl (by simp)).mono ?_; rintro e w3 ⟨x, rfl, mx, hB, hk⟩; have hx : 1 ≤ x ∧ x ≤ 2 := (by simp only [List.mem_cons, List.mem_nil_iff, or_false] at mx; omega); have hwx : IntKind.i64.wrap (bu + x) = bu + x := IntWalk.i64_in _ (by omega); have z3 : w2.heap.size + 1 ≤ w3.heap.size := (by have := hk.size; simp at this; omega); have S_3 := Lib.hid (src_cast hB); have R_3 := Lib.hid ((R_2.out.drew.alloc _).keeps hk (by omega)); have T_3 := Lib.hid ((T_2.out.drew.alloc _).keeps hk (by omega)); have RW_3 := Lib.hid ((RW_2.out.drew.alloc _).keeps hk (by omega)); have HK_3 := Lib.hid (((HK_2.out.trans (keeps_of_below (Below.refl _ _).drew _ _)).alloc _).trans hk); have gT3 := T_3.out.at 3 rfl; have gF3 := T_3.out.free 3 rfl; have gT0 := T_3.out.at 0 rfl; have gL := T_3.out.1; clear mx hB hk) | (go_at_call 76; refine (of_drew [1, 2] b S _ ca k kc (t' + 1) 2 B _ w2 S_2.out.drew B_2.out.drew hS hk0 (by omega) rfl (by simp) (by simp) rfl (by simp)).mono ?_; rintro e w3 ⟨x, rfl, mx, hB, hk⟩; have hx : 1 ≤ x ∧ x ≤ 2 := (by simp only [List.mem_cons, List.mem_nil_iff, or_false] at mx; omega); have hwx : IntKind.i64.wrap (bu + x) = bu + x := IntWalk.i64_in _ (by omega); have z3 : w2.heap.size + 1 ≤ w3.heap.size := (by have := hk.size; simp at this; omega); have S_3 := Lib.hid (src_cast hB); have R_3 := Lib.hid ((R_2.out.drew.alloc _).keeps hk (by omega)); have T_3 := Lib.hid ((T_2.out.drew.alloc _).keeps hk (by omega)); have RW_3 := Lib.hid ((RW_2.out.drew.alloc _).keeps hk (by omega)); have HK_3 := Lib.hid (((HK_2.out.trans (keeps_of_below (Below.refl _ _).drew _ _)).alloc _).trans hk); have gT3 := T_3.out.at 3 rfl; have gF3 := T_3.out.free 3 rfl; have gT0 := T_3.out.at 0 rfl; have gL := T_3.out.1; clear mx hB hk) | (go_simp; go_at_call 102; refine (min_any (bu + x) (m : Int) _).mono ?_; rintro e w' ⟨⟨z, hz, rfl⟩, rfl⟩) | (go_at_call 102; refine (min_any (bu + x) (m : Int) _).mono ?_; rintro e w' ⟨⟨z, hz, rfl⟩, rfl⟩))
    all_goals (
      clear cT0 fT0 cT1 fT1 cT2 fT2 cT3 fT3 lT gT3 gF3 gT0 gL S_2 B_2 R_2 T_2 RW_2 HK_2
      go_upto_region 13 with (fail)
      have S_4 := Lib.hid (S_3.out.other (p := ⟨w1.heap.size, 3, none⟩) (by (try simp); (try omega)) (.int .i64 z)); have R_4 := Lib.hid (R_3.out.other (p := ⟨w1.heap.size, 3, none⟩) (by (try simp); (try omega)) (.int .i64 z)); have RW_4 := Lib.hid (RW_3.out.setCell (p := ⟨w1.heap.size, 3, none⟩) (by (try simp); (try omega)) (.int .i64 z)); have HK_4 := Lib.hid (HK_3.out.setNew (p := ⟨w1.heap.size, 3, none⟩) (by (try simp); (try omega)) (.int .i64 z))
      have T_4 : Hid (Blk (w3.setCell ⟨w1.heap.size, 3, none⟩ (.int .i64 z)) w1.heap.size [.int .i64 (m : Int), .slice (some ⟨ub, uo, none⟩) (2 * m) cu, .int .i64 ac, .int .i64 z]) := Lib.hid (T_3.out.set 3 (by simp) _)
      have z4 : w3.heap.size ≤ (w3.setCell ⟨w1.heap.size, 3, none⟩ (.int .i64 z)).heap.size := by simp
      clear S_3 R_3 RW_3 HK_3 T_3
      generalize (w3.setCell ⟨w1.heap.size, 3, none⟩ (.int .i64 z)) = w4 at *
      have lT := T_4.out.1; have cT0 := T_4.out.at 0 rfl; have cT1 := T_4.out.at 1 rfl; have cT2 := T_4.out.at 2 rfl; have cT3 := T_4.out.at 3 rfl
      have lR := R_4.out.1; have cR0 := R_4.out.at 0 rfl; have fR0 := R_4.out.free 0 rfl; have cR1 := R_4.out.at 1 rfl; have fR1 := R_4.out.free 1 rfl; have cR2 := R_4.out.at 2 rfl; have fR2 := R_4.out.free 2 rfl; have cR3 := R_4.out.at 3 rfl; have fR3 := R_4.out.free 3 rfl
      go_wp2
      refine bodyPost_ret (v := .agg #[.int .i64 (m : Int), .slice (some ⟨ub, uo, none⟩) (2 * m) cu, .int .i64 ac, .int .i64 z]) (by simp [results, Try.results53, go_sem, cR0, cR1, cR2, cR3]) rfl ⟨_, _, _, _, _, (t' + 1 + 1 : Nat), _, f, rfl, ?_, ?_, by omega, ?_, by omega, by omega, by omega⟩
      · refine OwnIn.widen (lo := w.heap.size + 1) (hi := w1.heap.size) ?_ (by omega) (by (try simp); (try omega))
        repeat (with_reducible refine OwnIn.setCell ?_ (.inl (by (try simp); (try omega))) _)
        exact RW_4.out
      · repeat (with_reducible refine Blk.other ?_ (by (try simp); (try omega)) _)
        exact S_4.out
      · repeat (with_reducible refine Keeps.setNew ?_ (by (try simp); (try omega)) _)
        exact HK_4.out
      )
  · have hwx : IntKind.i64.wrap (bu - 1) = bu - 1 := IntWalk.i64_in _ (by omega)
    have lT := T_2.out.1; have cT0 := T_2.out.at 0 rfl; have fT0 := T_2.out.free 0 rfl; have cT1 := T_2.out.at 1 rfl; have fT1 := T_2.out.free 1 rfl; have cT2 := T_2.out.at 2 rfl; have fT2 := T_2.out.free 2 rfl; have cT3 := T_2.out.at 3 rfl; have fT3 := T_2.out.free 3 rfl
    go_wp2_with fail
    refine (maxx_any (bu - 1) 0 _).mono ?_
    rintro e w' ⟨⟨z, hz, rfl⟩, rfl⟩
    go_upto_region 13 with (fail)
    clear cT0 fT0 cT1 fT1 cT2 fT2 cT3 fT3 lT
    have S_3 := Lib.hid (S_2.out.other (p := ⟨w1.heap.size, 3, none⟩) (by (try simp); (try omega)) (.int .i64 z)); have R_3 := Lib.hid (R_2.out.other (p := ⟨w1.heap.size, 3, none⟩) (by (try simp); (try omega)) (.int .i64 z)); have RW_3 := Lib.hid (RW_2.out.setCell (p := ⟨w1.heap.size, 3, none⟩) (by (try simp); (try omega)) (.int .i64 z)); have HK_3 := Lib.hid (HK_2.out.setNew (p := ⟨w1.heap.size, 3, none⟩) (by (try simp); (try omega)) (.int .i64 z))
    have T_3 : Hid (Blk (w2.setCell ⟨w1.heap.size, 3, none⟩ (.int .i64 z)) w1.heap.size [.int .i64 (m : Int), .slice (some ⟨ub, uo, none⟩) (2 * m) cu, .int .i64 ac, .int .i64 z]) := Lib.hid (T_2.out.set 3 (by simp) _)
    have z3 : w2.heap.size ≤ (w2.setCell ⟨w1.heap.size, 3, none⟩ (.int .i64 z)).heap.size := by simp
    clear S_2 R_2 RW_2 HK_2 T_2
    generalize (w2.setCell ⟨w1.heap.size, 3, none⟩ (.int .i64 z)) = w3 at *
    have lT := T_3.out.1; have cT0 := T_3.out.at 0 rfl; have cT1 := T_3.out.at 1 rfl; have cT2 := T_3.out.at 2 rfl; have cT3 := T_3.out.at 3 rfl
    have lR := R_3.out.1; have cR0 := R_3.out.at 0 rfl; have fR0 := R_3.out.free 0 rfl; have cR1 := R_3.out.at 1 rfl; have fR1 := R_3.out.free 1 rfl; have cR2 := R_3.out.at 2 rfl; have fR2 := R_3.out.free 2 rfl; have cR3 := R_3.out.at 3 rfl; have fR3 := R_3.out.free 3 rfl
    go_wp2
    refine bodyPost_ret (v := .agg #[.int .i64 (m : Int), .slice (some ⟨ub, uo, none⟩) (2 * m) cu, .int .i64 ac, .int .i64 z]) (by simp [results, Try.results53, go_sem, cR0, cR1, cR2, cR3]) rfl ⟨_, _, _, _, _, (t' + 1 : Nat), _, f, rfl, ?_, ?_, by omega, ?_, by omega, by omega, by omega⟩
    · refine OwnIn.widen (lo := w.heap.size + 1) (hi := w1.heap.size) ?_ (by omega) (by (try simp); (try omega))
      repeat (with_reducible refine OwnIn.setCell ?_ (.inl (by (try simp); (try omega))) _)
      exact RW_3.out
    · repeat (with_reducible refine Blk.other ?_ (by (try simp); (try omega)) _)
      exact S_3.out
    · repeat (with_reducible refine Keeps.setNew ?_ (by (try simp); (try omega)) _)
      exact HK_3.out
  · go_upto_region 10 with (fail)
    have lT := T_2.out.1; have cT0 := T_2.out.at 0 rfl; have fT0 := T_2.out.free 0 rfl; have cT1 := T_2.out.at 1 rfl; have fT1 := T_2.out.free 1 rfl
    have S_d := Lib.hid S_2.out.drew; have B_d := Lib.hid B_2.out.drew; have R_d := Lib.hid R_2.out.drew; have T_d := Lib.hid T_2.out.drew; have RW_d := Lib.hid RW_2.out.drew; have HK_d := Lib.hid (HK_2.out.trans (keeps_of_below (Below.refl _ _).drew _ _))
    have hne : ub ≠ w1.heap.size := by omega
    go_region_held3 (fun w' => w'.cell? ⟨w1.heap.size, 1, none⟩ = some (.slice (some ⟨ub, uo, none⟩) (2 * m) cu))
      (first | (with_reducible exact T_2.out.at 1 rfl) | (with_reducible exact T_d.out.at 1 rfl) | (with_reducible exact T_3.out.at 1 rfl) | (with_reducible exact (T_d.out.alloc _).at 1 rfl) | (with_reducible exact (T_2.out.alloc _).at 1 rfl) | (with_reducible exact (T_2.out.alloc _).drew.at 1 rfl) | (with_reducible exact (T_3.out.alloc _).at 1 rfl) | (with_reducible exact T_4.out.at 1 rfl) | (with_reducible exact (T_4.out.other (p := ⟨ub, uo + v3, none⟩) hne _).at 1 rfl))
      (first | (go_at_call 100; (with_reducible refine (next_is (2 * (m : Int)) b S ca k kc (t' + 1) (2 * m) B _ (by simp) S_d.out B_d.out hS hk0 (by omega) (by omega) (by omega)).mono ?_); rintro e w3 ⟨v3, rfl, hv3, hB, hk⟩; have z3 : w2.heap.size ≤ w3.heap.size := (by have := hk.size; (try simp at this); omega); have hv9 : (v3 : Int) < 2 * (m : Int) := (by omega); have hv8 : (0 : Int) ≤ (v3 : Int) := (by omega); have B_3 := Lib.hid (B_d.out.keeps hk hS); have R_3 := Lib.hid (R_d.out.keeps hk (by omega)); have T_3 := Lib.hid (T_d.out.keeps hk (by omega)); have RW_3 := Lib.hid (RW_d.out.keeps hk (by omega)); have HK_3 := Lib.hid (HK_d.out.trans hk); have S_3 := Lib.hid (src_cast hB); clear hk hB) | (go_at_call 100; (with_reducible refine (next_is (2 * (m : Int)) b S ca k kc (t' + 1) (2 * m) B _ (by simp) (S_2.out.alloc _).drew (B_2.out.alloc _).drew hS hk0 (by omega) (by omega) (by omega)).mono ?_); rintro e w3 ⟨v3, rfl, hv3, hB, hk⟩; have z3 : w2.heap.size ≤ w3.heap.size := (by have := hk.size; (try simp at this); omega); have hv9 : (v3 : Int) < 2 * (m : Int) := (by omega); have hv8 : (0 : Int) ≤ (v3 : Int) := (by omega); have B_3 := Lib.hid (((B_2.out.alloc (.cells #[.int .i64 1, .int .i64 2, .int .i64 7, .int .i64 33] 2)).drew).keeps hk hS); have R_3 := Lib.hid (((R_2.out.alloc (.cells #[.int .i64 1, .int .i64 2, .int .i64 7, .int .i64 33] 2)).drew).keeps hk (by omega)); have T_3 := Lib.hid (((T_2.out.alloc (.cells #[.int .i64 1, .int .i64 2, .int .i64 7, .int .i64 33] 2)).drew).keeps hk (by omega)); have RW_3 := Lib.hid (((RW_2.out.alloc (.cells #[.int .i64 1, .int .i64 2, .int .i64 7, .int .i64 33] 2)).drew).keeps hk (by omega)); have HK_3 := Lib.hid (((HK_2.out.alloc (.cells #[.int .i64 1, .int .i64 2, .int .i64 7, .int .i64 33] 2)).trans (keeps_of_below (Below.refl _ _).drew _ _)).trans hk); have S_3 := Lib.hid (src_cast hB); have QL := Lib.hid (src_keeps ((src_lit w2 (w2.heap.size) 4 #[.int .i64 1, .int .i64 2, .int .i64 7, .int .i64 33] (fun i => ([1, 2, 7, 33] : List Int).getD i 0) rfl (by intro i hi; rcases (by omega : i = 0 ∨ i = 1 ∨ i = 2 ∨ i = 3) with rfl | rfl | rfl | rfl <;> rfl)).drew) hk (by omega)); clear hk hB) | (go_at_call 76; refine (of_any [1, 2, 7, 33] b S _ ca k kc (t' + 1 + 1) 4 B _ w3 S_3.out B_3.out hS hk0 (by omega) rfl (by simp) (by simp) rfl (by simp)).mono ?_; rintro e w4 ⟨v4, rfl, _, hB, hk⟩; have z4 : w3.heap.size ≤ w4.heap.size := (by have := hk.size; (try simp at this); omega); have B_4 := Lib.hid ((B_3.out.alloc _).keeps hk hS); have R_4 := Lib.hid ((R_3.out.alloc _).keeps hk (by omega)); have T_4 := Lib.hid ((T_3.out.alloc _).keeps hk (by omega)); have RW_4 := Lib.hid ((RW_3.out.alloc _).keeps hk (by omega)); have HK_4 := Lib.hid ((HK_3.out.alloc _).trans hk); have S_4 := Lib.hid (src_cast hB); clear hk hB; obtain ⟨cU, fU⟩ := (ownIn_cell RW_4.out v3 (by omega))) | (go_at_call 76; refine (of_blk [1, 2, 7, 33] b S (w2.heap.size) ca k kc (t' + 1 + 1) 4 B _ S_3.out B_3.out hS hk0 (by omega) rfl (by simp) (by simp) QL.out (by omega)).mono ?_; rintro e w4 ⟨v4, rfl, _, hB, hk⟩; have z4 : w3.heap.size ≤ w4.heap.size := (by have := hk.size; (try simp at this); omega); have B_4 := Lib.hid (B_3.out.keeps hk hS); have R_4 := Lib.hid (R_3.out.keeps hk (by omega)); have T_4 := Lib.hid (T_3.out.keeps hk (by omega)); have RW_4 := Lib.hid (RW_3.out.keeps hk (by omega)); have HK_4 := Lib.hid (HK_3.out.trans hk); have S_4 := Lib.hid (src_cast hB); clear hk hB; obtain ⟨cU, fU⟩ := (ownIn_cell RW_4.out v3 (by omega))))
    all_goals (
      have st := Lib.hid (RW_4.out.stored v3 (by omega) v4)
      have S_5 := Lib.hid (S_4.out.other (p := ⟨ub, uo + v3, none⟩) (by (try simp); (try omega)) (.int .i64 v4)); have R_5 := Lib.hid (R_4.out.other (p := ⟨ub, uo + v3, none⟩) (by (try simp); (try omega)) (.int .i64 v4)); have T_5 := Lib.hid (T_4.out.other (p := ⟨ub, uo + v3, none⟩) hne (.int .i64 v4)); have HK_5 := Lib.hid (HK_4.out.setNew (p := ⟨ub, uo + v3, none⟩) (by (try simp); (try omega)) (.int .i64 v4)); have RW_5 := Lib.hid st.out.1
      have z5 : w4.heap.size ≤ (w4.setCell ⟨ub, uo + v3, none⟩ (.int .i64 v4)).heap.size := by simp
      clear st cU fU cT0 fT0 cT1 fT1 lT S_4 R_4 T_4 HK_4 RW_4 S_3 B_3 R_3 T_3 HK_3 RW_3 S_d B_d R_d T_d HK_d RW_d S_2 B_2 R_2 T_2 RW_2 HK_2 B_4
      generalize w4.setCell ⟨ub, uo + v3, none⟩ (.int .i64 v4) = w5 at *
      have lT := T_5.out.1; have cT0 := T_5.out.at 0 rfl; have cT1 := T_5.out.at 1 rfl; have cT2 := T_5.out.at 2 rfl; have cT3 := T_5.out.at 3 rfl
      have lR := R_5.out.1; have cR0 := R_5.out.at 0 rfl; have fR0 := R_5.out.free 0 rfl; have cR1 := R_5.out.at 1 rfl; have fR1 := R_5.out.free 1 rfl; have cR2 := R_5.out.at 2 rfl; have fR2 := R_5.out.free 2 rfl; have cR3 := R_5.out.at 3 rfl; have fR3 := R_5.out.free 3 rfl
      go_wp2
      refine bodyPost_ret (v := .agg #[.int .i64 (m : Int), .slice (some ⟨ub, uo, none⟩) (2 * m) cu, .int .i64 ac, .int .i64 bu]) (by simp [results, Try.results53, go_sem, cR0, cR1, cR2, cR3]) rfl ⟨_, _, _, _, _, (t' + 1 + 1 + 1 : Nat), _, (fun j => if j = v3 then v4 else f j), rfl, ?_, ?_, by omega, ?_, by omega, by omega, by omega⟩
      · refine OwnIn.widen (lo := w.heap.size + 1) (hi := w1.heap.size) ?_ (by omega) (by (try simp); (try omega))
        repeat (with_reducible refine OwnIn.setCell ?_ (.inl (by (try simp); (try omega))) _)
        exact RW_5.out
      · repeat (with_reducible refine Blk.other ?_ (by (try simp); (try omega)) _)
        exact S_5.out
      · repeat (with_reducible refine Keeps.setNew ?_ (by (try simp); (try omega)) _)
        exact HK_5.out
      )
  · have hwx : IntKind.i64.wrap (1 - ac) = 1 - ac := IntWalk.i64_in _ (by omega)
    have lT := T_2.out.1; have cT0 := T_2.out.at 0 rfl; have fT0 := T_2.out.free 0 rfl; have cT1 := T_2.out.at 1 rfl; have fT1 := T_2.out.free 1 rfl; have cT2 := T_2.out.at 2 rfl; have fT2 := T_2.out.free 2 rfl; have cT3 := T_2.out.at 3 rfl; have fT3 := T_2.out.free 3 rfl
    go_upto_region 13 with (fail)
    clear cT0 fT0 cT1 fT1 cT2 fT2 cT3 fT3 lT
    have S_3 := Lib.hid (S_2.out.other (p := ⟨w1.heap.size, 2, none⟩) (by (try simp); (try omega)) (.int .i64 (1 - ac))); have R_3 := Lib.hid (R_2.out.other (p := ⟨w1.heap.size, 2, none⟩) (by (try simp); (try omega)) (.int .i64 (1 - ac))); have RW_3 := Lib.hid (RW_2.out.setCell (p := ⟨w1.heap.size, 2, none⟩) (by (try simp); (try omega)) (.int .i64 (1 - ac))); have HK_3 := Lib.hid (HK_2.out.setNew (p := ⟨w1.heap.size, 2, none⟩) (by (try simp); (try omega)) (.int .i64 (1 - ac)))
    have T_3 : Hid (Blk (w2.setCell ⟨w1.heap.size, 2, none⟩ (.int .i64 (1 - ac))) w1.heap.size [.int .i64 (m : Int), .slice (some ⟨ub, uo, none⟩) (2 * m) cu, .int .i64 (1 - ac), .int .i64 bu]) := Lib.hid (T_2.out.set 2 (by simp) _)
    have z3 : w2.heap.size ≤ (w2.setCell ⟨w1.heap.size, 2, none⟩ (.int .i64 (1 - ac))).heap.size := by simp
    clear S_2 R_2 RW_2 HK_2 T_2
    generalize (w2.setCell ⟨w1.heap.size, 2, none⟩ (.int .i64 (1 - ac))) = w3 at *
    have lT := T_3.out.1; have cT0 := T_3.out.at 0 rfl; have cT1 := T_3.out.at 1 rfl; have cT2 := T_3.out.at 2 rfl; have cT3 := T_3.out.at 3 rfl
    have lR := R_3.out.1; have cR0 := R_3.out.at 0 rfl; have fR0 := R_3.out.free 0 rfl; have cR1 := R_3.out.at 1 rfl; have fR1 := R_3.out.free 1 rfl; have cR2 := R_3.out.at 2 rfl; have fR2 := R_3.out.free 2 rfl; have cR3 := R_3.out.at 3 rfl; have fR3 := R_3.out.free 3 rfl
    go_wp2
    refine bodyPost_ret (v := .agg #[.int .i64 (m : Int), .slice (some ⟨ub, uo, none⟩) (2 * m) cu, .int .i64 (1 - ac), .int .i64 bu]) (by simp [results, Try.results53, go_sem, cR0, cR1, cR2, cR3]) rfl ⟨_, _, _, _, _, (t' + 1 : Nat), _, f, rfl, ?_, ?_, by omega, ?_, by omega, by omega, by omega⟩
    · refine OwnIn.widen (lo := w.heap.size + 1) (hi := w1.heap.size) ?_ (by omega) (by (try simp); (try omega))
      repeat (with_reducible refine OwnIn.setCell ?_ (.inl (by (try simp); (try omega))) _)
      exact RW_3.out
    · repeat (with_reducible refine Blk.other ?_ (by (try simp); (try omega)) _)
      exact S_3.out
    · repeat (with_reducible refine Keeps.setNew ?_ (by (try simp); (try omega)) _)
      exact HK_3.out
  · go_upto_region 13 with (fail)
    have lT := T_2.out.1; have cT0 := T_2.out.at 0 rfl; have cT1 := T_2.out.at 1 rfl; have cT2 := T_2.out.at 2 rfl; have cT3 := T_2.out.at 3 rfl
    have lR := R_2.out.1; have cR0 := R_2.out.at 0 rfl; have fR0 := R_2.out.free 0 rfl; have cR1 := R_2.out.at 1 rfl; have fR1 := R_2.out.free 1 rfl; have cR2 := R_2.out.at 2 rfl; have fR2 := R_2.out.free 2 rfl; have cR3 := R_2.out.at 3 rfl; have fR3 := R_2.out.free 3 rfl
    go_wp2
    refine bodyPost_ret (v := .agg #[.int .i64 (m : Int), .slice (some ⟨ub, uo, none⟩) (2 * m) cu, .int .i64 ac, .int .i64 bu]) (by simp [results, Try.results53, go_sem, cR0, cR1, cR2, cR3]) rfl ⟨_, _, _, _, _, (t' + 1 : Nat), _, f, rfl, ?_, ?_, by omega, ?_, by omega, by omega, by omega⟩
    · refine OwnIn.widen (lo := w.heap.size + 1) (hi := w1.heap.size) ?_ (by omega) (by (try simp); (try omega))
      repeat (with_reducible refine OwnIn.setCell ?_ (.inl (by (try simp); (try omega))) _)
      exact RW_2.out
    · repeat (with_reducible refine Blk.other ?_ (by (try simp); (try omega)) _)
      exact S_2.out
    · repeat (with_reducible refine Keeps.setNew ?_ (by (try simp); (try omega)) _)
      exact HK_2.out
end Go.Proofs.Ytlelgfkebcnepaa

namespace Go.Proofs.Ytlelgfkebcnepaa
open Go.RowKit
set_option linter.unusedVariables false

/-- A number is drawn; the source's block alone is written. -/
def RetSome (W : World) (b : Nat) (ca : Option Addr) (k kc t : Nat) (e : Ending) (w' : World) : Prop :=
  ∃ (v : Int) (t' : Nat), e = .returned (.int .i64 v) ∧ Blk w' b [.slice ca k kc, .int .i64 (t' : Int)] ∧ t' ≤ t + 3 ∧ Keeps W w' b (b + 1)

def RetChance (W : World) (b : Nat) (ca : Option Addr) (k kc t : Nat) (e : Ending) (w' : World) : Prop :=
  ∃ r : Bool, e = .returned (.bool r) ∧ Blk w' b [.slice ca k kc, .int .i64 ((t : Int) + 1)] ∧ Keeps W w' b (b + 1)

set_option maxRecDepth 100000 in
set_option maxHeartbeats 800000 in
theorem chance_any (b S : Nat) (ca : Option Addr) (k kc t : Nat) (B : Nat → Int) (w : World) (hB0 : Blk w b [.slice ca k kc, .int .i64 (t : Int)]) (hs : SrcB w S ca k B) (hS : S ≤ b) (hk0 : k ≤ 1048576) (q : Nat) (hq : 1 ≤ q) (hq2 : q ≤ 5000) (ht : t ≤ 10000) : Calls Try.prog 54 #[.pointer (some ⟨b, 0, none⟩), .int .i64 (q : Int)] w (RetChance w b ca k kc t) := by
  have S_0 := Lib.hid hB0; have B_0 := Lib.hid hs
  clear hB0 hs
  go_enter Try.func54, Try.ntmps54
  go_wp2_with fail
  refine (next_any b S ca k kc t q B _ S_0.out B_0.out hS hk0 ht hq hq2).mono ?_
  rintro e w1 ⟨v, rfl, hv, hB, hk⟩
  have HB := Lib.hid hB; have HK := Lib.hid hk
  clear hB hk
  by_cases h0 : v = 0
  · subst h0
    go_wp2
    go_ret
    exact ⟨true, rfl, HB.out, HK.out⟩
  · have hd : ((v : Int) == 0) = false := by simpa using h0
    go_wp2
    go_ret
    exact ⟨false, rfl, HB.out, HK.out⟩

set_option maxRecDepth 100000 in
set_option maxHeartbeats 1600000 in
theorem some_code (b S : Nat) (ca : Option Addr) (k kc t : Nat) (B : Nat → Int) (w : World) (hB0 : Blk w b [.slice ca k kc, .int .i64 (t : Int)]) (hs : SrcB w S ca k B) (hS : S ≤ b) (hk0 : k ≤ 1048576) (aB lo hi : Nat) (h ac bu : Int) (a : Option Addr) (n c : Nat) (f : Nat → Int) (hA : Blk w aB [.int .i64 h, .slice a n c, .int .i64 ac, .int .i64 bu]) (ho : OwnIn w lo hi a n f) (hlo : b + 1 ≤ lo ∨ hi ≤ b) (hab : aB ≠ b) (hcn : n ≤ c) (hcm : c ≤ maxLen) (ht : t ≤ 5000) (kf : Int) (hkf : IsFault h n f ac bu kf) (h0 : ¬ kf = 0) :
    Calls Try.prog 61 #[.pointer (some ⟨b, 0, none⟩), .pointer (some ⟨aB, 0, none⟩)] w (RetSome w b ca k kc t) := by
  have S_0 := Lib.hid hB0; have B_0 := Lib.hid hs; have A_0 := Lib.hid hA; have RW_0 := Lib.hid ho; have HK_0 := Lib.hid (Keeps.refl w b (b + 1)); have HCM := Lib.hid hcm
  have lb := hB0.1
  have l0 := hA.1; have cA0 := hA.at 0 rfl; have cA1 := hA.at 1 rfl; have cA2 := hA.at 2 rfl; have cA3 := hA.at 3 rfl
  have HKF := Lib.hid hkf
  clear hB0 hs hA ho hcm hkf
  go_enter Try.func61, Try.ntmps61
  go_wp2_with fail
  refine (specFault_any _ _ _ _ _ _ f kf _ (RW_0.out.src) HKF.out).mono ?_
  rintro e w1 ⟨rfl, hb⟩
  have hk := keeps_of_below hb b (b + 1)
  have z1 : w.heap.size ≤ w1.heap.size := hk.size
  have S_1 := Lib.hid (S_0.out.below hb); have B_1 := Lib.hid (B_0.out.below hb); have A_1 := Lib.hid (A_0.out.below hb); have RW_1 := Lib.hid (RW_0.out.below hb); have HK_1 := Lib.hid (HK_0.out.trans hk)
  clear hk hb S_0 B_0 A_0 RW_0 HK_0 l0 cA0 cA1 cA2 cA3
  have hd : (kf == 0) = false := by simpa using h0
  go_wp2_with fail
  refine (of_any [0, 1, -1, 24, 400] b S _ ca k kc (t) 5 B _ _ S_1.out B_1.out hS hk0 (by omega) rfl (by simp) (by simp) rfl (by simp)).mono ?_
  rintro e w9 ⟨v9, rfl, _, hB, hk⟩
  have HK_9 := Lib.hid (HK_1.out.alloc _ |>.trans hk); have S_9 := Lib.hid hB
  clear hB hk
  go_wp2
  go_ret
  exact ⟨v9, _, rfl, src_cast S_9.out, by omega, HK_9.out⟩

set_option maxRecDepth 100000 in
set_option maxHeartbeats 1600000 in
theorem some_zero (b S : Nat) (ca : Option Addr) (k kc t : Nat) (B : Nat → Int) (w : World) (hB0 : Blk w b [.slice ca k kc, .int .i64 (t : Int)]) (hs : SrcB w S ca k B) (hS : S ≤ b) (hk0 : k ≤ 1048576) (aB lo hi : Nat) (h ac bu : Int) (a : Option Addr) (n c : Nat) (f : Nat → Int) (hA : Blk w aB [.int .i64 h, .slice a n c, .int .i64 ac, .int .i64 bu]) (ho : OwnIn w lo hi a n f) (hlo : b + 1 ≤ lo ∨ hi ≤ b) (hab : aB ≠ b) (hcn : n ≤ c) (hcm : c ≤ maxLen) (ht : t ≤ 5000) (hkf : IsFault h n f ac bu 0) :
    Calls Try.prog 61 #[.pointer (some ⟨b, 0, none⟩), .pointer (some ⟨aB, 0, none⟩)] w (RetSome w b ca k kc t) := by
  have S_0 := Lib.hid hB0; have B_0 := Lib.hid hs; have A_0 := Lib.hid hA; have RW_0 := Lib.hid ho; have HK_0 := Lib.hid (Keeps.refl w b (b + 1)); have HCM := Lib.hid hcm
  have lb := hB0.1
  have l0 := hA.1; have cA0 := hA.at 0 rfl; have cA1 := hA.at 1 rfl; have cA2 := hA.at 2 rfl; have cA3 := hA.at 3 rfl
  have HKF := Lib.hid hkf
  clear hB0 hs hA ho hcm hkf
  go_enter Try.func61, Try.ntmps61
  go_wp2_with fail
  refine (specFault_any _ _ _ _ _ _ f 0 _ (RW_0.out.src) HKF.out).mono ?_
  rintro e w1 ⟨rfl, hb⟩
  have hk := keeps_of_below hb b (b + 1)
  have z1 : w.heap.size ≤ w1.heap.size := hk.size
  have S_1 := Lib.hid (S_0.out.below hb); have B_1 := Lib.hid (B_0.out.below hb); have A_1 := Lib.hid (A_0.out.below hb); have RW_1 := Lib.hid (RW_0.out.below hb); have HK_1 := Lib.hid (HK_0.out.trans hk)
  clear hk hb S_0 B_0 A_0 RW_0 HK_0 l0 cA0 cA1 cA2 cA3
  go_wp2_with fail
  refine (chance_any b S ca k kc t B _ S_1.out B_1.out hS hk0 6 (by omega) (by omega) (by omega)).mono ?_
  rintro e w2 ⟨r, rfl, hB, hk⟩
  have z2 : w1.heap.size ≤ w2.heap.size := by have := hk.size; (try simp at this); omega
  have S_2 := Lib.hid (src_cast hB); have B_2 := Lib.hid (B_1.out.keeps hk hS); have HK_2 := Lib.hid (HK_1.out.trans hk); have A_2 := Lib.hid (A_1.out.keeps hk (by omega)); have RW_2 := Lib.hid (RW_1.out.keeps hk (by omega))
  clear hk hB S_1 B_1 HK_1 A_1 RW_1
  cases r
  · have cA0 := A_2.out.at 0 rfl; have cA1 := A_2.out.at 1 rfl; have cA2 := A_2.out.at 2 rfl; have cA3 := A_2.out.at 3 rfl
    obtain ⟨⟨⟨g1, g2⟩, ⟨g3, g4⟩, g5, g6⟩, gn, gw⟩ := isFault_ok HKF.out
    have HWD : Hid (∀ i, i < n → f i ≤ 9223372036854775807) := Lib.hid (fun i hi => by have := gw i hi; unfold Word at this; omega)
    have hb9 := baseI_bd (ac := ac) g1
    obtain ⟨P, hP⟩ : ∃ P : Nat, baseI ac h = (P : Int) := ⟨(baseI ac h).toNat, by omega⟩
    obtain ⟨U, rfl⟩ : ∃ U : Nat, bu = (U : Int) := ⟨bu.toNat, by omega⟩
    have hPU : P + U ≤ n := by rcases (by omega : ac = 0 ∨ ac = 1) with rfl | rfl <;> simp [baseI] at hP <;> omega
    have hn4 : n ≤ 400 := by omega
    obtain ⟨ub, uo, rfl, hub, hubw, _⟩ := ownIn_some RW_2.out (by omega)
    have HPH := Lib.hid hP
    clear hP gn gw cA0 cA1 cA2 cA3
    go_wp2_with fail
    refine (l3Objects_any aB P U h ac ub uo n c f _ A_2.out RW_2.out.src g1 g2 g3 g4 HPH.out hPU hn4 hcn HCM.out HWD.out).mono ?_
    rintro e w3 ⟨hb, hr⟩
    have hk := keeps_of_below hb b (b + 1)
    have z3 : w2.heap.size ≤ w3.heap.size := hk.size
    have S_3 := Lib.hid (S_2.out.below hb); have B_3 := Lib.hid (B_2.out.below hb); have HK_3 := Lib.hid (HK_2.out.trans hk)
    clear hk hb S_2 B_2 A_2 RW_2 HK_2
    rcases hr with ⟨_, rfl⟩ | ⟨v, M, hp, rfl, hown, _⟩
    · go_wp2_with fail
      refine (of_any [0, 1, -1, 24, 400] b S _ ca k kc (t + 1) 5 B _ _ S_3.out B_3.out hS hk0 (by omega) rfl (by simp) (by simp) rfl (by simp)).mono ?_
      rintro e w9 ⟨v9, rfl, _, hB, hk⟩
      have HK_9 := Lib.hid (HK_3.out.alloc _ |>.trans hk); have S_9 := Lib.hid hB
      clear hB hk
      go_wp2
      go_ret
      exact ⟨v9, _, rfl, src_cast S_9.out, by omega, HK_9.out⟩
    · have hlM := parse_length (P + U - P) P _ (Nat.le_refl _) hp
      have hlM4 : M.length ≤ 400 := by simp at hlM; omega
      obtain ⟨aq, kq, hv⟩ := row_nil hown
      subst hv
      have OW_3 := Lib.hid hown
      clear hp hlM hown
      by_cases hm : 0 < M.length
      · have hm' : (0 : Int) < (M.length : Int) := by omega
        obtain ⟨gq, cq, e1, _, lq, oq⟩ := row_form OW_3.out hm
        simp only [Value.slice.injEq] at e1
        obtain ⟨rfl, -, rfl⟩ := e1
        clear oq
        go_wp2_with fail
        refine (next_is (M.length : Int) b S ca k kc (t + 1) M.length B _ rfl S_3.out B_3.out hS hk0 (by omega) (by omega) (by omega)).mono ?_
        rintro e w4 ⟨v4, rfl, hv4, hB, hk⟩
        have hv0 : (0 : Int) ≤ (v4 : Int) := by omega
        have hv1 : (v4 : Int) < (M.length : Int) := by omega
        have OW_4 := Lib.hid (ownsRow_keeps OW_3.out hk (by omega)); have HK_4 := Lib.hid (HK_3.out.trans hk); have S_4 := Lib.hid hB
        clear hB hk S_3 B_3 HK_3 OW_3
        have hgj := List.getElem?_eq_getElem hv4
        obtain ⟨⟨x0, _⟩, lq4⟩ := row_six OW_4.out hgj
        generalize M[v4] = tj at *
        go_wp2
        go_ret
        exact ⟨tj.x.at_, _, rfl, src_cast S_4.out, by omega, HK_4.out⟩
      · have hm' : ¬ (0 : Int) < (M.length : Int) := by omega
        go_wp2_with fail
        refine (of_any [0, 1, -1, 24, 400] b S _ ca k kc (t + 1) 5 B _ _ S_3.out B_3.out hS hk0 (by omega) rfl (by simp) (by simp) rfl (by simp)).mono ?_
        rintro e w9 ⟨v9, rfl, _, hB, hk⟩
        have HK_9 := Lib.hid (HK_3.out.alloc _ |>.trans hk); have S_9 := Lib.hid hB
        clear hB hk
        go_wp2
        go_ret
        exact ⟨v9, _, rfl, src_cast S_9.out, by omega, HK_9.out⟩
  · go_wp2_with fail
    refine (of_any [0, 1, -1, 24, 400] b S _ ca k kc (t + 1) 5 B _ _ S_2.out B_2.out hS hk0 (by omega) rfl (by simp) (by simp) rfl (by simp)).mono ?_
    rintro e w9 ⟨v9, rfl, _, hB, hk⟩
    have HK_9 := Lib.hid (HK_2.out.alloc _ |>.trans hk); have S_9 := Lib.hid hB
    clear hB hk
    go_wp2
    go_ret
    exact ⟨v9, _, rfl, src_cast S_9.out, by omega, HK_9.out⟩

theorem some_any (b S : Nat) (ca : Option Addr) (k kc t : Nat) (B : Nat → Int) (w : World) (hB0 : Blk w b [.slice ca k kc, .int .i64 (t : Int)]) (hs : SrcB w S ca k B) (hS : S ≤ b) (hk0 : k ≤ 1048576) (aB lo hi : Nat) (h ac bu : Int) (a : Option Addr) (n c : Nat) (f : Nat → Int) (hA : Blk w aB [.int .i64 h, .slice a n c, .int .i64 ac, .int .i64 bu]) (ho : OwnIn w lo hi a n f) (hlo : b + 1 ≤ lo ∨ hi ≤ b) (hab : aB ≠ b) (hcn : n ≤ c) (hcm : c ≤ maxLen) (ht : t ≤ 5000) :
    Calls Try.prog 61 #[.pointer (some ⟨b, 0, none⟩), .pointer (some ⟨aB, 0, none⟩)] w (RetSome w b ca k kc t) := by
  obtain ⟨kf, hkf⟩ := isFault_some h n f ac bu
  by_cases h0 : kf = 0
  · subst h0
    exact some_zero b S ca k kc t B w hB0 hs hS hk0 aB lo hi h ac bu a n c f hA ho hlo hab hcn hcm ht hkf
  · exact some_code b S ca k kc t B w hB0 hs hS hk0 aB lo hi h ac bu a n c f hA ho hlo hab hcn hcm ht kf hkf h0
end Go.Proofs.Ytlelgfkebcnepaa

namespace Go.Proofs.Ytlelgfkebcnepaa
open Go.RowKit
set_option linter.unusedVariables false

def RetB2 (W : World) (e : Ending) (w' : World) : Prop :=
  ∃ (h ac bu q : Int) (n c : Nat) (a : Option Addr) (f : Nat → Int), e = .returned (.tuple #[.agg #[.int .i64 h, .slice a n c, .int .i64 ac, .int .i64 bu], .int .i64 q]) ∧ Own w' W.heap.size a n f ∧ Below W.heap.size W w' ∧ n ≤ 120 ∧ n ≤ c ∧ c ≤ maxLen

def RetB3 (W : World) (e : Ending) (w' : World) : Prop :=
  ∃ (h ac bu q r : Int) (n c : Nat) (a : Option Addr) (f : Nat → Int), e = .returned (.tuple #[.agg #[.int .i64 h, .slice a n c, .int .i64 ac, .int .i64 bu], .int .i64 q, .int .i64 r]) ∧ Own w' W.heap.size a n f ∧ Below W.heap.size W w' ∧ n ≤ 120 ∧ n ≤ c ∧ c ≤ maxLen

def RetB4 (W : World) (e : Ending) (w' : World) : Prop :=
  ∃ (h ac bu q r v : Int) (n c : Nat) (a : Option Addr) (f : Nat → Int), e = .returned (.tuple #[.agg #[.int .i64 h, .slice a n c, .int .i64 ac, .int .i64 bu], .int .i64 q, .int .i64 r, .int .i64 v]) ∧ Own w' W.heap.size a n f ∧ Below W.heap.size W w' ∧ n ≤ 120 ∧ n ≤ c ∧ c ≤ maxLen

theorem four_keeps (w : World) (B : Nat) (v0 v1 v2 v3 : Value) : Keeps w ((((w.setCell ⟨B, 0, none⟩ v0).setCell ⟨B, 1, none⟩ v1).setCell ⟨B, 2, none⟩ v2).setCell ⟨B, 3, none⟩ v3) B (B + 1) := by
  refine Keeps.trans ?_ (keeps_setCell (p := ⟨B, 3, none⟩) (Nat.le_refl B) (Nat.lt_succ_self B) _)
  refine Keeps.trans ?_ (keeps_setCell (p := ⟨B, 2, none⟩) (Nat.le_refl B) (Nat.lt_succ_self B) _)
  refine Keeps.trans ?_ (keeps_setCell (p := ⟨B, 1, none⟩) (Nat.le_refl B) (Nat.lt_succ_self B) _)
  refine Keeps.trans ?_ (keeps_setCell (p := ⟨B, 0, none⟩) (Nat.le_refl B) (Nat.lt_succ_self B) _)
  exact Keeps.refl _ _ _

theorem blk_four {w : World} {b B : Nat} {cs : List Value} (h : Blk w b cs) (hne : b ≠ B) (v0 v1 v2 v3 : Value) : Blk ((((w.setCell ⟨B, 0, none⟩ v0).setCell ⟨B, 1, none⟩ v1).setCell ⟨B, 2, none⟩ v2).setCell ⟨B, 3, none⟩ v3) b cs := h.keeps (four_keeps w B v0 v1 v2 v3) (by omega)

theorem later3_any (ca : Option Addr) (k kc : Nat) (w : World) :
    Calls Try.prog 75 #[.slice ca k kc, .int .i64 3] w fun e w' => e = .returned (.pointer (some ⟨w.heap.size, 0, none⟩)) ∧ w' = w.alloc (.cells #[.slice ca k kc, .int .i64 26] 133) := by
  go_enter Try.func75, Try.ntmps75
  go_wp2
  go_ret
  exact ⟨rfl, rfl⟩

set_option maxRecDepth 100000 in
set_option maxHeartbeats 1600000 in
theorem drawOA_any (ca : Option Addr) (k kc : Nat) (B : Nat → Int) (w : World) (hs : SrcB w w.heap.size ca k B) (hk0 : k ≤ 1048576) :
    Calls Try.prog 17 #[.slice ca k kc] w (RetB2 w) := by
  have B_0 := Lib.hid hs
  clear hs
  go_enter Try.func17, Try.ntmps17
  go_wp2_with fail
  refine (source_any ca k kc _).mono ?_
  rintro e w' ⟨rfl, rfl⟩
  go_wp2_with fail
  refine (bent3_any (w.heap.size + 1) (w.heap.size + 1) ca k kc 0 B _ (Blk.new_at (w.heap.size + 1) (by simp)) (((B_0.out.alloc _).alloc _).mono (by omega)) (Nat.le_refl _) hk0 (by omega)).mono ?_
  rintro e w1 ⟨h, ac, bu, n, c, t, a, f, rfl, ho, hB, ht, hk, hn, hnc, hcm⟩
  have z1 : w.heap.size + 2 ≤ w1.heap.size := by have := hk.size; simp at this; omega
  have HB_1 : Hid (Below w.heap.size w w1) := (((Below.refl _ _).alloc (Nat.le_refl _) _).alloc (by simp) _).trans (hk.below (by omega) (by simp; omega))
  have S_1 := Lib.hid hB
  have B_1 : Hid (SrcB w1 (w.heap.size + 1) ca k B) := (((B_0.out.alloc _).alloc _).mono (by omega)).keeps hk (Nat.le_refl _)
  have R_1 := Lib.hid (((Blk.new_at (w.heap.size) rfl).alloc _).keeps hk (by omega))
  have RW_1 : Hid (OwnIn w1 (w.heap.size + 2) w1.heap.size a n f) := ho.widen (by simp) (Nat.le_refl _)
  clear ho hB hk B_0
  go_upto_region 3 with (fail)
  have T_2 : Hid (Blk (w1.alloc (.cells #[.int .i64 h, .slice a n c, .int .i64 ac, .int .i64 bu] 26)) w1.heap.size [.int .i64 h, .slice a n c, .int .i64 ac, .int .i64 bu]) := Lib.hid (Blk.new_at (w := w1) (w1.heap.size) rfl)
  have S_2 := Lib.hid (S_1.out.alloc (.cells #[.int .i64 h, .slice a n c, .int .i64 ac, .int .i64 bu] 26)); have B_2 := Lib.hid (B_1.out.alloc (.cells #[.int .i64 h, .slice a n c, .int .i64 ac, .int .i64 bu] 26)); have R_2 := Lib.hid (R_1.out.alloc (.cells #[.int .i64 h, .slice a n c, .int .i64 ac, .int .i64 bu] 26)); have RW_2 := Lib.hid (RW_1.out.alloc (.cells #[.int .i64 h, .slice a n c, .int .i64 ac, .int .i64 bu] 26)); have HB_2 : Hid (Below w.heap.size w (w1.alloc (.cells #[.int .i64 h, .slice a n c, .int .i64 ac, .int .i64 bu] 26))) := Lib.hid (HB_1.out.alloc HB_1.out.size (.cells #[.int .i64 h, .slice a n c, .int .i64 ac, .int .i64 bu] 26))
  have z2 : w1.heap.size + 1 ≤ (w1.alloc (.cells #[.int .i64 h, .slice a n c, .int .i64 ac, .int .i64 bu] 26)).heap.size := by simp
  clear S_1 B_1 R_1 RW_1 HB_1
  generalize (w1.alloc (.cells #[.int .i64 h, .slice a n c, .int .i64 ac, .int .i64 bu] 26)) = w2 at *
  have T_d := Lib.hid T_2.out.drew; have S_d := Lib.hid S_2.out.drew; have B_d := Lib.hid B_2.out.drew; have R_d := Lib.hid R_2.out.drew; have RW_d := Lib.hid RW_2.out.drew; have HB_d : Hid (Below w.heap.size w w2.drew) := Lib.hid (HB_2.out.trans ((Below.refl _ _).drew.mono HB_2.out.size))
  go_region_held3 (fun w' => w'.cell? ⟨w1.heap.size, 0, none⟩ = some (.int .i64 h) ∧ w'.cell? ⟨w1.heap.size, 1, none⟩ = some (.slice a n c) ∧ w'.cell? ⟨w1.heap.size, 2, none⟩ = some (.int .i64 ac) ∧ w'.cell? ⟨w1.heap.size, 3, none⟩ = some (.int .i64 bu))
    (first | (with_reducible exact ⟨T_2.out.at 0 rfl, T_2.out.at 1 rfl, T_2.out.at 2 rfl, T_2.out.at 3 rfl⟩) | (with_reducible exact ⟨T_d.out.at 0 rfl, T_d.out.at 1 rfl, T_d.out.at 2 rfl, T_d.out.at 3 rfl⟩) | (with_reducible exact ⟨T_3.out.at 0 rfl, T_3.out.at 1 rfl, T_3.out.at 2 rfl, T_3.out.at 3 rfl⟩) | (exact ⟨((((T_3.out.other (by (try simp); (try omega)) _).other (by (try simp); (try omega)) _).other (by (try simp); (try omega)) _).other (by (try simp); (try omega)) _).at 0 rfl, ((((T_3.out.other (by (try simp); (try omega)) _).other (by (try simp); (try omega)) _).other (by (try simp); (try omega)) _).other (by (try simp); (try omega)) _).at 1 rfl, ((((T_3.out.other (by (try simp); (try omega)) _).other (by (try simp); (try omega)) _).other (by (try simp); (try omega)) _).other (by (try simp); (try omega)) _).at 2 rfl, ((((T_3.out.other (by (try simp); (try omega)) _).other (by (try simp); (try omega)) _).other (by (try simp); (try omega)) _).other (by (try simp); (try omega)) _).at 3 rfl⟩))
    (first | (go_at_call 61; refine (some_any (w.heap.size + 1) (w.heap.size + 1) ca k kc (t) B _ S_d.out B_d.out (Nat.le_refl _) hk0 w1.heap.size (w.heap.size + 2) w1.heap.size h ac bu a n c f T_d.out RW_d.out (.inl (Nat.le_refl _)) (by omega) hnc hcm (by omega)).mono ?_; rintro e w3 ⟨q, t2, rfl, hB, ht2, hk⟩; have z3 : w2.heap.size ≤ w3.heap.size := (by have := hk.size; simpa using this); have HB_3 : Hid (Below w.heap.size w w3) := Lib.hid (HB_d.out.trans (hk.below (by omega) (by have := HB_d.out.size; simpa using this))); have T_3 := Lib.hid (T_d.out.keeps hk (by omega)); have R_3 := Lib.hid (R_d.out.keeps hk (by omega)); have RW_3 := Lib.hid (RW_d.out.keeps hk (by omega)); have S_3 := Lib.hid hB; clear hk hB; have lR := R_3.out.1; have cR0 := R_3.out.at 0 rfl; have fR0 := R_3.out.free 0 rfl; have cR1 := R_3.out.at 1 rfl; have fR1 := R_3.out.free 1 rfl; have cR2 := R_3.out.at 2 rfl; have fR2 := R_3.out.free 2 rfl; have cR3 := R_3.out.at 3 rfl; have fR3 := R_3.out.free 3 rfl))
  have cR0 := R_3.out.at 0 rfl; have fR0 := R_3.out.free 0 rfl
  have cR1 := R_3.out.at 1 rfl; have fR1 := R_3.out.free 1 rfl
  have cR2 := R_3.out.at 2 rfl; have fR2 := R_3.out.free 2 rfl
  have cR3 := R_3.out.at 3 rfl; have fR3 := R_3.out.free 3 rfl
  have lR := R_3.out.1
  have hz := HB_3.out.size
  go_wp2
  refine bodyPost_ret (v := .tuple #[.agg #[.int .i64 h, .slice a n c, .int .i64 ac, .int .i64 bu], .int .i64 q]) (by simp [results, Try.results17, go_sem, cR0, cR1, cR2, cR3]) rfl ⟨_, _, _, _, _, _, a, f, rfl, ?_, ?_, hn, hnc, hcm⟩
  · refine Own.mono (B := w.heap.size + 2) ?_ (by omega)
    repeat (with_reducible refine Own.setCell ?_ (by (try simp); (try omega)) _)
    exact (RW_3.out.widen (Nat.le_refl _) (Nat.le_refl _)).out
  · repeat (with_reducible refine Below.setCell ?_ (by (try simp); (try omega)) _)
    exact HB_3.out

theorem SrcB.now' {w : World} {S : Nat} {a : Option Addr} {k : Nat} {B : Nat → Int} (h : SrcB w S a k B) : SrcB w w.heap.size a k B := by
  rcases h with h | ⟨b, off, h1, h2, h3, h4⟩
  · exact .inl h
  · exact .inr ⟨b, off, h1, h3, h3, h4⟩

def lw3 (i : Nat) : Int := [0, 0, 1, 2, 3, -1].getD i 0

theorem lw3_at : ∀ i, i < 6 → (#[.int .i64 0, .int .i64 0, .int .i64 1, .int .i64 2, .int .i64 3, .int .i64 (-1)] : Array Value)[i]? = some (.int .i64 (lw3 i)) := by
  intro i hi
  match i, hi with
  | 0, _ => rfl
  | 1, _ => rfl
  | 2, _ => rfl
  | 3, _ => rfl
  | 4, _ => rfl
  | 5, _ => rfl

set_option maxRecDepth 100000 in
set_option maxHeartbeats 3200000 in
theorem drawFA_any (ca : Option Addr) (k kc : Nat) (B : Nat → Int) (w : World) (hs : SrcB w w.heap.size ca k B) (hk0 : k ≤ 1048576) :
    Calls Try.prog 27 #[.slice ca k kc] w (RetB3 w) := by
  have B_0 := Lib.hid hs
  clear hs
  go_enter Try.func27, Try.ntmps27
  go_wp2_with fail
  refine (drawOA_any ca k kc B _ ((B_0.out.alloc _).now') hk0).mono ?_
  rintro e w1 ⟨h, ac, bu, x, n, c, a, f, rfl, ho, hb, hn, hnc, hcm⟩
  have HB_1 := Lib.hid (thru1 (Below.refl _ _) hb)
  have z1 : w.heap.size + 1 ≤ w1.heap.size := by have := hb.size; simp at this; omega
  have R_1 := Lib.hid ((Blk.new_at (w := w) (cs := #[.int .i64 0, .slice none 0 0, .int .i64 0, .int .i64 0]) (t := 26) (w.heap.size) rfl).below hb)
  have B_1 := Lib.hid (((B_0.out.alloc _).below hb).now')
  have RW_1 : Hid (OwnIn w1 (w.heap.size + 1) w1.heap.size a n f) := (ho.mono (by simp)).into
  clear hb ho B_0
  go_wp2_with fail
  have HB_2 := Lib.hid (HB_1.out.alloc HB_1.out.size (.cells #[.int .i64 h, .slice a n c, .int .i64 ac, .int .i64 bu] 26))
  have R_2 := Lib.hid (R_1.out.alloc (.cells #[.int .i64 h, .slice a n c, .int .i64 ac, .int .i64 bu] 26))
  have B_2 := Lib.hid (B_1.out.alloc (.cells #[.int .i64 h, .slice a n c, .int .i64 ac, .int .i64 bu] 26))
  have RW_2 := Lib.hid (RW_1.out.alloc (.cells #[.int .i64 h, .slice a n c, .int .i64 ac, .int .i64 bu] 26))
  have T_2 : Hid (Blk (w1.alloc (.cells #[.int .i64 h, .slice a n c, .int .i64 ac, .int .i64 bu] 26)) w1.heap.size [.int .i64 h, .slice a n c, .int .i64 ac, .int .i64 bu]) := Blk.new_at (w1.heap.size) rfl
  clear HB_1 R_1 B_1 RW_1
  go_region_held3 (fun w' => w'.cell? ⟨w1.heap.size, 0, none⟩ = some (.int .i64 h) ∧ w'.cell? ⟨w1.heap.size, 1, none⟩ = some (.slice a n c) ∧ w'.cell? ⟨w1.heap.size, 2, none⟩ = some (.int .i64 ac) ∧ w'.cell? ⟨w1.heap.size, 3, none⟩ = some (.int .i64 bu))
    (first | with_reducible exact ⟨T_2.out.drew.at 0 rfl, T_2.out.drew.at 1 rfl, T_2.out.drew.at 2 rfl, T_2.out.drew.at 3 rfl⟩ | with_reducible exact ⟨(T_2.out.alloc _).drew.at 0 rfl, (T_2.out.alloc _).drew.at 1 rfl, (T_2.out.alloc _).drew.at 2 rfl, (T_2.out.alloc _).drew.at 3 rfl⟩ | with_reducible exact ⟨((T_2.out.alloc _).alloc _).drew.at 0 rfl, ((T_2.out.alloc _).alloc _).drew.at 1 rfl, ((T_2.out.alloc _).alloc _).drew.at 2 rfl, ((T_2.out.alloc _).alloc _).drew.at 3 rfl⟩ | with_reducible exact ⟨T_3.out.at 0 rfl, T_3.out.at 1 rfl, T_3.out.at 2 rfl, T_3.out.at 3 rfl⟩ | with_reducible exact ⟨(blk_four T_3.out (by omega) _ _ _ _).at 0 rfl, (blk_four T_3.out (by omega) _ _ _ _).at 1 rfl, (blk_four T_3.out (by omega) _ _ _ _).at 2 rfl, (blk_four T_3.out (by omega) _ _ _ _).at 3 rfl⟩)
    (first | (go_at_call 75; refine (later_any ca k kc _).mono ?_; rintro e w' ⟨rfl, rfl⟩) | (go_at_call 76; (with_reducible refine (pick_any (w1.heap.size + 1) w1.heap.size (w1.heap.size + 1 + 1) ca k kc 19 6 B lw3 _ (((blk_later (w1.heap.size + 1) (by simp)).alloc _).drew) (((B_2.out.alloc _).alloc _).drew) (by omega) hk0 (by omega) (by omega) (by omega) ((src_lit _ (w1.heap.size + 1 + 1) 6 _ lw3 (by simp) lw3_at).drew) (by omega)).mono ?_); rintro e w3 ⟨i3, rfl, _, hB, hk⟩; have HB_3 := Lib.hid (((((HB_2.out.alloc HB_2.out.size _).alloc (by have := HB_2.out.size; simp; omega) _).drew)).trans (hk.below (by omega) (by have := HB_2.out.size; simp; omega))); have R_3 := Lib.hid ((((R_2.out.alloc _).alloc _).drew).keeps hk (by omega)); have T_3 := Lib.hid ((((T_2.out.alloc _).alloc _).drew).keeps hk (by omega)); have RW_3 := Lib.hid ((((RW_2.out.alloc _).alloc _).drew).keeps hk (by omega)); have y3 : w1.heap.size < w3.heap.size := T_3.out.1; have lR := R_3.out.1; have cR0 := R_3.out.at 0 rfl; have fR0 := R_3.out.free 0 rfl; have cR1 := R_3.out.at 1 rfl; have fR1 := R_3.out.free 1 rfl; have cR2 := R_3.out.at 2 rfl; have fR2 := R_3.out.free 2 rfl; have cR3 := R_3.out.at 3 rfl; have fR3 := R_3.out.free 3 rfl; clear hk hB) | (go_at_call 76; (with_reducible refine (pick_any (w1.heap.size + 1 + 1) w1.heap.size (w1.heap.size + 1) ca k kc 19 6 B lw3 _ ((blk_later (w1.heap.size + 1 + 1) (by simp)).drew) (((B_2.out.alloc _).alloc _).drew) (by omega) hk0 (by omega) (by omega) (by omega) (((src_lit _ (w1.heap.size + 1) 6 _ lw3 (by simp) lw3_at).alloc _).drew) (by omega)).mono ?_); rintro e w3 ⟨i3, rfl, _, hB, hk⟩; have HB_3 := Lib.hid (((((HB_2.out.alloc HB_2.out.size _).alloc (by have := HB_2.out.size; simp; omega) _).drew)).trans (hk.below (by omega) (by have := HB_2.out.size; simp; omega))); have R_3 := Lib.hid ((((R_2.out.alloc _).alloc _).drew).keeps hk (by omega)); have T_3 := Lib.hid ((((T_2.out.alloc _).alloc _).drew).keeps hk (by omega)); have RW_3 := Lib.hid ((((RW_2.out.alloc _).alloc _).drew).keeps hk (by omega)); have y3 : w1.heap.size < w3.heap.size := T_3.out.1; have lR := R_3.out.1; have cR0 := R_3.out.at 0 rfl; have fR0 := R_3.out.free 0 rfl; have cR1 := R_3.out.at 1 rfl; have fR1 := R_3.out.free 1 rfl; have cR2 := R_3.out.at 2 rfl; have fR2 := R_3.out.free 2 rfl; have cR3 := R_3.out.at 3 rfl; have fR3 := R_3.out.free 3 rfl; clear hk hB))
  all_goals
    go_wp2
    refine bodyPost_ret (v := .tuple #[.agg #[.int .i64 h, .slice a n c, .int .i64 ac, .int .i64 bu], .int .i64 x, .int .i64 (lw3 i3)]) (by simp [results, Try.results27, go_sem, cR0, cR1, cR2, cR3]) rfl ⟨_, _, _, _, _, _, _, a, f, rfl, ?_, ?_, hn, hnc, hcm⟩
    · refine Own.mono (B := w.heap.size + 1) ?_ (by omega)
      repeat (with_reducible refine Own.setCell ?_ (by (try simp); (try omega)) _)
      exact (RW_3.out.widen (Nat.le_refl _) (Nat.le_refl _)).out
    · repeat (with_reducible refine Below.setCell ?_ (by (try simp); (try omega)) _)
      exact HB_3.out

set_option maxRecDepth 100000 in
set_option maxHeartbeats 3200000 in
theorem drawSF_any (ca : Option Addr) (k kc : Nat) (B : Nat → Int) (w : World) (hs : SrcB w w.heap.size ca k B) (hk0 : k ≤ 1048576) :
    Calls Try.prog 25 #[.slice ca k kc] w (RetB4 w) := by
  have B_0 := Lib.hid hs
  clear hs
  go_enter Try.func25, Try.ntmps25
  go_wp2_with fail
  refine (drawFA_any ca k kc B _ ((B_0.out.alloc _).now') hk0).mono ?_
  rintro e w1 ⟨h, ac, bu, x, y, n, c, a, f, rfl, ho, hb, hn, hnc, hcm⟩
  have HB_1 := Lib.hid (thru1 (Below.refl _ _) hb)
  have z1 : w.heap.size + 1 ≤ w1.heap.size := by have := hb.size; simp at this; omega
  have R_1 := Lib.hid ((Blk.new_at (w := w) (cs := #[.int .i64 0, .slice none 0 0, .int .i64 0, .int .i64 0]) (t := 26) (w.heap.size) rfl).below hb)
  have B_1 := Lib.hid (((B_0.out.alloc _).below hb).now')
  have RW_1 : Hid (OwnIn w1 (w.heap.size + 1) w1.heap.size a n f) := (ho.mono (by simp)).into
  clear hb ho B_0
  go_wp2_with fail
  refine (later3_any ca k kc _).mono ?_
  rintro e w' ⟨rfl, rfl⟩
  have HB_2 : Hid (Below w.heap.size w ((w1.alloc (.cells #[.int .i64 h, .slice a n c, .int .i64 ac, .int .i64 bu] 26)).alloc (.cells #[.slice ca k kc, .int .i64 26] 133))) := Lib.hid ((HB_1.out.alloc HB_1.out.size (.cells #[.int .i64 h, .slice a n c, .int .i64 ac, .int .i64 bu] 26)).alloc (by have := HB_1.out.size; simp; omega) (.cells #[.slice ca k kc, .int .i64 26] 133))
  have R_2 := Lib.hid ((R_1.out.alloc (.cells #[.int .i64 h, .slice a n c, .int .i64 ac, .int .i64 bu] 26)).alloc (.cells #[.slice ca k kc, .int .i64 26] 133)); have B_2 := Lib.hid ((B_1.out.alloc (.cells #[.int .i64 h, .slice a n c, .int .i64 ac, .int .i64 bu] 26)).alloc (.cells #[.slice ca k kc, .int .i64 26] 133)); have RW_2 := Lib.hid ((RW_1.out.alloc (.cells #[.int .i64 h, .slice a n c, .int .i64 ac, .int .i64 bu] 26)).alloc (.cells #[.slice ca k kc, .int .i64 26] 133))
  have T_2 : Hid (Blk ((w1.alloc (.cells #[.int .i64 h, .slice a n c, .int .i64 ac, .int .i64 bu] 26)).alloc (.cells #[.slice ca k kc, .int .i64 26] 133)) w1.heap.size [.int .i64 h, .slice a n c, .int .i64 ac, .int .i64 bu]) := Lib.hid ((Blk.new_at (w := w1) (cs := #[.int .i64 h, .slice a n c, .int .i64 ac, .int .i64 bu]) (t := 26) (w1.heap.size) rfl).alloc (.cells #[.slice ca k kc, .int .i64 26] 133))
  have S_2 : Hid (Blk ((w1.alloc (.cells #[.int .i64 h, .slice a n c, .int .i64 ac, .int .i64 bu] 26)).alloc (.cells #[.slice ca k kc, .int .i64 26] 133)) (w1.heap.size + 1) [.slice ca k kc, .int .i64 ((26 : Nat) : Int)]) := Lib.hid (Blk.new_at (w := w1.alloc (.cells #[.int .i64 h, .slice a n c, .int .i64 ac, .int .i64 bu] 26)) (w1.heap.size + 1) (by simp))
  have z2 : w1.heap.size + 2 ≤ ((w1.alloc (.cells #[.int .i64 h, .slice a n c, .int .i64 ac, .int .i64 bu] 26)).alloc (.cells #[.slice ca k kc, .int .i64 26] 133)).heap.size := by simp
  clear HB_1 R_1 B_1 RW_1
  go_wp2_with fail
  refine (chance_any (w1.heap.size + 1) w1.heap.size ca k kc 26 B _ S_2.out B_2.out (by omega) hk0 3 (by omega) (by omega) (by omega)).mono ?_
  rintro e w3 ⟨r, rfl, hB, hk⟩
  have HB_3 : Hid (Below w.heap.size w w3) := Lib.hid (HB_2.out.trans (hk.below (by omega) HB_2.out.size))
  have z3 : w1.heap.size + 2 ≤ w3.heap.size := Nat.le_trans z2 hk.size
  have S_3 := Lib.hid (src_cast hB); have B_3 := Lib.hid (B_2.out.keeps hk (by omega)); have T_3 := Lib.hid (T_2.out.keeps hk (by omega)); have R_3 := Lib.hid (R_2.out.keeps hk (by omega)); have RW_3 := Lib.hid (RW_2.out.keeps hk (by omega))
  clear hk hB S_2 B_2 T_2 R_2 RW_2 HB_2 z2
  have T_d := Lib.hid T_3.out.drew; have S_d := Lib.hid S_3.out.drew; have B_d := Lib.hid B_3.out.drew; have R_d := Lib.hid R_3.out.drew; have RW_d := Lib.hid RW_3.out.drew; have HB_d : Hid (Below w.heap.size w w3.drew) := Lib.hid (HB_3.out.trans ((Below.refl _ _).drew.mono HB_3.out.size))
  cases r
  · go_upto_region 5 with (fail)
    go_region_held3 (fun w' => w'.cell? ⟨w1.heap.size, 0, none⟩ = some (.int .i64 h) ∧ w'.cell? ⟨w1.heap.size, 1, none⟩ = some (.slice a n c) ∧ w'.cell? ⟨w1.heap.size, 2, none⟩ = some (.int .i64 ac) ∧ w'.cell? ⟨w1.heap.size, 3, none⟩ = some (.int .i64 bu))
      (first | with_reducible exact ⟨T_3.out.at 0 rfl, T_3.out.at 1 rfl, T_3.out.at 2 rfl, T_3.out.at 3 rfl⟩ | with_reducible exact ⟨T_d.out.at 0 rfl, T_d.out.at 1 rfl, T_d.out.at 2 rfl, T_d.out.at 3 rfl⟩ | with_reducible exact ⟨(T_3.out.alloc _).at 0 rfl, (T_3.out.alloc _).at 1 rfl, (T_3.out.alloc _).at 2 rfl, (T_3.out.alloc _).at 3 rfl⟩ | with_reducible exact ⟨(T_3.out.alloc _).drew.at 0 rfl, (T_3.out.alloc _).drew.at 1 rfl, (T_3.out.alloc _).drew.at 2 rfl, (T_3.out.alloc _).drew.at 3 rfl⟩ | with_reducible exact ⟨(T_d.out.alloc _).at 0 rfl, (T_d.out.alloc _).at 1 rfl, (T_d.out.alloc _).at 2 rfl, (T_d.out.alloc _).at 3 rfl⟩ | with_reducible exact ⟨T_4.out.at 0 rfl, T_4.out.at 1 rfl, T_4.out.at 2 rfl, T_4.out.at 3 rfl⟩ | with_reducible exact ⟨(blk_four T_4.out (by omega) _ _ _ _).at 0 rfl, (blk_four T_4.out (by omega) _ _ _ _).at 1 rfl, (blk_four T_4.out (by omega) _ _ _ _).at 2 rfl, (blk_four T_4.out (by omega) _ _ _ _).at 3 rfl⟩)
      (first | (go_at_call 76; refine (of_drew [0, 7, -7, 1000000001, 3] (w1.heap.size + 1) w1.heap.size _ ca k kc (26 + 1) 5 B _ w3 S_d.out B_d.out (by omega) hk0 (by omega) rfl (by simp) (by simp) rfl (by simp)).mono ?_; rintro e w4 ⟨v4, rfl, _, hB, hk⟩; have HB_4 : Hid (Below w.heap.size w w4) := Lib.hid ((HB_d.out.alloc HB_d.out.size _).trans (hk.below (by omega) (by have := HB_d.out.size; simp; simp at this; omega))); have z4 : w3.heap.size ≤ w4.heap.size := (by have := hk.size; simp at this; omega); have T_4 := Lib.hid ((T_d.out.alloc _).keeps hk (by omega)); have R_4 := Lib.hid ((R_d.out.alloc _).keeps hk (by omega)); have RW_4 := Lib.hid ((RW_d.out.alloc _).keeps hk (by omega)); clear hk hB; have lR := R_4.out.1; have cR0 := R_4.out.at 0 rfl; have fR0 := R_4.out.free 0 rfl; have cR1 := R_4.out.at 1 rfl; have fR1 := R_4.out.free 1 rfl; have cR2 := R_4.out.at 2 rfl; have fR2 := R_4.out.free 2 rfl; have cR3 := R_4.out.at 3 rfl; have fR3 := R_4.out.free 3 rfl))
    all_goals (have hz := HB_4.out.size; go_wp2)
    all_goals (
      refine bodyPost_ret (v := .tuple #[.agg #[.int .i64 h, .slice a n c, .int .i64 ac, .int .i64 bu], .int .i64 x, .int .i64 y, .int .i64 v4]) (by simp [results, Try.results25, go_sem, cR0, cR1, cR2, cR3]) rfl ⟨_, _, _, _, _, _, _, _, a, f, rfl, ?_, ?_, hn, hnc, hcm⟩
      · refine Own.mono (B := w.heap.size + 1) ?_ (by omega)
        repeat (with_reducible refine Own.setCell ?_ (by (try simp); (try omega)) _)
        exact (RW_4.out.widen (Nat.le_refl _) (Nat.le_refl _)).out
      · repeat (with_reducible refine Below.setCell ?_ (by (try simp); (try omega)) _)
        exact HB_4.out
      )
  · go_upto_region 4 with (fail)
    go_region_held3 (fun w' => w'.cell? ⟨w1.heap.size, 0, none⟩ = some (.int .i64 h) ∧ w'.cell? ⟨w1.heap.size, 1, none⟩ = some (.slice a n c) ∧ w'.cell? ⟨w1.heap.size, 2, none⟩ = some (.int .i64 ac) ∧ w'.cell? ⟨w1.heap.size, 3, none⟩ = some (.int .i64 bu))
      (first | with_reducible exact ⟨T_3.out.at 0 rfl, T_3.out.at 1 rfl, T_3.out.at 2 rfl, T_3.out.at 3 rfl⟩ | with_reducible exact ⟨T_d.out.at 0 rfl, T_d.out.at 1 rfl, T_d.out.at 2 rfl, T_d.out.at 3 rfl⟩ | with_reducible exact ⟨(T_3.out.alloc _).at 0 rfl, (T_3.out.alloc _).at 1 rfl, (T_3.out.alloc _).at 2 rfl, (T_3.out.alloc _).at 3 rfl⟩ | with_reducible exact ⟨(T_3.out.alloc _).drew.at 0 rfl, (T_3.out.alloc _).drew.at 1 rfl, (T_3.out.alloc _).drew.at 2 rfl, (T_3.out.alloc _).drew.at 3 rfl⟩ | with_reducible exact ⟨(T_d.out.alloc _).at 0 rfl, (T_d.out.alloc _).at 1 rfl, (T_d.out.alloc _).at 2 rfl, (T_d.out.alloc _).at 3 rfl⟩ | with_reducible exact ⟨T_4.out.at 0 rfl, T_4.out.at 1 rfl, T_4.out.at 2 rfl, T_4.out.at 3 rfl⟩ | with_reducible exact ⟨(blk_four T_4.out (by omega) _ _ _ _).at 0 rfl, (blk_four T_4.out (by omega) _ _ _ _).at 1 rfl, (blk_four T_4.out (by omega) _ _ _ _).at 2 rfl, (blk_four T_4.out (by omega) _ _ _ _).at 3 rfl⟩)
      (first | (go_at_call 61; refine (some_any (w1.heap.size + 1) w1.heap.size ca k kc (26 + 1) B _ S_d.out B_d.out (by omega) hk0 w1.heap.size (w.heap.size + 1) w1.heap.size h ac bu a n c f T_d.out RW_d.out (.inr (by omega)) (by omega) hnc hcm (by omega)).mono ?_; rintro e w4 ⟨v4, t4, rfl, hB, _, hk⟩; have HB_4 : Hid (Below w.heap.size w w4) := Lib.hid (HB_d.out.trans (hk.below (by omega) (by have := HB_d.out.size; simp; simp at this; omega))); have z4 : w3.heap.size ≤ w4.heap.size := (by have := hk.size; simp at this; omega); have T_4 := Lib.hid (T_d.out.keeps hk (by omega)); have R_4 := Lib.hid (R_d.out.keeps hk (by omega)); have RW_4 := Lib.hid (RW_d.out.keeps hk (by omega)); clear hk hB; have lR := R_4.out.1; have cR0 := R_4.out.at 0 rfl; have fR0 := R_4.out.free 0 rfl; have cR1 := R_4.out.at 1 rfl; have fR1 := R_4.out.free 1 rfl; have cR2 := R_4.out.at 2 rfl; have fR2 := R_4.out.free 2 rfl; have cR3 := R_4.out.at 3 rfl; have fR3 := R_4.out.free 3 rfl))
    all_goals (have hz := HB_4.out.size; go_wp2)
    all_goals (
      refine bodyPost_ret (v := .tuple #[.agg #[.int .i64 h, .slice a n c, .int .i64 ac, .int .i64 bu], .int .i64 x, .int .i64 y, .int .i64 (IntKind.i64.wrap (v4 + 1))]) (by simp [results, Try.results25, go_sem, cR0, cR1, cR2, cR3]) rfl ⟨_, _, _, _, _, _, _, _, a, f, rfl, ?_, ?_, hn, hnc, hcm⟩
      · refine Own.mono (B := w.heap.size + 1) ?_ (by omega)
        repeat (with_reducible refine Own.setCell ?_ (by (try simp); (try omega)) _)
        exact (RW_4.out.widen (Nat.le_refl _) (Nat.le_refl _)).out
      · repeat (with_reducible refine Below.setCell ?_ (by (try simp); (try omega)) _)
        exact HB_4.out
      )
end Go.Proofs.Ytlelgfkebcnepaa

namespace Go.Proofs.Ytlelgfkebcnepaa
open Go.RowKit
set_option linter.unusedVariables false

/-- What is told of a place hangs on what stands from there on. -/
theorem parse_congr {f g : Nat → Int} {e : Nat} : ∀ (d a : Nat), e - a ≤ d → (∀ j, a ≤ j → f j = g j) → parse f e a = parse g e a
  | 0, a, hd, h => by rw [parse_stop (by omega), parse_stop (by omega)]
  | d + 1, a, hd, h => by
    have e0 := h a (Nat.le_refl _)
    have e1 := h (a + 1) (by omega)
    have es : szOf f a = szOf g a := by unfold szOf; rw [e0]
    have eo : objAt f a = objAt g a := by unfold objAt; rw [e0, e1]
    by_cases hl : a < e
    · by_cases hg : Good f e a
      · have hg' : Good g e a := by unfold Good at hg ⊢; rw [← e0, ← e1, ← es]; exact hg
        rw [parse_good hl hg, parse_good hl hg', es, eo, parse_congr d _ (by omega) (fun j hj => h j (by omega))]
      · have hg' : ¬ Good g e a := fun k => hg (by unfold Good at k ⊢; rw [e0, e1, es]; exact k)
        rw [parse_bad hl hg, parse_bad hl hg']
    · rw [parse_stop hl, parse_stop hl]

/-- The objects stand one behind the other. -/
theorem parse_from {f : Nat → Int} {e : Nat} : ∀ (d a : Nat) (L : List Ob), e - a ≤ d → parse f e a = some L → ∀ x ∈ L, a ≤ x.at_.toNat ∧ 0 ≤ x.at_
  | 0, a, L, hd, hp, x, hx => by
    rw [parse_stop (by omega)] at hp
    cases hp; cases hx
  | d + 1, a, L, hd, hp, x, hx => by
    by_cases h : a < e
    · by_cases hg : Good f e a
      · rw [parse_good h hg] at hp
        obtain ⟨L', hp', rfl⟩ := Option.map_eq_some_iff.mp hp
        rcases List.mem_cons.mp hx with rfl | hx
        · simp [objAt]
        · have := parse_from d _ L' (by omega) hp' x hx
          exact ⟨by omega, this.2⟩
      · rw [parse_bad h hg] at hp; cases hp
    · rw [parse_stop h] at hp
      cases hp; cases hx

/-- No place is in two objects. -/
theorem parse_apart {f : Nat → Int} {e : Nat} : ∀ (d a : Nat) (L : List Ob), e - a ≤ d → parse f e a = some L → ∀ x ∈ L, ∀ y ∈ L, ∀ j, x.at_.toNat ≤ j → j < x.at_.toNat + 2 + x.s.toNat → y.at_.toNat ≤ j → j < y.at_.toNat + 2 + y.s.toNat → x = y
  | 0, a, L, hd, hp, x, hx, _, _, _, _, _, _, _ => by
    rw [parse_stop (by omega)] at hp
    cases hp; cases hx
  | d + 1, a, L, hd, hp, x, hx, y, hy, j, h1, h2, h3, h4 => by
    by_cases h : a < e
    · by_cases hg : Good f e a
      · rw [parse_good h hg] at hp
        obtain ⟨L', hp', rfl⟩ := Option.map_eq_some_iff.mp hp
        have e1 : (objAt f a).at_.toNat = a := by simp [objAt]
        have e2 : (objAt f a).s.toNat = szOf f a := rfl
        have hfr := parse_from (e - (a + 2 + szOf f a)) _ L' (Nat.le_refl _) hp'
        rcases List.mem_cons.mp hx with rfl | hx
        · rcases List.mem_cons.mp hy with rfl | hy
          · rfl
          · have := (hfr y hy).1; omega
        · rcases List.mem_cons.mp hy with rfl | hy
          · have := (hfr x hx).1; omega
          · exact parse_apart d _ L' (by omega) hp' x hx y hy j h1 h2 h3 h4
      · rw [parse_bad h hg] at hp; cases hp
    · rw [parse_stop h] at hp
      cases hp; cases hx

theorem upd_other {f : Nat → Int} {k j : Nat} {v : Int} (h : j ≠ k) : upd f k v j = f j := by unfold upd; rw [if_neg h]

theorem upd_at {f : Nat → Int} {k : Nat} {v : Int} : upd f k v k = v := by unfold upd; rw [if_pos rfl]

/-- A field is written: the objects are the same. -/
theorem parse_upd {f : Nat → Int} {e : Nat} {v : Int} {idx : Nat} : ∀ (d a : Nat) (L : List Ob), e - a ≤ d → parse f e a = some L → ∀ y ∈ L, y.at_.toNat + 2 ≤ idx → idx < y.at_.toNat + 2 + y.s.toNat → parse (upd f idx v) e a = some L
  | 0, a, L, hd, hp, y, hy, _, _ => by
    rw [parse_stop (by omega)] at hp
    cases hp; cases hy
  | d + 1, a, L, hd, hp, y, hy, h1, h2 => by
    by_cases h : a < e
    · by_cases hg : Good f e a
      · rw [parse_good h hg] at hp
        obtain ⟨L', hp', rfl⟩ := Option.map_eq_some_iff.mp hp
        have e1 : (objAt f a).at_.toNat = a := by simp [objAt]
        have e2 : (objAt f a).s.toNat = szOf f a := rfl
        have hidx : a + 1 < idx := by
          rcases List.mem_cons.mp hy with rfl | hy
          · omega
          · have := (parse_from (e - (a + 2 + szOf f a)) _ L' (Nat.le_refl _) hp' y hy).1; omega
        have u0 : upd f idx v a = f a := upd_other (by omega)
        have u1 : upd f idx v (a + 1) = f (a + 1) := upd_other (by omega)
        have es : szOf (upd f idx v) a = szOf f a := by unfold szOf; rw [u0]
        have eo : objAt (upd f idx v) a = objAt f a := by unfold objAt; rw [u0, u1]
        have hg' : Good (upd f idx v) e a := by unfold Good; rw [u0, u1, es]; exact hg
        rw [parse_good h hg', es, eo]
        rcases List.mem_cons.mp hy with rfl | hy
        · rw [← parse_congr (f := f) (g := upd f idx v) (e - (a + 2 + szOf f a)) _ (Nat.le_refl _) (fun j hj => (upd_other (by omega)).symm), hp']; rfl
        · rw [parse_upd d _ L' (by omega) hp' y hy h1 h2]; rfl
      · rw [parse_bad h hg] at hp; cases hp
    · rw [parse_stop h] at hp
      cases hp; cases hy

theorem isSF_shape {h : Int} {n : Nat} {f : Nat → Int} {ac bu : Int} {L : List Ob} (hk : IsSF h n f ac bu 0) (ho : IsOI h n f ac bu 0 L) : Points f L ∧ Rest f n (baseI ac h).toNat bu.toNat := by
  rcases hk with ⟨_, _, h0⟩ | ⟨_, _, _, h0⟩ | ⟨L', ho', hs, _⟩
  · exact absurd rfl h0
  · cases h0
  · have e := (isOI_zero ho').2.symm.trans (isOI_zero ho).2
    cases e
    rcases hs with ⟨h1, h2, _⟩ | ⟨_, h0⟩
    · exact ⟨h1, h2⟩
    · cases h0

theorem isSF_of {h : Int} {n : Nat} {f : Nat → Int} {ac bu : Int} {L : List Ob} (ho : IsOI h n f ac bu 0 L) (hp : Points f L) (hr : Rest f n (baseI ac h).toNat bu.toNat) : IsSF h n f ac bu 0 :=
  .inr (.inr ⟨L, ho, .inl ⟨hp, hr, rfl⟩, rfl⟩)

theorem isOI_of {h : Int} {n : Nat} {f : Nat → Int} {ac bu : Int} {L : List Ob} (h1 : IsFault h n f ac bu 0) (h2 : parse f ((baseI ac h).toNat + bu.toNat) (baseI ac h).toNat = some L) : IsOI h n f ac bu 0 L := .inr (.inr ⟨h1, h2, rfl⟩)

theorem isAt_parts {h : Int} {n : Nat} {f : Nat → Int} {ac bu at_ : Int} {y : Ob} (hk : IsAt h n f ac bu at_ 0 (some y)) : ∃ L, IsSF h n f ac bu 0 ∧ IsOI h n f ac bu 0 L ∧ findO L at_ = some y := by
  rcases hk with ⟨_, _, hx⟩ | ⟨L, _, _, _, h4, _⟩ | ⟨L, y', h1, h2, h3, _, hx⟩
  · cases hx
  · cases h4
  · cases hx; exact ⟨L, h1, h2, h3⟩

/-- What stands in an arena that is right. -/
theorem right_bounds {h : Int} {n : Nat} {f : Nat → Int} {ac bu : Int} {L : List Ob} (ho : IsOI h n f ac bu 0 L) : ∀ x ∈ L, (baseI ac h).toNat ≤ x.at_.toNat ∧ 0 ≤ x.at_ ∧ 0 ≤ x.s ∧ x.at_.toNat + 2 + x.s.toNat ≤ (baseI ac h).toNat + bu.toNat ∧ (baseI ac h).toNat + bu.toNat ≤ n := fun x hx => by
  obtain ⟨h4, h5⟩ := isOI_zero ho
  obtain ⟨⟨⟨g1, g2⟩, ⟨g3, g4⟩, g5, g6⟩, gn, gw⟩ := isFault_ok h4
  have hPU : (baseI ac h).toNat + bu.toNat ≤ n := by rcases (by omega : ac = 0 ∨ ac = 1) with rfl | rfl <;> simp [baseI] <;> omega
  obtain ⟨a1, _, _, a4, _⟩ := parse_ok h5 hPU gw x hx
  obtain ⟨b1, b2⟩ := parse_from _ _ L (Nat.le_refl _) h5 x hx
  exact ⟨b1, b2, a1.1, a4.2, hPU⟩

/-- A field of a right arena is set: it is a right one, with the same objects. -/
theorem set_right {h : Int} {n : Nat} {f : Nat → Int} {ac bu at_ : Int} {y : Ob} {I : Nat} {v : Int} {L : List Ob} (hk : IsAt h n f ac bu at_ 0 (some y)) (ho : IsOI h n f ac bu 0 L) (hI : I < y.s.toNat) (hv : Word v) (hl : y.m / P2 I % 2 = 1 → leadsB L y.o v = true) :
    IsOI h n (upd f (y.at_.toNat + 2 + I) v) ac bu 0 L ∧ IsSF h n (upd f (y.at_.toNat + 2 + I) v) ac bu 0 ∧ IsAt h n (upd f (y.at_.toNat + 2 + I) v) ac bu at_ 0 (some y) := by
  obtain ⟨L', hsf, ho', hf⟩ := isAt_parts hk
  have e := (isOI_zero ho').2.symm.trans (isOI_zero ho).2
  cases e
  obtain ⟨h4, h5⟩ := isOI_zero ho
  obtain ⟨hp, hr⟩ := isSF_shape hsf ho
  obtain ⟨hd, gn, gw⟩ := isFault_ok h4
  have hy : y ∈ L := List.mem_of_find?_eq_some hf
  obtain ⟨b1, b2, b3, b4, b5⟩ := right_bounds ho y hy
  have hg : IsFault h n (upd f (y.at_.toNat + 2 + I) v) ac bu 0 := .inr (.inr (.inr ⟨hd, gn, fun i hi => by
    by_cases e : i = y.at_.toNat + 2 + I
    · subst e; rw [upd_at]; exact hv
    · rw [upd_other e]; exact gw i hi, rfl⟩))
  have hparse := parse_upd (v := v) (idx := y.at_.toNat + 2 + I) _ _ L (Nat.le_refl _) h5 y hy (by omega) (by omega)
  have hoi := isOI_of hg hparse
  have hpts : Points (upd f (y.at_.toNat + 2 + I) v) L := fun x hx k hks hb => by
    by_cases e : x.at_.toNat + 2 + k = y.at_.toNat + 2 + I
    · have hxy : x = y := parse_apart _ _ L (Nat.le_refl _) h5 x hx y hy (x.at_.toNat + 2 + k) (by omega) (by omega) (by omega) (by omega)
      subst hxy
      obtain rfl : k = I := by omega
      rw [upd_at]; exact hl hb
    · rw [upd_other e]; exact hp x hx k hks hb
  have hrest : Rest (upd f (y.at_.toNat + 2 + I) v) n (baseI ac h).toNat bu.toNat := fun i hi hn => by
    rw [upd_other (by omega)]; exact hr i hi hn
  have hsf' := isSF_of hoi hpts hrest
  exact ⟨hoi, hsf', .inr (.inr ⟨L, y, hsf', hoi, hf, rfl, rfl⟩)⟩

/-- What stood in a field of a right arena leads where it may. -/
theorem was_leads {h : Int} {n : Nat} {f : Nat → Int} {ac bu at_ : Int} {y : Ob} {I : Nat} {L : List Ob} (hk : IsAt h n f ac bu at_ 0 (some y)) (ho : IsOI h n f ac bu 0 L) (hI : I < y.s.toNat) (hb : y.m / P2 I % 2 = 1) : leadsB L y.o (f (y.at_.toNat + 2 + I)) = true := by
  obtain ⟨L', hsf, ho', hf⟩ := isAt_parts hk
  have e := (isOI_zero ho').2.symm.trans (isOI_zero ho).2
  cases e
  exact (isSF_shape hsf ho).1 y (List.mem_of_find?_eq_some hf) I (by omega) hb

theorem upd_back (f : Nat → Int) (k : Nat) (v : Int) (j : Nat) : upd (upd f k v) k (f k) j = f j := by
  by_cases e : j = k
  · subst e; rw [upd_at]
  · rw [upd_other e, upd_other e]
end Go.Proofs.Ytlelgfkebcnepaa

namespace Go.Proofs.Ytlelgfkebcnepaa
open Go.ChangeShapes Go.WideShapes Go.ChangeAt Go.RowKit Go.Joins Go.Deep
set_option linter.unusedVariables false

instance : Inhabited GM := ⟨gzero⟩
end Go.Proofs.Ytlelgfkebcnepaa

namespace Go.Proofs.Ytlelgfkebcnepaa
open Go.RowKit
set_option linter.unusedVariables false

theorem GSame.symm {t u : GM} (h : GSame t u) : GSame u t := (GSame.refl u).tie h
end Go.Proofs.Ytlelgfkebcnepaa

namespace Go.Proofs.Ytlelgfkebcnepaa
open Go.RowKit
set_option linter.unusedVariables false

/-- What is owed of the program's function: with the room of its words. -/
def ImplSetC : Prop := ∀ (h ac bu : Int) (a : Option Addr) (n c : Nat) (f : Nat → Int) (at_ i vl : Int) (r : AR) (w : World), Src w a n f → n ≤ c → c ≤ maxLen → IsSet h n f ac bu at_ i vl r → Calls Try.prog 26 #[.agg #[.int .i64 h, .slice a n c, .int .i64 ac, .int .i64 bu], .int .i64 at_, .int .i64 i, .int .i64 vl] w (RetResC w r)

theorem run_codeAR (x : Int) (x1 x2 x3 x4 x5 : Value) (w : World) : (Instr.field 32 (.agg #[.int .i64 x, x1, x2, x3, x4, x5]) 0).run Try.prog w = .ok (.int .i64 x) w := by kernel_rfl

theorem run_valIR (x y : Int) (w : World) : (Instr.field 54 (.agg #[.int .i64 x, .int .i64 y]) 1).run Try.prog w = .ok (.int .i64 y) w := by kernel_rfl

set_option maxRecDepth 100000 in
set_option maxHeartbeats 400000 in
theorem e4_far (ca : Option Addr) (k kc : Nat) (w : World) (hk : k ≤ maxLen) (h : 1048576 < k) : Calls Try.prog 4 #[.slice ca k kc] w (RetBool w true) := by
  go_enter Try.func4, Try.ntmps4
  go_wp2_with (go_at_call 12; refine (big_yes _ _ _ _ hk h).mono ?_; rintro e w' ⟨rfl, rfl⟩)
  go_ret
  exact ⟨rfl, Below.refl _ _⟩

set_option maxHeartbeats 6400000 in
theorem e4_near (HSet : ImplSetC) (HFA : ImplFA) (HSF : ImplSF) (ca : Option Addr) (k kc : Nat) (B : Nat → Int) (w : World) (hs : SrcB w w.heap.size ca k B) (hk : k ≤ 1048576) :
    Calls Try.prog 4 #[.slice ca k kc] w (RetBool w true) := by
  have SB := Lib.hid hs
  clear hs
  go_enter Try.func4, Try.ntmps4
  go_wp2_with fail
  refine (big_no _ _ _ _ hk).mono ?_
  rintro e w' ⟨rfl, rfl⟩
  go_wp2_with fail
  refine (drawSF_any ca k kc B _ SB.out.now' hk).mono ?_
  rintro e w1 ⟨h1, ac1, bu1, q1, r1, v1, n1, c1, a1, f1, rfl, ho, hb, hn1, hnc1, hcm1⟩
  have HB1 : Hid (Below w.heap.size w w1) := thru0 (Below.refl _ _) hb
  have z1 : w.heap.size ≤ w1.heap.size := hb.size
  have SB_1 := Lib.hid (SB.out.below hb)
  have X1_1 : Hid (Src w1 a1 n1 f1) := ho.src
  clear hb SB ho
  obtain ⟨⟨co, rh, rn, rf, rac, rbu, rat⟩, hr⟩ := isSet_some h1 n1 f1 ac1 bu1 q1 r1 v1
  have rs : rn ≤ 400 := isSet_small hr
  have HR := Lib.hid hr
  clear hr
  go_wp2_with fail
  refine (HSet _ _ _ _ _ _ f1 _ _ _ _ _ (X1_1.out.alloc _) hnc1 hcm1 HR.out).mono ?_
  rintro e w2 ⟨u2, e2, rfl, ho, hb, hcap2⟩
  have HB2 : Hid (Below w.heap.size w w2) := thru1 HB1.out hb
  have z2 : w1.heap.size + 1 ≤ w2.heap.size := by have := hb.size; simp at this; omega
  have SB_2 := Lib.hid ((SB_1.out.alloc _).below hb)
  have X1_2 := Lib.hid ((X1_1.out.alloc _).below hb)
  have A1_2 := Lib.hid ((Blk.new_at (w1.heap.size) (by simp)).below hb)
  have Y1_2 : Hid (Src w2 u2 rn rf) := ho.src
  have HC2 := Lib.hid hcap2
  clear hcap2
  clear hb SB_1 X1_1 HB1 ho
  go_wp2_with fail
  refine (drawFA_any ca k kc B _ (SB_2.out.alloc _).now' hk).mono ?_
  rintro e w3 ⟨h3, ac3, bu3, q3, r3, n3, c3, a3, f3, rfl, ho, hb, hn3, hnc3, hcm3⟩
  have HB3 : Hid (Below w.heap.size w w3) := thru1 HB2.out hb
  have z3 : w2.heap.size + 1 ≤ w3.heap.size := by have := hb.size; simp at this; omega
  have SB_3 := Lib.hid ((SB_2.out.alloc _).below hb)
  have X1_3 := Lib.hid ((X1_2.out.alloc _).below hb)
  have A1_3 := Lib.hid ((A1_2.out.alloc _).below hb)
  have Y1_3 := Lib.hid ((Y1_2.out.alloc _).below hb)
  have P1_3 := Lib.hid ((Blk.new_at (w2.heap.size) (by simp)).below hb)
  have X3_3 : Hid (Src w3 a3 n3 f3) := ho.src
  clear hb SB_2 X1_2 A1_2 Y1_2 HB2 ho
  obtain ⟨fco, fv, hf⟩ := isFA_some h3 n3 f3 ac3 bu3 q3 r3
  have HFR := Lib.hid hf
  clear hf
  clear SB_3
  go_upto_region 6 with (fail)
  have X1_4 := Lib.hid (X1_3.out.alloc (.cells #[.int .i64 h3, .slice a3 n3 c3, .int .i64 ac3, .int .i64 bu3] 26))
  have A1_4 := Lib.hid (A1_3.out.alloc (.cells #[.int .i64 h3, .slice a3 n3 c3, .int .i64 ac3, .int .i64 bu3] 26))
  have Y1_4 := Lib.hid (Y1_3.out.alloc (.cells #[.int .i64 h3, .slice a3 n3 c3, .int .i64 ac3, .int .i64 bu3] 26))
  have P1_4 := Lib.hid (P1_3.out.alloc (.cells #[.int .i64 h3, .slice a3 n3 c3, .int .i64 ac3, .int .i64 bu3] 26))
  have X3_4 := Lib.hid (X3_3.out.alloc (.cells #[.int .i64 h3, .slice a3 n3 c3, .int .i64 ac3, .int .i64 bu3] 26))
  have B1_4 : Hid (Blk (w3.alloc (.cells #[.int .i64 h3, .slice a3 n3 c3, .int .i64 ac3, .int .i64 bu3] 26)) (w3.heap.size) [.int .i64 h3, .slice a3 n3 c3, .int .i64 ac3, .int .i64 bu3]) := Lib.hid (Blk.new_at (w := w3) (w3.heap.size) rfl)
  have HB4 : Hid (Below w.heap.size w (w3.alloc (.cells #[.int .i64 h3, .slice a3 n3 c3, .int .i64 ac3, .int .i64 bu3] 26))) := Lib.hid (HB3.out.alloc (by have := HB3.out.size; simp; try omega) (.cells #[.int .i64 h3, .slice a3 n3 c3, .int .i64 ac3, .int .i64 bu3] 26))
  have z4 : w3.heap.size + 1 ≤ (w3.alloc (.cells #[.int .i64 h3, .slice a3 n3 c3, .int .i64 ac3, .int .i64 bu3] 26)).heap.size := by simp
  clear HB3 X1_3 A1_3 Y1_3 P1_3 X3_3
  generalize (w3.alloc (.cells #[.int .i64 h3, .slice a3 n3 c3, .int .i64 ac3, .int .i64 bu3] 26)) = w4 at *
  have hfl1 := run_codeAR
  have X1_4d := Lib.hid X1_4.out.drew
  have A1_4d := Lib.hid A1_4.out.drew
  have Y1_4d := Lib.hid Y1_4.out.drew
  have P1_4d := Lib.hid P1_4.out.drew
  have X3_4d := Lib.hid X3_4.out.drew
  have B1_4d := Lib.hid B1_4.out.drew
  have HB4d := Lib.hid HB4.out.drew
  go_region_held3 (fun w' => w'.cell? ⟨w1.heap.size, 0, none⟩ = some (.int .i64 h1) ∧ w'.cell? ⟨w1.heap.size, 1, none⟩ = some (.slice a1 n1 c1) ∧ w'.cell? ⟨w1.heap.size, 2, none⟩ = some (.int .i64 ac1) ∧ w'.cell? ⟨w1.heap.size, 3, none⟩ = some (.int .i64 bu1) ∧ w'.cell? ⟨w3.heap.size, 0, none⟩ = some (.int .i64 h3) ∧ w'.cell? ⟨w3.heap.size, 1, none⟩ = some (.slice a3 n3 c3) ∧ w'.cell? ⟨w3.heap.size, 2, none⟩ = some (.int .i64 ac3) ∧ w'.cell? ⟨w3.heap.size, 3, none⟩ = some (.int .i64 bu3) ∧ w'.cell? ⟨w2.heap.size, 0, none⟩ = some (.int .i64 co))
    (first | (with_reducible exact ⟨A1_4d.out.at 0 rfl, A1_4d.out.at 1 rfl, A1_4d.out.at 2 rfl, A1_4d.out.at 3 rfl, B1_4d.out.at 0 rfl, B1_4d.out.at 1 rfl, B1_4d.out.at 2 rfl, B1_4d.out.at 3 rfl, P1_4d.out.at 0 rfl⟩) | (with_reducible exact ⟨A1_5.out.at 0 rfl, A1_5.out.at 1 rfl, A1_5.out.at 2 rfl, A1_5.out.at 3 rfl, B1_5.out.at 0 rfl, B1_5.out.at 1 rfl, B1_5.out.at 2 rfl, B1_5.out.at 3 rfl, P1_5.out.at 0 rfl⟩) | (with_reducible exact ⟨A1_6.out.at 0 rfl, A1_6.out.at 1 rfl, A1_6.out.at 2 rfl, A1_6.out.at 3 rfl, B1_6.out.at 0 rfl, B1_6.out.at 1 rfl, B1_6.out.at 2 rfl, B1_6.out.at 3 rfl, P1_6.out.at 0 rfl⟩) | (with_reducible exact ⟨A1_7.out.at 0 rfl, A1_7.out.at 1 rfl, A1_7.out.at 2 rfl, A1_7.out.at 3 rfl, B1_7.out.at 0 rfl, B1_7.out.at 1 rfl, B1_7.out.at 2 rfl, B1_7.out.at 3 rfl, P1_7.out.at 0 rfl⟩))
    (first | (go_at_call 28; refine (specSet_any _ _ _ _ _ _ _ _ _ f1 _ _ X1_4d.out hnc1 hcm1 HR.out).mono ?_; rintro e w5 ⟨_, _, rfl, ho, hb⟩; have HB5 := Lib.hid (thru0 HB4d.out hb); have z5 : w4.heap.size ≤ w5.heap.size := hb.size; have X1_5 := Lib.hid (X1_4d.out.below hb); have A1_5 := Lib.hid (A1_4d.out.below hb); have Y1_5 := Lib.hid (Y1_4d.out.below hb); have P1_5 := Lib.hid (P1_4d.out.below hb); have X3_5 := Lib.hid (X3_4d.out.below hb); have B1_5 := Lib.hid (B1_4d.out.below hb); clear ho; clear hb) | (go_at_call 29; refine (HFA _ _ _ _ _ _ f3 _ _ _ _ _ X3_5.out hnc3 hcm3 HFR.out).mono ?_; rintro e w6 ⟨rfl, hb⟩; have HB6 := Lib.hid (thru0 HB5.out hb); have z6 : w5.heap.size ≤ w6.heap.size := hb.size; have X1_6 := Lib.hid (X1_5.out.below hb); have A1_6 := Lib.hid (A1_5.out.below hb); have Y1_6 := Lib.hid (Y1_5.out.below hb); have P1_6 := Lib.hid (P1_5.out.below hb); have X3_6 := Lib.hid (X3_5.out.below hb); have B1_6 := Lib.hid (B1_5.out.below hb); clear hb) | (go_at_call 30; refine (specFA_any _ _ _ _ _ _ _ _ f3 _ _ _ X3_6.out hnc3 hcm3 HFR.out).mono ?_; rintro e w7 ⟨rfl, hb⟩; have HB7 := Lib.hid (thru0 HB6.out hb); have z7 : w6.heap.size ≤ w7.heap.size := hb.size; have X1_7 := Lib.hid (X1_6.out.below hb); have A1_7 := Lib.hid (A1_6.out.below hb); have Y1_7 := Lib.hid (Y1_6.out.below hb); have P1_7 := Lib.hid (P1_6.out.below hb); have X3_7 := Lib.hid (X3_6.out.below hb); have B1_7 := Lib.hid (B1_6.out.below hb); clear hb))
  clear hfl1
  rcases HR.out with ⟨kf, hkf, h0, he⟩ | ⟨y, hk9, ⟨hi, he⟩ | ⟨hi, hv, he⟩ | ⟨hi, hv, L, ho, he⟩⟩
  · simp only [errAR, AR.mk.injEq] at he
    have hz0 : (co != 0) = true := by rw [he.1]; simpa using h0
    clear he hkf h0
    have cP0 := P1_7.out.at 0 rfl
    go_wp2
    go_ret
    exact ⟨rfl, HB7.out⟩
  · simp only [errAR, AR.mk.injEq] at he
    have hz0 : (co != 0) = true := by rw [he.1]; rfl
    clear he
    have cP0 := P1_7.out.at 0 rfl
    go_wp2
    go_ret
    exact ⟨rfl, HB7.out⟩
  · simp only [errAR, AR.mk.injEq] at he
    have hz0 : (co != 0) = true := by rw [he.1]; rfl
    clear he
    have cP0 := P1_7.out.at 0 rfl
    go_wp2
    go_ret
    exact ⟨rfl, HB7.out⟩
  · by_cases hptr : (y.m / P2 r1 % 2 == 1) = true ∧ leadsB L y.o v1 = false
    · rw [if_pos hptr] at he
      simp only [errAR, AR.mk.injEq] at he
      have hz0 : (co != 0) = true := by rw [he.1]; rfl
      clear he
      have cP0 := P1_7.out.at 0 rfl
      go_wp2
      go_ret
      exact ⟨rfl, HB7.out⟩
    · rw [if_neg hptr] at he
      simp only [AR.mk.injEq] at he
      obtain ⟨I, rfl⟩ : ∃ I : Nat, r1 = (I : Int) := ⟨r1.toNat, by omega⟩
      rw [Int.toNat_natCast] at he
      have hI : I < y.s.toNat := by omega
      have hl1 : y.m / P2 (I : Int) % 2 = 1 → leadsB L y.o v1 = true := fun hb => by
        cases hq : leadsB L y.o v1 with
        | true => rfl
        | false => exact absurd ⟨by rw [hb]; rfl, hq⟩ hptr
      have hset := set_right hk9 ho hI hv hl1
      have hwas := was_leads hk9 ho hI
      obtain ⟨rfl, rfl, rfl, hrf, rfl, rfl, rfl⟩ := he
      rw [← hrf] at hset
      obtain ⟨hoi, hsf, hat⟩ := hset
      obtain ⟨⟨⟨g1, g2⟩, _, _⟩, gn, gw⟩ := isFault_ok (isOI_zero ho).1
      obtain ⟨_, _, _, ⟨_, hyn⟩, _⟩ := isAt_ok hk9
      have hwW : Word (f1 (y.at_.toNat + 2 + I)) := gw _ (by omega)
      have hcap := HC2.out rfl
      obtain ⟨hcap1, hcap2⟩ := hcap
      have HF1 : Hid (IsFA rh rn f1 rac rbu q1 (I : Int) 0 (f1 (y.at_.toNat + 2 + I))) := Lib.hid ⟨0, some y, hk9, .inr ⟨y, rfl, rfl, .inr ⟨hi, rfl, by rw [Int.toNat_natCast]⟩⟩⟩
      have HF2 : Hid (IsFA rh rn rf rac rbu q1 (I : Int) 0 v1) := Lib.hid ⟨0, some y, hat, .inr ⟨y, rfl, rfl, .inr ⟨hi, rfl, by rw [Int.toNat_natCast, hrf, upd_at]⟩⟩⟩
      have hnp : ¬ ((y.m / P2 (I : Int) % 2 == 1) = true ∧ leadsB L y.o (f1 (y.at_.toNat + 2 + I)) = false) := fun k => by
        have h1 := hwas (by simpa using k.1)
        rw [h1] at k; cases k.2
      have HS2 : Hid (IsSet rh rn rf rac rbu q1 (I : Int) (f1 (y.at_.toNat + 2 + I)) ⟨0, rh, rn, upd rf (y.at_.toNat + 2 + I) (f1 (y.at_.toNat + 2 + I)), rac, rbu, 0⟩) := Lib.hid (.inr ⟨y, hat, .inr (.inr ⟨hi, hwW, L, hoi, by rw [if_neg hnp, Int.toNat_natCast]⟩)⟩)
      have HEQ : Hid (∀ j, upd rf (y.at_.toNat + 2 + I) (f1 (y.at_.toNat + 2 + I)) j = f1 j) := Lib.hid (fun j => by rw [hrf]; exact upd_back _ _ _ j)
      have HSF2 := Lib.hid hsf
      generalize hW9 : f1 (y.at_.toNat + 2 + I) = was at *
      generalize hU9 : upd rf (y.at_.toNat + 2 + I) was = ff at *
      clear hoi hsf hat hk9 ho hi hv hl1 hrf g1 g2 gn gw hyn hwW hnp hwas hptr HR hW9 hU9 hI
      have hf1 := run_valIR
      have lA := A1_7.out.1; have cA0 := A1_7.out.at 0 rfl; have cA1 := A1_7.out.at 1 rfl; have cA2 := A1_7.out.at 2 rfl; have cA3 := A1_7.out.at 3 rfl
      go_wp2_with fail
      refine (HFA _ _ _ _ _ _ f1 _ _ _ _ _ X1_7.out hnc1 hcm1 HF1.out).mono ?_
      rintro e w20 ⟨rfl, hb⟩
      have HB20 := Lib.hid (thru0 HB7.out hb)
      have A1_20 := Lib.hid (A1_7.out.below hb); have P1_20 := Lib.hid (P1_7.out.below hb); have X1_20 := Lib.hid (X1_7.out.below hb); have Y1_20 := Lib.hid (Y1_7.out.below hb)
      clear hb lA cA0 cA1 cA2 cA3
      have lP := P1_20.out.1; have cP0 := P1_20.out.at 0 rfl; have cP1 := P1_20.out.at 1 rfl; have cP2 := P1_20.out.at 2 rfl; have cP3 := P1_20.out.at 3 rfl; have cP4 := P1_20.out.at 4 rfl; have cP5 := P1_20.out.at 5 rfl
      go_wp2_with fail
      refine (HSet _ _ _ _ _ _ rf _ _ _ _ _ Y1_20.out hcap1 hcap2 HS2.out).mono ?_
      rintro e w21 ⟨u5, e5, rfl, ho, hb, _⟩
      have z21 : w20.heap.size ≤ w21.heap.size := hb.size
      have HB21 := Lib.hid (thru0 HB20.out hb); have Z_21 := Lib.hid ho.src
      have A1_21 := Lib.hid (A1_20.out.below hb); have P1_21 := Lib.hid (P1_20.out.below hb); have X1_21 := Lib.hid (X1_20.out.below hb); have Y1_21 := Lib.hid (Y1_20.out.below hb)
      clear hb ho lP cP0 cP1 cP2 cP3 cP4 cP5
      have lP := P1_21.out.1; have cP0 := P1_21.out.at 0 rfl; have cP1 := P1_21.out.at 1 rfl; have cP2 := P1_21.out.at 2 rfl; have cP3 := P1_21.out.at 3 rfl; have cP4 := P1_21.out.at 4 rfl; have cP5 := P1_21.out.at 5 rfl
      go_wp2_with fail
      have hea : eqA rh rn ff rac rbu rh rn f1 rac rbu = true := by simp [eqA, eqB_yes (fun j _ => HEQ.out j)]
      have HEA := Lib.hid hea
      clear hea
      refine (HFA _ _ _ _ _ _ rf _ _ _ _ _ (Y1_21.out.alloc _) hcap1 hcap2 HF2.out).mono ?_
      rintro e w22 ⟨rfl, hb⟩
      have HB22 := Lib.hid (thru1 HB21.out hb); have z22 : w21.heap.size + 1 ≤ w22.heap.size := by have := hb.size; simpa using this
      have A1_22 := Lib.hid ((A1_21.out.alloc _).below hb); have P1_22 := Lib.hid ((P1_21.out.alloc _).below hb); have X1_22 := Lib.hid ((X1_21.out.alloc _).below hb); have Y1_22 := Lib.hid ((Y1_21.out.alloc _).below hb); have Z_22 := Lib.hid ((Z_21.out.alloc _).below hb); have D1_22 := Lib.hid ((Blk.new_at (w := w21) (cs := #[.int .i64 0, .int .i64 rh, .slice u5 rn e5, .int .i64 rac, .int .i64 rbu, .int .i64 0]) (t := 32) (w21.heap.size) rfl).below hb)
      clear hb lP cP0 cP1 cP2 cP3 cP4 cP5
      have lP := P1_22.out.1; have cP0 := P1_22.out.at 0 rfl; have cP1 := P1_22.out.at 1 rfl; have cP2 := P1_22.out.at 2 rfl; have cP3 := P1_22.out.at 3 rfl; have cP4 := P1_22.out.at 4 rfl; have cP5 := P1_22.out.at 5 rfl
      go_wp2_with fail
      refine (HSF _ _ _ _ _ _ rf 0 _ Y1_22.out hcap1 hcap2 HSF2.out).mono ?_
      rintro e w23 ⟨rfl, hb⟩
      have HB23 := Lib.hid (thru0 HB22.out hb)
      have A1_23 := Lib.hid (A1_22.out.below hb); have X1_23 := Lib.hid (X1_22.out.below hb); have Z_23 := Lib.hid (Z_22.out.below hb); have D1_23 := Lib.hid (D1_22.out.below hb)
      clear hb lP cP0 cP1 cP2 cP3 cP4 cP5
      have lD := D1_23.out.1; have cD0 := D1_23.out.at 0 rfl; have cD1 := D1_23.out.at 1 rfl; have cD2 := D1_23.out.at 2 rfl; have cD3 := D1_23.out.at 3 rfl; have cD4 := D1_23.out.at 4 rfl; have cD5 := D1_23.out.at 5 rfl
      have lA := A1_23.out.1; have cA0 := A1_23.out.at 0 rfl; have cA1 := A1_23.out.at 1 rfl; have cA2 := A1_23.out.at 2 rfl; have cA3 := A1_23.out.at 3 rfl
      go_wp2_with fail
      refine (implSame_any _ _ _ _ _ _ _ _ _ _ _ _ ff f1 _ Z_23.out X1_23.out (by omega) (by omega)).mono ?_
      rw [HEA.out]
      rintro e w24 ⟨rfl, hb⟩
      have HB24 := Lib.hid (thru0 HB23.out hb)
      have A1_24 := Lib.hid (A1_23.out.below hb); have X1_24 := Lib.hid (X1_23.out.below hb); have Z_24 := Lib.hid (Z_23.out.below hb); have D1_24 := Lib.hid (D1_23.out.below hb)
      clear hb lA cA0 cA1 cA2 cA3 lD cD0 cD1 cD2 cD3 cD4 cD5
      have lD := D1_24.out.1; have cD0 := D1_24.out.at 0 rfl; have cD1 := D1_24.out.at 1 rfl; have cD2 := D1_24.out.at 2 rfl; have cD3 := D1_24.out.at 3 rfl; have cD4 := D1_24.out.at 4 rfl; have cD5 := D1_24.out.at 5 rfl
      have lA := A1_24.out.1; have cA0 := A1_24.out.at 0 rfl; have cA1 := A1_24.out.at 1 rfl; have cA2 := A1_24.out.at 2 rfl; have cA3 := A1_24.out.at 3 rfl
      go_wp2_with fail
      refine (specSame_any _ _ _ _ _ _ _ _ _ _ _ _ ff f1 _ Z_24.out X1_24.out (by omega) (by omega)).mono ?_
      rw [HEA.out]
      rintro e w25 ⟨rfl, hb⟩
      have HB25 := Lib.hid (thru0 HB24.out hb)
      go_wp2
      go_ret
      exact ⟨rfl, HB25.out⟩

theorem e4_any (HSet : ImplSetC) (HFA : ImplFA) (HSF : ImplSF) (ca : Option Addr) (k kc : Nat) (B : Nat → Int) (w : World) (hs : SrcB w w.heap.size ca k B) (hk : k ≤ maxLen) : Calls Try.prog 4 #[.slice ca k kc] w (RetBool w true) := by
  by_cases h : k ≤ 1048576
  · exact e4_near HSet HFA HSF ca k kc B w hs h
  · exact e4_far ca k kc w hk (by omega)
end Go.Proofs.Ytlelgfkebcnepaa

namespace Go.Proofs.Ytlelgfkebcnepaa
open Go.RowKit
set_option linter.unusedVariables false

theorem GSame.trans {t u v : GM} (h1 : GSame t u) (h2 : GSame u v) : GSame t v := by
  obtain ⟨a1, a2, a3, a4, a5, a6, a7⟩ := h1
  obtain ⟨b1, b2, b3, b4, b5, b6, b7⟩ := h2
  exact ⟨a1.trans b1, a2.trans b2, a3.trans b3, a4.trans b4, a5.trans b5, a6.trans b6, fun k hk => (a7 k hk).trans (b7 k (by omega))⟩
end Go.Proofs.Ytlelgfkebcnepaa

namespace Go.Proofs.Ytlelgfkebcnepaa
open Go.RowKit
set_option linter.unusedVariables false

theorem isNaN_any (x : Int) (w : World) : Calls Try.prog 132 #[.int .i64 x] w (fun e w' => e = .returned (.bool false) ∧ Below w.heap.size w w') := by
  go_enter Try.func132, Try.ntmps132
  go_wp2
  go_ret
  exact ⟨rfl, Below.refl _ _⟩

def sgn (x y : Int) : Int := if x < y then -1 else if y < x then 1 else 0

set_option maxRecDepth 100000 in
theorem compare_any (x y : Int) (w : World) : Calls Try.prog 115 #[.int .i64 x, .int .i64 y] w (fun e w' => e = .returned (.int .i64 (sgn x y)) ∧ Below w.heap.size w w') := by
  have arm : ∀ (W0 : World), True := fun _ => trivial
  by_cases h1 : x < y
  · have hs : sgn x y = -1 := by unfold sgn; rw [if_pos h1]
    rw [hs]
    go_enter Try.func115, Try.ntmps115
    go_wp2_with (first | (go_at_call 132; refine (isNaN_any x _).mono ?_; rintro e w1 ⟨rfl, hb1⟩) | (go_at_call 132; refine (isNaN_any y _).mono ?_; rintro e w2 ⟨rfl, hb2⟩))
    go_ret
    exact ⟨rfl, hb1.trans (hb2.mono hb1.size)⟩
  · by_cases h2 : y < x
    · have hs : sgn x y = 1 := by unfold sgn; rw [if_neg h1, if_pos h2]
      rw [hs]
      go_enter Try.func115, Try.ntmps115
      go_wp2_with (first | (go_at_call 132; refine (isNaN_any x _).mono ?_; rintro e w1 ⟨rfl, hb1⟩) | (go_at_call 132; refine (isNaN_any y _).mono ?_; rintro e w2 ⟨rfl, hb2⟩))
      go_ret
      exact ⟨rfl, hb1.trans (hb2.mono hb1.size)⟩
    · have hs : sgn x y = 0 := by unfold sgn; rw [if_neg h1, if_neg h2]
      rw [hs]
      go_enter Try.func115, Try.ntmps115
      go_wp2_with (first | (go_at_call 132; refine (isNaN_any x _).mono ?_; rintro e w1 ⟨rfl, hb1⟩) | (go_at_call 132; refine (isNaN_any y _).mono ?_; rintro e w2 ⟨rfl, hb2⟩))
      go_ret
      exact ⟨rfl, hb1.trans (hb2.mono hb1.size)⟩

set_option maxRecDepth 100000 in
theorem fo1_any (t : GM) (at_ : Int) (w : World) : Calls Try.prog 114 #[.agg #[.int .i64 t.at_, .int .i64 t.s, .int .i64 t.m, .int .i64 t.o, .int .i64 t.h, .slice t.a t.n t.c], .int .i64 at_] w (fun e w' => e = .returned (.int .i64 (sgn t.at_ at_)) ∧ Below w.heap.size w w') := by
  go_enter Try.func114, Try.ntmps114
  go_wp2_with (go_at_call 115; refine (compare_any t.at_ at_ _).mono ?_; rintro e w1 ⟨rfl, hb1⟩)
  go_ret
  exact ⟨rfl, ((Below.refl _ _).alloc (Nat.le_refl _) _).trans (hb1.mono (by simp))⟩
end Go.Proofs.Ytlelgfkebcnepaa

namespace Go.Proofs.Ytlelgfkebcnepaa
open Go.RowKit
set_option linter.unusedVariables false

/-- The world stands in the first place where the row is no longer below. -/
def Cut (T : Nat → GM) (N : Nat) (x : Int) (lo hi : Nat) : Prop := (∀ j, j < lo → (T j).at_ < x) ∧ (∀ j, hi ≤ j → j < N → x ≤ (T j).at_)

set_option maxRecDepth 100000 in
set_option maxHeartbeats 1600000 in
theorem bs_any (a : Option Addr) (N k : Nat) (T : Nat → GM) (at_ : Int) (w : World) (hg : GV w a N T) (hN : N ≤ 1048576) (hm : ∀ i j, i < j → j < N → (T i).at_ < (T j).at_) :
    Calls Try.prog 113 #[.slice a N k, .int .i64 at_, .func (.func 114) #[] #[]] w (fun e w' => ∃ i : Nat, i ≤ N ∧ Cut T N at_ i i ∧ e = .returned (.tuple #[.int .i64 (i : Int), .bool (decide (i < N ∧ (T i).at_ = at_))]) ∧ Below w.heap.size w w') := by
  have G := Lib.hid hg; have HM := Lib.hid hm
  clear hg hm
  have eg : ∀ args w, (callFunc 114 args).run Try.prog w = .ok (.enter 114 args) w := enters_of Try.func114 (by kernel_rfl) rfl
  go_enter Try.func113, Try.ntmps113
  go_wp2
  go_loopw [9, 10] (fun p r wr => ∃ lo hi : Nat, p = .int .i64 (lo : Int) ∧ r = .int .i64 (hi : Int) ∧ lo ≤ hi ∧ hi ≤ N ∧ Hid (Cut T N at_ lo hi) ∧ Hid (Below w.heap.size w wr)) (fun p r _ => (intOf r).toNat - (intOf p).toNat)
  case atStart => exact ⟨0, N, rfl, rfl, Nat.zero_le _, Nat.le_refl _, ⟨fun j hj => by omega, fun j h1 h2 => by omega⟩, Below.refl _ _⟩
  case round =>
    obtain ⟨lo, hi, rfl, rfl, hlh, hin, HC, HBr⟩ := hrel
    by_cases hlt : lo < hi
    · have hlt' : (lo : Int) < (hi : Int) := by omega
      obtain ⟨b, q, rfl, gs⟩ : ∃ b q, a = some ⟨b, q, none⟩ ∧ GSrc w b q N T := by
        rcases G.out with h0 | h
        · omega
        · exact h
      have six := (gs.six ((lo + hi) / 2) (by omega)).below HBr.out gs.lt
      have HS := Lib.hid six
      clear six gs
      obtain ⟨s0, s1, s2, s3, s4, s5⟩ := HS.out
      by_cases hx : (T ((lo + hi) / 2)).at_ < at_
      · have hs : sgn (T ((lo + hi) / 2)).at_ at_ < 0 := by unfold sgn; rw [if_pos hx]; omega
        have C1 : Hid (Cut T N at_ ((lo + hi) / 2 + 1) hi) := Lib.hid ⟨fun j hj => by
          rcases Nat.lt_or_ge j ((lo + hi) / 2) with h | h
          · exact Int.lt_trans (HM.out j _ h (by omega)) hx
          · rw [show j = (lo + hi) / 2 by omega]; exact hx, HC.out.2⟩
        clear hx HC
        go_wp2_with (go_at_fn 114; refine (fo1_any (T _) at_ _).mono ?_; rintro e w1 ⟨rfl, hb1⟩)
        clear hs s0 s1 s2 s3 s4 s5 HS
        have HB1 := Lib.hid (HBr.out.trans ((Below.refl _ _).trans (hb1.mono HBr.out.size)))
        clear hb1
        go_roundw
        case measure => simp [intOf]; omega
        case rel => exact ⟨(lo + hi) / 2 + 1, hi, by go_num, rfl, by omega, hin, C1, HB1⟩
      · have hs : ¬ sgn (T ((lo + hi) / 2)).at_ at_ < 0 := by unfold sgn; rw [if_neg hx]; split <;> omega
        have C1 : Hid (Cut T N at_ lo ((lo + hi) / 2)) := Lib.hid ⟨HC.out.1, fun j h1 h2 => by
          rcases Nat.lt_or_ge ((lo + hi) / 2) j with h | h
          · exact Int.le_of_lt (Int.lt_of_le_of_lt (by omega) (HM.out _ j h h2))
          · rw [show j = (lo + hi) / 2 by omega]; omega⟩
        clear hx HC
        go_wp2_with (go_at_fn 114; refine (fo1_any (T _) at_ _).mono ?_; rintro e w1 ⟨rfl, hb1⟩)
        clear hs s0 s1 s2 s3 s4 s5 HS
        have HB1 := Lib.hid (HBr.out.trans ((Below.refl _ _).trans (hb1.mono HBr.out.size)))
        clear hb1
        go_roundw
        case measure => simp [intOf]; omega
        case rel => exact ⟨lo, (lo + hi) / 2, rfl, by go_num, by omega, by omega, C1, HB1⟩
    · obtain rfl : hi = lo := by omega
      have hlt' : ¬ (hi : Int) < (hi : Int) := by omega
      by_cases hn : hi < N
      · have hn' : (hi : Int) < (N : Int) := by omega
        obtain ⟨b, q, rfl, gs⟩ : ∃ b q, a = some ⟨b, q, none⟩ ∧ GSrc w b q N T := by
          rcases G.out with h0 | h
          · omega
          · exact h
        have six := (gs.six hi hn).below HBr.out gs.lt
        have HS := Lib.hid six
        clear six gs
        obtain ⟨s0, s1, s2, s3, s4, s5⟩ := HS.out
        obtain ⟨t, ht⟩ : ∃ t, T hi = t := ⟨_, rfl⟩
        rw [ht] at s0 s1 s2 s3 s4 s5
        have HT := Lib.hid ht
        clear ht HS
        have hd : Hid ((sgn t.at_ at_ == 0) = decide (hi < N ∧ (T hi).at_ = at_)) := Lib.hid (by
          rw [HT.out]
          by_cases hx : t.at_ = at_
          · have : sgn t.at_ at_ = 0 := by unfold sgn; rw [if_neg (by omega), if_neg (by omega)]
            rw [this, decide_eq_true ⟨hn, hx⟩]; rfl
          · have : ¬ sgn t.at_ at_ = 0 := by unfold sgn; split; omega; split <;> omega
            rw [decide_eq_false (fun h => hx h.2)]; simpa using this)
        go_wp2_with (go_at_fn 114; refine (fo1_any t at_ _).mono ?_; rintro e w1 ⟨rfl, hb1⟩)
        have HB1 := Lib.hid (HBr.out.trans ((Below.refl _ _).trans (hb1.mono HBr.out.size)))
        go_ret2
        exact ⟨hi, hin, HC.out, by rw [← hd.out]; rfl, HB1.out⟩
      · have hn' : ¬ (hi : Int) < (N : Int) := by omega
        have hd : Hid (false = decide (hi < N ∧ (T hi).at_ = at_)) := Lib.hid (decide_eq_false (fun h => hn h.1)).symm
        go_wp2
        go_ret2
        refine ⟨hi, hin, HC.out, ?_, HBr.out⟩
        rw [decide_eq_false hn]; rfl
end Go.Proofs.Ytlelgfkebcnepaa

namespace Go.Proofs.Ytlelgfkebcnepaa
open Go.RowKit
set_option linter.unusedVariables false

theorem seven_keeps (w : World) (B : Nat) (v0 v1 v2 v3 v4 v5 v6 : Value) : Keeps w (((((((w.setCell ⟨B, 0, none⟩ v0).setCell ⟨B, 1, none⟩ v1).setCell ⟨B, 2, none⟩ v2).setCell ⟨B, 3, none⟩ v3).setCell ⟨B, 4, none⟩ v4).setCell ⟨B, 5, none⟩ v5).setCell ⟨B, 6, none⟩ v6) B (B + 1) := by
  repeat (refine Keeps.trans ?_ (keeps_setCell (p := ⟨B, _, none⟩) (Nat.le_refl B) (Nat.lt_succ_self B) _))
  exact Keeps.refl _ _ _

theorem blk_seven {w : World} {b B : Nat} {cs : List Value} (h : Blk w b cs) (hne : b ≠ B) (v0 v1 v2 v3 v4 v5 v6 : Value) : Blk (((((((w.setCell ⟨B, 0, none⟩ v0).setCell ⟨B, 1, none⟩ v1).setCell ⟨B, 2, none⟩ v2).setCell ⟨B, 3, none⟩ v3).setCell ⟨B, 4, none⟩ v4).setCell ⟨B, 5, none⟩ v5).setCell ⟨B, 6, none⟩ v6) b cs := h.keeps (seven_keeps w B v0 v1 v2 v3 v4 v5 v6) (by omega)

theorem cells5 {w : World} {b : Nat} {v0 v1 v2 v3 v4 : Value} (h : Blk w b [v0, v1, v2, v3, v4]) : w.cell? ⟨b, 0, none⟩ = some v0 ∧ w.cell? ⟨b, 1, none⟩ = some v1 ∧ w.cell? ⟨b, 2, none⟩ = some v2 ∧ w.cell? ⟨b, 3, none⟩ = some v3 ∧ w.cell? ⟨b, 4, none⟩ = some v4 := ⟨h.at 0 rfl, h.at 1 rfl, h.at 2 rfl, h.at 3 rfl, h.at 4 rfl⟩

set_option maxRecDepth 100000 in
set_option maxHeartbeats 400000 in
theorem clone_all (ad : Addr) (n cap : Nat) (f : Nat → Int) (w : World) (hs : Src w (some ad) n f) (hn : n ≤ 1048576) :
    Calls Try.prog 130 #[.slice (some ad) n cap] w (RetInts w n f) := by
  rcases Nat.eq_zero_or_pos n with rfl | hp
  · obtain ⟨i0, hi, hz0, hz1, hz2⟩ := info_parts Try.info2
    have hnil := fun (w : World) (a : Option Addr) (n c : Nat) => Lib.run_eql_slice_nil (P := Try.prog) w 24 2 a n c 0 0 Try.underlying24
    go_enter Try.func130, Try.ntmps130
    go_wp2_with (at_builtin; refine wpList_append_own _ rfl _ _ 24 rfl w.heap.size 2 i0 (.int .i64 0) 1 8 Try.underlying24 hi hz0 hz1 hz2 rfl (by decide) _ 0 [] rfl (World.ownsRow_lit w #[] 0 (Nat.le_refl _) (by simp [maxLen]) rfl) ad 0 cap (nums 0 f) rfl (by simp [nums]) (by intro j u h; simp [nums] at h) (nums_one 0 f) (by unfold maxLen; omega) (by omega) (by simp) ?_; intro v' w1 hown hgrow _)
    go_ret
    exact retInts_of_row (e := 2) (by simpa using hown) (((Below.refl _ _).alloc (Nat.le_refl _) _).grown hgrow (by simp) (by intro k hk; cases hk; exact Nat.le_refl _))
  · exact clone_any (some ad) n cap f w hs hp hn

/-- The first object of a row of words comes back, or a code. -/
def RetFirst (W : World) (n : Nat) (f : Nat → Int) (e : Ending) (w' : World) : Prop :=
  Below W.heap.size W w' ∧ ((Good f n 0 ∧ ∃ a c, e = .returned (.agg #[.int .i64 0, .int .i64 0, .int .i64 (f 0 / 2 % 16), .int .i64 (f 0 / 32 % 4096), .int .i64 (f 0 / 131072), .int .i64 (f 1), .slice a (szOf f 0) c]) ∧ Own w' W.heap.size a (szOf f 0) (fun k => f (2 + k))) ∨
    (¬ Good f n 0 ∧ e = .returned (.agg #[.int .i64 1, .int .i64 0, .int .i64 0, .int .i64 0, .int .i64 0, .int .i64 0, .slice none 0 0])))

set_option maxRecDepth 100000 in
set_option maxHeartbeats 1600000 in
theorem implFirst_any (b off n c : Nat) (f : Nat → Int) (w : World) (hs : Src w (some ⟨b, off, none⟩) n f) (hn : n ≤ 1048576) (hnc : n ≤ c) (hcm : c ≤ maxLen) :
    Calls Try.prog 110 #[.slice (some ⟨b, off, none⟩) n c] w (RetFirst w n f) := by
  have S := Lib.hid hs
  clear hs
  by_cases h2 : n < 2
  · have h2' : (n : Int) < 2 := by omega
    have hb : Hid (¬ Good f n 0) := Lib.hid (fun h => by have := h.1; omega)
    go_enter Try.func110, Try.ntmps110
    go_wp2
    refine bodyPost_ret (v := .agg #[.int .i64 1, .int .i64 0, .int .i64 0, .int .i64 0, .int .i64 0, .int .i64 0, .slice none 0 0]) (by simp [results, Try.results110, go_sem]) rfl ⟨?_, .inr ⟨hb.out, rfl⟩⟩
    repeat (first | (with_reducible refine Below.setCell ?_ (by (try simp); (try omega)) _) | (with_reducible refine Below.alloc ?_ (by (try simp); (try omega)) _) | (with_reducible refine Below.drew ?_))
    exact Below.refl _ _
  · have h2' : ¬ (n : Int) < 2 := by omega
    have h22 : (2 : Int) ≤ (n : Int) := by omega
    have hnc' : (n : Int) ≤ (c : Int) := by omega
    have hc2 : 2 ≤ c := by omega
    have S2 : Hid (Src w (some ⟨b, off, none⟩) 2 f) := S.out.elim (fun h => .inl (by omega)) (fun ⟨b', o', h1, h3, h4⟩ => .inr ⟨b', o', h1, h3, fun i hi => h4 i (by omega)⟩)
    have HCM := Lib.hid hcm
    clear hcm
    by_cases hk : ROk (f 0) (f 1)
    · have hs12 := hk.2.1
      have HK := Lib.hid hk
      clear hk
      go_enter Try.func110, Try.ntmps110
      go_wp2_with fail

      refine (implRH_any (some ⟨b, off, none⟩) 2 c f 0 (f 0 / 2 % 16) (f 0 / 32 % 4096) (f 0 / 131072) (f 1) _ (S2.out.alloc _) (by omega) (.inr (.inl ⟨rfl, HK.out, rfl, rfl, rfl, rfl, rfl⟩))).mono ?_
      rintro e w1 ⟨rfl, hb⟩
      have HB1 := Lib.hid (thru1 (Below.refl _ _) hb)
      have R_1 := Lib.hid ((Blk.new_at (w := w) (cs := #[.int .i64 0, .int .i64 0, .int .i64 0, .int .i64 0, .int .i64 0, .int .i64 0, .slice none 0 0]) (t := 44) (w.heap.size) rfl).below hb)
      have S1 := Lib.hid ((S.out.alloc _).below hb)
      have z1 : w.heap.size + 1 ≤ w1.heap.size := by have := hb.size; simp at this; omega
      clear hb
      by_cases hfit : f 0 / 2 % 16 ≤ (n : Int) - 2
      · obtain ⟨s, hs⟩ : ∃ s : Nat, f 0 / 2 % 16 = (s : Int) := ⟨(f 0 / 2 % 16).toNat, by omega⟩
        have hsz : szOf f 0 = s := by unfold szOf; omega
        have hg : Hid (Good f n 0) := Lib.hid ⟨by omega, HK.out, by rw [hsz]; omega⟩
        rw [hs] at hs12 hfit ⊢
        have HSZ := Lib.hid hsz
        clear hsz
        obtain ⟨m, hm⟩ : ∃ m, f 0 / 32 % 4096 = m := ⟨_, rfl⟩
        obtain ⟨o, ho⟩ : ∃ o, f 0 / 131072 = o := ⟨_, rfl⟩
        rw [hm, ho]
        have HES := Lib.hid hs; have HEM := Lib.hid hm; have HEO := Lib.hid ho
        clear hs hm ho
        have X1 := Lib.hid (Blk.new_at (w := w1) (cs := #[.int .i64 0, .int .i64 (s : Int), .int .i64 m, .int .i64 o, .int .i64 (f 1)]) (t := 167) (w1.heap.size) rfl)
        have R1 := Lib.hid (R_1.out.alloc (.cells #[.int .i64 0, .int .i64 (s : Int), .int .i64 m, .int .i64 o, .int .i64 (f 1)] 167))
        have HBa := Lib.hid (HB1.out.alloc HB1.out.size (.cells #[.int .i64 0, .int .i64 (s : Int), .int .i64 m, .int .i64 o, .int .i64 (f 1)] 167))
        have S3 : Hid (Src (w1.alloc (.cells #[.int .i64 0, .int .i64 (s : Int), .int .i64 m, .int .i64 o, .int .i64 (f 1)] 167)) (some ⟨b, off + 2, none⟩) s (fun k => f (2 + k))) := (S1.out.alloc _).elim (fun h => .inl (by omega)) (fun ⟨b', o', h1, h3, h4⟩ => .inr ⟨b', o' + 2, by cases h1; rfl, h3, fun i hi => by rw [show o' + 2 + i = o' + (2 + i) by omega]; exact h4 (2 + i) (by omega)⟩)
        have X1d := Lib.hid X1.out.drew; have R1d := Lib.hid R1.out.drew; have S3d := Lib.hid S3.out.drew; have HBd := Lib.hid HBa.out.drew
        have zd' : Hid (w.heap.size + 2 ≤ (w1.alloc (.cells #[.int .i64 0, .int .i64 (s : Int), .int .i64 m, .int .i64 o, .int .i64 (f 1)] 167)).drew.heap.size) := Lib.hid (by simp [World.drew]; omega)
        have hne7 : w1.heap.size ≠ w.heap.size := by omega
        have hs0 : (0 : Int) ≤ (s : Int) := by omega
        have hle1 : (2 : Int) ≤ 2 + (s : Int) := by omega
        have hle2 : 2 + (s : Int) ≤ (c : Int) := by omega
        have hs9 : s ≤ 1048576 := by omega
        by_cases hc : c = 2
        · have hz0 : Hid (s = 0) := Lib.hid (by omega)
          have S4d : Hid (Src (w1.alloc (.cells #[.int .i64 0, .int .i64 (s : Int), .int .i64 m, .int .i64 o, .int .i64 (f 1)] 167)).drew (some ⟨b, off, none⟩) s (fun k => f (2 + k))) := Lib.hid (Or.inl hz0.out)
          subst hc
          have lR := R_1.out.1; have cR0 := R_1.out.at 0 rfl; have fR0 := R_1.out.free 0 rfl; have cR1 := R_1.out.at 1 rfl; have fR1 := R_1.out.free 1 rfl; have cR2 := R_1.out.at 2 rfl; have fR2 := R_1.out.free 2 rfl; have cR3 := R_1.out.at 3 rfl; have fR3 := R_1.out.free 3 rfl; have cR4 := R_1.out.at 4 rfl; have fR4 := R_1.out.free 4 rfl; have cR5 := R_1.out.at 5 rfl; have fR5 := R_1.out.free 5 rfl; have cR6 := R_1.out.at 6 rfl; have fR6 := R_1.out.free 6 rfl
          go_wp2_with fail
          clear lR cR0 fR0 cR1 fR1 cR2 fR2 cR3 fR3 cR4 fR4 cR5 fR5 cR6 fR6
          clear hle1 hle2 hfit hs12 hnc' hc2 h22 h2' h2 hn hnc S S2 S1 X1 R1 HBa S3 R_1 HB1 HCM HK hs0
          go_region_held3 (fun w' => w'.cell? ⟨w1.heap.size, 0, none⟩ = some (.int .i64 0) ∧ w'.cell? ⟨w1.heap.size, 1, none⟩ = some (.int .i64 (s : Int)) ∧ w'.cell? ⟨w1.heap.size, 2, none⟩ = some (.int .i64 m) ∧ w'.cell? ⟨w1.heap.size, 3, none⟩ = some (.int .i64 o) ∧ w'.cell? ⟨w1.heap.size, 4, none⟩ = some (.int .i64 (f 1)))
            (first | (with_reducible exact cells5 X1d.out) | (with_reducible exact cells5 X2.out) | (with_reducible exact cells5 (blk_seven X2.out hne7 _ _ _ _ _ _ _)))
            (first | (go_at_call 130; refine (clone_all ⟨b, off, none⟩ s _ (fun k => f (2 + k)) _ S4d.out hs9).mono ?_; rintro e w2 ⟨g, cg, rfl, ho, hb, _, _, _⟩; have HB2 := Lib.hid (HBd.out.trans (hb.mono HBd.out.size)); have X2 := Lib.hid (X1d.out.below hb); have R2 := Lib.hid (R1d.out.below hb); have z2 := hb.size; have HO := Lib.hid (ho.mono zd'.out); clear hb ho; have lR := R2.out.1; have cR0 := R2.out.at 0 rfl; have fR0 := R2.out.free 0 rfl; have cR1 := R2.out.at 1 rfl; have fR1 := R2.out.free 1 rfl; have cR2 := R2.out.at 2 rfl; have fR2 := R2.out.free 2 rfl; have cR3 := R2.out.at 3 rfl; have fR3 := R2.out.free 3 rfl; have cR4 := R2.out.at 4 rfl; have fR4 := R2.out.free 4 rfl; have cR5 := R2.out.at 5 rfl; have fR5 := R2.out.free 5 rfl; have cR6 := R2.out.at 6 rfl; have fR6 := R2.out.free 6 rfl))
          go_wp2
          refine bodyPost_ret (v := .agg #[.int .i64 0, .int .i64 0, .int .i64 (s : Int), .int .i64 m, .int .i64 o, .int .i64 (f 1), .slice g s cg]) (by simp [results, Try.results110, go_sem, cR0, cR1, cR2, cR3, cR4, cR5, cR6]) rfl ⟨?_, .inl ⟨hg.out, g, cg, by rw [HSZ.out, HES.out, HEM.out, HEO.out], ?_⟩⟩
          · repeat (first | (with_reducible refine Below.setCell ?_ (by (try simp); (try omega)) _) | (with_reducible refine Below.alloc ?_ (by (try simp); (try omega)) _) | (with_reducible refine Below.drew ?_))
            exact HB2.out
          · rw [HSZ.out]
            refine Own.mono (B := w.heap.size + 2) ?_ (by omega)
            repeat (first | (with_reducible refine Own.setCell ?_ (by (try simp); (try omega)) _) | (with_reducible refine Own.alloc ?_ _) | (with_reducible refine Own.drew ?_))
            exact HO.out
        · have lR := R_1.out.1; have cR0 := R_1.out.at 0 rfl; have fR0 := R_1.out.free 0 rfl; have cR1 := R_1.out.at 1 rfl; have fR1 := R_1.out.free 1 rfl; have cR2 := R_1.out.at 2 rfl; have fR2 := R_1.out.free 2 rfl; have cR3 := R_1.out.at 3 rfl; have fR3 := R_1.out.free 3 rfl; have cR4 := R_1.out.at 4 rfl; have fR4 := R_1.out.free 4 rfl; have cR5 := R_1.out.at 5 rfl; have fR5 := R_1.out.free 5 rfl; have cR6 := R_1.out.at 6 rfl; have fR6 := R_1.out.free 6 rfl
          go_wp2_with fail
          clear lR cR0 fR0 cR1 fR1 cR2 fR2 cR3 fR3 cR4 fR4 cR5 fR5 cR6 fR6
          clear hle1 hle2 hfit hs12 hnc' hc2 h22 h2' h2 hn hnc S S2 S1 X1 R1 HBa S3 R_1 HB1 HCM HK hs0
          go_region_held3 (fun w' => w'.cell? ⟨w1.heap.size, 0, none⟩ = some (.int .i64 0) ∧ w'.cell? ⟨w1.heap.size, 1, none⟩ = some (.int .i64 (s : Int)) ∧ w'.cell? ⟨w1.heap.size, 2, none⟩ = some (.int .i64 m) ∧ w'.cell? ⟨w1.heap.size, 3, none⟩ = some (.int .i64 o) ∧ w'.cell? ⟨w1.heap.size, 4, none⟩ = some (.int .i64 (f 1)))
            (first | (with_reducible exact cells5 X1d.out) | (with_reducible exact cells5 X2.out) | (with_reducible exact cells5 (blk_seven X2.out hne7 _ _ _ _ _ _ _)))
            (first | (go_at_call 130; refine (clone_all ⟨b, off + 2, none⟩ s _ (fun k => f (2 + k)) _ S3d.out hs9).mono ?_; rintro e w2 ⟨g, cg, rfl, ho, hb, _, _, _⟩; have HB2 := Lib.hid (HBd.out.trans (hb.mono HBd.out.size)); have X2 := Lib.hid (X1d.out.below hb); have R2 := Lib.hid (R1d.out.below hb); have z2 := hb.size; have HO := Lib.hid (ho.mono zd'.out); clear hb ho; have lR := R2.out.1; have cR0 := R2.out.at 0 rfl; have fR0 := R2.out.free 0 rfl; have cR1 := R2.out.at 1 rfl; have fR1 := R2.out.free 1 rfl; have cR2 := R2.out.at 2 rfl; have fR2 := R2.out.free 2 rfl; have cR3 := R2.out.at 3 rfl; have fR3 := R2.out.free 3 rfl; have cR4 := R2.out.at 4 rfl; have fR4 := R2.out.free 4 rfl; have cR5 := R2.out.at 5 rfl; have fR5 := R2.out.free 5 rfl; have cR6 := R2.out.at 6 rfl; have fR6 := R2.out.free 6 rfl))
          go_wp2
          refine bodyPost_ret (v := .agg #[.int .i64 0, .int .i64 0, .int .i64 (s : Int), .int .i64 m, .int .i64 o, .int .i64 (f 1), .slice g s cg]) (by simp [results, Try.results110, go_sem, cR0, cR1, cR2, cR3, cR4, cR5, cR6]) rfl ⟨?_, .inl ⟨hg.out, g, cg, by rw [HSZ.out, HES.out, HEM.out, HEO.out], ?_⟩⟩
          · repeat (first | (with_reducible refine Below.setCell ?_ (by (try simp); (try omega)) _) | (with_reducible refine Below.alloc ?_ (by (try simp); (try omega)) _) | (with_reducible refine Below.drew ?_))
            exact HB2.out
          · rw [HSZ.out]
            refine Own.mono (B := w.heap.size + 2) ?_ (by omega)
            repeat (first | (with_reducible refine Own.setCell ?_ (by (try simp); (try omega)) _) | (with_reducible refine Own.alloc ?_ _) | (with_reducible refine Own.drew ?_))
            exact HO.out
      · have hs12' := hs12
        have hb : Hid (¬ Good f n 0) := Lib.hid (fun h => by have h3 := h.2.2; unfold szOf at h3; omega)
        have hd : (n : Int) - 2 < f 0 / 2 % 16 := by omega
        have lR := R_1.out.1; have cR0 := R_1.out.at 0 rfl; have fR0 := R_1.out.free 0 rfl; have cR1 := R_1.out.at 1 rfl; have fR1 := R_1.out.free 1 rfl; have cR2 := R_1.out.at 2 rfl; have fR2 := R_1.out.free 2 rfl; have cR3 := R_1.out.at 3 rfl; have fR3 := R_1.out.free 3 rfl; have cR4 := R_1.out.at 4 rfl; have fR4 := R_1.out.free 4 rfl; have cR5 := R_1.out.at 5 rfl; have fR5 := R_1.out.free 5 rfl; have cR6 := R_1.out.at 6 rfl; have fR6 := R_1.out.free 6 rfl
        go_wp2
        refine bodyPost_ret (v := .agg #[.int .i64 1, .int .i64 0, .int .i64 0, .int .i64 0, .int .i64 0, .int .i64 0, .slice none 0 0]) (by simp [results, Try.results110, go_sem, lR, cR0, cR1, cR2, cR3, cR4, cR5, cR6]) rfl ⟨?_, .inr ⟨hb.out, rfl⟩⟩
        repeat (first | (with_reducible refine Below.setCell ?_ (by (try simp); (try omega)) _) | (with_reducible refine Below.alloc ?_ (by (try simp); (try omega)) _) | (with_reducible refine Below.drew ?_))
        exact HB1.out
    · have HK := Lib.hid hk
      clear hk
      have hb : Hid (¬ Good f n 0) := Lib.hid (fun h => HK.out h.2.1)
      go_enter Try.func110, Try.ntmps110
      go_wp2_with fail

      refine (implRH_any (some ⟨b, off, none⟩) 2 c f 1 0 0 0 0 _ (S2.out.alloc _) (by omega) (.inr (.inr ⟨rfl, HK.out, rfl, rfl, rfl, rfl, rfl⟩))).mono ?_
      rintro e w1 ⟨rfl, hb⟩
      have HB1 := Lib.hid (thru1 (Below.refl _ _) hb)
      have R_1 := Lib.hid ((Blk.new_at (w := w) (cs := #[.int .i64 0, .int .i64 0, .int .i64 0, .int .i64 0, .int .i64 0, .int .i64 0, .slice none 0 0]) (t := 44) (w.heap.size) rfl).below hb)
      have S1 := Lib.hid ((S.out.alloc _).below hb)
      have z1 : w.heap.size + 1 ≤ w1.heap.size := by have := hb.size; simp at this; omega
      clear hb
      have lR := R_1.out.1; have cR0 := R_1.out.at 0 rfl; have fR0 := R_1.out.free 0 rfl; have cR1 := R_1.out.at 1 rfl; have fR1 := R_1.out.free 1 rfl; have cR2 := R_1.out.at 2 rfl; have fR2 := R_1.out.free 2 rfl; have cR3 := R_1.out.at 3 rfl; have fR3 := R_1.out.free 3 rfl; have cR4 := R_1.out.at 4 rfl; have fR4 := R_1.out.free 4 rfl; have cR5 := R_1.out.at 5 rfl; have fR5 := R_1.out.free 5 rfl; have cR6 := R_1.out.at 6 rfl; have fR6 := R_1.out.free 6 rfl
      go_wp2
      refine bodyPost_ret (v := .agg #[.int .i64 1, .int .i64 0, .int .i64 0, .int .i64 0, .int .i64 0, .int .i64 0, .slice none 0 0]) (by simp [results, Try.results110, go_sem, lR, cR0, cR1, cR2, cR3, cR4, cR5, cR6]) rfl ⟨?_, .inr ⟨hb.out, rfl⟩⟩
      repeat (first | (with_reducible refine Below.setCell ?_ (by (try simp); (try omega)) _) | (with_reducible refine Below.alloc ?_ (by (try simp); (try omega)) _) | (with_reducible refine Below.drew ?_))
      exact HB1.out
end Go.Proofs.Ytlelgfkebcnepaa

namespace Go.Proofs.Ytlelgfkebcnepaa
open Go.RowKit
set_option linter.unusedVariables false

/-- An object is found in a row, or there is none. -/
def RetFound (W : World) (N : Nat) (T : Nat → GM) (x : Int) (e : Ending) (w' : World) : Prop :=
  Below W.heap.size W w' ∧ ((∃ i, i < N ∧ (T i).at_ = x ∧ e = .returned (.agg #[.int .i64 0, .int .i64 (T i).at_, .int .i64 (T i).s, .int .i64 (T i).m, .int .i64 (T i).o, .int .i64 (T i).h, .slice (T i).a (T i).n (T i).c])) ∨ ((∀ i, i < N → ¬ (T i).at_ = x) ∧ e = .returned (.agg #[.int .i64 4, .int .i64 0, .int .i64 0, .int .i64 0, .int .i64 0, .int .i64 0, .slice none 0 0])))

set_option maxRecDepth 100000 in
set_option maxHeartbeats 1600000 in
theorem find_any (a : Option Addr) (N k : Nat) (T : Nat → GM) (x : Int) (w : World) (hg : GV w a N T) (hN : N ≤ 1048576) (hm : ∀ i j, i < j → j < N → (T i).at_ < (T j).at_) :
    Calls Try.prog 63 #[.slice a N k, .int .i64 x] w (RetFound w N T x) := by
  have G := Lib.hid hg; have HM := Lib.hid hm
  clear hg hm
  go_enter Try.func63, Try.ntmps63
  go_wp2_with fail
  refine (bs_any a N k T x _ (G.out.alloc _) hN HM.out).mono ?_
  rintro e w1 ⟨i, hi, hc, rfl, hb⟩
  have HB1 := Lib.hid (thru1 (Below.refl _ _) hb)
  have R_1 := Lib.hid ((Blk.new_at (w := w) (cs := #[.int .i64 0, .int .i64 0, .int .i64 0, .int .i64 0, .int .i64 0, .int .i64 0, .slice none 0 0]) (t := 44) (w.heap.size) rfl).below hb)
  have G1 := Lib.hid ((G.out.alloc _).below hb)
  have z1 : w.heap.size + 1 ≤ w1.heap.size := by have := hb.size; simp at this; omega
  clear hb
  have HC := Lib.hid hc
  clear hc
  by_cases hx : i < N ∧ (T i).at_ = x
  · rw [decide_eq_true hx]
    obtain ⟨b, q, rfl, gs⟩ : ∃ b q, a = some ⟨b, q, none⟩ ∧ GSrc w1 b q N T := by
      rcases G1.out with h0 | h
      · omega
      · exact h
    have HS := Lib.hid (gs.six i hx.1)
    clear gs
    have hi' : (i : Int) < (N : Int) := by omega
    have hi0 : (0 : Int) ≤ (i : Int) := by omega
    obtain ⟨t, ht⟩ : ∃ t, T i = t := ⟨_, rfl⟩
    have HP : Hid (∃ i, i < N ∧ (T i).at_ = x ∧ Ending.returned (.agg #[.int .i64 0, .int .i64 t.at_, .int .i64 t.s, .int .i64 t.m, .int .i64 t.o, .int .i64 t.h, .slice t.a t.n t.c]) = Ending.returned (.agg #[.int .i64 0, .int .i64 (T i).at_, .int .i64 (T i).s, .int .i64 (T i).m, .int .i64 (T i).o, .int .i64 (T i).h, .slice (T i).a (T i).n (T i).c])) := Lib.hid ⟨i, hx.1, hx.2, by rw [ht]⟩
    have HS' : Hid (SixG w1 b (q + i * 6) t) := Lib.hid (by rw [← ht]; exact HS.out)
    clear HS hx ht HC
    obtain ⟨s0, s1, s2, s3, s4, s5⟩ := HS'.out
    have lR := R_1.out.1; have cR0 := R_1.out.at 0 rfl; have fR0 := R_1.out.free 0 rfl; have cR1 := R_1.out.at 1 rfl; have fR1 := R_1.out.free 1 rfl; have cR2 := R_1.out.at 2 rfl; have fR2 := R_1.out.free 2 rfl; have cR3 := R_1.out.at 3 rfl; have fR3 := R_1.out.free 3 rfl; have cR4 := R_1.out.at 4 rfl; have fR4 := R_1.out.free 4 rfl; have cR5 := R_1.out.at 5 rfl; have fR5 := R_1.out.free 5 rfl; have cR6 := R_1.out.at 6 rfl; have fR6 := R_1.out.free 6 rfl
    go_wp2
    refine bodyPost_ret (v := .agg #[.int .i64 0, .int .i64 t.at_, .int .i64 t.s, .int .i64 t.m, .int .i64 t.o, .int .i64 t.h, .slice t.a t.n t.c]) (by simp [results, Try.results63, go_sem, cR0, cR1, cR2, cR3, cR4, cR5, cR6]) rfl ⟨?_, .inl HP.out⟩
    repeat (first | (with_reducible refine Below.setCell ?_ (by (try simp); (try omega)) _) | (with_reducible refine Below.alloc ?_ (by (try simp); (try omega)) _) | (with_reducible refine Below.drew ?_))
    exact HB1.out
  · rw [decide_eq_false hx]
    have HP : Hid (∀ i, i < N → ¬ (T i).at_ = x) := Lib.hid (fun j hj he => by
      rcases Nat.lt_or_ge j i with h | h
      · have := HC.out.1 j h; omega
      · have h2 := HC.out.2 i (Nat.le_refl _) (by omega)
        rcases Nat.lt_or_ge i j with h3 | h3
        · have := HM.out i j h3 hj; omega
        · exact hx ⟨by omega, by rw [show i = j by omega]; exact he⟩)
    clear hx HC
    have lR := R_1.out.1; have cR0 := R_1.out.at 0 rfl; have fR0 := R_1.out.free 0 rfl; have cR1 := R_1.out.at 1 rfl; have fR1 := R_1.out.free 1 rfl; have cR2 := R_1.out.at 2 rfl; have fR2 := R_1.out.free 2 rfl; have cR3 := R_1.out.at 3 rfl; have fR3 := R_1.out.free 3 rfl; have cR4 := R_1.out.at 4 rfl; have fR4 := R_1.out.free 4 rfl; have cR5 := R_1.out.at 5 rfl; have fR5 := R_1.out.free 5 rfl; have cR6 := R_1.out.at 6 rfl; have fR6 := R_1.out.free 6 rfl
    go_wp2
    refine bodyPost_ret (v := .agg #[.int .i64 4, .int .i64 0, .int .i64 0, .int .i64 0, .int .i64 0, .int .i64 0, .slice none 0 0]) (by simp [results, Try.results63, go_sem, cR0, cR1, cR2, cR3, cR4, cR5, cR6]) rfl ⟨?_, .inr ⟨HP.out, rfl⟩⟩
    repeat (first | (with_reducible refine Below.setCell ?_ (by (try simp); (try omega)) _) | (with_reducible refine Below.alloc ?_ (by (try simp); (try omega)) _) | (with_reducible refine Below.drew ?_))
    exact HB1.out
end Go.Proofs.Ytlelgfkebcnepaa

namespace Go.Proofs.Ytlelgfkebcnepaa
open Go.RowKit
set_option linter.unusedVariables false

/-- A field as the program has it. -/
def fieldV (r : Bool) (v : Int) : Value := .iface (if r then 158 else 159) (.int .i64 v)

set_option maxRecDepth 100000 in
set_option maxHeartbeats 800000 in
theorem fieldOf_any (s m o h i v : Int) (r : Bool) (w : World) (hk : IsIP s m o h i r) : Calls Try.prog 79 #[.agg #[.int .i64 s, .int .i64 m, .int .i64 o, .int .i64 h], .int .i64 i, .int .i64 v] w (fun e w' => e = .returned (fieldV r v) ∧ Below w.heap.size w w') := by
  have HK := Lib.hid hk
  clear hk
  go_enter Try.func79, Try.ntmps79
  go_wp2_with fail
  refine (implIP_any s m o h i r _ HK.out).mono ?_
  rintro e w1 ⟨rfl, hb⟩
  have HB1 := Lib.hid (thru1 (Below.refl _ _) hb)
  clear hb
  cases r
  all_goals
    go_wp2
    go_ret
    exact ⟨rfl, HB1.out⟩

set_option maxRecDepth 100000 in
theorem place_any (v : Int) (w : World) (h1 : -1000000000 ≤ v) (h2 : v ≤ 1000000000) : Calls Try.prog 122 #[.int .i64 v] w (fun e w' => e = .returned (.int .i64 (v - 1)) ∧ Below w.heap.size w w') := by
  go_enter Try.func122, Try.ntmps122
  go_wp2
  go_ret
  exact ⟨rfl, Below.refl _ _⟩

set_option maxRecDepth 100000 in
theorem word_ptr (v : Int) (w : World) : Calls Try.prog 151 #[.int .i64 v] w (fun e w' => e = .returned (.int .i64 v) ∧ Below w.heap.size w w') := by
  go_enter Try.func151, Try.ntmps151
  go_wp2
  go_ret
  exact ⟨rfl, Below.refl _ _⟩

set_option maxRecDepth 100000 in
theorem word_plain (v : Int) (w : World) : Calls Try.prog 152 #[.int .i64 v] w (fun e w' => e = .returned (.int .i64 v) ∧ Below w.heap.size w w') := by
  go_enter Try.func152, Try.ntmps152
  go_wp2
  go_ret
  exact ⟨rfl, Below.refl _ _⟩

theorem as_ptr (v : Value) (w : World) : (Instr.typeAssert (.iface 158 v) 115 158 true).run Try.prog w = .ok (.tuple #[v, .bool true]) w := by kernel_rfl

theorem as_plain (v : Value) (w : World) : (Instr.typeAssert (.iface 159 v) 115 158 true).run Try.prog w = .ok (.tuple #[.int .i64 0, .bool false]) w := by kernel_rfl

set_option maxRecDepth 100000 in
set_option maxHeartbeats 800000 in
theorem may_plain (ob : Value) (owner v : Int) (w : World) : Calls Try.prog 80 #[ob, .int .i64 owner, .iface 159 (.int .i64 v)] w (RetBool w true) := by
  have ha := as_plain
  go_enter Try.func80, Try.ntmps80
  go_wp2
  go_ret
  exact ⟨rfl, Below.refl _ _⟩

/-- Whether a field of an object of this owner may be v. -/
def MayG (N : Nat) (T : Nat → GM) (owner v : Int) : Prop := v = 0 ∨ ∃ i, i < N ∧ (T i).at_ = v - 1 ∧ (T i).o = owner

set_option maxRecDepth 100000 in
set_option maxHeartbeats 1600000 in
theorem may_ptr (a : Option Addr) (N k : Nat) (T : Nat → GM) (owner v : Int) (r : Bool) (w : World) (hg : GV w a N T) (hN : N ≤ 1048576) (hm : ∀ i j, i < j → j < N → (T i).at_ < (T j).at_) (h1 : -1000000000 ≤ v) (h2 : v ≤ 1000000000) (hr : r = true ↔ MayG N T owner v) :
    Calls Try.prog 80 #[.slice a N k, .int .i64 owner, .iface 158 (.int .i64 v)] w (RetBool w r) := by
  have G := Lib.hid hg; have HM := Lib.hid hm; have HR := Lib.hid hr
  clear hg hm hr
  by_cases h0 : v = 0
  · obtain rfl : r = true := HR.out.2 (.inl h0)
    have ha := as_ptr
    go_enter Try.func80, Try.ntmps80
    go_wp2
    go_ret
    exact ⟨rfl, Below.refl _ _⟩
  · have hr0 : r = true ↔ ∃ i, i < N ∧ (T i).at_ = v - 1 ∧ (T i).o = owner := ⟨fun h => (HR.out.1 h).resolve_left h0, fun h => HR.out.2 (.inr h)⟩
    have HR0 := Lib.hid hr0
    clear hr0 HR
    have ha := as_ptr
    go_enter Try.func80, Try.ntmps80
    go_wp2_with (go_at_call 122; refine (place_any v _ h1 h2).mono ?_; rintro e w1 ⟨rfl, hb1⟩; have G1 := Lib.hid (G.out.below hb1); have HB1 := Lib.hid hb1; clear hb1)
    refine (find_any a N k T (v - 1) _ G1.out hN HM.out).mono ?_
    rintro e w2 ⟨hb, hc⟩
    have HB2 := Lib.hid (HB1.out.trans (hb.mono HB1.out.size))
    clear hb
    rcases hc with ⟨i, hi, hx, rfl⟩ | ⟨hx, rfl⟩
    · have hu : ∀ j, j < N → (T j).at_ = v - 1 → j = i := fun j hj hjx => by
        rcases Nat.lt_trichotomy i j with h | h | h
        · have := HM.out i j h hj; omega
        · exact h.symm
        · have := HM.out j i h hi; omega
      have HV : Hid (decide ((T i).o = owner) = r) := Lib.hid (by
        cases r with
        | true => obtain ⟨j, hj, hjx, ho⟩ := HR0.out.1 rfl; rw [← hu j hj hjx]; exact decide_eq_true ho
        | false => exact decide_eq_false fun h => by have := HR0.out.2 ⟨i, hi, hx, h⟩; cases this)
      clear hu
      go_wp2
      go_ret
      exact ⟨by rw [← HV.out]; (first | rfl | (simp; done) | (trace_state; fail)), HB2.out.alloc HB2.out.size _⟩
    · have hf : r = false := by
        cases r with
        | false => rfl
        | true => obtain ⟨j, hj, hjx, ho⟩ := HR0.out.1 rfl; exact absurd hjx (hx j hj)
      subst hf
      clear hx
      go_wp2
      go_ret
      exact ⟨rfl, HB2.out.alloc HB2.out.size _⟩
end Go.Proofs.Ytlelgfkebcnepaa

namespace Go.Proofs.Ytlelgfkebcnepaa
open Go.RowKit
set_option linter.unusedVariables false

/-- What heads and words the objects of a row have. -/
def Heads (N : Nat) (T : Nat → GM) : Prop := ∀ i, i < N → HOk (T i).s (T i).m (T i).o (T i).h ∧ (T i).n = (T i).s.toNat ∧ ∀ k, k < (T i).n → -1000000000 ≤ (T i).f k ∧ (T i).f k ≤ 1000000000

/-- Each pointer may be there. -/
def PtG (N : Nat) (T : Nat → GM) : Prop := ∀ i, i < N → ∀ k : Nat, k < (T i).n → (T i).m / P2 k % 2 = 1 → MayG N T (T i).o ((T i).f k)

theorem mid4 {w : World} {b : Nat} {v0 v1 v2 v3 v4 v5 : Value} (h : Blk w b [v0, v1, v2, v3, v4, v5]) : w.cell? ⟨b, 1, none⟩ = some v1 ∧ w.cell? ⟨b, 2, none⟩ = some v2 ∧ w.cell? ⟨b, 3, none⟩ = some v3 ∧ w.cell? ⟨b, 4, none⟩ = some v4 := ⟨h.at 1 rfl, h.at 2 rfl, h.at 3 rfl, h.at 4 rfl⟩

set_option maxRecDepth 100000 in
set_option maxHeartbeats 3200000 in
theorem stray_any (a : Option Addr) (N kk : Nat) (T : Nat → GM) (r : Bool) (w : World) (hg : GV w a N T) (hN : N ≤ 1048576) (hm : ∀ i j, i < j → j < N → (T i).at_ < (T j).at_) (hh : Heads N T) (hr : r = true ↔ ¬ PtG N T) :
    Calls Try.prog 111 #[.slice a N kk] w (RetBool w r) := by
  have G := Lib.hid hg; have HM := Lib.hid hm; have HH := Lib.hid hh; have HR := Lib.hid hr
  clear hg hm hh hr
  go_enter Try.func111, Try.ntmps111
  go_wp2
  go_loopw [9] (fun p wr => ∃ i : Nat, i ≤ N ∧ p = .int .i64 (i : Int) ∧ Hid (Below w.heap.size w wr) ∧ Hid (∀ j, j < i → ∀ k : Nat, k < (T j).n → (T j).m / P2 k % 2 = 1 → MayG N T (T j).o ((T j).f k))) (fun p _ => N - (intOf p).toNat)
  case atStart => exact ⟨0, Nat.zero_le _, rfl, Below.refl _ _, Lib.hid (fun j hj => by omega)⟩
  case round =>
    obtain ⟨i, hi, rfl, HBr, HPT⟩ := hrel
    by_cases hlt : i < N
    · have hlt' : (i : Int) < (N : Int) := by omega
      have hi0 : (0 : Int) ≤ (i : Int) := by omega
      obtain ⟨b, q, rfl, gs⟩ : ∃ b q, a = some ⟨b, q, none⟩ ∧ GSrc w b q N T := by
        rcases G.out with h0 | h
        · omega
        · exact h
      have six := (gs.six i hlt).below HBr.out gs.lt
      have src := (gs.flds i hlt).below HBr.out
      have hhd := HH.out i hlt
      have hpi : Hid (∀ r : Prop, (∀ k : Nat, k < (T i).n → (T i).m / P2 k % 2 = 1 → MayG N T (T i).o ((T i).f k)) → (∀ j, j < i + 1 → ∀ k : Nat, k < (T j).n → (T j).m / P2 k % 2 = 1 → MayG N T (T j).o ((T j).f k))) := Lib.hid (fun _ h j hj => by
        rcases Nat.lt_succ_iff_lt_or_eq.mp hj with h' | h'
        · exact HPT.out j h'
        · subst h'; exact h)
      have hbad : Hid (∀ k : Nat, k < (T i).n → (T i).m / P2 k % 2 = 1 → ¬ MayG N T (T i).o ((T i).f k) → r = true) := Lib.hid (fun k h1 h2 h3 => HR.out.2 fun hp => h3 (hp i hlt k h1 h2))
      obtain ⟨t, ht⟩ : ∃ t, T i = t := ⟨_, rfl⟩
      rw [ht] at six src hhd hpi hbad
      have HT := Lib.hid ht
      clear ht gs
      obtain ⟨hok, htn, hwd⟩ := hhd
      have ht12 : t.n ≤ 12 := by have := hok.1; omega
      have hst : t.s = (t.n : Int) := by have := hok.1; omega
      have HOK := Lib.hid hok; have HWD := Lib.hid hwd; have HS := Lib.hid six; have SR := Lib.hid src; have HTN := Lib.hid htn; have HST := Lib.hid hst
      clear hok hwd six src htn hst
      obtain ⟨s0, s1, s2, s3, s4, s5⟩ := HS.out
      obtain ⟨B, hB⟩ : ∃ B, wr.heap.size = B := ⟨_, rfl⟩
      have HX0 : Hid (Blk (wr.alloc (.cells #[.int .i64 t.at_, .int .i64 t.s, .int .i64 t.m, .int .i64 t.o, .int .i64 t.h, .slice t.a t.n t.c] 42)) B [.int .i64 t.at_, .int .i64 t.s, .int .i64 t.m, .int .i64 t.o, .int .i64 t.h, .slice t.a t.n t.c]) := Lib.hid (by rw [← hB]; exact Blk.new _ _ _)
      have HB0 := Lib.hid (HBr.out.alloc HBr.out.size (.cells #[.int .i64 t.at_, .int .i64 t.s, .int .i64 t.m, .int .i64 t.o, .int .i64 t.h, .slice t.a t.n t.c] 42))
      have SR0 := Lib.hid (SR.out.alloc (.cells #[.int .i64 t.at_, .int .i64 t.s, .int .i64 t.m, .int .i64 t.o, .int .i64 t.h, .slice t.a t.n t.c] 42))
      have hBw : w.heap.size ≤ B := by have := HBr.out.size; omega
      have HBE := Lib.hid hB
      clear hB SR HS
      go_wp2
      clear s0 s1 s2 s3 s4 s5
      rw [HBE.out]
      generalize wr.alloc (.cells #[.int .i64 t.at_, .int .i64 t.s, .int .i64 t.m, .int .i64 t.o, .int .i64 t.h, .slice t.a t.n t.c] 42) = W1 at *
      go_loopw [16] (fun p wq => ∃ k : Nat, k ≤ t.n ∧ p = .int .i64 (k : Int) ∧ Hid (Below w.heap.size w wq) ∧ Hid (Blk wq B [.int .i64 t.at_, .int .i64 t.s, .int .i64 t.m, .int .i64 t.o, .int .i64 t.h, .slice t.a t.n t.c]) ∧ Hid (Src wq t.a t.n t.f) ∧ Hid (∀ k' : Nat, k' < k → t.m / P2 k' % 2 = 1 → MayG N T t.o (t.f k'))) (fun p _ => t.n - (intOf p).toNat)
      case atStart => exact ⟨0, Nat.zero_le _, rfl, HB0, HX0, SR0, Lib.hid (fun k hk => by omega)⟩
      clear HB0 HX0 SR0 HBr
      case round =>
        obtain ⟨k, hk, rfl, HBq, X, SQ, HPK⟩ := hrel
        by_cases hks : k < t.n
        · have hks' : (k : Int) < (t.n : Int) := by omega
          have hk0 : (0 : Int) ≤ (k : Int) := by omega
          obtain ⟨hwk1, hwk2⟩ := HWD.out k hks
          have Xd := Lib.hid X.out.drew; have Gd := Lib.hid ((G.out.below HBq.out).drew); have HBd := Lib.hid HBq.out.drew
          obtain ⟨tb, tf, hta, ltb, cfk⟩ : ∃ tb tf, t.a = some ⟨tb, tf, none⟩ ∧ tb < wr.heap.size ∧ wr.cell? ⟨tb, tf + k, none⟩ = some (.int .i64 (t.f k)) := by
            rcases SQ.out with h0 | ⟨tb, tf, h1, h2, h3⟩
            · omega
            · exact ⟨tb, tf, h1, h2, h3 k hks⟩
          have HTA := Lib.hid hta
          have hkI : (0 : Int) ≤ (k : Int) ∧ (k : Int) ≤ t.s - 1 := by have := HST.out; omega
          by_cases hd : t.m / P2 k % 2 = 1
          · have HIP : Hid (IsIP t.s t.m t.o t.h (k : Int) true) := Lib.hid (.inl ⟨⟨HOK.out, hkI⟩, by rw [hd]; rfl⟩)
            have HD := Lib.hid hd
            clear hd hkI
            by_cases hmay : MayG N T t.o (t.f k)
            · have HMY := Lib.hid hmay
              clear hmay
              rw [hta] at X SQ Xd ⊢
              go_wp2_with fail
              go_region_held3 (fun w' => w'.cell? ⟨B, 1, none⟩ = some (.int .i64 t.s) ∧ w'.cell? ⟨B, 2, none⟩ = some (.int .i64 t.m) ∧ w'.cell? ⟨B, 3, none⟩ = some (.int .i64 t.o) ∧ w'.cell? ⟨B, 4, none⟩ = some (.int .i64 t.h))
                (first | (with_reducible exact mid4 X.out) | (with_reducible exact mid4 Xd.out) | (with_reducible exact mid4 X2.out) | (with_reducible exact mid4 X3.out))
                (first | (go_at_call 79; (refine (fieldOf_any t.s t.m t.o t.h (k : Int) (t.f k) true _ HIP.out).mono ?_; rintro e w2 ⟨rfl, hb⟩; have HB2 := Lib.hid (HBd.out.trans (hb.mono HBd.out.size)); have X2 := Lib.hid (Xd.out.below hb); have C2 := Lib.hid ((Below.refl wr.heap.size wr).drew.trans hb); have G2 := Lib.hid (Gd.out.below hb); clear hb)) | (go_at_call 80; refine (may_ptr (some ⟨b, q, none⟩) N kk T t.o (t.f k) true _ G2.out hN HM.out hwk1 hwk2 ⟨fun _ => HMY.out, fun _ => rfl⟩).mono ?_; rintro e w3 ⟨rfl, hb⟩; have HB3 := Lib.hid (HB2.out.trans (hb.mono HB2.out.size)); have X3 := Lib.hid (X2.out.below hb); have SQ3 := Lib.hid (SQ.out.below (C2.out.trans (hb.mono C2.out.size))); clear hb))
              go_wp2
              go_roundw
              case rel => exact ⟨k + 1, by omega, by go_num, HB3, X3, SQ3, Lib.hid (fun k' hk' hb' => by rcases Nat.lt_succ_iff_lt_or_eq.mp hk' with h' | h'; exact HPK.out k' h' hb'; subst h'; exact HMY.out)⟩
              case measure => simp [intOf]; omega
            · have HMAY : Hid (false = true ↔ MayG N T t.o (t.f k)) := Lib.hid ⟨fun h => (by cases h), fun h => absurd h hmay⟩
              have hrt := hbad.out k hks HD.out hmay
              subst hrt
              clear hmay
              rw [hta] at X SQ Xd ⊢
              go_wp2_with fail
              go_region_held3 (fun w' => w'.cell? ⟨B, 1, none⟩ = some (.int .i64 t.s) ∧ w'.cell? ⟨B, 2, none⟩ = some (.int .i64 t.m) ∧ w'.cell? ⟨B, 3, none⟩ = some (.int .i64 t.o) ∧ w'.cell? ⟨B, 4, none⟩ = some (.int .i64 t.h))
                (first | (with_reducible exact mid4 X.out) | (with_reducible exact mid4 Xd.out) | (with_reducible exact mid4 X2.out) | (with_reducible exact mid4 X3.out))
                (first | (go_at_call 79; (refine (fieldOf_any t.s t.m t.o t.h (k : Int) (t.f k) true _ HIP.out).mono ?_; rintro e w2 ⟨rfl, hb⟩; have HB2 := Lib.hid (HBd.out.trans (hb.mono HBd.out.size)); have X2 := Lib.hid (Xd.out.below hb); have C2 := Lib.hid ((Below.refl wr.heap.size wr).drew.trans hb); have G2 := Lib.hid (Gd.out.below hb); clear hb)) | (go_at_call 80; refine (may_ptr (some ⟨b, q, none⟩) N kk T t.o (t.f k) false _ G2.out hN HM.out hwk1 hwk2 HMAY.out).mono ?_; rintro e w3 ⟨rfl, hb⟩; have HB3 := Lib.hid (HB2.out.trans (hb.mono HB2.out.size)); have X3 := Lib.hid (X2.out.below hb); have SQ3 := Lib.hid (SQ.out.below (C2.out.trans (hb.mono C2.out.size))); clear hb))
              go_wp2
              go_ret
              exact ⟨rfl, HB3.out⟩
          · have HIP : Hid (IsIP t.s t.m t.o t.h (k : Int) false) := Lib.hid (.inl ⟨⟨HOK.out, hkI⟩, by symm; simpa using hd⟩)
            have HD := Lib.hid hd
            clear hd hkI
            rw [hta] at X SQ Xd ⊢
            go_wp2_with fail
            go_region_held3 (fun w' => w'.cell? ⟨B, 1, none⟩ = some (.int .i64 t.s) ∧ w'.cell? ⟨B, 2, none⟩ = some (.int .i64 t.m) ∧ w'.cell? ⟨B, 3, none⟩ = some (.int .i64 t.o) ∧ w'.cell? ⟨B, 4, none⟩ = some (.int .i64 t.h))
              (first | (with_reducible exact mid4 X.out) | (with_reducible exact mid4 Xd.out) | (with_reducible exact mid4 X2.out) | (with_reducible exact mid4 X3.out))
              (first | (go_at_call 79; (refine (fieldOf_any t.s t.m t.o t.h (k : Int) (t.f k) false _ HIP.out).mono ?_; rintro e w2 ⟨rfl, hb⟩; have HB2 := Lib.hid (HBd.out.trans (hb.mono HBd.out.size)); have X2 := Lib.hid (Xd.out.below hb); have C2 := Lib.hid ((Below.refl wr.heap.size wr).drew.trans hb); have G2 := Lib.hid (Gd.out.below hb); clear hb)) | (go_at_call 80; refine (may_plain _ t.o (t.f k) _).mono ?_; rintro e w3 ⟨rfl, hb⟩; have HB3 := Lib.hid (HB2.out.trans (hb.mono HB2.out.size)); have X3 := Lib.hid (X2.out.below hb); have SQ3 := Lib.hid (SQ.out.below (C2.out.trans (hb.mono C2.out.size))); clear hb))
            go_wp2
            go_roundw
            case rel => exact ⟨k + 1, by omega, by go_num, HB3, X3, SQ3, Lib.hid (fun k' hk' hb' => by rcases Nat.lt_succ_iff_lt_or_eq.mp hk' with h' | h'; exact HPK.out k' h' hb'; subst h'; exact absurd hb' HD.out)⟩
            case measure => simp [intOf]; omega
        · have hks' : ¬ (k : Int) < (t.n : Int) := by omega
          have hpi' := Lib.hid (hpi.out True (fun k' h1 h2 => HPK.out k' (by omega) h2))
          go_wp2
          go_roundw
          case rel => exact ⟨i + 1, by omega, by go_num, HBq, hpi'⟩
          case measure => simp [intOf]; omega
    · have hlt' : ¬ (i : Int) < (N : Int) := by omega
      have hrf : r = false := by
        cases r with
        | false => rfl
        | true => exact absurd (fun j hj => HPT.out j (by omega)) (HR.out.1 rfl)
      subst hrf
      go_wp2
      go_ret
      exact ⟨rfl, HBr.out⟩
end Go.Proofs.Ytlelgfkebcnepaa

namespace Go.Proofs.Ytlelgfkebcnepaa
open Go.RowKit
set_option linter.unusedVariables false

set_option maxRecDepth 100000 in
set_option maxHeartbeats 1600000 in
theorem strayw_any (h ac bu : Int) (a : Option Addr) (n c : Nat) (f : Nat → Int) (r : Bool) (w : World) (hs : Src w a n f) (hk : IsFault h n f ac bu 0) (hr : r = true ↔ ¬ Rest f n (baseI ac h).toNat bu.toNat) :
    Calls Try.prog 112 #[.agg #[.int .i64 h, .slice a n c, .int .i64 ac, .int .i64 bu]] w (RetBool w r) := by
  obtain ⟨⟨⟨g1, g2⟩, ⟨g3, g4⟩, g5, g6⟩, gn, gw⟩ := isFault_ok hk
  have hb0 : 0 ≤ baseI ac h ∧ baseI ac h ≤ h := by rcases (by omega : ac = 0 ∨ ac = 1) with rfl | rfl <;> simp [baseI] <;> omega
  obtain ⟨P, hP⟩ : ∃ P : Nat, baseI ac h = (P : Int) := ⟨(baseI ac h).toNat, by omega⟩
  obtain ⟨U, rfl⟩ : ∃ U : Nat, bu = (U : Int) := ⟨bu.toNat, by omega⟩
  rw [hP, Int.toNat_natCast, Int.toNat_natCast] at hr
  have hP2 : (P : Int) + (U : Int) ≤ 400 := by omega
  have hP3 : (P : Int) ≤ 200 := by omega
  have hU3 : (U : Int) ≤ 200 := by omega
  have hn4 : (n : Int) ≤ 400 := by omega
  have HS := Lib.hid hs; have HR := Lib.hid hr; have HP := Lib.hid hP
  clear hs hk hr hP gw g5 hb0
  go_enter Try.func112, Try.ntmps112
  go_wp2_with fail
  refine (baseOf_any h ac (U : Int) a n c _ g1 g2 g3 g4).mono ?_
  rintro e w1 ⟨rfl, hb⟩
  rw [HP.out]
  have HB1 := Lib.hid (thru1 (Below.refl _ _) hb)
  have A_1 := Lib.hid ((Blk.new_at (w := w) (cs := #[.int .i64 h, .slice a n c, .int .i64 ac, .int .i64 (U : Int)]) (t := 26) (w.heap.size) rfl).below hb)
  have S_1 := Lib.hid ((HS.out.alloc _).below hb)
  clear hb g1 g2 g3 g4 g6 gn
  have lA := A_1.out.1; have cA0 := A_1.out.at 0 rfl; have fA0 := A_1.out.free 0 rfl; have cA1 := A_1.out.at 1 rfl; have fA1 := A_1.out.free 1 rfl; have cA2 := A_1.out.at 2 rfl; have fA2 := A_1.out.free 2 rfl; have cA3 := A_1.out.at 3 rfl; have fA3 := A_1.out.free 3 rfl
  go_wp2
  clear lA cA0 fA0 cA1 fA1 cA2 fA2 cA3 fA3
  go_loopw [13] (fun p wr => ∃ j : Nat, j ≤ n ∧ p = .int .i64 (j : Int) ∧ Hid (Below w1.heap.size w1 wr) ∧ Hid (∀ k, k < j → ¬ (P ≤ k ∧ k < P + U) → f k = 0)) (fun p _ => n - (intOf p).toNat)
  case atStart => exact ⟨0, Nat.zero_le _, rfl, Below.refl _ _, Lib.hid (fun k hk => by omega)⟩
  case round =>
    obtain ⟨j, hj, rfl, HBq, HRS⟩ := hrel
    have HBr := Lib.hid (HB1.out.trans (HBq.out.mono HB1.out.size))
    by_cases hlt : j < n
    · have hlt' : (j : Int) < (n : Int) := by omega
      have hj0 : (0 : Int) ≤ (j : Int) := by omega
      have A_q := Lib.hid (A_1.out.below HBq.out)
      have cA3 := A_q.out.at 3 rfl
      have SQ := Lib.hid (S_1.out.below HBq.out)
      obtain ⟨tb, tf, rfl, ltb, cfk⟩ : ∃ tb tf, a = some ⟨tb, tf, none⟩ ∧ tb < wr.heap.size ∧ wr.cell? ⟨tb, tf + j, none⟩ = some (.int .i64 (f j)) := by
        rcases SQ.out with h0 | ⟨tb, tf, h1, h2, h3⟩
        · omega
        · exact ⟨tb, tf, h1, h2, h3 j hlt⟩
      have hPn : (0 : Int) ≤ (P : Int) := by omega
      have hUn : (0 : Int) ≤ (U : Int) := by omega
      by_cases h1 : (P : Int) ≤ (j : Int)
      · by_cases h2 : (j : Int) < (P : Int) + (U : Int)
        · have HIN := Lib.hid (show P ≤ j ∧ j < P + U by omega)
          go_wp2
          go_roundw
          case rel => exact ⟨j + 1, by omega, by go_num, HBq, Lib.hid (fun k hk hb => by rcases Nat.lt_succ_iff_lt_or_eq.mp hk with h' | h'; exact HRS.out k h' hb; subst h'; exact absurd HIN.out hb)⟩
          case measure => simp [intOf]; omega
        · have hni : ¬ (P ≤ j ∧ j < P + U) := by omega
          by_cases hz : f j = 0
          · have HZ := Lib.hid hz
            go_wp2
            go_roundw
            case rel => exact ⟨j + 1, by omega, by go_num, HBq, Lib.hid (fun k hk hb => by rcases Nat.lt_succ_iff_lt_or_eq.mp hk with h' | h'; exact HRS.out k h' hb; subst h'; exact HZ.out)⟩
            case measure => simp [intOf]; omega
          · have hrt : r = true := HR.out.2 (fun hp => hz (hp j hlt hni))
            subst hrt
            go_wp2
            go_ret
            exact ⟨rfl, HBr.out⟩
      · have hni : ¬ (P ≤ j ∧ j < P + U) := by omega
        by_cases hz : f j = 0
        · have HZ := Lib.hid hz
          go_wp2
          go_roundw
          case rel => exact ⟨j + 1, by omega, by go_num, HBq, Lib.hid (fun k hk hb => by rcases Nat.lt_succ_iff_lt_or_eq.mp hk with h' | h'; exact HRS.out k h' hb; subst h'; exact HZ.out)⟩
          case measure => simp [intOf]; omega
        · have hrt : r = true := HR.out.2 (fun hp => hz (hp j hlt hni))
          subst hrt
          go_wp2
          go_ret
          exact ⟨rfl, HBr.out⟩
    · have hlt' : ¬ (j : Int) < (n : Int) := by omega
      have hrf : r = false := by
        cases r with
        | false => rfl
        | true => exact absurd (fun k hk hb => HRS.out k (by omega) hb) (HR.out.1 rfl)
      subst hrf
      go_wp2
      go_ret
      exact ⟨rfl, HBr.out⟩
end Go.Proofs.Ytlelgfkebcnepaa

namespace Go.Proofs.Ytlelgfkebcnepaa
open Go.RowKit Go.Shelf
set_option linter.unusedVariables false
attribute [local go_sem] Oper.semAt_some

theorem walk_any (h ac bu : Int) (a : Option Addr) (n c : Nat) (w : World) : Calls Try.prog 60 #[.agg #[.int .i64 h, .slice a n c, .int .i64 ac, .int .i64 bu]] w (fun e w' => e = .returned (.func (.func 109) #[] #[.pointer (some ⟨w.heap.size, 0, none⟩)]) ∧ w' = w.alloc (.cells #[.int .i64 h, .slice a n c, .int .i64 ac, .int .i64 bu] 26)) := by
  go_enter Try.func60, Try.ntmps60
  go_wp2
  go_ret
  exact ⟨rfl, rfl⟩

theorem first_at (b off n c A e : Nat) (f : Nat → Int) (w : World) (hs : Src w (some ⟨b, off, none⟩) n f) (hA : A < e) (he : e ≤ n) (hn : n ≤ 1048576) (hnc : n ≤ c) (hcm : c ≤ maxLen) :
    Calls Try.prog 110 #[.slice (some ⟨b, off + A, none⟩) (e - A) (c - A)] w (fun en w' => Below w.heap.size w w' ∧ ((Good f e A ∧ ∃ ta tc, en = .returned (.agg #[.int .i64 0, .int .i64 0, .int .i64 (f A / 2 % 16), .int .i64 (f A / 32 % 4096), .int .i64 (f A / 131072), .int .i64 (f (A + 1)), .slice ta (szOf f A) tc]) ∧ Own w' w.heap.size ta (szOf f A) (fun k => f (A + 2 + k))) ∨ (¬ Good f e A ∧ en = .returned (.agg #[.int .i64 1, .int .i64 0, .int .i64 0, .int .i64 0, .int .i64 0, .int .i64 0, .slice none 0 0])))) := by
  have hs' : Src w (some ⟨b, off + A, none⟩) (e - A) (fun k => f (A + k)) := hs.elim (fun h => .inl (by omega)) (fun ⟨b', o', h1, h3, h4⟩ => .inr ⟨b', o' + A, by cases h1; rfl, h3, fun i hi => by rw [show o' + A + i = o' + (A + i) by omega]; exact h4 (A + i) (by omega)⟩)
  have hgood : Good (fun k => f (A + k)) (e - A) 0 ↔ Good f e A := by
    constructor
    · rintro ⟨h1, h2, h3⟩; exact ⟨by omega, h2, by have h3' : 0 + 2 + szOf f A ≤ e - A := h3; omega⟩
    · rintro ⟨h1, h2, h3⟩; exact ⟨by omega, h2, by show 0 + 2 + szOf f A ≤ e - A; omega⟩
  refine (implFirst_any b (off + A) (e - A) (c - A) (fun k => f (A + k)) w hs' (by omega) (by omega) (by omega)).mono ?_
  rintro en w' ⟨hb, hc⟩
  refine ⟨hb, ?_⟩
  rcases hc with ⟨h1, ta, tc, h2, h3⟩ | ⟨h1, h2⟩
  · exact .inl ⟨hgood.1 h1, ta, tc, h2, h3.congr fun i _ => by show f (A + (2 + i)) = f (A + 2 + i); rw [Nat.add_assoc]⟩
  · exact .inr ⟨fun h => h1 (hgood.2 h), h2⟩

/-- What has come, and what is told of it. -/
def Match (f : Nat → Int) (M : List GM) (L : List Ob) : Prop := M.length = L.length ∧ ∀ (i : Nat) (t : GM) (y : Ob), M[i]? = some t → L[i]? = some y → GSame t (obG f y)

theorem match_snoc {f : Nat → Int} {M : List GM} {L : List Ob} {t : GM} {y : Ob} (h : Match f M L) (ht : GSame t (obG f y)) : Match f (M ++ [t]) (L ++ [y]) := by
  refine ⟨by simp [h.1], fun i u v hu hv => ?_⟩
  rcases Nat.lt_or_ge i M.length with hi | hi
  · rw [List.getElem?_append_left hi] at hu
    rw [List.getElem?_append_left (by rw [← h.1]; exact hi)] at hv
    exact h.2 i u v hu hv
  · rw [List.getElem?_append_right hi] at hu
    rw [List.getElem?_append_right (by rw [← h.1]; exact hi), ← h.1] at hv
    rcases Nat.eq_zero_or_pos (i - M.length) with h0 | h0
    · rw [h0] at hu hv
      simp only [List.getElem?_cons_zero, Option.some.injEq] at hu hv
      subst hu; subst hv; exact ht
    · rw [List.getElem?_eq_none (by simp; omega)] at hu
      cases hu

/-- What a round keeps. -/
def Kept (n0 A1 : Nat) (W0 W1 W' : World) : Prop := Below n0 W1 W' ∧ W'.heap[A1]? = W1.heap[A1]? ∧ ∀ b, W0.heap.size ≤ b → b < W1.heap.size → W'.heap[b]? = W1.heap[b]?

theorem blk_block {w w' : World} {b : Nat} {cs : List Value} (h : Blk w b cs) (e : w'.heap[b]? = w.heap[b]?) : Blk w' b cs := by
  refine ⟨?_, fun i u hu => ?_⟩
  · have h1 : w.heap[b]? = some (w.heap[b]'h.1) := Array.getElem?_eq_getElem h.1
    rw [h1] at e
    exact (Array.getElem?_eq_some_iff.1 e).1
  · obtain ⟨h1, h2⟩ := h.2 i u hu
    exact ⟨(World.cell?_of_block (w := w) (a := ⟨b, i, none⟩) e).trans h1, (World.frozen?_of_block (w := w) (a := ⟨b, i, none⟩) e).trans h2⟩

set_option maxRecDepth 100000 in
set_option maxHeartbeats 1600000 in
theorem iter_in (m l A1 : Nat) (h ac : Int) (ab ao n c P U : Nat) (f : Nat → Int) (w W : World) (J : List GM → World → Prop) (Jx : World → Prop)
    (hJ : ∀ pre V V', J pre V → Below V.heap.size V V' → J pre V')
    (hgo : ∀ pre (t : GM) V0 V1, J pre V0 → pre.length < 400 → Below V0.heap.size V0 V1 → Own V1 V0.heap.size t.a t.n t.f → YieldAt Fence.wide (m - 1) Try.prog l #[.agg #[.int .i64 0, .int .i64 t.at_, .int .i64 t.s, .int .i64 t.m, .int .i64 t.o, .int .i64 t.h, .slice t.a t.n t.c]] V1 fun e V' => e = .returned (.bool true) ∧ J (pre ++ [t]) V' ∧ Kept w.heap.size A1 V0 V1 V')
    (hno : ∀ pre V0 V1, J pre V0 → Below V0.heap.size V0 V1 → YieldAt Fence.wide (m - 1) Try.prog l #[.agg #[.int .i64 1, .int .i64 0, .int .i64 0, .int .i64 0, .int .i64 0, .int .i64 0, .slice none 0 0]] V1 fun e V' => e = .returned (.bool false) ∧ Jx V')
    (hs : Src w (some ⟨ab, ao, none⟩) n f) (hW : Below w.heap.size w W) (hA : Blk W A1 [.int .i64 h, .slice (some ⟨ab, ao, none⟩) n c, .int .i64 ac, .int .i64 (U : Int)])
    (h1 : 8 ≤ h) (h2 : h ≤ 200) (h3 : 0 ≤ ac) (h4 : ac ≤ 1) (hP : baseI ac h = (P : Int)) (hn : (n : Int) = 2 * h) (hPU : P + U ≤ n) (hnc : n ≤ c) (hcm : c ≤ maxLen) (h0 : J [] W) :
    CallsIn Fence.wide m Try.prog 109 #[.func (.yield l) #[] #[], .pointer (some ⟨A1, 0, none⟩)] W fun e V' => (∃ v, e = .returned v) ∧
      ((∃ L xs, parse f (P + U) P = some L ∧ Match f xs L ∧ J xs V') ∨ (parse f (P + U) P = none ∧ Jx V')) := by
  have HS := Lib.hid hs; have HW := Lib.hid hW; have HA := Lib.hid hA; have HJ := Lib.hid hJ; have HGO := Lib.hid hgo; have HNO := Lib.hid hno; have H0 := Lib.hid h0; have HP := Lib.hid hP; have HCM := Lib.hid hcm
  obtain ⟨E, hE⟩ : ∃ E : Nat, P + U = E := ⟨_, rfl⟩
  rw [hE] at hPU ⊢
  have HE := Lib.hid hE
  have HEI : Hid ((P : Int) + (U : Int) = (E : Int)) := Lib.hid (by omega)
  have hPE : P ≤ E := by omega
  have hn4 : n ≤ 400 := by omega
  have hUb : (U : Int) ≤ 400 := by omega
  have hPb : (P : Int) ≤ 400 := by omega
  clear hs hW hA hJ hgo hno h0 hP hE hcm hn
  have cA := HA.out
  have lA := HA.out.1; have cA0 := HA.out.at 0 rfl; have fA0 := HA.out.free 0 rfl; have cA1 := HA.out.at 1 rfl; have fA1 := HA.out.free 1 rfl; have cA2 := HA.out.at 2 rfl; have fA2 := HA.out.free 2 rfl; have cA3 := HA.out.at 3 rfl; have fA3 := HA.out.free 3 rfl
  clear cA
  refine callsIn_of_wp Try.func109 rfl trivial ?_ rfl
  simp only [Try.ntmps109, List.size_toArray, List.length_cons, List.length_nil, Nat.reduceAdd, Nat.reduceSub, Array.replicate_succ, Array.replicate_zero, List.push_toArray, List.append_toArray, List.nil_append, List.cons_append]
  gi_wp2_with fail
  refine ⟨trivial, fun hx => (by simp [Fence.wide] at hx), (callsIn_wide.2 (baseOf_any h ac (U : Int) (some ⟨ab, ao, none⟩) n c _ h1 h2 h3 h4)).mono ?_⟩
  rintro e w1 ⟨rfl, hb⟩
  rw [HP.out]
  have HA1 := Lib.hid (HA.out.below hb); have HW1 := Lib.hid (HW.out.trans (hb.mono HW.out.size)); have H1 := Lib.hid (HJ.out _ _ _ H0.out hb)
  clear hb h1 h2 h3 h4 HA HW H0
  clear lA cA0 fA0 cA1 fA1 cA2 fA2 cA3 fA3
  have lA := HA1.out.1; have cA0 := HA1.out.at 0 rfl; have fA0 := HA1.out.free 0 rfl; have cA1 := HA1.out.at 1 rfl; have fA1 := HA1.out.free 1 rfl; have cA2 := HA1.out.at 2 rfl; have fA2 := HA1.out.free 2 rfl; have cA3 := HA1.out.at 3 rfl; have fA3 := HA1.out.free 3 rfl
  gi_wp2
  clear lA cA0 fA0 cA1 fA1 cA2 fA2 cA3 fA3
  rw [HEI.out]
  gi_loopw [3] (fun p wr => ∃ (pre : List GM) (L : List Ob) (A : Nat), p = .int .i64 (A : Int) ∧ P ≤ A ∧ A ≤ E ∧ 2 * pre.length ≤ A ∧ Hid (parse f E P = (parse f E A).map (L ++ ·)) ∧ Hid (Match f pre L) ∧ Hid (J pre wr) ∧ Hid (Blk wr A1 [.int .i64 h, .slice (some ⟨ab, ao, none⟩) n c, .int .i64 ac, .int .i64 (U : Int)]) ∧ Hid (Below w.heap.size w wr)) (fun p _ => E - (intOf p).toNat)
  case atStart => exact ⟨[], [], P, rfl, Nat.le_refl _, hPE, Nat.zero_le _, Lib.hid (by cases parse f E P <;> rfl), Lib.hid ⟨rfl, fun i t y ht => by cases ht⟩, H1, HA1, HW1⟩
  clear H1 HA1 HW1
  case round =>
    obtain ⟨pre, L, A, rfl, hPA, hAE, hlen, HPR, HMT, HJr, HAr, HWr⟩ := hrel
    have hA0 : (0 : Int) ≤ (A : Int) := by omega
    by_cases hlt : A < E
    · have hlt' : (A : Int) < (E : Int) := by omega
      have hle' : (A : Int) ≤ (E : Int) := by omega
      have hEc : (E : Int) ≤ (c : Int) := by omega
      have hcA : ¬ c = A := by omega
      have lA := HAr.out.1; have cA0 := HAr.out.at 0 rfl; have fA0 := HAr.out.free 0 rfl; have cA1 := HAr.out.at 1 rfl; have fA1 := HAr.out.free 1 rfl; have cA2 := HAr.out.at 2 rfl; have fA2 := HAr.out.free 2 rfl; have cA3 := HAr.out.at 3 rfl; have fA3 := HAr.out.free 3 rfl
      gi_wp2_with fail
      clear lA cA0 fA0 cA1 fA1 cA2 fA2 cA3 fA3
      refine ⟨trivial, fun hx => (by simp [Fence.wide] at hx), (callsIn_wide.2 (first_at ab ao n c A E f _ (HS.out.below HWr.out) hlt hPU (by omega) hnc HCM.out)).mono ?_⟩
      rintro en w2 ⟨hb, hc⟩
      have HBW := Lib.hid hb
      have HA2 := Lib.hid (HAr.out.below hb)
      have zr := hb.size
      clear hb hlt' hle' hEc hcA
      rcases hc with ⟨hgd, ta, tc, rfl, ho⟩ | ⟨hbd, rfl⟩
      · have HGD := Lib.hid hgd
        have HO := Lib.hid ho
        have hsz := good_size hgd
        have hsE : A + 2 + szOf f A ≤ E := hgd.2.2
        clear hgd ho
        have X0 := Lib.hid (Blk.new_at (w := w2) (cs := #[.int .i64 0, .int .i64 0, .int .i64 (f A / 2 % 16), .int .i64 (f A / 32 % 4096), .int .i64 (f A / 131072), .int .i64 (f (A + 1)), .slice ta (szOf f A) tc]) (t := 44) w2.heap.size rfl)
        have X1 : Hid (Blk (w2.alloc (.cells #[.int .i64 0, .int .i64 (A : Int), .int .i64 (f A / 2 % 16), .int .i64 (f A / 32 % 4096), .int .i64 (f A / 131072), .int .i64 (f (A + 1)), .slice ta (szOf f A) tc] 44)) w2.heap.size [.int .i64 0, .int .i64 (A : Int), .int .i64 (f A / 2 % 16), .int .i64 (f A / 32 % 4096), .int .i64 (f A / 131072), .int .i64 (f (A + 1)), .slice ta (szOf f A) tc]) := Lib.hid (Blk.new_at (w := w2) (cs := #[.int .i64 0, .int .i64 (A : Int), .int .i64 (f A / 2 % 16), .int .i64 (f A / 32 % 4096), .int .i64 (f A / 131072), .int .i64 (f (A + 1)), .slice ta (szOf f A) tc]) (t := 44) w2.heap.size rfl)
        have hz1 : (w2.alloc (.cells #[.int .i64 0, .int .i64 (A : Int), .int .i64 (f A / 2 % 16), .int .i64 (f A / 32 % 4096), .int .i64 (f A / 131072), .int .i64 (f (A + 1)), .slice ta (szOf f A) tc] 44)).heap.size = w2.heap.size + 1 := by simp
        have HZ1 := Lib.hid hz1
        clear hz1
        have HB2 : Hid (Below w2.heap.size w2 (w2.alloc (.cells #[.int .i64 0, .int .i64 (A : Int), .int .i64 (f A / 2 % 16), .int .i64 (f A / 32 % 4096), .int .i64 (f A / 131072), .int .i64 (f (A + 1)), .slice ta (szOf f A) tc] 44))) := Lib.hid ((Below.refl _ w2).alloc (Nat.le_refl _) _)
        have HA3 := Lib.hid (HA2.out.below HB2.out)
        have HBr : Hid (Below wr.heap.size wr (w2.alloc (.cells #[.int .i64 0, .int .i64 (A : Int), .int .i64 (f A / 2 % 16), .int .i64 (f A / 32 % 4096), .int .i64 (f A / 131072), .int .i64 (f (A + 1)), .slice ta (szOf f A) tc] 44))) := Lib.hid (HBW.out.trans (HB2.out.mono zr))
        obtain ⟨fn, tmps, assign, body, hy, hR⟩ := HGO.out pre ⟨(A : Int), f A / 2 % 16, f A / 32 % 4096, f A / 131072, f (A + 1), ta, szOf f A, tc, fun k => f (A + 2 + k)⟩ wr _ HJr.out (by omega) HBr.out (HO.out.below HB2.out)
        dsimp only at hy
        have lX := X0.out.1; have cX0 := X0.out.at 0 rfl; have fX0 := X0.out.free 0 rfl; have cX1 := X0.out.at 1 rfl; have fX1 := X0.out.free 1 rfl; have cX2 := X0.out.at 2 rfl; have fX2 := X0.out.free 2 rfl; have cX3 := X0.out.at 3 rfl; have fX3 := X0.out.free 3 rfl; have cX4 := X0.out.at 4 rfl; have fX4 := X0.out.free 4 rfl; have cX5 := X0.out.at 5 rfl; have fX5 := X0.out.free 5 rfl; have cX6 := X0.out.at 6 rfl; have fX6 := X0.out.free 6 rfl
        have lY := X1.out.1; have cY0 := X1.out.at 0 rfl; have fY0 := X1.out.free 0 rfl; have cY1 := X1.out.at 1 rfl; have fY1 := X1.out.free 1 rfl; have cY2 := X1.out.at 2 rfl; have fY2 := X1.out.free 2 rfl; have cY3 := X1.out.at 3 rfl; have fY3 := X1.out.free 3 rfl; have cY4 := X1.out.at 4 rfl; have fY4 := X1.out.free 4 rfl; have cY5 := X1.out.at 5 rfl; have fY5 := X1.out.free 5 rfl; have cY6 := X1.out.at 6 rfl; have fY6 := X1.out.free 6 rfl
        gi_wp2
        clear lX cX0 fX0 cX1 fX1 cX2 fX2 cX3 fX3 cX4 fX4 cX5 fX5 cX6 fX6
        clear lY cY0 fY0 cY1 fY1 cY2 fY2 cY3 fY3 cY4 fY4 cY5 fY5 cY6 fY6
        refine ⟨fun hx => (by simp [Fence.wide] at hx), hR.mono ?_⟩
        rintro e W3 ⟨rfl, hJ3, hk3⟩
        have X3 := Lib.hid (blk_block X1.out (hk3.2.2 w2.heap.size zr (by rw [HZ1.out]; omega)))
        have A3 := Lib.hid (blk_block HA3.out hk3.2.1)
        have W3B := Lib.hid (((HWr.out.trans (HBr.out.mono HWr.out.size))).trans hk3.1)
        have J3 := Lib.hid hJ3
        clear hy hR hJ3 hk3
        have lX := X3.out.1; have cX2 := X3.out.at 2 rfl
        have HPS := Lib.hid (parse_step HPR.out hlt HGD.out)
        have HM3 : Hid (Match f (pre ++ [⟨(A : Int), f A / 2 % 16, f A / 32 % 4096, f A / 131072, f (A + 1), ta, szOf f A, tc, fun k => f (A + 2 + k)⟩]) (L ++ [objAt f A])) := Lib.hid (match_snoc HMT.out ⟨rfl, rfl, rfl, rfl, rfl, rfl, fun _ _ => rfl⟩)
        obtain ⟨sz0, sz1, sz2⟩ := hsz
        have HSZ := Lib.hid sz2
        have hAb : (A : Int) ≤ 400 := by omega
        gi_wp2
        go_roundw
        case rel => exact ⟨_, _, A + 2 + szOf f A, by have := HSZ.out; go_num, by omega, hsE, by simp; omega, HPS, HM3, J3, A3, W3B⟩
        case measure => have := HSZ.out; simp [intOf]; omega
      · have HBD := Lib.hid hbd
        clear hbd
        have X0 := Lib.hid (Blk.new_at (w := w2) (cs := #[.int .i64 1, .int .i64 0, .int .i64 0, .int .i64 0, .int .i64 0, .int .i64 0, .slice none 0 0]) (t := 44) w2.heap.size rfl)
        have HBr : Hid (Below wr.heap.size wr (w2.alloc (.cells #[.int .i64 1, .int .i64 0, .int .i64 0, .int .i64 0, .int .i64 0, .int .i64 0, .slice none 0 0] 44))) := Lib.hid (HBW.out.alloc zr _)
        obtain ⟨fn, tmps, assign, body, hy, hR⟩ := HNO.out pre wr _ HJr.out HBr.out
        have lX := X0.out.1; have cX0 := X0.out.at 0 rfl; have fX0 := X0.out.free 0 rfl; have cX1 := X0.out.at 1 rfl; have fX1 := X0.out.free 1 rfl; have cX2 := X0.out.at 2 rfl; have fX2 := X0.out.free 2 rfl; have cX3 := X0.out.at 3 rfl; have fX3 := X0.out.free 3 rfl; have cX4 := X0.out.at 4 rfl; have fX4 := X0.out.free 4 rfl; have cX5 := X0.out.at 5 rfl; have fX5 := X0.out.free 5 rfl; have cX6 := X0.out.at 6 rfl; have fX6 := X0.out.free 6 rfl
        gi_wp2
        clear lX cX0 fX0 cX1 fX1 cX2 fX2 cX3 fX3 cX4 fX4 cX5 fX5 cX6 fX6
        refine ⟨fun hx => (by simp [Fence.wide] at hx), hR.mono ?_⟩
        rintro e W3 ⟨rfl, hJ3⟩
        have HN : Hid (parse f E P = none) := Lib.hid (by rw [HPR.out, parse_bad hlt HBD.out]; rfl)
        gi_wp2
        refine bodyPost_ret (results_none rfl _ _ _) rfl ?_
        exact ⟨⟨_, rfl⟩, .inr ⟨HN.out, hJ3⟩⟩
    · have hlt' : ¬ (A : Int) < (E : Int) := by omega
      have HN : Hid (parse f E P = some L) := Lib.hid (by rw [HPR.out, parse_stop hlt]; simp)
      gi_wp2
      go_end0
      exact ⟨⟨_, rfl⟩, .inl ⟨L, HN.out, pre, HMT.out, HJr.out⟩⟩
end Go.Proofs.Ytlelgfkebcnepaa

