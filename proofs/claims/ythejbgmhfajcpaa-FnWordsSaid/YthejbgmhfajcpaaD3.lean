/- Draws: l1Bent. -/
import Derived.Test.YthejbgmhfajcpaaD2
import Derived.Deep.Cut
namespace Go.Proofs.Ythejbgmhfajcpaa
open Go.RowKit
set_option linter.unusedVariables false


def RetBent (W : World) (b : Nat) (ca : Option Addr) (k kc t : Nat) (e : Ending) (w' : World) : Prop :=
  ∃ (h ac bu : Int) (n c t' : Nat) (a : Option Addr) (f : Nat → Int), e = .returned (.agg #[.int .i64 h, .slice a n c, .int .i64 ac, .int .i64 bu]) ∧ OwnIn w' W.heap.size w'.heap.size a n f ∧
    Blk w' b [.slice ca k kc, .int .i64 (t' : Int)] ∧ t' ≤ t + 42 ∧ Keeps W w' b (b + 1) ∧ n ≤ 32 ∧ n ≤ c ∧ c ≤ maxLen
theorem of_drew (l : List Int) (b S q : Nat) (ca : Option Addr) (k kc t n : Nat) (B : Nat → Int) (cs : Array Value) (W : World) (hB : Blk W.drew b [.slice ca k kc, .int .i64 (t : Int)]) (hs : SrcB W.drew S ca k B) (hS : S ≤ b) (hk : k ≤ 1048576) (ht : t ≤ 10000)
    (hn : n = l.length) (hl1 : 1 ≤ l.length) (hl2 : l.length ≤ 200) (hcs : cs.toList = l.map (Value.int .i64)) (hq : q = W.heap.size) :
    Calls Try.prog 45 #[.pointer (some ⟨b, 0, none⟩), .slice (some ⟨q, 0, none⟩) n n] (W.alloc (.cells cs 2)).drew (RetOf (W.drew.alloc (.cells cs 2)) b ca k kc t l) :=
  of_any l b S q ca k kc t n B cs W.drew hB hs hS hk ht hn hl1 hl2 hcs hq
theorem OwnIn.tail {w : World} {lo hi b off n : Nat} {f : Nat → Int} (h : OwnIn w lo hi (some ⟨b, off, none⟩) (n + 1) f) : OwnIn w lo hi (some ⟨b, off + 1, none⟩) n (fun i => f (1 + i)) := by
  rcases h with h | ⟨b', off', h1, h2, h3, h4⟩
  · omega
  · simp only [Option.some.injEq, Addr.mk.injEq, and_true] at h1
    obtain ⟨rfl, rfl⟩ := h1
    exact .inr ⟨b, off + 1, rfl, h2, h3, fun i hi => by have := h4 (1 + i) (by omega); rw [Nat.add_assoc]; exact this⟩

set_option maxHeartbeats 6400000 in
theorem bent_any (b S : Nat) (ca : Option Addr) (k kc t : Nat) (B : Nat → Int) (w : World) (hB0 : Blk w b [.slice ca k kc, .int .i64 (t : Int)]) (hs : SrcB w S ca k B) (hS : S ≤ b) (hk0 : k ≤ 1048576) (ht : t ≤ 1000) :
    Calls Try.prog 54 #[.pointer (some ⟨b, 0, none⟩)] w (RetBent w b ca k kc t) := by
  have hbw := hB0.1
  have S_0 := Lib.hid hB0
  have B_0 := Lib.hid hs
  clear hB0 hs
  go_enter Try.func54, Try.ntmps54
  go_wp2_with fail
  refine (draw_any b S ca k kc t B _ (S_0.out.alloc _) (B_0.out.alloc _) hS hk0 ht).mono ?_
  rintro e w1 ⟨m, cu, t', u, f, ac, bu, hm, rfl, ho, hB, htt, hk, hcu, hcm⟩
  have HK_1 : Hid (Keeps w w1 b (b + 1)) := ((Keeps.refl w b (b + 1)).alloc _).trans hk
  have z1 : w.heap.size + 1 ≤ w1.heap.size := by have := hk.size; simp at this; omega
  have S_1 := Lib.hid hB
  have B_1 := Lib.hid ((B_0.out.alloc _).keeps hk hS)
  have R_1 := Lib.hid ((Blk.new_at (w.heap.size) rfl).keeps hk (by omega))
  have RW_1 : Hid (OwnIn w1 (w.heap.size + 1) w1.heap.size u (2 * m) f) := ho.widen (by simp) (Nat.le_refl _)
  obtain ⟨ub, uo, rfl, hub, hubw, _⟩ := ownIn_some RW_1.out (by omega)
  have hub1 := hub.1; have hub2 := hub.2
  have hm1 : m ≤ 16 := by omega
  have hm2 : 8 ≤ m := by omega
  clear ho hB hk S_0 B_0 hub hm
  go_wp2_with fail
  refine (next_is _ b S ca k kc t' 16 B _ rfl (S_1.out.alloc _) (B_1.out.alloc _) hS hk0 (by omega) (by omega) (by omega)).mono ?_
  rintro e w2 ⟨v2, rfl, hv2, hB, hk⟩
  have HK_2 : Hid (Keeps w w2 b (b + 1)) := (HK_1.out.alloc _).trans hk
  have z2 : w1.heap.size + 1 ≤ w2.heap.size := by have := hk.size; simp at this; omega
  have S_2 := Lib.hid (src_cast hB)
  have B_2 := Lib.hid ((B_1.out.alloc _).keeps hk hS)
  have R_2 := Lib.hid ((R_1.out.alloc _).keeps hk (by omega))
  have RW_2 := Lib.hid ((RW_1.out.alloc _).keeps hk (by omega))
  have T_2 := Lib.hid ((Blk.new_at (w1.heap.size) (by simp)).keeps hk (by omega))
  clear hk hB S_1 B_1 R_1 RW_1 HK_1
  rcases (by omega : v2 = 0 ∨ v2 = 1 ∨ v2 = 2 ∨ v2 = 3 ∨ v2 = 4 ∨ 5 ≤ v2) with rfl | rfl | rfl | rfl | rfl | h5
  · have lT := T_2.out.1
    have cT0 := T_2.out.at 0 rfl
    have fT0 := T_2.out.free 0 rfl
    have cT1 := T_2.out.at 1 rfl
    have fT1 := T_2.out.free 1 rfl
    have cT2 := T_2.out.at 2 rfl
    have fT2 := T_2.out.free 2 rfl
    have cT3 := T_2.out.at 3 rfl
    have fT3 := T_2.out.free 3 rfl
    go_wp2_with fail
    refine (of_any [7, 201, 9] b S _ ca k kc (t' + 1) 3 B _ _ S_2.out B_2.out hS hk0 (by omega) rfl (by simp) (by simp) rfl rfl).mono ?_
    rintro e w3 ⟨v3, rfl, _, hB, hk⟩
    have HK_3 : Hid (Keeps w w3 b (b + 1)) := (HK_2.out.alloc _).trans hk
    have z3 : w2.heap.size + 1 ≤ w3.heap.size := by have := hk.size; simp at this; omega
    have S_3 := Lib.hid (src_cast hB)
    have B_3 := Lib.hid ((B_2.out.alloc _).keeps hk hS)
    have R_3 := Lib.hid ((R_2.out.alloc _).keeps hk (by omega))
    have RW_3 := Lib.hid ((RW_2.out.alloc _).keeps hk (by omega))
    have T_3 := Lib.hid ((T_2.out.alloc _).keeps hk (by omega))
    clear hk hB HK_2 S_2 B_2 R_2 RW_2 T_2 lT cT0 fT0 cT1 fT1 cT2 fT2 cT3 fT3
    have lT := T_3.out.1
    have cT0 := T_3.out.at 0 rfl
    have fT0 := T_3.out.free 0 rfl
    have cT1 := T_3.out.at 1 rfl
    have fT1 := T_3.out.free 1 rfl
    have cT2 := T_3.out.at 2 rfl
    have fT2 := T_3.out.free 2 rfl
    have cT3 := T_3.out.at 3 rfl
    have fT3 := T_3.out.free 3 rfl
    go_upto_region 13 with (fail)
    have S_4 : Hid (Blk (w3.setCell ⟨w1.heap.size, 0, none⟩ (.int .i64 v3)) b [.slice ca k kc, .int .i64 ((t' + 1 + 1 : Nat) : Int)]) := S_3.out.other (by (try simp); (try omega)) _
    have B_4 : Hid (SrcB (w3.setCell ⟨w1.heap.size, 0, none⟩ (.int .i64 v3)) S ca k B) := B_3.out.setCell (by (try simp); (try omega)) _
    have R_4 : Hid (Blk (w3.setCell ⟨w1.heap.size, 0, none⟩ (.int .i64 v3)) w.heap.size [.int .i64 0, .slice none 0 0, .int .i64 0, .int .i64 0]) := R_3.out.other (by (try simp); (try omega)) _
    have T_4 : Hid (Blk (w3.setCell ⟨w1.heap.size, 0, none⟩ (.int .i64 v3)) w1.heap.size [.int .i64 (v3 : Int), .slice (some ⟨ub, uo, none⟩) (2 * m) cu, .int .i64 ac, .int .i64 bu]) := T_3.out.set 0 (by simp) _
    have RW_4 : Hid (OwnIn (w3.setCell ⟨w1.heap.size, 0, none⟩ (.int .i64 v3)) (w.heap.size + 1) w1.heap.size (some ⟨ub, uo, none⟩) (2 * m) f) := RW_3.out.setCell (by (try simp); (try omega)) _
    have HK_4 : Hid (Keeps w (w3.setCell ⟨w1.heap.size, 0, none⟩ (.int .i64 v3)) b (b + 1)) := HK_3.out.setNew (by (try simp); (try omega)) _
    have z4 : w3.heap.size ≤ (w3.setCell ⟨w1.heap.size, 0, none⟩ (.int .i64 v3)).heap.size := by simp
    clear HK_3 S_3 B_3 R_3 RW_3 T_3 lT cT0 fT0 cT1 fT1 cT2 fT2 cT3 fT3
    generalize w3.setCell ⟨w1.heap.size, 0, none⟩ (.int .i64 v3) = w4 at *
    have lT := T_4.out.1
    have cT0 := T_4.out.at 0 rfl
    have cT1 := T_4.out.at 1 rfl
    have cT2 := T_4.out.at 2 rfl
    have cT3 := T_4.out.at 3 rfl
    have lR := R_4.out.1
    have cR0 := R_4.out.at 0 rfl
    have fR0 := R_4.out.free 0 rfl
    have cR1 := R_4.out.at 1 rfl
    have fR1 := R_4.out.free 1 rfl
    have cR2 := R_4.out.at 2 rfl
    have fR2 := R_4.out.free 2 rfl
    have cR3 := R_4.out.at 3 rfl
    have fR3 := R_4.out.free 3 rfl
    go_wp2
    refine bodyPost_ret (v := .agg #[.int .i64 v3, .slice (some ⟨ub, uo, none⟩) (2 * m) cu, .int .i64 ac, .int .i64 bu]) (by simp [results, Try.results54, go_sem, cR0, cR1, cR2, cR3]) rfl ⟨_, _, _, _, _, (t' + 1 + 1 : Nat), _, f, rfl, ?_, ?_, by omega, ?_, by omega, by omega, by omega⟩
    · refine OwnIn.widen (lo := w.heap.size + 1) (hi := w1.heap.size) ?_ (by omega) (by (try simp); (try omega))
      repeat (with_reducible refine OwnIn.setCell ?_ (.inl (by (try simp); (try omega))) _)
      exact RW_4.out
    · repeat (with_reducible refine Blk.other ?_ (by (try simp); (try omega)) _)
      exact S_4.out
    · repeat (with_reducible refine Keeps.setNew ?_ (by (try simp); (try omega)) _)
      exact HK_4.out
  · have lT := T_2.out.1
    have cT0 := T_2.out.at 0 rfl
    have fT0 := T_2.out.free 0 rfl
    have cT1 := T_2.out.at 1 rfl
    have fT1 := T_2.out.free 1 rfl
    have cT2 := T_2.out.at 2 rfl
    have fT2 := T_2.out.free 2 rfl
    have cT3 := T_2.out.at 3 rfl
    have fT3 := T_2.out.free 3 rfl
    go_wp2_with fail
    refine (of_any [2, -1] b S _ ca k kc (t' + 1) 2 B _ _ S_2.out B_2.out hS hk0 (by omega) rfl (by simp) (by simp) rfl rfl).mono ?_
    rintro e w3 ⟨v3, rfl, _, hB, hk⟩
    have HK_3 : Hid (Keeps w w3 b (b + 1)) := (HK_2.out.alloc _).trans hk
    have z3 : w2.heap.size + 1 ≤ w3.heap.size := by have := hk.size; simp at this; omega
    have S_3 := Lib.hid (src_cast hB)
    have B_3 := Lib.hid ((B_2.out.alloc _).keeps hk hS)
    have R_3 := Lib.hid ((R_2.out.alloc _).keeps hk (by omega))
    have RW_3 := Lib.hid ((RW_2.out.alloc _).keeps hk (by omega))
    have T_3 := Lib.hid ((T_2.out.alloc _).keeps hk (by omega))
    clear hk hB HK_2 S_2 B_2 R_2 RW_2 T_2 lT cT0 fT0 cT1 fT1 cT2 fT2 cT3 fT3
    have lT := T_3.out.1
    have cT0 := T_3.out.at 0 rfl
    have fT0 := T_3.out.free 0 rfl
    have cT1 := T_3.out.at 1 rfl
    have fT1 := T_3.out.free 1 rfl
    have cT2 := T_3.out.at 2 rfl
    have fT2 := T_3.out.free 2 rfl
    have cT3 := T_3.out.at 3 rfl
    have fT3 := T_3.out.free 3 rfl
    go_upto_region 13 with (fail)
    have S_4 : Hid (Blk (w3.setCell ⟨w1.heap.size, 2, none⟩ (.int .i64 v3)) b [.slice ca k kc, .int .i64 ((t' + 1 + 1 : Nat) : Int)]) := S_3.out.other (by (try simp); (try omega)) _
    have B_4 : Hid (SrcB (w3.setCell ⟨w1.heap.size, 2, none⟩ (.int .i64 v3)) S ca k B) := B_3.out.setCell (by (try simp); (try omega)) _
    have R_4 : Hid (Blk (w3.setCell ⟨w1.heap.size, 2, none⟩ (.int .i64 v3)) w.heap.size [.int .i64 0, .slice none 0 0, .int .i64 0, .int .i64 0]) := R_3.out.other (by (try simp); (try omega)) _
    have T_4 : Hid (Blk (w3.setCell ⟨w1.heap.size, 2, none⟩ (.int .i64 v3)) w1.heap.size [.int .i64 (m : Int), .slice (some ⟨ub, uo, none⟩) (2 * m) cu, .int .i64 (v3 : Int), .int .i64 bu]) := T_3.out.set 2 (by simp) _
    have RW_4 : Hid (OwnIn (w3.setCell ⟨w1.heap.size, 2, none⟩ (.int .i64 v3)) (w.heap.size + 1) w1.heap.size (some ⟨ub, uo, none⟩) (2 * m) f) := RW_3.out.setCell (by (try simp); (try omega)) _
    have HK_4 : Hid (Keeps w (w3.setCell ⟨w1.heap.size, 2, none⟩ (.int .i64 v3)) b (b + 1)) := HK_3.out.setNew (by (try simp); (try omega)) _
    have z4 : w3.heap.size ≤ (w3.setCell ⟨w1.heap.size, 2, none⟩ (.int .i64 v3)).heap.size := by simp
    clear HK_3 S_3 B_3 R_3 RW_3 T_3 lT cT0 fT0 cT1 fT1 cT2 fT2 cT3 fT3
    generalize w3.setCell ⟨w1.heap.size, 2, none⟩ (.int .i64 v3) = w4 at *
    have lT := T_4.out.1
    have cT0 := T_4.out.at 0 rfl
    have cT1 := T_4.out.at 1 rfl
    have cT2 := T_4.out.at 2 rfl
    have cT3 := T_4.out.at 3 rfl
    have lR := R_4.out.1
    have cR0 := R_4.out.at 0 rfl
    have fR0 := R_4.out.free 0 rfl
    have cR1 := R_4.out.at 1 rfl
    have fR1 := R_4.out.free 1 rfl
    have cR2 := R_4.out.at 2 rfl
    have fR2 := R_4.out.free 2 rfl
    have cR3 := R_4.out.at 3 rfl
    have fR3 := R_4.out.free 3 rfl
    go_wp2
    refine bodyPost_ret (v := .agg #[.int .i64 (m : Int), .slice (some ⟨ub, uo, none⟩) (2 * m) cu, .int .i64 v3, .int .i64 bu]) (by simp [results, Try.results54, go_sem, cR0, cR1, cR2, cR3]) rfl ⟨_, _, _, _, _, (t' + 1 + 1 : Nat), _, f, rfl, ?_, ?_, by omega, ?_, by omega, by omega, by omega⟩
    · refine OwnIn.widen (lo := w.heap.size + 1) (hi := w1.heap.size) ?_ (by omega) (by (try simp); (try omega))
      repeat (with_reducible refine OwnIn.setCell ?_ (.inl (by (try simp); (try omega))) _)
      exact RW_4.out
    · repeat (with_reducible refine Blk.other ?_ (by (try simp); (try omega)) _)
      exact S_4.out
    · repeat (with_reducible refine Keeps.setNew ?_ (by (try simp); (try omega)) _)
      exact HK_4.out
  · have lT := T_2.out.1
    have cT0 := T_2.out.at 0 rfl
    have fT0 := T_2.out.free 0 rfl
    have cT1 := T_2.out.at 1 rfl
    have fT1 := T_2.out.free 1 rfl
    have cT2 := T_2.out.at 2 rfl
    have fT2 := T_2.out.free 2 rfl
    have cT3 := T_2.out.at 3 rfl
    have fT3 := T_2.out.free 3 rfl
    go_wp2_with fail
    refine (of_any [-1, (m : Int) + 1] b S _ ca k kc (t' + 1) 2 B _ _ S_2.out B_2.out hS hk0 (by omega) rfl (by simp) (by simp) rfl rfl).mono ?_
    rintro e w3 ⟨v3, rfl, _, hB, hk⟩
    have HK_3 : Hid (Keeps w w3 b (b + 1)) := (HK_2.out.alloc _).trans hk
    have z3 : w2.heap.size + 1 ≤ w3.heap.size := by have := hk.size; simp at this; omega
    have S_3 := Lib.hid (src_cast hB)
    have B_3 := Lib.hid ((B_2.out.alloc _).keeps hk hS)
    have R_3 := Lib.hid ((R_2.out.alloc _).keeps hk (by omega))
    have RW_3 := Lib.hid ((RW_2.out.alloc _).keeps hk (by omega))
    have T_3 := Lib.hid ((T_2.out.alloc _).keeps hk (by omega))
    clear hk hB HK_2 S_2 B_2 R_2 RW_2 T_2 lT cT0 fT0 cT1 fT1 cT2 fT2 cT3 fT3
    have lT := T_3.out.1
    have cT0 := T_3.out.at 0 rfl
    have fT0 := T_3.out.free 0 rfl
    have cT1 := T_3.out.at 1 rfl
    have fT1 := T_3.out.free 1 rfl
    have cT2 := T_3.out.at 2 rfl
    have fT2 := T_3.out.free 2 rfl
    have cT3 := T_3.out.at 3 rfl
    have fT3 := T_3.out.free 3 rfl
    go_upto_region 13 with (fail)
    have S_4 : Hid (Blk (w3.setCell ⟨w1.heap.size, 3, none⟩ (.int .i64 v3)) b [.slice ca k kc, .int .i64 ((t' + 1 + 1 : Nat) : Int)]) := S_3.out.other (by (try simp); (try omega)) _
    have B_4 : Hid (SrcB (w3.setCell ⟨w1.heap.size, 3, none⟩ (.int .i64 v3)) S ca k B) := B_3.out.setCell (by (try simp); (try omega)) _
    have R_4 : Hid (Blk (w3.setCell ⟨w1.heap.size, 3, none⟩ (.int .i64 v3)) w.heap.size [.int .i64 0, .slice none 0 0, .int .i64 0, .int .i64 0]) := R_3.out.other (by (try simp); (try omega)) _
    have T_4 : Hid (Blk (w3.setCell ⟨w1.heap.size, 3, none⟩ (.int .i64 v3)) w1.heap.size [.int .i64 (m : Int), .slice (some ⟨ub, uo, none⟩) (2 * m) cu, .int .i64 ac, .int .i64 (v3 : Int)]) := T_3.out.set 3 (by simp) _
    have RW_4 : Hid (OwnIn (w3.setCell ⟨w1.heap.size, 3, none⟩ (.int .i64 v3)) (w.heap.size + 1) w1.heap.size (some ⟨ub, uo, none⟩) (2 * m) f) := RW_3.out.setCell (by (try simp); (try omega)) _
    have HK_4 : Hid (Keeps w (w3.setCell ⟨w1.heap.size, 3, none⟩ (.int .i64 v3)) b (b + 1)) := HK_3.out.setNew (by (try simp); (try omega)) _
    have z4 : w3.heap.size ≤ (w3.setCell ⟨w1.heap.size, 3, none⟩ (.int .i64 v3)).heap.size := by simp
    clear HK_3 S_3 B_3 R_3 RW_3 T_3 lT cT0 fT0 cT1 fT1 cT2 fT2 cT3 fT3
    generalize w3.setCell ⟨w1.heap.size, 3, none⟩ (.int .i64 v3) = w4 at *
    have lT := T_4.out.1
    have cT0 := T_4.out.at 0 rfl
    have cT1 := T_4.out.at 1 rfl
    have cT2 := T_4.out.at 2 rfl
    have cT3 := T_4.out.at 3 rfl
    have lR := R_4.out.1
    have cR0 := R_4.out.at 0 rfl
    have fR0 := R_4.out.free 0 rfl
    have cR1 := R_4.out.at 1 rfl
    have fR1 := R_4.out.free 1 rfl
    have cR2 := R_4.out.at 2 rfl
    have fR2 := R_4.out.free 2 rfl
    have cR3 := R_4.out.at 3 rfl
    have fR3 := R_4.out.free 3 rfl
    go_wp2
    refine bodyPost_ret (v := .agg #[.int .i64 (m : Int), .slice (some ⟨ub, uo, none⟩) (2 * m) cu, .int .i64 ac, .int .i64 v3]) (by simp [results, Try.results54, go_sem, cR0, cR1, cR2, cR3]) rfl ⟨_, _, _, _, _, (t' + 1 + 1 : Nat), _, f, rfl, ?_, ?_, by omega, ?_, by omega, by omega, by omega⟩
    · refine OwnIn.widen (lo := w.heap.size + 1) (hi := w1.heap.size) ?_ (by omega) (by (try simp); (try omega))
      repeat (with_reducible refine OwnIn.setCell ?_ (.inl (by (try simp); (try omega))) _)
      exact RW_4.out
    · repeat (with_reducible refine Blk.other ?_ (by (try simp); (try omega)) _)
      exact S_4.out
    · repeat (with_reducible refine Keeps.setNew ?_ (by (try simp); (try omega)) _)
      exact HK_4.out
  · have hc1 : ¬ cu = 1 := by omega
    have hj1 : (1 : Int) ≤ 2 * (m : Int) := by omega
    have hj2 : (2 : Int) * (m : Int) ≤ (cu : Int) := by omega
    have RWt : Hid (OwnIn w2 (w.heap.size + 1) w1.heap.size (some ⟨ub, uo + 1, none⟩) (2 * m - 1) (fun i => f (1 + i))) := OwnIn.tail (by rw [show 2 * m - 1 + 1 = 2 * m by omega]; exact RW_2.out)
    have lT := T_2.out.1
    have cT0 := T_2.out.at 0 rfl
    have fT0 := T_2.out.free 0 rfl
    have cT1 := T_2.out.at 1 rfl
    have fT1 := T_2.out.free 1 rfl
    have cT2 := T_2.out.at 2 rfl
    have fT2 := T_2.out.free 2 rfl
    have cT3 := T_2.out.at 3 rfl
    have fT3 := T_2.out.free 3 rfl
    go_upto_region 13 with (fail)
    have S_3 : Hid (Blk (w2.setCell ⟨w1.heap.size, 1, none⟩ (.slice (some ⟨ub, uo + 1, none⟩) (2 * m - 1) (cu - 1))) b [.slice ca k kc, .int .i64 ((t' + 1 : Nat) : Int)]) := S_2.out.other (by (try simp); (try omega)) _
    have B_3 : Hid (SrcB (w2.setCell ⟨w1.heap.size, 1, none⟩ (.slice (some ⟨ub, uo + 1, none⟩) (2 * m - 1) (cu - 1))) S ca k B) := B_2.out.setCell (by (try simp); (try omega)) _
    have R_3 : Hid (Blk (w2.setCell ⟨w1.heap.size, 1, none⟩ (.slice (some ⟨ub, uo + 1, none⟩) (2 * m - 1) (cu - 1))) w.heap.size [.int .i64 0, .slice none 0 0, .int .i64 0, .int .i64 0]) := R_2.out.other (by (try simp); (try omega)) _
    have T_3 : Hid (Blk (w2.setCell ⟨w1.heap.size, 1, none⟩ (.slice (some ⟨ub, uo + 1, none⟩) (2 * m - 1) (cu - 1))) w1.heap.size [.int .i64 (m : Int), .slice (some ⟨ub, uo + 1, none⟩) (2 * m - 1) (cu - 1), .int .i64 ac, .int .i64 bu]) := T_2.out.set 1 (by simp) _
    have RW_3 : Hid (OwnIn (w2.setCell ⟨w1.heap.size, 1, none⟩ (.slice (some ⟨ub, uo + 1, none⟩) (2 * m - 1) (cu - 1))) (w.heap.size + 1) w1.heap.size (some ⟨ub, uo + 1, none⟩) (2 * m - 1) (fun i => f (1 + i))) := RWt.out.setCell (by (try simp); (try omega)) _
    have HK_3 : Hid (Keeps w (w2.setCell ⟨w1.heap.size, 1, none⟩ (.slice (some ⟨ub, uo + 1, none⟩) (2 * m - 1) (cu - 1))) b (b + 1)) := HK_2.out.setNew (by (try simp); (try omega)) _
    have z3 : w2.heap.size ≤ (w2.setCell ⟨w1.heap.size, 1, none⟩ (.slice (some ⟨ub, uo + 1, none⟩) (2 * m - 1) (cu - 1))).heap.size := by simp
    clear HK_2 S_2 B_2 R_2 RW_2 T_2 lT cT0 fT0 cT1 fT1 cT2 fT2 cT3 fT3
    generalize w2.setCell ⟨w1.heap.size, 1, none⟩ (.slice (some ⟨ub, uo + 1, none⟩) (2 * m - 1) (cu - 1)) = w3 at *
    have lT := T_3.out.1
    have cT0 := T_3.out.at 0 rfl
    have cT1 := T_3.out.at 1 rfl
    have cT2 := T_3.out.at 2 rfl
    have cT3 := T_3.out.at 3 rfl
    have lR := R_3.out.1
    have cR0 := R_3.out.at 0 rfl
    have fR0 := R_3.out.free 0 rfl
    have cR1 := R_3.out.at 1 rfl
    have fR1 := R_3.out.free 1 rfl
    have cR2 := R_3.out.at 2 rfl
    have fR2 := R_3.out.free 2 rfl
    have cR3 := R_3.out.at 3 rfl
    have fR3 := R_3.out.free 3 rfl
    go_wp2
    refine bodyPost_ret (v := .agg #[.int .i64 (m : Int), .slice (some ⟨ub, uo + 1, none⟩) (2 * m - 1) (cu - 1), .int .i64 ac, .int .i64 bu]) (by simp [results, Try.results54, go_sem, cR0, cR1, cR2, cR3]) rfl ⟨_, _, _, _, _, (t' + 1 : Nat), _, (fun i => f (1 + i)), rfl, ?_, ?_, by omega, ?_, by omega, by omega, by omega⟩
    · refine OwnIn.widen (lo := w.heap.size + 1) (hi := w1.heap.size) ?_ (by omega) (by (try simp); (try omega))
      repeat (with_reducible refine OwnIn.setCell ?_ (.inl (by (try simp); (try omega))) _)
      exact RW_3.out
    · repeat (with_reducible refine Blk.other ?_ (by (try simp); (try omega)) _)
      exact S_3.out
    · repeat (with_reducible refine Keeps.setNew ?_ (by (try simp); (try omega)) _)
      exact HK_3.out
  · have lT := T_2.out.1
    have cT0 := T_2.out.at 0 rfl
    have fT0 := T_2.out.free 0 rfl
    have cT1 := T_2.out.at 1 rfl
    have fT1 := T_2.out.free 1 rfl
    have cT2 := T_2.out.at 2 rfl
    have fT2 := T_2.out.free 2 rfl
    have cT3 := T_2.out.at 3 rfl
    have fT3 := T_2.out.free 3 rfl
    go_wp2_with fail
    have hj3 : (3 : Int) < 2 * (m : Int) := by omega
    have S_d := Lib.hid S_2.out.drew
    have B_d := Lib.hid B_2.out.drew
    have R_d := Lib.hid R_2.out.drew
    have T_d := Lib.hid T_2.out.drew
    have RW_d := Lib.hid RW_2.out.drew
    have HK_d := Lib.hid HK_2.out.drew
    clear HK_2 S_2 B_2 R_2 RW_2 T_2 lT cT0 fT0 cT1 fT1 cT2 fT2 cT3 fT3
    go_region_held3 (fun w' => w'.cell? ⟨w1.heap.size, 1, none⟩ = some (.slice (some ⟨ub, uo, none⟩) (2 * m) cu))
      (first | with_reducible exact T_d.out.at 1 rfl | exact (T_d.out.alloc _).at 1 rfl | with_reducible exact T_3.out.at 1 rfl | exact (T_3.out.other (by (try simp); (try omega)) _).at 1 rfl)
      (first | (go_at_call 45; refine (of_drew [1000000001, -1000000001, -1000000000] b S _ ca k kc (t' + 1) 3 B _ w2 S_d.out B_d.out hS hk0 (by omega) rfl (by simp) (by simp) rfl rfl).mono ?_; rintro e w3 ⟨v3, rfl, _, hB, hk⟩; have S_3 := Lib.hid (src_cast hB); have B_3 := Lib.hid ((B_d.out.alloc _).keeps hk hS); have R_3 := Lib.hid ((R_d.out.alloc _).keeps hk (by omega)); have T_3 := Lib.hid ((T_d.out.alloc _).keeps hk (by omega)); have RW_3 := Lib.hid ((RW_d.out.alloc _).keeps hk (by omega)); have HK_3 := Lib.hid ((HK_d.out.alloc _).trans hk); have y3 : w2.heap.size ≤ w3.heap.size := (by have := hk.size; simp at this; omega); clear hk hB; obtain ⟨cU, fU⟩ := (ownIn_cell RW_3.out 3 (by omega))))
    have st := Lib.hid (RW_3.out.stored 3 (by omega) v3)
    refine q_named (fun w11 => Hid (Blk w11 b [.slice ca k kc, .int .i64 ((t' + 1 + 1 : Nat) : Int)]) ∧ Hid (Blk w11 w.heap.size [.int .i64 0, .slice none 0 0, .int .i64 0, .int .i64 0]) ∧ Hid (Blk w11 w1.heap.size [.int .i64 (m : Int), .slice (some ⟨ub, uo, none⟩) (2 * m) cu, .int .i64 ac, .int .i64 bu]) ∧ Hid (OwnIn w11 (w.heap.size + 1) w1.heap.size (some ⟨ub, uo, none⟩) (2 * m) (fun j => if j = 3 then v3 else f j)) ∧ Hid (Keeps w w11 b (b + 1)) ∧ w2.heap.size ≤ w11.heap.size) ⟨S_3.out.other (by (try simp); (try omega)) _, R_3.out.other (by (try simp); (try omega)) _, T_3.out.other (by (try simp); (try omega)) _, st.out.1, HK_3.out.setNew (by (try simp); (try omega)) _, by simp; omega⟩ (fun w11 hF => ?_)
    obtain ⟨S_11, R_11, T_11, RW_11, HK_11, z11⟩ := hF
    clear st cU fU S_3 B_3 R_3 T_3 RW_3 HK_3 S_d B_d R_d T_d RW_d HK_d
    have lT := T_11.out.1
    have cT0 := T_11.out.at 0 rfl
    have cT1 := T_11.out.at 1 rfl
    have cT2 := T_11.out.at 2 rfl
    have cT3 := T_11.out.at 3 rfl
    have lR := R_11.out.1
    have cR0 := R_11.out.at 0 rfl
    have fR0 := R_11.out.free 0 rfl
    have cR1 := R_11.out.at 1 rfl
    have fR1 := R_11.out.free 1 rfl
    have cR2 := R_11.out.at 2 rfl
    have fR2 := R_11.out.free 2 rfl
    have cR3 := R_11.out.at 3 rfl
    have fR3 := R_11.out.free 3 rfl
    go_wp2
    refine bodyPost_ret (v := .agg #[.int .i64 (m : Int), .slice (some ⟨ub, uo, none⟩) (2 * m) cu, .int .i64 ac, .int .i64 bu]) (by simp [results, Try.results54, go_sem, cR0, cR1, cR2, cR3]) rfl ⟨_, _, _, _, _, (t' + 1 + 1 : Nat), _, (fun j => if j = 3 then v3 else f j), rfl, ?_, ?_, by omega, ?_, by omega, by omega, by omega⟩
    · refine OwnIn.widen (lo := w.heap.size + 1) (hi := w1.heap.size) ?_ (by omega) (by (try simp); (try omega))
      repeat (with_reducible refine OwnIn.setCell ?_ (.inl (by (try simp); (try omega))) _)
      exact RW_11.out
    · repeat (with_reducible refine Blk.other ?_ (by (try simp); (try omega)) _)
      exact S_11.out
    · repeat (with_reducible refine Keeps.setNew ?_ (by (try simp); (try omega)) _)
      exact HK_11.out
  · have lT := T_2.out.1
    have cT0 := T_2.out.at 0 rfl
    have fT0 := T_2.out.free 0 rfl
    have cT1 := T_2.out.at 1 rfl
    have fT1 := T_2.out.free 1 rfl
    have cT2 := T_2.out.at 2 rfl
    have fT2 := T_2.out.free 2 rfl
    have cT3 := T_2.out.at 3 rfl
    have fT3 := T_2.out.free 3 rfl
    go_upto_region 13 with (fail)
    clear lT cT0 fT0 cT1 fT1 cT2 fT2 cT3 fT3
    have lT := T_2.out.1
    have cT0 := T_2.out.at 0 rfl
    have cT1 := T_2.out.at 1 rfl
    have cT2 := T_2.out.at 2 rfl
    have cT3 := T_2.out.at 3 rfl
    have lR := R_2.out.1
    have cR0 := R_2.out.at 0 rfl
    have fR0 := R_2.out.free 0 rfl
    have cR1 := R_2.out.at 1 rfl
    have fR1 := R_2.out.free 1 rfl
    have cR2 := R_2.out.at 2 rfl
    have fR2 := R_2.out.free 2 rfl
    have cR3 := R_2.out.at 3 rfl
    have fR3 := R_2.out.free 3 rfl
    go_wp2
    refine bodyPost_ret (v := .agg #[.int .i64 (m : Int), .slice (some ⟨ub, uo, none⟩) (2 * m) cu, .int .i64 ac, .int .i64 bu]) (by simp [results, Try.results54, go_sem, cR0, cR1, cR2, cR3]) rfl ⟨_, _, _, _, _, (t' + 1 : Nat), _, f, rfl, ?_, ?_, by omega, ?_, by omega, by omega, by omega⟩
    · refine OwnIn.widen (lo := w.heap.size + 1) (hi := w1.heap.size) ?_ (by omega) (by (try simp); (try omega))
      repeat (with_reducible refine OwnIn.setCell ?_ (.inl (by (try simp); (try omega))) _)
      exact RW_2.out
    · repeat (with_reducible refine Blk.other ?_ (by (try simp); (try omega)) _)
      exact S_2.out
    · repeat (with_reducible refine Keeps.setNew ?_ (by (try simp); (try omega)) _)
      exact HK_2.out

end Go.Proofs.Ythejbgmhfajcpaa
