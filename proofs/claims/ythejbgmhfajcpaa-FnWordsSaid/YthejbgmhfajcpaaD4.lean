/- Draws: the arguments of the functions of chapter 1. -/
import Derived.Test.YthejbgmhfajcpaaD3
namespace Go.Proofs.Ythejbgmhfajcpaa
open Go.RowKit
set_option linter.unusedVariables false


theorem SrcB.mono {w : World} {S S' : Nat} {a : Option Addr} {k : Nat} {B : Nat → Int} (h : SrcB w S a k B) (hS : S ≤ S') : SrcB w S' a k B := by
  rcases h with h | ⟨b, off, h1, h2, h3, h4⟩
  · exact .inl h
  · exact .inr ⟨b, off, h1, by omega, h3, h4⟩
def RetA1 (W : World) (e : Ending) (w' : World) : Prop :=
  ∃ (h ac bu : Int) (n c : Nat) (a : Option Addr) (f : Nat → Int), e = .returned (.agg #[.int .i64 h, .slice a n c, .int .i64 ac, .int .i64 bu]) ∧ Own w' W.heap.size a n f ∧ Below W.heap.size W w' ∧ n ≤ 32 ∧ n ≤ c ∧ c ≤ maxLen
def RetA2 (W : World) (e : Ending) (w' : World) : Prop :=
  ∃ (h ac bu q : Int) (n c : Nat) (a : Option Addr) (f : Nat → Int), e = .returned (.tuple #[.agg #[.int .i64 h, .slice a n c, .int .i64 ac, .int .i64 bu], .int .i64 q]) ∧ Own w' W.heap.size a n f ∧ Below W.heap.size W w' ∧ n ≤ 32 ∧ n ≤ c ∧ c ≤ maxLen
def RetA3 (W : World) (e : Ending) (w' : World) : Prop :=
  ∃ (h ac bu q r : Int) (n c : Nat) (a : Option Addr) (f : Nat → Int), e = .returned (.tuple #[.agg #[.int .i64 h, .slice a n c, .int .i64 ac, .int .i64 bu], .int .i64 q, .int .i64 r]) ∧ Own w' W.heap.size a n f ∧ Below W.heap.size W w' ∧ n ≤ 32 ∧ n ≤ c ∧ c ≤ maxLen

set_option maxHeartbeats 1600000 in
theorem drawTake_any (ca : Option Addr) (k kc : Nat) (B : Nat → Int) (w : World) (hs : SrcB w w.heap.size ca k B) (hk0 : k ≤ 1048576) :
    Calls Try.prog 26 #[.slice ca k kc] w (RetA2 w) := by
  have B_0 := Lib.hid hs
  clear hs
  go_enter Try.func26, Try.ntmps26
  go_wp2_with fail
  refine (source_any ca k kc _).mono ?_
  rintro e w' ⟨rfl, rfl⟩
  go_wp2_with fail
  refine (bent_any (w.heap.size + 1) (w.heap.size + 1) ca k kc 0 B _ (Blk.new_at (w.heap.size + 1) (by simp)) (((B_0.out.alloc _).alloc _).mono (by omega)) (Nat.le_refl _) hk0 (by omega)).mono ?_
  rintro e w1 ⟨h, ac, bu, n, c, t, a, f, rfl, ho, hB, ht, hk, hn, hnc, hcm⟩
  have z1 : w.heap.size + 2 ≤ w1.heap.size := by have := hk.size; simp at this; omega
  have HB_1 : Hid (Below w.heap.size w w1) := (((Below.refl _ _).alloc (Nat.le_refl _) _).alloc (by simp) _).trans (hk.below (by omega) (by simp; omega))
  have S_1 := Lib.hid hB
  have B_1 : Hid (SrcB w1 (w.heap.size + 1) ca k B) := (((B_0.out.alloc _).alloc _).mono (by omega)).keeps hk (Nat.le_refl _)
  have R_1 := Lib.hid (((Blk.new_at (w.heap.size) rfl).alloc _).keeps hk (by omega))
  have RW_1 : Hid (OwnIn w1 (w.heap.size + 2) w1.heap.size a n f) := ho.widen (by simp) (Nat.le_refl _)
  clear ho hB hk B_0
  go_wp2_with fail
  refine (of_any [1, 2, 5, 8, 0, 17, -1] (w.heap.size + 1) (w.heap.size + 1) _ ca k kc (t) 7 B _ _ S_1.out B_1.out (Nat.le_refl _) hk0 (by omega) rfl (by simp) (by simp) rfl rfl).mono ?_
  rintro e w2 ⟨q, rfl, _, hB, hk⟩
  have HB_2 : Hid (Below w.heap.size w w2) := (HB_1.out.alloc HB_1.out.size _).trans (hk.below (by omega) (by have := HB_1.out.size; simp; omega))
  have z2 : w1.heap.size + 1 ≤ w2.heap.size := by have := hk.size; simp at this; omega
  have S_2 := Lib.hid (src_cast hB)
  have B_2 := Lib.hid ((B_1.out.alloc _).keeps hk (Nat.le_refl _))
  have R_2 := Lib.hid ((R_1.out.alloc _).keeps hk (by omega))
  have RW_2 := Lib.hid ((RW_1.out.alloc _).keeps hk (by omega))
  clear hk hB S_1 B_1 R_1 RW_1 HB_1
  have cR0 := R_2.out.at 0 rfl; have fR0 := R_2.out.free 0 rfl
  have cR1 := R_2.out.at 1 rfl; have fR1 := R_2.out.free 1 rfl
  have cR2 := R_2.out.at 2 rfl; have fR2 := R_2.out.free 2 rfl
  have cR3 := R_2.out.at 3 rfl; have fR3 := R_2.out.free 3 rfl
  have lR := R_2.out.1
  have hz := HB_2.out.size
  go_wp2
  refine bodyPost_ret (v := .tuple #[.agg #[.int .i64 h, .slice a n c, .int .i64 ac, .int .i64 bu], .int .i64 q]) (by simp [results, Try.results26, go_sem, cR0, cR1, cR2, cR3]) rfl ⟨_, _, _, _, _, _, a, f, rfl, ?_, ?_, hn, hnc, hcm⟩
  · refine Own.mono (B := w.heap.size + 2) ?_ (by omega)
    repeat (with_reducible refine Own.setCell ?_ (by (try simp); (try omega)) _)
    exact (RW_2.out.widen (Nat.le_refl _) (Nat.le_refl _)).out
  · repeat (with_reducible refine Below.setCell ?_ (by (try simp); (try omega)) _)
    exact HB_2.out

set_option maxHeartbeats 1600000 in
theorem drawFlip_any (ca : Option Addr) (k kc : Nat) (B : Nat → Int) (w : World) (hs : SrcB w w.heap.size ca k B) (hk0 : k ≤ 1048576) :
    Calls Try.prog 28 #[.slice ca k kc] w (RetA1 w) := by
  have B_0 := Lib.hid hs
  clear hs
  go_enter Try.func28, Try.ntmps28
  go_wp2_with fail
  refine (source_any ca k kc _).mono ?_
  rintro e w' ⟨rfl, rfl⟩
  go_wp2_with fail
  refine (bent_any (w.heap.size + 1) (w.heap.size + 1) ca k kc 0 B _ (Blk.new_at (w.heap.size + 1) (by simp)) (((B_0.out.alloc _).alloc _).mono (by omega)) (Nat.le_refl _) hk0 (by omega)).mono ?_
  rintro e w1 ⟨h, ac, bu, n, c, t, a, f, rfl, ho, hB, ht, hk, hn, hnc, hcm⟩
  have z1 : w.heap.size + 2 ≤ w1.heap.size := by have := hk.size; simp at this; omega
  have HB_1 : Hid (Below w.heap.size w w1) := (((Below.refl _ _).alloc (Nat.le_refl _) _).alloc (by simp) _).trans (hk.below (by omega) (by simp; omega))
  have S_1 := Lib.hid hB
  have B_1 : Hid (SrcB w1 (w.heap.size + 1) ca k B) := (((B_0.out.alloc _).alloc _).mono (by omega)).keeps hk (Nat.le_refl _)
  have R_1 := Lib.hid (((Blk.new_at (w.heap.size) rfl).alloc _).keeps hk (by omega))
  have RW_1 : Hid (OwnIn w1 (w.heap.size + 2) w1.heap.size a n f) := ho.widen (by simp) (Nat.le_refl _)
  clear ho hB hk B_0
  have cR0 := R_1.out.at 0 rfl; have fR0 := R_1.out.free 0 rfl
  have cR1 := R_1.out.at 1 rfl; have fR1 := R_1.out.free 1 rfl
  have cR2 := R_1.out.at 2 rfl; have fR2 := R_1.out.free 2 rfl
  have cR3 := R_1.out.at 3 rfl; have fR3 := R_1.out.free 3 rfl
  have lR := R_1.out.1
  have hz := HB_1.out.size
  go_wp2
  refine bodyPost_ret (v := .agg #[.int .i64 h, .slice a n c, .int .i64 ac, .int .i64 bu]) (by simp [results, Try.results28, go_sem, cR0, cR1, cR2, cR3]) rfl ⟨_, _, _, _, _, a, f, rfl, ?_, ?_, hn, hnc, hcm⟩
  · refine Own.mono (B := w.heap.size + 2) ?_ (by omega)
    repeat (with_reducible refine Own.setCell ?_ (by (try simp); (try omega)) _)
    exact (RW_1.out.widen (Nat.le_refl _) (Nat.le_refl _)).out
  · repeat (with_reducible refine Below.setCell ?_ (by (try simp); (try omega)) _)
    exact HB_1.out

set_option maxHeartbeats 1600000 in
theorem drawRead_any (ca : Option Addr) (k kc : Nat) (B : Nat → Int) (w : World) (hs : SrcB w w.heap.size ca k B) (hk0 : k ≤ 1048576) :
    Calls Try.prog 44 #[.slice ca k kc] w (RetA2 w) := by
  have B_0 := Lib.hid hs
  clear hs
  go_enter Try.func44, Try.ntmps44
  go_wp2_with fail
  refine (source_any ca k kc _).mono ?_
  rintro e w' ⟨rfl, rfl⟩
  go_wp2_with fail
  refine (bent_any (w.heap.size + 1) (w.heap.size + 1) ca k kc 0 B _ (Blk.new_at (w.heap.size + 1) (by simp)) (((B_0.out.alloc _).alloc _).mono (by omega)) (Nat.le_refl _) hk0 (by omega)).mono ?_
  rintro e w1 ⟨h, ac, bu, n, c, t, a, f, rfl, ho, hB, ht, hk, hn, hnc, hcm⟩
  have z1 : w.heap.size + 2 ≤ w1.heap.size := by have := hk.size; simp at this; omega
  have HB_1 : Hid (Below w.heap.size w w1) := (((Below.refl _ _).alloc (Nat.le_refl _) _).alloc (by simp) _).trans (hk.below (by omega) (by simp; omega))
  have S_1 := Lib.hid hB
  have B_1 : Hid (SrcB w1 (w.heap.size + 1) ca k B) := (((B_0.out.alloc _).alloc _).mono (by omega)).keeps hk (Nat.le_refl _)
  have R_1 := Lib.hid (((Blk.new_at (w.heap.size) rfl).alloc _).keeps hk (by omega))
  have RW_1 : Hid (OwnIn w1 (w.heap.size + 2) w1.heap.size a n f) := ho.widen (by simp) (Nat.le_refl _)
  clear ho hB hk B_0
  go_wp2_with fail
  refine (next_is _ (w.heap.size + 1) (w.heap.size + 1) ca k kc (t) 16 B _ rfl S_1.out B_1.out (Nat.le_refl _) hk0 (by omega) (by omega) (by omega)).mono ?_
  rintro e w2 ⟨v, rfl, _, hB, hk⟩
  have HB_2 : Hid (Below w.heap.size w w2) := HB_1.out.trans (hk.below (by omega) HB_1.out.size)
  have z2 : w1.heap.size ≤ w2.heap.size := hk.size
  have S_2 := Lib.hid (src_cast hB)
  have B_2 := Lib.hid (B_1.out.keeps hk (Nat.le_refl _))
  have R_2 := Lib.hid (R_1.out.keeps hk (by omega))
  have RW_2 := Lib.hid (RW_1.out.keeps hk (by omega))
  clear hk hB S_1 B_1 R_1 RW_1 HB_1
  go_wp2_with fail
  refine (of_any [0, 5, 15, 16, (v : Int), 400, -1] (w.heap.size + 1) (w.heap.size + 1) _ ca k kc (t + 1) 7 B _ _ S_2.out B_2.out (Nat.le_refl _) hk0 (by omega) rfl (by simp) (by simp) rfl rfl).mono ?_
  rintro e w3 ⟨q, rfl, _, hB, hk⟩
  have HB_3 : Hid (Below w.heap.size w w3) := (HB_2.out.alloc HB_2.out.size _).trans (hk.below (by omega) (by have := HB_2.out.size; simp; omega))
  have z3 : w2.heap.size + 1 ≤ w3.heap.size := by have := hk.size; simp at this; omega
  have S_3 := Lib.hid (src_cast hB)
  have B_3 := Lib.hid ((B_2.out.alloc _).keeps hk (Nat.le_refl _))
  have R_3 := Lib.hid ((R_2.out.alloc _).keeps hk (by omega))
  have RW_3 := Lib.hid ((RW_2.out.alloc _).keeps hk (by omega))
  clear hk hB S_2 B_2 R_2 RW_2 HB_2
  have cR0 := R_3.out.at 0 rfl; have fR0 := R_3.out.free 0 rfl
  have cR1 := R_3.out.at 1 rfl; have fR1 := R_3.out.free 1 rfl
  have cR2 := R_3.out.at 2 rfl; have fR2 := R_3.out.free 2 rfl
  have cR3 := R_3.out.at 3 rfl; have fR3 := R_3.out.free 3 rfl
  have lR := R_3.out.1
  have hz := HB_3.out.size
  go_wp2
  refine bodyPost_ret (v := .tuple #[.agg #[.int .i64 h, .slice a n c, .int .i64 ac, .int .i64 bu], .int .i64 q]) (by simp [results, Try.results44, go_sem, cR0, cR1, cR2, cR3]) rfl ⟨_, _, _, _, _, _, a, f, rfl, ?_, ?_, hn, hnc, hcm⟩
  · refine Own.mono (B := w.heap.size + 2) ?_ (by omega)
    repeat (with_reducible refine Own.setCell ?_ (by (try simp); (try omega)) _)
    exact (RW_3.out.widen (Nat.le_refl _) (Nat.le_refl _)).out
  · repeat (with_reducible refine Below.setCell ?_ (by (try simp); (try omega)) _)
    exact HB_3.out

set_option maxHeartbeats 1600000 in
theorem drawZero_any (ca : Option Addr) (k kc : Nat) (B : Nat → Int) (w : World) (hs : SrcB w w.heap.size ca k B) (hk0 : k ≤ 1048576) :
    Calls Try.prog 16 #[.slice ca k kc] w (RetA3 w) := by
  have B_0 := Lib.hid hs
  clear hs
  go_enter Try.func16, Try.ntmps16
  go_wp2_with fail
  refine (source_any ca k kc _).mono ?_
  rintro e w' ⟨rfl, rfl⟩
  go_wp2_with fail
  refine (bent_any (w.heap.size + 1) (w.heap.size + 1) ca k kc 0 B _ (Blk.new_at (w.heap.size + 1) (by simp)) (((B_0.out.alloc _).alloc _).mono (by omega)) (Nat.le_refl _) hk0 (by omega)).mono ?_
  rintro e w1 ⟨h, ac, bu, n, c, t, a, f, rfl, ho, hB, ht, hk, hn, hnc, hcm⟩
  have z1 : w.heap.size + 2 ≤ w1.heap.size := by have := hk.size; simp at this; omega
  have HB_1 : Hid (Below w.heap.size w w1) := (((Below.refl _ _).alloc (Nat.le_refl _) _).alloc (by simp) _).trans (hk.below (by omega) (by simp; omega))
  have S_1 := Lib.hid hB
  have B_1 : Hid (SrcB w1 (w.heap.size + 1) ca k B) := (((B_0.out.alloc _).alloc _).mono (by omega)).keeps hk (Nat.le_refl _)
  have R_1 := Lib.hid (((Blk.new_at (w.heap.size) rfl).alloc _).keeps hk (by omega))
  have RW_1 : Hid (OwnIn w1 (w.heap.size + 2) w1.heap.size a n f) := ho.widen (by simp) (Nat.le_refl _)
  clear ho hB hk B_0
  go_wp2_with fail
  refine (of_any [0, 3, 8, 16, -1, 400] (w.heap.size + 1) (w.heap.size + 1) _ ca k kc (t) 6 B _ _ S_1.out B_1.out (Nat.le_refl _) hk0 (by omega) rfl (by simp) (by simp) rfl rfl).mono ?_
  rintro e w2 ⟨q, rfl, _, hB, hk⟩
  have HB_2 : Hid (Below w.heap.size w w2) := (HB_1.out.alloc HB_1.out.size _).trans (hk.below (by omega) (by have := HB_1.out.size; simp; omega))
  have z2 : w1.heap.size + 1 ≤ w2.heap.size := by have := hk.size; simp at this; omega
  have S_2 := Lib.hid (src_cast hB)
  have B_2 := Lib.hid ((B_1.out.alloc _).keeps hk (Nat.le_refl _))
  have R_2 := Lib.hid ((R_1.out.alloc _).keeps hk (by omega))
  have RW_2 := Lib.hid ((RW_1.out.alloc _).keeps hk (by omega))
  clear hk hB S_1 B_1 R_1 RW_1 HB_1
  go_wp2_with fail
  refine (of_any [0, 1, 5, 8, 16, -1, 9223372036854775807] (w.heap.size + 1) (w.heap.size + 1) _ ca k kc (t + 1) 7 B _ _ S_2.out B_2.out (Nat.le_refl _) hk0 (by omega) rfl (by simp) (by simp) rfl rfl).mono ?_
  rintro e w3 ⟨r, rfl, _, hB, hk⟩
  have HB_3 : Hid (Below w.heap.size w w3) := (HB_2.out.alloc HB_2.out.size _).trans (hk.below (by omega) (by have := HB_2.out.size; simp; omega))
  have z3 : w2.heap.size + 1 ≤ w3.heap.size := by have := hk.size; simp at this; omega
  have S_3 := Lib.hid (src_cast hB)
  have B_3 := Lib.hid ((B_2.out.alloc _).keeps hk (Nat.le_refl _))
  have R_3 := Lib.hid ((R_2.out.alloc _).keeps hk (by omega))
  have RW_3 := Lib.hid ((RW_2.out.alloc _).keeps hk (by omega))
  clear hk hB S_2 B_2 R_2 RW_2 HB_2
  have cR0 := R_3.out.at 0 rfl; have fR0 := R_3.out.free 0 rfl
  have cR1 := R_3.out.at 1 rfl; have fR1 := R_3.out.free 1 rfl
  have cR2 := R_3.out.at 2 rfl; have fR2 := R_3.out.free 2 rfl
  have cR3 := R_3.out.at 3 rfl; have fR3 := R_3.out.free 3 rfl
  have lR := R_3.out.1
  have hz := HB_3.out.size
  go_wp2
  refine bodyPost_ret (v := .tuple #[.agg #[.int .i64 h, .slice a n c, .int .i64 ac, .int .i64 bu], .int .i64 q, .int .i64 r]) (by simp [results, Try.results16, go_sem, cR0, cR1, cR2, cR3]) rfl ⟨_, _, _, _, _, _, _, a, f, rfl, ?_, ?_, hn, hnc, hcm⟩
  · refine Own.mono (B := w.heap.size + 2) ?_ (by omega)
    repeat (with_reducible refine Own.setCell ?_ (by (try simp); (try omega)) _)
    exact (RW_3.out.widen (Nat.le_refl _) (Nat.le_refl _)).out
  · repeat (with_reducible refine Below.setCell ?_ (by (try simp); (try omega)) _)
    exact HB_3.out

set_option maxHeartbeats 800000 in
theorem drawNew_any (ca : Option Addr) (k kc : Nat) (B : Nat → Int) (w : World) (hs : SrcB w w.heap.size ca k B) (hk0 : k ≤ 1048576) :
    Calls Try.prog 30 #[.slice ca k kc] w fun e w' => ∃ v : Int, e = .returned (.int .i64 v) ∧ Below w.heap.size w w' := by
  have B_0 := Lib.hid hs
  clear hs
  go_enter Try.func30, Try.ntmps30
  go_wp2_with fail
  refine (source_any ca k kc _).mono ?_
  rintro e w' ⟨rfl, rfl⟩
  go_wp2_with fail
  refine (of_any [8, 9, 200, 201, 7, 0] (w.heap.size) (w.heap.size) _ ca k kc 0 6 B _ _ (Blk.new_at (w.heap.size) rfl) (B_0.out.alloc _) (Nat.le_refl _) hk0 (by omega) rfl (by simp) (by simp) rfl (by simp)).mono ?_
  rintro e w1 ⟨v, rfl, _, hB, hk⟩
  have HB_1 : Hid (Below w.heap.size w w1) := (((Below.refl _ _).alloc (Nat.le_refl _) _).alloc (by simp) _).trans (hk.below (Nat.le_refl _) (by simp; omega))
  clear hB hk
  go_wp2
  go_ret
  exact ⟨v, rfl, HB_1.out⟩

end Go.Proofs.Ythejbgmhfajcpaa
