/- Draws: the arguments of WriteAt. -/
import Derived.Test.YthejbgmhfajcpaaD4
import Derived.Test.YthejbgmhfajcpaaE4
namespace Go.Proofs.Ythejbgmhfajcpaa
open Go.RowKit
set_option linter.unusedVariables false

/-- The values of which one is written. -/
def lw (i : Nat) : Int := [0, 7, -9, 1000000000, 1000000001, 5].getD i 0
theorem lw_at : ∀ i, i < 6 → (#[.int .i64 0, .int .i64 7, .int .i64 (-9), .int .i64 1000000000, .int .i64 1000000001, .int .i64 5] : Array Value)[i]? = some (.int .i64 (lw i)) := by
  intro i hi
  match i, hi with
  | 0, _ => rfl
  | 1, _ => rfl
  | 2, _ => rfl
  | 3, _ => rfl
  | 4, _ => rfl
  | 5, _ => rfl
theorem blk_later {W : World} {ca : Option Addr} {k kc : Nat} (b : Nat) (hb : b = W.heap.size) : Blk (W.alloc (.cells #[.slice ca k kc, .int .i64 19] 83)) b [.slice ca k kc, .int .i64 ((19 : Nat) : Int)] := Blk.new_at b hb
set_option maxHeartbeats 3200000 in
theorem drawWrite_any (ca : Option Addr) (k kc : Nat) (B : Nat → Int) (w : World) (hs : SrcB w w.heap.size ca k B) (hk0 : k ≤ 1048576) :
    Calls Try.prog 14 #[.slice ca k kc] w (RetA3 w) := by
  have B_0 := Lib.hid hs
  clear hs
  go_enter Try.func14, Try.ntmps14
  go_wp2_with fail
  refine (drawRead_any ca k kc B _ (((B_0.out.alloc _)).now) hk0).mono ?_
  rintro e w1 ⟨h, ac, bu, x, n, c, a, f, rfl, ho, hb, hn, hnc, hcm⟩
  have HB_1 := Lib.hid (thru1 (Below.refl _ _) hb)
  have z1 : w.heap.size + 1 ≤ w1.heap.size := by have := hb.size; simp at this; omega
  have R_1 := Lib.hid ((Blk.new_at (w.heap.size) rfl).below hb)
  have B_1 := Lib.hid (((B_0.out.alloc _).below hb).now)
  have RW_1 : Hid (OwnIn w1 (w.heap.size + 1) w1.heap.size a n f) := (ho.mono (by simp)).into
  clear hb ho B_0
  go_wp2_with fail
  have HB_2 := Lib.hid (HB_1.out.alloc HB_1.out.size (.cells #[.int .i64 h, .slice a n c, .int .i64 ac, .int .i64 bu] 26))
  have R_2 := Lib.hid (R_1.out.alloc (.cells #[.int .i64 h, .slice a n c, .int .i64 ac, .int .i64 bu] 26))
  have B_2 := Lib.hid (B_1.out.alloc (.cells #[.int .i64 h, .slice a n c, .int .i64 ac, .int .i64 bu] 26))
  have RW_2 := Lib.hid (RW_1.out.alloc (.cells #[.int .i64 h, .slice a n c, .int .i64 ac, .int .i64 bu] 26))
  have T_2 : Hid (Blk (w1.alloc (.cells #[.int .i64 h, .slice a n c, .int .i64 ac, .int .i64 bu] 26)) w1.heap.size [.int .i64 h, .slice a n c, .int .i64 ac, .int .i64 bu]) := Blk.new_at (w1.heap.size) rfl
  clear HB_1 R_1 B_1 RW_1
  go_region_held3 (fun w' => w'.cell? ⟨w1.heap.size, 0, none⟩ = some (.int .i64 h) ∧ w'.cell? ⟨w1.heap.size, 1, none⟩ = some (.slice a n c) ∧ w'.cell? ⟨w1.heap.size, 2, none⟩ = some (.int .i64 ac) ∧ w'.cell? ⟨w1.heap.size, 3, none⟩ = some (.int .i64 bu))
    (first | with_reducible exact ⟨T_2.out.drew.at 0 rfl, T_2.out.drew.at 1 rfl, T_2.out.drew.at 2 rfl, T_2.out.drew.at 3 rfl⟩ | with_reducible exact ⟨(T_2.out.alloc _).drew.at 0 rfl, (T_2.out.alloc _).drew.at 1 rfl, (T_2.out.alloc _).drew.at 2 rfl, (T_2.out.alloc _).drew.at 3 rfl⟩ | with_reducible exact ⟨((T_2.out.alloc _).alloc _).drew.at 0 rfl, ((T_2.out.alloc _).alloc _).drew.at 1 rfl, ((T_2.out.alloc _).alloc _).drew.at 2 rfl, ((T_2.out.alloc _).alloc _).drew.at 3 rfl⟩ | with_reducible exact ⟨T_3.out.at 0 rfl, T_3.out.at 1 rfl, T_3.out.at 2 rfl, T_3.out.at 3 rfl⟩ | with_reducible exact ⟨((((T_3.out.other (by (try simp); (try omega)) _).other (by (try simp); (try omega)) _).other (by (try simp); (try omega)) _).other (by (try simp); (try omega)) _).at 0 rfl, ((((T_3.out.other (by (try simp); (try omega)) _).other (by (try simp); (try omega)) _).other (by (try simp); (try omega)) _).other (by (try simp); (try omega)) _).at 1 rfl, ((((T_3.out.other (by (try simp); (try omega)) _).other (by (try simp); (try omega)) _).other (by (try simp); (try omega)) _).other (by (try simp); (try omega)) _).at 2 rfl, ((((T_3.out.other (by (try simp); (try omega)) _).other (by (try simp); (try omega)) _).other (by (try simp); (try omega)) _).other (by (try simp); (try omega)) _).at 3 rfl⟩)
    (first | (go_at_call 46; refine (later_any ca k kc _).mono ?_; rintro e w' ⟨rfl, rfl⟩) | (go_at_call 45; (with_reducible refine (pick_any (w1.heap.size + 1) w1.heap.size (w1.heap.size + 1 + 1) ca k kc 19 6 B lw _ (((blk_later (w1.heap.size + 1) (by simp)).alloc _).drew) (((B_2.out.alloc _).alloc _).drew) (by omega) hk0 (by omega) (by omega) (by omega) ((src_lit _ (w1.heap.size + 1 + 1) 6 _ lw (by simp) lw_at).drew) (by omega)).mono ?_); rintro e w3 ⟨i3, rfl, _, hB, hk⟩; have HB_3 := Lib.hid (((((HB_2.out.alloc HB_2.out.size _).alloc (by have := HB_2.out.size; simp; omega) _).drew)).trans (hk.below (by omega) (by have := HB_2.out.size; simp; omega))); have R_3 := Lib.hid ((((R_2.out.alloc _).alloc _).drew).keeps hk (by omega)); have T_3 := Lib.hid ((((T_2.out.alloc _).alloc _).drew).keeps hk (by omega)); have RW_3 := Lib.hid ((((RW_2.out.alloc _).alloc _).drew).keeps hk (by omega)); have y3 : w1.heap.size < w3.heap.size := T_3.out.1; have lR := R_3.out.1; have cR0 := R_3.out.at 0 rfl; have fR0 := R_3.out.free 0 rfl; have cR1 := R_3.out.at 1 rfl; have fR1 := R_3.out.free 1 rfl; have cR2 := R_3.out.at 2 rfl; have fR2 := R_3.out.free 2 rfl; have cR3 := R_3.out.at 3 rfl; have fR3 := R_3.out.free 3 rfl; clear hk hB) | (go_at_call 45; (with_reducible refine (pick_any (w1.heap.size + 1 + 1) w1.heap.size (w1.heap.size + 1) ca k kc 19 6 B lw _ ((blk_later (w1.heap.size + 1 + 1) (by simp)).drew) (((B_2.out.alloc _).alloc _).drew) (by omega) hk0 (by omega) (by omega) (by omega) (((src_lit _ (w1.heap.size + 1) 6 _ lw (by simp) lw_at).alloc _).drew) (by omega)).mono ?_); rintro e w3 ⟨i3, rfl, _, hB, hk⟩; have HB_3 := Lib.hid (((((HB_2.out.alloc HB_2.out.size _).alloc (by have := HB_2.out.size; simp; omega) _).drew)).trans (hk.below (by omega) (by have := HB_2.out.size; simp; omega))); have R_3 := Lib.hid ((((R_2.out.alloc _).alloc _).drew).keeps hk (by omega)); have T_3 := Lib.hid ((((T_2.out.alloc _).alloc _).drew).keeps hk (by omega)); have RW_3 := Lib.hid ((((RW_2.out.alloc _).alloc _).drew).keeps hk (by omega)); have y3 : w1.heap.size < w3.heap.size := T_3.out.1; have lR := R_3.out.1; have cR0 := R_3.out.at 0 rfl; have fR0 := R_3.out.free 0 rfl; have cR1 := R_3.out.at 1 rfl; have fR1 := R_3.out.free 1 rfl; have cR2 := R_3.out.at 2 rfl; have fR2 := R_3.out.free 2 rfl; have cR3 := R_3.out.at 3 rfl; have fR3 := R_3.out.free 3 rfl; clear hk hB))
  all_goals
    go_wp2
    refine bodyPost_ret (v := .tuple #[.agg #[.int .i64 h, .slice a n c, .int .i64 ac, .int .i64 bu], .int .i64 x, .int .i64 (lw i3)]) (by simp [results, Try.results14, go_sem, cR0, cR1, cR2, cR3]) rfl ⟨_, _, _, _, _, _, _, a, f, rfl, ?_, ?_, hn, hnc, hcm⟩
    · refine Own.mono (B := w.heap.size + 1) ?_ (by omega)
      repeat (with_reducible refine Own.setCell ?_ (by (try simp); (try omega)) _)
      exact (RW_3.out.widen (Nat.le_refl _) (Nat.le_refl _)).out
    · repeat (with_reducible refine Below.setCell ?_ (by (try simp); (try omega)) _)
      exact HB_3.out

end Go.Proofs.Ythejbgmhfajcpaa
