/- Draws: DrawReadHead. -/
import Derived.Test.YtflhjbcpffhanaaD3
import Derived.Deep.Cut
import Derived.Deep.RegionLaw
namespace Go.Proofs.Ytflhjbcpffhanaa
open Go.RowKit
set_option linter.unusedVariables false

/-- One or two words are drawn, in memory of the call's own. -/
def RetRow (W : World) (e : Ending) (w' : World) : Prop :=
  ∃ (q n : Nat) (f : Nat → Int), e = .returned (.slice (some ⟨q, 0, none⟩) n 2) ∧ (n = 1 ∨ n = 2) ∧ Own w' W.heap.size (some ⟨q, 0, none⟩) n f ∧ Below W.heap.size W w' ∧ ∀ i, i < n → f i ≤ 9223372036854775807

theorem of_blk (l : List Int) (b S q : Nat) (ca : Option Addr) (k kc t n : Nat) (B : Nat → Int) (V : World) (hB : Blk V b [.slice ca k kc, .int .i64 (t : Int)]) (hs : SrcB V S ca k B) (hS : S ≤ b) (hk : k ≤ 1048576) (ht : t ≤ 10000)
    (hn : n = l.length) (hl1 : 1 ≤ l.length) (hl2 : l.length ≤ 200) (hq : Src V (some ⟨q, 0, none⟩) n (fun i => l.getD i 0)) (hqb : q ≠ b) :
    Calls Try.prog 44 #[.pointer (some ⟨b, 0, none⟩), .slice (some ⟨q, 0, none⟩) n n] V (RetOf V b ca k kc t l) := by
  subst hn
  refine (pick_any b S q ca k kc t l.length B (fun i => l.getD i 0) _ hB hs hS hk ht hl1 hl2 hq hqb).mono ?_
  rintro e w' ⟨i, rfl, hi, hB', hk'⟩
  exact ⟨_, rfl, by simp [hi], hB', hk'⟩
/-- The number in a cell. -/
def val (w : World) (a : Addr) : Int := match w.cell? a with | some (.int _ x) => x | _ => 0
theorem val_eq {w : World} {a : Addr} {x : Int} (h : w.cell? a = some (.int .i64 x)) : val w a = x := by unfold val; rw [h]
theorem val_ok {w : World} {a : Addr} {x : Int} (h : w.cell? a = some (.int .i64 x)) : w.cell? a = some (.int .i64 (val w a)) := by rw [val_eq h]; exact h
theorem own_one {w : World} {B : Nat} {a : Option Addr} {f : Nat → Int} (h : Own w B a 2 f) : Own w B a 1 f := by
  rcases h with h | ⟨b, off, h1, h2, h3, h4⟩
  · omega
  · exact .inr ⟨b, off, h1, h2, h3, fun i hi => h4 i (by omega)⟩

set_option maxHeartbeats 3200000 in
theorem drawRH_any (ca : Option Addr) (k kc : Nat) (B : Nat → Int) (w : World) (hs : SrcB w w.heap.size ca k B) (hk0 : k ≤ 1048576) :
    Calls Try.prog 14 #[.slice ca k kc] w (RetRow w) := by
  have hS0 := Lib.hid hs
  clear hs
  go_enter Try.func14, Try.ntmps14
  go_wp2_with fail
  refine (source_any ca k kc _).mono ?_
  rintro e w' ⟨rfl, rfl⟩
  have HW : Hid (Below w.heap.size w (w.alloc (.cells #[.slice ca k kc, .int .i64 0] 76))) := ((Below.refl _ _).alloc (Nat.le_refl _) _)
  have S_0 : Hid (Blk (w.alloc (.cells #[.slice ca k kc, .int .i64 0] 76)) w.heap.size [.slice ca k kc, .int .i64 ((0 : Nat) : Int)]) := Blk.new_at w.heap.size (by simp)
  have B_0 : Hid (SrcB (w.alloc (.cells #[.slice ca k kc, .int .i64 0] 76)) w.heap.size ca k B) := (hS0.out.alloc _)
  have HK_0 : Hid (Keeps (w.alloc (.cells #[.slice ca k kc, .int .i64 0] 76)) (w.alloc (.cells #[.slice ca k kc, .int .i64 0] 76)) w.heap.size (w.heap.size + 1)) := Keeps.refl _ _ _
  have za : w.heap.size + 1 ≤ (w.alloc (.cells #[.slice ca k kc, .int .i64 0] 76)).heap.size := by simp
  have hS : w.heap.size ≤ w.heap.size := by omega
  clear hS0
  generalize w.alloc (.cells #[.slice ca k kc, .int .i64 0] 76) = wa at *
  go_wp2_with fail
  refine (l2Draw_any w.heap.size w.heap.size ca k kc 0 B _ S_0.out B_0.out hS hk0 (by omega)).mono ?_
  rintro e w1 ⟨s, m, o, h, rfl, hok, hB, hk⟩
  have z1 : wa.heap.size ≤ w1.heap.size := hk.size
  have HK_1 := Lib.hid (HK_0.out.trans hk)
  have S_1 := Lib.hid (hB)
  have B_1 := Lib.hid (B_0.out.keeps hk hS)
  clear hk hB S_0 B_0 HK_0
  go_wp2_with fail
  have lT1 : w.heap.size + 1 ≤ w1.heap.size := by omega
  refine (l2Pack_any (w1.heap.size) s m o h _ (Blk.new_at (w1.heap.size) rfl) hok).mono ?_
  rintro e w2 ⟨rfl, hq, hb⟩
  have z2 : w1.heap.size + 1 ≤ w2.heap.size := by have := hb.size; simp at this; omega
  have HK_2 : Hid (Keeps wa w2 w.heap.size (w.heap.size + 1)) := (HK_1.out.alloc _).trans (keeps_of_below hb _ _)
  have S_2 := Lib.hid ((S_1.out.alloc _).below hb)
  have B_2 := Lib.hid ((B_1.out.alloc _).below hb)
  have Q_2 : Hid (Blk w2 (w1.heap.size + 1) [.int .i64 (1 + 2 * (s + 16 * (m + 4096 * o))), .int .i64 h]) := Lib.hid (by simpa using hq)
  obtain ⟨⟨q1, q2⟩, ⟨q3, q4⟩, ⟨q5, q6⟩, q7, q8⟩ := hok
  have q9 := P2_le q2
  have q4' : m ≤ 4095 := by omega
  clear q4 q9 hq hb HK_1 S_1 B_1
  go_wp2_with fail
  refine (next_is 7 w.heap.size w.heap.size ca k kc (0 + 1 + 1 + 1 + 1) 7 B _ rfl S_2.out B_2.out hS hk0 (by omega) (by omega) (by omega)).mono ?_
  rintro e w3 ⟨v, rfl, hv, hB, hk⟩
  have z3 : w2.heap.size ≤ w3.heap.size := hk.size
  have HK_3 := Lib.hid (HK_2.out.trans hk)
  have S_3 := Lib.hid ((src_cast hB))
  have B_3 := Lib.hid (B_2.out.keeps hk hS)
  have Q_3 := Lib.hid (Q_2.out.keeps hk (by omega))
  clear hk hB HK_2 S_2 B_2 Q_2
  have lQ := Q_3.out.1
  rcases (by omega : v = 0 ∨ v = 1 ∨ v = 2 ∨ 3 ≤ v) with hv0 | hv0 | hv0 | hv0
  · have d0 : ((v : Int) == 0) = true := by simp; omega
    have d1 : ((v : Int) == 1) = false := by simp; omega
    have d2 : ((v : Int) == 2) = false := by simp; omega
    have Qd := Lib.hid Q_3.out.drew
    have Sd := Lib.hid S_3.out.drew
    have Bd := Lib.hid B_3.out.drew
    have HKd := Lib.hid HK_3.out.drew
    go_upto_region 6 with (fail)
    have cQ0 := Q_3.out.at 0 rfl
    have fQ0' := Q_3.out.free 0 rfl
    have hw1 : IntKind.i64.wrap ((1 + 2 * (s + 16 * (m + 4096 * o))) + 1) = (1 + 2 * (s + 16 * (m + 4096 * o))) + 1 := IntWalk.i64_in _ (by omega)
    have hw2 : IntKind.i64.wrap ((1 + 2 * (s + 16 * (m + 4096 * o))) + 32) = (1 + 2 * (s + 16 * (m + 4096 * o))) + 32 := IntWalk.i64_in _ (by omega)
    go_region_law (first | (go_simp; go_at_call 44; refine (of_blk [0, 2, -1, (1 + 2 * (s + 16 * (m + 4096 * o))) + 1, 999999999, (1 + 2 * (s + 16 * (m + 4096 * o))) + 32] w.heap.size w.heap.size (w3.heap.size) ca k kc (0 + 1 + 1 + 1 + 1 + 1) 6 B _ ((S_3.out.alloc _).drew) ((B_3.out.alloc _).drew) hS hk0 (by omega) rfl (by simp) (by simp) ((src_lit w3 (w3.heap.size) 6 #[.int .i64 0, .int .i64 2, .int .i64 (-1), .int .i64 ((1 + 2 * (s + 16 * (m + 4096 * o))) + 1), .int .i64 999999999, .int .i64 ((1 + 2 * (s + 16 * (m + 4096 * o))) + 32)] _ rfl (by intro i hi; rcases (by omega : i = 0 ∨ i = 1 ∨ i = 2 ∨ i = 3 ∨ i = 4 ∨ i = 5) with rfl | rfl | rfl | rfl | rfl | rfl <;> rfl)).drew) (by omega)).mono ?_; rintro e w4 ⟨x, rfl, mx, hB, hk⟩; have hx : x ≤ 2000000000 := (by simp only [List.mem_cons, List.mem_nil_iff, or_false] at mx; omega); have Q_4 := Lib.hid (((Q_3.out.alloc _).drew).keeps hk (by omega)); have HK_4 := Lib.hid (((HK_3.out.alloc _).drew).trans hk); have z4 : w3.heap.size + 1 ≤ w4.heap.size := (by have := hk.size; simp at this; omega); have cQ4 := Q_4.out.at 0 rfl; have fQ4 := Q_4.out.free 0 rfl; clear hk hB mx))
    · have zw := HW.out.size
      go_wp2
      go_ret
      refine ⟨w1.heap.size + 1, 2, two x h, rfl, by omega, ?_, ?_, ?_⟩
      · exact own_two (Q_4.out.set 0 (by simp) _) (by omega)
      · exact HW.out.trans ((HK_4.out.setNew (by (try simp); (try omega)) _).below (by omega) (by omega))
      · intro i hi; rcases (by omega : i = 0 ∨ i = 1) with rfl | rfl <;> simp [two] <;> omega
    · have zw := HW.out.size
      go_wp2
      go_ret
      refine ⟨w1.heap.size + 1, 2, two x h, rfl, by omega, ?_, ?_, ?_⟩
      · exact own_two (Q_4.out.set 0 (by simp) _) (by omega)
      · exact HW.out.trans ((HK_4.out.setNew (by (try simp); (try omega)) _).below (by omega) (by omega))
      · intro i hi; rcases (by omega : i = 0 ∨ i = 1) with rfl | rfl <;> simp [two] <;> omega
  · have d0 : ((v : Int) == 0) = false := by simp; omega
    have d1 : ((v : Int) == 1) = true := by simp; omega
    have d2 : ((v : Int) == 2) = false := by simp; omega
    go_wp2_with fail
    refine (of_any [-1, 100000] w.heap.size w.heap.size _ ca k kc (0 + 1 + 1 + 1 + 1 + 1) 2 B _ _ S_3.out B_3.out hS hk0 (by omega) rfl (by simp) (by simp) rfl (by simp)).mono ?_
    rintro e w4 ⟨x, rfl, mx, hB, hk⟩
    have z4 : w3.heap.size + 1 ≤ w4.heap.size := by have := hk.size; simp at this; omega
    have HK_4 := Lib.hid ((HK_3.out.alloc _).trans hk)
    have S_4 := Lib.hid ((src_cast hB))
    have B_4 := Lib.hid ((B_3.out.alloc _).keeps hk hS)
    have Q_4 := Lib.hid ((Q_3.out.alloc _).keeps hk (by omega))
    clear hk hB HK_3 S_3 B_3 Q_3
    have hx : x ≤ 100000 := by simp only [List.mem_cons, List.mem_nil_iff, or_false] at mx; omega
    clear mx
    have lQ' := Q_4.out.1; have cQ1 := Q_4.out.at 1 rfl; have fQ1 := Q_4.out.free 1 rfl
    have zw := HW.out.size
    go_wp2
    go_ret
    refine ⟨w1.heap.size + 1, 2, two (1 + 2 * (s + 16 * (m + 4096 * o))) x, rfl, by omega, ?_, ?_, ?_⟩
    · exact own_two (Q_4.out.set 1 (by simp) _) (by omega)
    · exact HW.out.trans ((HK_4.out.setNew (by (try simp); (try omega)) _).below (by omega) (by omega))
    · intro i hi; rcases (by omega : i = 0 ∨ i = 1) with rfl | rfl <;> simp [two] <;> omega
  · have d0 : ((v : Int) == 0) = false := by simp; omega
    have d1 : ((v : Int) == 1) = false := by simp; omega
    have d2 : ((v : Int) == 2) = true := by simp; omega
    have zw := HW.out.size
    go_wp2
    go_ret
    refine ⟨w1.heap.size + 1, 1, two (1 + 2 * (s + 16 * (m + 4096 * o))) h, rfl, by omega, ?_, ?_, ?_⟩
    · exact own_one (own_two Q_3.out (by omega))
    · exact HW.out.trans (HK_3.out.below (by omega) (by omega))
    · intro i hi; obtain rfl : i = 0 := (by omega); simp [two]; omega
  · have d0 : ((v : Int) == 0) = false := by simp; omega
    have d1 : ((v : Int) == 1) = false := by simp; omega
    have d2 : ((v : Int) == 2) = false := by simp; omega
    have zw := HW.out.size
    go_wp2
    go_ret
    refine ⟨w1.heap.size + 1, 2, two (1 + 2 * (s + 16 * (m + 4096 * o))) h, rfl, by omega, ?_, ?_, ?_⟩
    · exact own_two Q_3.out (by omega)
    · exact HW.out.trans (HK_3.out.below (by omega) (by omega))
    · intro i hi; rcases (by omega : i = 0 ∨ i = 1) with rfl | rfl <;> simp [two] <;> omega

end Go.Proofs.Ytflhjbcpffhanaa
