/- Contracts: Clone, l1Ints, Grow, Concat. -/
import Derived.Test.YthejbgmhfajcpaaA2
import Derived.Lib.AppendZeros
import Derived.Lib.SliceRun
import Derived.Lib.Walk
namespace Go.Proofs.Ythejbgmhfajcpaa
open Go.RowKit

theorem src_some {w : World} {a : Option Addr} {n : Nat} {f : Nat → Int} (h : Src w a n f) (hp : 0 < n) : ∃ b off, a = some ⟨b, off, none⟩ ∧ b < w.heap.size ∧ ∀ i, i < n → w.cell? ⟨b, off + i, none⟩ = some (.int .i64 (f i)) := by
  rcases h with h | h
  · omega
  · exact h
theorem src_at {w : World} {b off n : Nat} {f : Nat → Int} (h : Src w (some ⟨b, off, none⟩) n f) : ∀ i, i < n → w.cell? ⟨b, off + i, none⟩ = some (.int .i64 (f i)) := fun i hi => h.at i hi
theorem news_at {w : World} {b off n : Nat} {f : Nat → Int} (hc : ∀ i, i < n → w.cell? ⟨b, off + i, none⟩ = some (.int .i64 (f i))) : ∀ (j : Nat) (u : Value), (nums n f)[j]? = some u → w.cell? ((⟨b, off, none⟩ : Addr).add j) = some u := by
  intro j u h
  by_cases hj : j < n
  · rw [nums_get _ _ _ hj] at h
    simp only [Option.some.injEq] at h
    subst h
    rcases j with _ | j
    · simpa [Addr.add] using hc 0 hj
    · simpa [Addr.add] using hc (j + 1) hj
  · rw [List.getElem?_eq_none (by simp [nums]; omega)] at h; simp at h

set_option maxHeartbeats 400000 in
theorem l1Ints_any (a : Option Addr) (n cap : Nat) (f : Nat → Int) (w : World) (hs : Src w a n f) (hp : 0 < n) (hn : n ≤ 1048576) :
    Calls Try.prog 74 #[.slice a n cap] w (RetInts w n f) := by
  obtain ⟨i0, hi, hz0, hz1, hz2⟩ := info_parts Try.info2
  obtain ⟨b, off, rfl, hb, hc⟩ := src_some hs hp
  have hc' : ∀ (j : Nat) (u : Value), (nums n f)[j]? = some u → (w.alloc (.cells #[] 2)).cell? ((⟨b, off, none⟩ : Addr).add j) = some u := fun j u h => by
    have := news_at hc j u h
    exact (((Below.refl w.heap.size w).alloc (Nat.le_refl _) _).cell (p := (⟨b, off, none⟩ : Addr).add j) (by rcases j with _ | j <;> simpa [Addr.add] using hb)).trans this
  have HC := Lib.hid hc'
  clear hc' hc hs
  go_enter Try.func74, Try.ntmps74
  go_wp2_with (at_builtin; refine wpList_append_own _ rfl _ _ 24 rfl w.heap.size 2 i0 (.int .i64 0) 1 8 Try.underlying24 hi hz0 hz1 hz2 rfl (by decide) _ 0 [] rfl (World.ownsRow_lit w #[] 0 (Nat.le_refl _) (by simp [maxLen]) rfl) ⟨b, off, none⟩ n cap (nums n f) rfl (by simp [nums]) HC.out (nums_one n f) (by unfold maxLen; omega) (by omega) (by simp) ?_; intro v' w1 hown hgrow _)
  go_ret
  exact retInts_of_row (e := 2) (by simpa using hown) (((Below.refl _ _).alloc (Nat.le_refl _) _).grown hgrow (by simp) (by intro k hk; cases hk; exact Nat.le_refl _))

set_option maxHeartbeats 400000 in
theorem clone_any (a : Option Addr) (n cap : Nat) (f : Nat → Int) (w : World) (hs : Src w a n f) (hp : 0 < n) (hn : n ≤ 1048576) :
    Calls Try.prog 71 #[.slice a n cap] w (RetInts w n f) := by
  obtain ⟨i0, hi, hz0, hz1, hz2⟩ := info_parts Try.info2
  obtain ⟨b, off, rfl, hb, hc⟩ := src_some hs hp
  have hc' : ∀ (j : Nat) (u : Value), (nums n f)[j]? = some u → (w.alloc (.cells #[] 2)).cell? ((⟨b, off, none⟩ : Addr).add j) = some u := fun j u h => by
    have := news_at hc j u h
    exact (((Below.refl w.heap.size w).alloc (Nat.le_refl _) _).cell (p := (⟨b, off, none⟩ : Addr).add j) (by rcases j with _ | j <;> simpa [Addr.add] using hb)).trans this
  have HC := Lib.hid hc'
  clear hc' hc hs
  have hnil := fun (w : World) (a : Option Addr) (n c : Nat) => Lib.run_eql_slice_nil (P := Try.prog) w 24 2 a n c 0 0 Try.underlying24
  go_enter Try.func71, Try.ntmps71
  go_wp2_with (at_builtin; refine wpList_append_own _ rfl _ _ 24 rfl w.heap.size 2 i0 (.int .i64 0) 1 8 Try.underlying24 hi hz0 hz1 hz2 rfl (by decide) _ 0 [] rfl (World.ownsRow_lit w #[] 0 (Nat.le_refl _) (by simp [maxLen]) rfl) ⟨b, off, none⟩ n cap (nums n f) rfl (by simp [nums]) HC.out (nums_one n f) (by unfold maxLen; omega) (by omega) (by simp) ?_; intro v' w1 hown hgrow _)
  go_ret
  exact retInts_of_row (e := 2) (by simpa using hown) (((Below.refl _ _).alloc (Nat.le_refl _) _).grown hgrow (by simp) (by intro k hk; cases hk; exact Nat.le_refl _))

/-- Grow of nothing: an empty row with room. -/
def RetEmpty (W : World) (e : Ending) (w' : World) : Prop :=
  ∃ v, e = .returned v ∧ w'.ownsRow W.heap.size 2 1 v 0 [] ∧ v.ownBlock = some W.heap.size ∧ Below W.heap.size W w' ∧ W.heap.size < w'.heap.size
set_option maxHeartbeats 400000 in
theorem grow_any (n : Nat) (w : World) (hp : 0 < n) (hn : n ≤ 1048576) :
    Calls Try.prog 76 #[.slice none 0 0, .int .i64 n] w (RetEmpty w) := by
  obtain ⟨i0, hi, hz0, hz1, hz2⟩ := info_parts Try.info2
  have hr := fun ty => Lib.run_append_nil_zeros (P := Try.prog) w 24 3 ty 2 i0 (.int .i64 0) .i64 .i64 Try.underlying24 Try.underlying3 hi hz0 n hp (by omega) (by omega) (by rw [hz2]; omega)
  have hg := grownCap_ge w n 0 2
  have hm := grownCap_le_maxLen w n 0 2 (by unfold maxLen; omega)
  obtain ⟨G, hG⟩ : ∃ G, G = grownCap w n 0 2 := ⟨_, rfl⟩
  rw [← hG] at hr hg hm
  unfold maxLen at hm
  clear hG
  have hg0 : 0 < G := by omega
  go_enter Try.func76, Try.ntmps76
  go_wp2_with (at_builtin; refine Lib.wpList_append_run _ rfl _ _ _ _ rfl _ _ rfl rfl _ _ (hr _) ?_)
  go_ret
  refine ⟨_, rfl, ?_, ?_, (Below.refl _ _).drew.alloc (Nat.le_refl _) _, by simp⟩
  · exact World.ownsRow_made w.drew _ G (Nat.le_refl _) (by unfold maxLen; omega) (by simp [size_zeroCells]; omega)
  · rfl
/-- Both rows, one behind the other. -/
def cat (n : Nat) (f g : Nat → Int) : Nat → Int := fun i => if i < n then f i else g (i - n)

set_option maxHeartbeats 800000 in
theorem concat_any (b : Nat) (a1 a2 : Option Addr) (n1 n2 c1 c2 : Nat) (f g : Nat → Int) (w : World) (hb : b < w.heap.size)
    (h1 : w.cell? ⟨b, 0, none⟩ = some (.slice a1 n1 c1)) (h2 : w.cell? ⟨b, 1, none⟩ = some (.slice a2 n2 c2))
    (s1 : Src w a1 n1 f) (s2 : Src w a2 n2 g) (hp1 : 0 < n1) (hp2 : 0 < n2) (hn1 : n1 ≤ 524288) (hn2 : n2 ≤ 524288) :
    Calls Try.prog 72 #[.slice (some ⟨b, 0, none⟩) 2 2] w (RetInts w (n1 + n2) (cat n1 f g)) := by
  obtain ⟨i0, hi, hz0, hz1, hz2⟩ := info_parts Try.info2
  obtain ⟨b1, o1, rfl, hb1, hc1⟩ := src_some s1 hp1
  obtain ⟨b2, o2, rfl, hb2, hc2⟩ := src_some s2 hp2
  have S1 := Lib.hid s1
  have S2 := Lib.hid s2
  clear s1 s2 hc1 hc2
  go_enter Try.func72, Try.ntmps72
  go_wp2
  refine wp_loop_rounds 3 ?_
  rw [rounds_succ]
  go_wp2
  rw [rounds_succ]
  go_wp2
  rw [rounds_succ]
  go_wp2_with (go_at_call 76; refine (grow_any (n1 + n2) _ (by omega) (by omega)).mono ?_; rintro e w1 ⟨v, rfl, ho, hbk, hbel, hsz⟩)
  have HO := Lib.hid ho
  have HBK := Lib.hid hbk
  have h1' := (hbel.cell (p := ⟨b, 0, none⟩) hb).trans h1
  have h2' := (hbel.cell (p := ⟨b, 1, none⟩) hb).trans h2
  have HB := Lib.hid hbel
  have hsz' : w.heap.size ≤ w1.heap.size := by omega
  clear ho hbk h1 hbel
  have S1' := Lib.hid (news_at (src_at (S1.out.below HB.out)))
  refine wp_loop_rounds 3 ?_
  rw [rounds_succ]
  go_wp2_with (at_builtin; refine wpList_append_own _ rfl (.tmp 31) (.tmp 32) 24 rfl w.heap.size 2 i0 (.int .i64 0) 1 8 Try.underlying24 hi hz0 hz1 hz2 rfl (by decide) v 0 [] rfl HO.out ⟨b1, o1, none⟩ n1 c1 (nums n1 f) rfl (by simp [nums]) S1'.out (nums_one n1 f) (by unfold maxLen; omega) (by omega) hsz' ?_; intro v2 w2 hown hgrow _)
  have hbel2 : Below w.heap.size w w2 := HB.out.grown hgrow hsz' (by intro k hk; rw [HBK.out] at hk; cases hk; exact Nat.le_refl _)
  simp only [Nat.zero_add, List.nil_append] at hown
  have S2' := Lib.hid (news_at (src_at (S2.out.below hbel2)))
  have h2'' := (hbel2.cell (p := ⟨b, 1, none⟩) hb).trans h2
  have hsz2 : w.heap.size ≤ w2.heap.size := hbel2.size
  have HO2 := Lib.hid hown
  have HB2 := Lib.hid hbel2
  clear hown hgrow hbel2 h1' h2' h2
  rw [rounds_succ]
  go_wp2_with (at_builtin; refine wpList_append_own _ rfl (.tmp 31) (.tmp 32) 24 rfl w.heap.size 2 i0 (.int .i64 0) 1 8 Try.underlying24 hi hz0 hz1 hz2 rfl (by decide) v2 n1 (nums n1 f) rfl HO2.out ⟨b2, o2, none⟩ n2 c2 (nums n2 g) rfl (by simp [nums]) S2'.out (nums_one n2 g) (by unfold maxLen; omega) (by omega) hsz2 ?_; intro v3 w3 hown hgrow _)
  have hbel3 : Below w.heap.size w w3 := HB2.out.grown hgrow hsz2 (fun k hk => (HO2.out.lt k hk).1)
  have HO3 := Lib.hid hown
  have HB3 := Lib.hid hbel3
  clear hown hgrow hbel3 h2''
  rw [rounds_succ]
  go_wp2
  go_ret
  have h := HO3.out
  rw [nums_append] at h
  exact retInts_of_row (e := 2) h HB3.out
end Go.Proofs.Ythejbgmhfajcpaa
