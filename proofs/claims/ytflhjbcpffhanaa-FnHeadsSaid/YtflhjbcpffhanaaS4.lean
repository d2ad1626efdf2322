/- Draws: l1Next, l1Pick. -/
import Derived.Test.YtflhjbcpffhanaaS3
namespace Go.Proofs.Ytflhjbcpffhanaa
open Go.RowKit
set_option linter.unusedVariables false

/-- The bytes of a code, in a block below S. -/
def SrcB (w : World) (S : Nat) (a : Option Addr) (k : Nat) (B : Nat → Int) : Prop :=
  k = 0 ∨ ∃ b off, a = some ⟨b, off, none⟩ ∧ b < S ∧ b < w.heap.size ∧ ∀ i, i < k → w.cell? ⟨b, off + i, none⟩ = some (.int .u8 (B i)) ∧ 0 ≤ B i ∧ B i ≤ 255

theorem SrcB.keeps {w w' : World} {S lo hi : Nat} {a : Option Addr} {k : Nat} {B : Nat → Int} (h : SrcB w S a k B) (hk : Keeps w w' lo hi) (hS : S ≤ lo) : SrcB w' S a k B := by
  rcases h with h | ⟨b, off, h1, h2, h3, h4⟩
  · exact .inl h
  · have e := hk.block b h3 (.inl (by omega))
    exact .inr ⟨b, off, h1, h2, Nat.lt_of_lt_of_le h3 hk.size, fun i hi => ⟨(World.cell?_of_block (w := w) (a := ⟨b, off + i, none⟩) e).trans (h4 i hi).1, (h4 i hi).2⟩⟩

theorem SrcB.below {w w' : World} {S : Nat} {a : Option Addr} {k : Nat} {B : Nat → Int} (h : SrcB w S a k B) (hb : Below w.heap.size w w') : SrcB w' S a k B := by
  rcases h with h | ⟨b, off, h1, h2, h3, h4⟩
  · exact .inl h
  · exact .inr ⟨b, off, h1, h2, Nat.lt_of_lt_of_le h3 hb.size, fun i hi => ⟨(hb.cell (p := ⟨b, off + i, none⟩) h3).trans (h4 i hi).1, (h4 i hi).2⟩⟩

theorem SrcB.alloc {w : World} {S : Nat} {a : Option Addr} {k : Nat} {B : Nat → Int} (h : SrcB w S a k B) (o : Obj) : SrcB (w.alloc o) S a k B := h.below ((Below.refl _ _).alloc (Nat.le_refl _) o)

theorem SrcB.drew {w : World} {S : Nat} {a : Option Addr} {k : Nat} {B : Nat → Int} (h : SrcB w S a k B) : SrcB w.drew S a k B := h.below (Below.refl _ _).drew

/-- A number below n is drawn; the source's block alone is written. -/
def RetNext (W : World) (b : Nat) (ca : Option Addr) (k kc t n : Nat) (e : Ending) (w' : World) : Prop :=
  ∃ v : Nat, e = .returned (.int .i64 (v : Int)) ∧ v < n ∧ Blk w' b [.slice ca k kc, .int .i64 ((t : Int) + 1)] ∧ Keeps W w' b (b + 1)

theorem retNext_of {W w' : World} {b : Nat} {ca : Option Addr} {k kc t n : Nat} {x : Int} (h0 : 0 ≤ x) (h1 : x < (n : Int)) (hB : Blk w' b [.slice ca k kc, .int .i64 ((t : Int) + 1)]) (hk : Keeps W w' b (b + 1)) :
    RetNext W b ca k kc t n (.returned (.int .i64 x)) w' := ⟨x.toNat, by rw [Int.toNat_of_nonneg h0], by omega, hB, hk⟩

set_option maxHeartbeats 400000 in
theorem next_nil (b S : Nat) (ca : Option Addr) (kc t n : Nat) (w : World) (hB : Blk w b [.slice ca 0 kc, .int .i64 (t : Int)]) (ht : t ≤ 10000) (h1 : 1 ≤ n) (h2 : n ≤ 5000) :
    Calls Try.prog 43 #[.pointer (some ⟨b, 0, none⟩), .int .i64 (n : Int)] w (RetNext w b ca 0 kc t n) := by
  have p0 := hB.at 0 rfl; have p1 := hB.at 1 rfl; have q1 := hB.free 1 rfl
  have HB := Lib.hid hB
  have hn : (n : Int) ≠ 0 := by omega
  have e1 : ((t : Int) + 1 - 1) = t := by omega
  clear hB
  go_enter Try.func43, Try.ntmps43
  go_wp2
  go_ret
  refine retNext_of (Int.emod_nonneg _ hn) (Int.emod_lt_of_pos _ (by omega)) (HB.out.set 1 (by simp) _) (keeps_setCell (Nat.le_refl _) (by simp) _)

set_option maxHeartbeats 800000 in
theorem next_some (b S : Nat) (ca : Option Addr) (k kc t n : Nat) (B : Nat → Int) (w : World) (hB : Blk w b [.slice ca k kc, .int .i64 (t : Int)]) (hs : SrcB w S ca k B) (hS : S ≤ b) (hk : k ≤ 1048576) (hk0 : 0 < k) (ht : t ≤ 10000) (h1 : 1 ≤ n) (h2 : n ≤ 200) :
    Calls Try.prog 43 #[.pointer (some ⟨b, 0, none⟩), .int .i64 (n : Int)] w (RetNext w b ca k kc t n) := by
  rcases hs with hs | ⟨cb, co, rfl, hcS, hcw, hc⟩
  · omega
  have p0 := hB.at 0 rfl; have p1 := hB.at 1 rfl; have q1 := hB.free 1 rfl
  have HB := Lib.hid hB
  have hm : t % k < k := Nat.mod_lt _ hk0
  obtain ⟨hc1, hc2, hc3⟩ := hc (t % k) hm
  have hne : ¬ cb = b := by omega
  have hn : (n : Int) ≠ 0 := by omega
  have hkne : ((k : Int) == 0) = false := by simp; omega
  have hkne' : ¬ (k : Int) = 0 := by omega
  have e1 : ((t : Int) + 1 - 1) = t := by omega
  have em : ((t : Int) % (k : Int)).toNat = t % k := by rw [← Int.natCast_emod, Int.toNat_natCast]
  have em1 : (0 : Int) ≤ (t : Int) % (k : Int) := Int.emod_nonneg _ (by omega)
  have em2 : (t : Int) % (k : Int) < (k : Int) := Int.emod_lt_of_pos _ (by omega)
  have et : (t : Int).tmod (k : Int) = (t : Int) % (k : Int) := Int.tmod_eq_emod_of_nonneg (by omega)
  have ed : (t : Int).tdiv (k : Int) = (t : Int) / (k : Int) := Int.tdiv_eq_ediv_of_nonneg (by omega)
  have ed1 : (0 : Int) ≤ (t : Int) / (k : Int) := Int.ediv_nonneg (by omega) (by omega)
  have ed2 : (t : Int) / (k : Int) ≤ 10000 := by have := Int.ediv_le_self (b := (k : Int)) (a := (t : Int)) (by omega); omega
  clear hB hc
  go_enter Try.func43, Try.ntmps43
  go_wp2
  go_quiet (fail)
  go_wp2
  go_ret
  refine retNext_of (x := (B (t % k) + (t : Int) / (k : Int) * 37) % (n : Int)) (Int.emod_nonneg _ hn) (Int.emod_lt_of_pos _ (by omega)) ((HB.out.set 1 (by simp) _).below (below_drewN (Below.refl _ _) _)) ((keeps_setCell (Nat.le_refl _) (by simp) _).trans (keeps_of_below (below_drewN (Below.refl _ _) _) _ _))

set_option maxHeartbeats 800000 in
theorem next_great (b S : Nat) (ca : Option Addr) (k kc t n : Nat) (B : Nat → Int) (w : World) (hB : Blk w b [.slice ca k kc, .int .i64 (t : Int)]) (hs : SrcB w S ca k B) (hS : S ≤ b) (hk : k ≤ 1048576) (hk0 : 0 < k) (ht : t ≤ 10000) (h1 : 200 < n) (h2 : n ≤ 5000) :
    Calls Try.prog 43 #[.pointer (some ⟨b, 0, none⟩), .int .i64 (n : Int)] w (RetNext w b ca k kc t n) := by
  rcases hs with hs | ⟨cb, co, rfl, hcS, hcw, hc⟩
  · omega
  have p0 := hB.at 0 rfl; have p1 := hB.at 1 rfl; have q1 := hB.free 1 rfl
  have HB := Lib.hid hB
  have hm : t % k < k := Nat.mod_lt _ hk0
  obtain ⟨hc1, hc2, hc3⟩ := hc (t % k) hm
  have hne : ¬ cb = b := by omega
  have hn : (n : Int) ≠ 0 := by omega
  have hkne : ((k : Int) == 0) = false := by simp; omega
  have hkne' : ¬ (k : Int) = 0 := by omega
  have e1 : ((t : Int) + 1 - 1) = t := by omega
  have em : ((t : Int) % (k : Int)).toNat = t % k := by rw [← Int.natCast_emod, Int.toNat_natCast]
  have em1 : (0 : Int) ≤ (t : Int) % (k : Int) := Int.emod_nonneg _ (by omega)
  have em2 : (t : Int) % (k : Int) < (k : Int) := Int.emod_lt_of_pos _ (by omega)
  have et : (t : Int).tmod (k : Int) = (t : Int) % (k : Int) := Int.tmod_eq_emod_of_nonneg (by omega)
  have ed : (t : Int).tdiv (k : Int) = (t : Int) / (k : Int) := Int.tdiv_eq_ediv_of_nonneg (by omega)
  have ed1 : (0 : Int) ≤ (t : Int) / (k : Int) := Int.ediv_nonneg (by omega) (by omega)
  have ed2 : (t : Int) / (k : Int) ≤ 10000 := by have := Int.ediv_le_self (b := (k : Int)) (a := (t : Int)) (by omega); omega
  have hm' : (t + 1) % k < k := Nat.mod_lt _ hk0
  obtain ⟨hd1, hd2, hd3⟩ := hc ((t + 1) % k) hm'
  have fm : (((t : Int) + 1) % (k : Int)).toNat = (t + 1) % k := by
    have : ((t : Int) + 1) = ((t + 1 : Nat) : Int) := by omega
    rw [this, ← Int.natCast_emod, Int.toNat_natCast]
  have fm1 : (0 : Int) ≤ ((t : Int) + 1) % (k : Int) := Int.emod_nonneg _ (by omega)
  have fm2 : ((t : Int) + 1) % (k : Int) < (k : Int) := Int.emod_lt_of_pos _ (by omega)
  have ft : ((t : Int) + 1).tmod (k : Int) = ((t : Int) + 1) % (k : Int) := Int.tmod_eq_emod_of_nonneg (by omega)
  have hlt : (200 : Int) < (n : Int) := by omega
  clear hB hc
  go_enter Try.func43, Try.ntmps43
  go_wp2
  go_quiet (fail)
  go_wp2
  go_quiet (fail)
  go_wp2
  go_ret
  have KK : Keeps w (w.setCell ⟨b, 1, none⟩ (.int .i64 ((t : Int) + 1))) b (b + 1) := keeps_setCell (Nat.le_refl _) (Nat.lt_succ_self _) _
  refine retNext_of (x := ((B (t % k) + (t : Int) / (k : Int) * 37) * 251 + B ((t + 1) % k) * 13 + (t : Int)) % (n : Int)) (Int.emod_nonneg _ hn) (Int.emod_lt_of_pos _ (by omega)) ((HB.out.set 1 (by simp) _).below (below_drewN (Below.refl _ _) _)) (KK.trans (keeps_of_below (below_drewN (Below.refl _ _) _) _ _))

theorem next_any (b S : Nat) (ca : Option Addr) (k kc t n : Nat) (B : Nat → Int) (w : World) (hB : Blk w b [.slice ca k kc, .int .i64 (t : Int)]) (hs : SrcB w S ca k B) (hS : S ≤ b) (hk : k ≤ 1048576) (ht : t ≤ 10000) (h1 : 1 ≤ n) (h2 : n ≤ 5000) :
    Calls Try.prog 43 #[.pointer (some ⟨b, 0, none⟩), .int .i64 (n : Int)] w (RetNext w b ca k kc t n) := by
  by_cases h : k = 0
  · subst h; exact next_nil b S ca kc t n w hB ht h1 h2
  · by_cases h3 : n ≤ 200
    · exact next_some b S ca k kc t n B w hB hs hS hk (by omega) ht h1 h3
    · exact next_great b S ca k kc t n B w hB hs hS hk (by omega) ht (by omega) h2

theorem next_is (X : Int) (b S : Nat) (ca : Option Addr) (k kc t n : Nat) (B : Nat → Int) (w : World) (hX : X = (n : Int)) (hB : Blk w b [.slice ca k kc, .int .i64 (t : Int)]) (hs : SrcB w S ca k B) (hS : S ≤ b) (hk : k ≤ 1048576) (ht : t ≤ 10000) (h1 : 1 ≤ n) (h2 : n ≤ 5000) :
    Calls Try.prog 43 #[.pointer (some ⟨b, 0, none⟩), .int .i64 X] w (RetNext w b ca k kc t n) := hX ▸ next_any b S ca k kc t n B w hB hs hS hk ht h1 h2

/-- One of a list is drawn. -/
def RetPick (W : World) (b : Nat) (ca : Option Addr) (k kc t n : Nat) (L : Nat → Int) (e : Ending) (w' : World) : Prop :=
  ∃ i : Nat, e = .returned (.int .i64 (L i)) ∧ i < n ∧ Blk w' b [.slice ca k kc, .int .i64 ((t : Int) + 1)] ∧ Keeps W w' b (b + 1)

set_option maxHeartbeats 400000 in
theorem pick_any (b S q : Nat) (ca : Option Addr) (k kc t n : Nat) (B L : Nat → Int) (w : World) (hB : Blk w b [.slice ca k kc, .int .i64 (t : Int)]) (hs : SrcB w S ca k B) (hS : S ≤ b) (hk : k ≤ 1048576) (ht : t ≤ 10000) (h1 : 1 ≤ n) (h2 : n ≤ 200)
    (hL : Src w (some ⟨q, 0, none⟩) n L) (hq : q ≠ b) :
    Calls Try.prog 44 #[.pointer (some ⟨b, 0, none⟩), .slice (some ⟨q, 0, none⟩) n n] w (RetPick w b ca k kc t n L) := by
  have HB := Lib.hid hB
  have HS := Lib.hid hs
  have HL := Lib.hid hL
  clear hB hs hL
  go_enter Try.func44, Try.ntmps44
  go_wp2_with fail
  refine (next_any b S ca k kc t n B _ HB.out HS.out hS hk ht h1 (by omega)).mono ?_
  rintro e w1 ⟨v, rfl, hv, hB1, hk1⟩
  have HB1 := Lib.hid hB1
  have HK1 := Lib.hid hk1
  have hcl := src_at (HL.out.keeps HK1.out (fun b' off h => by simp only [Option.some.injEq, Addr.mk.injEq, and_true] at h; omega)) v hv
  have hv' : (v : Int) < (n : Int) := by omega
  simp only [Nat.zero_add] at hcl
  clear hB1 hk1
  go_wp2
  go_ret
  exact ⟨v, rfl, hv, HB1.out, HK1.out⟩

set_option maxHeartbeats 400000 in
theorem source_any (ca : Option Addr) (k kc : Nat) (w : World) :
    Calls Try.prog 40 #[.slice ca k kc] w fun e w' => e = .returned (.pointer (some ⟨w.heap.size, 0, none⟩)) ∧ w' = w.alloc (.cells #[.slice ca k kc, .int .i64 0] 76) := by
  go_enter Try.func40, Try.ntmps40
  go_wp2
  go_ret
  exact ⟨rfl, rfl⟩

set_option maxHeartbeats 400000 in
theorem big_no (ca : Option Addr) (k kc : Nat) (w : World) (h : k ≤ 1048576) :
    Calls Try.prog 11 #[.slice ca k kc] w fun e w' => e = .returned (.bool false) ∧ w = w' := by
  go_enter Try.func11, Try.ntmps11
  go_wp2
  go_ret
  exact ⟨by show Ending.returned (.bool (decide ((1048576 : Int) < (k : Int)))) = _; rw [decide_eq_false (by omega)], rfl⟩

set_option maxHeartbeats 400000 in
theorem big_yes (ca : Option Addr) (k kc : Nat) (w : World) (hk : k ≤ maxLen) (h : 1048576 < k) :
    Calls Try.prog 11 #[.slice ca k kc] w fun e w' => e = .returned (.bool true) ∧ w = w' := by
  unfold maxLen at hk
  go_enter Try.func11, Try.ntmps11
  go_wp2
  go_ret
  exact ⟨by show Ending.returned (.bool (decide ((1048576 : Int) < (k : Int)))) = _; rw [decide_eq_true (by omega)], rfl⟩

/-- The list of a call, laid just ahead of it. -/
theorem src_lit (W : World) (q n : Nat) (cs : Array Value) (L : Nat → Int) (hq : q = W.heap.size) (h : ∀ i, i < n → cs[i]? = some (.int .i64 (L i))) : Src (W.alloc (.cells cs 2)) (some ⟨q, 0, none⟩) n L := by
  subst hq
  refine .inr ⟨W.heap.size, 0, rfl, by simp, fun i hi => ?_⟩
  rw [World.cell?_alloc_at _ _ _ _ rfl, Nat.zero_add]; exact h i hi

/-- One of a list that is written out. -/
def RetOf (W : World) (b : Nat) (ca : Option Addr) (k kc t : Nat) (l : List Int) (e : Ending) (w' : World) : Prop :=
  ∃ v : Int, e = .returned (.int .i64 v) ∧ v ∈ l ∧ Blk w' b [.slice ca k kc, .int .i64 ((t : Int) + 1)] ∧ Keeps W w' b (b + 1)

theorem of_any (l : List Int) (b S q : Nat) (ca : Option Addr) (k kc t n : Nat) (B : Nat → Int) (cs : Array Value) (W : World) (hB : Blk W b [.slice ca k kc, .int .i64 (t : Int)]) (hs : SrcB W S ca k B) (hS : S ≤ b) (hk : k ≤ 1048576) (ht : t ≤ 10000)
    (hn : n = l.length) (hl1 : 1 ≤ l.length) (hl2 : l.length ≤ 200) (hcs : cs.toList = l.map (Value.int .i64)) (hq : q = W.heap.size) :
    Calls Try.prog 44 #[.pointer (some ⟨b, 0, none⟩), .slice (some ⟨q, 0, none⟩) n n] (W.alloc (.cells cs 2)) (RetOf (W.alloc (.cells cs 2)) b ca k kc t l) := by
  subst hn
  have hb := hB.1
  have hL : Src (W.alloc (.cells cs 2)) (some ⟨q, 0, none⟩) l.length (fun i => l.getD i 0) := src_lit W q l.length cs _ hq fun i hi => by
    have : cs[i]? = cs.toList[i]? := by simp
    rw [this, hcs]; simp [hi]
  refine (pick_any b S q ca k kc t l.length B (fun i => l.getD i 0) _ (hB.alloc _) (hs.alloc _) hS hk ht hl1 hl2 hL (by omega)).mono ?_
  rintro e w' ⟨i, rfl, hi, hB', hk'⟩
  exact ⟨_, rfl, by simp [hi], hB', hk'⟩

theorem Keeps.alloc {w w1 : World} {lo hi : Nat} (h : Keeps w w1 lo hi) (o : Obj) : Keeps w (w1.alloc o) lo hi := h.trans (keeps_of_below ((Below.refl _ _).alloc (Nat.le_refl _) o) lo hi)

theorem Keeps.drew {w w1 : World} {lo hi : Nat} (h : Keeps w w1 lo hi) : Keeps w w1.drew lo hi := h.trans (keeps_of_below (Below.refl _ _).drew lo hi)

theorem Keeps.setNew {w w1 : World} {lo hi : Nat} (h : Keeps w w1 lo hi) {p : Addr} (hp : w.heap.size ≤ p.block) (u : Value) : Keeps w (w1.setCell p u) lo hi := by
  have hb : Below w.heap.size w1 (w1.setCell p u) := (Below.refl _ _).setCell hp u
  exact ⟨hb.os.trans h.os, hb.tape.trans h.tape, hb.output.trans h.output, Nat.le_trans h.size hb.size, fun k hk hd => (hb.block k hk).trans (h.block k hk hd)⟩

theorem SrcB.setCell {w : World} {S : Nat} {a : Option Addr} {k : Nat} {B : Nat → Int} (h : SrcB w S a k B) {p : Addr} (hp : S ≤ p.block) (u : Value) : SrcB (w.setCell p u) S a k B :=
  h.keeps (keeps_setCell (Nat.le_refl p.block) (Nat.lt_succ_self _) u) hp

end Go.Proofs.Ytflhjbcpffhanaa
