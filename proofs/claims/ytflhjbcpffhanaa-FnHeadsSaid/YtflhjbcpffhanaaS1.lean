/- Contracts of the helpers that every law calls: rows of numbers, pairs, bounds. -/
import Derived.Test.YtflhjbcpffhanaaRows
import Derived.WalkKit
import Derived.WalkSpells
import Derived.WalkLawsBesides
import Derived.Deep.QuietTactic
import Derived.BigQuiet
import Derived.Deep.RegionHeld3
import Derived.Lib.Hide
import Derived.Test.YtflhjbcpffhanaaMem
import Derived.Laws.AppendOwnNone
import Derived.Lib.AppendZeros
import Derived.Lib.SliceRun
import Derived.Lib.Walk
namespace Go.Proofs.Ytflhjbcpffhanaa
open Go.RowKit
set_option linter.unusedVariables false

theorem Try.info2 : (Try.prog.info? 2).map (fun i => (i.zero, i.size, i.bytes)) = some (some (.int .i64 0), 1, 8) := by kernel_rfl

set_option maxHeartbeats 400000 in
theorem toInts_any (a : Option Addr) (n cap : Nat) (f : Nat → Int) (w : World) (hs : Src w a n f) (hn : n ≤ 1048576) :
    Calls Try.prog 34 #[.slice a n cap] w (RetInts w n f) := by
  obtain ⟨i0, hi, hz0, hz1, hz2⟩ := info_parts Try.info2
  have HS := Lib.hid hs
  clear hs
  go_enter Try.func34, Try.ntmps34
  go_wp2_with (at_make; refine wpList_make_full _ rfl _ _ 27 rfl w.heap.size 2 i0 (.int .i64 0) 1 Try.underlying27 hi hz0 hz1 .i64 .i64 n n n rfl rfl rfl rfl (by rw [hz2]; omega) (by unfold maxLen; omega) (Nat.le_refl _) ?_; intro w1 hown1 hgrow1)
  have hb1 : Below w.heap.size w w1 := (Below.refl _ _).grown hgrow1 (Nat.le_refl _) (by intro k hk; simp at hk)
  have ho1 : w1.ownsRow w.heap.size 2 1 (.slice (some ⟨w.heap.size, 0, none⟩) n n) n (nums n fun _ => 0) := by
    rw [nums_zero, ← toList_madeCells_one]; simpa [Value.cells] using hown1
  clear hown1 hgrow1
  have HB := Lib.hid hb1
  have HO := Lib.hid ho1
  clear hb1 ho1
  go_loopw [4] (fun k wr => ∃ i : Nat, i ≤ n ∧ k = .int .i64 i ∧ Hid (Below w.heap.size w wr) ∧ Hid (wr.ownsRow w.heap.size 2 1 (.slice (some ⟨w.heap.size, 0, none⟩) n n) n (nums n fun j => if j < i then f j else 0))) (fun k _ => n - (intOf k).toNat)
  case atStart => exact ⟨0, Nat.zero_le _, rfl, HB, by simpa using HO⟩
  case round =>
    obtain ⟨i, hi', rfl, HB1, HO1⟩ := hrel
    by_cases hlt : i < n
    · rcases HS.out with h0 | ⟨b, off, rfl, hb, hc⟩
      · omega
      · have c1 : wr.cell? ⟨b, off + i, none⟩ = some (.int .i64 (f i)) := (HB1.out.cell (p := ⟨b, off + i, none⟩) hb).trans (hc i hlt)
        have c2 : wr.frozen? ⟨w.heap.size, i, none⟩ = false := HO1.out.frozenAt i
        have c3 : wr.cell? ⟨w.heap.size, i, none⟩ = some (.int .i64 0) := by
          have := HO1.out.cellAt i (by omega)
          rw [nums_get _ _ _ hlt] at this; simpa using this
        clear hc
        go_wp2
        go_roundw
        case rel =>
          refine ⟨i + 1, by omega, by go_num, HB1.out.setCell (Nat.le_refl _) _, ?_⟩
          have := (HO1.out.stored i (.int .i64 (f i))).1
          rw [nums_set] at this
          have e : nums n (fun j => if j < i + 1 then f j else 0) = nums n (fun j => if j = i then f i else if j < i then f j else 0) :=
            nums_congr fun j hj => by
              by_cases h1 : j = i
              · subst h1; simp
              · simp only [h1, if_false]; congr 1; simp only [eq_iff_iff]; omega
          show _root_.Go.World.ownsRow _ _ _ _ _ _ _
          rw [e]; exact this
        case measure => simp [intOf]; omega
    · go_wp2
      go_ret
      obtain rfl : i = n := by omega
      have h := HO1.out
      refine retInts_of_row (f := f) (e := 2) ?_ HB1.out
      have e : nums i f = nums i (fun j => if j < i then f j else 0) := nums_congr fun j hj => by simp [hj]
      rw [e]; exact h

theorem src_some {w : World} {a : Option Addr} {n : Nat} {f : Nat → Int} (h : Src w a n f) (hp : 0 < n) : ∃ b off, a = some ⟨b, off, none⟩ ∧ b < w.heap.size ∧ ∀ i, i < n → w.cell? ⟨b, off + i, none⟩ = some (.int .i64 (f i)) := by
  rcases h with h | h
  · omega
  · exact h

theorem src_at {w : World} {b off n : Nat} {f : Nat → Int} (h : Src w (some ⟨b, off, none⟩) n f) : ∀ i, i < n → w.cell? ⟨b, off + i, none⟩ = some (.int .i64 (f i)) := fun i hi => h.at i hi

theorem news_at {w : World} {b off n : Nat} {f : Nat → Int} (hc : ∀ i, i < n → w.cell? ⟨b, off + i, none⟩ = some (.int .i64 (f i))) : ∀ (j : Nat) (u : Value), (nums n f)[j]? = some u → w.cell? ((⟨b, off, none⟩ : Addr).add j) = some u := by
  intro j u h
  by_cases hj : j < n
  · rw [nums_get _ _ _ hj] at h
    simp only [Option.some.injEq] at h
    subst h
    rcases j with _ | j
    · simpa [Addr.add] using hc 0 hj
    · simpa [Addr.add] using hc (j + 1) hj
  · rw [List.getElem?_eq_none (by simp [nums]; omega)] at h; simp at h

/-- Are two rows the same? -/
def eqB (n m : Nat) (f g : Nat → Int) : Bool := decide (n = m ∧ ∀ i, i < n → f i = g i)

theorem eqB_no_len {n m : Nat} {f g : Nat → Int} (h : ¬ n = m) : eqB n m f g = false := by simp [eqB, h]

theorem eqB_no {n : Nat} {f g : Nat → Int} (i : Nat) (hi : i < n) (h : ¬ f i = g i) : eqB n n f g = false := by
  simp only [eqB, true_and, decide_eq_false_iff_not]; exact fun k => h (k i hi)

theorem eqB_yes {n : Nat} {f g : Nat → Int} (h : ∀ i, i < n → f i = g i) : eqB n n f g = true := by
  simp only [eqB, true_and, decide_eq_true_eq]; exact h

theorem eqB_true {n m : Nat} {f g : Nat → Int} (h : eqB n m f g = true) : n = m ∧ ∀ i, i < n → f i = g i := by simpa [eqB] using h

/-- A Bool comes back; nothing that was there is turned. -/
def RetBool (W : World) (r : Bool) (e : Ending) (w' : World) : Prop := e = .returned (.bool r) ∧ Below W.heap.size W w'

theorem below_drewN {B : Nat} {a w : World} (h : Below B a w) (k : Nat) : Below B a (w.drewN k) := h.trans ⟨rfl, rfl, rfl, Nat.le_refl _, fun _ _ => rfl⟩

set_option maxHeartbeats 400000 in
theorem eqInts_lens (a1 a2 : Option Addr) (n m c1 c2 : Nat) (w : World) (h : ¬ n = m) :
    Calls Try.prog 36 #[.slice a1 n c1, .slice a2 m c2] w (RetBool w false) := by
  have hd : ((n : Int) == (m : Int)) = false := by simp; omega
  go_enter Try.func36, Try.ntmps36
  go_wp2
  go_ret
  exact ⟨rfl, Below.refl _ _⟩

set_option maxHeartbeats 400000 in
theorem eqInts_same (a1 a2 : Option Addr) (n c1 c2 : Nat) (f g : Nat → Int) (w : World) (s1 : Src w a1 n f) (s2 : Src w a2 n g) (hn : n ≤ 1048576) :
    Calls Try.prog 36 #[.slice a1 n c1, .slice a2 n c2] w (RetBool w (eqB n n f g)) := by
  have S1 := Lib.hid s1
  have S2 := Lib.hid s2
  clear s1 s2
  go_enter Try.func36, Try.ntmps36
  go_wp2
  go_loopw [5] (fun k wr => ∃ i : Nat, i ≤ n ∧ k = .int .i64 i ∧ Hid (Below w.heap.size w wr) ∧ Hid (∀ j, j < i → f j = g j)) (fun k _ => n - (intOf k).toNat)
  case atStart => exact ⟨0, Nat.zero_le _, rfl, Below.refl _ _, fun j hj => by omega⟩
  case round =>
    obtain ⟨i, hi, rfl, HB, HE⟩ := hrel
    by_cases hlt : i < n
    · obtain ⟨b1, o1, rfl, hb1, hc1⟩ := src_some (S1.out.below HB.out) (by omega)
      obtain ⟨b2, o2, rfl, hb2, hc2⟩ := src_some (S2.out.below HB.out) (by omega)
      have d1 := hc1 i hlt
      have d2 := hc2 i hlt
      have hlt' : (i : Int) < (n : Int) := by omega
      clear hc1 hc2
      by_cases he : f i = g i
      · go_wp2
        go_quiet (fail)
        go_wp2
        go_roundw
        case rel => exact ⟨i + 1, by omega, by go_num, below_drewN HB.out _, fun j hj => by
            rcases Nat.lt_succ_iff_lt_or_eq.mp hj with h | h
            · exact HE.out j h
            · subst h; exact he⟩
        case measure => simp [intOf]; omega
      · have hd2 : (f i != g i) = true := by simpa using he
        go_wp2
        go_quiet (fail)
        go_wp2
        go_ret
        exact ⟨by rw [eqB_no i hlt he]; rfl, below_drewN HB.out _⟩
    · go_wp2
      go_ret
      exact ⟨by rw [eqB_yes fun j hj => HE.out j (by omega)]; rfl, HB.out⟩

set_option maxHeartbeats 400000 in
theorem lwNums_lens (a1 a2 : Option Addr) (n m c1 c2 : Nat) (w : World) (h : ¬ n = m) :
    Calls Try.prog 27 #[.slice a1 n c1, .slice a2 m c2] w (RetBool w false) := by
  have hd : ((n : Int) == (m : Int)) = false := by simp; omega
  go_enter Try.func27, Try.ntmps27
  go_wp2
  go_ret
  exact ⟨rfl, Below.refl _ _⟩

set_option maxHeartbeats 400000 in
theorem lwNums_same (a1 a2 : Option Addr) (n c1 c2 : Nat) (f g : Nat → Int) (w : World) (s1 : Src w a1 n f) (s2 : Src w a2 n g) (hn : n ≤ 1048576) :
    Calls Try.prog 27 #[.slice a1 n c1, .slice a2 n c2] w (RetBool w (eqB n n f g)) := by
  have S1 := Lib.hid s1
  have S2 := Lib.hid s2
  clear s1 s2
  go_enter Try.func27, Try.ntmps27
  go_wp2
  go_loopw [5] (fun k wr => ∃ i : Nat, i ≤ n ∧ k = .int .i64 i ∧ Hid (Below w.heap.size w wr) ∧ Hid (∀ j, j < i → f j = g j)) (fun k _ => n - (intOf k).toNat)
  case atStart => exact ⟨0, Nat.zero_le _, rfl, Below.refl _ _, fun j hj => by omega⟩
  case round =>
    obtain ⟨i, hi, rfl, HB, HE⟩ := hrel
    by_cases hlt : i < n
    · obtain ⟨b1, o1, rfl, hb1, hc1⟩ := src_some (S1.out.below HB.out) (by omega)
      obtain ⟨b2, o2, rfl, hb2, hc2⟩ := src_some (S2.out.below HB.out) (by omega)
      have d1 := hc1 i hlt
      have d2 := hc2 i hlt
      have hlt' : (i : Int) < (n : Int) := by omega
      clear hc1 hc2
      by_cases he : f i = g i
      · go_wp2
        go_quiet (fail)
        go_wp2
        go_roundw
        case rel => exact ⟨i + 1, by omega, by go_num, below_drewN HB.out _, fun j hj => by
            rcases Nat.lt_succ_iff_lt_or_eq.mp hj with h | h
            · exact HE.out j h
            · subst h; exact he⟩
        case measure => simp [intOf]; omega
      · have hd2 : (f i != g i) = true := by simpa using he
        go_wp2
        go_quiet (fail)
        go_wp2
        go_ret
        exact ⟨by rw [eqB_no i hlt he]; rfl, below_drewN HB.out _⟩
    · go_wp2
      go_ret
      exact ⟨by rw [eqB_yes fun j hj => HE.out j (by omega)]; rfl, HB.out⟩

theorem bcell {W w1 : World} (hb : Below W.heap.size W w1) : (∀ b o, b < W.heap.size → w1.cell? ⟨b, o, none⟩ = W.cell? ⟨b, o, none⟩) ∧ (∀ b o, b < W.heap.size → w1.frozen? ⟨b, o, none⟩ = W.frozen? ⟨b, o, none⟩) :=
  ⟨fun b o h => hb.cell (p := ⟨b, o, none⟩) h, fun b o h => hb.frozen (p := ⟨b, o, none⟩) h⟩

/-- A block of the call's own, known cell by cell. -/
def Blk (w : World) (b : Nat) (cs : List Value) : Prop := b < w.heap.size ∧ ∀ i u, cs[i]? = some u → w.cell? ⟨b, i, none⟩ = some u ∧ w.frozen? ⟨b, i, none⟩ = false

theorem Blk.below {w w' : World} {b : Nat} {cs : List Value} (h : Blk w b cs) (hb : Below w.heap.size w w') : Blk w' b cs :=
  ⟨Nat.lt_of_lt_of_le h.1 hb.size, fun i u hu => ⟨(hb.cell (p := ⟨b, i, none⟩) h.1).trans (h.2 i u hu).1, (hb.frozen (p := ⟨b, i, none⟩) h.1).trans (h.2 i u hu).2⟩⟩

theorem Blk.alloc {w : World} {b : Nat} {cs : List Value} (h : Blk w b cs) (o : Obj) : Blk (w.alloc o) b cs := h.below ((Below.refl _ _).alloc (Nat.le_refl _) o)

theorem Blk.drew {w : World} {b : Nat} {cs : List Value} (h : Blk w b cs) : Blk w.drew b cs := h.below (Below.refl _ _).drew

theorem Blk.new (w : World) (cs : Array Value) (t : TypeId) : Blk (w.alloc (.cells cs t)) w.heap.size cs.toList := by
  refine ⟨by simp, fun i u hu => ?_⟩
  constructor
  · rw [World.cell?_alloc_at _ _ _ _ rfl]; simpa using hu
  · exact World.frozen?_alloc_at _ _ _ _ rfl

theorem Blk.new_at {w : World} {cs : Array Value} {t : TypeId} (b : Nat) (hb : b = w.heap.size) : Blk (w.alloc (.cells cs t)) b cs.toList := hb ▸ Blk.new w cs t

theorem Blk.at {w : World} {b : Nat} {cs : List Value} (h : Blk w b cs) (i : Nat) {u : Value} (hu : cs[i]? = some u) : w.cell? ⟨b, i, none⟩ = some u := (h.2 i u hu).1

theorem Blk.free {w : World} {b : Nat} {cs : List Value} (h : Blk w b cs) (i : Nat) {u : Value} (hu : cs[i]? = some u) : w.frozen? ⟨b, i, none⟩ = false := (h.2 i u hu).2

set_option maxHeartbeats 400000 in
theorem eqIntResult_same (c v : Int) (w : World) :
    Calls Try.prog 37 #[.agg #[.int .i64 c, .int .i64 v], .agg #[.int .i64 c, .int .i64 v]] w (RetBool w true) := by
  go_enter Try.func37, Try.ntmps37
  go_wp2
  go_ret
  exact ⟨rfl, ((Below.refl _ _).alloc (Nat.le_refl _) _).alloc (by simp) _⟩

/-- An integer comes back; nothing that was there is turned. -/
def RetInt (W : World) (r : Int) (e : Ending) (w' : World) : Prop := e = .returned (.int .i64 r) ∧ Below W.heap.size W w'

set_option maxHeartbeats 400000 in
theorem l1In_yes (v l g : Int) (w : World) (h1 : l ≤ v) (h2 : v ≤ g) : Calls Try.prog 49 #[.int .i64 v, .int .i64 l, .int .i64 g] w fun e w' => e = .returned (.bool true) ∧ w = w' := by
  go_enter Try.func49, Try.ntmps49
  go_wp2
  go_ret
  exact ⟨rfl, rfl⟩

set_option maxHeartbeats 400000 in
theorem l1In_no (v l g : Int) (w : World) (h : ¬ (l ≤ v ∧ v ≤ g)) : Calls Try.prog 49 #[.int .i64 v, .int .i64 l, .int .i64 g] w fun e w' => e = .returned (.bool false) ∧ w = w' := by
  by_cases h1 : l ≤ v
  · have h2 : ¬ v ≤ g := fun k => h ⟨h1, k⟩
    clear h
    go_enter Try.func49, Try.ntmps49
    go_wp2
    go_ret
    exact ⟨rfl, rfl⟩
  · clear h
    go_enter Try.func49, Try.ntmps49
    go_wp2
    go_ret
    exact ⟨rfl, rfl⟩

/-- A pair of numbers comes back; nothing that was there is turned. -/
def RetPair (W : World) (c v : Int) (e : Ending) (w' : World) : Prop := e = .returned (.agg #[.int .i64 c, .int .i64 v]) ∧ Below W.heap.size W w'

theorem thru0 {w w1 w2 : World} (h : Below w.heap.size w w1) (hb : Below w1.heap.size w1 w2) : Below w.heap.size w w2 := h.trans (hb.mono h.size)

theorem thru1 {w w1 w2 : World} {o : Obj} (h : Below w.heap.size w w1) (hb : Below (w1.alloc o).heap.size (w1.alloc o) w2) : Below w.heap.size w w2 := thru0 (h.alloc h.size o) hb

theorem thru2 {w w1 w2 : World} {o o' : Obj} (h : Below w.heap.size w w1) (hb : Below ((w1.alloc o).alloc o').heap.size ((w1.alloc o).alloc o') w2) : Below w.heap.size w w2 := thru1 (h.alloc h.size o) hb

theorem thru3 {w w1 w2 : World} {o o' o2 : Obj} (h : Below w.heap.size w w1) (hb : Below (((w1.alloc o).alloc o').alloc o2).heap.size (((w1.alloc o).alloc o').alloc o2) w2) : Below w.heap.size w w2 := thru2 (h.alloc h.size o) hb

theorem thru4 {w w1 w2 : World} {o o' o2 o3 : Obj} (h : Below w.heap.size w w1) (hb : Below ((((w1.alloc o).alloc o').alloc o2).alloc o3).heap.size ((((w1.alloc o).alloc o').alloc o2).alloc o3) w2) : Below w.heap.size w w2 := thru3 (h.alloc h.size o) hb

/-- The same world, or one block more. -/
def Ext (w W : World) : Prop := W = w ∨ ∃ o, W = w.alloc o

theorem Blk.ext {w W : World} {b : Nat} {cs : List Value} (h : Blk w b cs) (e : Ext w W) : Blk W b cs := by
  rcases e with rfl | ⟨o, rfl⟩
  · exact h
  · exact h.alloc o

theorem Src.ext {w W : World} {a : Option Addr} {n : Nat} {f : Nat → Int} (h : Src w a n f) (e : Ext w W) : Src W a n f := by
  rcases e with rfl | ⟨o, rfl⟩
  · exact h
  · exact h.alloc o

theorem below_ext {w0 w W : World} (h : Below w0.heap.size w0 w) (e : Ext w W) : Below w0.heap.size w0 W := by
  rcases e with rfl | ⟨o, rfl⟩
  · exact h
  · exact h.alloc h.size o

theorem size_ext {w W : World} (e : Ext w W) : w.heap.size ≤ W.heap.size := by
  rcases e with rfl | ⟨o, rfl⟩
  · exact Nat.le_refl _
  · simp

/-- A store into a known block. -/
theorem Blk.set {w : World} {b : Nat} {cs : List Value} (h : Blk w b cs) (i : Nat) (hi : i < cs.length) (v : Value) : Blk (w.setCell ⟨b, i, none⟩ v) b (cs.set i v) := by
  refine ⟨by simpa using h.1, fun j u hj => ?_⟩
  constructor
  · by_cases e : j = i
    · subst e
      rw [List.getElem?_set_self hi] at hj
      simp only [Option.some.injEq] at hj
      subst hj
      exact World.cell?_setCell_same w ⟨b, j, none⟩ v (h.2 j cs[j] (List.getElem?_eq_getElem hi)).1
    · rw [List.getElem?_set_ne (fun x => e x.symm)] at hj
      rw [World.cell?_setCell_other _ _ _ _ (by simp; try omega)]
      exact (h.2 j u hj).1
  · rw [World.frozen?_setCell]
    by_cases e : j = i
    · subst e; exact (h.2 j cs[j] (List.getElem?_eq_getElem hi)).2
    · rw [List.getElem?_set_ne (fun x => e x.symm)] at hj
      exact (h.2 j u hj).2

end Go.Proofs.Ytflhjbcpffhanaa
