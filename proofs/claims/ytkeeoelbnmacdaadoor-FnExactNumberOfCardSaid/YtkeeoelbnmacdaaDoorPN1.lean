/- Texts merged: Mem to LNO. -/
import Derived.Test.YtkeeoelbnmacdaaDoorRows
import Derived.WalkKit
import Derived.WalkSpells
import Derived.WalkLawsBesides
import Derived.Deep.QuietTactic
import Derived.BigQuiet
import Derived.Deep.RegionHeld3
import Derived.Lib.Hide
import Derived.Laws.AppendOwnNone
import Derived.Lib.AppendZeros
import Derived.Lib.SliceRun
import Derived.Lib.Walk
import Derived.Deep.Cut
import Derived.Deep.Upon
import Derived.Defers
import Derived.Recover
import Derived.Laws.Pointers
import Derived.StillTailTactics
import Derived.Deep.RegionLaw
import Derived.ProofKit
import Derived.Lib.SmallJoins
import Derived.OpenShut
import Derived.Deep.DeepCutAuto
import Derived.LaidEql
import Derived.Stop.Asserts
import Derived.RowKitTokens
import Derived.Lib.OthersKept
namespace Go.Proofs.YtkeeoelbnmacdaaDoor
open Go.RowKit
set_option linter.unusedVariables false

/-- The first n cells at a hold f. -/
def Src (w : World) (a : Option Addr) (n : Nat) (f : Nat → Int) : Prop :=
  n = 0 ∨ ∃ b off, a = some ⟨b, off, none⟩ ∧ b < w.heap.size ∧ ∀ i, i < n → w.cell? ⟨b, off + i, none⟩ = some (.int .i64 (f i))

/-- The same, in a block from B on, and not frozen. -/
def Own (w : World) (B : Nat) (a : Option Addr) (n : Nat) (f : Nat → Int) : Prop :=
  n = 0 ∨ ∃ b off, a = some ⟨b, off, none⟩ ∧ B ≤ b ∧ b < w.heap.size ∧ ∀ i, i < n → w.cell? ⟨b, off + i, none⟩ = some (.int .i64 (f i)) ∧ w.frozen? ⟨b, off + i, none⟩ = false

theorem Own.src {w : World} {B : Nat} {a : Option Addr} {n : Nat} {f : Nat → Int} (h : Own w B a n f) : Src w a n f := by
  rcases h with h | ⟨b, off, h1, _, h3, h4⟩
  · exact .inl h
  · exact .inr ⟨b, off, h1, h3, fun i hi => (h4 i hi).1⟩

theorem Src.below {w w' : World} {a : Option Addr} {n : Nat} {f : Nat → Int} (h : Src w a n f) (hb : Below w.heap.size w w') : Src w' a n f := by
  rcases h with h | ⟨b, off, h1, h3, h4⟩
  · exact .inl h
  · exact .inr ⟨b, off, h1, Nat.lt_of_lt_of_le h3 hb.size, fun i hi => (hb.cell (p := ⟨b, off + i, none⟩) h3).trans (h4 i hi)⟩

theorem Own.below {w w' : World} {B : Nat} {a : Option Addr} {n : Nat} {f : Nat → Int} (h : Own w B a n f) (hb : Below w.heap.size w w') : Own w' B a n f := by
  rcases h with h | ⟨b, off, h1, h2, h3, h4⟩
  · exact .inl h
  · exact .inr ⟨b, off, h1, h2, Nat.lt_of_lt_of_le h3 hb.size, fun i hi => ⟨(hb.cell (p := ⟨b, off + i, none⟩) h3).trans (h4 i hi).1, (hb.frozen (p := ⟨b, off + i, none⟩) h3).trans (h4 i hi).2⟩⟩

theorem Own.mono {w : World} {B B' : Nat} {a : Option Addr} {n : Nat} {f : Nat → Int} (h : Own w B a n f) (hB : B' ≤ B) : Own w B' a n f := by
  rcases h with h | ⟨b, off, h1, h2, h3⟩
  · exact .inl h
  · exact .inr ⟨b, off, h1, Nat.le_trans hB h2, h3⟩

theorem Src.at {w : World} {b off n : Nat} {f : Nat → Int} (h : Src w (some ⟨b, off, none⟩) n f) (i : Nat) (hi : i < n) : w.cell? ⟨b, off + i, none⟩ = some (.int .i64 (f i)) := by
  rcases h with h | ⟨b', off', h1, h3, h4⟩
  · omega
  · simp at h1; obtain ⟨rfl, rfl⟩ := h1; exact h4 i hi

theorem Src.congr {w : World} {a : Option Addr} {n : Nat} {f g : Nat → Int} (h : Src w a n f) (e : ∀ i, i < n → f i = g i) : Src w a n g := by
  rcases h with h | ⟨b, off, h1, h3, h4⟩
  · exact .inl h
  · exact .inr ⟨b, off, h1, h3, fun i hi => by rw [h4 i hi, e i hi]⟩

theorem Own.congr {w : World} {B : Nat} {a : Option Addr} {n : Nat} {f g : Nat → Int} (h : Own w B a n f) (e : ∀ i, i < n → f i = g i) : Own w B a n g := by
  rcases h with h | ⟨b, off, h1, h2, h3, h4⟩
  · exact .inl h
  · exact .inr ⟨b, off, h1, h2, h3, fun i hi => by rw [← e i hi]; exact h4 i hi⟩

theorem Src.alloc {w : World} {a : Option Addr} {n : Nat} {f : Nat → Int} (h : Src w a n f) (o : Obj) : Src (w.alloc o) a n f := h.below ((Below.refl _ _).alloc (Nat.le_refl _) o)

theorem Own.alloc {w : World} {B : Nat} {a : Option Addr} {n : Nat} {f : Nat → Int} (h : Own w B a n f) (o : Obj) : Own (w.alloc o) B a n f := h.below ((Below.refl _ _).alloc (Nat.le_refl _) o)

theorem Own.setCell {w : World} {B : Nat} {a : Option Addr} {n : Nat} {f : Nat → Int} (h : Own w B a n f) {p : Addr} (hp : p.block < B) (u : Value) : Own (w.setCell p u) B a n f := by
  rcases h with h | ⟨b, off, h1, h2, h3, h4⟩
  · exact .inl h
  · refine .inr ⟨b, off, h1, h2, by simpa using h3, fun i hi => ?_⟩
    have e : (w.setCell p u).heap[b]? = w.heap[b]? := Below.heap_setCell w p u b (by omega)
    exact ⟨(World.cell?_of_block (w := w) (a := ⟨b, off + i, none⟩) e).trans (h4 i hi).1, (World.frozen?_of_block (w := w) (a := ⟨b, off + i, none⟩) e).trans (h4 i hi).2⟩
end Go.Proofs.YtkeeoelbnmacdaaDoor

namespace Go.Proofs.YtkeeoelbnmacdaaDoor
open Go.RowKit
set_option linter.unusedVariables false

/-- A Bool comes back; nothing that was there is turned. -/
def RetBool (W : World) (r : Bool) (e : Ending) (w' : World) : Prop := e = .returned (.bool r) ∧ Below W.heap.size W w'
end Go.Proofs.YtkeeoelbnmacdaaDoor

namespace Go.Proofs.YtkeeoelbnmacdaaDoor
open Go.RowKit
set_option linter.unusedVariables false

theorem bcell {W w1 : World} (hb : Below W.heap.size W w1) : (∀ b o, b < W.heap.size → w1.cell? ⟨b, o, none⟩ = W.cell? ⟨b, o, none⟩) ∧ (∀ b o, b < W.heap.size → w1.frozen? ⟨b, o, none⟩ = W.frozen? ⟨b, o, none⟩) :=
  ⟨fun b o h => hb.cell (p := ⟨b, o, none⟩) h, fun b o h => hb.frozen (p := ⟨b, o, none⟩) h⟩

/-- A block of the call's own, known cell by cell. -/
def Blk (w : World) (b : Nat) (cs : List Value) : Prop := b < w.heap.size ∧ ∀ i u, cs[i]? = some u → w.cell? ⟨b, i, none⟩ = some u ∧ w.frozen? ⟨b, i, none⟩ = false

theorem Blk.below {w w' : World} {b : Nat} {cs : List Value} (h : Blk w b cs) (hb : Below w.heap.size w w') : Blk w' b cs :=
  ⟨Nat.lt_of_lt_of_le h.1 hb.size, fun i u hu => ⟨(hb.cell (p := ⟨b, i, none⟩) h.1).trans (h.2 i u hu).1, (hb.frozen (p := ⟨b, i, none⟩) h.1).trans (h.2 i u hu).2⟩⟩

theorem Blk.alloc {w : World} {b : Nat} {cs : List Value} (h : Blk w b cs) (o : Obj) : Blk (w.alloc o) b cs := h.below ((Below.refl _ _).alloc (Nat.le_refl _) o)

theorem Blk.at {w : World} {b : Nat} {cs : List Value} (h : Blk w b cs) (i : Nat) {u : Value} (hu : cs[i]? = some u) : w.cell? ⟨b, i, none⟩ = some u := (h.2 i u hu).1

set_option maxRecDepth 100000 in
set_option maxHeartbeats 400000 in
theorem eqIntResult_same (c v : Int) (w : World) :
    Calls Tryd.prog 14 #[.agg #[.int .i64 c, .int .i64 v], .agg #[.int .i64 c, .int .i64 v]] w (RetBool w true) := by
  go_enter Tryd.func14, Tryd.ntmps14
  go_wp2
  go_ret
  exact ⟨rfl, ((Below.refl _ _).alloc (Nat.le_refl _) _).alloc (by simp) _⟩
end Go.Proofs.YtkeeoelbnmacdaaDoor

namespace Go.Proofs.YtkeeoelbnmacdaaDoor
open Go.ChangeShapes Go.WideShapes Go.ChangeAt Go.RowKit Go.Joins
set_option linter.unusedVariables false
set_option maxRecDepth 100000

theorem Tryd.own : ownKnob Tryd.prog.godebug = none := by kernel_rfl
end Go.Proofs.YtkeeoelbnmacdaaDoor

namespace Go.Proofs.YtkeeoelbnmacdaaDoor
open Go.RowKit
set_option linter.unusedVariables false

def isDg (d : UInt8) : Prop := 48 ≤ d.toNat ∧ d.toNat ≤ 57

def dgV (l : List UInt8) : Int := l.foldl (fun a d => a * 10 + ((d.toNat : Int) - 48)) 0

theorem dgV_snoc (l : List UInt8) (c : UInt8) : dgV (l ++ [c]) = dgV l * 10 + ((c.toNat : Int) - 48) := by simp [dgV]

theorem dgV_take (l : List UInt8) (k : Nat) (h : k < l.length) : dgV (l.take (k + 1)) = dgV (l.take k) * 10 + ((l[k].toNat : Int) - 48) := by
  rw [List.take_succ_eq_append_getElem h, dgV_snoc]

theorem p10_bd : ∀ k : Nat, k ≤ 10 → ((10 ^ k : Nat) : Int) ≤ 10000000000 := by
  intro k hk
  have h := Nat.pow_le_pow_right (show 0 < 10 by omega) hk
  have : (10 : Nat) ^ 10 = 10000000000 := by decide
  omega

theorem dgV_bd (l : List UInt8) : ∀ k : Nat, k ≤ l.length → (∀ i (h : i < l.length), i < k → isDg l[i]) → 0 ≤ dgV (l.take k) ∧ dgV (l.take k) + 1 ≤ ((10 ^ k : Nat) : Int)
  | 0, _, _ => by simp [dgV]
  | k + 1, hk, h => by
    have ih := dgV_bd l k (by omega) fun i hi h1 => h i hi (by omega)
    have hd := h k (by omega) (by omega)
    unfold isDg at hd
    have hp : ((10 ^ (k + 1) : Nat) : Int) = 10 * ((10 ^ k : Nat) : Int) := by rw [Nat.pow_succ]; omega
    rw [dgV_take l k (by omega), hp]
    generalize ((10 ^ k : Nat) : Int) = p at *
    omega

/-- the digits of a word: what stands behind a minus -/
def numD (l : List UInt8) : List UInt8 := if l.head? = some 45 then l.tail else l

structure OkNum (l : List UInt8) : Prop where
  lo : 1 ≤ (numD l).length
  hi : (numD l).length ≤ 10
  hd : (numD l).head? = some 48 → l = [48]
  all : ∀ i (h : i < (numD l).length), isDg (numD l)[i]
open Classical in
noncomputable def numC (l : List UInt8) : Int := if OkNum l then 0 else 5
open Classical in
noncomputable def numV (l : List UInt8) : Int := if OkNum l then (if (numD l).length < l.length then - dgV (numD l) else dgV (numD l)) else 0

theorem numC_ok {l : List UInt8} (h : OkNum l) : numC l = 0 := by rw [numC, if_pos h]

theorem numC_no {l : List UInt8} (h : ¬ OkNum l) : numC l = 5 := by rw [numC, if_neg h]

theorem numV_no {l : List UInt8} (h : ¬ OkNum l) : numV l = 0 := by rw [numV, if_neg h]

theorem numD_neg {l : List UInt8} (hm : l.head? = some 45) : numD l = l.tail := by rw [numD, if_pos hm]

theorem numD_pos {l : List UInt8} (hm : l.head? ≠ some 45) : numD l = l := by rw [numD, if_neg hm]

theorem okNum_single (l : List UInt8) (hm : l = [45]) : ¬ OkNum l := by
  intro h; have := h.lo; subst hm; simp [numD] at this

theorem size_list (d : ByteArray) : d.data.toList.length = d.size := by simp

theorem at_list (d : ByteArray) (k : Nat) (h : k < d.size) (h2 : k < d.data.toList.length) : d.data.toList[k] = d[k]'h := by simp; rfl

theorem notOk_len {l : List UInt8} {d : ByteArray} (hD : numD l = d.data.toList) (h : ¬ (1 ≤ d.size ∧ d.size ≤ 10)) : ¬ OkNum l := by
  intro o
  have a := o.lo; have b := o.hi
  rw [hD, size_list] at a b
  exact h ⟨a, b⟩

theorem notOk_hd {l : List UInt8} {d : ByteArray} (hD : numD l = d.data.toList) (h0 : 0 < d.size) (h : (d[0]'h0).toNat = 48) (h1 : 1 < d.size ∨ 1 < l.length) : ¬ OkNum l := by
  intro o
  have a : l = [48] := by
    apply o.hd
    rw [hD, List.head?_eq_getElem?, List.getElem?_eq_getElem (by rw [size_list]; exact h0), at_list d 0 h0]
    congr 1
    exact UInt8.toNat_inj.1 (by rw [h]; rfl)
  subst a
  have e : numD [48] = [48] := by simp [numD]
  have : d.data.toList.length = 1 := by rw [← hD, e]; rfl
  rw [size_list] at this
  rcases h1 with h1 | h1
  · omega
  · simp at h1

theorem notOk_at {l : List UInt8} {d : ByteArray} (hD : numD l = d.data.toList) (k : Nat) (h : k < d.size) (hb : ¬ isDg (d[k]'h)) : ¬ OkNum l := by
  intro o
  apply hb
  have hl : k < (numD l).length := by rw [hD, size_list]; exact h
  have := o.all k hl
  have e : (numD l)[k] = d[k]'h := by
    simp only [hD]
    exact at_list d k h _
  rwa [e] at this

theorem isOk_of {l : List UInt8} {d : ByteArray} (hD : numD l = d.data.toList) (h1 : 1 ≤ d.size) (h2 : d.size ≤ 10)
    (h3 : (d[0]'h1).toNat = 48 → d.size ≤ 1 ∧ l.length ≤ 1) (h4 : ∀ k (h : k < d.size), isDg (d[k]'h)) : OkNum l := by
  refine ⟨by rw [hD, size_list]; exact h1, by rw [hD, size_list]; exact h2, fun hh => ?_, fun i hi => ?_⟩
  · rw [hD, List.head?_eq_getElem?, List.getElem?_eq_getElem (by rw [size_list]; exact h1), at_list d 0 h1] at hh
    have e0 : d[0]'h1 = 48 := Option.some.inj hh
    obtain ⟨a, b⟩ := h3 (by rw [e0]; rfl)
    have hne : l.head? ≠ some 45 := by
      intro h5
      rw [numD_neg h5] at hD
      have : l.tail.length = d.size := by rw [hD, size_list]
      simp at this
      omega
    rw [numD_pos hne] at hD
    have hl : l.length = 1 := by rw [hD, size_list]; omega
    match l, hl with
    | [x], _ =>
      have : d.data.toList[0]'(by rw [size_list]; exact h1) = x := by simp only [← hD]; rfl
      rw [at_list d 0 h1, e0] at this
      rw [this]
  · have hi' : i < d.size := by rw [hD, size_list] at hi; exact hi
    have e : (numD l)[i] = d[i]'hi' := by
      simp only [hD]
      exact at_list d i hi' _
    rw [e]; exact h4 i hi'

def dgB (d : ByteArray) (k : Nat) : Int := dgV (d.data.toList.take k)

theorem dgB_zero (d : ByteArray) : dgB d 0 = 0 := by simp [dgB, dgV]

theorem dgB_succ (d : ByteArray) (k : Nat) (h : k < d.size) : dgB d (k + 1) = dgB d k * 10 + (((d[k]'h).toNat : Int) - 48) := by
  unfold dgB
  rw [dgV_take _ k (by rw [size_list]; exact h), at_list d k h]

theorem dgB_bd (d : ByteArray) (k : Nat) (hk : k ≤ d.size) (h10 : k ≤ 10) (h : ∀ i (h : i < d.size), i < k → isDg (d[i]'h)) : 0 ≤ dgB d k ∧ dgB d k ≤ 9999999999 := by
  have h1 := dgV_bd d.data.toList k (by rw [size_list]; exact hk) fun i hi h2 => by
    have hi' : i < d.size := by rw [size_list] at hi; exact hi
    rw [at_list d i hi']; exact h i hi' h2
  have h2 := p10_bd k h10
  unfold dgB
  omega

theorem dgB_all (d : ByteArray) : dgB d d.size = dgV d.data.toList := by
  unfold dgB
  rw [List.take_of_length_le (by rw [size_list]; exact Nat.le_refl _)]

theorem numV_of {l : List UInt8} {d : ByteArray} (o : OkNum l) (hD : numD l = d.data.toList) : numV l = if d.size < l.length then - dgB d d.size else dgB d d.size := by
  rw [numV, if_pos o, hD, dgB_all, size_list]

/-- a minus alone -/
theorem okNum_minus {s : ByteArray} (h1 : s.size = 1) (h : (s[0]'(by omega)).toNat = 45) : ¬ OkNum s.data.toList := by
  apply okNum_single
  have hl : s.data.toList.length = 1 := by rw [size_list]; exact h1
  generalize hL : s.data.toList = L at *
  match L, hl with
  | [x], _ =>
    have : s.data.toList[0]'(by rw [size_list]; omega) = x := by simp only [hL]; rfl
    rw [at_list s 0 (by omega)] at this
    have e : x = 45 := by rw [← this]; exact UInt8.toNat_inj.1 (by rw [h]; rfl)
    rw [e]

theorem head_list (s : ByteArray) (h : 0 < s.size) : s.data.toList.head? = some (s[0]'h) := by
  rw [List.head?_eq_getElem?, List.getElem?_eq_getElem (by rw [size_list]; exact h), at_list s 0 h]

theorem numD_minus {s : ByteArray} (h0 : 0 < s.size) (h : (s[0]'h0).toNat = 45) : numD s.data.toList = (s.extract 1 s.size).data.toList := by
  rw [numD_neg (by rw [head_list s h0]; congr 1; exact UInt8.toNat_inj.1 (by rw [h]; rfl))]
  apply List.ext_getElem
  · simp only [List.length_tail, size_list, ByteArray.size_extract]; omega
  · intro i h1 h2
    rw [List.getElem_tail]
    have a : i + 1 < s.size := by simp only [List.length_tail, size_list] at h1; omega
    have b : i < (s.extract 1 s.size).size := by rw [size_list] at h2; exact h2
    rw [at_list s (i + 1) a, at_list _ i b, ByteArray.getElem_extract]
    congr 1
    omega

theorem numD_plain {s : ByteArray} (h : ∀ h0 : 0 < s.size, (s[0]'h0).toNat ≠ 45) : numD s.data.toList = s.data.toList := by
  apply numD_pos
  intro hh
  rcases Nat.eq_zero_or_pos s.size with h0 | h0
  · have : s.data.toList.length = 0 := by rw [size_list]; exact h0
    rw [List.eq_nil_of_length_eq_zero this] at hh
    simp at hh
  · rw [head_list s h0] at hh
    apply h h0
    rw [Option.some.inj hh]; rfl
end Go.Proofs.YtkeeoelbnmacdaaDoor

namespace Go.Proofs.YtkeeoelbnmacdaaDoor
open Go.RowKit
set_option linter.unusedVariables false

/-- Three cells hold one bound. -/
def B3 (w : World) (b o : Nat) (v l g : Int) : Prop :=
  w.cell? ⟨b, o, none⟩ = some (.int .i64 v) ∧ w.cell? ⟨b, o + 1, none⟩ = some (.int .i64 l) ∧ w.cell? ⟨b, o + 2, none⟩ = some (.int .i64 g)

theorem B3.below {w w' : World} {b o : Nat} {v l g : Int} {B : Nat} (h : B3 w b o v l g) (hb : Below B w w') (hlt : b < B) : B3 w' b o v l g :=
  ⟨(hb.cell (p := ⟨b, o, none⟩) hlt).trans h.1, (hb.cell (p := ⟨b, o + 1, none⟩) hlt).trans h.2.1, (hb.cell (p := ⟨b, o + 2, none⟩) hlt).trans h.2.2⟩

-- All bounds hold.

set_option maxRecDepth 100000 in
set_option maxHeartbeats 400000 in
theorem isOut_no (b n : Nat) (v l g : Nat → Int) (w : World) (hn : n ≤ 3) (hb : b < w.heap.size)
   (h0 : ∀ i, i < n → B3 w b (i * 3) (v i) (l i) (g i)) (h1 : ∀ i, i < n → l i ≤ v i ∧ v i ≤ g i) :
    Calls Tryd.prog 36 #[.slice (some ⟨b, 0, none⟩) n n] w fun e w' => e = .returned (.bool false) ∧ Below w.heap.size w w' := by
  go_enter Tryd.func36, Tryd.ntmps36
  go_wp2
  go_loopw [7] (fun k wr => ∃ i : Nat, i ≤ n ∧ k = .int .i64 i ∧ Below w.heap.size w wr) (fun k _ => n - (intOf k).toNat)
  case atStart => exact ⟨0, Nat.zero_le _, rfl, Below.refl _ _⟩
  case round =>
    obtain ⟨i, hi, rfl, hbel⟩ := hrel
    by_cases hlt : i < n
    · obtain ⟨c1, c2, c3⟩ := (h0 i hlt).below hbel hb
      obtain ⟨d1, d2⟩ := h1 i hlt
      have hs := hbel.size
      clear h0 h1
      go_wp2
      go_roundw
      case rel => exact ⟨i + 1, by omega, by go_num, hbel.alloc hs _⟩
      case measure => simp [intOf]; omega
    · clear h0 h1
      go_wp2
      go_ret
      exact ⟨rfl, hbel⟩

-- Some bound does not hold.

set_option maxRecDepth 100000 in
set_option maxHeartbeats 400000 in
theorem isOut_yes (b n : Nat) (v l g : Nat → Int) (w : World) (hn : n ≤ 3) (hb : b < w.heap.size)
   (h0 : ∀ i, i < n → B3 w b (i * 3) (v i) (l i) (g i)) (h1 : ∃ i, i < n ∧ ¬ (l i ≤ v i ∧ v i ≤ g i)) :
    Calls Tryd.prog 36 #[.slice (some ⟨b, 0, none⟩) n n] w fun e w' => e = .returned (.bool true) ∧ Below w.heap.size w w' := by
  have H1 := Lib.hid h1
  clear h1
  go_enter Tryd.func36, Tryd.ntmps36
  go_wp2
  go_loopw [7] (fun k wr => ∃ i : Nat, i ≤ n ∧ k = .int .i64 i ∧ Below w.heap.size w wr ∧ Hid (∀ j, j < i → l j ≤ v j ∧ v j ≤ g j)) (fun k _ => n - (intOf k).toNat)
  case atStart => exact ⟨0, Nat.zero_le _, rfl, Below.refl _ _, fun j hj => by omega⟩
  case round =>
    obtain ⟨i, hi, rfl, hbel, hH⟩ := hrel
    by_cases hlt : i < n
    · obtain ⟨c1, c2, c3⟩ := (h0 i hlt).below hbel hb
      have hs := hbel.size
      clear h0
      by_cases e1 : v i < l i
      · go_wp2
        go_ret
        exact ⟨rfl, hbel.alloc hs _⟩
      · by_cases e2 : g i < v i
        · go_wp2
          go_ret
          exact ⟨rfl, hbel.alloc hs _⟩
        · go_wp2
          go_roundw
          case rel => exact ⟨i + 1, by omega, by go_num, hbel.alloc hs _, fun j hj => by
            rcases Nat.lt_succ_iff_lt_or_eq.mp hj with h | h
            · exact hH.out j h
            · subst h; omega⟩
          case measure => simp [intOf]; omega
    · exfalso
      obtain ⟨j, hj, hj'⟩ := H1.out
      exact hj' (hH.out j (by omega))
end Go.Proofs.YtkeeoelbnmacdaaDoor

namespace Go.Proofs.YtkeeoelbnmacdaaDoor
open Go.RowKit
set_option linter.unusedVariables false

/-- Nothing that was there is turned, but in the blocks from lo to hi. -/
structure Keeps (w w' : World) (lo hi : Nat) : Prop where
  os : w'.os = w.os
  tape : w'.tape = w.tape
  output : w'.output = w.output
  size : w.heap.size ≤ w'.heap.size
  block : ∀ k, k < w.heap.size → (k < lo ∨ hi ≤ k) → w'.heap[k]? = w.heap[k]?

theorem Keeps.refl (w : World) (lo hi : Nat) : Keeps w w lo hi := ⟨rfl, rfl, rfl, Nat.le_refl _, fun _ _ _ => rfl⟩

theorem Keeps.trans {w w1 w2 : World} {lo hi : Nat} (h : Keeps w w1 lo hi) (k : Keeps w1 w2 lo hi) : Keeps w w2 lo hi :=
  ⟨k.os.trans h.os, k.tape.trans h.tape, k.output.trans h.output, Nat.le_trans h.size k.size, fun i hi h' => (k.block i (Nat.lt_of_lt_of_le hi h.size) h').trans (h.block i hi h')⟩

theorem Keeps.below {w w' : World} {lo hi B : Nat} (h : Keeps w w' lo hi) (hB : B ≤ lo) (hs : B ≤ w.heap.size) : Below B w w' :=
  ⟨h.os, h.tape, h.output, h.size, fun k hk => h.block k (by omega) (.inl (by omega))⟩

/-- A row of the call's own, in a block from lo to hi. -/
def OwnIn (w : World) (lo hi : Nat) (a : Option Addr) (n : Nat) (f : Nat → Int) : Prop :=
  n = 0 ∨ ∃ b off, a = some ⟨b, off, none⟩ ∧ (lo ≤ b ∧ b < hi) ∧ b < w.heap.size ∧ ∀ i, i < n → w.cell? ⟨b, off + i, none⟩ = some (.int .i64 (f i)) ∧ w.frozen? ⟨b, off + i, none⟩ = false

theorem OwnIn.src {w : World} {lo hi : Nat} {a : Option Addr} {n : Nat} {f : Nat → Int} (h : OwnIn w lo hi a n f) : Src w a n f := by
  rcases h with h | ⟨b, off, h1, _, h3, h4⟩
  · exact .inl h
  · exact .inr ⟨b, off, h1, h3, fun i hi => (h4 i hi).1⟩

theorem OwnIn.below {w w' : World} {lo hi : Nat} {a : Option Addr} {n : Nat} {f : Nat → Int} (h : OwnIn w lo hi a n f) (hb : Below w.heap.size w w') : OwnIn w' lo hi a n f := by
  rcases h with h | ⟨b, off, h1, h2, h3, h4⟩
  · exact .inl h
  · exact .inr ⟨b, off, h1, h2, Nat.lt_of_lt_of_le h3 hb.size, fun i hi => ⟨(hb.cell (p := ⟨b, off + i, none⟩) h3).trans (h4 i hi).1, (hb.frozen (p := ⟨b, off + i, none⟩) h3).trans (h4 i hi).2⟩⟩

theorem OwnIn.alloc {w : World} {lo hi : Nat} {a : Option Addr} {n : Nat} {f : Nat → Int} (h : OwnIn w lo hi a n f) (o : Obj) : OwnIn (w.alloc o) lo hi a n f := h.below ((Below.refl _ _).alloc (Nat.le_refl _) o)

theorem OwnIn.congr {w : World} {lo hi : Nat} {a : Option Addr} {n : Nat} {f g : Nat → Int} (h : OwnIn w lo hi a n f) (e : ∀ i, i < n → f i = g i) : OwnIn w lo hi a n g := by
  rcases h with h | ⟨b, off, h1, h2, h3, h4⟩
  · exact .inl h
  · exact .inr ⟨b, off, h1, h2, h3, fun i hi => by rw [← e i hi]; exact h4 i hi⟩
end Go.Proofs.YtkeeoelbnmacdaaDoor

namespace Go.Proofs.YtkeeoelbnmacdaaDoor
open Go.RowKit
set_option linter.unusedVariables false

def RetNum (w : World) (l : List UInt8) (e : Ending) (w' : World) : Prop :=
  ((OkNum l ∧ e = .returned (.tuple #[.int .i64 (numV l), .bool true])) ∨ (¬ OkNum l ∧ e = .returned (.tuple #[.int .i64 0, .bool false]))) ∧ Below w.heap.size w w'

set_option maxRecDepth 100000 in
set_option maxHeartbeats 1600000 in
theorem l10Number_minus (s : ByteArray) (w : World) (hs : s.size ≤ 1048576) (h1 : 1 < s.size) (h45 : (s[0]'(by omega)).toNat = 45) :
    Calls Tryd.prog 28 #[.string s] w (RetNum w s.data.toList) := by
  have HD0 := Lib.hid (numD_minus (by omega) h45)
  have hz : (s.extract 1 s.size).size = s.size - 1 := by rw [ByteArray.size_extract]; omega
  have hx : ((s[0]'(by omega)).toNat : Int) = 45 := by omega
  have hy : (((s[0]'(by omega)).toNat : Int) == 45) = true := by rw [hx]; rfl
  go_enter Tryd.func28, Tryd.ntmps28
  go_upto_region 4 with (fail)
  all_goals first | (exfalso; omega) | skip
  have HZ : Hid ((s.extract 1 s.size).size = s.size - 1) := Lib.hid hz
  clear hz hx hy
  generalize s.extract 1 s.size = d at *
  have HD := HD0
  have hds : d.size ≤ 1048576 := by have := HZ.out; omega
  by_cases hlen : 1 ≤ d.size ∧ d.size ≤ 10
  · obtain ⟨hl1, hl2⟩ := hlen
    by_cases h0 : (d[0]'hl1).toNat = 48 ∧ (1 < d.size ∨ 1 < s.size)
    · have hno := Lib.hid (notOk_hd HD.out hl1 h0.1 (by rw [size_list]; exact h0.2))
      obtain ⟨h00, h01⟩ := h0
      go_wp2
      all_goals first | (exfalso; omega) | (go_ret2; exact ⟨.inr ⟨hno.out, rfl⟩, Below.refl _ _⟩)
    · go_wp2_with fail
      all_goals first | (exfalso; omega) | skip
      all_goals (
        go_loop [5, 6] (fun a p => ∃ k : Nat, k ≤ d.size ∧ p = .int .i64 (k : Int) ∧ a = .int .i64 (dgB d k) ∧ Hid (∀ i (h : i < d.size), i < k → isDg (d[i]'h))) (fun _ p => d.size - (intOf p).toNat)
        case atStart => exact ⟨0, Nat.zero_le _, rfl, by rw [dgB_zero], Lib.hid fun i _ h => absurd h (by omega)⟩
        case round =>
          obtain ⟨k, hk, rfl, rfl, HA⟩ := hrel
          have hb := dgB_bd d k hk (by omega) HA.out
          by_cases hlt : k < d.size
          · by_cases hdg : isDg (d[k]'hlt)
            · have hs1 := Lib.hid (dgB_succ d k hlt)
              have hd9 := hdg
              unfold isDg at hd9
              have HA2 : Hid (∀ i (h : i < d.size), i < k + 1 → isDg (d[i]'h)) := Lib.hid fun i h h2 => by
                rcases Nat.lt_or_ge i k with h3 | h3
                · exact HA.out i h h3
                · obtain rfl : i = k := by omega
                  exact hdg
              obtain ⟨hd91, hd92⟩ := hd9
              go_wp2
              all_goals first | (exfalso; omega) | skip
              go_round
              case rel => exact ⟨k + 1, by omega, by go_num, by rw [hs1.out], HA2⟩
              case measure => simp [intOf]; omega
            · have hno := Lib.hid (notOk_at HD.out k hlt hdg)
              unfold isDg at hdg
              go_wp2
              all_goals first | (exfalso; omega) | (go_ret2; exact ⟨.inr ⟨hno.out, rfl⟩, Below.refl _ _⟩)
          · obtain rfl : k = d.size := by omega
            have hok := Lib.hid (isOk_of HD.out hl1 hl2 (fun h => by rw [size_list]; omega) (fun k h => HA.out k h h))
            have hv := Lib.hid (numV_of hok.out HD.out)
            by_cases hneg : d.size < s.size
            · go_wp2
              all_goals first | (exfalso; omega) | skip
              go_ret2
              exact ⟨.inl ⟨hok.out, by rw [hv.out, if_pos (by rw [size_list]; exact hneg)]; rfl⟩, Below.refl _ _⟩
            · go_wp2
              all_goals first | (exfalso; omega) | skip
              go_ret2
              exact ⟨.inl ⟨hok.out, by rw [hv.out, if_neg (by rw [size_list]; exact hneg)]; rfl⟩, Below.refl _ _⟩)
  · have hno := Lib.hid (notOk_len HD.out hlen)
    go_wp2
    all_goals first | (exfalso; omega) | (go_ret2; exact ⟨.inr ⟨hno.out, rfl⟩, Below.refl _ _⟩)

set_option maxRecDepth 100000 in
set_option maxHeartbeats 1600000 in
theorem l10Number_only (s : ByteArray) (w : World) (h1 : s.size = 1) (h45 : (s[0]'(by omega)).toNat = 45) :
    Calls Tryd.prog 28 #[.string s] w (RetNum w s.data.toList) := by
  have hno := Lib.hid (okNum_minus h1 h45)
  have hx : ((s[0]'(by omega)).toNat : Int) = 45 := by omega
  have hy : (((s[0]'(by omega)).toNat : Int) == 48) = false := by rw [hx]; rfl
  go_enter Tryd.func28, Tryd.ntmps28
  go_wp2
  all_goals first | (exfalso; omega) | skip
  go_loop [6] (fun p => p = .int .i64 0) (fun p => 0)
  case atStart => rfl
  case round =>
    obtain rfl := hrel
    go_wp2
    all_goals first | (exfalso; omega) | (go_ret2; exact ⟨.inr ⟨hno.out, rfl⟩, Below.refl _ _⟩)

set_option maxRecDepth 100000 in
set_option maxHeartbeats 1600000 in
theorem l10Number_plain (s : ByteArray) (w : World) (hs : s.size ≤ 1048576) (h45 : ∀ h0 : 0 < s.size, (s[0]'h0).toNat ≠ 45) :
    Calls Tryd.prog 28 #[.string s] w (RetNum w s.data.toList) := by
  have HD0 := Lib.hid (numD_plain h45)
  by_cases h1 : 1 < s.size
  · have hx : ¬ ((s[0]'(by omega)).toNat : Int) = 45 := by have := h45 (by omega); omega
    have hy : (((s[0]'(by omega)).toNat : Int) == 45) = false := by simpa using hx
    go_enter Tryd.func28, Tryd.ntmps28
    go_upto_region 4 with (fail)
    all_goals first | (exfalso; omega) | skip
    clear hx hy h45
    obtain ⟨d, hds, HD⟩ : ∃ d, s = d ∧ Hid (numD s.data.toList = d.data.toList) := ⟨s, rfl, HD0⟩
    clear HD0
    subst hds
    by_cases hlen : 1 ≤ s.size ∧ s.size ≤ 10
    · obtain ⟨hl1, hl2⟩ := hlen
      by_cases h0 : (s[0]'hl1).toNat = 48 ∧ (1 < s.size ∨ 1 < s.size)
      · have hno := Lib.hid (notOk_hd HD.out hl1 h0.1 (by rw [size_list]; exact h0.2))
        obtain ⟨h00, h01⟩ := h0
        go_wp2
        all_goals first | (exfalso; omega) | (go_ret2; exact ⟨.inr ⟨hno.out, rfl⟩, Below.refl _ _⟩)
      · go_wp2_with fail
        all_goals first | (exfalso; omega) | skip
        all_goals (
          go_loop [5, 6] (fun a p => ∃ k : Nat, k ≤ s.size ∧ p = .int .i64 (k : Int) ∧ a = .int .i64 (dgB s k) ∧ Hid (∀ i (h : i < s.size), i < k → isDg (s[i]'h))) (fun _ p => s.size - (intOf p).toNat)
          case atStart => exact ⟨0, Nat.zero_le _, rfl, by rw [dgB_zero], Lib.hid fun i _ h => absurd h (by omega)⟩
          case round =>
            obtain ⟨k, hk, rfl, rfl, HA⟩ := hrel
            have hb := dgB_bd s k hk (by omega) HA.out
            by_cases hlt : k < s.size
            · by_cases hdg : isDg (s[k]'hlt)
              · have hs1 := Lib.hid (dgB_succ s k hlt)
                have hd9 := hdg
                unfold isDg at hd9
                have HA2 : Hid (∀ i (h : i < s.size), i < k + 1 → isDg (s[i]'h)) := Lib.hid fun i h h2 => by
                  rcases Nat.lt_or_ge i k with h3 | h3
                  · exact HA.out i h h3
                  · obtain rfl : i = k := by omega
                    exact hdg
                obtain ⟨hd91, hd92⟩ := hd9
                go_wp2
                all_goals first | (exfalso; omega) | skip
                go_round
                case rel => exact ⟨k + 1, by omega, by go_num, by rw [hs1.out], HA2⟩
                case measure => simp [intOf]; omega
              · have hno := Lib.hid (notOk_at HD.out k hlt hdg)
                unfold isDg at hdg
                go_wp2
                all_goals first | (exfalso; omega) | (go_ret2; exact ⟨.inr ⟨hno.out, rfl⟩, Below.refl _ _⟩)
            · obtain rfl : k = s.size := by omega
              have hok := Lib.hid (isOk_of HD.out hl1 hl2 (fun h => by rw [size_list]; omega) (fun k h => HA.out k h h))
              have hv := Lib.hid (numV_of hok.out HD.out)
              by_cases hneg : s.size < s.size
              · exact absurd hneg (by omega)
              · go_wp2
                all_goals first | (exfalso; omega) | skip
                go_ret2
                exact ⟨.inl ⟨hok.out, by rw [hv.out, if_neg (by rw [size_list]; exact hneg)]; rfl⟩, Below.refl _ _⟩)
    · have hno := Lib.hid (notOk_len HD.out hlen)
      go_wp2
      all_goals first | (exfalso; omega) | (go_ret2; exact ⟨.inr ⟨hno.out, rfl⟩, Below.refl _ _⟩)
  · go_enter Tryd.func28, Tryd.ntmps28
    go_upto_region 4 with (fail)
    all_goals first | (exfalso; omega) | skip
    clear h45
    have HD := HD0
    by_cases hlen : 1 ≤ s.size ∧ s.size ≤ 10
    · obtain ⟨hl1, hl2⟩ := hlen
      by_cases h0 : (s[0]'hl1).toNat = 48 ∧ (1 < s.size ∨ 1 < s.size)
      · have hno := Lib.hid (notOk_hd HD.out hl1 h0.1 (by rw [size_list]; exact h0.2))
        obtain ⟨h00, h01⟩ := h0
        go_wp2
        all_goals first | (exfalso; omega) | (go_ret2; exact ⟨.inr ⟨hno.out, rfl⟩, Below.refl _ _⟩)
      · go_wp2_with fail
        all_goals first | (exfalso; omega) | skip
        all_goals (
          go_loop [5, 6] (fun a p => ∃ k : Nat, k ≤ s.size ∧ p = .int .i64 (k : Int) ∧ a = .int .i64 (dgB s k) ∧ Hid (∀ i (h : i < s.size), i < k → isDg (s[i]'h))) (fun _ p => s.size - (intOf p).toNat)
          case atStart => exact ⟨0, Nat.zero_le _, rfl, by rw [dgB_zero], Lib.hid fun i _ h => absurd h (by omega)⟩
          case round =>
            obtain ⟨k, hk, rfl, rfl, HA⟩ := hrel
            have hb := dgB_bd s k hk (by omega) HA.out
            by_cases hlt : k < s.size
            · by_cases hdg : isDg (s[k]'hlt)
              · have hs1 := Lib.hid (dgB_succ s k hlt)
                have hd9 := hdg
                unfold isDg at hd9
                have HA2 : Hid (∀ i (h : i < s.size), i < k + 1 → isDg (s[i]'h)) := Lib.hid fun i h h2 => by
                  rcases Nat.lt_or_ge i k with h3 | h3
                  · exact HA.out i h h3
                  · obtain rfl : i = k := by omega
                    exact hdg
                obtain ⟨hd91, hd92⟩ := hd9
                go_wp2
                all_goals first | (exfalso; omega) | skip
                go_round
                case rel => exact ⟨k + 1, by omega, by go_num, by rw [hs1.out], HA2⟩
                case measure => simp [intOf]; omega
              · have hno := Lib.hid (notOk_at HD.out k hlt hdg)
                unfold isDg at hdg
                go_wp2
                all_goals first | (exfalso; omega) | (go_ret2; exact ⟨.inr ⟨hno.out, rfl⟩, Below.refl _ _⟩)
            · obtain rfl : k = s.size := by omega
              have hok := Lib.hid (isOk_of HD.out hl1 hl2 (fun h => by rw [size_list]; omega) (fun k h => HA.out k h h))
              have hv := Lib.hid (numV_of hok.out HD.out)
              by_cases hneg : s.size < s.size
              · exact absurd hneg (by omega)
              · go_wp2
                all_goals first | (exfalso; omega) | skip
                go_ret2
                exact ⟨.inl ⟨hok.out, by rw [hv.out, if_neg (by rw [size_list]; exact hneg)]; rfl⟩, Below.refl _ _⟩)
    · have hno := Lib.hid (notOk_len HD.out hlen)
      go_wp2
      all_goals first | (exfalso; omega) | (go_ret2; exact ⟨.inr ⟨hno.out, rfl⟩, Below.refl _ _⟩)

theorem l10Number_any (s : ByteArray) (w : World) (hs : s.size ≤ 1048576) :
    Calls Tryd.prog 28 #[.string s] w (RetNum w s.data.toList) := by
  by_cases h : ∃ h0 : 0 < s.size, (s[0]'h0).toNat = 45
  · obtain ⟨h0, h45⟩ := h
    by_cases h1 : 1 < s.size
    · exact l10Number_minus s w hs h1 h45
    · exact l10Number_only s w (by omega) h45
  · exact l10Number_plain s w hs fun h0 e => h ⟨h0, e⟩
end Go.Proofs.YtkeeoelbnmacdaaDoor

namespace Go.Proofs.YtkeeoelbnmacdaaDoor
open Go.RowKit
set_option linter.unusedVariables false

theorem beqL (a : ByteArray) (l : List UInt8) : (a.toList == l) = true ↔ a = ⟨l.toArray⟩ := by
  rw [beq_iff_eq, ByteArray.toList_eq]
  constructor
  · intro h
    apply ByteArray.ext
    rw [← h]
  · intro h
    rw [h]

theorem slice_minus {s : ByteArray} (h0 : 1 ≤ s.size) : (s.extract 0 1 = ⟨#[45]⟩) ↔ (s[0]'h0).toNat = 45 := by
  constructor
  · intro h
    have h1 : (s.extract 0 1)[0]'(by rw [ByteArray.size_extract]; omega) = 45 := by simp only [h]; rfl
    rw [ByteArray.getElem_extract] at h1
    simp only [Nat.zero_add] at h1
    rw [h1]; rfl
  · intro h
    apply ByteArray.ext
    apply Array.ext
    · have : (s.extract 0 1).size = 1 := by rw [ByteArray.size_extract]; omega
      exact this
    · intro i h1 h2
      have hi : i = 0 := by simp at h2; omega
      subst hi
      have : (s.extract 0 1)[0]'(by rw [ByteArray.size_extract]; omega) = s[0]'h0 := by rw [ByteArray.getElem_extract]
      have h3 : s[0]'h0 = 45 := UInt8.toNat_inj.1 (by rw [h]; rfl)
      rw [h3] at this
      exact this

set_option maxHeartbeats 1600000 in
theorem trimMinus_yes (s : ByteArray) (w : World) (hs : s.size ≤ 1048576) (h0 : 1 ≤ s.size) (h : (s[0]'h0).toNat = 45) :
    Calls Tryd.prog 47 #[.string s, .string ⟨#[45]⟩] w fun e w' => e = .returned (.string (s.extract 1 s.size)) ∧ w' = w := by
  have hx : ((s.extract 0 1).toList == [45]) = true := (beqL _ _).2 ((slice_minus h0).2 h)
  have h1 : (1 : Int) ≤ (s.size : Int) := by omega
  go_enter Tryd.func47, Tryd.ntmps47
  go_wp2
  go_ret
  exact ⟨rfl, rfl⟩

set_option maxHeartbeats 1600000 in
theorem trimMinus_no (s : ByteArray) (w : World) (hs : s.size ≤ 1048576) (h : ∀ h0 : 1 ≤ s.size, (s[0]'h0).toNat ≠ 45) :
    Calls Tryd.prog 47 #[.string s, .string ⟨#[45]⟩] w fun e w' => e = .returned (.string s) ∧ w' = w := by
  by_cases h0 : 1 ≤ s.size
  · have hx : ((s.extract 0 1).toList == [45]) = false := by
      rw [Bool.eq_false_iff]
      intro h1
      exact h h0 ((slice_minus h0).1 ((beqL _ _).1 h1))
    have h1 : (1 : Int) ≤ (s.size : Int) := by omega
    clear h
    go_enter Tryd.func47, Tryd.ntmps47
    go_wp2
    go_ret
    exact ⟨rfl, rfl⟩
  · have h1 : (s.size : Int) < 1 := by omega
    clear h
    go_enter Tryd.func47, Tryd.ntmps47
    go_wp2
    go_ret
    exact ⟨rfl, rfl⟩

theorem zero_word {s d : ByteArray} (hD : numD s.data.toList = d.data.toList) (h : s = ⟨#[48]⟩) : d.size ≤ 1 ∧ s.data.toList.length ≤ 1 := by
  subst h
  have h3 : d.data.toList.length = 1 := by rw [← hD]; rfl
  rw [size_list] at h3
  exact ⟨by omega, by decide⟩
end Go.Proofs.YtkeeoelbnmacdaaDoor

namespace Go.Proofs.YtkeeoelbnmacdaaDoor
open Go.RowKit Go.Extern.Stop Go.Stop Go.Extern
set_option linter.unusedVariables false

/-- errors.As(nil, target). -/
theorem as_nil (t : Value) (w : World) :
    Calls Tryd.prog 45 #[.nilIface, t] w fun e w' => e = .returned (.bool false) ∧ w' = w := by
  go_enter Tryd.func45, Tryd.ntmps45
  go_wp2
  go_ret
  exact ⟨rfl, rfl⟩

theorem asx_valueOf27 (t : Addr) (w : World) : (ReflectliteValue.unpack (.iface 80 (.pointer (some t)))).run Tryd.prog w
    = .ok (.agg #[.pointer (some ⟨5, 80, none⟩), .pointer (some ⟨w.heap.size, 0, none⟩), .int .u64 150]) (w.alloc (.cells #[.pointer (some t)] 80)) := by kernel_rfl

theorem asx_type27 (a : Addr) (w : World) : (ReflectliteValue.methodAny (ReflectliteValue.valueError "reflectlite.Value.Type" 0) (fun t _ _ _ => ReflectliteType.toType t) #[.agg #[.pointer (some ⟨5, 80, none⟩), .pointer (some a), .int .u64 150]]).run Tryd.prog w
    = .ok (.iface 132 (.agg #[.pointer (some ⟨5, 80, none⟩)])) w := by kernel_rfl

theorem asx_methodKind (h : Value) (w : World) : (Go.method 340 132 (.agg #[h]) "Kind").run Tryd.prog w = .ok (146, h) w := by kernel_rfl

theorem asx_kind27 (w : World) : ((ReflectliteType.abiMethod fun t => (fun a : Nat => Value.int IntKind.u8 (a : Int)) <$> Rtype.kind t) #[.pointer (some ⟨5, 80, none⟩)]).run Tryd.prog w = .ok (.int .u8 22) w := by kernel_rfl

theorem asx_kind25 (w : World) : ((ReflectliteType.abiMethod fun t => (fun a : Nat => Value.int IntKind.u8 (a : Int)) <$> Rtype.kind t) #[.pointer (some ⟨5, 78, none⟩)]).run Tryd.prog w = .ok (.int .u8 25) w := by kernel_rfl

theorem rlm (z : Sem Value) (f : TypeId → Addr → Nat → Nat → Sem Value) (v : Value) :
    ReflectliteValue.method z f #[v] = (do match ← ReflectliteValue.parts v with | none => z | some (t, a, fl) => f t a fl (fl % 32)) := rfl

theorem asx_parts27 (a : Addr) (w : World) : (ReflectliteValue.parts (.agg #[.pointer (some ⟨5, 80, none⟩), .pointer (some a), .int .u64 150])).run Tryd.prog w = .ok (some (80, a, 150)) w := by kernel_rfl

/-- (Value).IsNil at the Value of a **p.E that is not nil. -/
theorem asx_isNil27 (a p : Addr) (W : World) (ha : W.cell? a = some (.pointer (some p))) :
    (ReflectliteValue.method (ReflectliteValue.valueError "reflectlite.Value.IsNil" 0) ReflectliteValue.isNil #[.agg #[.pointer (some ⟨5, 80, none⟩), .pointer (some a), .int .u64 150]]).run Tryd.prog W = .ok (.bool false) W := by
  rw [rlm]
  simp only [Sem.run_bind, asx_parts27, Result.andThen]
  simp [ReflectliteValue.isNil, loadVar, isAgg, underlying, Tryd.underlying80, ha, Result.andThen]

theorem asx_methodElem (h : Value) (w : World) : (Go.method 340 132 (.agg #[h]) "Elem").run Tryd.prog w = .ok (157, .agg #[h]) w := by kernel_rfl

theorem asx_methodImplements (h : Value) (w : World) : (Go.method 340 132 (.agg #[h]) "Implements").run Tryd.prog w = .ok (158, .agg #[h]) w := by kernel_rfl

theorem asx_methodAssignableTo (h : Value) (w : World) : (Go.method 340 132 (.agg #[h]) "AssignableTo").run Tryd.prog w = .ok (155, .agg #[h]) w := by kernel_rfl

theorem asx_elem27 (w : World) : (ReflectliteType.method ReflectliteType.elem #[.agg #[.pointer (some ⟨5, 80, none⟩)]]).run Tryd.prog w = .ok (.iface 132 (.agg #[.pointer (some ⟨5, 78, none⟩)])) w := by kernel_rfl

theorem asx_implements25 (w : World) : (ReflectliteType.relation "Implements" ReflectliteType.implements_ #[.agg #[.pointer (some ⟨5, 78, none⟩)], .iface 132 (.agg #[.pointer (some ⟨5, 49, none⟩)])]).run Tryd.prog w = .ok (.bool true) w := by kernel_rfl

theorem asx_typeOf25 (v : Value) (w : World) : (ReflectliteType.typeOf #[.iface 78 v]).run Tryd.prog w = .ok (.iface 132 (.agg #[.pointer (some ⟨5, 78, none⟩)])) w := by kernel_rfl

theorem asx_assignable25 (w : World) : (ReflectliteType.relation "AssignableTo" ReflectliteType.assignableTo #[.agg #[.pointer (some ⟨5, 78, none⟩)], .iface 132 (.agg #[.pointer (some ⟨5, 78, none⟩)])]).run Tryd.prog w = .ok (.bool true) w := by kernel_rfl

theorem asx_valueOf25 (e : Int) (w : World) : (ReflectliteValue.unpack (.iface 78 (.agg #[.int .i64 e]))).run Tryd.prog w
    = .ok (.agg #[.pointer (some ⟨5, 78, none⟩), .pointer (some ⟨w.heap.size, 0, none⟩), .int .u64 153]) (w.alloc (.cells #[.int .i64 e] 78)) := by kernel_rfl

theorem asx_elemOf27 (w : World) : (Rtype.elem? 80).run Tryd.prog w = .ok (some 78) w := by kernel_rfl

theorem asx_mk25 (p : Addr) (w : World) : (ReflectliteValue.mk 78 p ReflectliteValue.flagAddr).run Tryd.prog w = .ok (.agg #[.pointer (some ⟨5, 78, none⟩), .pointer (some p), .int .u64 409]) w := by kernel_rfl

/-- (Value).Elem at the Value of a **p.E that is not nil: the Value of the *p.E variable that it points to, addressable. -/
theorem asx_elemV27 (a p : Addr) (W : World) (ha : W.cell? a = some (.pointer (some p))) :
    (ReflectliteValue.method (ReflectliteValue.valueError "reflectlite.Value.Elem" 0) ReflectliteValue.elem #[.agg #[.pointer (some ⟨5, 80, none⟩), .pointer (some a), .int .u64 150]]).run Tryd.prog W
      = .ok (.agg #[.pointer (some ⟨5, 78, none⟩), .pointer (some p), .int .u64 409]) W := by
  rw [rlm]
  simp only [Sem.run_bind, asx_parts27, Result.andThen]
  simp [ReflectliteValue.elem, loadVar, isAgg, underlying, Tryd.underlying80, ha, Result.andThen, asx_elemOf27, asx_mk25]

theorem rls (v x : Value) : ReflectliteValue.set #[v, x] = (do
    let (some (dst, a, fl), some (src, b, _)) := (← ReflectliteValue.parts v, ← ReflectliteValue.parts x)
      | unsupported (.noEntry "extern/(internal/reflectlite.Value).Set.zeroValue")
    if fl / ReflectliteValue.flagAddr % 2 == 0 then unsupported (.noEntry "extern/(internal/reflectlite.Value).Set.unaddressable")
    let val ← loadVar src b
    if ← Rtype.directlyAssignable dst src then storeVar dst a val
    else if ← Rtype.implements dst src then
      if (← Rtype.kind src) == 20 then
        match val with
        | .nilIface => unsupported (.noEntry "extern/reflectlite: a nil value of one interface type handed on as a value of another")
        | _ => storeVar dst a val
      else storeVar dst a (.iface src val)
    else panicString ("reflectlite.Set: value of type " ++ (← Rtype.spelt src) ++ " is not assignable to type " ++ (← Rtype.spelt dst))
    pure (.tuple #[])) := rfl

theorem asx_parts25a (a : Addr) (w : World) : (ReflectliteValue.parts (.agg #[.pointer (some ⟨5, 78, none⟩), .pointer (some a), .int .u64 409])).run Tryd.prog w = .ok (some (78, a, 409)) w := by kernel_rfl

theorem asx_parts25 (a : Addr) (w : World) : (ReflectliteValue.parts (.agg #[.pointer (some ⟨5, 78, none⟩), .pointer (some a), .int .u64 153])).run Tryd.prog w = .ok (some (78, a, 153)) w := by kernel_rfl

theorem asx_direct25 (w : World) : (Rtype.directlyAssignable 78 78).run Tryd.prog w = .ok true w := by kernel_rfl

theorem asx_load (b : Addr) (e : Int) (W : World) (hb : W.cell? b = some (.int .i64 e)) : (loadVar 78 b).run Tryd.prog W = .ok (.agg #[.int .i64 e]) W := by
  have h1 := run_loadCells_list (P := Tryd.prog) (w := W) b [.int .i64 e] (by
    intro j v hj
    rcases j with _ | j
    · simp at hj; subst hj; exact hb
    · simp at hj)
  have h2 : (sizeOf 78).run Tryd.prog W = .ok 1 W := by kernel_rfl
  have h3 : (isAgg 78).run Tryd.prog W = .ok true W := by kernel_rfl
  unfold loadVar
  simp only [Sem.run_bind, h3, Result.andThen, if_true, h2]
  rw [show (1 : Nat) = [Value.int .i64 e].length from rfl, h1]
  rfl

theorem asx_store (ta : Addr) (e : Int) (old : Value) (W : World) (ht : W.cell? ta = some old) (hf : W.frozen? ta = false) : (storeVar 78 ta (.agg #[.int .i64 e])).run Tryd.prog W = .ok () (W.setCell ta (.int .i64 e)) := by
  have h2 : (sizeOf 78).run Tryd.prog W = .ok 1 W := by kernel_rfl
  simp [storeVar, h2, Result.andThen, Value.cells, storeCells, Addr.add]
  rw [run_store Tryd.prog W ta _ _ (by rfl)]
  simp [ht, hf]

/-- (Value).Set: the *p.E variable at 'ta' gets what the Value's own variable 'b' holds. -/
theorem asx_set25 (ta b : Addr) (e : Int) (old : Value) (W : World) (hb : W.cell? b = some (.int .i64 e)) (ht : W.cell? ta = some old) (hf : W.frozen? ta = false) :
    (ReflectliteValue.set #[.agg #[.pointer (some ⟨5, 78, none⟩), .pointer (some ta), .int .u64 409], .agg #[.pointer (some ⟨5, 78, none⟩), .pointer (some b), .int .u64 153]]).run Tryd.prog W
      = .ok (.tuple #[]) (W.setCell ta (.int .i64 e)) := by
  rw [rls]
  simp only [Sem.run_bind, asx_parts25a, asx_parts25, Result.andThen]
  simp [ReflectliteValue.flagAddr, asx_load b e W hb, Result.andThen, asx_direct25, asx_store ta e old W ht hf]

set_option maxHeartbeats 4000000 in
theorem as_hit (e : Int) (t : Addr) (old : Value) (w : World) (hg : w.cell? ⟨0, 0, none⟩ = some (.iface 132 (.agg #[.pointer (some ⟨5, 49, none⟩)]))) (ht0 : w.cell? t = some old) (hf0 : w.frozen? t = false) :
    Calls Tryd.prog 45 #[.iface 78 (.agg #[.int .i64 e]), .iface 80 (.pointer (some t))] w fun ev w' => ev = .returned (.bool true) ∧ w' = ((((w.alloc (.cells #[.pointer (some t)] 80)).alloc (.cells #[.pointer (some ⟨5, 80, none⟩), .pointer (some ⟨w.heap.size, 0, none⟩), .int .u64 150] 117)).alloc (.cells #[.pointer (some ⟨5, 80, none⟩), .pointer (some ⟨w.heap.size, 0, none⟩), .int .u64 150] 117)).alloc (.cells #[.int .i64 e] 78)).setCell t (.int .i64 e) := by
  have h6 := @run_callFunc_extern Tryd.prog 60 _ (fun args => ReflectliteValue.unpack (args.getD 0 (.tuple #[]))) Tryd.func60 (by kernel_rfl) (by kernel_rfl) (by kernel_rfl) (by kernel_rfl)
  have h7 := @run_callFunc_extern Tryd.prog 61 _ (ReflectliteValue.methodAny (ReflectliteValue.valueError "reflectlite.Value.Type" 0) (fun t _ _ _ => ReflectliteType.toType t)) Tryd.func61 (by kernel_rfl) (by kernel_rfl) (by kernel_rfl) (by kernel_rfl)
  have h8 := @run_callFunc_extern Tryd.prog 62 _ (ReflectliteValue.method (ReflectliteValue.valueError "reflectlite.Value.IsNil" 0) ReflectliteValue.isNil) Tryd.func62 (by kernel_rfl) (by kernel_rfl) (by kernel_rfl) (by kernel_rfl)
  have h27 := @run_callFunc_extern Tryd.prog 146 _ (ReflectliteType.abiMethod fun t => do pure (.int .u8 (← Rtype.kind t))) Tryd.func146 (by kernel_rfl) (by kernel_rfl) (by kernel_rfl) (by kernel_rfl)
  have h37 := @run_callFunc_extern Tryd.prog 157 _ (ReflectliteType.method ReflectliteType.elem) Tryd.func157 (by kernel_rfl) (by kernel_rfl) (by kernel_rfl) (by kernel_rfl)
  have h38 := @run_callFunc_extern Tryd.prog 158 _ (ReflectliteType.relation "Implements" ReflectliteType.implements_) Tryd.func158 (by kernel_rfl) (by kernel_rfl) (by kernel_rfl) (by kernel_rfl)
  have h10 := @run_callFunc_extern Tryd.prog 80 _ ReflectliteType.typeOf Tryd.func80 (by kernel_rfl) (by kernel_rfl) (by kernel_rfl) (by kernel_rfl)
  have h35 := @run_callFunc_extern Tryd.prog 155 _ (ReflectliteType.relation "AssignableTo" ReflectliteType.assignableTo) Tryd.func155 (by kernel_rfl) (by kernel_rfl) (by kernel_rfl) (by kernel_rfl)
  have h11 := @run_callFunc_extern Tryd.prog 81 _ (ReflectliteValue.method (ReflectliteValue.valueError "reflectlite.Value.Elem" 0) ReflectliteValue.elem) Tryd.func81 (by kernel_rfl) (by kernel_rfl) (by kernel_rfl) (by kernel_rfl)
  have h12 := @run_callFunc_extern Tryd.prog 82 _ ReflectliteValue.set Tryd.func82 (by kernel_rfl) (by kernel_rfl) (by kernel_rfl) (by kernel_rfl)
  have tO := asx_typeOf25
  have mA := asx_methodAssignableTo
  have a25 := asx_assignable25
  have v25 := asx_valueOf25
  have f6 := asx_valueOf27
  have f7 := asx_type27
  have mK := asx_methodKind
  have mE := asx_methodElem
  have mI := asx_methodImplements
  have k27 := asx_kind27
  have k25 := asx_kind25
  have e27 := asx_elem27
  have i25 := asx_implements25
  have n8 := asx_isNil27 ⟨w.heap.size, 0, none⟩ t ((w.alloc (.cells #[.pointer (some t)] 80)).alloc (.cells #[.pointer (some ⟨5, 80, none⟩), .pointer (some ⟨w.heap.size, 0, none⟩), .int .u64 150] 117)) (by simp)
  have hlt : 0 < w.heap.size := by
    rcases Nat.lt_or_ge 0 w.heap.size with h | h
    · exact h
    · simp [World.cell?, Array.getElem?_eq_none h] at hg
  have hg2 : ((w.alloc (.cells #[.pointer (some t)] 80)).alloc (.cells #[.pointer (some ⟨5, 80, none⟩), .pointer (some ⟨w.heap.size, 0, none⟩), .int .u64 150] 117)).cell? ⟨0, 0, none⟩ = some (.iface 132 (.agg #[.pointer (some ⟨5, 49, none⟩)])) := by
    rw [World.cell?_alloc_lt _ _ ⟨0, 0, none⟩ (by simp), World.cell?_alloc_lt _ _ ⟨0, 0, none⟩ hlt]; exact hg
  have htl : t.block < w.heap.size := by
    rcases Nat.lt_or_ge t.block w.heap.size with h | h
    · exact h
    · simp [World.cell?, Array.getElem?_eq_none h] at ht0
  have el := asx_elemV27 ⟨w.heap.size, 0, none⟩ t (((w.alloc (.cells #[.pointer (some t)] 80)).alloc (.cells #[.pointer (some ⟨5, 80, none⟩), .pointer (some ⟨w.heap.size, 0, none⟩), .int .u64 150] 117)).alloc (.cells #[.pointer (some ⟨5, 80, none⟩), .pointer (some ⟨w.heap.size, 0, none⟩), .int .u64 150] 117)) (by rw [World.cell?_alloc_lt _ _ ⟨w.heap.size, 0, none⟩ (by simp; omega)]; simp)
  have st := asx_set25 t ⟨w.heap.size + 1 + 1 + 1, 0, none⟩ e old ((((w.alloc (.cells #[.pointer (some t)] 80)).alloc (.cells #[.pointer (some ⟨5, 80, none⟩), .pointer (some ⟨w.heap.size, 0, none⟩), .int .u64 150] 117)).alloc (.cells #[.pointer (some ⟨5, 80, none⟩), .pointer (some ⟨w.heap.size, 0, none⟩), .int .u64 150] 117)).alloc (.cells #[.int .i64 e] 78))
    (by rw [World.cell?_alloc_at _ _ _ _ (by simp)]; rfl)
    (by rw [World.cell?_alloc_lt _ _ t (by simp; omega), World.cell?_alloc_lt _ _ t (by simp; omega), World.cell?_alloc_lt _ _ t (by simp; omega), World.cell?_alloc_lt _ _ t htl]; exact ht0)
    (by rw [World.frozen?_alloc_old _ _ t (by simp; omega), World.frozen?_alloc_old _ _ t (by simp; omega), World.frozen?_alloc_old _ _ t (by simp; omega), World.frozen?_alloc_old _ _ t (Nat.ne_of_lt htl)]; exact hf0)
  go_enter Tryd.func45, Tryd.ntmps45
  go_wp2
  refine wp_loop_rounds 1 ?_
  rw [rounds_succ]
  go_wp2
  go_ret
  exact ⟨rfl, rfl⟩
end Go.Proofs.YtkeeoelbnmacdaaDoor

namespace Go.Proofs.YtkeeoelbnmacdaaDoor
open Go.RowKit
set_option linter.unusedVariables false

/-- An integer comes back; nothing that was there is turned. -/
def RetInt (W : World) (r : Int) (e : Ending) (w' : World) : Prop := e = .returned (.int .i64 r) ∧ Below W.heap.size W w'

theorem b3_new {W : World} {cs : Array Value} {t : TypeId} {o : Nat} {v l g : Int} (h1 : cs[o]? = some (.int .i64 v)) (h2 : cs[o + 1]? = some (.int .i64 l)) (h3 : cs[o + 2]? = some (.int .i64 g)) : B3 (W.alloc (.cells cs t)) W.heap.size o v l g := by
  refine ⟨?_, ?_, ?_⟩ <;> (rw [World.cell?_alloc_at _ _ _ _ rfl]; assumption)

theorem isOut1 (B : Nat) (W : World) (v l g : Int) (r : Bool) (hB : B = W.heap.size) (hr : (r = false ∧ (l ≤ v ∧ v ≤ g)) ∨ (r = true ∧ ¬ (l ≤ v ∧ v ≤ g))) :
    Calls Tryd.prog 36 #[.slice (some ⟨B, 0, none⟩) 1 1] (W.alloc (.cells #[.int .i64 v, .int .i64 l, .int .i64 g] 67)) (RetBool (W.alloc (.cells #[.int .i64 v, .int .i64 l, .int .i64 g] 67)) r) := by
  subst hB
  rcases hr with ⟨rfl, hr⟩ | ⟨rfl, hr⟩
  · refine isOut_no W.heap.size 1 (fun _ => v) (fun _ => l) (fun _ => g) _ (by omega) (by simp) (fun i hi => ?_) (fun _ _ => hr)
    obtain rfl : i = 0 := by omega
    exact b3_new rfl rfl rfl
  · refine isOut_yes W.heap.size 1 (fun _ => v) (fun _ => l) (fun _ => g) _ (by omega) (by simp) (fun i hi => ?_) ⟨0, by omega, hr⟩
    obtain rfl : i = 0 := by omega
    exact b3_new rfl rfl rfl
end Go.Proofs.YtkeeoelbnmacdaaDoor

namespace Go.Proofs.YtkeeoelbnmacdaaDoor
open Go.RowKit
set_option linter.unusedVariables false

/-- what errors.errorType holds -/
def ETy (w : World) : Prop := w.cell? ⟨0, 0, none⟩ = some (.iface 132 (.agg #[.pointer (some ⟨5, 49, none⟩)]))

theorem ETy.lt {w : World} (h : ETy w) : 0 < w.heap.size := by
  rcases Nat.lt_or_ge 0 w.heap.size with h1 | h1
  · exact h1
  · simp [ETy, World.cell?, Array.getElem?_eq_none h1] at h

theorem ETy.below {w w' : World} (h : ETy w) (hb : Below w.heap.size w w') : ETy w' := by
  unfold ETy at *
  rw [hb.cell (p := ⟨0, 0, none⟩) (ETy.lt h)]; exact h

set_option maxHeartbeats 1600000 in
theorem codeOf_nil (w : World) : Calls Tryd.prog 24 #[.nilIface] w (RetInt w 0) := by
  go_enter Tryd.func24, Tryd.ntmps24
  go_wp2_with (go_at_call 45; refine (as_nil _ _).mono ?_; rintro e w' ⟨rfl, rfl⟩)
  go_ret
  exact ⟨rfl, (Below.refl _ _).alloc (Nat.le_refl _) _⟩

set_option maxHeartbeats 1600000 in
theorem codeOf_err (c : Int) (w : World) (hE : ETy w) : Calls Tryd.prog 24 #[.iface 78 (.agg #[.int .i64 c])] w (RetInt w c) := by
  have hg := ETy.below hE ((Below.refl _ w).alloc (Nat.le_refl _) (.cells #[.int .i64 0] 78))
  unfold ETy at hg
  have HG := Lib.hid hg
  clear hg hE
  go_enter Tryd.func24, Tryd.ntmps24
  go_wp2_with (go_at_call 45; refine (as_hit c ⟨w.heap.size, 0, none⟩ (.int .i64 0) _ HG.out (by simp) (by simp)).mono ?_; rintro e w' ⟨rfl, rfl⟩)
  go_ret
  refine ⟨rfl, ?_⟩
  exact (((((Below.refl _ _).alloc (Nat.le_refl _) _).alloc (by simp) _).alloc (by simp; omega) _).alloc (by simp; omega) _).alloc (by simp; omega) _
end Go.Proofs.YtkeeoelbnmacdaaDoor

namespace Go.Proofs.YtkeeoelbnmacdaaDoor
open Go.RowKit
set_option linter.unusedVariables false

def RetRd (w : World) (l : List UInt8) (e : Ending) (w' : World) : Prop :=
  ((OkNum l ∧ e = .returned (.tuple #[.int .i64 (numV l), .nilIface])) ∨ (¬ OkNum l ∧ e = .returned (.tuple #[.int .i64 0, .iface 78 (.agg #[.int .i64 5])]))) ∧ Below w.heap.size w w'

set_option maxRecDepth 100000 in
set_option maxHeartbeats 1600000 in
theorem readNumber_minus (s : ByteArray) (w : World) (hs : s.size ≤ 1048576) (h1 : 1 ≤ s.size) (h45 : (s[0]'h1).toNat = 45) :
    Calls Tryd.prog 29 #[.string s] w (RetRd w s.data.toList) := by
  have HD := Lib.hid (numD_minus h1 h45)
  have hz : (s.extract 1 s.size).size = s.size - 1 := by rw [ByteArray.size_extract]; omega
  have hp := trimMinus_yes s
  go_enter Tryd.func29, Tryd.ntmps29
  go_wp2_with fail
  refine (hp w hs h1 h45).mono ?_
  rintro e w ⟨rfl, rfl⟩
  generalize s.extract 1 s.size = d at *
  have hds : d.size < s.size := by omega
  have hne : (d.toList == s.toList) = false := by
    rw [Bool.eq_false_iff]
    intro h
    have := (beqL _ _).1 h
    rw [ByteArray.toList_eq] at this
    have h2 : d = s := this
    rw [h2] at hds
    omega
  clear hp hz
  by_cases hlen : 1 ≤ d.size ∧ d.size ≤ 10
  · obtain ⟨hl1, hl2⟩ := hlen
    go_wp2_with fail
    refine (isOut1 _ _ _ _ _ false rfl (.inl ⟨rfl, by omega, by omega⟩)).mono ?_
    rintro e w1 ⟨rfl, hb1⟩
    have HB1 := Lib.hid ((((Below.refl _ w).alloc (Nat.le_refl _) _)).trans (hb1.mono (by simp)))
    clear hb1
    go_wp2_with fail
    by_cases hz : (d[0]'hl1).toNat = 48 ∧ s ≠ ⟨#[48]⟩
    · have hno := Lib.hid (show ¬ OkNum s.data.toList from fun o => hz.2 (by
        have h1 := o.hd (by rw [HD.out, head_list d hl1]; congr 1; exact UInt8.toNat_inj.1 (by rw [hz.1]; rfl))
        apply ByteArray.ext; apply Array.toList_inj.1; rw [h1]))
      have hq : (s.toList == [48]) = false := by rw [Bool.eq_false_iff]; intro h1; exact hz.2 ((beqL _ _).1 h1)
      have hc := hz.1
      have hci : ((d[0]'hl1).toNat : Int) = 48 := by omega
      clear hz
      go_loopw [5] (fun a wr => wr = w1.iter d 0) (fun _ _ => 0)
      case atStart => rfl
      case round =>
        obtain rfl := hrel
        have hnx : ∀ ty, (Instr.next (.pointer (some ⟨w1.heap.size, 0, none⟩)) true ty).run Tryd.prog (w1.iter d 0) = _ := fun ty => Lib.run_next_ascii_at (w1.iter d 0) w1.heap.size d 0 ty (World.iter_heap w1 d 0) hl1 (by omega)
        rw [hc] at hnx
        have HB2 := Lib.hid (Lib.below_iterAt (HB1.out.alloc HB1.out.size (.stringIter d 0)) (k := w1.heap.size) HB1.out.size d (0 + 1))
        go_wp2
        all_goals first | (exfalso; omega) | (go_ret2; exact ⟨.inr ⟨hno.out, rfl⟩, HB2.out⟩)
    · have hz2 := Lib.hid (show (d[0]'hl1).toNat = 48 → s = ⟨#[48]⟩ from fun h => Classical.byContradiction fun h2 => hz ⟨h, h2⟩)
      clear hz
      go_loopw [5] (fun a wr => ∃ k : Nat, k ≤ d.size ∧ a = .int .i64 (dgB d k) ∧ wr.heap[w1.heap.size]? = some (.stringIter d k) ∧ Hid (Below w.heap.size w wr) ∧ Hid (∀ i (h : i < d.size), i < k → isDg (d[i]'h))) (fun _ wr => d.size - wr.iterPos w1.heap.size)
      case atStart => exact ⟨0, Nat.zero_le _, by rw [dgB_zero], World.iter_heap w1 d 0, HB1.out.alloc HB1.out.size _, Lib.hid fun i _ h => absurd h (by omega)⟩
      case round =>
        obtain ⟨k, hk, rfl, hit, HBr, HA⟩ := hrel
        have hb := dgB_bd d k hk (by omega) HA.out
        have HIT := Lib.hid hit
        by_cases hlt : k < d.size
        · by_cases hdg : isDg (d[k]'hlt)
          · have hs1 := Lib.hid (dgB_succ d k hlt)
            have hd9 := hdg
            unfold isDg at hd9
            have hnx : ∀ ty, (Instr.next (.pointer (some ⟨w1.heap.size, 0, none⟩)) true ty).run Tryd.prog wr = _ := fun ty => Lib.run_next_ascii_at wr w1.heap.size d k ty hit hlt (by omega)
            have HB2 := Lib.hid (Lib.below_iterAt HBr.out (k := w1.heap.size) HB1.out.size d (k + 1))
            have HI2 := Lib.hid (Lib.iterAt_heap wr w1.heap.size d k (k + 1) hit)
            have HA2 : Hid (∀ i (h : i < d.size), i < k + 1 → isDg (d[i]'h)) := Lib.hid fun i h h2 => by
              rcases Nat.lt_or_ge i k with h3 | h3
              · exact HA.out i h h3
              · obtain rfl : i = k := by omega
                exact hdg
            obtain ⟨hd91, hd92⟩ := hd9
            clear hit hdg
            by_cases h0 : k = 0 ∧ (d[k]'hlt).toNat = 48
            · obtain ⟨rfl, hc⟩ := h0
              have hq : (s.toList == [48]) = true := (beqL _ _).2 (hz2.out hc)
              rw [hc] at hnx
              have HC := Lib.hid hc
              clear hc
              go_wp2
              all_goals first | (exfalso; omega) | skip
              go_roundw
              case rel => exact ⟨0 + 1, by omega, by rw [hs1.out, HC.out]; go_num, HI2.out, HB2, HA2⟩
              case measure => simp only [World.iterPos, HI2.out, HIT.out]; omega
            · by_cases hc : (d[k]'hlt).toNat = 48
              · have hk1 : 1 ≤ k := by
                  rcases Nat.eq_zero_or_pos k with h | h
                  · exact absurd ⟨h, hc⟩ h0
                  · exact h
                have hk0 : ((k : Int) == 0) = false := by rw [Bool.eq_false_iff]; intro h; rw [beq_iff_eq] at h; omega
                rw [hc] at hnx
                have HC := Lib.hid hc
                clear hc h0
                go_wp2
                all_goals first | (exfalso; omega) | skip
                go_roundw
                case rel => exact ⟨k + 1, by omega, by rw [hs1.out, HC.out]; go_num, HI2.out, HB2, HA2⟩
                case measure => simp only [World.iterPos, HI2.out, HIT.out]; omega
              · clear h0
                have hc1 : 49 ≤ (d[k]'hlt).toNat := by omega
                have hk0 : (((d[k]'hlt).toNat : Int) == 48) = false := by rw [Bool.eq_false_iff]; intro h; rw [beq_iff_eq] at h; omega
                clear hc
                generalize hcc : (d[k]'hlt).toNat = c at *
                have HCC := Lib.hid hcc
                clear hcc
                go_wp2
                all_goals first | (exfalso; omega) | skip
                go_roundw
                case rel => exact ⟨k + 1, by omega, by rw [hs1.out]; go_num, HI2.out, HB2, HA2⟩
                case measure => simp only [World.iterPos, HI2.out, HIT.out]; omega
          · have hno := Lib.hid (notOk_at HD.out k hlt hdg)
            unfold isDg at hdg
            by_cases h128 : (d[k]'hlt).toNat < 128
            · have hnx : ∀ ty, (Instr.next (.pointer (some ⟨w1.heap.size, 0, none⟩)) true ty).run Tryd.prog wr = _ := fun ty => Lib.run_next_ascii_at wr w1.heap.size d k ty hit hlt h128
              have HB2 := Lib.hid (Lib.below_iterAt HBr.out (k := w1.heap.size) HB1.out.size d (k + 1))
              clear hit
              go_wp2
              all_goals first | (exfalso; omega) | (go_ret2; exact ⟨.inr ⟨hno.out, rfl⟩, HB2.out⟩)
            · have hnx : ∀ ty, (Instr.next (.pointer (some ⟨w1.heap.size, 0, none⟩)) true ty).run Tryd.prog wr = _ := fun ty => Lib.run_next_any_at wr w1.heap.size d k ty hit hlt
              have HB2 := Lib.hid (Lib.below_iterAt HBr.out (k := w1.heap.size) HB1.out.size d (k + (Utf8.decode d k).2))
              have hr := (decode_high d k hlt (by omega)).1
              have hr2 := decode_le d k
              clear hit
              go_wp2
              all_goals first | (exfalso; omega) | (go_ret2; exact ⟨.inr ⟨hno.out, rfl⟩, HB2.out⟩)
        · obtain rfl : k = d.size := by omega
          have hok := Lib.hid (isOk_of HD.out hl1 hl2 (fun h => zero_word HD.out (hz2.out h)) (fun k h => HA.out k h h))
          have hv := Lib.hid (numV_of hok.out HD.out)
          have hnx : ∀ ty, (Instr.next (.pointer (some ⟨w1.heap.size, 0, none⟩)) true ty).run Tryd.prog wr = _ := fun ty => Lib.run_next_end_at wr w1.heap.size d d.size ty hit hlt
          clear hit
          go_wp2
          all_goals first | (exfalso; omega) | skip
          go_ret2
          exact ⟨.inl ⟨hok.out, by rw [hv.out, if_pos (by rw [size_list]; exact hds)]; rfl⟩, HBr.out⟩
  · have hno := Lib.hid (notOk_len HD.out hlen)
    go_wp2_with fail
    refine (isOut1 _ _ _ _ _ true rfl (.inr ⟨rfl, by omega⟩)).mono ?_
    rintro e w1 ⟨rfl, hb1⟩
    have HB1 := Lib.hid ((((Below.refl _ w).alloc (Nat.le_refl _) _)).trans (hb1.mono (by simp)))
    clear hb1
    go_wp2
    all_goals (go_ret2; exact ⟨.inr ⟨hno.out, rfl⟩, HB1.out⟩)

set_option maxRecDepth 100000 in
set_option maxHeartbeats 1600000 in
theorem readNumber_plain (s : ByteArray) (w : World) (hs : s.size ≤ 1048576) (h45 : ∀ h0 : 0 < s.size, (s[0]'h0).toNat ≠ 45) :
    Calls Tryd.prog 29 #[.string s] w (RetRd w s.data.toList) := by
  have HD := Lib.hid (numD_plain h45)
  have hp := trimMinus_no s
  go_enter Tryd.func29, Tryd.ntmps29
  go_wp2_with fail
  refine (hp w hs h45).mono ?_
  rintro e w ⟨rfl, rfl⟩
  clear hp h45
  by_cases hlen : 1 ≤ s.size ∧ s.size ≤ 10
  · obtain ⟨hl1, hl2⟩ := hlen
    go_wp2_with fail
    refine (isOut1 _ _ _ _ _ false rfl (.inl ⟨rfl, by omega, by omega⟩)).mono ?_
    rintro e w1 ⟨rfl, hb1⟩
    have HB1 := Lib.hid ((((Below.refl _ w).alloc (Nat.le_refl _) _)).trans (hb1.mono (by simp)))
    clear hb1
    go_wp2_with fail
    by_cases hz : (s[0]'hl1).toNat = 48 ∧ s ≠ ⟨#[48]⟩
    · have hno := Lib.hid (show ¬ OkNum s.data.toList from fun o => hz.2 (by
        have h1 := o.hd (by rw [HD.out, head_list s hl1]; congr 1; exact UInt8.toNat_inj.1 (by rw [hz.1]; rfl))
        apply ByteArray.ext; apply Array.toList_inj.1; rw [h1]))
      have hq : (s.toList == [48]) = false := by rw [Bool.eq_false_iff]; intro h1; exact hz.2 ((beqL _ _).1 h1)
      have hc := hz.1
      have hci : ((s[0]'hl1).toNat : Int) = 48 := by omega
      clear hz
      go_loopw [5] (fun a wr => wr = w1.iter s 0) (fun _ _ => 0)
      case atStart => rfl
      case round =>
        obtain rfl := hrel
        have hnx : ∀ ty, (Instr.next (.pointer (some ⟨w1.heap.size, 0, none⟩)) true ty).run Tryd.prog (w1.iter s 0) = _ := fun ty => Lib.run_next_ascii_at (w1.iter s 0) w1.heap.size s 0 ty (World.iter_heap w1 s 0) hl1 (by omega)
        rw [hc] at hnx
        have HB2 := Lib.hid (Lib.below_iterAt (HB1.out.alloc HB1.out.size (.stringIter s 0)) (k := w1.heap.size) HB1.out.size s (0 + 1))
        go_wp2
        all_goals first | (exfalso; omega) | (go_ret2; exact ⟨.inr ⟨hno.out, rfl⟩, HB2.out⟩)
    · have hz2 := Lib.hid (show (s[0]'hl1).toNat = 48 → s = ⟨#[48]⟩ from fun h => Classical.byContradiction fun h2 => hz ⟨h, h2⟩)
      clear hz
      go_loopw [5] (fun a wr => ∃ k : Nat, k ≤ s.size ∧ a = .int .i64 (dgB s k) ∧ wr.heap[w1.heap.size]? = some (.stringIter s k) ∧ Hid (Below w.heap.size w wr) ∧ Hid (∀ i (h : i < s.size), i < k → isDg (s[i]'h))) (fun _ wr => s.size - wr.iterPos w1.heap.size)
      case atStart => exact ⟨0, Nat.zero_le _, by rw [dgB_zero], World.iter_heap w1 s 0, HB1.out.alloc HB1.out.size _, Lib.hid fun i _ h => absurd h (by omega)⟩
      case round =>
        obtain ⟨k, hk, rfl, hit, HBr, HA⟩ := hrel
        have hb := dgB_bd s k hk (by omega) HA.out
        have HIT := Lib.hid hit
        by_cases hlt : k < s.size
        · by_cases hdg : isDg (s[k]'hlt)
          · have hs1 := Lib.hid (dgB_succ s k hlt)
            have hd9 := hdg
            unfold isDg at hd9
            have hnx : ∀ ty, (Instr.next (.pointer (some ⟨w1.heap.size, 0, none⟩)) true ty).run Tryd.prog wr = _ := fun ty => Lib.run_next_ascii_at wr w1.heap.size s k ty hit hlt (by omega)
            have HB2 := Lib.hid (Lib.below_iterAt HBr.out (k := w1.heap.size) HB1.out.size s (k + 1))
            have HI2 := Lib.hid (Lib.iterAt_heap wr w1.heap.size s k (k + 1) hit)
            have HA2 : Hid (∀ i (h : i < s.size), i < k + 1 → isDg (s[i]'h)) := Lib.hid fun i h h2 => by
              rcases Nat.lt_or_ge i k with h3 | h3
              · exact HA.out i h h3
              · obtain rfl : i = k := by omega
                exact hdg
            obtain ⟨hd91, hd92⟩ := hd9
            clear hit hdg
            by_cases h0 : k = 0 ∧ (s[k]'hlt).toNat = 48
            · obtain ⟨rfl, hc⟩ := h0
              have hq : (s.toList == [48]) = true := (beqL _ _).2 (hz2.out hc)
              rw [hc] at hnx
              have HC := Lib.hid hc
              clear hc
              go_wp2
              all_goals first | (exfalso; omega) | skip
              go_roundw
              case rel => exact ⟨0 + 1, by omega, by rw [hs1.out, HC.out]; go_num, HI2.out, HB2, HA2⟩
              case measure => simp only [World.iterPos, HI2.out, HIT.out]; omega
            · by_cases hc : (s[k]'hlt).toNat = 48
              · have hk1 : 1 ≤ k := by
                  rcases Nat.eq_zero_or_pos k with h | h
                  · exact absurd ⟨h, hc⟩ h0
                  · exact h
                have hk0 : ((k : Int) == 0) = false := by rw [Bool.eq_false_iff]; intro h; rw [beq_iff_eq] at h; omega
                rw [hc] at hnx
                have HC := Lib.hid hc
                clear hc h0
                go_wp2
                all_goals first | (exfalso; omega) | skip
                go_roundw
                case rel => exact ⟨k + 1, by omega, by rw [hs1.out, HC.out]; go_num, HI2.out, HB2, HA2⟩
                case measure => simp only [World.iterPos, HI2.out, HIT.out]; omega
              · clear h0
                have hc1 : 49 ≤ (s[k]'hlt).toNat := by omega
                have hk0 : (((s[k]'hlt).toNat : Int) == 48) = false := by rw [Bool.eq_false_iff]; intro h; rw [beq_iff_eq] at h; omega
                clear hc
                generalize hcc : (s[k]'hlt).toNat = c at *
                have HCC := Lib.hid hcc
                clear hcc
                go_wp2
                all_goals first | (exfalso; omega) | skip
                go_roundw
                case rel => exact ⟨k + 1, by omega, by rw [hs1.out]; go_num, HI2.out, HB2, HA2⟩
                case measure => simp only [World.iterPos, HI2.out, HIT.out]; omega
          · have hno := Lib.hid (notOk_at HD.out k hlt hdg)
            unfold isDg at hdg
            by_cases h128 : (s[k]'hlt).toNat < 128
            · have hnx : ∀ ty, (Instr.next (.pointer (some ⟨w1.heap.size, 0, none⟩)) true ty).run Tryd.prog wr = _ := fun ty => Lib.run_next_ascii_at wr w1.heap.size s k ty hit hlt h128
              have HB2 := Lib.hid (Lib.below_iterAt HBr.out (k := w1.heap.size) HB1.out.size s (k + 1))
              clear hit
              go_wp2
              all_goals first | (exfalso; omega) | (go_ret2; exact ⟨.inr ⟨hno.out, rfl⟩, HB2.out⟩)
            · have hnx : ∀ ty, (Instr.next (.pointer (some ⟨w1.heap.size, 0, none⟩)) true ty).run Tryd.prog wr = _ := fun ty => Lib.run_next_any_at wr w1.heap.size s k ty hit hlt
              have HB2 := Lib.hid (Lib.below_iterAt HBr.out (k := w1.heap.size) HB1.out.size s (k + (Utf8.decode s k).2))
              have hr := (decode_high s k hlt (by omega)).1
              have hr2 := decode_le s k
              clear hit
              go_wp2
              all_goals first | (exfalso; omega) | (go_ret2; exact ⟨.inr ⟨hno.out, rfl⟩, HB2.out⟩)
        · obtain rfl : k = s.size := by omega
          have hok := Lib.hid (isOk_of HD.out hl1 hl2 (fun h => zero_word HD.out (hz2.out h)) (fun k h => HA.out k h h))
          have hv := Lib.hid (numV_of hok.out HD.out)
          have hnx : ∀ ty, (Instr.next (.pointer (some ⟨w1.heap.size, 0, none⟩)) true ty).run Tryd.prog wr = _ := fun ty => Lib.run_next_end_at wr w1.heap.size s s.size ty hit hlt
          clear hit
          go_wp2
          all_goals first | (exfalso; omega) | skip
          go_ret2
          exact ⟨.inl ⟨hok.out, by rw [hv.out, if_neg (by rw [size_list]; omega)]; rfl⟩, HBr.out⟩
  · have hno := Lib.hid (notOk_len HD.out hlen)
    go_wp2_with fail
    refine (isOut1 _ _ _ _ _ true rfl (.inr ⟨rfl, by omega⟩)).mono ?_
    rintro e w1 ⟨rfl, hb1⟩
    have HB1 := Lib.hid ((((Below.refl _ w).alloc (Nat.le_refl _) _)).trans (hb1.mono (by simp)))
    clear hb1
    go_wp2
    all_goals (go_ret2; exact ⟨.inr ⟨hno.out, rfl⟩, HB1.out⟩)

theorem readNumber_any (s : ByteArray) (w : World) (hs : s.size ≤ 1048576) :
    Calls Tryd.prog 29 #[.string s] w (RetRd w s.data.toList) := by
  by_cases h : ∃ h0 : 0 < s.size, (s[0]'h0).toNat = 45
  · obtain ⟨h0, h45⟩ := h
    exact readNumber_minus s w hs h0 h45
  · exact readNumber_plain s w hs fun h0 e => h ⟨h0, e⟩
end Go.Proofs.YtkeeoelbnmacdaaDoor

namespace Go.Proofs.YtkeeoelbnmacdaaDoor
open Go.RowKit
set_option linter.unusedVariables false

theorem thru0 {w w1 w2 : World} (h : Below w.heap.size w w1) (hb : Below w1.heap.size w1 w2) : Below w.heap.size w w2 := h.trans (hb.mono h.size)
end Go.Proofs.YtkeeoelbnmacdaaDoor

namespace Go.Proofs.YtkeeoelbnmacdaaDoor
open Go.RowKit
set_option linter.unusedVariables false

def RetNO (w : World) (l : List UInt8) (e : Ending) (w' : World) : Prop := e = .returned (.agg #[.int .i64 (numC l), .int .i64 (numV l)]) ∧ Below w.heap.size w w'

set_option maxHeartbeats 1600000 in
theorem specNO_any (s : ByteArray) (w : World) (hs : s.size ≤ 1048576) : Calls Tryd.prog 12 #[.string s] w (RetNO w s.data.toList) := by
  go_enter Tryd.func12, Tryd.ntmps12
  go_wp2_with fail
  refine (l10Number_any s _ hs).mono ?_
  rintro e w1 ⟨hr, hb⟩
  obtain ⟨hc, hf⟩ := bcell hb
  have hz : w.heap.size < w1.heap.size := by have := hb.size; simp at this; omega
  have HB := Lib.hid (((Below.refl _ w).alloc (Nat.le_refl _) (.cells #[.int .i64 0, .int .i64 0] 30)).trans (hb.mono (by simp)))
  rcases hr with ⟨hok, rfl⟩ | ⟨hok, rfl⟩
  · have hc0 := Lib.hid (numC_ok hok)
    clear hb hok
    obtain ⟨v, hv⟩ : ∃ v, numV s.data.toList = v := ⟨_, rfl⟩
    have hv0 := Lib.hid hv
    rw [hv]
    clear hv
    go_wp2
    exact bodyPost_ret (v := .agg #[.int .i64 0, .int .i64 v]) (by simp [results, Tryd.results12, go_sem, hc]) rfl ⟨by rw [hc0.out, hv0.out], ((HB.out.setCell (p := ⟨w.heap.size, 0, none⟩) (Nat.le_refl _) _).setCell (p := ⟨w.heap.size, 1, none⟩) (Nat.le_refl _) _)⟩
  · have hc0 := Lib.hid (numC_no hok)
    have hv0 := Lib.hid (numV_no hok)
    clear hb hok
    go_wp2
    exact bodyPost_ret (v := .agg #[.int .i64 5, .int .i64 0]) (by simp [results, Tryd.results12, go_sem, hc]) rfl ⟨by rw [hc0.out, hv0.out], ((HB.out.setCell (p := ⟨w.heap.size, 0, none⟩) (Nat.le_refl _) _).setCell (p := ⟨w.heap.size, 1, none⟩) (Nat.le_refl _) _)⟩

set_option maxHeartbeats 1600000 in
theorem implNO_any (s : ByteArray) (w : World) (hs : s.size ≤ 1048576) (hE : ETy w) : Calls Tryd.prog 13 #[.string s] w (RetNO w s.data.toList) := by
  have HE := Lib.hid hE
  clear hE
  go_enter Tryd.func13, Tryd.ntmps13
  go_wp2_with fail
  refine (readNumber_any s _ hs).mono ?_
  rintro e w1 ⟨hr, hb⟩
  obtain ⟨hc, hf⟩ := bcell hb
  have hz : w.heap.size < w1.heap.size := by have := hb.size; simp at this; omega
  have HB := Lib.hid (((Below.refl _ w).alloc (Nat.le_refl _) (.cells #[.int .i64 0, .int .i64 0] 30)).trans (hb.mono (by simp)))
  have HE1 := Lib.hid (HE.out.below HB.out)
  rcases hr with ⟨hok, rfl⟩ | ⟨hok, rfl⟩
  · have hc0 := Lib.hid (numC_ok hok)
    obtain ⟨v, hv⟩ : ∃ v, numV s.data.toList = v := ⟨_, rfl⟩
    have hv0 := Lib.hid hv
    rw [hv]
    clear hb hok hv
    go_wp2_with fail
    refine (codeOf_nil _).mono ?_
    rintro e w2 ⟨rfl, hb2⟩
    obtain ⟨hc2, hf2⟩ := bcell hb2
    have HB2 := Lib.hid (thru0 HB.out hb2)
    clear hb2
    go_wp2
    exact bodyPost_ret (v := .agg #[.int .i64 0, .int .i64 v]) (by simp [results, Tryd.results13, go_sem, hc, hc2, hz]) rfl ⟨by rw [hc0.out, hv0.out], ((HB2.out.setCell (p := ⟨w.heap.size, 0, none⟩) (Nat.le_refl _) _).setCell (p := ⟨w.heap.size, 1, none⟩) (Nat.le_refl _) _)⟩
  · have hc0 := Lib.hid (numC_no hok)
    have hv0 := Lib.hid (numV_no hok)
    clear hb hok
    go_wp2_with fail
    refine (codeOf_err 5 _ HE1.out).mono ?_
    rintro e w2 ⟨rfl, hb2⟩
    obtain ⟨hc2, hf2⟩ := bcell hb2
    have HB2 := Lib.hid (thru0 HB.out hb2)
    clear hb2
    go_wp2
    exact bodyPost_ret (v := .agg #[.int .i64 5, .int .i64 0]) (by simp [results, Tryd.results13, go_sem, hc, hc2, hz]) rfl ⟨by rw [hc0.out, hv0.out], ((HB2.out.setCell (p := ⟨w.heap.size, 0, none⟩) (Nat.le_refl _) _).setCell (p := ⟨w.heap.size, 1, none⟩) (Nat.le_refl _) _)⟩
end Go.Proofs.YtkeeoelbnmacdaaDoor

namespace Go.Proofs.YtkeeoelbnmacdaaDoor
open Go.RowKit
set_option linter.unusedVariables false

set_option maxRecDepth 100000 in
set_option maxHeartbeats 1600000 in
theorem e4_any (s : ByteArray) (w : World) (hs : s.size ≤ maxLen) (hE : ETy w) : Calls Tryd.prog 4 #[.string s] w (RetBool w true) := by
  unfold maxLen at hs
  have HE := Lib.hid hE
  clear hE
  by_cases h1 : s.size ≤ 1048576
  · generalize hC : numC s.data.toList = C
    generalize hV : numV s.data.toList = V
    have HC := Lib.hid hC; have HV := Lib.hid hV
    clear hC hV
    go_enter Tryd.func4, Tryd.ntmps4
    go_wp2_with fail
    refine (specNO_any s _ h1).mono ?_
    rintro e w1 ⟨rfl, hb⟩
    rw [HC.out, HV.out]
    have HB1 := Lib.hid hb
    have HB1a := Lib.hid (hb.alloc hb.size (.cells #[.int .i64 C, .int .i64 V] 30))
    clear hb
    go_wp2_with fail
    refine (implNO_any s _ h1 (HE.out.below HB1a.out)).mono ?_
    rintro e w2 ⟨rfl, hb⟩
    rw [HC.out, HV.out]
    obtain ⟨hc, hf⟩ := bcell hb
    have hz : w1.heap.size < w2.heap.size := by have := hb.size; simp at this; omega
    have HB2 := Lib.hid (thru0 HB1a.out hb)
    clear hb
    go_wp2_with fail
    refine (eqIntResult_same C V _).mono ?_
    rintro e w3 ⟨rfl, hb⟩
    have HB3 := Lib.hid (thru0 (HB2.out.alloc HB2.out.size _) hb)
    clear hb
    go_wp2
    go_ret
    exact ⟨rfl, HB3.out⟩
  · go_enter Tryd.func4, Tryd.ntmps4
    go_wp2
    go_ret
    exact ⟨rfl, Below.refl _ _⟩
end Go.Proofs.YtkeeoelbnmacdaaDoor

