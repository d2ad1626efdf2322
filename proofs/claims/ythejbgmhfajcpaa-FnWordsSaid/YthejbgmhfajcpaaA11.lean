/- Contracts: baseOf, l1Base, l1Zero. -/
import Derived.Test.YthejbgmhfajcpaaA10
namespace Go.Proofs.Ythejbgmhfajcpaa
open Go.RowKit
set_option linter.unusedVariables false


/-- The base of the half in use. -/
def baseI (ac h : Int) : Int := if ac = 0 then 0 else h
theorem baseI_mul {ac h : Int} (h1 : 0 ≤ ac) (h2 : ac ≤ 1) : baseI ac h = ac * h := by
  rcases (by omega : ac = 0 ∨ ac = 1) with rfl | rfl <;> simp [baseI]
theorem baseI_bd {ac h : Int} (h1 : 8 ≤ h) : 0 ≤ baseI ac h ∧ baseI ac h ≤ h := by
  unfold baseI; split <;> omega
/-- The same world, or one block more. -/
def Ext (w W : World) : Prop := W = w ∨ ∃ o, W = w.alloc o
theorem Blk.ext {w W : World} {b : Nat} {cs : List Value} (h : Blk w b cs) (e : Ext w W) : Blk W b cs := by
  rcases e with rfl | ⟨o, rfl⟩
  · exact h
  · exact h.alloc o
theorem Src.ext {w W : World} {a : Option Addr} {n : Nat} {f : Nat → Int} (h : Src w a n f) (e : Ext w W) : Src W a n f := by
  rcases e with rfl | ⟨o, rfl⟩
  · exact h
  · exact h.alloc o
theorem OwnIn.ext {w W : World} {lo hi : Nat} {a : Option Addr} {n : Nat} {f : Nat → Int} (h : OwnIn w lo hi a n f) (e : Ext w W) : OwnIn W lo hi a n f := by
  rcases e with rfl | ⟨o, rfl⟩
  · exact h
  · exact h.alloc o
theorem below_ext {w0 w W : World} (h : Below w0.heap.size w0 w) (e : Ext w W) : Below w0.heap.size w0 W := by
  rcases e with rfl | ⟨o, rfl⟩
  · exact h
  · exact h.alloc h.size o
theorem size_ext {w W : World} (e : Ext w W) : w.heap.size ≤ W.heap.size := by
  rcases e with rfl | ⟨o, rfl⟩
  · exact Nat.le_refl _
  · simp
/-- A store into a known block. -/
theorem Blk.set {w : World} {b : Nat} {cs : List Value} (h : Blk w b cs) (i : Nat) (hi : i < cs.length) (v : Value) : Blk (w.setCell ⟨b, i, none⟩ v) b (cs.set i v) := by
  refine ⟨by simpa using h.1, fun j u hj => ?_⟩
  constructor
  · by_cases e : j = i
    · subst e
      rw [List.getElem?_set_self hi] at hj
      simp only [Option.some.injEq] at hj
      subst hj
      exact World.cell?_setCell_same w ⟨b, j, none⟩ v (h.2 j cs[j] (List.getElem?_eq_getElem hi)).1
    · rw [List.getElem?_set_ne (fun x => e x.symm)] at hj
      rw [World.cell?_setCell_other _ _ _ _ (by simp; try omega)]
      exact (h.2 j u hj).1
  · rw [World.frozen?_setCell]
    by_cases e : j = i
    · subst e; exact (h.2 j cs[j] (List.getElem?_eq_getElem hi)).2
    · rw [List.getElem?_set_ne (fun x => e x.symm)] at hj
      exact (h.2 j u hj).2
theorem Blk.other {w : World} {b : Nat} {cs : List Value} (h : Blk w b cs) {p : Addr} (hp : p.block ≠ b) (u : Value) : Blk (w.setCell p u) b cs :=
  h.keeps (keeps_setCell (Nat.le_refl p.block) (Nat.lt_succ_self _) u) (by omega)

set_option maxHeartbeats 400000 in
theorem baseOf_any (h ac bu : Int) (a : Option Addr) (n c : Nat) (w : World) (h1 : 8 ≤ h) (h2 : h ≤ 200) (h3 : 0 ≤ ac) (h4 : ac ≤ 1) :
    Calls Try.prog 62 #[.agg #[.int .i64 h, .slice a n c, .int .i64 ac, .int .i64 bu]] w (RetInt w (baseI ac h)) := by
  rcases (by omega : ac = 0 ∨ ac = 1) with rfl | rfl
  all_goals
    go_enter Try.func62, Try.ntmps62
    go_wp2
    go_ret
    exact ⟨rfl, (Below.refl _ _).alloc (Nat.le_refl _) _⟩
set_option maxHeartbeats 400000 in
theorem l1Base_any (b : Nat) (h ac bu : Int) (a : Option Addr) (n c : Nat) (w : World) (hB : Blk w b [.int .i64 h, .slice a n c, .int .i64 ac, .int .i64 bu]) (h1 : 8 ≤ h) (h2 : h ≤ 200) (h3 : 0 ≤ ac) (h4 : ac ≤ 1) :
    Calls Try.prog 63 #[.pointer (some ⟨b, 0, none⟩)] w (RetInt w (baseI ac h)) := by
  have p0 := hB.at 0 rfl
  have p2 := hB.at 2 rfl
  clear hB
  rcases (by omega : ac = 0 ∨ ac = 1) with rfl | rfl
  all_goals
    go_enter Try.func63, Try.ntmps63
    go_wp2
    go_quiet (fail)
    go_wp2
    go_ret
    exact ⟨rfl, below_drewN (Below.refl _ _) _⟩

def zeroR (F : Nat → Int) (p q : Nat) : Nat → Int := fun i => if p ≤ i ∧ i < p + q then 0 else F i
def RetZero (W : World) (lo hi : Nat) (a : Option Addr) (n : Nat) (F : Nat → Int) (e : Ending) (w' : World) : Prop :=
  e = .returned (.tuple #[]) ∧ OwnIn w' lo hi a n F ∧ Keeps W w' lo hi
set_option maxHeartbeats 800000 in
theorem l1Zero_any (b lo hi p q : Nat) (h ac bu : Int) (a : Option Addr) (n c : Nat) (F : Nat → Int) (w : World) (hB : Blk w b [.int .i64 h, .slice a n c, .int .i64 ac, .int .i64 bu]) (ho : OwnIn w lo hi a n F) (hd : b < lo ∨ hi ≤ b) (hpq : p + q ≤ n) (hn : n ≤ 400) :
    Calls Try.prog 59 #[.pointer (some ⟨b, 0, none⟩), .int .i64 (p : Int), .int .i64 (q : Int)] w (RetZero w lo hi a n (zeroR F p q)) := by
  have HB := Lib.hid hB
  have HO := Lib.hid ho
  clear hB ho
  go_enter Try.func59, Try.ntmps59
  go_wp2
  go_loopw [6] (fun k wr => ∃ i : Nat, i ≤ q ∧ k = .int .i64 i ∧ Hid (Keeps w wr lo hi) ∧ Hid (OwnIn wr lo hi a n (zeroR F p i))) (fun k _ => q - (intOf k).toNat)
  case atStart => exact ⟨0, Nat.zero_le _, rfl, Keeps.refl _ _ _, HO.congr fun i _ => by simp only [zeroR]; rw [if_neg (by omega)]⟩
  case round =>
    obtain ⟨i, hi', rfl, HK, HR⟩ := hrel
    by_cases hlt : i < q
    · obtain ⟨b1, o1, rfl, hl1, hb1, hc1⟩ := ownIn_some HR.out (by omega)
      have p1 := (HB.out.keeps HK.out hd).at 1 rfl
      have c1 : wr.cell? ⟨b1, o1 + (p + i), none⟩ = some (.int .i64 (zeroR F p i (p + i))) := (hc1 (p + i) (by omega)).1
      have c2 : wr.frozen? ⟨b1, o1 + (p + i), none⟩ = false := (hc1 (p + i) (by omega)).2
      have hst := Lib.hid (HR.out.stored (p + i) (by omega) 0)
      have b1' : (p : Int) + (i : Int) < (n : Int) := by omega
      have b2' : (0 : Int) ≤ (p : Int) + (i : Int) := by omega
      clear hc1
      go_wp2
      go_roundw
      case rel =>
        refine ⟨i + 1, by omega, by go_num, HK.out.trans hst.out.2, hst.out.1.congr fun j hj => ?_⟩
        simp only [zeroR]
        by_cases e : j = p + i
        · rw [if_pos e, if_pos (by omega)]
        · rw [if_neg e]; congr 1; simp only [eq_iff_iff]; omega
      case measure => simp [intOf]; omega
    · go_wp2
      go_end0
      obtain rfl : i = q := by omega
      exact ⟨rfl, HR.out, HK.out⟩

end Go.Proofs.Ythejbgmhfajcpaa
