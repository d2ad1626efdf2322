/- Texts merged: OT1 to Z8. -/
import Derived.Test.YtkeeoelbnmacdaaDoorPT1
namespace Go.Proofs.YtkeeoelbnmacdaaDoor
open Go.RowKit
set_option linter.unusedVariables false

def nmB (k : Int) : ByteArray := if k = 1 then ⟨#[110, 101, 119]⟩ else if k = 2 then ⟨#[100, 117, 112]⟩ else if k = 3 then ⟨#[100, 114, 111, 112]⟩ else if k = 4 then ⟨#[103, 101, 116]⟩ else if k = 5 then ⟨#[112, 117, 116]⟩ else if k = 6 then ⟨#[108, 111, 97, 100]⟩ else if k = 7 then ⟨#[108, 105, 110, 107]⟩ else if k = 8 then ⟨#[115, 97, 109, 101]⟩ else if k = 9 then ⟨#[104, 97, 115, 104]⟩ else if k = 10 then ⟨#[115, 105, 122, 101]⟩ else ⟨#[117, 115, 101, 100]⟩

theorem nmB_size (k : Int) : (nmB k).size ≤ 4 := by unfold nmB; repeat' split
                                                    all_goals decide

set_option maxRecDepth 100000 in
set_option maxHeartbeats 1600000 in
theorem l10Name_any (k : Int) (w : World) (hk : 1 ≤ k ∧ k ≤ 11) : Calls Tryd.prog 33 #[.int .i64 k] w (RetStr w (nmB k)) := by
  rcases kinds hk with rfl | rfl | rfl | rfl | rfl | rfl | rfl | rfl | rfl | rfl | rfl
  all_goals
    clear hk
    go_enter Tryd.func33, Tryd.ntmps33
    go_wp2
    go_ret
    exact ⟨rfl, (Below.refl _ _).alloc (Nat.le_refl _) _⟩

/-- what is asked, in the order of a line: Handle, Index, Value, To -/
def askK (k : Int) (j : Nat) : Bool := if j = 0 then nH k else if j = 1 then nI k else if j = 2 then nV k else nT k

def valK (h i v t : Int) (j : Nat) : Int := if j = 0 then h else if j = 1 then i else if j = 2 then v else t

def RetAsk (w : World) (k : Int) (e : Ending) (w' : World) : Prop := ∃ B, e = .returned (.slice (some ⟨B, 0, none⟩) 4 4) ∧ Blk w' B [.bool (nH k), .bool (nI k), .bool (nV k), .bool (nT k)] ∧ w.heap.size ≤ B ∧ Below w.heap.size w w'

set_option maxRecDepth 100000 in
set_option maxHeartbeats 1600000 in
theorem l10Asks_any (k : Int) (w : World) (hk : 1 ≤ k ∧ k ≤ 11) : Calls Tryd.prog 34 #[.int .i64 k] w (RetAsk w k) := by
  rcases kinds hk with rfl | rfl | rfl | rfl | rfl | rfl | rfl | rfl | rfl | rfl | rfl
  all_goals
    clear hk
    go_enter Tryd.func34, Tryd.ntmps34
    go_wp2
    go_ret
    exact ⟨_, rfl, Blk.new_at _ rfl, Nat.le_refl _, (Below.refl _ _).alloc (Nat.le_refl _) _⟩

/-- the text behind the first j numbers -/
def opTx (base : ByteArray) (k h i v t : Int) : Nat → ByteArray
  | 0 => base
  | j + 1 => if askK k j then (opTx base k h i v t j ++ (⟨#[32]⟩ : ByteArray)) ++ itoaB (valK h i v t j) else opTx base k h i v t j

def WideV (n : Int) : Prop := -9999999999 ≤ n ∧ n ≤ 9999999999

theorem opTx_size {base : ByteArray} {k h i v t : Int} (hb : base.size ≤ 40) (hv : ∀ j, WideV (valK h i v t j)) : ∀ j, (opTx base k h i v t j).size ≤ 40 + 22 * j
  | 0 => by simpa [opTx] using hb
  | j + 1 => by
    have ih := opTx_size (k := k) hb hv j
    have h1 := itoaB_size _ (hv j)
    unfold opTx
    split
    · have e : (⟨#[32]⟩ : ByteArray).size = 1 := rfl
      rw [ByteArray.size_append, ByteArray.size_append, e]; omega
    · omega
end Go.Proofs.YtkeeoelbnmacdaaDoor

namespace Go.Proofs.YtkeeoelbnmacdaaDoor
open Go.RowKit Go.Maps
set_option linter.unusedVariables false

def haV (a b d : Int) : Value := .agg #[.int .i64 a, .int .i64 b, .int .i64 d]

/-- How an element is told: whether it points at anything. -/
def ptrR (v : Value) : Option (DataW Unit × List MemPlace) := match v with | .pointer p => some (.lit (.bool p.isSome), []) | _ => none

/-- A slot that leads to a node by a handle of its own. -/
def Leads (te : Int) (S : Nat → SL) (i : Nat) (a b d : Int) : Prop := a = te ∧ ∃ j : Nat, j < i ∧ b = (j : Int) ∧ d = (S j).g ∧ ¬ (S j).nd = 0

/-- A map of handles: of the first slots. -/
def MapH (w : World) (b n : Nat) (te : Int) (S : Nat → SL) (i : Nat) : Prop :=
  ∃ D : DataW Unit, w.ownsMap Tryd.prog 175 ptrR b n D ∧ ∀ a c d kl, keyOf Tryd.prog 175 (haV a c d) = some kl → ∃ r : Bool, D.atKey kl (.lit (.bool false)) = .lit (.bool r) ∧ (r = true ↔ Leads te S i a c d)

theorem MapH.lt {w : World} {b n : Nat} {te : Int} {S : Nat → SL} {i : Nat} (h : MapH w b n te S i) : b < w.heap.size := by obtain ⟨D, h1, _⟩ := h; exact h1.lt

theorem MapH.block {w w' : World} {b n : Nat} {te : Int} {S : Nat → SL} {i : Nat} (h : MapH w b n te S i) (hb : w'.heap[b]? = w.heap[b]?) : MapH w' b n te S i := by
  obtain ⟨D, ⟨es, clock, h1, h2⟩, h3⟩ := h
  exact ⟨D, ⟨es, clock, hb.trans h1, h2⟩, h3⟩

theorem MapH.below {w w' : World} {b n : Nat} {te : Int} {S : Nat → SL} {i : Nat} (h : MapH w b n te S i) (hb : Below w.heap.size w w') : MapH w' b n te S i := h.block (hb.block b h.lt)

theorem MapH.skip {w : World} {b n : Nat} {te : Int} {S : Nat → SL} {i : Nat} (h : MapH w b n te S i) (h0 : (S i).nd = 0) : MapH w b n te S (i + 1) := by
  obtain ⟨D, h1, h2⟩ := h
  refine ⟨D, h1, fun a c d kl hk => ?_⟩
  obtain ⟨r, h3, h4⟩ := h2 a c d kl hk
  refine ⟨r, h3, h4.trans ?_⟩
  unfold Leads
  constructor
  · rintro ⟨ha, j, hj, hr⟩; exact ⟨ha, j, by omega, hr⟩
  · rintro ⟨ha, j, hj, h5, h6, h7⟩
    rcases Nat.lt_succ_iff_lt_or_eq.mp hj with h | h
    · exact ⟨ha, j, h, h5, h6, h7⟩
    · subst h; exact absurd h0 h7
end Go.Proofs.YtkeeoelbnmacdaaDoor

namespace Go.Proofs.YtkeeoelbnmacdaaDoor
open Go.RowKit Go.Maps
set_option linter.unusedVariables false

theorem MapH.mono {w : World} {b n n' : Nat} {te : Int} {S : Nat → SL} {i : Nat} (h : MapH w b n te S i) (hn : n ≤ n') : MapH w b n' te S i := by
  obtain ⟨D, h1, h2⟩ := h
  exact ⟨D, h1.mono hn, h2⟩
end Go.Proofs.YtkeeoelbnmacdaaDoor

