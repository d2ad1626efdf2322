/- Texts merged: K7 to CW2. -/
import Derived.Test.YtnacdhnnpddccaaPV1
import Derived.Deep.Slices
import Derived.Deep.LoopGhost
import Derived.Shelf.Abstract
import Derived.RangeFuncNested
import Derived.RangeFuncBound
import Derived.RangeFuncCalls
import Derived.RangeFuncLeaves
import Derived.Shelf.RegionOpen
import Derived.OwnWalkIn
import Derived.TacticsInMore
import Derived.LoopNIn
import Derived.LoopIn
import Derived.Maps.OwnIn
import Derived.Maps.AppendAt
namespace Go.Proofs.Ytnacdhnnpddccaa
open Go.RowKit
set_option linter.unusedVariables false

/-- Every object that is told stands somewhere. -/
theorem parse_all {f : Nat → Int} {e : Nat} : ∀ (d a : Nat) (L : List Ob), e - a ≤ d → parse f e a = some L → ∀ x ∈ L, ∃ a', x = objAt f a' ∧ Good f e a'
  | 0, a, L, hd, hp, x, hx => by
    rw [parse_stop (by omega)] at hp
    cases hp; cases hx
  | d + 1, a, L, hd, hp, x, hx => by
    by_cases h : a < e
    · by_cases hg : Good f e a
      · rw [parse_good h hg] at hp
        obtain ⟨L', hp', rfl⟩ := Option.map_eq_some_iff.mp hp
        rcases List.mem_cons.mp hx with rfl | hx
        · exact ⟨a, rfl, hg⟩
        · exact parse_all d _ L' (by omega) hp' x hx
      · rw [parse_bad h hg] at hp; cases hp
    · rw [parse_stop h] at hp
      cases hp; cases hx

/-- What is known of each object of a right arena. -/
theorem parse_ok {f : Nat → Int} {n e a : Nat} {L : List Ob} (hp : parse f e a = some L) (he : e ≤ n) (hw : ∀ i, i < n → Word (f i)) : ∀ x ∈ L, (0 ≤ x.s ∧ x.s ≤ 12) ∧ (0 ≤ x.m ∧ x.m ≤ 4095) ∧ (0 ≤ x.o ∧ x.o ≤ 3) ∧ (0 ≤ x.at_ ∧ x.at_.toNat + 2 + x.s.toNat ≤ e) ∧ ∀ k, k < x.s.toNat → -1000000000 ≤ f (x.at_.toNat + 2 + k) ∧ f (x.at_.toNat + 2 + k) ≤ 1000000000 := fun x hx => by
  obtain ⟨a', rfl, hg⟩ := parse_all (e - a) a L (Nat.le_refl _) hp x hx
  have h1 := hg.2.1.2
  have h2 := P2_le h1.1.2
  have h3 := hg.2.2
  have h4 := h1.2.1
  have h5 := h1.2.2.1
  have h6 := h1.1
  have e1 : (objAt f a').at_.toNat = a' := by simp [objAt]
  have e2 : (objAt f a').s.toNat = szOf f a' := rfl
  refine ⟨h1.1, ⟨h4.1, ?_⟩, h5, ⟨by simp [objAt], by rw [e1, e2]; exact h3⟩, fun k hk => ?_⟩
  · have : (objAt f a').m = f a' / 32 % 4096 := rfl
    rw [this]; omega
  · rw [e1]
    rw [e2] at hk
    exact hw _ (by omega)

/-- What ShapeFault answers. -/
def IsSF (h : Int) (n : Nat) (f : Nat → Int) (ac bu k : Int) : Prop :=
  (∃ L, IsOI h n f ac bu k L ∧ ¬ k = 0) ∨ (∃ L, IsOI h n f ac bu 0 L ∧ IsShape f n (baseI ac h).toNat bu.toNat L false ∧ k = 8) ∨ (∃ L, IsOI h n f ac bu 0 L ∧ IsShape f n (baseI ac h).toNat bu.toNat L true ∧ k = 0)

theorem isShape_some (f : Nat → Int) (n P U : Nat) (L : List Ob) : ∃ r, IsShape f n P U L r := by
  by_cases x : Points f L ∧ Rest f n P U
  · exact ⟨true, .inl ⟨x.1, x.2, rfl⟩⟩
  · exact ⟨false, .inr ⟨x, rfl⟩⟩

theorem isSF_some (h : Int) (n : Nat) (f : Nat → Int) (ac bu : Int) : ∃ k, IsSF h n f ac bu k := by
  obtain ⟨co, L, ho⟩ := isOI_some h n f ac bu
  by_cases h0 : co = 0
  · subst h0
    obtain ⟨r, hr⟩ := isShape_some f n (baseI ac h).toNat bu.toNat L
    cases r
    · exact ⟨8, .inr (.inl ⟨L, ho, hr, rfl⟩)⟩
    · exact ⟨0, .inr (.inr ⟨L, ho, hr, rfl⟩)⟩
  · exact ⟨co, .inl ⟨L, ho, h0⟩⟩

theorem isOI_zero {h : Int} {n : Nat} {f : Nat → Int} {ac bu : Int} {L : List Ob} (ho : IsOI h n f ac bu 0 L) : IsFault h n f ac bu 0 ∧ parse f ((baseI ac h).toNat + bu.toNat) (baseI ac h).toNat = some L := by
  rcases ho with ⟨k, _, h2, h3, _⟩ | ⟨_, _, h3, _⟩ | ⟨h1, h2, _⟩
  · exact absurd h3.symm h2
  · cases h3
  · exact ⟨h1, h2⟩

set_option maxHeartbeats 800000 in
theorem specSF_code (h ac bu : Int) (a : Option Addr) (n c : Nat) (f : Nat → Int) (co : Int) (L : List Ob) (w : World) (hs : Src w a n f) (hcn : n ≤ c) (hcm : c ≤ maxLen) (ho : IsOI h n f ac bu co L) (h0 : ¬ co = 0) :
    Calls Try.prog 81 #[.agg #[.int .i64 h, .slice a n c, .int .i64 ac, .int .i64 bu]] w (RetInt w co) := by
  have hd : (co != 0) = true := by simpa using h0
  have HCM := Lib.hid hcm
  clear hcm
  have HS := Lib.hid hs
  have HO := Lib.hid ho
  clear hs ho
  go_enter Try.func81, Try.ntmps81
  go_wp2_with fail
  refine (specOI_any h ac bu a n c f co L _ (HS.out.alloc _) hcn HCM.out HO.out).mono ?_
  rintro e w1 ⟨v, M, rfl, hM, how, hfl, hb⟩
  have HB1 := Lib.hid (thru1 (Below.refl _ _) hb)
  obtain ⟨av, kv, hv⟩ := row_nil how
  subst hv
  clear how hfl hM hb
  go_wp2
  go_ret
  exact ⟨rfl, HB1.out.alloc HB1.out.size _⟩

set_option maxHeartbeats 1600000 in
theorem specSF_false (h ac : Int) (P U : Nat) (ab ao n c : Nat) (f : Nat → Int) (L : List Ob) (w : World) (hs : Src w (some ⟨ab, ao, none⟩) n f) (hcn : n ≤ c) (hcm : c ≤ maxLen) (ho : IsOI h n f ac (U : Int) 0 L) (hk : IsFault h n f ac (U : Int) 0) (hP : baseI ac h = (P : Int)) (hp : parse f (P + U) P = some L) (hr : IsShape f n P U L false) :
    Calls Try.prog 81 #[.agg #[.int .i64 h, .slice (some ⟨ab, ao, none⟩) n c, .int .i64 ac, .int .i64 (U : Int)]] w (RetInt w 8) := by
  obtain ⟨⟨⟨g1, g2⟩, ⟨g3, g4⟩, g5, g6⟩, gn, gw⟩ := isFault_ok hk
  have hPU : P + U ≤ n := by rcases (by omega : ac = 0 ∨ ac = 1) with rfl | rfl <;> simp [baseI] at hP <;> omega
  have HPO := Lib.hid (parse_ok hp hPU gw)
  have hln := parse_length (P + U - P) P L (Nat.le_refl _) hp
  have hl4 : L.length ≤ 400 := by omega
  have HGN := Lib.hid gn
  have HCM := Lib.hid hcm
  clear hcm gn gw hk hln
  have HS := Lib.hid hs
  have HO := Lib.hid ho
  have HR := Lib.hid hr
  clear hs ho hr
  go_enter Try.func81, Try.ntmps81
  go_wp2_with fail
  refine (specOI_any h ac (U : Int) _ n c f 0 L _ (HS.out.alloc _) hcn HCM.out HO.out).mono ?_
  rintro e w1 ⟨v, M, rfl, hM, how, hfl, hb⟩
  have A_1 := Lib.hid ((Blk.new_at (w := w) (cs := #[.int .i64 h, .slice (some ⟨ab, ao, none⟩) n c, .int .i64 ac, .int .i64 (U : Int)]) (t := 34) (w.heap.size) rfl).below hb)
  have S_1 := Lib.hid ((HS.out.alloc _).below hb)
  have HB1 := Lib.hid (thru1 (Below.refl _ _) hb)
  have OW1 := Lib.hid how
  have FL1 := Lib.hid hfl
  subst hM
  clear how hfl hb HS
  obtain ⟨av, kv, hv⟩ := row_nil OW1.out
  have HV := Lib.hid hv
  clear hv
  have hv0 := HV.out
  generalize hm : M.length = mm at hv0
  subst hv0
  go_wp2_with fail
  refine (l3Shape_any (w.heap.size) P U h ac ab ao n c f (.slice av mm kv) M _ _ false _ (A_1.out.alloc _) (S_1.out.alloc _) g1 g2 g3 g4 hP HGN.out hPU (ownsRow_below OW1.out ((Below.refl _ _).alloc (Nat.le_refl _) _)) (FL1.out.below ((Below.refl _ _).alloc (Nat.le_refl _) _)) (by have := hl4; simpa using this) (fun t ht => by have := HPO.out t.x (List.mem_map_of_mem ht); exact ⟨this.1, this.2.1, this.2.2.2.2⟩) HR.out).mono ?_
  rintro e w2 ⟨rfl, hb⟩
  have HB2 := Lib.hid (thru1 HB1.out hb)
  clear hb
  go_wp2
  go_ret
  exact ⟨rfl, HB2.out⟩

set_option maxHeartbeats 1600000 in
theorem specSF_true (h ac : Int) (P U : Nat) (ab ao n c : Nat) (f : Nat → Int) (L : List Ob) (w : World) (hs : Src w (some ⟨ab, ao, none⟩) n f) (hcn : n ≤ c) (hcm : c ≤ maxLen) (ho : IsOI h n f ac (U : Int) 0 L) (hk : IsFault h n f ac (U : Int) 0) (hP : baseI ac h = (P : Int)) (hp : parse f (P + U) P = some L) (hr : IsShape f n P U L true) :
    Calls Try.prog 81 #[.agg #[.int .i64 h, .slice (some ⟨ab, ao, none⟩) n c, .int .i64 ac, .int .i64 (U : Int)]] w (RetInt w 0) := by
  obtain ⟨⟨⟨g1, g2⟩, ⟨g3, g4⟩, g5, g6⟩, gn, gw⟩ := isFault_ok hk
  have hPU : P + U ≤ n := by rcases (by omega : ac = 0 ∨ ac = 1) with rfl | rfl <;> simp [baseI] at hP <;> omega
  have HPO := Lib.hid (parse_ok hp hPU gw)
  have hln := parse_length (P + U - P) P L (Nat.le_refl _) hp
  have hl4 : L.length ≤ 400 := by omega
  have HGN := Lib.hid gn
  have HCM := Lib.hid hcm
  clear hcm gn gw hk hln
  have HS := Lib.hid hs
  have HO := Lib.hid ho
  have HR := Lib.hid hr
  clear hs ho hr
  go_enter Try.func81, Try.ntmps81
  go_wp2_with fail
  refine (specOI_any h ac (U : Int) _ n c f 0 L _ (HS.out.alloc _) hcn HCM.out HO.out).mono ?_
  rintro e w1 ⟨v, M, rfl, hM, how, hfl, hb⟩
  have A_1 := Lib.hid ((Blk.new_at (w := w) (cs := #[.int .i64 h, .slice (some ⟨ab, ao, none⟩) n c, .int .i64 ac, .int .i64 (U : Int)]) (t := 34) (w.heap.size) rfl).below hb)
  have S_1 := Lib.hid ((HS.out.alloc _).below hb)
  have HB1 := Lib.hid (thru1 (Below.refl _ _) hb)
  have OW1 := Lib.hid how
  have FL1 := Lib.hid hfl
  subst hM
  clear how hfl hb HS
  obtain ⟨av, kv, hv⟩ := row_nil OW1.out
  have HV := Lib.hid hv
  clear hv
  have hv0 := HV.out
  generalize hm : M.length = mm at hv0
  subst hv0
  go_wp2_with fail
  refine (l3Shape_any (w.heap.size) P U h ac ab ao n c f (.slice av mm kv) M _ _ true _ (A_1.out.alloc _) (S_1.out.alloc _) g1 g2 g3 g4 hP HGN.out hPU (ownsRow_below OW1.out ((Below.refl _ _).alloc (Nat.le_refl _) _)) (FL1.out.below ((Below.refl _ _).alloc (Nat.le_refl _) _)) (by have := hl4; simpa using this) (fun t ht => by have := HPO.out t.x (List.mem_map_of_mem ht); exact ⟨this.1, this.2.1, this.2.2.2.2⟩) HR.out).mono ?_
  rintro e w2 ⟨rfl, hb⟩
  have HB2 := Lib.hid (thru1 HB1.out hb)
  clear hb
  go_wp2
  go_ret
  exact ⟨rfl, HB2.out⟩

theorem specSF_any (h ac bu : Int) (a : Option Addr) (n c : Nat) (f : Nat → Int) (k : Int) (w : World) (hs : Src w a n f) (hcn : n ≤ c) (hcm : c ≤ maxLen) (hk : IsSF h n f ac bu k) : Calls Try.prog 81 #[.agg #[.int .i64 h, .slice a n c, .int .i64 ac, .int .i64 bu]] w (RetInt w k) := by
  have key : ∀ L r, IsOI h n f ac bu 0 L → IsShape f n (baseI ac h).toNat bu.toNat L r → Calls Try.prog 81 #[.agg #[.int .i64 h, .slice a n c, .int .i64 ac, .int .i64 bu]] w (RetInt w (if r then 0 else 8)) := fun L r ho hr => by
    obtain ⟨h1, h2⟩ := isOI_zero ho
    obtain ⟨⟨⟨g1, g2⟩, ⟨g3, g4⟩, g5, g6⟩, gn, gw⟩ := isFault_ok h1
    have hb := baseI_bd (ac := ac) g1
    obtain ⟨P, hP⟩ : ∃ P : Nat, baseI ac h = (P : Int) := ⟨(baseI ac h).toNat, by omega⟩
    obtain ⟨U, rfl⟩ : ∃ U : Nat, bu = (U : Int) := ⟨bu.toNat, by omega⟩
    obtain ⟨ab, ao, rfl, hab, hac⟩ := src_some hs (by omega)
    rw [hP, Int.toNat_natCast, Int.toNat_natCast] at h2 hr
    cases r
    · exact specSF_false h ac P U ab ao n c f L w hs hcn hcm ho h1 hP h2 hr
    · exact specSF_true h ac P U ab ao n c f L w hs hcn hcm ho h1 hP h2 hr
  rcases hk with ⟨L, ho, h0⟩ | ⟨L, ho, hr, rfl⟩ | ⟨L, ho, hr, rfl⟩
  · exact specSF_code h ac bu a n c f k L w hs hcn hcm ho h0
  · exact key L false ho hr
  · exact key L true ho hr
end Go.Proofs.Ytnacdhnnpddccaa

namespace Go.Proofs.Ytnacdhnnpddccaa
open Go.RowKit
set_option linter.unusedVariables false

theorem isSF_zero {h : Int} {n : Nat} {f : Nat → Int} {ac bu : Int} (hk : IsSF h n f ac bu 0) : ∃ L, IsOI h n f ac bu 0 L := by
  rcases hk with ⟨L, _, h0⟩ | ⟨L, _, _, h0⟩ | ⟨L, ho, _⟩
  · exact absurd rfl h0
  · cases h0
  · exact ⟨L, ho⟩
end Go.Proofs.Ytnacdhnnpddccaa

namespace Go.Proofs.Ytnacdhnnpddccaa
open Go.RowKit
set_option linter.unusedVariables false

/-- An object in memory, whatever it holds. -/
structure GM where
  at_ : Int
  s : Int
  m : Int
  o : Int
  h : Int
  a : Option Addr
  n : Nat
  c : Nat
  f : Nat → Int

def GM.g (t : GM) : Nat := match t.a with | some p => p.block | none => 0

def SixG (w : World) (b o : Nat) (t : GM) : Prop := w.cell? ⟨b, o, none⟩ = some (.int .i64 t.at_) ∧ w.cell? ⟨b, o + 1, none⟩ = some (.int .i64 t.s) ∧ w.cell? ⟨b, o + 2, none⟩ = some (.int .i64 t.m) ∧ w.cell? ⟨b, o + 3, none⟩ = some (.int .i64 t.o) ∧ w.cell? ⟨b, o + 4, none⟩ = some (.int .i64 t.h) ∧ w.cell? ⟨b, o + 5, none⟩ = some (.slice t.a t.n t.c)

def SixF (w : World) (b o : Nat) : Prop := w.frozen? ⟨b, o, none⟩ = false ∧ w.frozen? ⟨b, o + 1, none⟩ = false ∧ w.frozen? ⟨b, o + 2, none⟩ = false ∧ w.frozen? ⟨b, o + 3, none⟩ = false ∧ w.frozen? ⟨b, o + 4, none⟩ = false ∧ w.frozen? ⟨b, o + 5, none⟩ = false

theorem SixG.block {w w' : World} {b o : Nat} {t : GM} (h : SixG w b o t) (e : w'.heap[b]? = w.heap[b]?) : SixG w' b o t :=
  ⟨(World.cell?_of_block (w := w) (a := ⟨b, o, none⟩) e).trans h.1, (World.cell?_of_block (w := w) (a := ⟨b, o + 1, none⟩) e).trans h.2.1, (World.cell?_of_block (w := w) (a := ⟨b, o + 2, none⟩) e).trans h.2.2.1, (World.cell?_of_block (w := w) (a := ⟨b, o + 3, none⟩) e).trans h.2.2.2.1, (World.cell?_of_block (w := w) (a := ⟨b, o + 4, none⟩) e).trans h.2.2.2.2.1, (World.cell?_of_block (w := w) (a := ⟨b, o + 5, none⟩) e).trans h.2.2.2.2.2⟩

theorem SixF.block {w w' : World} {b o : Nat} (h : SixF w b o) (e : w'.heap[b]? = w.heap[b]?) : SixF w' b o :=
  ⟨(World.frozen?_of_block (w := w) (a := ⟨b, o, none⟩) e).trans h.1, (World.frozen?_of_block (w := w) (a := ⟨b, o + 1, none⟩) e).trans h.2.1, (World.frozen?_of_block (w := w) (a := ⟨b, o + 2, none⟩) e).trans h.2.2.1, (World.frozen?_of_block (w := w) (a := ⟨b, o + 3, none⟩) e).trans h.2.2.2.1, (World.frozen?_of_block (w := w) (a := ⟨b, o + 4, none⟩) e).trans h.2.2.2.2.1, (World.frozen?_of_block (w := w) (a := ⟨b, o + 5, none⟩) e).trans h.2.2.2.2.2⟩

theorem SixG.below {w w' : World} {b o : Nat} {t : GM} (h : SixG w b o t) (hb : Below w.heap.size w w') (hl : b < w.heap.size) : SixG w' b o t := h.block (hb.block b hl)

theorem SixF.below {w w' : World} {b o : Nat} (h : SixF w b o) (hb : Below w.heap.size w w') (hl : b < w.heap.size) : SixF w' b o := h.block (hb.block b hl)

theorem SixG.keeps {w w' : World} {b o lo hi : Nat} {t : GM} (h : SixG w b o t) (hk : Keeps w w' lo hi) (hl : b < w.heap.size) (hd : b < lo ∨ hi ≤ b) : SixG w' b o t := h.block (hk.block b hl hd)

theorem SixF.keeps {w w' : World} {b o lo hi : Nat} (h : SixF w b o) (hk : Keeps w w' lo hi) (hl : b < w.heap.size) (hd : b < lo ∨ hi ≤ b) : SixF w' b o := h.block (hk.block b hl hd)

/-- A row of objects is read. -/
structure GSrc (w : World) (b q N : Nat) (T : Nat → GM) : Prop where
  lt : b < w.heap.size
  six : ∀ i, i < N → SixG w b (q + i * 6) (T i)
  flds : ∀ i, i < N → Src w (T i).a (T i).n (T i).f

/-- A row of objects of the call's own, in blocks from lo to hi. -/
structure GOwn (w : World) (lo hi b q N : Nat) (T : Nat → GM) : Prop where
  glo : lo ≤ b
  ghi : b < hi
  lt : b < w.heap.size
  six : ∀ i, i < N → SixG w b (q + i * 6) (T i)
  free : ∀ i, i < N → SixF w b (q + i * 6)
  flds : ∀ i, i < N → OwnIn w lo hi (T i).a (T i).n (T i).f
  off : ∀ i, i < N → (T i).n = 0 ∨ (T i).g ≠ b
  apart : ∀ i j, i < N → j < N → i ≠ j → (T i).n = 0 ∨ (T j).n = 0 ∨ (T i).g ≠ (T j).g

theorem GOwn.src {w : World} {lo hi b q N : Nat} {T : Nat → GM} (h : GOwn w lo hi b q N T) : GSrc w b q N T := ⟨h.lt, h.six, fun i hi => (h.flds i hi).src⟩

theorem GSrc.below {w w' : World} {b q N : Nat} {T : Nat → GM} (h : GSrc w b q N T) (hb : Below w.heap.size w w') : GSrc w' b q N T :=
  ⟨Nat.lt_of_lt_of_le h.lt hb.size, fun i hi => (h.six i hi).below hb h.lt, fun i hi => (h.flds i hi).below hb⟩

theorem GOwn.below {w w' : World} {lo hi b q N : Nat} {T : Nat → GM} (h : GOwn w lo hi b q N T) (hb : Below w.heap.size w w') : GOwn w' lo hi b q N T :=
  ⟨h.glo, h.ghi, Nat.lt_of_lt_of_le h.lt hb.size, fun i hi => (h.six i hi).below hb h.lt, fun i hi => (h.free i hi).below hb h.lt, fun i hi => (h.flds i hi).below hb, h.off, h.apart⟩

theorem GOwn.keeps {w w' : World} {lo hi lo' hi' b q N : Nat} {T : Nat → GM} (h : GOwn w lo hi b q N T) (hk : Keeps w w' lo' hi') (hd : hi ≤ lo' ∨ hi' ≤ lo) : GOwn w' lo hi b q N T := by
  have h1 := h.glo; have h2 := h.ghi
  exact ⟨h.glo, h.ghi, Nat.lt_of_lt_of_le h.lt hk.size, fun i hi => (h.six i hi).keeps hk h.lt (by omega), fun i hi => (h.free i hi).keeps hk h.lt (by omega), fun i hi => (h.flds i hi).keeps hk hd, h.off, h.apart⟩

theorem GSrc.keeps {w w' : World} {lo hi b q N : Nat} {T : Nat → GM} (h : GSrc w b q N T) (hk : Keeps w w' lo hi) (hd : b < lo ∨ hi ≤ b) (hf : ∀ i, i < N → (T i).n = 0 ∨ (T i).g < lo ∨ hi ≤ (T i).g) : GSrc w' b q N T := by
  refine ⟨Nat.lt_of_lt_of_le h.lt hk.size, fun i hi => (h.six i hi).keeps hk h.lt hd, fun i hi => ?_⟩
  rcases h.flds i hi with h0 | ⟨b', o', he, hl, hc⟩
  · exact .inl h0
  · rcases hf i hi with h0 | hf
    · exact .inl h0
    · have hg : (T i).g = b' := by simp [GM.g, he]
      have e := hk.block b' hl (by omega)
      exact .inr ⟨b', o', he, Nat.lt_of_lt_of_le hl hk.size, fun k hk' => (World.cell?_of_block (w := w) (a := ⟨b', o' + k, none⟩) e).trans (hc k hk')⟩

theorem GSrc.drew {w : World} {b q N : Nat} {T : Nat → GM} (h : GSrc w b q N T) : GSrc w.drew b q N T := h.below (Below.refl _ _).drew

theorem GSrc.alloc {w : World} {b q N : Nat} {T : Nat → GM} (h : GSrc w b q N T) (o : Obj) : GSrc (w.alloc o) b q N T := h.below ((Below.refl _ _).alloc (Nat.le_refl _) o)

theorem GOwn.drew {w : World} {lo hi b q N : Nat} {T : Nat → GM} (h : GOwn w lo hi b q N T) : GOwn w.drew lo hi b q N T := h.below (Below.refl _ _).drew

theorem GOwn.alloc {w : World} {lo hi b q N : Nat} {T : Nat → GM} (h : GOwn w lo hi b q N T) (o : Obj) : GOwn (w.alloc o) lo hi b q N T := h.below ((Below.refl _ _).alloc (Nat.le_refl _) o)

theorem GSrc.congr {w : World} {b q N : Nat} {T U : Nat → GM} (h : GSrc w b q N T) (e : ∀ i, i < N → T i = U i) : GSrc w b q N U :=
  ⟨h.lt, fun i hi => by rw [← e i hi]; exact h.six i hi, fun i hi => by rw [← e i hi]; exact h.flds i hi⟩

theorem GOwn.congr {w : World} {lo hi b q N : Nat} {T U : Nat → GM} (h : GOwn w lo hi b q N T) (e : ∀ i, i < N → T i = U i) : GOwn w lo hi b q N U :=
  ⟨h.glo, h.ghi, h.lt, fun i hi => by rw [← e i hi]; exact h.six i hi, h.free, fun i hi => by rw [← e i hi]; exact h.flds i hi, fun i hi => by rw [← e i hi]; exact h.off i hi, fun i j hi hj hij => by rw [← e i hi, ← e j hj]; exact h.apart i j hi hj hij⟩
end Go.Proofs.Ytnacdhnnpddccaa

namespace Go.Proofs.Ytnacdhnnpddccaa
open Go.RowKit
set_option linter.unusedVariables false

/-- The objects stand one behind the other. -/
theorem parse_from {f : Nat → Int} {e : Nat} : ∀ (d a : Nat) (L : List Ob), e - a ≤ d → parse f e a = some L → ∀ x ∈ L, a ≤ x.at_.toNat ∧ 0 ≤ x.at_
  | 0, a, L, hd, hp, x, hx => by
    rw [parse_stop (by omega)] at hp
    cases hp; cases hx
  | d + 1, a, L, hd, hp, x, hx => by
    by_cases h : a < e
    · by_cases hg : Good f e a
      · rw [parse_good h hg] at hp
        obtain ⟨L', hp', rfl⟩ := Option.map_eq_some_iff.mp hp
        rcases List.mem_cons.mp hx with rfl | hx
        · simp [objAt]
        · have := parse_from d _ L' (by omega) hp' x hx
          exact ⟨by omega, this.2⟩
      · rw [parse_bad h hg] at hp; cases hp
    · rw [parse_stop h] at hp
      cases hp; cases hx

/-- No place is in two objects. -/
theorem parse_apart {f : Nat → Int} {e : Nat} : ∀ (d a : Nat) (L : List Ob), e - a ≤ d → parse f e a = some L → ∀ x ∈ L, ∀ y ∈ L, ∀ j, x.at_.toNat ≤ j → j < x.at_.toNat + 2 + x.s.toNat → y.at_.toNat ≤ j → j < y.at_.toNat + 2 + y.s.toNat → x = y
  | 0, a, L, hd, hp, x, hx, _, _, _, _, _, _, _ => by
    rw [parse_stop (by omega)] at hp
    cases hp; cases hx
  | d + 1, a, L, hd, hp, x, hx, y, hy, j, h1, h2, h3, h4 => by
    by_cases h : a < e
    · by_cases hg : Good f e a
      · rw [parse_good h hg] at hp
        obtain ⟨L', hp', rfl⟩ := Option.map_eq_some_iff.mp hp
        have e1 : (objAt f a).at_.toNat = a := by simp [objAt]
        have e2 : (objAt f a).s.toNat = szOf f a := rfl
        have hfr := parse_from (e - (a + 2 + szOf f a)) _ L' (Nat.le_refl _) hp'
        rcases List.mem_cons.mp hx with rfl | hx
        · rcases List.mem_cons.mp hy with rfl | hy
          · rfl
          · have := (hfr y hy).1; omega
        · rcases List.mem_cons.mp hy with rfl | hy
          · have := (hfr x hx).1; omega
          · exact parse_apart d _ L' (by omega) hp' x hx y hy j h1 h2 h3 h4
      · rw [parse_bad h hg] at hp; cases hp
    · rw [parse_stop h] at hp
      cases hp; cases hx

theorem isSF_shape {h : Int} {n : Nat} {f : Nat → Int} {ac bu : Int} {L : List Ob} (hk : IsSF h n f ac bu 0) (ho : IsOI h n f ac bu 0 L) : Points f L ∧ Rest f n (baseI ac h).toNat bu.toNat := by
  rcases hk with ⟨_, _, h0⟩ | ⟨_, _, _, h0⟩ | ⟨L', ho', hs, _⟩
  · exact absurd rfl h0
  · cases h0
  · have e := (isOI_zero ho').2.symm.trans (isOI_zero ho).2
    cases e
    rcases hs with ⟨h1, h2, _⟩ | ⟨_, h0⟩
    · exact ⟨h1, h2⟩
    · cases h0

theorem isOI_of {h : Int} {n : Nat} {f : Nat → Int} {ac bu : Int} {L : List Ob} (h1 : IsFault h n f ac bu 0) (h2 : parse f ((baseI ac h).toNat + bu.toNat) (baseI ac h).toNat = some L) : IsOI h n f ac bu 0 L := .inr (.inr ⟨h1, h2, rfl⟩)

/-- What stands in an arena that is right. -/
theorem right_bounds {h : Int} {n : Nat} {f : Nat → Int} {ac bu : Int} {L : List Ob} (ho : IsOI h n f ac bu 0 L) : ∀ x ∈ L, (baseI ac h).toNat ≤ x.at_.toNat ∧ 0 ≤ x.at_ ∧ 0 ≤ x.s ∧ x.at_.toNat + 2 + x.s.toNat ≤ (baseI ac h).toNat + bu.toNat ∧ (baseI ac h).toNat + bu.toNat ≤ n := fun x hx => by
  obtain ⟨h4, h5⟩ := isOI_zero ho
  obtain ⟨⟨⟨g1, g2⟩, ⟨g3, g4⟩, g5, g6⟩, gn, gw⟩ := isFault_ok h4
  have hPU : (baseI ac h).toNat + bu.toNat ≤ n := by rcases (by omega : ac = 0 ∨ ac = 1) with rfl | rfl <;> simp [baseI] <;> omega
  obtain ⟨a1, _, _, a4, _⟩ := parse_ok h5 hPU gw x hx
  obtain ⟨b1, b2⟩ := parse_from _ _ L (Nat.le_refl _) h5 x hx
  exact ⟨b1, b2, a1.1, a4.2, hPU⟩
end Go.Proofs.Ytnacdhnnpddccaa

namespace Go.Proofs.Ytnacdhnnpddccaa
open Go.RowKit
set_option linter.unusedVariables false

/-- What IsPointer answers. -/
def IsIP (s m o h i : Int) (r : Bool) : Prop := ((HOk s m o h ∧ (0 ≤ i ∧ i ≤ s - 1)) ∧ r = (m / P2 i % 2 == 1)) ∨ (¬ (HOk s m o h ∧ (0 ≤ i ∧ i ≤ s - 1)) ∧ r = false)

set_option maxRecDepth 100000 in
set_option maxHeartbeats 800000 in
theorem implIP_bad (s m o h i : Int) (w : World) (hk : ¬ HOk s m o h) :
    Calls Try.prog 136 #[.agg #[.int .i64 s, .int .i64 m, .int .i64 o, .int .i64 h], .int .i64 i] w (RetBool w false) := by
  have hk' : IsHF s m o h 3 := .inr ⟨hk, rfl⟩
  have HK := Lib.hid hk'
  clear hk'
  go_enter Try.func136, Try.ntmps136
  go_wp2_with fail
  refine (implHF_any s m o h 3 _ HK.out).mono ?_
  rintro e w1 ⟨rfl, hb⟩
  have HB1 : Hid (Below w.heap.size w w1) := thru1 (Below.refl _ _) hb
  have z1 : w.heap.size + 1 ≤ w1.heap.size := by have := hb.size; simp at this; omega
  have H_1 := Lib.hid ((Blk.new_at (w.heap.size) (by simp)).below hb)
  clear hb
  go_wp2
  go_ret
  exact ⟨rfl, HB1.out⟩

set_option maxRecDepth 100000 in
set_option maxHeartbeats 1600000 in
theorem implIP_out (s m o h i : Int) (w : World) (hk : HOk s m o h) (h0 : ¬ (0 ≤ i ∧ i ≤ s - 1)) :
    Calls Try.prog 136 #[.agg #[.int .i64 s, .int .i64 m, .int .i64 o, .int .i64 h], .int .i64 i] w (RetBool w false) := by
  obtain ⟨q1, q2⟩ := hk.1
  have H0 := Lib.hid h0
  have hk' : IsHF s m o h 0 := .inl ⟨hk, rfl⟩
  have HK := Lib.hid hk'
  clear hk'
  clear h0 hk
  go_enter Try.func136, Try.ntmps136
  go_wp2_with fail
  refine (implHF_any s m o h 0 _ HK.out).mono ?_
  rintro e w1 ⟨rfl, hb⟩
  have HB1 : Hid (Below w.heap.size w w1) := thru1 (Below.refl _ _) hb
  have z1 : w.heap.size + 1 ≤ w1.heap.size := by have := hb.size; simp at this; omega
  have H_1 := Lib.hid ((Blk.new_at (w.heap.size) (by simp)).below hb)
  clear hb
  have lH := H_1.out.1
  have cH0 := H_1.out.at 0 rfl
  go_wp2_with fail
  refine (isOut1 _ _ _ _ _ true (by simp) (.inr ⟨rfl, H0.out⟩)).mono ?_
  rintro e w2 ⟨rfl, hb⟩
  have HB2 : Hid (Below w.heap.size w w2) := thru1 HB1.out hb
  have z2 : w1.heap.size + 1 ≤ w2.heap.size := by have := hb.size; simp at this; omega
  have H_2 := Lib.hid ((H_1.out.alloc _).below hb)
  clear hb lH cH0 H_1 HB1
  go_wp2
  go_ret
  exact ⟨rfl, HB2.out⟩

set_option maxRecDepth 100000 in
set_option maxHeartbeats 1600000 in
theorem implIP_in (s m o h i : Int) (w : World) (hk : HOk s m o h) (h0 : 0 ≤ i ∧ i ≤ s - 1) :
    Calls Try.prog 136 #[.agg #[.int .i64 s, .int .i64 m, .int .i64 o, .int .i64 h], .int .i64 i] w (RetBool w (m / P2 i % 2 == 1)) := by
  obtain ⟨q1, q2⟩ := hk.1
  have H0 := Lib.hid h0
  have hk' : IsHF s m o h 0 := .inl ⟨hk, rfl⟩
  have HK := Lib.hid hk'
  clear hk'
  obtain ⟨q3, q4⟩ := h0
  have q5 := hk.2.1.1
  have hmin : min i.toNat 64 = i.toNat := by omega
  have hpow : (2 : Int) ^ i.toNat = P2 i := rfl
  have hbit : bits .and .i64 (m / P2 i) 1 = m / P2 i % 2 := bits_and_1 _
  clear hk
  go_enter Try.func136, Try.ntmps136
  go_wp2_with fail
  refine (implHF_any s m o h 0 _ HK.out).mono ?_
  rintro e w1 ⟨rfl, hb⟩
  have HB1 : Hid (Below w.heap.size w w1) := thru1 (Below.refl _ _) hb
  have z1 : w.heap.size + 1 ≤ w1.heap.size := by have := hb.size; simp at this; omega
  have H_1 := Lib.hid ((Blk.new_at (w.heap.size) (by simp)).below hb)
  clear hb
  have lH := H_1.out.1
  have cH0 := H_1.out.at 0 rfl
  have cH1 := H_1.out.at 1 rfl
  go_wp2_with fail
  refine (isOut1 _ _ _ _ _ false (by simp) (.inl ⟨rfl, H0.out⟩)).mono ?_
  rintro e w2 ⟨rfl, hb⟩
  have HB2 : Hid (Below w.heap.size w w2) := thru1 HB1.out hb
  have z2 : w1.heap.size + 1 ≤ w2.heap.size := by have := hb.size; simp at this; omega
  have H_2 := Lib.hid ((H_1.out.alloc _).below hb)
  clear hb lH cH0 cH1 H_1 HB1
  have lH := H_2.out.1
  have cH0 := H_2.out.at 0 rfl
  have cH1 := H_2.out.at 1 rfl
  go_wp2
  go_ret
  exact ⟨rfl, HB2.out⟩

theorem implIP_any (s m o h i : Int) (r : Bool) (w : World) (hk : IsIP s m o h i r) : Calls Try.prog 136 #[.agg #[.int .i64 s, .int .i64 m, .int .i64 o, .int .i64 h], .int .i64 i] w (RetBool w r) := by
  rcases hk with ⟨⟨h1, h2⟩, rfl⟩ | ⟨h1, rfl⟩
  · exact implIP_in s m o h i w h1 h2
  · by_cases x : HOk s m o h
    · exact implIP_out s m o h i w x (fun y => h1 ⟨x, y⟩)
    · exact implIP_bad s m o h i w x
end Go.Proofs.Ytnacdhnnpddccaa

namespace Go.Proofs.Ytnacdhnnpddccaa
open Go.RowKit
set_option linter.unusedVariables false

/-- Two objects hold the same. -/
def GSame (t u : GM) : Prop := t.at_ = u.at_ ∧ t.s = u.s ∧ t.m = u.m ∧ t.o = u.o ∧ t.h = u.h ∧ t.n = u.n ∧ ∀ k, k < t.n → t.f k = u.f k

def GV (w : World) (a : Option Addr) (N : Nat) (T : Nat → GM) : Prop := N = 0 ∨ ∃ b q, a = some ⟨b, q, none⟩ ∧ GSrc w b q N T

def GVO (w : World) (lo hi : Nat) (a : Option Addr) (N : Nat) (T : Nat → GM) : Prop := N = 0 ∨ ∃ b q, a = some ⟨b, q, none⟩ ∧ GOwn w lo hi b q N T

theorem GVO.src {w : World} {lo hi N : Nat} {a : Option Addr} {T : Nat → GM} (h : GVO w lo hi a N T) : GV w a N T := by
  rcases h with h0 | ⟨b, q, e, h⟩
  · exact .inl h0
  · exact .inr ⟨b, q, e, h.src⟩

theorem GV.below {w w' : World} {a : Option Addr} {N : Nat} {T : Nat → GM} (h : GV w a N T) (hb : Below w.heap.size w w') : GV w' a N T := by
  rcases h with h0 | ⟨b, q, e, h⟩
  · exact .inl h0
  · exact .inr ⟨b, q, e, h.below hb⟩

theorem GVO.below {w w' : World} {lo hi N : Nat} {a : Option Addr} {T : Nat → GM} (h : GVO w lo hi a N T) (hb : Below w.heap.size w w') : GVO w' lo hi a N T := by
  rcases h with h0 | ⟨b, q, e, h⟩
  · exact .inl h0
  · exact .inr ⟨b, q, e, h.below hb⟩

theorem GVO.keeps {w w' : World} {lo hi lo' hi' N : Nat} {a : Option Addr} {T : Nat → GM} (h : GVO w lo hi a N T) (hk : Keeps w w' lo' hi') (hd : hi ≤ lo' ∨ hi' ≤ lo) : GVO w' lo hi a N T := by
  rcases h with h0 | ⟨b, q, e, h⟩
  · exact .inl h0
  · exact .inr ⟨b, q, e, h.keeps hk hd⟩

theorem GV.drew {w : World} {a : Option Addr} {N : Nat} {T : Nat → GM} (h : GV w a N T) : GV w.drew a N T := h.below (Below.refl _ _).drew

theorem GV.alloc {w : World} {a : Option Addr} {N : Nat} {T : Nat → GM} (h : GV w a N T) (o : Obj) : GV (w.alloc o) a N T := h.below ((Below.refl _ _).alloc (Nat.le_refl _) o)

theorem GVO.drew {w : World} {lo hi N : Nat} {a : Option Addr} {T : Nat → GM} (h : GVO w lo hi a N T) : GVO w.drew lo hi a N T := h.below (Below.refl _ _).drew

theorem GVO.alloc {w : World} {lo hi N : Nat} {a : Option Addr} {T : Nat → GM} (h : GVO w lo hi a N T) (o : Obj) : GVO (w.alloc o) lo hi a N T := h.below ((Below.refl _ _).alloc (Nat.le_refl _) o)
end Go.Proofs.Ytnacdhnnpddccaa

namespace Go.Proofs.Ytnacdhnnpddccaa
open Go.RowKit
set_option linter.unusedVariables false

def obG (f : Nat → Int) (y : Ob) : GM := ⟨y.at_, y.s, y.m, y.o, y.h, none, y.s.toNat, 0, fun k => f (y.at_.toNat + 2 + k)⟩

def gzero : GM := ⟨0, 0, 0, 0, 0, none, 0, 0, fun _ => 0⟩

def xT (f : Nat → Int) (x : Option Ob) : GM := match x with | none => gzero | some y => obG f y

def obT (f : Nat → Int) (L : List Ob) (i : Nat) : GM := xT f L[i]?

theorem GSame.refl (t : GM) : GSame t t := ⟨rfl, rfl, rfl, rfl, rfl, rfl, fun _ _ => rfl⟩

/-- A row of objects comes back, with a code. -/
def RetORG (W : World) (f : Nat → Int) (co : Int) (L : List Ob) (e : Ending) (w' : World) : Prop :=
  ∃ a c T, e = .returned (.agg #[.int .i64 co, .slice a L.length c]) ∧ GVO w' W.heap.size w'.heap.size a L.length T ∧ (∀ i, i < L.length → GSame (T i) (obT f L i)) ∧ Below W.heap.size W w' ∧ L.length ≤ c ∧ c ≤ maxLen

theorem row_cap {w : World} {base e size n c : Nat} {a : Option Addr} {xs : List Value} (h : w.ownsRow base e size (.slice a n c) n xs) : n ≤ c ∧ c ≤ maxLen := by
  rcases h.2 with ⟨h1, h2⟩ | ⟨g, cap, cur, h1, _, _, h4, h5, _⟩
  · simp only [Value.slice.injEq] at h1
    obtain ⟨_, rfl, rfl⟩ := h1
    exact ⟨Nat.le_refl _, Nat.zero_le _⟩
  · simp only [Value.slice.injEq] at h1
    obtain ⟨_, _, rfl⟩ := h1
    exact ⟨h4, h5⟩

theorem gvo_mono {w : World} {lo lo' hi N : Nat} {a : Option Addr} {T : Nat → GM} (h : GVO w lo hi a N T) (hl : lo' ≤ lo) : GVO w lo' hi a N T := by
  rcases h with h0 | ⟨b, q, e, h⟩
  · exact .inl h0
  · exact .inr ⟨b, q, e, Nat.le_trans hl h.glo, h.ghi, h.lt, h.six, h.free, fun i hi => (h.flds i hi).widen hl (Nat.le_refl _), h.off, h.apart⟩

theorem isOI_small {h : Int} {n : Nat} {f : Nat → Int} {ac bu co : Int} {L : List Ob} (hk : IsOI h n f ac bu co L) : L.length ≤ 400 ∧ ∀ y ∈ L, 0 ≤ y.s ∧ y.s ≤ 12 := by
  rcases hk with ⟨_, _, _, _, rfl⟩ | ⟨_, _, _, rfl⟩ | ⟨h4, h5, _⟩
  · exact ⟨Nat.zero_le _, fun y hy => by cases hy⟩
  · exact ⟨Nat.zero_le _, fun y hy => by cases hy⟩
  · obtain ⟨⟨⟨g1, g2⟩, ⟨g3, g4⟩, g5, g6⟩, gn, _⟩ := isFault_ok h4
    have hl := parse_length _ _ L (Nat.le_refl _) h5
    have hb := baseI_bd (ac := ac) g1
    exact ⟨by omega, parse_sizes _ _ L (Nat.le_refl _) h5⟩

/-- What is owed of the program's function. -/
def ImplOI : Prop := ∀ (h ac bu : Int) (a : Option Addr) (n c : Nat) (f : Nat → Int) (co : Int) (L : List Ob) (w : World), Src w a n f → n ≤ c → c ≤ maxLen → IsOI h n f ac bu co L → Calls Try.prog 62 #[.agg #[.int .i64 h, .slice a n c, .int .i64 ac, .int .i64 bu]] w (RetORG w f co L)
end Go.Proofs.Ytnacdhnnpddccaa

namespace Go.Proofs.Ytnacdhnnpddccaa
open Go.RowKit
set_option linter.unusedVariables false

theorem isNaN_any (x : Int) (w : World) : Calls Try.prog 124 #[.int .i64 x] w (fun e w' => e = .returned (.bool false) ∧ Below w.heap.size w w') := by
  go_enter Try.func124, Try.ntmps124
  go_wp2
  go_ret
  exact ⟨rfl, Below.refl _ _⟩

def sgn (x y : Int) : Int := if x < y then -1 else if y < x then 1 else 0

set_option maxRecDepth 100000 in
theorem compare_any (x y : Int) (w : World) : Calls Try.prog 140 #[.int .i64 x, .int .i64 y] w (fun e w' => e = .returned (.int .i64 (sgn x y)) ∧ Below w.heap.size w w') := by
  have arm : ∀ (W0 : World), True := fun _ => trivial
  by_cases h1 : x < y
  · have hs : sgn x y = -1 := by unfold sgn; rw [if_pos h1]
    rw [hs]
    go_enter Try.func140, Try.ntmps140
    go_wp2_with (first | (go_at_call 124; refine (isNaN_any x _).mono ?_; rintro e w1 ⟨rfl, hb1⟩) | (go_at_call 124; refine (isNaN_any y _).mono ?_; rintro e w2 ⟨rfl, hb2⟩))
    go_ret
    exact ⟨rfl, hb1.trans (hb2.mono hb1.size)⟩
  · by_cases h2 : y < x
    · have hs : sgn x y = 1 := by unfold sgn; rw [if_neg h1, if_pos h2]
      rw [hs]
      go_enter Try.func140, Try.ntmps140
      go_wp2_with (first | (go_at_call 124; refine (isNaN_any x _).mono ?_; rintro e w1 ⟨rfl, hb1⟩) | (go_at_call 124; refine (isNaN_any y _).mono ?_; rintro e w2 ⟨rfl, hb2⟩))
      go_ret
      exact ⟨rfl, hb1.trans (hb2.mono hb1.size)⟩
    · have hs : sgn x y = 0 := by unfold sgn; rw [if_neg h1, if_neg h2]
      rw [hs]
      go_enter Try.func140, Try.ntmps140
      go_wp2_with (first | (go_at_call 124; refine (isNaN_any x _).mono ?_; rintro e w1 ⟨rfl, hb1⟩) | (go_at_call 124; refine (isNaN_any y _).mono ?_; rintro e w2 ⟨rfl, hb2⟩))
      go_ret
      exact ⟨rfl, hb1.trans (hb2.mono hb1.size)⟩

set_option maxRecDepth 100000 in
theorem fo1_any (t : GM) (at_ : Int) (w : World) : Calls Try.prog 139 #[.agg #[.int .i64 t.at_, .int .i64 t.s, .int .i64 t.m, .int .i64 t.o, .int .i64 t.h, .slice t.a t.n t.c], .int .i64 at_] w (fun e w' => e = .returned (.int .i64 (sgn t.at_ at_)) ∧ Below w.heap.size w w') := by
  go_enter Try.func139, Try.ntmps139
  go_wp2_with (go_at_call 140; refine (compare_any t.at_ at_ _).mono ?_; rintro e w1 ⟨rfl, hb1⟩)
  go_ret
  exact ⟨rfl, ((Below.refl _ _).alloc (Nat.le_refl _) _).trans (hb1.mono (by simp))⟩
end Go.Proofs.Ytnacdhnnpddccaa

namespace Go.Proofs.Ytnacdhnnpddccaa
open Go.RowKit
set_option linter.unusedVariables false

/-- The world stands in the first place where the row is no longer below. -/
def Cut (T : Nat → GM) (N : Nat) (x : Int) (lo hi : Nat) : Prop := (∀ j, j < lo → (T j).at_ < x) ∧ (∀ j, hi ≤ j → j < N → x ≤ (T j).at_)

set_option maxRecDepth 100000 in
set_option maxHeartbeats 1600000 in
theorem bs_any (a : Option Addr) (N k : Nat) (T : Nat → GM) (at_ : Int) (w : World) (hg : GV w a N T) (hN : N ≤ 1048576) (hm : ∀ i j, i < j → j < N → (T i).at_ < (T j).at_) :
    Calls Try.prog 138 #[.slice a N k, .int .i64 at_, .func (.func 139) #[] #[]] w (fun e w' => ∃ i : Nat, i ≤ N ∧ Cut T N at_ i i ∧ e = .returned (.tuple #[.int .i64 (i : Int), .bool (decide (i < N ∧ (T i).at_ = at_))]) ∧ Below w.heap.size w w') := by
  have G := Lib.hid hg; have HM := Lib.hid hm
  clear hg hm
  have eg : ∀ args w, (callFunc 139 args).run Try.prog w = .ok (.enter 139 args) w := enters_of Try.func139 (by kernel_rfl) rfl
  go_enter Try.func138, Try.ntmps138
  go_wp2
  go_loopw [9, 10] (fun p r wr => ∃ lo hi : Nat, p = .int .i64 (lo : Int) ∧ r = .int .i64 (hi : Int) ∧ lo ≤ hi ∧ hi ≤ N ∧ Hid (Cut T N at_ lo hi) ∧ Hid (Below w.heap.size w wr)) (fun p r _ => (intOf r).toNat - (intOf p).toNat)
  case atStart => exact ⟨0, N, rfl, rfl, Nat.zero_le _, Nat.le_refl _, ⟨fun j hj => by omega, fun j h1 h2 => by omega⟩, Below.refl _ _⟩
  case round =>
    obtain ⟨lo, hi, rfl, rfl, hlh, hin, HC, HBr⟩ := hrel
    by_cases hlt : lo < hi
    · have hlt' : (lo : Int) < (hi : Int) := by omega
      obtain ⟨b, q, rfl, gs⟩ : ∃ b q, a = some ⟨b, q, none⟩ ∧ GSrc w b q N T := by
        rcases G.out with h0 | h
        · omega
        · exact h
      have six := (gs.six ((lo + hi) / 2) (by omega)).below HBr.out gs.lt
      have HS := Lib.hid six
      clear six gs
      obtain ⟨s0, s1, s2, s3, s4, s5⟩ := HS.out
      by_cases hx : (T ((lo + hi) / 2)).at_ < at_
      · have hs : sgn (T ((lo + hi) / 2)).at_ at_ < 0 := by unfold sgn; rw [if_pos hx]; omega
        have C1 : Hid (Cut T N at_ ((lo + hi) / 2 + 1) hi) := Lib.hid ⟨fun j hj => by
          rcases Nat.lt_or_ge j ((lo + hi) / 2) with h | h
          · exact Int.lt_trans (HM.out j _ h (by omega)) hx
          · rw [show j = (lo + hi) / 2 by omega]; exact hx, HC.out.2⟩
        clear hx HC
        go_wp2_with (go_at_fn 139; refine (fo1_any (T _) at_ _).mono ?_; rintro e w1 ⟨rfl, hb1⟩)
        clear hs s0 s1 s2 s3 s4 s5 HS
        have HB1 := Lib.hid (HBr.out.trans ((Below.refl _ _).trans (hb1.mono HBr.out.size)))
        clear hb1
        go_roundw
        case measure => simp [intOf]; omega
        case rel => exact ⟨(lo + hi) / 2 + 1, hi, by go_num, rfl, by omega, hin, C1, HB1⟩
      · have hs : ¬ sgn (T ((lo + hi) / 2)).at_ at_ < 0 := by unfold sgn; rw [if_neg hx]; split <;> omega
        have C1 : Hid (Cut T N at_ lo ((lo + hi) / 2)) := Lib.hid ⟨HC.out.1, fun j h1 h2 => by
          rcases Nat.lt_or_ge ((lo + hi) / 2) j with h | h
          · exact Int.le_of_lt (Int.lt_of_le_of_lt (by omega) (HM.out _ j h h2))
          · rw [show j = (lo + hi) / 2 by omega]; omega⟩
        clear hx HC
        go_wp2_with (go_at_fn 139; refine (fo1_any (T _) at_ _).mono ?_; rintro e w1 ⟨rfl, hb1⟩)
        clear hs s0 s1 s2 s3 s4 s5 HS
        have HB1 := Lib.hid (HBr.out.trans ((Below.refl _ _).trans (hb1.mono HBr.out.size)))
        clear hb1
        go_roundw
        case measure => simp [intOf]; omega
        case rel => exact ⟨lo, (lo + hi) / 2, rfl, by go_num, by omega, by omega, C1, HB1⟩
    · obtain rfl : hi = lo := by omega
      have hlt' : ¬ (hi : Int) < (hi : Int) := by omega
      by_cases hn : hi < N
      · have hn' : (hi : Int) < (N : Int) := by omega
        obtain ⟨b, q, rfl, gs⟩ : ∃ b q, a = some ⟨b, q, none⟩ ∧ GSrc w b q N T := by
          rcases G.out with h0 | h
          · omega
          · exact h
        have six := (gs.six hi hn).below HBr.out gs.lt
        have HS := Lib.hid six
        clear six gs
        obtain ⟨s0, s1, s2, s3, s4, s5⟩ := HS.out
        obtain ⟨t, ht⟩ : ∃ t, T hi = t := ⟨_, rfl⟩
        rw [ht] at s0 s1 s2 s3 s4 s5
        have HT := Lib.hid ht
        clear ht HS
        have hd : Hid ((sgn t.at_ at_ == 0) = decide (hi < N ∧ (T hi).at_ = at_)) := Lib.hid (by
          rw [HT.out]
          by_cases hx : t.at_ = at_
          · have : sgn t.at_ at_ = 0 := by unfold sgn; rw [if_neg (by omega), if_neg (by omega)]
            rw [this, decide_eq_true ⟨hn, hx⟩]; rfl
          · have : ¬ sgn t.at_ at_ = 0 := by unfold sgn; split; omega; split <;> omega
            rw [decide_eq_false (fun h => hx h.2)]; simpa using this)
        go_wp2_with (go_at_fn 139; refine (fo1_any t at_ _).mono ?_; rintro e w1 ⟨rfl, hb1⟩)
        have HB1 := Lib.hid (HBr.out.trans ((Below.refl _ _).trans (hb1.mono HBr.out.size)))
        go_ret2
        exact ⟨hi, hin, HC.out, by rw [← hd.out]; rfl, HB1.out⟩
      · have hn' : ¬ (hi : Int) < (N : Int) := by omega
        have hd : Hid (false = decide (hi < N ∧ (T hi).at_ = at_)) := Lib.hid (decide_eq_false (fun h => hn h.1)).symm
        go_wp2
        go_ret2
        refine ⟨hi, hin, HC.out, ?_, HBr.out⟩
        rw [decide_eq_false hn]; rfl
end Go.Proofs.Ytnacdhnnpddccaa

namespace Go.Proofs.Ytnacdhnnpddccaa
open Go.RowKit
set_option linter.unusedVariables false

/-- An object is found in a row, or there is none. -/
def RetFound (W : World) (N : Nat) (T : Nat → GM) (x : Int) (e : Ending) (w' : World) : Prop :=
  Below W.heap.size W w' ∧ ((∃ i, i < N ∧ (T i).at_ = x ∧ e = .returned (.agg #[.int .i64 0, .int .i64 (T i).at_, .int .i64 (T i).s, .int .i64 (T i).m, .int .i64 (T i).o, .int .i64 (T i).h, .slice (T i).a (T i).n (T i).c])) ∨ ((∀ i, i < N → ¬ (T i).at_ = x) ∧ e = .returned (.agg #[.int .i64 4, .int .i64 0, .int .i64 0, .int .i64 0, .int .i64 0, .int .i64 0, .slice none 0 0])))

set_option maxRecDepth 100000 in
set_option maxHeartbeats 1600000 in
theorem find_any (a : Option Addr) (N k : Nat) (T : Nat → GM) (x : Int) (w : World) (hg : GV w a N T) (hN : N ≤ 1048576) (hm : ∀ i j, i < j → j < N → (T i).at_ < (T j).at_) :
    Calls Try.prog 132 #[.slice a N k, .int .i64 x] w (RetFound w N T x) := by
  have G := Lib.hid hg; have HM := Lib.hid hm
  clear hg hm
  go_enter Try.func132, Try.ntmps132
  go_wp2_with fail
  refine (bs_any a N k T x _ (G.out.alloc _) hN HM.out).mono ?_
  rintro e w1 ⟨i, hi, hc, rfl, hb⟩
  have HB1 := Lib.hid (thru1 (Below.refl _ _) hb)
  have R_1 := Lib.hid ((Blk.new_at (w := w) (cs := #[.int .i64 0, .int .i64 0, .int .i64 0, .int .i64 0, .int .i64 0, .int .i64 0, .slice none 0 0]) (t := 124) (w.heap.size) rfl).below hb)
  have G1 := Lib.hid ((G.out.alloc _).below hb)
  have z1 : w.heap.size + 1 ≤ w1.heap.size := by have := hb.size; simp at this; omega
  clear hb
  have HC := Lib.hid hc
  clear hc
  by_cases hx : i < N ∧ (T i).at_ = x
  · rw [decide_eq_true hx]
    obtain ⟨b, q, rfl, gs⟩ : ∃ b q, a = some ⟨b, q, none⟩ ∧ GSrc w1 b q N T := by
      rcases G1.out with h0 | h
      · omega
      · exact h
    have HS := Lib.hid (gs.six i hx.1)
    clear gs
    have hi' : (i : Int) < (N : Int) := by omega
    have hi0 : (0 : Int) ≤ (i : Int) := by omega
    obtain ⟨t, ht⟩ : ∃ t, T i = t := ⟨_, rfl⟩
    have HP : Hid (∃ i, i < N ∧ (T i).at_ = x ∧ Ending.returned (.agg #[.int .i64 0, .int .i64 t.at_, .int .i64 t.s, .int .i64 t.m, .int .i64 t.o, .int .i64 t.h, .slice t.a t.n t.c]) = Ending.returned (.agg #[.int .i64 0, .int .i64 (T i).at_, .int .i64 (T i).s, .int .i64 (T i).m, .int .i64 (T i).o, .int .i64 (T i).h, .slice (T i).a (T i).n (T i).c])) := Lib.hid ⟨i, hx.1, hx.2, by rw [ht]⟩
    have HS' : Hid (SixG w1 b (q + i * 6) t) := Lib.hid (by rw [← ht]; exact HS.out)
    clear HS hx ht HC
    obtain ⟨s0, s1, s2, s3, s4, s5⟩ := HS'.out
    have lR := R_1.out.1; have cR0 := R_1.out.at 0 rfl; have fR0 := R_1.out.free 0 rfl; have cR1 := R_1.out.at 1 rfl; have fR1 := R_1.out.free 1 rfl; have cR2 := R_1.out.at 2 rfl; have fR2 := R_1.out.free 2 rfl; have cR3 := R_1.out.at 3 rfl; have fR3 := R_1.out.free 3 rfl; have cR4 := R_1.out.at 4 rfl; have fR4 := R_1.out.free 4 rfl; have cR5 := R_1.out.at 5 rfl; have fR5 := R_1.out.free 5 rfl; have cR6 := R_1.out.at 6 rfl; have fR6 := R_1.out.free 6 rfl
    go_wp2
    refine bodyPost_ret (v := .agg #[.int .i64 0, .int .i64 t.at_, .int .i64 t.s, .int .i64 t.m, .int .i64 t.o, .int .i64 t.h, .slice t.a t.n t.c]) (by simp [results, Try.results132, go_sem, cR0, cR1, cR2, cR3, cR4, cR5, cR6]) rfl ⟨?_, .inl HP.out⟩
    repeat (first | (with_reducible refine Below.setCell ?_ (by (try simp); (try omega)) _) | (with_reducible refine Below.alloc ?_ (by (try simp); (try omega)) _) | (with_reducible refine Below.drew ?_))
    exact HB1.out
  · rw [decide_eq_false hx]
    have HP : Hid (∀ i, i < N → ¬ (T i).at_ = x) := Lib.hid (fun j hj he => by
      rcases Nat.lt_or_ge j i with h | h
      · have := HC.out.1 j h; omega
      · have h2 := HC.out.2 i (Nat.le_refl _) (by omega)
        rcases Nat.lt_or_ge i j with h3 | h3
        · have := HM.out i j h3 hj; omega
        · exact hx ⟨by omega, by rw [show i = j by omega]; exact he⟩)
    clear hx HC
    have lR := R_1.out.1; have cR0 := R_1.out.at 0 rfl; have fR0 := R_1.out.free 0 rfl; have cR1 := R_1.out.at 1 rfl; have fR1 := R_1.out.free 1 rfl; have cR2 := R_1.out.at 2 rfl; have fR2 := R_1.out.free 2 rfl; have cR3 := R_1.out.at 3 rfl; have fR3 := R_1.out.free 3 rfl; have cR4 := R_1.out.at 4 rfl; have fR4 := R_1.out.free 4 rfl; have cR5 := R_1.out.at 5 rfl; have fR5 := R_1.out.free 5 rfl; have cR6 := R_1.out.at 6 rfl; have fR6 := R_1.out.free 6 rfl
    go_wp2
    refine bodyPost_ret (v := .agg #[.int .i64 4, .int .i64 0, .int .i64 0, .int .i64 0, .int .i64 0, .int .i64 0, .slice none 0 0]) (by simp [results, Try.results132, go_sem, cR0, cR1, cR2, cR3, cR4, cR5, cR6]) rfl ⟨?_, .inr ⟨HP.out, rfl⟩⟩
    repeat (first | (with_reducible refine Below.setCell ?_ (by (try simp); (try omega)) _) | (with_reducible refine Below.alloc ?_ (by (try simp); (try omega)) _) | (with_reducible refine Below.drew ?_))
    exact HB1.out
end Go.Proofs.Ytnacdhnnpddccaa

namespace Go.Proofs.Ytnacdhnnpddccaa
open Go.RowKit
set_option linter.unusedVariables false

/-- A field as the program has it. -/
def fieldV (r : Bool) (v : Int) : Value := .iface (if r then 156 else 175) (.int .i64 v)

set_option maxRecDepth 100000 in
set_option maxHeartbeats 800000 in
theorem fieldOf_any (s m o h i v : Int) (r : Bool) (w : World) (hk : IsIP s m o h i r) : Calls Try.prog 127 #[.agg #[.int .i64 s, .int .i64 m, .int .i64 o, .int .i64 h], .int .i64 i, .int .i64 v] w (fun e w' => e = .returned (fieldV r v) ∧ Below w.heap.size w w') := by
  have HK := Lib.hid hk
  clear hk
  go_enter Try.func127, Try.ntmps127
  go_wp2_with fail
  refine (implIP_any s m o h i r _ HK.out).mono ?_
  rintro e w1 ⟨rfl, hb⟩
  have HB1 := Lib.hid (thru1 (Below.refl _ _) hb)
  clear hb
  cases r
  all_goals
    go_wp2
    go_ret
    exact ⟨rfl, HB1.out⟩

set_option maxRecDepth 100000 in
theorem place_any (v : Int) (w : World) (h1 : -1000000000 ≤ v) (h2 : v ≤ 1000000000) : Calls Try.prog 128 #[.int .i64 v] w (fun e w' => e = .returned (.int .i64 (v - 1)) ∧ Below w.heap.size w w') := by
  go_enter Try.func128, Try.ntmps128
  go_wp2
  go_ret
  exact ⟨rfl, Below.refl _ _⟩

set_option maxRecDepth 100000 in
theorem word_ptr (v : Int) (w : World) : Calls Try.prog 118 #[.int .i64 v] w (fun e w' => e = .returned (.int .i64 v) ∧ Below w.heap.size w w') := by
  go_enter Try.func118, Try.ntmps118
  go_wp2
  go_ret
  exact ⟨rfl, Below.refl _ _⟩

theorem as_ptr (v : Value) (w : World) : (Instr.typeAssert (.iface 156 v) 167 156 true).run Try.prog w = .ok (.tuple #[v, .bool true]) w := by kernel_rfl

theorem as_plain (v : Value) (w : World) : (Instr.typeAssert (.iface 175 v) 167 156 true).run Try.prog w = .ok (.tuple #[.int .i64 0, .bool false]) w := by kernel_rfl

set_option maxRecDepth 100000 in
set_option maxHeartbeats 800000 in
theorem may_plain (ob : Value) (owner v : Int) (w : World) : Calls Try.prog 137 #[ob, .int .i64 owner, .iface 175 (.int .i64 v)] w (RetBool w true) := by
  have ha := as_plain
  go_enter Try.func137, Try.ntmps137
  go_wp2
  go_ret
  exact ⟨rfl, Below.refl _ _⟩

/-- Whether a field of an object of this owner may be v. -/
def MayG (N : Nat) (T : Nat → GM) (owner v : Int) : Prop := v = 0 ∨ ∃ i, i < N ∧ (T i).at_ = v - 1 ∧ (T i).o = owner

set_option maxRecDepth 100000 in
set_option maxHeartbeats 1600000 in
theorem may_ptr (a : Option Addr) (N k : Nat) (T : Nat → GM) (owner v : Int) (r : Bool) (w : World) (hg : GV w a N T) (hN : N ≤ 1048576) (hm : ∀ i j, i < j → j < N → (T i).at_ < (T j).at_) (h1 : -1000000000 ≤ v) (h2 : v ≤ 1000000000) (hr : r = true ↔ MayG N T owner v) :
    Calls Try.prog 137 #[.slice a N k, .int .i64 owner, .iface 156 (.int .i64 v)] w (RetBool w r) := by
  have G := Lib.hid hg; have HM := Lib.hid hm; have HR := Lib.hid hr
  clear hg hm hr
  by_cases h0 : v = 0
  · obtain rfl : r = true := HR.out.2 (.inl h0)
    have ha := as_ptr
    go_enter Try.func137, Try.ntmps137
    go_wp2
    go_ret
    exact ⟨rfl, Below.refl _ _⟩
  · have hr0 : r = true ↔ ∃ i, i < N ∧ (T i).at_ = v - 1 ∧ (T i).o = owner := ⟨fun h => (HR.out.1 h).resolve_left h0, fun h => HR.out.2 (.inr h)⟩
    have HR0 := Lib.hid hr0
    clear hr0 HR
    have ha := as_ptr
    go_enter Try.func137, Try.ntmps137
    go_wp2_with (go_at_call 128; refine (place_any v _ h1 h2).mono ?_; rintro e w1 ⟨rfl, hb1⟩; have G1 := Lib.hid (G.out.below hb1); have HB1 := Lib.hid hb1; clear hb1)
    refine (find_any a N k T (v - 1) _ G1.out hN HM.out).mono ?_
    rintro e w2 ⟨hb, hc⟩
    have HB2 := Lib.hid (HB1.out.trans (hb.mono HB1.out.size))
    clear hb
    rcases hc with ⟨i, hi, hx, rfl⟩ | ⟨hx, rfl⟩
    · have hu : ∀ j, j < N → (T j).at_ = v - 1 → j = i := fun j hj hjx => by
        rcases Nat.lt_trichotomy i j with h | h | h
        · have := HM.out i j h hj; omega
        · exact h.symm
        · have := HM.out j i h hi; omega
      have HV : Hid (decide ((T i).o = owner) = r) := Lib.hid (by
        cases r with
        | true => obtain ⟨j, hj, hjx, ho⟩ := HR0.out.1 rfl; rw [← hu j hj hjx]; exact decide_eq_true ho
        | false => exact decide_eq_false fun h => by have := HR0.out.2 ⟨i, hi, hx, h⟩; cases this)
      clear hu
      go_wp2
      go_ret
      exact ⟨by rw [← HV.out]; (first | rfl | (simp; done) | (trace_state; fail)), HB2.out.alloc HB2.out.size _⟩
    · have hf : r = false := by
        cases r with
        | false => rfl
        | true => obtain ⟨j, hj, hjx, ho⟩ := HR0.out.1 rfl; exact absurd hjx (hx j hj)
      subst hf
      clear hx
      go_wp2
      go_ret
      exact ⟨rfl, HB2.out.alloc HB2.out.size _⟩
end Go.Proofs.Ytnacdhnnpddccaa

namespace Go.Proofs.Ytnacdhnnpddccaa
open Go.RowKit
set_option linter.unusedVariables false

/-- What heads and words the objects of a row have. -/
def Heads (N : Nat) (T : Nat → GM) : Prop := ∀ i, i < N → HOk (T i).s (T i).m (T i).o (T i).h ∧ (T i).n = (T i).s.toNat ∧ ∀ k, k < (T i).n → -1000000000 ≤ (T i).f k ∧ (T i).f k ≤ 1000000000

/-- Each pointer may be there. -/
def PtG (N : Nat) (T : Nat → GM) : Prop := ∀ i, i < N → ∀ k : Nat, k < (T i).n → (T i).m / P2 k % 2 = 1 → MayG N T (T i).o ((T i).f k)

theorem mid4 {w : World} {b : Nat} {v0 v1 v2 v3 v4 v5 : Value} (h : Blk w b [v0, v1, v2, v3, v4, v5]) : w.cell? ⟨b, 1, none⟩ = some v1 ∧ w.cell? ⟨b, 2, none⟩ = some v2 ∧ w.cell? ⟨b, 3, none⟩ = some v3 ∧ w.cell? ⟨b, 4, none⟩ = some v4 := ⟨h.at 1 rfl, h.at 2 rfl, h.at 3 rfl, h.at 4 rfl⟩

set_option maxRecDepth 100000 in
set_option maxHeartbeats 3200000 in
theorem stray_any (a : Option Addr) (N kk : Nat) (T : Nat → GM) (r : Bool) (w : World) (hg : GV w a N T) (hN : N ≤ 1048576) (hm : ∀ i j, i < j → j < N → (T i).at_ < (T j).at_) (hh : Heads N T) (hr : r = true ↔ ¬ PtG N T) :
    Calls Try.prog 130 #[.slice a N kk] w (RetBool w r) := by
  have G := Lib.hid hg; have HM := Lib.hid hm; have HH := Lib.hid hh; have HR := Lib.hid hr
  clear hg hm hh hr
  go_enter Try.func130, Try.ntmps130
  go_wp2
  go_loopw [9] (fun p wr => ∃ i : Nat, i ≤ N ∧ p = .int .i64 (i : Int) ∧ Hid (Below w.heap.size w wr) ∧ Hid (∀ j, j < i → ∀ k : Nat, k < (T j).n → (T j).m / P2 k % 2 = 1 → MayG N T (T j).o ((T j).f k))) (fun p _ => N - (intOf p).toNat)
  case atStart => exact ⟨0, Nat.zero_le _, rfl, Below.refl _ _, Lib.hid (fun j hj => by omega)⟩
  case round =>
    obtain ⟨i, hi, rfl, HBr, HPT⟩ := hrel
    by_cases hlt : i < N
    · have hlt' : (i : Int) < (N : Int) := by omega
      have hi0 : (0 : Int) ≤ (i : Int) := by omega
      obtain ⟨b, q, rfl, gs⟩ : ∃ b q, a = some ⟨b, q, none⟩ ∧ GSrc w b q N T := by
        rcases G.out with h0 | h
        · omega
        · exact h
      have six := (gs.six i hlt).below HBr.out gs.lt
      have src := (gs.flds i hlt).below HBr.out
      have hhd := HH.out i hlt
      have hpi : Hid (∀ r : Prop, (∀ k : Nat, k < (T i).n → (T i).m / P2 k % 2 = 1 → MayG N T (T i).o ((T i).f k)) → (∀ j, j < i + 1 → ∀ k : Nat, k < (T j).n → (T j).m / P2 k % 2 = 1 → MayG N T (T j).o ((T j).f k))) := Lib.hid (fun _ h j hj => by
        rcases Nat.lt_succ_iff_lt_or_eq.mp hj with h' | h'
        · exact HPT.out j h'
        · subst h'; exact h)
      have hbad : Hid (∀ k : Nat, k < (T i).n → (T i).m / P2 k % 2 = 1 → ¬ MayG N T (T i).o ((T i).f k) → r = true) := Lib.hid (fun k h1 h2 h3 => HR.out.2 fun hp => h3 (hp i hlt k h1 h2))
      obtain ⟨t, ht⟩ : ∃ t, T i = t := ⟨_, rfl⟩
      rw [ht] at six src hhd hpi hbad
      have HT := Lib.hid ht
      clear ht gs
      obtain ⟨hok, htn, hwd⟩ := hhd
      have ht12 : t.n ≤ 12 := by have := hok.1; omega
      have hst : t.s = (t.n : Int) := by have := hok.1; omega
      have HOK := Lib.hid hok; have HWD := Lib.hid hwd; have HS := Lib.hid six; have SR := Lib.hid src; have HTN := Lib.hid htn; have HST := Lib.hid hst
      clear hok hwd six src htn hst
      obtain ⟨s0, s1, s2, s3, s4, s5⟩ := HS.out
      obtain ⟨B, hB⟩ : ∃ B, wr.heap.size = B := ⟨_, rfl⟩
      have HX0 : Hid (Blk (wr.alloc (.cells #[.int .i64 t.at_, .int .i64 t.s, .int .i64 t.m, .int .i64 t.o, .int .i64 t.h, .slice t.a t.n t.c] 87)) B [.int .i64 t.at_, .int .i64 t.s, .int .i64 t.m, .int .i64 t.o, .int .i64 t.h, .slice t.a t.n t.c]) := Lib.hid (by rw [← hB]; exact Blk.new _ _ _)
      have HB0 := Lib.hid (HBr.out.alloc HBr.out.size (.cells #[.int .i64 t.at_, .int .i64 t.s, .int .i64 t.m, .int .i64 t.o, .int .i64 t.h, .slice t.a t.n t.c] 87))
      have SR0 := Lib.hid (SR.out.alloc (.cells #[.int .i64 t.at_, .int .i64 t.s, .int .i64 t.m, .int .i64 t.o, .int .i64 t.h, .slice t.a t.n t.c] 87))
      have hBw : w.heap.size ≤ B := by have := HBr.out.size; omega
      have HBE := Lib.hid hB
      clear hB SR HS
      go_wp2
      clear s0 s1 s2 s3 s4 s5
      rw [HBE.out]
      generalize wr.alloc (.cells #[.int .i64 t.at_, .int .i64 t.s, .int .i64 t.m, .int .i64 t.o, .int .i64 t.h, .slice t.a t.n t.c] 87) = W1 at *
      go_loopw [16] (fun p wq => ∃ k : Nat, k ≤ t.n ∧ p = .int .i64 (k : Int) ∧ Hid (Below w.heap.size w wq) ∧ Hid (Blk wq B [.int .i64 t.at_, .int .i64 t.s, .int .i64 t.m, .int .i64 t.o, .int .i64 t.h, .slice t.a t.n t.c]) ∧ Hid (Src wq t.a t.n t.f) ∧ Hid (∀ k' : Nat, k' < k → t.m / P2 k' % 2 = 1 → MayG N T t.o (t.f k'))) (fun p _ => t.n - (intOf p).toNat)
      case atStart => exact ⟨0, Nat.zero_le _, rfl, HB0, HX0, SR0, Lib.hid (fun k hk => by omega)⟩
      clear HB0 HX0 SR0 HBr
      case round =>
        obtain ⟨k, hk, rfl, HBq, X, SQ, HPK⟩ := hrel
        by_cases hks : k < t.n
        · have hks' : (k : Int) < (t.n : Int) := by omega
          have hk0 : (0 : Int) ≤ (k : Int) := by omega
          obtain ⟨hwk1, hwk2⟩ := HWD.out k hks
          have Xd := Lib.hid X.out.drew; have Gd := Lib.hid ((G.out.below HBq.out).drew); have HBd := Lib.hid HBq.out.drew
          obtain ⟨tb, tf, hta, ltb, cfk⟩ : ∃ tb tf, t.a = some ⟨tb, tf, none⟩ ∧ tb < wr.heap.size ∧ wr.cell? ⟨tb, tf + k, none⟩ = some (.int .i64 (t.f k)) := by
            rcases SQ.out with h0 | ⟨tb, tf, h1, h2, h3⟩
            · omega
            · exact ⟨tb, tf, h1, h2, h3 k hks⟩
          have HTA := Lib.hid hta
          have hkI : (0 : Int) ≤ (k : Int) ∧ (k : Int) ≤ t.s - 1 := by have := HST.out; omega
          by_cases hd : t.m / P2 k % 2 = 1
          · have HIP : Hid (IsIP t.s t.m t.o t.h (k : Int) true) := Lib.hid (.inl ⟨⟨HOK.out, hkI⟩, by rw [hd]; rfl⟩)
            have HD := Lib.hid hd
            clear hd hkI
            by_cases hmay : MayG N T t.o (t.f k)
            · have HMY := Lib.hid hmay
              clear hmay
              rw [hta] at X SQ Xd ⊢
              go_wp2_with fail
              go_region_held3 (fun w' => w'.cell? ⟨B, 1, none⟩ = some (.int .i64 t.s) ∧ w'.cell? ⟨B, 2, none⟩ = some (.int .i64 t.m) ∧ w'.cell? ⟨B, 3, none⟩ = some (.int .i64 t.o) ∧ w'.cell? ⟨B, 4, none⟩ = some (.int .i64 t.h))
                (first | (with_reducible exact mid4 X.out) | (with_reducible exact mid4 Xd.out) | (with_reducible exact mid4 X2.out) | (with_reducible exact mid4 X3.out))
                (first | (go_at_call 127; (refine (fieldOf_any t.s t.m t.o t.h (k : Int) (t.f k) true _ HIP.out).mono ?_; rintro e w2 ⟨rfl, hb⟩; have HB2 := Lib.hid (HBd.out.trans (hb.mono HBd.out.size)); have X2 := Lib.hid (Xd.out.below hb); have C2 := Lib.hid ((Below.refl wr.heap.size wr).drew.trans hb); have G2 := Lib.hid (Gd.out.below hb); clear hb)) | (go_at_call 137; refine (may_ptr (some ⟨b, q, none⟩) N kk T t.o (t.f k) true _ G2.out hN HM.out hwk1 hwk2 ⟨fun _ => HMY.out, fun _ => rfl⟩).mono ?_; rintro e w3 ⟨rfl, hb⟩; have HB3 := Lib.hid (HB2.out.trans (hb.mono HB2.out.size)); have X3 := Lib.hid (X2.out.below hb); have SQ3 := Lib.hid (SQ.out.below (C2.out.trans (hb.mono C2.out.size))); clear hb))
              go_wp2
              go_roundw
              case rel => exact ⟨k + 1, by omega, by go_num, HB3, X3, SQ3, Lib.hid (fun k' hk' hb' => by rcases Nat.lt_succ_iff_lt_or_eq.mp hk' with h' | h'; exact HPK.out k' h' hb'; subst h'; exact HMY.out)⟩
              case measure => simp [intOf]; omega
            · have HMAY : Hid (false = true ↔ MayG N T t.o (t.f k)) := Lib.hid ⟨fun h => (by cases h), fun h => absurd h hmay⟩
              have hrt := hbad.out k hks HD.out hmay
              subst hrt
              clear hmay
              rw [hta] at X SQ Xd ⊢
              go_wp2_with fail
              go_region_held3 (fun w' => w'.cell? ⟨B, 1, none⟩ = some (.int .i64 t.s) ∧ w'.cell? ⟨B, 2, none⟩ = some (.int .i64 t.m) ∧ w'.cell? ⟨B, 3, none⟩ = some (.int .i64 t.o) ∧ w'.cell? ⟨B, 4, none⟩ = some (.int .i64 t.h))
                (first | (with_reducible exact mid4 X.out) | (with_reducible exact mid4 Xd.out) | (with_reducible exact mid4 X2.out) | (with_reducible exact mid4 X3.out))
                (first | (go_at_call 127; (refine (fieldOf_any t.s t.m t.o t.h (k : Int) (t.f k) true _ HIP.out).mono ?_; rintro e w2 ⟨rfl, hb⟩; have HB2 := Lib.hid (HBd.out.trans (hb.mono HBd.out.size)); have X2 := Lib.hid (Xd.out.below hb); have C2 := Lib.hid ((Below.refl wr.heap.size wr).drew.trans hb); have G2 := Lib.hid (Gd.out.below hb); clear hb)) | (go_at_call 137; refine (may_ptr (some ⟨b, q, none⟩) N kk T t.o (t.f k) false _ G2.out hN HM.out hwk1 hwk2 HMAY.out).mono ?_; rintro e w3 ⟨rfl, hb⟩; have HB3 := Lib.hid (HB2.out.trans (hb.mono HB2.out.size)); have X3 := Lib.hid (X2.out.below hb); have SQ3 := Lib.hid (SQ.out.below (C2.out.trans (hb.mono C2.out.size))); clear hb))
              go_wp2
              go_ret
              exact ⟨rfl, HB3.out⟩
          · have HIP : Hid (IsIP t.s t.m t.o t.h (k : Int) false) := Lib.hid (.inl ⟨⟨HOK.out, hkI⟩, by symm; simpa using hd⟩)
            have HD := Lib.hid hd
            clear hd hkI
            rw [hta] at X SQ Xd ⊢
            go_wp2_with fail
            go_region_held3 (fun w' => w'.cell? ⟨B, 1, none⟩ = some (.int .i64 t.s) ∧ w'.cell? ⟨B, 2, none⟩ = some (.int .i64 t.m) ∧ w'.cell? ⟨B, 3, none⟩ = some (.int .i64 t.o) ∧ w'.cell? ⟨B, 4, none⟩ = some (.int .i64 t.h))
              (first | (with_reducible exact mid4 X.out) | (with_reducible exact mid4 Xd.out) | (with_reducible exact mid4 X2.out) | (with_reducible exact mid4 X3.out))
              (first | (go_at_call 127; (refine (fieldOf_any t.s t.m t.o t.h (k : Int) (t.f k) false _ HIP.out).mono ?_; rintro e w2 ⟨rfl, hb⟩; have HB2 := Lib.hid (HBd.out.trans (hb.mono HBd.out.size)); have X2 := Lib.hid (Xd.out.below hb); have C2 := Lib.hid ((Below.refl wr.heap.size wr).drew.trans hb); have G2 := Lib.hid (Gd.out.below hb); clear hb)) | (go_at_call 137; refine (may_plain _ t.o (t.f k) _).mono ?_; rintro e w3 ⟨rfl, hb⟩; have HB3 := Lib.hid (HB2.out.trans (hb.mono HB2.out.size)); have X3 := Lib.hid (X2.out.below hb); have SQ3 := Lib.hid (SQ.out.below (C2.out.trans (hb.mono C2.out.size))); clear hb))
            go_wp2
            go_roundw
            case rel => exact ⟨k + 1, by omega, by go_num, HB3, X3, SQ3, Lib.hid (fun k' hk' hb' => by rcases Nat.lt_succ_iff_lt_or_eq.mp hk' with h' | h'; exact HPK.out k' h' hb'; subst h'; exact absurd hb' HD.out)⟩
            case measure => simp [intOf]; omega
        · have hks' : ¬ (k : Int) < (t.n : Int) := by omega
          have hpi' := Lib.hid (hpi.out True (fun k' h1 h2 => HPK.out k' (by omega) h2))
          go_wp2
          go_roundw
          case rel => exact ⟨i + 1, by omega, by go_num, HBq, hpi'⟩
          case measure => simp [intOf]; omega
    · have hlt' : ¬ (i : Int) < (N : Int) := by omega
      have hrf : r = false := by
        cases r with
        | false => rfl
        | true => exact absurd (fun j hj => HPT.out j (by omega)) (HR.out.1 rfl)
      subst hrf
      go_wp2
      go_ret
      exact ⟨rfl, HBr.out⟩
end Go.Proofs.Ytnacdhnnpddccaa

namespace Go.Proofs.Ytnacdhnnpddccaa
open Go.RowKit
set_option linter.unusedVariables false

theorem parse_sorted {f : Nat → Int} {e : Nat} : ∀ (d a : Nat) (L : List Ob), e - a ≤ d → parse f e a = some L → L.Pairwise (fun x y => x.at_ < y.at_)
  | d, a, L, hd, hp => by
    by_cases h : a < e
    · by_cases hg : Good f e a
      · rw [parse_good h hg] at hp
        cases hr : parse f e (a + 2 + szOf f a) with
        | none => rw [hr] at hp; cases hp
        | some L' =>
          rw [hr] at hp
          simp only [Option.map_some, Option.some.injEq] at hp
          subst hp
          match d with
          | 0 => omega
          | d + 1 =>
            refine List.pairwise_cons.mpr ⟨fun y hy => ?_, parse_sorted d _ L' (by omega) hr⟩
            have := parse_from (e - (a + 2 + szOf f a)) _ L' (Nat.le_refl _) hr y hy
            show (a : Int) < y.at_
            omega
      · rw [parse_bad h hg] at hp; cases hp
    · rw [parse_stop h] at hp
      cases hp
      exact List.Pairwise.nil

theorem sorted_at {f : Nat → Int} {e a : Nat} {L : List Ob} (hp : parse f e a = some L) (i j : Nat) (hij : i < j) (hj : j < L.length) : (obT f L i).at_ < (obT f L j).at_ := by
  have h := List.pairwise_iff_getElem.mp (parse_sorted (e - a) a L (Nat.le_refl _) hp) i j (by omega) hj hij
  simpa [obT, List.getElem?_eq_getElem hj, List.getElem?_eq_getElem (show i < L.length by omega), xT, obG] using h

theorem sorted_T {f : Nat → Int} {e a : Nat} {L : List Ob} {T : Nat → GM} (hp : parse f e a = some L) (hT : ∀ i, i < L.length → GSame (T i) (obT f L i)) (i j : Nat) (hij : i < j) (hj : j < L.length) : (T i).at_ < (T j).at_ := by
  rw [(hT i (by omega)).1, (hT j hj).1]; exact sorted_at hp i j hij hj

theorem obT_get (f : Nat → Int) {L : List Ob} {i : Nat} (hi : i < L.length) : obT f L i = obG f L[i] := by simp [obT, List.getElem?_eq_getElem hi, xT]

theorem heads_T {f : Nat → Int} {n e a : Nat} {L : List Ob} {T : Nat → GM} (hp : parse f e a = some L) (he : e ≤ n) (hw : ∀ i, i < n → Word (f i)) (hT : ∀ i, i < L.length → GSame (T i) (obT f L i)) : Heads L.length T := fun i hi => by
  obtain ⟨h1, h2, h3, h4, h5, h6, h7⟩ := hT i hi
  rw [obT_get f hi] at h1 h2 h3 h4 h5 h6 h7
  obtain ⟨a', hx, hg⟩ := parse_all (e - a) a L (Nat.le_refl _) hp L[i] (List.getElem_mem hi)
  obtain ⟨o1, _, _, _, o5⟩ := parse_ok hp he hw L[i] (List.getElem_mem hi)
  refine ⟨?_, ?_, fun k hk => ?_⟩
  · rw [h2, h3, h4, h5]
    show HOk L[i].s L[i].m L[i].o L[i].h
    rw [hx]; exact hg.2.1.2
  · rw [h6, h2]; rfl
  · rw [h7 k hk]
    rw [h6] at hk
    exact o5 k hk

theorem findO_at {f : Nat → Int} {e a : Nat} {L : List Ob} (hp : parse f e a = some L) {i : Nat} (hi : i < L.length) : findO L L[i].at_ = some L[i] := by
  have hs := List.pairwise_iff_getElem.mp (parse_sorted (e - a) a L (Nat.le_refl _) hp)
  cases hf : findO L L[i].at_ with
  | none =>
    have := List.find?_eq_none.mp hf L[i] (List.getElem_mem hi)
    simp at this
  | some x =>
    have h1 := List.find?_some hf
    have h2 := List.mem_of_find?_eq_some hf
    obtain ⟨j, hj, rfl⟩ := List.getElem_of_mem h2
    have h3 : L[j].at_ = L[i].at_ := by simpa using h1
    rcases Nat.lt_trichotomy i j with h | h | h
    · have := hs i j hi hj h; omega
    · subst h; rfl
    · have := hs j i hj hi h; omega

theorem may_leads {f : Nat → Int} {e a : Nat} {L : List Ob} {T : Nat → GM} (hp : parse f e a = some L) (hT : ∀ i, i < L.length → GSame (T i) (obT f L i)) (o v : Int) : MayG L.length T o v ↔ leadsB L o v = true := by
  unfold MayG leadsB
  by_cases h0 : v = 0
  · simp [h0]
  · rw [if_neg h0]
    constructor
    · rintro (h | ⟨i, hi, h1, h2⟩)
      · exact absurd h h0
      · obtain ⟨a1, _, _, a4, _⟩ := hT i hi
        rw [obT_get f hi] at a1 a4
        have e1 : L[i].at_ = v - 1 := by rw [← h1, a1]; rfl
        rw [← e1, findO_at hp hi]
        have : L[i].o = o := by rw [← h2, a4]; rfl
        simpa using this
    · intro h
      cases hf : findO L (v - 1) with
      | none => rw [hf] at h; cases h
      | some x =>
        rw [hf] at h
        have h1 := List.find?_some hf
        obtain ⟨j, hj, rfl⟩ := List.getElem_of_mem (List.mem_of_find?_eq_some hf)
        obtain ⟨a1, _, _, a4, _⟩ := hT j hj
        rw [obT_get f hj] at a1 a4
        refine .inr ⟨j, hj, ?_, ?_⟩
        · rw [a1]; show L[j].at_ = v - 1; simpa using h1
        · rw [a4]; show L[j].o = o; simpa using h

theorem ptg_points {f : Nat → Int} {e a : Nat} {L : List Ob} {T : Nat → GM} (hp : parse f e a = some L) (hT : ∀ i, i < L.length → GSame (T i) (obT f L i)) (hsz : ∀ y ∈ L, 0 ≤ y.s ∧ y.s ≤ 12) : PtG L.length T ↔ Points f L := by
  constructor
  · intro h x hx k hk hb
    obtain ⟨i, hi, rfl⟩ := List.getElem_of_mem hx
    obtain ⟨a1, a2, a3, a4, a5, a6, a7⟩ := hT i hi
    rw [obT_get f hi] at a1 a2 a3 a4 a5 a6 a7
    have hz := hsz L[i] hx
    have hkn : k < (T i).n := by rw [a6]; show k < L[i].s.toNat; omega
    have := (may_leads hp hT _ _).1 (h i hi k hkn (by rw [a3]; exact hb))
    rw [a4, a7 k hkn] at this
    exact this
  · intro h i hi k hk hb
    obtain ⟨a1, a2, a3, a4, a5, a6, a7⟩ := hT i hi
    rw [obT_get f hi] at a1 a2 a3 a4 a5 a6 a7
    refine (may_leads hp hT _ _).2 ?_
    rw [a4, a7 k hk]
    rw [a6] at hk
    have hk' : k < L[i].s.toNat := hk
    exact h L[i] (List.getElem_mem hi) k (by omega) (by rw [a3] at hb; exact hb)
end Go.Proofs.Ytnacdhnnpddccaa

namespace Go.Proofs.Ytnacdhnnpddccaa
open Go.ChangeShapes Go.WideShapes Go.ChangeAt Go.RowKit Go.Joins
set_option linter.unusedVariables false
set_option maxRecDepth 100000

theorem Try.own : ownKnob Try.prog.godebug = none := by kernel_rfl

theorem Try.laidOut : laidOutB Try.prog = true := by kernel_rfl

theorem Try.cells31 : Try.prog.cellsOf 31 = 4 := by kernel_rfl

/-- What came in: an arena whose words are read. -/
theorem open_arena {H : Type} {enc : TypeId × Value → H} {W : World} {base : Nat} {v0 : Value} {d0 : DataW H} {p0 : List MemPlace}
    (hv : Value.okWide Try.prog W .any base 31 v0) (h0 : DataW.Trod enc Try.prog W 0 (fun _ => true) true 31 v0 d0 p0) (hlt : ∀ x ∈ p0, x.block < W.heap.size) :
    ∃ (h ac bu : Int) (a : Option Addr) (n c : Nat) (f : Nat → Int), v0 = .agg #[.int .i64 h, .slice a n c, .int .i64 ac, .int .i64 bu] ∧ Src W a n f ∧ n ≤ maxLen := by
  obtain ⟨c0, c1, c2, c3, y0, y1, y2, y3, m, rfl, rfl, rfl, hy0, hy1, hy2, hy3⟩ := open_agg4 Try.underlying31 (by kernel_rfl) Try.cells31 hv h0
  obtain ⟨h, e0, _, _⟩ := DataW.trod_int Try.underlying2 hy0
  obtain ⟨ac, e2, _, _⟩ := DataW.trod_int Try.underlying2 hy2
  obtain ⟨bu, e3, _, _⟩ := DataW.trod_int Try.underlying2 hy3
  simp only [List.cons.injEq, and_true] at e0 e2 e3
  subst e0 e2 e3
  rcases open_ints Try.underlying22 Try.underlying2 (by kernel_rfl) hy1 with ⟨hcs, _⟩ | ⟨x, l, c, zs, hcs, _, hl, hm, hz, _, hcell, hwz⟩
  · simp only [List.cons.injEq, and_true] at hcs
    subst hcs
    exact ⟨h, ac, bu, none, 0, 0, fun _ => 0, rfl, .inl rfl, Nat.zero_le _⟩
  · simp only [List.cons.injEq, and_true] at hcs
    subst hcs
    refine ⟨h, ac, bu, some x, l, c, fun i => zs.getD i 0, rfl, ?_, by omega⟩
    by_cases h0 : l = 0
    · exact .inl h0
    · right
      have hlz : l ≤ zs.length := by
        rw [hz]; split
        · exact hl
        · exact Nat.le_refl _
      obtain ⟨b, off, spot⟩ := x
      have hc := hcell 0 (by omega)
      have hspot : spot = none := by simpa [Addr.add] using World.cell?_spot hc
      subst hspot
      refine ⟨b, off, rfl, World.block_lt_of_cell? W _ (by simpa [Addr.add] using hc), fun i hi => ?_⟩
      have := hcell i (by omega)
      rcases i with _ | i
      · simpa [Addr.add] using this
      · simpa [Addr.add] using this
end Go.Proofs.Ytnacdhnnpddccaa

namespace Go.Proofs.Ytnacdhnnpddccaa
open Go.RowKit
set_option linter.unusedVariables false

theorem seven_keeps (w : World) (B : Nat) (v0 v1 v2 v3 v4 v5 v6 : Value) : Keeps w (((((((w.setCell ⟨B, 0, none⟩ v0).setCell ⟨B, 1, none⟩ v1).setCell ⟨B, 2, none⟩ v2).setCell ⟨B, 3, none⟩ v3).setCell ⟨B, 4, none⟩ v4).setCell ⟨B, 5, none⟩ v5).setCell ⟨B, 6, none⟩ v6) B (B + 1) := by
  repeat (refine Keeps.trans ?_ (keeps_setCell (p := ⟨B, _, none⟩) (Nat.le_refl B) (Nat.lt_succ_self B) _))
  exact Keeps.refl _ _ _

theorem blk_seven {w : World} {b B : Nat} {cs : List Value} (h : Blk w b cs) (hne : b ≠ B) (v0 v1 v2 v3 v4 v5 v6 : Value) : Blk (((((((w.setCell ⟨B, 0, none⟩ v0).setCell ⟨B, 1, none⟩ v1).setCell ⟨B, 2, none⟩ v2).setCell ⟨B, 3, none⟩ v3).setCell ⟨B, 4, none⟩ v4).setCell ⟨B, 5, none⟩ v5).setCell ⟨B, 6, none⟩ v6) b cs := h.keeps (seven_keeps w B v0 v1 v2 v3 v4 v5 v6) (by omega)

theorem cells5 {w : World} {b : Nat} {v0 v1 v2 v3 v4 : Value} (h : Blk w b [v0, v1, v2, v3, v4]) : w.cell? ⟨b, 0, none⟩ = some v0 ∧ w.cell? ⟨b, 1, none⟩ = some v1 ∧ w.cell? ⟨b, 2, none⟩ = some v2 ∧ w.cell? ⟨b, 3, none⟩ = some v3 ∧ w.cell? ⟨b, 4, none⟩ = some v4 := ⟨h.at 0 rfl, h.at 1 rfl, h.at 2 rfl, h.at 3 rfl, h.at 4 rfl⟩

set_option maxRecDepth 100000 in
set_option maxHeartbeats 400000 in
theorem clone_all (ad : Addr) (n cap : Nat) (f : Nat → Int) (w : World) (hs : Src w (some ad) n f) (hn : n ≤ 1048576) :
    Calls Try.prog 85 #[.slice (some ad) n cap] w (RetInts w n f) := by
  rcases Nat.eq_zero_or_pos n with rfl | hp
  · obtain ⟨i0, hi, hz0, hz1, hz2⟩ := info_parts Try.info2
    have hnil := fun (w : World) (a : Option Addr) (n c : Nat) => Lib.run_eql_slice_nil (P := Try.prog) w 22 2 a n c 0 0 Try.underlying22
    go_enter Try.func85, Try.ntmps85
    go_wp2_with (at_builtin; refine wpList_append_own _ rfl _ _ 22 rfl w.heap.size 2 i0 (.int .i64 0) 1 8 Try.underlying22 hi hz0 hz1 hz2 rfl (by decide) _ 0 [] rfl (World.ownsRow_lit w #[] 0 (Nat.le_refl _) (by simp [maxLen]) rfl) ad 0 cap (nums 0 f) rfl (by simp [nums]) (by intro j u h; simp [nums] at h) (nums_one 0 f) (by unfold maxLen; omega) (by omega) (by simp) ?_; intro v' w1 hown hgrow _)
    go_ret
    exact retInts_of_row (e := 2) (by simpa using hown) (((Below.refl _ _).alloc (Nat.le_refl _) _).grown hgrow (by simp) (by intro k hk; cases hk; exact Nat.le_refl _))
  · exact clone_any (some ad) n cap f w hs hp hn

/-- The first object of a row of words comes back, or a code. -/
def RetFirst (W : World) (n : Nat) (f : Nat → Int) (e : Ending) (w' : World) : Prop :=
  Below W.heap.size W w' ∧ ((Good f n 0 ∧ ∃ a c, e = .returned (.agg #[.int .i64 0, .int .i64 0, .int .i64 (f 0 / 2 % 16), .int .i64 (f 0 / 32 % 4096), .int .i64 (f 0 / 131072), .int .i64 (f 1), .slice a (szOf f 0) c]) ∧ Own w' W.heap.size a (szOf f 0) (fun k => f (2 + k))) ∨
    (¬ Good f n 0 ∧ e = .returned (.agg #[.int .i64 1, .int .i64 0, .int .i64 0, .int .i64 0, .int .i64 0, .int .i64 0, .slice none 0 0])))

set_option maxRecDepth 100000 in
set_option maxHeartbeats 1600000 in
theorem implFirst_any (b off n c : Nat) (f : Nat → Int) (w : World) (hs : Src w (some ⟨b, off, none⟩) n f) (hn : n ≤ 1048576) (hnc : n ≤ c) (hcm : c ≤ maxLen) :
    Calls Try.prog 108 #[.slice (some ⟨b, off, none⟩) n c] w (RetFirst w n f) := by
  have S := Lib.hid hs
  clear hs
  by_cases h2 : n < 2
  · have h2' : (n : Int) < 2 := by omega
    have hb : Hid (¬ Good f n 0) := Lib.hid (fun h => by have := h.1; omega)
    go_enter Try.func108, Try.ntmps108
    go_wp2
    refine bodyPost_ret (v := .agg #[.int .i64 1, .int .i64 0, .int .i64 0, .int .i64 0, .int .i64 0, .int .i64 0, .slice none 0 0]) (by simp [results, Try.results108, go_sem]) rfl ⟨?_, .inr ⟨hb.out, rfl⟩⟩
    repeat (first | (with_reducible refine Below.setCell ?_ (by (try simp); (try omega)) _) | (with_reducible refine Below.alloc ?_ (by (try simp); (try omega)) _) | (with_reducible refine Below.drew ?_))
    exact Below.refl _ _
  · have h2' : ¬ (n : Int) < 2 := by omega
    have h22 : (2 : Int) ≤ (n : Int) := by omega
    have hnc' : (n : Int) ≤ (c : Int) := by omega
    have hc2 : 2 ≤ c := by omega
    have S2 : Hid (Src w (some ⟨b, off, none⟩) 2 f) := S.out.elim (fun h => .inl (by omega)) (fun ⟨b', o', h1, h3, h4⟩ => .inr ⟨b', o', h1, h3, fun i hi => h4 i (by omega)⟩)
    have HCM := Lib.hid hcm
    clear hcm
    by_cases hk : ROk (f 0) (f 1)
    · have hs12 := hk.2.1
      have HK := Lib.hid hk
      clear hk
      go_enter Try.func108, Try.ntmps108
      go_wp2_with fail

      refine (implRH_any (some ⟨b, off, none⟩) 2 c f 0 (f 0 / 2 % 16) (f 0 / 32 % 4096) (f 0 / 131072) (f 1) _ (S2.out.alloc _) (by omega) (.inr (.inl ⟨rfl, HK.out, rfl, rfl, rfl, rfl, rfl⟩))).mono ?_
      rintro e w1 ⟨rfl, hb⟩
      have HB1 := Lib.hid (thru1 (Below.refl _ _) hb)
      have R_1 := Lib.hid ((Blk.new_at (w := w) (cs := #[.int .i64 0, .int .i64 0, .int .i64 0, .int .i64 0, .int .i64 0, .int .i64 0, .slice none 0 0]) (t := 124) (w.heap.size) rfl).below hb)
      have S1 := Lib.hid ((S.out.alloc _).below hb)
      have z1 : w.heap.size + 1 ≤ w1.heap.size := by have := hb.size; simp at this; omega
      clear hb
      by_cases hfit : f 0 / 2 % 16 ≤ (n : Int) - 2
      · obtain ⟨s, hs⟩ : ∃ s : Nat, f 0 / 2 % 16 = (s : Int) := ⟨(f 0 / 2 % 16).toNat, by omega⟩
        have hsz : szOf f 0 = s := by unfold szOf; omega
        have hg : Hid (Good f n 0) := Lib.hid ⟨by omega, HK.out, by rw [hsz]; omega⟩
        rw [hs] at hs12 hfit ⊢
        have HSZ := Lib.hid hsz
        clear hsz
        obtain ⟨m, hm⟩ : ∃ m, f 0 / 32 % 4096 = m := ⟨_, rfl⟩
        obtain ⟨o, ho⟩ : ∃ o, f 0 / 131072 = o := ⟨_, rfl⟩
        rw [hm, ho]
        have HES := Lib.hid hs; have HEM := Lib.hid hm; have HEO := Lib.hid ho
        clear hs hm ho
        have X1 := Lib.hid (Blk.new_at (w := w1) (cs := #[.int .i64 0, .int .i64 (s : Int), .int .i64 m, .int .i64 o, .int .i64 (f 1)]) (t := 161) (w1.heap.size) rfl)
        have R1 := Lib.hid (R_1.out.alloc (.cells #[.int .i64 0, .int .i64 (s : Int), .int .i64 m, .int .i64 o, .int .i64 (f 1)] 161))
        have HBa := Lib.hid (HB1.out.alloc HB1.out.size (.cells #[.int .i64 0, .int .i64 (s : Int), .int .i64 m, .int .i64 o, .int .i64 (f 1)] 161))
        have S3 : Hid (Src (w1.alloc (.cells #[.int .i64 0, .int .i64 (s : Int), .int .i64 m, .int .i64 o, .int .i64 (f 1)] 161)) (some ⟨b, off + 2, none⟩) s (fun k => f (2 + k))) := (S1.out.alloc _).elim (fun h => .inl (by omega)) (fun ⟨b', o', h1, h3, h4⟩ => .inr ⟨b', o' + 2, by cases h1; rfl, h3, fun i hi => by rw [show o' + 2 + i = o' + (2 + i) by omega]; exact h4 (2 + i) (by omega)⟩)
        have X1d := Lib.hid X1.out.drew; have R1d := Lib.hid R1.out.drew; have S3d := Lib.hid S3.out.drew; have HBd := Lib.hid HBa.out.drew
        have zd' : Hid (w.heap.size + 2 ≤ (w1.alloc (.cells #[.int .i64 0, .int .i64 (s : Int), .int .i64 m, .int .i64 o, .int .i64 (f 1)] 161)).drew.heap.size) := Lib.hid (by simp [World.drew]; omega)
        have hne7 : w1.heap.size ≠ w.heap.size := by omega
        have hs0 : (0 : Int) ≤ (s : Int) := by omega
        have hle1 : (2 : Int) ≤ 2 + (s : Int) := by omega
        have hle2 : 2 + (s : Int) ≤ (c : Int) := by omega
        have hs9 : s ≤ 1048576 := by omega
        by_cases hc : c = 2
        · have hz0 : Hid (s = 0) := Lib.hid (by omega)
          have S4d : Hid (Src (w1.alloc (.cells #[.int .i64 0, .int .i64 (s : Int), .int .i64 m, .int .i64 o, .int .i64 (f 1)] 161)).drew (some ⟨b, off, none⟩) s (fun k => f (2 + k))) := Lib.hid (Or.inl hz0.out)
          subst hc
          have lR := R_1.out.1; have cR0 := R_1.out.at 0 rfl; have fR0 := R_1.out.free 0 rfl; have cR1 := R_1.out.at 1 rfl; have fR1 := R_1.out.free 1 rfl; have cR2 := R_1.out.at 2 rfl; have fR2 := R_1.out.free 2 rfl; have cR3 := R_1.out.at 3 rfl; have fR3 := R_1.out.free 3 rfl; have cR4 := R_1.out.at 4 rfl; have fR4 := R_1.out.free 4 rfl; have cR5 := R_1.out.at 5 rfl; have fR5 := R_1.out.free 5 rfl; have cR6 := R_1.out.at 6 rfl; have fR6 := R_1.out.free 6 rfl
          go_wp2_with fail
          clear lR cR0 fR0 cR1 fR1 cR2 fR2 cR3 fR3 cR4 fR4 cR5 fR5 cR6 fR6
          clear hle1 hle2 hfit hs12 hnc' hc2 h22 h2' h2 hn hnc S S2 S1 X1 R1 HBa S3 R_1 HB1 HCM HK hs0
          go_region_held3 (fun w' => w'.cell? ⟨w1.heap.size, 0, none⟩ = some (.int .i64 0) ∧ w'.cell? ⟨w1.heap.size, 1, none⟩ = some (.int .i64 (s : Int)) ∧ w'.cell? ⟨w1.heap.size, 2, none⟩ = some (.int .i64 m) ∧ w'.cell? ⟨w1.heap.size, 3, none⟩ = some (.int .i64 o) ∧ w'.cell? ⟨w1.heap.size, 4, none⟩ = some (.int .i64 (f 1)))
            (first | (with_reducible exact cells5 X1d.out) | (with_reducible exact cells5 X2.out) | (with_reducible exact cells5 (blk_seven X2.out hne7 _ _ _ _ _ _ _)))
            (first | (go_at_call 85; refine (clone_all ⟨b, off, none⟩ s _ (fun k => f (2 + k)) _ S4d.out hs9).mono ?_; rintro e w2 ⟨g, cg, rfl, ho, hb, _, _, _⟩; have HB2 := Lib.hid (HBd.out.trans (hb.mono HBd.out.size)); have X2 := Lib.hid (X1d.out.below hb); have R2 := Lib.hid (R1d.out.below hb); have z2 := hb.size; have HO := Lib.hid (ho.mono zd'.out); clear hb ho; have lR := R2.out.1; have cR0 := R2.out.at 0 rfl; have fR0 := R2.out.free 0 rfl; have cR1 := R2.out.at 1 rfl; have fR1 := R2.out.free 1 rfl; have cR2 := R2.out.at 2 rfl; have fR2 := R2.out.free 2 rfl; have cR3 := R2.out.at 3 rfl; have fR3 := R2.out.free 3 rfl; have cR4 := R2.out.at 4 rfl; have fR4 := R2.out.free 4 rfl; have cR5 := R2.out.at 5 rfl; have fR5 := R2.out.free 5 rfl; have cR6 := R2.out.at 6 rfl; have fR6 := R2.out.free 6 rfl))
          go_wp2
          refine bodyPost_ret (v := .agg #[.int .i64 0, .int .i64 0, .int .i64 (s : Int), .int .i64 m, .int .i64 o, .int .i64 (f 1), .slice g s cg]) (by simp [results, Try.results108, go_sem, cR0, cR1, cR2, cR3, cR4, cR5, cR6]) rfl ⟨?_, .inl ⟨hg.out, g, cg, by rw [HSZ.out, HES.out, HEM.out, HEO.out], ?_⟩⟩
          · repeat (first | (with_reducible refine Below.setCell ?_ (by (try simp); (try omega)) _) | (with_reducible refine Below.alloc ?_ (by (try simp); (try omega)) _) | (with_reducible refine Below.drew ?_))
            exact HB2.out
          · rw [HSZ.out]
            refine Own.mono (B := w.heap.size + 2) ?_ (by omega)
            repeat (first | (with_reducible refine Own.setCell ?_ (by (try simp); (try omega)) _) | (with_reducible refine Own.alloc ?_ _) | (with_reducible refine Own.drew ?_))
            exact HO.out
        · have lR := R_1.out.1; have cR0 := R_1.out.at 0 rfl; have fR0 := R_1.out.free 0 rfl; have cR1 := R_1.out.at 1 rfl; have fR1 := R_1.out.free 1 rfl; have cR2 := R_1.out.at 2 rfl; have fR2 := R_1.out.free 2 rfl; have cR3 := R_1.out.at 3 rfl; have fR3 := R_1.out.free 3 rfl; have cR4 := R_1.out.at 4 rfl; have fR4 := R_1.out.free 4 rfl; have cR5 := R_1.out.at 5 rfl; have fR5 := R_1.out.free 5 rfl; have cR6 := R_1.out.at 6 rfl; have fR6 := R_1.out.free 6 rfl
          go_wp2_with fail
          clear lR cR0 fR0 cR1 fR1 cR2 fR2 cR3 fR3 cR4 fR4 cR5 fR5 cR6 fR6
          clear hle1 hle2 hfit hs12 hnc' hc2 h22 h2' h2 hn hnc S S2 S1 X1 R1 HBa S3 R_1 HB1 HCM HK hs0
          go_region_held3 (fun w' => w'.cell? ⟨w1.heap.size, 0, none⟩ = some (.int .i64 0) ∧ w'.cell? ⟨w1.heap.size, 1, none⟩ = some (.int .i64 (s : Int)) ∧ w'.cell? ⟨w1.heap.size, 2, none⟩ = some (.int .i64 m) ∧ w'.cell? ⟨w1.heap.size, 3, none⟩ = some (.int .i64 o) ∧ w'.cell? ⟨w1.heap.size, 4, none⟩ = some (.int .i64 (f 1)))
            (first | (with_reducible exact cells5 X1d.out) | (with_reducible exact cells5 X2.out) | (with_reducible exact cells5 (blk_seven X2.out hne7 _ _ _ _ _ _ _)))
            (first | (go_at_call 85; refine (clone_all ⟨b, off + 2, none⟩ s _ (fun k => f (2 + k)) _ S3d.out hs9).mono ?_; rintro e w2 ⟨g, cg, rfl, ho, hb, _, _, _⟩; have HB2 := Lib.hid (HBd.out.trans (hb.mono HBd.out.size)); have X2 := Lib.hid (X1d.out.below hb); have R2 := Lib.hid (R1d.out.below hb); have z2 := hb.size; have HO := Lib.hid (ho.mono zd'.out); clear hb ho; have lR := R2.out.1; have cR0 := R2.out.at 0 rfl; have fR0 := R2.out.free 0 rfl; have cR1 := R2.out.at 1 rfl; have fR1 := R2.out.free 1 rfl; have cR2 := R2.out.at 2 rfl; have fR2 := R2.out.free 2 rfl; have cR3 := R2.out.at 3 rfl; have fR3 := R2.out.free 3 rfl; have cR4 := R2.out.at 4 rfl; have fR4 := R2.out.free 4 rfl; have cR5 := R2.out.at 5 rfl; have fR5 := R2.out.free 5 rfl; have cR6 := R2.out.at 6 rfl; have fR6 := R2.out.free 6 rfl))
          go_wp2
          refine bodyPost_ret (v := .agg #[.int .i64 0, .int .i64 0, .int .i64 (s : Int), .int .i64 m, .int .i64 o, .int .i64 (f 1), .slice g s cg]) (by simp [results, Try.results108, go_sem, cR0, cR1, cR2, cR3, cR4, cR5, cR6]) rfl ⟨?_, .inl ⟨hg.out, g, cg, by rw [HSZ.out, HES.out, HEM.out, HEO.out], ?_⟩⟩
          · repeat (first | (with_reducible refine Below.setCell ?_ (by (try simp); (try omega)) _) | (with_reducible refine Below.alloc ?_ (by (try simp); (try omega)) _) | (with_reducible refine Below.drew ?_))
            exact HB2.out
          · rw [HSZ.out]
            refine Own.mono (B := w.heap.size + 2) ?_ (by omega)
            repeat (first | (with_reducible refine Own.setCell ?_ (by (try simp); (try omega)) _) | (with_reducible refine Own.alloc ?_ _) | (with_reducible refine Own.drew ?_))
            exact HO.out
      · have hs12' := hs12
        have hb : Hid (¬ Good f n 0) := Lib.hid (fun h => by have h3 := h.2.2; unfold szOf at h3; omega)
        have hd : (n : Int) - 2 < f 0 / 2 % 16 := by omega
        have lR := R_1.out.1; have cR0 := R_1.out.at 0 rfl; have fR0 := R_1.out.free 0 rfl; have cR1 := R_1.out.at 1 rfl; have fR1 := R_1.out.free 1 rfl; have cR2 := R_1.out.at 2 rfl; have fR2 := R_1.out.free 2 rfl; have cR3 := R_1.out.at 3 rfl; have fR3 := R_1.out.free 3 rfl; have cR4 := R_1.out.at 4 rfl; have fR4 := R_1.out.free 4 rfl; have cR5 := R_1.out.at 5 rfl; have fR5 := R_1.out.free 5 rfl; have cR6 := R_1.out.at 6 rfl; have fR6 := R_1.out.free 6 rfl
        go_wp2
        refine bodyPost_ret (v := .agg #[.int .i64 1, .int .i64 0, .int .i64 0, .int .i64 0, .int .i64 0, .int .i64 0, .slice none 0 0]) (by simp [results, Try.results108, go_sem, lR, cR0, cR1, cR2, cR3, cR4, cR5, cR6]) rfl ⟨?_, .inr ⟨hb.out, rfl⟩⟩
        repeat (first | (with_reducible refine Below.setCell ?_ (by (try simp); (try omega)) _) | (with_reducible refine Below.alloc ?_ (by (try simp); (try omega)) _) | (with_reducible refine Below.drew ?_))
        exact HB1.out
    · have HK := Lib.hid hk
      clear hk
      have hb : Hid (¬ Good f n 0) := Lib.hid (fun h => HK.out h.2.1)
      go_enter Try.func108, Try.ntmps108
      go_wp2_with fail

      refine (implRH_any (some ⟨b, off, none⟩) 2 c f 1 0 0 0 0 _ (S2.out.alloc _) (by omega) (.inr (.inr ⟨rfl, HK.out, rfl, rfl, rfl, rfl, rfl⟩))).mono ?_
      rintro e w1 ⟨rfl, hb⟩
      have HB1 := Lib.hid (thru1 (Below.refl _ _) hb)
      have R_1 := Lib.hid ((Blk.new_at (w := w) (cs := #[.int .i64 0, .int .i64 0, .int .i64 0, .int .i64 0, .int .i64 0, .int .i64 0, .slice none 0 0]) (t := 124) (w.heap.size) rfl).below hb)
      have S1 := Lib.hid ((S.out.alloc _).below hb)
      have z1 : w.heap.size + 1 ≤ w1.heap.size := by have := hb.size; simp at this; omega
      clear hb
      have lR := R_1.out.1; have cR0 := R_1.out.at 0 rfl; have fR0 := R_1.out.free 0 rfl; have cR1 := R_1.out.at 1 rfl; have fR1 := R_1.out.free 1 rfl; have cR2 := R_1.out.at 2 rfl; have fR2 := R_1.out.free 2 rfl; have cR3 := R_1.out.at 3 rfl; have fR3 := R_1.out.free 3 rfl; have cR4 := R_1.out.at 4 rfl; have fR4 := R_1.out.free 4 rfl; have cR5 := R_1.out.at 5 rfl; have fR5 := R_1.out.free 5 rfl; have cR6 := R_1.out.at 6 rfl; have fR6 := R_1.out.free 6 rfl
      go_wp2
      refine bodyPost_ret (v := .agg #[.int .i64 1, .int .i64 0, .int .i64 0, .int .i64 0, .int .i64 0, .int .i64 0, .slice none 0 0]) (by simp [results, Try.results108, go_sem, lR, cR0, cR1, cR2, cR3, cR4, cR5, cR6]) rfl ⟨?_, .inr ⟨hb.out, rfl⟩⟩
      repeat (first | (with_reducible refine Below.setCell ?_ (by (try simp); (try omega)) _) | (with_reducible refine Below.alloc ?_ (by (try simp); (try omega)) _) | (with_reducible refine Below.drew ?_))
      exact HB1.out
end Go.Proofs.Ytnacdhnnpddccaa

namespace Go.Proofs.Ytnacdhnnpddccaa
open Go.RowKit Go.Shelf
set_option linter.unusedVariables false
attribute [local go_sem] Oper.semAt_some

theorem walk_any (h ac bu : Int) (a : Option Addr) (n c : Nat) (w : World) : Calls Try.prog 90 #[.agg #[.int .i64 h, .slice a n c, .int .i64 ac, .int .i64 bu]] w (fun e w' => e = .returned (.func (.func 107) #[] #[.pointer (some ⟨w.heap.size, 0, none⟩)]) ∧ w' = w.alloc (.cells #[.int .i64 h, .slice a n c, .int .i64 ac, .int .i64 bu] 34)) := by
  go_enter Try.func90, Try.ntmps90
  go_wp2
  go_ret
  exact ⟨rfl, rfl⟩

theorem first_at (b off n c A e : Nat) (f : Nat → Int) (w : World) (hs : Src w (some ⟨b, off, none⟩) n f) (hA : A < e) (he : e ≤ n) (hn : n ≤ 1048576) (hnc : n ≤ c) (hcm : c ≤ maxLen) :
    Calls Try.prog 108 #[.slice (some ⟨b, off + A, none⟩) (e - A) (c - A)] w (fun en w' => Below w.heap.size w w' ∧ ((Good f e A ∧ ∃ ta tc, en = .returned (.agg #[.int .i64 0, .int .i64 0, .int .i64 (f A / 2 % 16), .int .i64 (f A / 32 % 4096), .int .i64 (f A / 131072), .int .i64 (f (A + 1)), .slice ta (szOf f A) tc]) ∧ Own w' w.heap.size ta (szOf f A) (fun k => f (A + 2 + k))) ∨ (¬ Good f e A ∧ en = .returned (.agg #[.int .i64 1, .int .i64 0, .int .i64 0, .int .i64 0, .int .i64 0, .int .i64 0, .slice none 0 0])))) := by
  have hs' : Src w (some ⟨b, off + A, none⟩) (e - A) (fun k => f (A + k)) := hs.elim (fun h => .inl (by omega)) (fun ⟨b', o', h1, h3, h4⟩ => .inr ⟨b', o' + A, by cases h1; rfl, h3, fun i hi => by rw [show o' + A + i = o' + (A + i) by omega]; exact h4 (A + i) (by omega)⟩)
  have hgood : Good (fun k => f (A + k)) (e - A) 0 ↔ Good f e A := by
    constructor
    · rintro ⟨h1, h2, h3⟩; exact ⟨by omega, h2, by have h3' : 0 + 2 + szOf f A ≤ e - A := h3; omega⟩
    · rintro ⟨h1, h2, h3⟩; exact ⟨by omega, h2, by show 0 + 2 + szOf f A ≤ e - A; omega⟩
  refine (implFirst_any b (off + A) (e - A) (c - A) (fun k => f (A + k)) w hs' (by omega) (by omega) (by omega)).mono ?_
  rintro en w' ⟨hb, hc⟩
  refine ⟨hb, ?_⟩
  rcases hc with ⟨h1, ta, tc, h2, h3⟩ | ⟨h1, h2⟩
  · exact .inl ⟨hgood.1 h1, ta, tc, h2, h3.congr fun i _ => by show f (A + (2 + i)) = f (A + 2 + i); rw [Nat.add_assoc]⟩
  · exact .inr ⟨fun h => h1 (hgood.2 h), h2⟩

/-- What has come, and what is told of it. -/
def Match (f : Nat → Int) (M : List GM) (L : List Ob) : Prop := M.length = L.length ∧ ∀ (i : Nat) (t : GM) (y : Ob), M[i]? = some t → L[i]? = some y → GSame t (obG f y)

theorem match_snoc {f : Nat → Int} {M : List GM} {L : List Ob} {t : GM} {y : Ob} (h : Match f M L) (ht : GSame t (obG f y)) : Match f (M ++ [t]) (L ++ [y]) := by
  refine ⟨by simp [h.1], fun i u v hu hv => ?_⟩
  rcases Nat.lt_or_ge i M.length with hi | hi
  · rw [List.getElem?_append_left hi] at hu
    rw [List.getElem?_append_left (by rw [← h.1]; exact hi)] at hv
    exact h.2 i u v hu hv
  · rw [List.getElem?_append_right hi] at hu
    rw [List.getElem?_append_right (by rw [← h.1]; exact hi), ← h.1] at hv
    rcases Nat.eq_zero_or_pos (i - M.length) with h0 | h0
    · rw [h0] at hu hv
      simp only [List.getElem?_cons_zero, Option.some.injEq] at hu hv
      subst hu; subst hv; exact ht
    · rw [List.getElem?_eq_none (by simp; omega)] at hu
      cases hu

/-- What a round keeps. -/
def Kept (n0 A1 : Nat) (W0 W1 W' : World) : Prop := Below n0 W1 W' ∧ W'.heap[A1]? = W1.heap[A1]? ∧ ∀ b, W0.heap.size ≤ b → b < W1.heap.size → W'.heap[b]? = W1.heap[b]?

theorem blk_block {w w' : World} {b : Nat} {cs : List Value} (h : Blk w b cs) (e : w'.heap[b]? = w.heap[b]?) : Blk w' b cs := by
  refine ⟨?_, fun i u hu => ?_⟩
  · have h1 : w.heap[b]? = some (w.heap[b]'h.1) := Array.getElem?_eq_getElem h.1
    rw [h1] at e
    exact (Array.getElem?_eq_some_iff.1 e).1
  · obtain ⟨h1, h2⟩ := h.2 i u hu
    exact ⟨(World.cell?_of_block (w := w) (a := ⟨b, i, none⟩) e).trans h1, (World.frozen?_of_block (w := w) (a := ⟨b, i, none⟩) e).trans h2⟩

set_option maxRecDepth 100000 in
set_option maxHeartbeats 1600000 in
theorem iter_in (m l A1 : Nat) (h ac : Int) (ab ao n c P U : Nat) (f : Nat → Int) (w W : World) (J : List GM → World → Prop) (Jx : World → Prop)
    (hJ : ∀ pre V V', J pre V → Below V.heap.size V V' → J pre V')
    (hgo : ∀ pre (t : GM) V0 V1, J pre V0 → pre.length < 400 → Below V0.heap.size V0 V1 → Own V1 V0.heap.size t.a t.n t.f → YieldAt Fence.wide (m - 1) Try.prog l #[.agg #[.int .i64 0, .int .i64 t.at_, .int .i64 t.s, .int .i64 t.m, .int .i64 t.o, .int .i64 t.h, .slice t.a t.n t.c]] V1 fun e V' => e = .returned (.bool true) ∧ J (pre ++ [t]) V' ∧ Kept w.heap.size A1 V0 V1 V')
    (hno : ∀ pre V0 V1, J pre V0 → Below V0.heap.size V0 V1 → YieldAt Fence.wide (m - 1) Try.prog l #[.agg #[.int .i64 1, .int .i64 0, .int .i64 0, .int .i64 0, .int .i64 0, .int .i64 0, .slice none 0 0]] V1 fun e V' => e = .returned (.bool false) ∧ Jx V')
    (hs : Src w (some ⟨ab, ao, none⟩) n f) (hW : Below w.heap.size w W) (hA : Blk W A1 [.int .i64 h, .slice (some ⟨ab, ao, none⟩) n c, .int .i64 ac, .int .i64 (U : Int)])
    (h1 : 8 ≤ h) (h2 : h ≤ 200) (h3 : 0 ≤ ac) (h4 : ac ≤ 1) (hP : baseI ac h = (P : Int)) (hn : (n : Int) = 2 * h) (hPU : P + U ≤ n) (hnc : n ≤ c) (hcm : c ≤ maxLen) (h0 : J [] W) :
    CallsIn Fence.wide m Try.prog 107 #[.func (.yield l) #[] #[], .pointer (some ⟨A1, 0, none⟩)] W fun e V' => (∃ v, e = .returned v) ∧
      ((∃ L xs, parse f (P + U) P = some L ∧ Match f xs L ∧ J xs V') ∨ (parse f (P + U) P = none ∧ Jx V')) := by
  have HS := Lib.hid hs; have HW := Lib.hid hW; have HA := Lib.hid hA; have HJ := Lib.hid hJ; have HGO := Lib.hid hgo; have HNO := Lib.hid hno; have H0 := Lib.hid h0; have HP := Lib.hid hP; have HCM := Lib.hid hcm
  obtain ⟨E, hE⟩ : ∃ E : Nat, P + U = E := ⟨_, rfl⟩
  rw [hE] at hPU ⊢
  have HE := Lib.hid hE
  have HEI : Hid ((P : Int) + (U : Int) = (E : Int)) := Lib.hid (by omega)
  have hPE : P ≤ E := by omega
  have hn4 : n ≤ 400 := by omega
  have hUb : (U : Int) ≤ 400 := by omega
  have hPb : (P : Int) ≤ 400 := by omega
  clear hs hW hA hJ hgo hno h0 hP hE hcm hn
  have cA := HA.out
  have lA := HA.out.1; have cA0 := HA.out.at 0 rfl; have fA0 := HA.out.free 0 rfl; have cA1 := HA.out.at 1 rfl; have fA1 := HA.out.free 1 rfl; have cA2 := HA.out.at 2 rfl; have fA2 := HA.out.free 2 rfl; have cA3 := HA.out.at 3 rfl; have fA3 := HA.out.free 3 rfl
  clear cA
  refine callsIn_of_wp Try.func107 rfl trivial ?_ rfl
  simp only [Try.ntmps107, List.size_toArray, List.length_cons, List.length_nil, Nat.reduceAdd, Nat.reduceSub, Array.replicate_succ, Array.replicate_zero, List.push_toArray, List.append_toArray, List.nil_append, List.cons_append]
  gi_wp2_with fail
  refine ⟨trivial, fun hx => (by simp [Fence.wide] at hx), (callsIn_wide.2 (baseOf_any h ac (U : Int) (some ⟨ab, ao, none⟩) n c _ h1 h2 h3 h4)).mono ?_⟩
  rintro e w1 ⟨rfl, hb⟩
  rw [HP.out]
  have HA1 := Lib.hid (HA.out.below hb); have HW1 := Lib.hid (HW.out.trans (hb.mono HW.out.size)); have H1 := Lib.hid (HJ.out _ _ _ H0.out hb)
  clear hb h1 h2 h3 h4 HA HW H0
  clear lA cA0 fA0 cA1 fA1 cA2 fA2 cA3 fA3
  have lA := HA1.out.1; have cA0 := HA1.out.at 0 rfl; have fA0 := HA1.out.free 0 rfl; have cA1 := HA1.out.at 1 rfl; have fA1 := HA1.out.free 1 rfl; have cA2 := HA1.out.at 2 rfl; have fA2 := HA1.out.free 2 rfl; have cA3 := HA1.out.at 3 rfl; have fA3 := HA1.out.free 3 rfl
  gi_wp2
  clear lA cA0 fA0 cA1 fA1 cA2 fA2 cA3 fA3
  rw [HEI.out]
  gi_loopw [3] (fun p wr => ∃ (pre : List GM) (L : List Ob) (A : Nat), p = .int .i64 (A : Int) ∧ P ≤ A ∧ A ≤ E ∧ 2 * pre.length ≤ A ∧ Hid (parse f E P = (parse f E A).map (L ++ ·)) ∧ Hid (Match f pre L) ∧ Hid (J pre wr) ∧ Hid (Blk wr A1 [.int .i64 h, .slice (some ⟨ab, ao, none⟩) n c, .int .i64 ac, .int .i64 (U : Int)]) ∧ Hid (Below w.heap.size w wr)) (fun p _ => E - (intOf p).toNat)
  case atStart => exact ⟨[], [], P, rfl, Nat.le_refl _, hPE, Nat.zero_le _, Lib.hid (by cases parse f E P <;> rfl), Lib.hid ⟨rfl, fun i t y ht => by cases ht⟩, H1, HA1, HW1⟩
  clear H1 HA1 HW1
  case round =>
    obtain ⟨pre, L, A, rfl, hPA, hAE, hlen, HPR, HMT, HJr, HAr, HWr⟩ := hrel
    have hA0 : (0 : Int) ≤ (A : Int) := by omega
    by_cases hlt : A < E
    · have hlt' : (A : Int) < (E : Int) := by omega
      have hle' : (A : Int) ≤ (E : Int) := by omega
      have hEc : (E : Int) ≤ (c : Int) := by omega
      have hcA : ¬ c = A := by omega
      have lA := HAr.out.1; have cA0 := HAr.out.at 0 rfl; have fA0 := HAr.out.free 0 rfl; have cA1 := HAr.out.at 1 rfl; have fA1 := HAr.out.free 1 rfl; have cA2 := HAr.out.at 2 rfl; have fA2 := HAr.out.free 2 rfl; have cA3 := HAr.out.at 3 rfl; have fA3 := HAr.out.free 3 rfl
      gi_wp2_with fail
      clear lA cA0 fA0 cA1 fA1 cA2 fA2 cA3 fA3
      refine ⟨trivial, fun hx => (by simp [Fence.wide] at hx), (callsIn_wide.2 (first_at ab ao n c A E f _ (HS.out.below HWr.out) hlt hPU (by omega) hnc HCM.out)).mono ?_⟩
      rintro en w2 ⟨hb, hc⟩
      have HBW := Lib.hid hb
      have HA2 := Lib.hid (HAr.out.below hb)
      have zr := hb.size
      clear hb hlt' hle' hEc hcA
      rcases hc with ⟨hgd, ta, tc, rfl, ho⟩ | ⟨hbd, rfl⟩
      · have HGD := Lib.hid hgd
        have HO := Lib.hid ho
        have hsz := good_size hgd
        have hsE : A + 2 + szOf f A ≤ E := hgd.2.2
        clear hgd ho
        have X0 := Lib.hid (Blk.new_at (w := w2) (cs := #[.int .i64 0, .int .i64 0, .int .i64 (f A / 2 % 16), .int .i64 (f A / 32 % 4096), .int .i64 (f A / 131072), .int .i64 (f (A + 1)), .slice ta (szOf f A) tc]) (t := 124) w2.heap.size rfl)
        have X1 : Hid (Blk (w2.alloc (.cells #[.int .i64 0, .int .i64 (A : Int), .int .i64 (f A / 2 % 16), .int .i64 (f A / 32 % 4096), .int .i64 (f A / 131072), .int .i64 (f (A + 1)), .slice ta (szOf f A) tc] 124)) w2.heap.size [.int .i64 0, .int .i64 (A : Int), .int .i64 (f A / 2 % 16), .int .i64 (f A / 32 % 4096), .int .i64 (f A / 131072), .int .i64 (f (A + 1)), .slice ta (szOf f A) tc]) := Lib.hid (Blk.new_at (w := w2) (cs := #[.int .i64 0, .int .i64 (A : Int), .int .i64 (f A / 2 % 16), .int .i64 (f A / 32 % 4096), .int .i64 (f A / 131072), .int .i64 (f (A + 1)), .slice ta (szOf f A) tc]) (t := 124) w2.heap.size rfl)
        have hz1 : (w2.alloc (.cells #[.int .i64 0, .int .i64 (A : Int), .int .i64 (f A / 2 % 16), .int .i64 (f A / 32 % 4096), .int .i64 (f A / 131072), .int .i64 (f (A + 1)), .slice ta (szOf f A) tc] 124)).heap.size = w2.heap.size + 1 := by simp
        have HZ1 := Lib.hid hz1
        clear hz1
        have HB2 : Hid (Below w2.heap.size w2 (w2.alloc (.cells #[.int .i64 0, .int .i64 (A : Int), .int .i64 (f A / 2 % 16), .int .i64 (f A / 32 % 4096), .int .i64 (f A / 131072), .int .i64 (f (A + 1)), .slice ta (szOf f A) tc] 124))) := Lib.hid ((Below.refl _ w2).alloc (Nat.le_refl _) _)
        have HA3 := Lib.hid (HA2.out.below HB2.out)
        have HBr : Hid (Below wr.heap.size wr (w2.alloc (.cells #[.int .i64 0, .int .i64 (A : Int), .int .i64 (f A / 2 % 16), .int .i64 (f A / 32 % 4096), .int .i64 (f A / 131072), .int .i64 (f (A + 1)), .slice ta (szOf f A) tc] 124))) := Lib.hid (HBW.out.trans (HB2.out.mono zr))
        obtain ⟨fn, tmps, assign, body, hy, hR⟩ := HGO.out pre ⟨(A : Int), f A / 2 % 16, f A / 32 % 4096, f A / 131072, f (A + 1), ta, szOf f A, tc, fun k => f (A + 2 + k)⟩ wr _ HJr.out (by omega) HBr.out (HO.out.below HB2.out)
        dsimp only at hy
        have lX := X0.out.1; have cX0 := X0.out.at 0 rfl; have fX0 := X0.out.free 0 rfl; have cX1 := X0.out.at 1 rfl; have fX1 := X0.out.free 1 rfl; have cX2 := X0.out.at 2 rfl; have fX2 := X0.out.free 2 rfl; have cX3 := X0.out.at 3 rfl; have fX3 := X0.out.free 3 rfl; have cX4 := X0.out.at 4 rfl; have fX4 := X0.out.free 4 rfl; have cX5 := X0.out.at 5 rfl; have fX5 := X0.out.free 5 rfl; have cX6 := X0.out.at 6 rfl; have fX6 := X0.out.free 6 rfl
        have lY := X1.out.1; have cY0 := X1.out.at 0 rfl; have fY0 := X1.out.free 0 rfl; have cY1 := X1.out.at 1 rfl; have fY1 := X1.out.free 1 rfl; have cY2 := X1.out.at 2 rfl; have fY2 := X1.out.free 2 rfl; have cY3 := X1.out.at 3 rfl; have fY3 := X1.out.free 3 rfl; have cY4 := X1.out.at 4 rfl; have fY4 := X1.out.free 4 rfl; have cY5 := X1.out.at 5 rfl; have fY5 := X1.out.free 5 rfl; have cY6 := X1.out.at 6 rfl; have fY6 := X1.out.free 6 rfl
        gi_wp2
        clear lX cX0 fX0 cX1 fX1 cX2 fX2 cX3 fX3 cX4 fX4 cX5 fX5 cX6 fX6
        clear lY cY0 fY0 cY1 fY1 cY2 fY2 cY3 fY3 cY4 fY4 cY5 fY5 cY6 fY6
        refine ⟨fun hx => (by simp [Fence.wide] at hx), hR.mono ?_⟩
        rintro e W3 ⟨rfl, hJ3, hk3⟩
        have X3 := Lib.hid (blk_block X1.out (hk3.2.2 w2.heap.size zr (by rw [HZ1.out]; omega)))
        have A3 := Lib.hid (blk_block HA3.out hk3.2.1)
        have W3B := Lib.hid (((HWr.out.trans (HBr.out.mono HWr.out.size))).trans hk3.1)
        have J3 := Lib.hid hJ3
        clear hy hR hJ3 hk3
        have lX := X3.out.1; have cX2 := X3.out.at 2 rfl
        have HPS := Lib.hid (parse_step HPR.out hlt HGD.out)
        have HM3 : Hid (Match f (pre ++ [⟨(A : Int), f A / 2 % 16, f A / 32 % 4096, f A / 131072, f (A + 1), ta, szOf f A, tc, fun k => f (A + 2 + k)⟩]) (L ++ [objAt f A])) := Lib.hid (match_snoc HMT.out ⟨rfl, rfl, rfl, rfl, rfl, rfl, fun _ _ => rfl⟩)
        obtain ⟨sz0, sz1, sz2⟩ := hsz
        have HSZ := Lib.hid sz2
        have hAb : (A : Int) ≤ 400 := by omega
        gi_wp2
        go_roundw
        case rel => exact ⟨_, _, A + 2 + szOf f A, by have := HSZ.out; go_num, by omega, hsE, by simp; omega, HPS, HM3, J3, A3, W3B⟩
        case measure => have := HSZ.out; simp [intOf]; omega
      · have HBD := Lib.hid hbd
        clear hbd
        have X0 := Lib.hid (Blk.new_at (w := w2) (cs := #[.int .i64 1, .int .i64 0, .int .i64 0, .int .i64 0, .int .i64 0, .int .i64 0, .slice none 0 0]) (t := 124) w2.heap.size rfl)
        have HBr : Hid (Below wr.heap.size wr (w2.alloc (.cells #[.int .i64 1, .int .i64 0, .int .i64 0, .int .i64 0, .int .i64 0, .int .i64 0, .slice none 0 0] 124))) := Lib.hid (HBW.out.alloc zr _)
        obtain ⟨fn, tmps, assign, body, hy, hR⟩ := HNO.out pre wr _ HJr.out HBr.out
        have lX := X0.out.1; have cX0 := X0.out.at 0 rfl; have fX0 := X0.out.free 0 rfl; have cX1 := X0.out.at 1 rfl; have fX1 := X0.out.free 1 rfl; have cX2 := X0.out.at 2 rfl; have fX2 := X0.out.free 2 rfl; have cX3 := X0.out.at 3 rfl; have fX3 := X0.out.free 3 rfl; have cX4 := X0.out.at 4 rfl; have fX4 := X0.out.free 4 rfl; have cX5 := X0.out.at 5 rfl; have fX5 := X0.out.free 5 rfl; have cX6 := X0.out.at 6 rfl; have fX6 := X0.out.free 6 rfl
        gi_wp2
        clear lX cX0 fX0 cX1 fX1 cX2 fX2 cX3 fX3 cX4 fX4 cX5 fX5 cX6 fX6
        refine ⟨fun hx => (by simp [Fence.wide] at hx), hR.mono ?_⟩
        rintro e W3 ⟨rfl, hJ3⟩
        have HN : Hid (parse f E P = none) := Lib.hid (by rw [HPR.out, parse_bad hlt HBD.out]; rfl)
        gi_wp2
        refine bodyPost_ret (results_none rfl _ _ _) rfl ?_
        exact ⟨⟨_, rfl⟩, .inr ⟨HN.out, hJ3⟩⟩
    · have hlt' : ¬ (A : Int) < (E : Int) := by omega
      have HN : Hid (parse f E P = some L) := Lib.hid (by rw [HPR.out, parse_stop hlt]; simp)
      gi_wp2
      go_end0
      exact ⟨⟨_, rfl⟩, .inl ⟨L, HN.out, pre, HMT.out, HJr.out⟩⟩
end Go.Proofs.Ytnacdhnnpddccaa

namespace Go.Proofs.Ytnacdhnnpddccaa
open Go.RowKit
set_option linter.unusedVariables false

def gcells (t : GM) : List Value := [.int .i64 t.at_, .int .i64 t.s, .int .i64 t.m, .int .i64 t.o, .int .i64 t.h, .slice t.a t.n t.c]

def rowG (M : List GM) : List Value := M.flatMap gcells

theorem rowG_snoc (M : List GM) (t : GM) : rowG (M ++ [t]) = rowG M ++ gcells t := by simp [rowG]

theorem rowG_get : ∀ (M : List GM) (i : Nat) (t : GM), M[i]? = some t → ∀ j, j < 6 → (rowG M)[i * 6 + j]? = (gcells t)[j]?
  | [], i, t, h, j, hj => by simp at h
  | u :: M, 0, t, h, j, hj => by
    simp only [List.getElem?_cons_zero, Option.some.injEq] at h
    subst h
    simp only [rowG, List.flatMap_cons, Nat.zero_mul, Nat.zero_add]
    rw [List.getElem?_append_left (by simp [gcells]; omega)]
  | u :: M, i + 1, t, h, j, hj => by
    have ih := rowG_get M i t (by simpa using h) j hj
    simp only [rowG, List.flatMap_cons] at ih ⊢
    rw [List.getElem?_append_right (by simp [gcells]; omega)]
    have e : (i + 1) * 6 + j - (gcells u).length = i * 6 + j := by simp [gcells]; omega
    rw [e]; exact ih

/-- Each object's fields are numbers of their own, later ones in later blocks. -/
def FldG (w : World) (lo : Nat) (v : Value) (M : List GM) : Prop :=
  (∀ t ∈ M, t.n = 0 ∨ (lo ≤ t.g ∧ t.g < w.heap.size ∧ some t.g ≠ v.ownBlock ∧ ∃ q, t.a = some ⟨t.g, q, none⟩ ∧ ∀ k, k < t.n → w.cell? ⟨t.g, q + k, none⟩ = some (.int .i64 (t.f k)) ∧ w.frozen? ⟨t.g, q + k, none⟩ = false)) ∧ M.Pairwise (fun t u => t.n = 0 ∨ u.n = 0 ∨ t.g < u.g)

theorem FldG.block {w w' : World} {lo : Nat} {v : Value} {M : List GM} (h : FldG w lo v M) (hz : w.heap.size ≤ w'.heap.size) (hb : ∀ b, lo ≤ b → b < w.heap.size → some b ≠ v.ownBlock → w'.heap[b]? = w.heap[b]?) : FldG w' lo v M :=
  ⟨fun t ht => by
    rcases h.1 t ht with h0 | ⟨h1, h2, h3, q, h4, h5⟩
    · exact .inl h0
    · have e := hb t.g h1 h2 h3
      exact .inr ⟨h1, Nat.lt_of_lt_of_le h2 hz, h3, q, h4, fun k hk => ⟨(World.cell?_of_block (w := w) (a := ⟨t.g, q + k, none⟩) e).trans (h5 k hk).1, (World.frozen?_of_block (w := w) (a := ⟨t.g, q + k, none⟩) e).trans (h5 k hk).2⟩⟩, h.2⟩

theorem FldG.below {w w' : World} {lo : Nat} {v : Value} {M : List GM} (h : FldG w lo v M) (hb : Below w.heap.size w w') : FldG w' lo v M := h.block hb.size fun b _ h2 _ => hb.block b h2

theorem FldG.snoc {w0 w1 w2 : World} {lo : Nat} {v v' : Value} {M : List GM} (t : GM) (h : FldG w0 lo v M) (hz : w0.heap.size ≤ w1.heap.size) (h01 : ∀ (b : Nat) (o : Obj), w0.heap[b]? = some o → o.isCells = true → w1.heap[b]? = some o) (hg : w1.grownBy w2 v.ownBlock)
    (hat : v'.ownBlock = v.ownBlock ∨ v'.ownBlock = some w1.heap.size) (hlo : lo ≤ w0.heap.size) (hv : ∀ k, v.ownBlock = some k → k < w0.heap.size) (ho : Own w1 w0.heap.size t.a t.n t.f) : FldG w2 lo v' (M ++ [t]) := by
  refine ⟨fun u hu => ?_, ?_⟩
  · rcases List.mem_append.mp hu with hu | hu
    · rcases Nat.eq_zero_or_pos u.n with hp | hp
      · exact .inl hp
      rcases h.1 u hu with h0 | ⟨h1, h2, h3, q, h4, h5⟩
      · exact .inl h0
      · obtain ⟨ob, hob, hcb⟩ := cells_of_cell (h5 0 hp).1
        have e := (hg.block u.g (Nat.lt_of_lt_of_le h2 hz) h3).trans ((h01 u.g ob hob hcb).trans hob.symm)
        refine .inr ⟨h1, Nat.lt_of_lt_of_le (Nat.lt_of_lt_of_le h2 hz) hg.size, ?_, q, h4, fun k hk => ⟨(World.cell?_of_block (w := w0) (a := ⟨u.g, q + k, none⟩) e).trans (h5 k hk).1, (World.frozen?_of_block (w := w0) (a := ⟨u.g, q + k, none⟩) e).trans (h5 k hk).2⟩⟩
        rcases hat with hat | hat
        · rw [hat]; exact h3
        · rw [hat]; intro he; simp only [Option.some.injEq] at he; omega
    · simp only [List.mem_singleton] at hu
      subst hu
      rcases ho with h0 | ⟨b, off, he, h1, h2, h3⟩
      · exact .inl h0
      · have hgb : u.g = b := by simp [GM.g, he]
        have hne : some b ≠ v.ownBlock := fun hx => by have := hv b hx.symm; omega
        have e := hg.block b h2 hne
        refine .inr ⟨by omega, by rw [hgb]; exact Nat.lt_of_lt_of_le h2 hg.size, ?_, off, by rw [hgb]; exact he, fun k hk => ?_⟩
        · rw [hgb]
          rcases hat with hat | hat
          · rw [hat]; exact hne
          · rw [hat]; intro hx; simp only [Option.some.injEq] at hx; omega
        · rw [hgb]
          exact ⟨(World.cell?_of_block (w := w1) (a := ⟨b, off + k, none⟩) e).trans (h3 k hk).1, (World.frozen?_of_block (w := w1) (a := ⟨b, off + k, none⟩) e).trans (h3 k hk).2⟩
  · rw [List.pairwise_append]
    refine ⟨h.2, by simp, fun u hu x hx => ?_⟩
    simp only [List.mem_singleton] at hx
    subst hx
    rcases h.1 u hu with h0 | ⟨_, h2, _⟩
    · exact .inl h0
    · rcases ho with h0 | ⟨b, off, he, h1, _⟩
      · exact .inr (.inl h0)
      · have hgb : x.g = b := by simp [GM.g, he]
        exact .inr (.inr (by omega))

def gT (M : List GM) (i : Nat) : GM := M[i]?.getD gzero

theorem gT_at {M : List GM} {i : Nat} {t : GM} (h : M[i]? = some t) : gT M i = t := by simp [gT, h]

theorem rowG_GVO {w : World} {base lo : Nat} {v : Value} {M : List GM} (h : w.ownsRow base 87 6 v M.length (rowG M)) (hf : FldG w lo v M) (hl : lo ≤ base) : ∃ a c, v = .slice a M.length c ∧ GVO w lo w.heap.size a M.length (gT M) := by
  rcases Nat.eq_zero_or_pos M.length with h0 | hp
  · rcases h.2 with ⟨h1, h2⟩ | ⟨g, cap, cur, h1, _⟩
    · exact ⟨none, 0, by rw [h1, h2], .inl h0⟩
    · exact ⟨_, cap, h1, .inl h0⟩
  · obtain ⟨gb, cap, rfl, hb, hlt⟩ := h.form hp
    refine ⟨_, cap, rfl, .inr ⟨gb, 0, rfl, ?_⟩⟩
    have hfr : ∀ k, k < M.length * 6 → w.frozen? ⟨gb, k, none⟩ = false := fun k hk => by
      have := h.frozenAt k
      simpa using this
    have hce : ∀ i t, M[i]? = some t → ∀ j u, (gcells t)[j]? = some u → w.cell? ⟨gb, i * 6 + j, none⟩ = some u := fun i t ht j u hu => by
      have hi : i < M.length := (List.getElem?_eq_some_iff.mp ht).1
      have hj : j < 6 := by
        have := (List.getElem?_eq_some_iff.mp hu).1
        simpa [gcells] using this
      have hc := h.cellAt (i * 6 + j) (by omega)
      rw [rowG_get M i t ht j hj, hu] at hc
      simpa using hc
    refine ⟨by omega, hlt, hlt, fun i hi => ?_, fun i hi => ?_, fun i hi => ?_, fun i hi => ?_, fun i j hi hj hij => ?_⟩
    · have ht := List.getElem?_eq_getElem hi
      rw [gT_at ht, Nat.zero_add]
      exact ⟨hce i _ ht 0 _ rfl, hce i _ ht 1 _ rfl, hce i _ ht 2 _ rfl, hce i _ ht 3 _ rfl, hce i _ ht 4 _ rfl, hce i _ ht 5 _ rfl⟩
    · rw [Nat.zero_add]
      exact ⟨hfr _ (by omega), hfr _ (by omega), hfr _ (by omega), hfr _ (by omega), hfr _ (by omega), hfr _ (by omega)⟩
    · have ht := List.getElem?_eq_getElem hi
      rw [gT_at ht]
      rcases hf.1 M[i] (List.getElem_mem hi) with h0 | ⟨h1, h2, _, q, h4, h5⟩
      · exact .inl h0
      · exact .inr ⟨_, q, h4, ⟨h1, h2⟩, h2, h5⟩
    · have ht := List.getElem?_eq_getElem hi
      rw [gT_at ht]
      rcases hf.1 M[i] (List.getElem_mem hi) with h0 | ⟨_, _, h3, _⟩
      · exact .inl h0
      · right
        intro he
        exact h3 (by rw [he]; rfl)
    · have hp := List.pairwise_iff_getElem.mp hf.2
      rw [gT_at (List.getElem?_eq_getElem hi), gT_at (List.getElem?_eq_getElem hj)]
      rcases Nat.lt_or_ge i j with hlt' | hge
      · rcases hp i j hi hj hlt' with h0 | h0 | h0
        · exact .inl h0
        · exact .inr (.inl h0)
        · exact .inr (.inr (by omega))
      · rcases hp j i hj hi (by omega) with h0 | h0 | h0
        · exact .inr (.inl h0)
        · exact .inl h0
        · exact .inr (.inr (by omega))

theorem match_same {f : Nat → Int} {M : List GM} {L : List Ob} (h : Match f M L) (i : Nat) (hi : i < L.length) : GSame (gT M i) (obT f L i) := by
  have h1 : i < M.length := by rw [h.1]; exact hi
  rw [gT_at (List.getElem?_eq_getElem h1)]
  have := h.2 i _ _ (List.getElem?_eq_getElem h1) (List.getElem?_eq_getElem hi)
  simpa [obT, List.getElem?_eq_getElem hi, xT] using this
end Go.Proofs.Ytnacdhnnpddccaa

namespace Go.Proofs.Ytnacdhnnpddccaa
open Go.RowKit Go.Shelf
set_option linter.unusedVariables false

/-- What lay below B, and what holds cells, is as it was. -/
structure Turn (B : Nat) (V V' : World) : Prop where
  os : V'.os = V.os
  tape : V'.tape = V.tape
  output : V'.output = V.output
  size : V.heap.size ≤ V'.heap.size
  same : ∀ (k : Nat) (o : Obj), V.heap[k]? = some o → (k < B ∨ o.isCells = true) → V'.heap[k]? = some o

theorem Turn.of_below {B : Nat} {V V' : World} (h : Below V.heap.size V V') : Turn B V V' :=
  ⟨h.os, h.tape, h.output, h.size, fun k o hk _ => (h.block k (Array.getElem?_eq_some_iff.1 hk).1).trans hk⟩

theorem Turn.trans {B : Nat} {V V' V'' : World} (h : Turn B V V') (h' : Turn B V' V'') : Turn B V V'' :=
  ⟨h'.os.trans h.os, h'.tape.trans h.tape, h'.output.trans h.output, Nat.le_trans h.size h'.size, fun k o hk hc => h'.same k o (h.same k o hk hc) hc⟩

theorem Turn.put {B : Nat} {V : World} {l : Nat} {o : Obj} (o' : Obj) (hl : B ≤ l) (h : V.heap[l]? = some o) (hc : o.isCells = false) : Turn B V (V.putObj l o') :=
  ⟨rfl, rfl, rfl, by simp, fun k x hk hx => by
    have hne : k ≠ l := fun e => by
      subst e
      rw [h] at hk
      cases hk
      rcases hx with hx | hx
      · omega
      · rw [hc] at hx; cases hx
    rw [World.putObj_heap_other hne]; exact hk⟩

theorem Turn.below {B n : Nat} {V V' : World} (h : Turn B V V') (hn : n ≤ B) (hz : n ≤ V.heap.size) : Below n V V' :=
  ⟨h.os, h.tape, h.output, h.size, fun k hk => by
    have hk' : V.heap[k]? = some (V.heap[k]'(by omega)) := Array.getElem?_eq_getElem (by omega)
    rw [hk']; exact h.same k _ hk' (.inl (by omega))⟩

theorem Turn.cell {B : Nat} {V V' : World} (h : Turn B V V') {p : Addr} {v : Value} (hc : V.cell? p = some v) : V'.cell? p = some v ∧ V'.frozen? p = V.frozen? p ∧ V'.heap[p.block]? = V.heap[p.block]? := by
  obtain ⟨o, ho, hcc⟩ := cells_of_cell hc
  have e : V'.heap[p.block]? = V.heap[p.block]? := (h.same _ o ho (.inr hcc)).trans ho.symm
  exact ⟨(World.cell?_of_block e).trans hc, World.frozen?_of_block e, e⟩

theorem Turn.blk {B : Nat} {V V' : World} (h : Turn B V V') {b : Nat} {cs : List Value} (hb : Blk V b cs) (hne : cs ≠ []) : Blk V' b cs := by
  cases cs with
  | nil => exact absurd rfl hne
  | cons u cs => exact blk_block hb (h.cell (hb.2 0 u rfl).1).2.2

theorem Turn.own {B : Nat} {V V' : World} (h : Turn B V V') {lo n : Nat} {a : Option Addr} {f : Nat → Int} (ho : Own V lo a n f) : Own V' lo a n f := by
  rcases ho with h0 | ⟨b, off, he, h1, h2, h3⟩
  · exact .inl h0
  · exact .inr ⟨b, off, he, h1, Nat.lt_of_lt_of_le h2 h.size, fun k hk => by
      obtain ⟨e1, e2, _⟩ := h.cell (h3 k hk).1
      exact ⟨e1, e2.trans (h3 k hk).2⟩⟩

theorem Turn.row {B : Nat} {V V' : World} (h : Turn B V V') {base e size n : Nat} {v : Value} {xs : List Value} (ho : V.ownsRow base e size v n xs) : V'.ownsRow base e size v n xs := by
  refine ⟨ho.1, ?_⟩
  rcases ho.2 with h0 | ⟨g, cap, cur, h1, h2, h3, h4⟩
  · exact .inl h0
  · exact .inr ⟨g, cap, cur, h1, h2, h.same g _ h3 (.inr rfl), h4⟩

theorem Turn.fld {B : Nat} {V V' : World} (h : Turn B V V') {lo : Nat} {v : Value} {M : List GM} (ho : FldG V lo v M) : FldG V' lo v M :=
  ⟨fun t ht => by
    rcases Nat.eq_zero_or_pos t.n with h0 | hp
    · exact .inl h0
    · rcases ho.1 t ht with h0 | ⟨h1, h2, h3, q, h4, h5⟩
      · exact .inl h0
      · exact .inr ⟨h1, Nat.lt_of_lt_of_le h2 h.size, h3, q, h4, fun k hk => by
          obtain ⟨e1, e2, _⟩ := h.cell (h5 k hk).1
          exact ⟨e1, e2.trans (h5 k hk).2⟩⟩, ho.2⟩

set_option maxHeartbeats 800000 in
/-- A loop over the iterator of objects: what each round owes, and what it is told. -/
theorem range_objs {n : Nat} {g : Operand} {p : Tmp} {assign body : Code} {Q : Exit → Act → World → Prop} {a : Act} {W0 : World} {gf : Nat} {lb : Array Value}
    (hg : a.eval g = .func (.func gf) #[] lb) (eg : ∀ args w, (callFunc gf args).run Try.prog w = .ok (.enter gf args) w)
    (S : List GM → Prop) (N : Prop) (I : List GM → World → Prop) (Ix : World → Prop) (n0 A1 : Nat) (hn0 : n0 ≤ W0.heap.size) (hA1 : A1 < W0.heap.size)
    (hI : ∀ s V V', I s V → Turn W0.heap.size V V' → I s V') (hIx : ∀ V V', Ix V → Turn W0.heap.size V V' → Ix V') (h0 : I [] W0)
    (hit : ∀ (l : Nat) (J : List GM → World → Prop) (Jx : World → Prop) (W1 : World), Below W0.heap.size W0 W1 → (∀ pre V V', J pre V → Below V.heap.size V V' → J pre V') →
      (∀ pre (t : GM) V0 V1, J pre V0 → pre.length < 400 → Below V0.heap.size V0 V1 → Own V1 V0.heap.size t.a t.n t.f → YieldAt Fence.wide (n - 1 - 1) Try.prog l #[.agg #[.int .i64 0, .int .i64 t.at_, .int .i64 t.s, .int .i64 t.m, .int .i64 t.o, .int .i64 t.h, .slice t.a t.n t.c]] V1 fun e V' => e = .returned (.bool true) ∧ J (pre ++ [t]) V' ∧ Kept n0 A1 V0 V1 V') →
      (∀ pre V0 V1, J pre V0 → Below V0.heap.size V0 V1 → YieldAt Fence.wide (n - 1 - 1) Try.prog l #[.agg #[.int .i64 1, .int .i64 0, .int .i64 0, .int .i64 0, .int .i64 0, .int .i64 0, .slice none 0 0]] V1 fun e V' => e = .returned (.bool false) ∧ Jx V') → J [] W1 →
      CallsIn Fence.wide (n - 1) Try.prog gf (#[.func (.yield l) #[] #[]] ++ lb) W1 fun e V' => (∃ v, e = .returned v) ∧ ((∃ xs, S xs ∧ J xs V') ∨ (N ∧ Jx V')))
    (a₁ : Value → Nat → Act)
    (hassign : ∀ (l : Nat) (c0 c1 c2 c3 c4 c5 : Int) (sa : Option Addr) (sn sc : Nat) (V1 : World) (K : Act → World → Prop), K (a₁ (.agg #[.int .i64 c0, .int .i64 c1, .int .i64 c2, .int .i64 c3, .int .i64 c4, .int .i64 c5, .slice sa sn sc]) V1.heap.size) (V1.alloc (.cells #[.int .i64 c0, .int .i64 c1, .int .i64 c2, .int .i64 c3, .int .i64 c4, .int .i64 c5, .slice sa sn sc] 124)) →
      assign.wpIn (Fence.wide.inRound l) (n - 1 - 1) Try.prog (Exit.then K (fun _ _ _ => False)) { tmps := a.tmps.setIfInBounds p (.agg #[.int .i64 c0, .int .i64 c1, .int .i64 c2, .int .i64 c3, .int .i64 c4, .int .i64 c5, .slice sa sn sc]), defers := [] } V1)
    (hgo : ∀ (l : Nat) (pre : List GM) (t : GM) (V0 V1 V2 : World), I pre V0 → pre.length < 400 → Turn W0.heap.size V0 V2 → V0.heap.size ≤ V1.heap.size → V2.heap.size = V1.heap.size + 1 → W0.heap.size ≤ V0.heap.size → Blk V2 V1.heap.size [.int .i64 0, .int .i64 t.at_, .int .i64 t.s, .int .i64 t.m, .int .i64 t.o, .int .i64 t.h, .slice t.a t.n t.c] → Own V2 V0.heap.size t.a t.n t.f →
      body.wpIn (Fence.wide.inRound l) (n - 1 - 1) Try.prog (fun ex _ V3 => ex = .normal ∧ KeepsOthers V2 V3 ∧ I (pre ++ [t]) V3 ∧ Kept n0 A1 V0 V2 V3) (a₁ (.agg #[.int .i64 0, .int .i64 t.at_, .int .i64 t.s, .int .i64 t.m, .int .i64 t.o, .int .i64 t.h, .slice t.a t.n t.c]) V1.heap.size) V2)
    (hno : ∀ (l : Nat) (pre : List GM) (V0 V1 V2 : World), I pre V0 → Turn W0.heap.size V0 V2 → V0.heap.size ≤ V1.heap.size → V2.heap.size = V1.heap.size + 1 → W0.heap.size ≤ V0.heap.size → Blk V2 V1.heap.size [.int .i64 1, .int .i64 0, .int .i64 0, .int .i64 0, .int .i64 0, .int .i64 0, .slice none 0 0] →
      body.wpIn (Fence.wide.inRound l) (n - 1 - 1) Try.prog (fun ex _ V3 => ex = .ret ∧ KeepsOthers V2 V3 ∧ Ix V3) (a₁ (.agg #[.int .i64 1, .int .i64 0, .int .i64 0, .int .i64 0, .int .i64 0, .int .i64 0, .slice none 0 0]) V1.heap.size) V2)
    (hdone : ∀ (D : Nat) (xs : List GM) (V : World), W0.heap.size ≤ D → S xs → I xs V → V.heap[D]? = some (.deferred (some [])) → Q .normal { a with defers := { target := .collected D, args := #[] } :: a.defers } V)
    (hstop : ∀ (D : Nat) (V : World), W0.heap.size ≤ D → N → Ix V → V.heap[D]? = some (.deferred (some [])) → Code.ret.wpIn Fence.wide n Try.prog Q { a with defers := { target := .collected D, args := #[] } :: a.defers } V) :
    (Code.rangeFunc g #[p] assign body).wpIn Fence.wide n Try.prog Q a W0 := by
  refine wpIn_rangeFunc ?_
  intro fn hfn
  obtain ⟨rec, hrec⟩ : ∃ rec : LoopState → Option Code → Loop, rec = fun st pe => { state := st, pending := pe, fn, tmps := a.tmps, params := #[p], assign, body, defers := W0.heap.size } := ⟨_, rfl⟩
  have hfold : ∀ v : Value, (#[p].zip #[v]).foldl (fun tmps (t, a) => tmps.setIfInBounds t a) a.tmps = a.tmps.setIfInBounds p v := fun v => by simp
  have hL1 : ((W0.alloc (.deferred (some []))).alloc (.loop (rec .ready none))).heap[W0.heap.size + 1]? = some (.loop (rec .ready none)) := by
    have := World.alloc_heap_new (W0.alloc (.deferred (some []))) (.loop (rec .ready none)); rwa [World.size_alloc] at this
  have hK1 : ((W0.alloc (.deferred (some []))).alloc (.loop (rec .ready none))).heap[W0.heap.size]? = some (.deferred (some [])) := (Below.heap_alloc _ _ _ (by simp)).trans (World.alloc_heap_new W0 _)
  have hB1 : Below W0.heap.size W0 ((W0.alloc (.deferred (some []))).alloc (.loop (rec .ready none))) := ((Below.refl _ W0).alloc (Nat.le_refl _) _).alloc (by simp) _
  refine ⟨W0.heap.size + 1, [{ target := .collected W0.heap.size, args := #[] }], (W0.alloc (.deferred (some []))).alloc (.loop (rec .ready none)), { target := .fn (.func gf) lb, args := #[.func (.yield (W0.heap.size + 1)) #[] #[]] }, (W0.alloc (.deferred (some []))).alloc (.loop (rec .ready none)), gf,
    #[.func (.yield (W0.heap.size + 1)) #[] #[]] ++ lb, (W0.alloc (.deferred (some []))).alloc (.loop (rec .ready none)), ?_, ?_, ?_, ?_, fun hx => (by simp [Fence.wide] at hx), ?_⟩
  · rw [hrec]; exact run_enterLoop_outer _ _ _ _ _
  · simp only [resolve, hg]
    simp [go_sem]
  · intro f' _; trivial
  · simp [invoke, go_sem, eg]
  refine (hit (W0.heap.size + 1)
    (fun pre V => I pre V ∧ V.heap[W0.heap.size + 1]? = some (.loop (rec .ready none)) ∧ V.heap[W0.heap.size]? = some (.deferred (some [])))
    (fun V => Ix V ∧ V.heap[W0.heap.size + 1]? = some (.loop (rec .done (some .ret))) ∧ V.heap[W0.heap.size]? = some (.deferred (some [])))
    _ hB1 (fun pre V V' hs hb => ⟨hI _ _ _ hs.1 (Turn.of_below hb), (hb.block _ (Array.getElem?_eq_some_iff.1 hs.2.1).1).trans hs.2.1, (hb.block _ (Array.getElem?_eq_some_iff.1 hs.2.2).1).trans hs.2.2⟩) ?_ ?_ ⟨hI _ _ _ h0 (Turn.of_below hB1), hL1, hK1⟩).mono ?_
  · rintro pre t V0 V1 ⟨hi, hl, hk⟩ hlen hb ho
    have hls := (Array.getElem?_eq_some_iff.1 hl).1
    have hz := hb.size
    have hz0 : W0.heap.size ≤ V0.heap.size := by omega
    have hl1 : V1.heap[W0.heap.size + 1]? = some (.loop (rec .ready none)) := (hb.block _ hls).trans hl
    have hk1 : V1.heap[W0.heap.size]? = some (.deferred (some [])) := (hb.block _ (by omega)).trans hk
    have hy := run_yield (P := Try.prog) (args := #[.agg #[.int .i64 0, .int .i64 t.at_, .int .i64 t.s, .int .i64 t.m, .int .i64 t.o, .int .i64 t.h, .slice t.a t.n t.c]]) hl1 (by rw [hrec]; rfl)
    rw [hrec] at hy
    refine ⟨fn, _, assign, body, hy, roundIn_of_wpIn hfn ?_⟩
    dsimp only
    rw [hfold]
    refine hassign (W0.heap.size + 1) 0 t.at_ t.s t.m t.o t.h t.a t.n t.c V1 _ ?_
    refine ⟨_, run_beginRound ((Below.heap_alloc _ _ _ (by omega)).trans hl1) (by rw [hrec]), ?_⟩
    have hla : (V1.alloc (.cells #[.int .i64 0, .int .i64 t.at_, .int .i64 t.s, .int .i64 t.m, .int .i64 t.o, .int .i64 t.h, .slice t.a t.n t.c] 124)).heap[W0.heap.size + 1]? = some (.loop (rec .ready none)) := (Below.heap_alloc _ _ _ (by omega)).trans hl1
    have hka : (V1.alloc (.cells #[.int .i64 0, .int .i64 t.at_, .int .i64 t.s, .int .i64 t.m, .int .i64 t.o, .int .i64 t.h, .slice t.a t.n t.c] 124)).heap[W0.heap.size]? = some (.deferred (some [])) := (Below.heap_alloc _ _ _ (by omega)).trans hk1
    have hT1 : Turn W0.heap.size (V1.alloc (.cells #[.int .i64 0, .int .i64 t.at_, .int .i64 t.s, .int .i64 t.m, .int .i64 t.o, .int .i64 t.h, .slice t.a t.n t.c] 124)) ((V1.alloc (.cells #[.int .i64 0, .int .i64 t.at_, .int .i64 t.s, .int .i64 t.m, .int .i64 t.o, .int .i64 t.h, .slice t.a t.n t.c] 124)).putObj (W0.heap.size + 1) (.loop { rec .ready none with state := .busy })) := Turn.put _ (by omega) hla rfl
    have hT12 : Turn W0.heap.size V1 ((V1.alloc (.cells #[.int .i64 0, .int .i64 t.at_, .int .i64 t.s, .int .i64 t.m, .int .i64 t.o, .int .i64 t.h, .slice t.a t.n t.c] 124)).putObj (W0.heap.size + 1) (.loop { rec .ready none with state := .busy })) := (Turn.of_below ((Below.refl _ V1).alloc (Nat.le_refl _) _)).trans hT1
    have hT : Turn W0.heap.size V0 ((V1.alloc (.cells #[.int .i64 0, .int .i64 t.at_, .int .i64 t.s, .int .i64 t.m, .int .i64 t.o, .int .i64 t.h, .slice t.a t.n t.c] 124)).putObj (W0.heap.size + 1) (.loop { rec .ready none with state := .busy })) := (Turn.of_below hb).trans hT12
    have hz2 : ((V1.alloc (.cells #[.int .i64 0, .int .i64 t.at_, .int .i64 t.s, .int .i64 t.m, .int .i64 t.o, .int .i64 t.h, .slice t.a t.n t.c] 124)).putObj (W0.heap.size + 1) (.loop { rec .ready none with state := .busy })).heap.size = V1.heap.size + 1 := by simp
    have hB2 : Blk ((V1.alloc (.cells #[.int .i64 0, .int .i64 t.at_, .int .i64 t.s, .int .i64 t.m, .int .i64 t.o, .int .i64 t.h, .slice t.a t.n t.c] 124)).putObj (W0.heap.size + 1) (.loop { rec .ready none with state := .busy })) V1.heap.size [.int .i64 0, .int .i64 t.at_, .int .i64 t.s, .int .i64 t.m, .int .i64 t.o, .int .i64 t.h, .slice t.a t.n t.c] := hT1.blk (Blk.new_at (w := V1) (cs := #[.int .i64 0, .int .i64 t.at_, .int .i64 t.s, .int .i64 t.m, .int .i64 t.o, .int .i64 t.h, .slice t.a t.n t.c]) (t := 124) V1.heap.size rfl) (by simp)
    have hl2 : ((V1.alloc (.cells #[.int .i64 0, .int .i64 t.at_, .int .i64 t.s, .int .i64 t.m, .int .i64 t.o, .int .i64 t.h, .slice t.a t.n t.c] 124)).putObj (W0.heap.size + 1) (.loop { rec .ready none with state := .busy })).heap[W0.heap.size + 1]? = some (.loop { rec .ready none with state := .busy }) := World.putObj_heap_same (Array.getElem?_eq_some_iff.1 hla).1
    have hk2 : ((V1.alloc (.cells #[.int .i64 0, .int .i64 t.at_, .int .i64 t.s, .int .i64 t.m, .int .i64 t.o, .int .i64 t.h, .slice t.a t.n t.c] 124)).putObj (W0.heap.size + 1) (.loop { rec .ready none with state := .busy })).heap[W0.heap.size]? = some (.deferred (some [])) := (World.putObj_heap_other (by omega)).trans hka
    refine wpIn_mono (hgo (W0.heap.size + 1) pre t V0 V1 _ hi hlen hT hb.size hz2 hz0 hB2 (hT1.own (ho.alloc _))) ?_
    rintro ex a3 V3 ⟨rfl, hko, hi3, hkp⟩
    have hl3 := hko.same _ _ hl2 rfl
    have hk3 := hko.same _ _ hk2 rfl
    have hT3 : Turn W0.heap.size V3 (V3.putObj (W0.heap.size + 1) (.loop (rec .ready none))) := Turn.put _ (by omega) hl3 rfl
    have hl3' := (Array.getElem?_eq_some_iff.1 hl3).1
    have hend : (Instr.endRound (W0.heap.size + 1) none).run Try.prog V3 = .ok (.bool true) (V3.putObj (W0.heap.size + 1) (.loop (rec .ready none))) := by
      have := run_endRound (P := Try.prog) none hl3
      rw [hrec] at this ⊢; exact this
    refine ⟨_, _, hend, rfl, ⟨hI _ _ _ hi3 hT3, World.putObj_heap_same hl3', (World.putObj_heap_other (by omega)).trans hk3⟩, ?_, ?_, fun b hb0 hb1 => ?_⟩
    · exact (hT12.below hn0 (by omega)).trans (hkp.1.trans (hT3.below hn0 (by have := hko.size; have := hT12.size; omega)))
    · have e1 : V1.heap[A1]? = some (V1.heap[A1]'(by omega)) := Array.getElem?_eq_getElem (by omega)
      have e2 := hT12.same A1 _ e1 (.inl hA1)
      have e3 := hkp.2.1.trans e2
      rw [e1]; exact hT3.same A1 _ e3 (.inl hA1)
    · refine (World.putObj_heap_other (by omega)).trans ((hkp.2.2 b hb0 (by rw [hz2]; omega)).trans ((World.putObj_heap_other (by omega)).trans (Below.heap_alloc _ _ _ hb1)))
  · rintro pre V0 V1 ⟨hi, hl, hk⟩ hb
    have hls := (Array.getElem?_eq_some_iff.1 hl).1
    have hz := hb.size
    have hz0 : W0.heap.size ≤ V0.heap.size := by omega
    have hl1 : V1.heap[W0.heap.size + 1]? = some (.loop (rec .ready none)) := (hb.block _ hls).trans hl
    have hk1 : V1.heap[W0.heap.size]? = some (.deferred (some [])) := (hb.block _ (by omega)).trans hk
    have hy := run_yield (P := Try.prog) (args := #[.agg #[.int .i64 1, .int .i64 0, .int .i64 0, .int .i64 0, .int .i64 0, .int .i64 0, .slice none 0 0]]) hl1 (by rw [hrec]; rfl)
    rw [hrec] at hy
    refine ⟨fn, _, assign, body, hy, roundIn_of_wpIn hfn ?_⟩
    dsimp only
    rw [hfold]
    refine hassign (W0.heap.size + 1) 1 0 0 0 0 0 none 0 0 V1 _ ?_
    refine ⟨_, run_beginRound ((Below.heap_alloc _ _ _ (by omega)).trans hl1) (by rw [hrec]), ?_⟩
    have hla : (V1.alloc (.cells #[.int .i64 1, .int .i64 0, .int .i64 0, .int .i64 0, .int .i64 0, .int .i64 0, .slice none 0 0] 124)).heap[W0.heap.size + 1]? = some (.loop (rec .ready none)) := (Below.heap_alloc _ _ _ (by omega)).trans hl1
    have hka : (V1.alloc (.cells #[.int .i64 1, .int .i64 0, .int .i64 0, .int .i64 0, .int .i64 0, .int .i64 0, .slice none 0 0] 124)).heap[W0.heap.size]? = some (.deferred (some [])) := (Below.heap_alloc _ _ _ (by omega)).trans hk1
    have hT1 : Turn W0.heap.size (V1.alloc (.cells #[.int .i64 1, .int .i64 0, .int .i64 0, .int .i64 0, .int .i64 0, .int .i64 0, .slice none 0 0] 124)) ((V1.alloc (.cells #[.int .i64 1, .int .i64 0, .int .i64 0, .int .i64 0, .int .i64 0, .int .i64 0, .slice none 0 0] 124)).putObj (W0.heap.size + 1) (.loop { rec .ready none with state := .busy })) := Turn.put _ (by omega) hla rfl
    have hT12 : Turn W0.heap.size V1 ((V1.alloc (.cells #[.int .i64 1, .int .i64 0, .int .i64 0, .int .i64 0, .int .i64 0, .int .i64 0, .slice none 0 0] 124)).putObj (W0.heap.size + 1) (.loop { rec .ready none with state := .busy })) := (Turn.of_below ((Below.refl _ V1).alloc (Nat.le_refl _) _)).trans hT1
    have hT : Turn W0.heap.size V0 ((V1.alloc (.cells #[.int .i64 1, .int .i64 0, .int .i64 0, .int .i64 0, .int .i64 0, .int .i64 0, .slice none 0 0] 124)).putObj (W0.heap.size + 1) (.loop { rec .ready none with state := .busy })) := (Turn.of_below hb).trans hT12
    have hz2 : ((V1.alloc (.cells #[.int .i64 1, .int .i64 0, .int .i64 0, .int .i64 0, .int .i64 0, .int .i64 0, .slice none 0 0] 124)).putObj (W0.heap.size + 1) (.loop { rec .ready none with state := .busy })).heap.size = V1.heap.size + 1 := by simp
    have hB2 : Blk ((V1.alloc (.cells #[.int .i64 1, .int .i64 0, .int .i64 0, .int .i64 0, .int .i64 0, .int .i64 0, .slice none 0 0] 124)).putObj (W0.heap.size + 1) (.loop { rec .ready none with state := .busy })) V1.heap.size [.int .i64 1, .int .i64 0, .int .i64 0, .int .i64 0, .int .i64 0, .int .i64 0, .slice none 0 0] := hT1.blk (Blk.new_at (w := V1) (cs := #[.int .i64 1, .int .i64 0, .int .i64 0, .int .i64 0, .int .i64 0, .int .i64 0, .slice none 0 0]) (t := 124) V1.heap.size rfl) (by simp)
    have hl2 : ((V1.alloc (.cells #[.int .i64 1, .int .i64 0, .int .i64 0, .int .i64 0, .int .i64 0, .int .i64 0, .slice none 0 0] 124)).putObj (W0.heap.size + 1) (.loop { rec .ready none with state := .busy })).heap[W0.heap.size + 1]? = some (.loop { rec .ready none with state := .busy }) := World.putObj_heap_same (Array.getElem?_eq_some_iff.1 hla).1
    have hk2 : ((V1.alloc (.cells #[.int .i64 1, .int .i64 0, .int .i64 0, .int .i64 0, .int .i64 0, .int .i64 0, .slice none 0 0] 124)).putObj (W0.heap.size + 1) (.loop { rec .ready none with state := .busy })).heap[W0.heap.size]? = some (.deferred (some [])) := (World.putObj_heap_other (by omega)).trans hka
    refine wpIn_mono (hno (W0.heap.size + 1) pre V0 V1 _ hi hT hb.size hz2 hz0 hB2) ?_
    rintro ex a3 V3 ⟨rfl, hko, hi3⟩
    have hl3 := hko.same _ _ hl2 rfl
    have hk3 := hko.same _ _ hk2 rfl
    have hT3 : Turn W0.heap.size V3 (V3.putObj (W0.heap.size + 1) (.loop (rec .done (some .ret)))) := Turn.put _ (by omega) hl3 rfl
    have hl3' := (Array.getElem?_eq_some_iff.1 hl3).1
    have hend : (Instr.endRound (W0.heap.size + 1) (some .ret)).run Try.prog V3 = .ok (.bool false) (V3.putObj (W0.heap.size + 1) (.loop (rec .done (some .ret)))) := by
      have := run_endRound (P := Try.prog) (some .ret) hl3
      rw [hrec] at this ⊢; exact this
    exact ⟨_, _, hend, rfl, hIx _ _ hi3 hT3, World.putObj_heap_same hl3', (World.putObj_heap_other (by omega)).trans hk3⟩
  · rintro e W2 ⟨⟨v, rfl⟩, (⟨xs, hS, hi, hl, hk⟩ | ⟨hN, hi, hl, hk⟩)⟩
    · exact ⟨none, _, by have := run_endLoop (P := Try.prog) hl (by rw [hrec]; simp); rw [hrec] at this; exact this, hdone _ xs _ (Nat.le_refl _) hS (hI _ _ _ hi (Turn.put _ (by omega) hl rfl)) ((World.putObj_heap_other (by omega)).trans hk)⟩
    · exact ⟨some .ret, _, by have := run_endLoop (P := Try.prog) hl (by rw [hrec]; simp); rw [hrec] at this; exact this, hstop _ _ (Nat.le_refl _) hN (hIx _ _ hi (Turn.put _ (by omega) hl rfl)) ((World.putObj_heap_other (by omega)).trans hk)⟩
end Go.Proofs.Ytnacdhnnpddccaa

namespace Go.Proofs.Ytnacdhnnpddccaa
open Go.RowKit
set_option linter.unusedVariables false

/-- Elements that are new are put behind all others, one after the other. -/
def addNew (out : List Int) : List Int → List Int
  | [] => out
  | x :: xs => addNew (if x ∈ out then out else out ++ [x]) xs

theorem addNew_append (out xs ys : List Int) : addNew out (xs ++ ys) = addNew (addNew out xs) ys := by
  induction xs generalizing out with
  | nil => rfl
  | cons x xs ih => exact ih _

theorem addNew_prefix (xs : List Int) : ∀ out, out <+: addNew out xs := by
  induction xs with
  | nil => exact fun out => List.prefix_refl _
  | cons x xs ih =>
    intro out
    refine List.IsPrefix.trans ?_ (ih _)
    by_cases h : x ∈ out
    · rw [if_pos h]
      exact List.prefix_refl _
    · rw [if_neg h]; exact List.prefix_append _ _

theorem mem_addNew (xs : List Int) : ∀ out y, y ∈ addNew out xs ↔ y ∈ out ∨ y ∈ xs := by
  induction xs with
  | nil => intro out y; simp [addNew]
  | cons x xs ih =>
    intro out y
    rw [addNew, ih]
    by_cases h : x ∈ out
    · rw [if_pos h]
      constructor
      · rintro (h1 | h1)
        · exact .inl h1
        · exact .inr (List.mem_cons_of_mem _ h1)
      · rintro (h1 | h1)
        · exact .inl h1
        · rcases List.mem_cons.mp h1 with rfl | h2
          · exact .inl h
          · exact .inr h2
    · rw [if_neg h]
      simp only [List.mem_append, List.mem_cons, List.not_mem_nil, or_false]
      constructor
      · rintro ((h1 | h1) | h1)
        · exact .inl h1
        · exact .inr (.inl h1)
        · exact .inr (.inr h1)
      · rintro (h1 | h1 | h1)
        · exact .inl (.inl h1)
        · exact .inl (.inr h1)
        · exact .inr h1

theorem nodup_addNew (xs : List Int) : ∀ out, out.Nodup → (addNew out xs).Nodup := by
  induction xs with
  | nil => exact fun out h => h
  | cons x xs ih =>
    intro out hn
    refine ih _ ?_
    by_cases h : x ∈ out
    · rw [if_pos h]; exact hn
    · rw [if_neg h]
      refine List.nodup_append.mpr ⟨hn, by simp, fun a ha b hb => ?_⟩
      simp only [List.mem_singleton] at hb
      subst hb
      intro e; subst e; exact h ha

/-- The scan: for each place from i on, where it leads. -/
def scanF (succ : Int → List Int) : Nat → Nat → List Int → List Int
  | 0, _, out => out
  | n + 1, i, out => if i < out.length then scanF succ n (i + 1) (addNew out (succ (out.getD i 0))) else out

theorem scanF_stop {succ : Int → List Int} {n i : Nat} {out : List Int} (h : ¬ i < out.length) : scanF succ n i out = out := by
  cases n with
  | zero => rfl
  | succ n => rw [scanF, if_neg h]

theorem scanF_nodup (succ : Int → List Int) : ∀ n i out, out.Nodup → (scanF succ n i out).Nodup := by
  intro n
  induction n with
  | zero => exact fun i out h => h
  | succ n ih =>
    intro i out hn
    rw [scanF]
    by_cases h : i < out.length
    · rw [if_pos h]; exact ih _ _ (nodup_addNew _ _ hn)
    · rw [if_neg h]; exact hn

theorem scanF_sub (succ : Int → List Int) (U : List Int) (hU : ∀ x ∈ U, ∀ y ∈ succ x, y ∈ U) : ∀ n i out, (∀ x ∈ out, x ∈ U) → ∀ x ∈ scanF succ n i out, x ∈ U := by
  intro n
  induction n with
  | zero => exact fun i out h => h
  | succ n ih =>
    intro i out hs
    rw [scanF]
    by_cases h : i < out.length
    · rw [if_pos h]
      refine ih _ _ fun x hx => ?_
      rcases (mem_addNew _ _ _).1 hx with h1 | h1
      · exact hs x h1
      · have hg : out.getD i 0 ∈ out := by
          rw [List.getD_eq_getElem?_getD, List.getElem?_eq_getElem h]; exact List.getElem_mem h
        exact hU _ (hs _ hg) x h1
    · rw [if_neg h]; exact hs

theorem nodup_length {xs U : List Int} (hn : xs.Nodup) (hs : ∀ x ∈ xs, x ∈ U) : xs.length ≤ U.length := by
  induction xs generalizing U with
  | nil => exact Nat.zero_le _
  | cons x xs ih =>
    have hx := List.nodup_cons.mp hn
    have := ih hx.2 (U := U.erase x) (fun y hy => (List.mem_erase_of_ne (fun e => by subst e; exact hx.1 hy)).mpr (hs y (List.mem_cons_of_mem _ hy)))
    have h2 := List.length_erase_of_mem (hs x (List.mem_cons_self ..))
    have h3 : 0 < U.length := List.length_pos_of_mem (hs x (List.mem_cons_self ..))
    simp only [List.length_cons]
    omega

/-- What is reached. -/
def reachL (succ : Int → List Int) (n : Nat) (roots : List Int) : List Int := scanF succ n 0 (addNew [] roots)

theorem reachL_nodup (succ : Int → List Int) (n : Nat) (roots : List Int) : (reachL succ n roots).Nodup := scanF_nodup succ n 0 _ (nodup_addNew _ _ List.nodup_nil)

theorem addNew_sub {U roots : List Int} (hr : ∀ x ∈ roots, x ∈ U) : ∀ x ∈ addNew [] roots, x ∈ U := fun x hx => by
  rcases (mem_addNew _ _ _).1 hx with h1 | h1
  · cases h1
  · exact hr x h1

theorem reachL_sub (succ : Int → List Int) (n : Nat) (U roots : List Int) (hU : ∀ x ∈ U, ∀ y ∈ succ x, y ∈ U) (hr : ∀ x ∈ roots, x ∈ U) : ∀ x ∈ reachL succ n roots, x ∈ U := scanF_sub succ U hU n 0 _ (addNew_sub hr)
end Go.Proofs.Ytnacdhnnpddccaa

namespace Go.Proofs.Ytnacdhnnpddccaa
open Go.RowKit
set_option linter.unusedVariables false

/-- Where an object's pointers lead, in the order of its fields. -/
def ptrs (f : Nat → Int) (x : Ob) : List Int := (List.range x.s.toNat).filterMap fun (k : Nat) => if x.m / P2 (k : Int) % 2 = 1 ∧ ¬ f (x.at_.toNat + 2 + k) = 0 then some (f (x.at_.toNat + 2 + k) - 1) else none

def succO (f : Nat → Int) (L : List Ob) (p : Int) : List Int := match findO L p with | some x => ptrs f x | none => []

def placesO (L : List Ob) : List Int := L.map Ob.at_

def reachO (f : Nat → Int) (L : List Ob) (roots : List Int) : List Int := reachL (succO f L) L.length roots

theorem mem_ptrs {f : Nat → Int} {x : Ob} {y : Int} : y ∈ ptrs f x ↔ ∃ k : Nat, k < x.s.toNat ∧ x.m / P2 (k : Int) % 2 = 1 ∧ ¬ f (x.at_.toNat + 2 + k) = 0 ∧ y = f (x.at_.toNat + 2 + k) - 1 := by
  unfold ptrs
  rw [List.mem_filterMap]
  constructor
  · rintro ⟨k, hk, he⟩
    by_cases h : x.m / P2 (k : Int) % 2 = 1 ∧ ¬ f (x.at_.toNat + 2 + k) = 0
    · rw [if_pos h] at he
      exact ⟨k, by simpa using hk, h.1, h.2, (Option.some.inj he).symm⟩
    · rw [if_neg h] at he; cases he
  · rintro ⟨k, hk, h1, h2, rfl⟩
    exact ⟨k, by simpa using hk, if_pos ⟨h1, h2⟩⟩

theorem mem_placesO {L : List Ob} {p : Int} : p ∈ placesO L ↔ ∃ x, findO L p = some x := by
  unfold placesO
  constructor
  · intro h
    obtain ⟨x, hx, rfl⟩ := List.mem_map.mp h
    cases hf : findO L x.at_ with
    | some y => exact ⟨y, rfl⟩
    | none =>
      have := List.find?_eq_none.mp hf x hx
      simp at this
  · rintro ⟨x, hf⟩
    have h1 := List.find?_some hf
    exact List.mem_map.mpr ⟨x, List.mem_of_find?_eq_some hf, by simpa using h1⟩

theorem succO_sub {f : Nat → Int} {L : List Ob} (hp : Points f L) (hs : ∀ x ∈ L, 0 ≤ x.s) : ∀ p ∈ placesO L, ∀ y ∈ succO f L p, y ∈ placesO L := by
  intro p _ y hy
  unfold succO at hy
  cases hf : findO L p with
  | none => rw [hf] at hy; cases hy
  | some x =>
    rw [hf] at hy
    obtain ⟨k, hk, h1, h2, rfl⟩ := mem_ptrs.1 hy
    have hx := List.mem_of_find?_eq_some hf
    have h0 := hs x hx
    have hl := hp x hx k (by omega) h1
    unfold leadsB at hl
    rw [if_neg h2] at hl
    cases hf2 : findO L (f (x.at_.toNat + 2 + k) - 1) with
    | none => rw [hf2] at hl; cases hl
    | some z => exact mem_placesO.2 ⟨z, hf2⟩

theorem reachO_sub {f : Nat → Int} {L : List Ob} {roots : List Int} (hp : Points f L) (hs : ∀ x ∈ L, 0 ≤ x.s) (hr : ∀ p ∈ roots, p ∈ placesO L) : ∀ p ∈ reachO f L roots, p ∈ placesO L := reachL_sub _ _ _ _ (succO_sub hp hs) hr

theorem reachO_nodup (f : Nat → Int) (L : List Ob) (roots : List Int) : (reachO f L roots).Nodup := reachL_nodup _ _ _

theorem reachO_length {f : Nat → Int} {L : List Ob} {roots : List Int} (hp : Points f L) (hs : ∀ x ∈ L, 0 ≤ x.s) (hr : ∀ p ∈ roots, p ∈ placesO L) : (reachO f L roots).length ≤ L.length := by
  have := nodup_length (reachO_nodup f L roots) (reachO_sub hp hs hr)
  simpa [placesO] using this

/-- The number of a place in a list. -/
def numL (l : List Int) (v : Int) : Option Nat := l.findIdx? (· == v)

theorem numL_none {l : List Int} {v : Int} : numL l v = none ↔ v ∉ l := by
  unfold numL
  rw [List.findIdx?_eq_none_iff]
  constructor
  · intro h hv; have := h v hv; simp at this
  · intro h x hx
    simp only [beq_eq_false_iff_ne, ne_eq]
    intro e; subst e; exact h hx
end Go.Proofs.Ytnacdhnnpddccaa

namespace Go.Proofs.Ytnacdhnnpddccaa
open Go.RowKit
set_option linter.unusedVariables false

def packO (x : Ob) : Int := 1 + 2 * (x.s + 16 * (x.m + 4096 * x.o))

def wordsO (x : Ob) : Nat := 2 + x.s.toNat

/-- The objects, one behind the other from a place on. -/
def moved : Nat → List Ob → List Ob
  | _, [] => []
  | P, x :: X => ⟨(P : Int), x.s, x.m, x.o, x.h⟩ :: moved (P + wordsO x) X

def totO : List Ob → Nat
  | [] => 0
  | x :: X => wordsO x + totO X

/-- Their heads stand there. -/
def HeadsAt (g : Nat → Int) : Nat → List Ob → Prop
  | _, [] => True
  | P, x :: X => g P = packO x ∧ g (P + 1) = x.h ∧ HeadsAt g (P + wordsO x) X

def ObOk (x : Ob) : Prop := HOk x.s x.m x.o x.h ∧ x.m ≤ 4095

theorem pack_read {x : Ob} (h : ObOk x) : packO x / 2 % 16 = x.s ∧ packO x / 32 % 4096 = x.m ∧ packO x / 131072 = x.o ∧ packO x % 2 = 1 := by
  obtain ⟨⟨⟨h1, h2⟩, ⟨h3, h4⟩, ⟨h5, h6⟩, h7⟩, h8⟩ := h
  unfold packO
  refine ⟨?_, ?_, ?_, ?_⟩ <;> omega

theorem head_obj {g : Nat → Int} {P : Nat} {x : Ob} (h : ObOk x) (h1 : g P = packO x) (h2 : g (P + 1) = x.h) : objAt g P = ⟨(P : Int), x.s, x.m, x.o, x.h⟩ := by
  obtain ⟨a1, a2, a3, _⟩ := pack_read h
  unfold objAt
  rw [h1, h2, a1, a2, a3]

theorem head_size {g : Nat → Int} {P : Nat} {x : Ob} (h : ObOk x) (h1 : g P = packO x) : szOf g P = x.s.toNat := by
  unfold szOf
  rw [h1, (pack_read h).1]

theorem head_good {g : Nat → Int} {P e : Nat} {x : Ob} (h : ObOk x) (h1 : g P = packO x) (h2 : g (P + 1) = x.h) (he : P + wordsO x ≤ e) : Good g e P := by
  obtain ⟨a1, a2, a3, a4⟩ := pack_read h
  have hw : wordsO x = 2 + x.s.toNat := rfl
  refine ⟨by omega, ?_, by rw [head_size h h1]; omega⟩
  unfold ROk
  rw [h1, h2, a1, a2, a3]
  exact ⟨a4, h.1⟩

/-- Where heads stand one behind the other, there are these objects. -/
theorem parse_heads {g : Nat → Int} : ∀ (X : List Ob) (P : Nat), (∀ x ∈ X, ObOk x) → HeadsAt g P X → parse g (P + totO X) P = some (moved P X)
  | [], P, _, _ => by rw [parse_stop (by simp [totO])]; rfl
  | x :: X, P, ho, hh => by
    obtain ⟨h1, h2, h3⟩ := hh
    have hx := ho x (List.mem_cons_self ..)
    have hw : wordsO x = 2 + x.s.toNat := rfl
    have ht : totO (x :: X) = wordsO x + totO X := rfl
    rw [parse_good (by omega) (head_good hx h1 h2 (by omega)), head_size hx h1, head_obj hx h1 h2]
    have ih := parse_heads X (P + wordsO x) (fun y hy => ho y (List.mem_cons_of_mem _ hy)) h3
    rw [show P + 2 + x.s.toNat = P + wordsO x by omega, show P + totO (x :: X) = P + wordsO x + totO X by omega, ih]
    rfl

theorem moved_length : ∀ (X : List Ob) (P : Nat), (moved P X).length = X.length
  | [], _ => rfl
  | x :: X, P => by simp [moved, moved_length X]

/-- The place of the object of a number. -/
def placeAt (P : Nat) (X : List Ob) (i : Nat) : Nat := P + totO (X.take i)

theorem placeAt_zero (P : Nat) (X : List Ob) : placeAt P X 0 = P := by simp [placeAt, totO]

theorem placeAt_succ (P : Nat) (x : Ob) (X : List Ob) (i : Nat) : placeAt P (x :: X) (i + 1) = placeAt (P + wordsO x) X i := by simp [placeAt, totO]; omega

theorem moved_get : ∀ (X : List Ob) (P i : Nat) (hi : i < X.length), (moved P X)[i]? = some ⟨(placeAt P X i : Int), X[i].s, X[i].m, X[i].o, X[i].h⟩
  | x :: X, P, 0, _ => by simp [moved, placeAt_zero]
  | x :: X, P, i + 1, hi => by
    rw [placeAt_succ]
    simpa [moved] using moved_get X (P + wordsO x) i (by simpa using hi)

theorem totO_take_lt : ∀ (X : List Ob) (i : Nat) (hi : i < X.length), totO (X.take i) + wordsO X[i] ≤ totO X
  | x :: X, 0, _ => by simp [totO]
  | x :: X, i + 1, hi => by
    have := totO_take_lt X i (by simpa using hi)
    simp only [List.take_succ_cons, totO, List.getElem_cons_succ]
    omega

theorem placeAt_end (P : Nat) (X : List Ob) {i : Nat} (hi : i < X.length) : placeAt P X i + wordsO X[i] ≤ P + totO X := by
  have := totO_take_lt X i hi
  unfold placeAt; omega

theorem placeAt_step (P : Nat) (X : List Ob) {i : Nat} (hi : i < X.length) : placeAt P X (i + 1) = placeAt P X i + wordsO X[i] := by
  induction X generalizing P i with
  | nil => simp at hi
  | cons x X ih =>
    cases i with
    | zero => rw [placeAt_succ, placeAt_zero, placeAt_zero]; rfl
    | succ i => rw [placeAt_succ, placeAt_succ, ih (P + wordsO x) (by simpa using hi)]; rfl

theorem placeAt_lt (P : Nat) (X : List Ob) : ∀ (i j : Nat), i < j → j ≤ X.length → placeAt P X i + 2 ≤ placeAt P X j
  | i, 0, h, _ => by omega
  | i, j + 1, h, hj => by
    have hw : wordsO X[j] = 2 + X[j].s.toNat := rfl
    rw [placeAt_step P X (show j < X.length by omega)]
    rcases Nat.lt_succ_iff_lt_or_eq.mp h with h1 | h1
    · have := placeAt_lt P X i j h1 (by omega); omega
    · subst h1; omega

/-- The new places, in order. -/
def newPlaces (P : Nat) (X : List Ob) : List Int := (List.range X.length).map fun i => (placeAt P X i : Int)

theorem newPlaces_length (P : Nat) (X : List Ob) : (newPlaces P X).length = X.length := by simp [newPlaces]

theorem newPlaces_get (P : Nat) (X : List Ob) {i : Nat} (hi : i < X.length) : (newPlaces P X).getD i 0 = (placeAt P X i : Int) := by
  rw [List.getD_eq_getElem?_getD]
  simp [newPlaces, hi]

theorem moved_places (P : Nat) (X : List Ob) : placesO (moved P X) = newPlaces P X := by
  apply List.ext_getElem?
  intro i
  by_cases hi : i < X.length
  · unfold placesO
    rw [List.getElem?_map, moved_get X P i hi]
    simp [newPlaces, hi]
  · rw [List.getElem?_eq_none (by simp [placesO, moved_length]; omega), List.getElem?_eq_none (by rw [newPlaces_length]; omega)]
end Go.Proofs.Ytnacdhnnpddccaa

namespace Go.Proofs.Ytnacdhnnpddccaa
open Go.RowKit
set_option linter.unusedVariables false

/-- The objects at places, in their order. -/
def objsO (L : List Ob) (R : List Int) : List Ob := R.filterMap (findO L)

theorem objsO_length {L : List Ob} : ∀ {R : List Int}, (∀ p ∈ R, p ∈ placesO L) → (objsO L R).length = R.length
  | [], _ => rfl
  | p :: R, h => by
    obtain ⟨x, hx⟩ := mem_placesO.1 (h p (List.mem_cons_self ..))
    have := objsO_length (L := L) (R := R) (fun q hq => h q (List.mem_cons_of_mem _ hq))
    unfold objsO at this ⊢
    rw [List.filterMap_cons_some hx]
    simp [this]

theorem objsO_get {L : List Ob} : ∀ {R : List Int} (_ : ∀ p ∈ R, p ∈ placesO L) (i : Nat) (hi : i < R.length) (hi' : i < (objsO L R).length), findO L R[i] = some (objsO L R)[i]
  | p :: R, h, i, hi, hi' => by
    obtain ⟨x, hx⟩ := mem_placesO.1 (h p (List.mem_cons_self ..))
    have e : objsO L (p :: R) = x :: objsO L R := by unfold objsO; rw [List.filterMap_cons_some hx]
    cases i with
    | zero => simp only [e, List.getElem_cons_zero]; exact hx
    | succ i =>
      have := objsO_get (L := L) (R := R) (fun q hq => h q (List.mem_cons_of_mem _ hq)) i (by simpa using hi) (by simpa [e] using hi')
      simpa [e] using this

/-- Where the object of a place is now. -/
def goes (R Q : List Int) (p : Int) : Int := Q.getD ((numL R p).getD 0) 0

/-- What a field holds now. -/
def mapF (f : Nat → Int) (R Q : List Int) (x : Ob) (k : Nat) : Int :=
  if x.m / P2 (k : Int) % 2 = 1 ∧ ¬ f (x.at_.toNat + 2 + k) = 0 then goes R Q (f (x.at_.toNat + 2 + k) - 1) + 1 else f (x.at_.toNat + 2 + k)

theorem getD_get {R : List Int} {i : Nat} (hi : i < R.length) : R.getD i 0 = R[i] := by
  rw [List.getD_eq_getElem?_getD, List.getElem?_eq_getElem hi]; rfl

/-- What is known of an arena that is right. -/
structure Right (f : Nat → Int) (L : List Ob) : Prop where
  points : Points f L
  size : ∀ x ∈ L, 0 ≤ x.s
  ok : ∀ x ∈ L, ObOk x
  apart : ∀ x ∈ L, findO L x.at_ = some x

section

variable {f g : Nat → Int} {L : List Ob} {roots : List Int} {P : Nat}

theorem col_ok (hr : Right f L) {R : List Int} : ∀ x ∈ objsO L R, ObOk x := fun x hx => by
  obtain ⟨p, _, hp⟩ := List.mem_filterMap.mp hx
  exact hr.ok x (List.mem_of_find?_eq_some hp)

end
end Go.Proofs.Ytnacdhnnpddccaa

namespace Go.Proofs.Ytnacdhnnpddccaa
open Go.RowKit
set_option linter.unusedVariables false

/-- Two fields are alike. -/
def FldAlike (R R' : List Int) (bit : Prop) (v w : Int) : Prop := (bit → ((v = 0 ↔ w = 0) ∧ (¬ v = 0 → numL R (v - 1) = numL R' (w - 1)))) ∧ (¬ bit → v = w)

/-- What is reached from both is alike. -/
structure AlikeO (f : Nat → Int) (L : List Ob) (ra : List Int) (g : Nat → Int) (L' : List Ob) (rb : List Int) : Prop where
  rlen : ra.length = rb.length
  len : (reachO f L ra).length = (reachO g L' rb).length
  obj : ∀ i, i < (reachO f L ra).length → ∃ x y, findO L ((reachO f L ra).getD i 0) = some x ∧ findO L' ((reachO g L' rb).getD i 0) = some y ∧ (x.s = y.s ∧ x.m = y.m ∧ x.o = y.o ∧ x.h = y.h) ∧
    ∀ k : Nat, k < x.s.toNat → FldAlike (reachO f L ra) (reachO g L' rb) (x.m / P2 (k : Int) % 2 = 1) (f (x.at_.toNat + 2 + k)) (g (y.at_.toNat + 2 + k))
  roots : ∀ i, i < ra.length → numL (reachO f L ra) (ra.getD i 0) = numL (reachO g L' rb) (rb.getD i 0)

section

variable {f g e : Nat → Int} {L L' L2 : List Ob} {ra rb rc : List Int}

theorem AlikeO.symm (h : AlikeO f L ra g L' rb) : AlikeO g L' rb f L ra := by
  refine ⟨h.rlen.symm, h.len.symm, fun i hi => ?_, fun i hi => (h.roots i (by rw [h.rlen]; exact hi)).symm⟩
  obtain ⟨x, y, h1, h2, ⟨a1, a2, a3, a4⟩, h4⟩ := h.obj i (by rw [h.len]; exact hi)
  refine ⟨y, x, h2, h1, ⟨a1.symm, a2.symm, a3.symm, a4.symm⟩, fun k hk => ?_⟩
  obtain ⟨b1, b2⟩ := h4 k (by rw [a1]; exact hk)
  rw [← a2]
  exact ⟨fun hb => ⟨(b1 hb).1.symm, fun hw => ((b1 hb).2 (fun hv => hw ((b1 hb).1.1 hv))).symm⟩, fun hb => (b2 hb).symm⟩

theorem AlikeO.trans (h : AlikeO f L ra g L' rb) (k : AlikeO g L' rb e L2 rc) : AlikeO f L ra e L2 rc := by
  refine ⟨h.rlen.trans k.rlen, h.len.trans k.len, fun i hi => ?_, fun i hi => (h.roots i hi).trans (k.roots i (by rw [← h.rlen]; exact hi))⟩
  obtain ⟨x, y, h1, h2, ⟨a1, a2, a3, a4⟩, h4⟩ := h.obj i hi
  obtain ⟨y', z, k1, k2, ⟨c1, c2, c3, c4⟩, k4⟩ := k.obj i (by rw [← h.len]; exact hi)
  rw [h2] at k1
  obtain rfl := Option.some.inj k1
  refine ⟨x, z, h1, k2, ⟨a1.trans c1, a2.trans c2, a3.trans c3, a4.trans c4⟩, fun q hq => ?_⟩
  obtain ⟨b1, b2⟩ := h4 q hq
  obtain ⟨d1, d2⟩ := k4 q (by rw [← a1]; exact hq)
  rw [← a2] at d1 d2
  exact ⟨fun hb => ⟨(b1 hb).1.trans (d1 hb).1, fun hv => ((b1 hb).2 hv).trans ((d1 hb).2 (fun hw => hv ((b1 hb).1.2 hw)))⟩, fun hb => (b2 hb).trans (d2 hb)⟩

theorem AlikeO.refl (hr : Right f L) (hroots : ∀ p ∈ ra, p ∈ placesO L) : AlikeO f L ra f L ra := by
  refine ⟨rfl, rfl, fun i hi => ?_, fun _ _ => rfl⟩
  have hm : (reachO f L ra).getD i 0 ∈ reachO f L ra := by rw [getD_get hi]; exact List.getElem_mem hi
  obtain ⟨x, hx⟩ := mem_placesO.1 (reachO_sub hr.points hr.size hroots _ hm)
  exact ⟨x, x, hx, hx, ⟨rfl, rfl, rfl, rfl⟩, fun k _ => ⟨fun _ => ⟨Iff.rfl, fun _ => rfl⟩, fun _ => rfl⟩⟩

end

section

variable {f g : Nat → Int} {L : List Ob} {roots : List Int} {P : Nat}

end
end Go.Proofs.Ytnacdhnnpddccaa

namespace Go.Proofs.Ytnacdhnnpddccaa
open Go.RowKit
set_option linter.unusedVariables false

theorem parse_tot_eq {f : Nat → Int} {e : Nat} : ∀ (d a : Nat) (L : List Ob), e - a ≤ d → a ≤ e → parse f e a = some L → a + totO L = e
  | d, a, L, hd, hae, hp => by
    by_cases h : a < e
    · by_cases hg : Good f e a
      · rw [parse_good h hg] at hp
        cases hr : parse f e (a + 2 + szOf f a) with
        | none => rw [hr] at hp; cases hp
        | some L' =>
          rw [hr] at hp
          simp only [Option.map_some, Option.some.injEq] at hp
          subst hp
          match d with
          | 0 => omega
          | d + 1 =>
            have ih := parse_tot_eq d _ L' (by omega) hg.2.2 hr
            have hw : wordsO (objAt f a) = 2 + szOf f a := rfl
            show a + (wordsO (objAt f a) + totO L') = e
            omega
      · rw [parse_bad h hg] at hp; cases hp
    · rw [parse_stop h] at hp
      cases hp
      show a + 0 = e
      omega

def sumW (w : Int → Nat) : List Int → Nat
  | [] => 0
  | p :: l => w p + sumW w l

theorem sumW_erase (w : Int → Nat) : ∀ (l : List Int) (p : Int), p ∈ l → sumW w l = w p + sumW w (l.erase p)
  | q :: l, p, h => by
    by_cases e : q = p
    · subst e
      rw [List.erase_cons_head]; rfl
    · have hm : p ∈ l := by
        rcases List.mem_cons.mp h with h1 | h1
        · exact absurd h1.symm e
        · exact h1
      rw [List.erase_cons_tail (by simpa using e)]
      have := sumW_erase w l p hm
      show w q + sumW w l = w p + (w q + sumW w (l.erase p))
      omega

theorem sumW_le (w : Int → Nat) : ∀ (R U : List Int), R.Nodup → (∀ p ∈ R, p ∈ U) → sumW w R ≤ sumW w U
  | [], _, _, _ => Nat.zero_le _
  | p :: R, U, hn, hs => by
    have hx := List.nodup_cons.mp hn
    have ih := sumW_le w R (U.erase p) hx.2 (fun q hq => (List.mem_erase_of_ne (fun e => by subst e; exact hx.1 hq)).mpr (hs q (List.mem_cons_of_mem _ hq)))
    have := sumW_erase w U p (hs p (List.mem_cons_self ..))
    show w p + sumW w R ≤ sumW w U
    omega

/-- How many words the object of a place has. -/
def wordsAt (L : List Ob) (p : Int) : Nat := match findO L p with | some x => wordsO x | none => 0

theorem tot_objs {L : List Ob} : ∀ {R : List Int}, (∀ p ∈ R, p ∈ placesO L) → totO (objsO L R) = sumW (wordsAt L) R
  | [], _ => rfl
  | p :: R, h => by
    obtain ⟨x, hx⟩ := mem_placesO.1 (h p (List.mem_cons_self ..))
    have e : objsO L (p :: R) = x :: objsO L R := by unfold objsO; rw [List.filterMap_cons_some hx]
    have hw : wordsAt L p = wordsO x := by unfold wordsAt; rw [hx]
    rw [e]
    show wordsO x + totO (objsO L R) = wordsAt L p + sumW (wordsAt L) R
    rw [hw, tot_objs fun q hq => h q (List.mem_cons_of_mem _ hq)]

theorem objs_all {L : List Ob} (ha : ∀ x ∈ L, findO L x.at_ = some x) : objsO L (placesO L) = L := by
  have key : ∀ X : List Ob, (∀ x ∈ X, findO L x.at_ = some x) → (X.map Ob.at_).filterMap (findO L) = X := by
    intro X
    induction X with
    | nil => intro _; rfl
    | cons x X ih =>
      intro h
      rw [List.map_cons, List.filterMap_cons_some (h x (List.mem_cons_self ..)), ih fun y hy => h y (List.mem_cons_of_mem _ hy)]
  exact key L ha

theorem tot_le {L : List Ob} {R : List Int} (ha : ∀ x ∈ L, findO L x.at_ = some x) (hn : R.Nodup) (hs : ∀ p ∈ R, p ∈ placesO L) : totO (objsO L R) ≤ totO L := by
  have h1 : totO L = sumW (wordsAt L) (placesO L) := by
    rw [← tot_objs (L := L) (R := placesO L) (fun p hp => hp), objs_all ha]
  rw [tot_objs hs, h1]
  exact sumW_le _ _ _ hn hs

theorem in_object : ∀ (X : List Ob) (P i : Nat), P ≤ i → i < P + totO X → ∃ (j : Nat) (hj : j < X.length), placeAt P X j ≤ i ∧ i < placeAt P X j + wordsO X[j]
  | [], P, i, h1, h2 => by simp [totO] at h2; omega
  | x :: X, P, i, h1, h2 => by
    by_cases h : i < P + wordsO x
    · exact ⟨0, by simp, by rw [placeAt_zero]; exact h1, by rw [placeAt_zero]; exact h⟩
    · have ht : totO (x :: X) = wordsO x + totO X := rfl
      obtain ⟨j, hj, h3, h4⟩ := in_object X (P + wordsO x) i (by omega) (by omega)
      exact ⟨j + 1, by simpa using hj, by rw [placeAt_succ]; exact h3, by rw [placeAt_succ]; simpa using h4⟩

theorem headsAt_get {g : Nat → Int} : ∀ (X : List Ob) (P : Nat), HeadsAt g P X → ∀ (i : Nat) (hi : i < X.length), g (placeAt P X i) = packO X[i] ∧ g (placeAt P X i + 1) = X[i].h
  | x :: X, P, h, 0, _ => by rw [placeAt_zero]; exact ⟨h.1, h.2.1⟩
  | x :: X, P, h, i + 1, hi => by
    rw [placeAt_succ]
    simpa using headsAt_get X (P + wordsO x) h.2.2 i (by simpa using hi)

theorem right_of {h : Int} {n : Nat} {f : Nat → Int} {ac bu : Int} {L : List Ob} (hk : IsSF h n f ac bu 0) (ho : IsOI h n f ac bu 0 L) : Right f L := by
  have hpz := (isOI_zero ho).2
  obtain ⟨⟨⟨q1, q2⟩, ⟨q3, q4⟩, q5, q6⟩, qn, qw⟩ := isFault_ok (isOI_zero ho).1
  have hPUn : (baseI ac h).toNat + bu.toNat ≤ n := by rcases (by omega : ac = 0 ∨ ac = 1) with rfl | rfl <;> simp [baseI] <;> omega
  refine ⟨(isSF_shape hk ho).1, fun x hx => ?_, fun x hx => ?_, fun x hx => ?_⟩
  · exact (parse_ok hpz hPUn qw x hx).1.1
  · obtain ⟨a', he, hg⟩ := parse_all _ _ L (Nat.le_refl _) hpz x hx
    refine ⟨?_, (parse_ok hpz hPUn qw x hx).2.1.2⟩
    rw [he]; exact hg.2.1.2
  · obtain ⟨i, hi, rfl⟩ := List.getElem_of_mem hx
    exact findO_at hpz hi
end Go.Proofs.Ytnacdhnnpddccaa

namespace Go.Proofs.Ytnacdhnnpddccaa
open Go.RowKit
set_option linter.unusedVariables false

theorem objsO_snoc {L : List Ob} {R : List Int} {p : Int} {x : Ob} (h : findO L p = some x) : objsO L (R ++ [p]) = objsO L R ++ [x] := by
  unfold objsO
  rw [List.filterMap_append, List.filterMap_cons_some h]
  rfl

theorem totO_append : ∀ (X Y : List Ob), totO (X ++ Y) = totO X + totO Y
  | [], Y => by simp [totO]
  | x :: X, Y => by
    have := totO_append X Y
    simp only [List.cons_append, totO]
    omega

theorem placeAt_snoc (P : Nat) (X : List Ob) (x : Ob) {i : Nat} (hi : i ≤ X.length) : placeAt P (X ++ [x]) i = placeAt P X i := by
  unfold placeAt
  rw [List.take_append_of_le_length hi]

theorem placeAt_all (P : Nat) (X : List Ob) : placeAt P X X.length = P + totO X := by
  unfold placeAt
  rw [List.take_length]

theorem newPlaces_snoc (P : Nat) (X : List Ob) (x : Ob) {i : Nat} (hi : i < X.length) : (newPlaces P (X ++ [x])).getD i 0 = (newPlaces P X).getD i 0 := by
  rw [newPlaces_get P _ (by simp; omega), newPlaces_get P _ hi, placeAt_snoc P X x (by omega)]

theorem numL_mem {R : List Int} {q : Int} (h : q ∈ R) : ∃ i, ∃ hi : i < R.length, numL R q = some i ∧ R[i] = q := by
  cases hn : numL R q with
  | none =>
    have := List.findIdx?_eq_none_iff.mp hn q h
    simp at this
  | some i =>
    obtain ⟨h1, h2, _⟩ := List.findIdx?_eq_some_iff_getElem.mp hn
    exact ⟨i, h1, rfl, by simpa using h2⟩

theorem numL_keep {R : List Int} {p q : Int} (h : q ∈ R) : numL (R ++ [p]) q = numL R q := by
  obtain ⟨i, hi, h1, h2⟩ := numL_mem h
  rw [h1]
  unfold numL at h1 ⊢
  rw [List.findIdx?_append, h1]; rfl

theorem goes_snoc {R : List Int} {p q : Int} {P : Nat} {X : List Ob} {x : Ob} (hl : X.length = R.length) (h : q ∈ R) : goes (R ++ [p]) (newPlaces P (X ++ [x])) q = goes R (newPlaces P X) q := by
  unfold goes
  rw [numL_keep h]
  obtain ⟨i, hi, h1, h2⟩ := numL_mem h
  rw [h1]
  simp only [Option.getD_some]
  exact newPlaces_snoc P X x (by omega)

theorem goes_new {R : List Int} {p : Int} {P : Nat} {X : List Ob} {x : Ob} (hl : X.length = R.length) (h : p ∉ R) : goes (R ++ [p]) (newPlaces P (X ++ [x])) p = ((P + totO X : Nat) : Int) := by
  have hn : numL (R ++ [p]) p = some R.length := by
    unfold numL
    rw [List.findIdx?_append]
    have : List.findIdx? (fun x => x == p) R = none := by
      rw [List.findIdx?_eq_none_iff]
      intro y hy
      simp only [beq_eq_false_iff_ne, ne_eq]
      intro e
      subst e
      exact h hy
    rw [this]
    simp
  unfold goes
  rw [hn]
  show (newPlaces P (X ++ [x])).getD R.length 0 = _
  rw [← hl, newPlaces_get P _ (by simp), placeAt_snoc P X x (Nat.le_refl _), placeAt_all]

theorem goes_index {R : List Int} {q : Int} {P : Nat} {X : List Ob} (hl : X.length = R.length) (h : q ∈ R) : ∃ i, ∃ hi : i < R.length, R[i] = q ∧ goes R (newPlaces P X) q = (placeAt P X i : Int) := by
  obtain ⟨i, hi, h1, h2⟩ := numL_mem h
  refine ⟨i, hi, h2, ?_⟩
  unfold goes
  rw [h1]
  simp only [Option.getD_some]
  exact newPlaces_get P _ (by omega)

theorem headsAt_snoc {g : Nat → Int} : ∀ (X : List Ob) (P : Nat) (x : Ob), HeadsAt g P X → g (P + totO X) = packO x → g (P + totO X + 1) = x.h → HeadsAt g P (X ++ [x])
  | [], P, x, _, h1, h2 => ⟨by simpa [totO] using h1, by simpa [totO] using h2, trivial⟩
  | y :: X, P, x, h, h1, h2 => ⟨h.1, h.2.1, headsAt_snoc X (P + wordsO y) x h.2.2 (by rw [show P + wordsO y + totO X = P + totO (y :: X) by simp only [totO]; omega]; exact h1) (by rw [show P + wordsO y + totO X = P + totO (y :: X) by simp only [totO]; omega]; exact h2)⟩

theorem headsAt_congr {g g' : Nat → Int} : ∀ (X : List Ob) (P : Nat), (∀ j, P ≤ j → j < P + totO X → g' j = g j) → HeadsAt g P X → HeadsAt g' P X
  | [], P, _, _ => trivial
  | y :: X, P, hc, h => by
    have hw : wordsO y = 2 + y.s.toNat := rfl
    have ht : totO (y :: X) = wordsO y + totO X := rfl
    refine ⟨?_, ?_, headsAt_congr X (P + wordsO y) (fun j h1 h2 => hc j (by omega) (by omega)) h.2.2⟩
    · rw [hc P (by omega) (by omega)]; exact h.1
    · rw [hc (P + 1) (by omega) (by omega)]; exact h.2.1

/-- An arena that is right, and a half to which its objects go. -/
structure Cop (f : Nat → Int) (L : List Ob) (B U P H : Nat) : Prop where
  right : Right f L
  bounds : ∀ x ∈ L, B ≤ x.at_.toNat ∧ 0 ≤ x.at_ ∧ 0 ≤ x.s ∧ x.at_.toNat + 2 + x.s.toNat ≤ B + U
  apart : ∀ x ∈ L, ∀ y ∈ L, ∀ j, x.at_.toNat ≤ j → j < x.at_.toNat + 2 + x.s.toNat → y.at_.toNat ≤ j → j < y.at_.toNat + 2 + y.s.toNat → x = y
  heads : ∀ x ∈ L, f x.at_.toNat = packO x ∧ f (x.at_.toNat + 1) = x.h
  tot : totO L ≤ U
  room : U ≤ H ∧ H ≤ 200 ∧ ((B = 0 ∧ P = H) ∨ (B = H ∧ P = 0))
  word : ∀ i, i < 2 * H → Word (f i)
  zero : ∀ i, i < 2 * H → ¬ (B ≤ i ∧ i < B + U) → f i = 0

theorem pack_of {f : Nat → Int} {e a : Nat} (hg : Good f e a) : f a = packO (objAt f a) := by
  obtain ⟨_, ⟨h1, h2⟩, _⟩ := hg
  unfold packO objAt
  show f a = 1 + 2 * (f a / 2 % 16 + 16 * (f a / 32 % 4096 + 4096 * (f a / 131072)))
  omega

theorem cop_of {h : Int} {n : Nat} {f : Nat → Int} {ac bu : Int} {L : List Ob} (hk : IsSF h n f ac bu 0) (ho : IsOI h n f ac bu 0 L) : Cop f L (baseI ac h).toNat bu.toNat (baseI (1 - ac) h).toNat h.toNat := by
  have hr := right_of hk ho
  have hpz := (isOI_zero ho).2
  obtain ⟨⟨⟨q1, q2⟩, ⟨q3, q4⟩, q5, q6⟩, qn, qw⟩ := isFault_ok (isOI_zero ho).1
  have hb := right_bounds ho
  have hbb : ((baseI ac h).toNat = 0 ∧ (baseI (1 - ac) h).toNat = h.toNat) ∨ ((baseI ac h).toNat = h.toNat ∧ (baseI (1 - ac) h).toNat = 0) := by
    rcases (by omega : ac = 0 ∨ ac = 1) with rfl | rfl <;> simp [baseI]
  refine ⟨hr, fun x hx => ?_, parse_apart _ _ L (Nat.le_refl _) hpz, fun x hx => ?_, ?_, ⟨by omega, by omega, hbb⟩, fun i hi => qw i (by omega), fun i hi hn => (isSF_shape hk ho).2 i (by omega) hn⟩
  · obtain ⟨a1, a2, a3, a4, _⟩ := hb x hx
    exact ⟨a1, a2, a3, a4⟩
  · obtain ⟨a', he, hg⟩ := parse_all _ _ L (Nat.le_refl _) hpz x hx
    subst he
    have e1 : (objAt f a').at_.toNat = a' := by simp [objAt]
    rw [e1]
    exact ⟨pack_of hg, rfl⟩
  · have := parse_tot_eq _ _ L (Nat.le_refl _) (by omega) hpz
    omega

/-- The words of a copying: R was brought over, the objects ahead of the number s were looked through, and of the one of this number the fields ahead of kk. -/
structure CW (f : Nat → Int) (L : List Ob) (P : Nat) (R : List Int) (s kk : Nat) (W : Nat → Int) : Prop where
  sub : ∀ p ∈ R, p ∈ placesO L
  nodup : R.Nodup
  pos : s < R.length ∨ (s = R.length ∧ kk = 0)
  heads : HeadsAt W P (objsO L R)
  flds : ∀ (i : Nat) (hi : i < (objsO L R).length) (k : Nat), k < (objsO L R)[i].s.toNat → W (placeAt P (objsO L R) i + 2 + k) = if i < s ∨ (i = s ∧ k < kk) then mapF f R (newPlaces P (objsO L R)) (objsO L R)[i] k else f ((objsO L R)[i].at_.toNat + 2 + k)
  seen : ∀ (i : Nat) (hi : i < (objsO L R).length) (k : Nat), k < (objsO L R)[i].s.toNat → (i < s ∨ (i = s ∧ k < kk)) → (objsO L R)[i].m / P2 (k : Int) % 2 = 1 → ¬ f ((objsO L R)[i].at_.toNat + 2 + k) = 0 → f ((objsO L R)[i].at_.toNat + 2 + k) - 1 ∈ R
  went : ∀ (i : Nat) (hi : i < R.length), W R[i].toNat = 2 * (placeAt P (objsO L R) i : Int) + 2
  keep : ∀ j : Nat, ¬ (P ≤ j ∧ j < P + totO (objsO L R)) → (j : Int) ∉ R → W j = f j

theorem cw_init (f : Nat → Int) (L : List Ob) (P : Nat) : CW f L P [] 0 0 f :=
  ⟨fun p hp => (by cases hp), List.nodup_nil, .inr ⟨rfl, rfl⟩, trivial, fun i hi => by simp [objsO] at hi, fun i hi => by simp [objsO] at hi, fun i hi => by simp at hi, fun _ _ _ => rfl⟩

section

variable {f W : Nat → Int} {L : List Ob} {B U P H s kk : Nat} {R : List Int}

theorem CW.len (c : CW f L P R s kk W) : (objsO L R).length = R.length := objsO_length c.sub

theorem CW.tot (c : CW f L P R s kk W) (a : Cop f L B U P H) : totO (objsO L R) ≤ U := Nat.le_trans (tot_le a.right.apart c.nodup c.sub) a.tot

theorem Cop.obj (a : Cop f L B U P H) {p : Int} (hp : p ∈ placesO L) : ∃ x ∈ L, findO L p = some x ∧ x.at_ = p := by
  obtain ⟨x, hx⟩ := mem_placesO.1 hp
  exact ⟨x, List.mem_of_find?_eq_some hx, hx, by simpa using List.find?_some hx⟩

/-- No place of an object lies inside of another one. -/
theorem Cop.inside (a : Cop f L B U P H) {x : Ob} (hx : x ∈ L) {q : Int} (hq : q ∈ placesO L) (hne : q ≠ x.at_) {j : Nat} (h1 : x.at_.toNat ≤ j) (h2 : j < x.at_.toNat + 2 + x.s.toNat) : (j : Int) ≠ q := by
  intro e
  obtain ⟨y, hy, _, hya⟩ := a.obj hq
  have hb := a.bounds y hy
  have := a.apart x hx y hy j h1 h2 (by omega) (by omega)
  subst this
  exact hne hya.symm

/-- A word of an object that was not brought over. -/
theorem CW.old (c : CW f L P R s kk W) (a : Cop f L B U P H) {x : Ob} (hx : x ∈ L) (hn : x.at_ ∉ R) {k : Nat} (hk : k < wordsO x) : W (x.at_.toNat + k) = f (x.at_.toNat + k) := by
  have hw : wordsO x = 2 + x.s.toNat := rfl
  have hb := a.bounds x hx
  have ht := c.tot a
  obtain ⟨h1, h2, h3⟩ := a.room
  refine c.keep _ (by omega) fun hm => ?_
  exact a.inside hx (c.sub _ hm) (fun e => hn (by rw [← e]; exact hm)) (Nat.le_add_right _ k) (by omega) rfl

/-- Where one went that was brought over. -/
theorem CW.goes (c : CW f L P R s kk W) (a : Cop f L B U P H) {p : Int} (hp : p ∈ R) : W p.toNat = 2 * goes R (newPlaces P (objsO L R)) p + 2 ∧ (P : Int) ≤ goes R (newPlaces P (objsO L R)) p ∧ goes R (newPlaces P (objsO L R)) p + 2 ≤ ((P + totO (objsO L R) : Nat) : Int) := by
  obtain ⟨i, hi, h1, h2⟩ := goes_index (P := P) (X := objsO L R) c.len hp
  have hlt := placeAt_lt P (objsO L R) i _ (by rw [c.len]; exact hi) (Nat.le_refl _)
  rw [placeAt_all] at hlt
  have hge : P ≤ placeAt P (objsO L R) i := by unfold placeAt; omega
  rw [h2]
  subst h1
  exact ⟨c.went i hi, by omega, by omega⟩

/-- One that was not brought over is brought over. -/
theorem CW.bring (c : CW f L P R s kk W) (a : Cop f L B U P H) {p : Int} {x : Ob} {W' : Nat → Int} (hf : findO L p = some x) (hn : p ∉ R) (h1 : ∀ k, k < wordsO x → W' (P + totO (objsO L R) + k) = W (p.toNat + k)) (h2 : W' p.toNat = 2 * ((P + totO (objsO L R) : Nat) : Int) + 2)
    (h3 : ∀ j, ¬ (P + totO (objsO L R) ≤ j ∧ j < P + totO (objsO L R) + wordsO x) → j ≠ p.toNat → W' j = W j) : CW f L P (R ++ [p]) s kk W' := by
  have hx := List.mem_of_find?_eq_some hf
  have hxa : x.at_ = p := by simpa using List.find?_some hf
  subst hxa
  have hw : wordsO x = 2 + x.s.toNat := rfl
  have hl := c.len
  have hb := a.bounds x hx
  have ht := c.tot a
  obtain ⟨r1, r2, r3⟩ := a.room
  have hp : x.at_ ∈ placesO L := List.mem_map.mpr ⟨x, hx, rfl⟩
  have hsub : ∀ q ∈ R ++ [x.at_], q ∈ placesO L := fun q hq => by
    rcases List.mem_append.mp hq with h | h
    · exact c.sub q h
    · simp only [List.mem_singleton] at h; subst h; exact hp
  have hnd : (R ++ [x.at_]).Nodup := List.nodup_append.mpr ⟨c.nodup, by simp, fun q hq r hr e => by
    simp only [List.mem_singleton] at hr
    subst hr; subst e; exact hn hq⟩
  have ho := objsO_snoc (R := R) hf
  have ht2 : totO (objsO L R) + wordsO x ≤ U := by
    have h9 := Nat.le_trans (tot_le a.right.apart hnd hsub) a.tot
    rw [ho, totO_append] at h9
    have : totO [x] = wordsO x := by simp [totO]
    omega
  have hsame : ∀ j, P ≤ j → j < P + totO (objsO L R) → W' j = W j := fun j g1 g2 => h3 j (by omega) (by omega)
  have hnew : ∀ k, k < wordsO x → W' (P + totO (objsO L R) + k) = f (x.at_.toNat + k) := fun k hk => by rw [h1 k hk]; exact c.old a hx hn hk
  have hfw : ∀ (i : Nat) (hi : i < (objsO L R).length), placeAt P (objsO L R) i + 2 + (objsO L R)[i].s.toNat ≤ P + totO (objsO L R) := fun i hi => by
    have := placeAt_end P (objsO L R) hi
    have hw2 : wordsO (objsO L R)[i] = 2 + (objsO L R)[i].s.toNat := rfl
    omega
  have hge : ∀ i, P ≤ placeAt P (objsO L R) i := fun i => by unfold placeAt; omega
  have hget : ∀ (i : Nat) (hi : i < (objsO L (R ++ [x.at_])).length), (∃ hi' : i < (objsO L R).length, (objsO L (R ++ [x.at_]))[i] = (objsO L R)[i]) ∨ (i = R.length ∧ (objsO L (R ++ [x.at_]))[i] = x) := by
    intro i hi
    simp only [ho] at hi ⊢
    by_cases h : i < (objsO L R).length
    · exact .inl ⟨h, by rw [List.getElem_append_left h]⟩
    · rw [List.length_append, List.length_singleton] at hi
      refine .inr ⟨by omega, ?_⟩
      rw [List.getElem_append_right (by omega)]
      simp
  refine ⟨hsub, hnd, ?_, ?_, ?_, ?_, ?_, ?_⟩
  · rcases c.pos with h | ⟨h, h'⟩
    · left; simp; omega
    · left; simp; omega
  · rw [ho]
    refine headsAt_snoc _ _ _ (headsAt_congr _ _ hsame c.heads) ?_ ?_
    · have := hnew 0 (by omega)
      rw [Nat.add_zero, Nat.add_zero] at this
      rw [this]; exact (a.heads x hx).1
    · rw [hnew 1 (by omega)]; exact (a.heads x hx).2
  · intro i hi k hk
    rcases hget i hi with ⟨hi', he⟩ | ⟨hi', he⟩
    · rw [he] at hk ⊢
      rw [ho, placeAt_snoc P _ x (by omega)]
      have := hfw i hi'
      have := hge i
      rw [hsame _ (by omega) (by omega), c.flds i hi' k hk]
      by_cases hc : i < s ∨ (i = s ∧ k < kk)
      · rw [if_pos hc, if_pos hc]
        unfold mapF
        by_cases hb2 : (objsO L R)[i].m / P2 (k : Int) % 2 = 1 ∧ ¬ f ((objsO L R)[i].at_.toNat + 2 + k) = 0
        · rw [if_pos hb2, if_pos hb2, goes_snoc hl (c.seen i hi' k hk hc hb2.1 hb2.2)]
        · rw [if_neg hb2, if_neg hb2]
      · rw [if_neg hc, if_neg hc]
    · rw [he] at hk ⊢
      have hc : ¬ (i < s ∨ (i = s ∧ k < kk)) := by
        rcases c.pos with h | ⟨h, h'⟩ <;> omega
      rw [if_neg hc, ho, hi', ← hl, placeAt_snoc P _ x (Nat.le_refl _), placeAt_all]
      have := hnew (2 + k) (by omega)
      rw [← Nat.add_assoc, ← Nat.add_assoc] at this
      exact this
  · intro i hi k hk hc hb1 hb2
    rcases hget i hi with ⟨hi', he⟩ | ⟨hi', he⟩
    · rw [he] at hk hb1 hb2 ⊢
      exact List.mem_append_left _ (c.seen i hi' k hk hc hb1 hb2)
    · rcases c.pos with h | ⟨h, h'⟩ <;> omega
  · intro i hi
    by_cases h : i < R.length
    · rw [List.getElem_append_left h, ho, placeAt_snoc P _ x (by omega)]
      have hq : R[i] ∈ R := List.getElem_mem h
      obtain ⟨y, hy, _, hya⟩ := a.obj (c.sub _ hq)
      have hby := a.bounds y hy
      rw [h3 _ (by rw [← hya]; omega) ?_]
      · exact c.went i h
      · intro e
        have : R[i] = x.at_ := by omega
        exact hn (this ▸ hq)
    · have hi2 : i = R.length := by simp at hi; omega
      subst hi2
      rw [List.getElem_append_right (Nat.le_refl _), ho]
      simp only [Nat.sub_self, List.getElem_cons_zero]
      rw [← hl, placeAt_snoc P _ x (Nat.le_refl _), placeAt_all]
      exact h2
  · intro j hj hjn
    rw [ho, totO_append] at hj
    have : totO [x] = wordsO x := by simp [totO]
    have hj2 : ¬ j = x.at_.toNat := fun e => hjn (List.mem_append_right _ (by simp; omega))
    rw [h3 j (by omega) hj2]
    exact c.keep j (by omega) fun hm => hjn (List.mem_append_left _ hm)

/-- The next field of an object that is looked through is none that leads on. -/
theorem CW.stay (c : CW f L P R s kk W) {x : Ob} (hs : s < R.length) (hx : findO L R[s] = some x) (hk : kk < x.s.toNat) (hb : ¬ (x.m / P2 (kk : Int) % 2 = 1 ∧ ¬ f (x.at_.toNat + 2 + kk) = 0)) : CW f L P R s (kk + 1) W := by
  have hl := c.len
  have hxe : (objsO L R)[s]'(by omega) = x := by
    have := objsO_get c.sub s hs (by omega)
    rw [hx] at this
    exact (Option.some.inj this).symm
  refine ⟨c.sub, c.nodup, .inl hs, c.heads, fun i hi k hki => ?_, fun i hi k hki hc hb1 hb2 => ?_, c.went, c.keep⟩
  · rw [c.flds i hi k hki]
    by_cases h : i < s ∨ (i = s ∧ k < kk)
    · rw [if_pos h, if_pos (by omega)]
    · rw [if_neg h]
      by_cases h2 : i < s ∨ (i = s ∧ k < kk + 1)
      · rw [if_pos h2]
        obtain ⟨rfl, rfl⟩ : i = s ∧ k = kk := by omega
        unfold mapF
        rw [hxe, if_neg hb]
      · rw [if_neg h2]
  · by_cases h : i < s ∨ (i = s ∧ k < kk)
    · exact c.seen i hi k hki h hb1 hb2
    · obtain ⟨rfl, rfl⟩ : i = s ∧ k = kk := by omega
      rw [hxe] at hb1 hb2
      exact absurd ⟨hb1, hb2⟩ hb

/-- The next field of an object that is looked through leads to one that was brought over. -/
theorem CW.lead (c : CW f L P R s kk W) (a : Cop f L B U P H) {x : Ob} {W' : Nat → Int} (hs : s < R.length) (hx : findO L R[s] = some x) (hk : kk < x.s.toNat) (hb : x.m / P2 (kk : Int) % 2 = 1 ∧ ¬ f (x.at_.toNat + 2 + kk) = 0) (ht : f (x.at_.toNat + 2 + kk) - 1 ∈ R)
    (h1 : W' (placeAt P (objsO L R) s + 2 + kk) = Go.Proofs.Ytnacdhnnpddccaa.goes R (newPlaces P (objsO L R)) (f (x.at_.toNat + 2 + kk) - 1) + 1) (h2 : ∀ j, j ≠ placeAt P (objsO L R) s + 2 + kk → W' j = W j) : CW f L P R s (kk + 1) W' := by
  have hl := c.len
  have hsl : s < (objsO L R).length := by omega
  have hxe : (objsO L R)[s]'hsl = x := by
    have := objsO_get c.sub s hs (by omega)
    rw [hx] at this
    exact (Option.some.inj this).symm
  obtain ⟨r1, r2, r3⟩ := a.room
  have htt := c.tot a
  have hfw : ∀ (i : Nat) (hi : i < (objsO L R).length), placeAt P (objsO L R) i + 2 + (objsO L R)[i].s.toNat ≤ P + totO (objsO L R) := fun i hi => by
    have := placeAt_end P (objsO L R) hi
    have hw2 : wordsO (objsO L R)[i] = 2 + (objsO L R)[i].s.toNat := rfl
    omega
  have hge : ∀ i, P ≤ placeAt P (objsO L R) i := fun i => by unfold placeAt; omega
  have hes := hfw s hsl
  rw [hxe] at hes
  have hgs := hge s
  have hstep : ∀ (i : Nat) (hi : i < (objsO L R).length), i < s → placeAt P (objsO L R) i + 2 + (objsO L R)[i].s.toNat ≤ placeAt P (objsO L R) s := fun i hi his => by
    have hst := placeAt_step P (objsO L R) hi
    have hw2 : wordsO (objsO L R)[i] = 2 + (objsO L R)[i].s.toNat := rfl
    rcases Nat.lt_or_ge (i + 1) s with h | h
    · have := placeAt_lt P (objsO L R) (i + 1) s h (by omega); omega
    · have : s = i + 1 := by omega
      rw [this]; omega
  have hstep2 : ∀ (i : Nat) (hi : i < (objsO L R).length), s < i → placeAt P (objsO L R) s + 2 + x.s.toNat ≤ placeAt P (objsO L R) i := fun i hi his => by
    have hst := placeAt_step P (objsO L R) hsl
    have hw2 : wordsO (objsO L R)[s] = 2 + (objsO L R)[s].s.toNat := rfl
    rw [hxe] at hst hw2
    rcases Nat.lt_or_ge (s + 1) i with h | h
    · have := placeAt_lt P (objsO L R) (s + 1) i h (by omega); omega
    · have : i = s + 1 := by omega
      rw [this]; omega
  refine ⟨c.sub, c.nodup, .inl hs, ?_, fun i hi k hki => ?_, fun i hi k hki hc hb1 hb2 => ?_, fun i hi => ?_, fun j hj hjn => ?_⟩
  · have key : ∀ (X : List Ob) (Q : Nat) (g g' : Nat → Int) (d : Nat), HeadsAt g Q X → (∀ j, j ≠ d → g' j = g j) → (∀ (i : Nat) (hi : i < X.length), placeAt Q X i ≠ d ∧ placeAt Q X i + 1 ≠ d) → HeadsAt g' Q X := by
      intro X
      induction X with
      | nil => intro Q g g' d _ _ _; trivial
      | cons y X ih =>
        intro Q g g' d hh hg hd
        have h0 := hd 0 (by simp)
        rw [placeAt_zero] at h0
        refine ⟨by rw [hg _ h0.1]; exact hh.1, by rw [hg _ h0.2]; exact hh.2.1, ih _ g g' d hh.2.2 hg fun i hi => ?_⟩
        have := hd (i + 1) (by simpa using hi)
        rw [placeAt_succ] at this
        exact this
    refine key _ _ W W' _ c.heads h2 fun i hi => ?_
    rcases Nat.lt_trichotomy i s with h | h | h
    · have := hstep i hi h; omega
    · subst h; omega
    · have := hstep2 i hi h; omega
  · by_cases h : i = s ∧ k = kk
    · obtain ⟨rfl, rfl⟩ := h
      rw [if_pos (by omega), h1]
      unfold mapF
      rw [hxe, if_pos hb]
    · rw [h2 _ ?_, c.flds i hi k hki]
      · by_cases h' : i < s ∨ (i = s ∧ k < kk)
        · rw [if_pos h', if_pos (by omega)]
        · rw [if_neg h', if_neg (by omega)]
      · rcases Nat.lt_trichotomy i s with h' | h' | h'
        · have := hstep i hi h'; omega
        · subst h'; omega
        · have := hstep2 i hi h'; omega
  · by_cases h : i < s ∨ (i = s ∧ k < kk)
    · exact c.seen i hi k hki h hb1 hb2
    · obtain ⟨rfl, rfl⟩ : i = s ∧ k = kk := by omega
      rw [hxe]
      exact ht
  · obtain ⟨y, hy, _, hya⟩ := a.obj (c.sub _ (List.getElem_mem hi))
    have hby := a.bounds y hy
    rw [h2 _ (by omega)]
    exact c.went i hi
  · rw [h2 j (by omega)]
    exact c.keep j hj hjn

/-- All fields of an object were looked at. -/
theorem CW.next (c : CW f L P R s kk W) {x : Ob} (hs : s < R.length) (hx : findO L R[s] = some x) (hk : kk = x.s.toNat) : CW f L P R (s + 1) 0 W := by
  have hl := c.len
  have hxe : (objsO L R)[s]'(by omega) = x := by
    have := objsO_get c.sub s hs (by omega)
    rw [hx] at this
    exact (Option.some.inj this).symm
  have key : ∀ (i : Nat) (hi : i < (objsO L R).length) (k : Nat), k < (objsO L R)[i].s.toNat → ((i < s + 1 ∨ (i = s + 1 ∧ k < 0)) ↔ (i < s ∨ (i = s ∧ k < kk))) := by
    intro i hi k hki
    constructor
    · intro h
      by_cases e : i = s
      · subst e; rw [hxe] at hki; omega
      · omega
    · omega
  refine ⟨c.sub, c.nodup, by omega, c.heads, fun i hi k hki => ?_, fun i hi k hki hc => c.seen i hi k hki ((key i hi k hki).1 hc), c.went, c.keep⟩
  rw [c.flds i hi k hki]
  by_cases h : i < s ∨ (i = s ∧ k < kk)
  · rw [if_pos h, if_pos ((key i hi k hki).2 h)]
  · rw [if_neg h, if_neg (fun h' => h ((key i hi k hki).1 h'))]

/-- The words are told by what was brought over, and how far it was looked through. -/
theorem CW.same {W' : Nat → Int} (c : CW f L P R s kk W) (c' : CW f L P R s kk W') : ∀ j, W j = W' j := by
  intro j
  by_cases hin : P ≤ j ∧ j < P + totO (objsO L R)
  · obtain ⟨i, hi, g1, g2⟩ := in_object _ _ j hin.1 hin.2
    have e1 := headsAt_get _ _ c.heads i hi
    have e2 := headsAt_get _ _ c'.heads i hi
    have hw : wordsO (objsO L R)[i] = 2 + (objsO L R)[i].s.toNat := rfl
    by_cases a1 : j = placeAt P (objsO L R) i
    · rw [a1, e1.1, e2.1]
    · by_cases a2 : j = placeAt P (objsO L R) i + 1
      · rw [a2, e1.2, e2.2]
      · have hk : j - (placeAt P (objsO L R) i + 2) < (objsO L R)[i].s.toNat := by omega
        have hj : j = placeAt P (objsO L R) i + 2 + (j - (placeAt P (objsO L R) i + 2)) := by omega
        rw [hj, c.flds i hi _ hk, c'.flds i hi _ hk]
  · by_cases hm : (j : Int) ∈ R
    · obtain ⟨i, hi, he⟩ := List.getElem_of_mem hm
      have h1 := c.went i hi
      have h2 := c'.went i hi
      rw [he] at h1 h2
      simp only [Int.toNat_natCast] at h1 h2
      rw [h1, h2]
    · rw [c.keep j hin hm, c'.keep j hin hm]

end
end Go.Proofs.Ytnacdhnnpddccaa

namespace Go.Proofs.Ytnacdhnnpddccaa
open Go.RowKit
set_option linter.unusedVariables false

/-- A list as a row's numbers. -/
def lf (l : List Int) : Nat → Int := fun i => l.getD i 0

theorem lf_at {l : List Int} {i : Nat} (h : i < l.length) : lf l i = l[i] := getD_get h

theorem lf_mem {l : List Int} {i : Nat} (h : i < l.length) : lf l i ∈ l := by rw [lf_at h]; exact List.getElem_mem h

theorem nums_lf (l : List Int) : nums l.length (lf l) = l.map (fun x => Value.int .i64 x) := by
  apply List.ext_getElem?
  intro i
  by_cases hi : i < l.length
  · rw [nums_get _ _ _ hi, lf_at hi]; simp [hi]
  · rw [List.getElem?_eq_none (by rw [nums_length]; omega), List.getElem?_eq_none (by simp; omega)]

theorem nums_snoc (l : List Int) (x : Int) : nums l.length (lf l) ++ [Value.int .i64 x] = nums (l.length + 1) (lf (l ++ [x])) := by
  have h := nums_lf (l ++ [x])
  rw [show (l ++ [x]).length = l.length + 1 by simp] at h
  rw [h, nums_lf]; simp

theorem lf_last (l : List Int) (x : Int) : lf (l ++ [x]) l.length = x := by unfold lf; simp

theorem lf_left {l : List Int} {i : Nat} (h : i < l.length) (x : Int) : lf (l ++ [x]) i = lf l i := by
  unfold lf; rw [List.getD_eq_getElem?_getD, List.getElem?_append_left h, ← List.getD_eq_getElem?_getD]

/-- Where an object's pointers lead, from a field on. -/
def ptrsF (f : Nat → Int) (x : Ob) (k : Nat) : List Int := ((List.range x.s.toNat).drop k).filterMap fun (k : Nat) => if x.m / P2 (k : Int) % 2 = 1 ∧ ¬ f (x.at_.toNat + 2 + k) = 0 then some (f (x.at_.toNat + 2 + k) - 1) else none

theorem ptrsF_zero (f : Nat → Int) (x : Ob) : ptrsF f x 0 = ptrs f x := rfl

theorem ptrsF_end {f : Nat → Int} {x : Ob} {k : Nat} (h : x.s.toNat ≤ k) : ptrsF f x k = [] := by
  unfold ptrsF; rw [List.drop_eq_nil_of_le (by simpa using h)]; rfl

theorem ptrsF_yes {f : Nat → Int} {x : Ob} {k : Nat} (h : k < x.s.toNat) (h1 : x.m / P2 (k : Int) % 2 = 1) (h2 : ¬ f (x.at_.toNat + 2 + k) = 0) : ptrsF f x k = (f (x.at_.toNat + 2 + k) - 1) :: ptrsF f x (k + 1) := by
  unfold ptrsF
  rw [List.drop_eq_getElem_cons (by simpa using h), List.getElem_range]
  exact List.filterMap_cons_some (if_pos ⟨h1, h2⟩)

theorem ptrsF_no {f : Nat → Int} {x : Ob} {k : Nat} (h : k < x.s.toNat) (h1 : ¬ (x.m / P2 (k : Int) % 2 = 1 ∧ ¬ f (x.at_.toNat + 2 + k) = 0)) : ptrsF f x k = ptrsF f x (k + 1) := by
  unfold ptrsF
  rw [List.drop_eq_getElem_cons (by simpa using h), List.getElem_range]
  exact List.filterMap_cons_none (if_neg h1)

def add1 (O : List Int) (p : Int) : List Int := if p ∈ O then O else O ++ [p]

theorem addNew_cons (O : List Int) (p : Int) (ps : List Int) : addNew O (p :: ps) = addNew (add1 O p) ps := rfl

theorem add1_nodup {O : List Int} (h : O.Nodup) (p : Int) : (add1 O p).Nodup := nodup_addNew [p] O h

theorem add1_mem {O : List Int} {p q : Int} : q ∈ add1 O p ↔ q ∈ O ∨ q = p := by
  exact (mem_addNew [p] O q).trans (by simp)

theorem add1_le (O : List Int) (p : Int) : O.length ≤ (add1 O p).length := by unfold add1; split <;> simp

theorem add1_lf {O : List Int} {i : Nat} (h : i < O.length) (p : Int) : lf (add1 O p) i = lf O i := by
  unfold add1; split
  · rfl
  · exact lf_left h p

/-- The scan: the places from i on are still to be looked at. -/
structure SC (f : Nat → Int) (L : List Ob) (roots : List Int) (i : Nat) (O : List Int) : Prop where
  nd : O.Nodup
  sub : ∀ p ∈ O, p ∈ placesO L
  le : i ≤ O.length
  all : reachO f L roots = scanF (succO f L) (L.length - i) i O

/-- The scan within an object. -/
structure SI (f : Nat → Int) (L : List Ob) (roots : List Int) (i k : Nat) (x : Ob) (O : List Int) : Prop where
  nd : O.Nodup
  sub : ∀ p ∈ O, p ∈ placesO L
  lt : i < O.length
  at_ : findO L (lf O i) = some x
  all : reachO f L roots = scanF (succO f L) (L.length - (i + 1)) (i + 1) (addNew O (ptrsF f x k))

section

variable {f : Nat → Int} {L : List Ob} {roots O : List Int} {i k : Nat} {x : Ob}

theorem SC.len (h : SC f L roots i O) : O.length ≤ L.length := by have := nodup_length h.nd h.sub; simpa [placesO] using this

theorem SI.len (h : SI f L roots i k x O) : O.length ≤ L.length := by have := nodup_length h.nd h.sub; simpa [placesO] using this

theorem sc_start (hr : ∀ p ∈ roots, p ∈ placesO L) : SC f L roots 0 (addNew [] roots) := ⟨nodup_addNew _ _ List.nodup_nil, addNew_sub hr, Nat.zero_le _, rfl⟩

theorem sc_in (h : SC f L roots i O) (hi : i < O.length) : ∃ x, findO L (lf O i) = some x ∧ SI f L roots i 0 x O := by
  obtain ⟨x, hx⟩ := mem_placesO.1 (h.sub _ (lf_mem hi))
  refine ⟨x, hx, h.nd, h.sub, hi, hx, ?_⟩
  have hl := h.len
  rw [h.all, show L.length - i = L.length - (i + 1) + 1 by omega, scanF, if_pos hi, ptrsF_zero]
  congr 1
  have : succO f L (O.getD i 0) = ptrs f x := by unfold succO; rw [show O.getD i 0 = lf O i from rfl, hx]
  rw [this]

theorem sc_end (h : SC f L roots i O) (hi : ¬ i < O.length) : reachO f L roots = O := by rw [h.all, scanF_stop hi]

theorem si_end (h : SI f L roots i k x O) (hk : x.s.toNat ≤ k) : SC f L roots (i + 1) O := ⟨h.nd, h.sub, h.lt, by rw [h.all, ptrsF_end hk]; rfl⟩

theorem si_no (h : SI f L roots i k x O) (hk : k < x.s.toNat) (h1 : ¬ (x.m / P2 (k : Int) % 2 = 1 ∧ ¬ f (x.at_.toNat + 2 + k) = 0)) : SI f L roots i (k + 1) x O := ⟨h.nd, h.sub, h.lt, h.at_, by rw [h.all, ptrsF_no hk h1]⟩

theorem si_in (hp : Points f L) (hs : ∀ x ∈ L, 0 ≤ x.s) (h : SI f L roots i k x O) (hk : k < x.s.toNat) (h1 : x.m / P2 (k : Int) % 2 = 1) (h2 : ¬ f (x.at_.toNat + 2 + k) = 0) : f (x.at_.toNat + 2 + k) - 1 ∈ placesO L := by
  refine succO_sub hp hs _ (h.sub _ (lf_mem h.lt)) _ ?_
  unfold succO; rw [h.at_]
  exact mem_ptrs.2 ⟨k, hk, h1, h2, rfl⟩

theorem si_yes (hp : Points f L) (hs : ∀ x ∈ L, 0 ≤ x.s) (h : SI f L roots i k x O) (hk : k < x.s.toNat) (h1 : x.m / P2 (k : Int) % 2 = 1) (h2 : ¬ f (x.at_.toNat + 2 + k) = 0) : SI f L roots i (k + 1) x (add1 O (f (x.at_.toNat + 2 + k) - 1)) := by
  have hin := si_in hp hs h hk h1 h2
  refine ⟨add1_nodup h.nd _, fun p hq => ?_, Nat.lt_of_lt_of_le h.lt (add1_le _ _), by rw [add1_lf h.lt]; exact h.at_, by rw [h.all, ptrsF_yes hk h1 h2, addNew_cons]⟩
  rcases add1_mem.1 hq with h' | rfl
  · exact h.sub p h'
  · exact hin

end

/-- A table: the i-th of a list has the i-th value. -/
def tab (R : List Int) (v : Nat → Int) (p : Int) : Option Int := (numL R p).map v

theorem tab_nil (v : Nat → Int) (p : Int) : tab [] v p = none := rfl

theorem numL_snoc {R : List Int} {p : Int} (h : p ∉ R) (q : Int) : numL (R ++ [p]) q = if q = p then some R.length else numL R q := by
  unfold numL
  rw [List.findIdx?_append]
  by_cases e : q = p
  · subst e
    rw [if_pos rfl, show R.findIdx? (· == q) = none from numL_none.2 h]
    simp
  · rw [if_neg e]
    have : ([p] : List Int).findIdx? (· == q) = none := by simp [List.findIdx?_cons]; intro h; exact e h.symm
    rw [this]
    cases R.findIdx? (· == q) <;> rfl

theorem tab_snoc {R : List Int} {p : Int} (h : p ∉ R) (v : Nat → Int) (q : Int) : tab (R ++ [p]) v q = if q = p then some (v R.length) else tab R v q := by
  unfold tab
  rw [numL_snoc h]
  split <;> rfl
end Go.Proofs.Ytnacdhnnpddccaa

namespace Go.Proofs.Ytnacdhnnpddccaa
open Go.RowKit
set_option linter.unusedVariables false

theorem sub_addNew {L : List Ob} {R xs : List Int} (h1 : ∀ p ∈ R, p ∈ placesO L) (h2 : ∀ p ∈ xs, p ∈ placesO L) : ∀ p ∈ addNew R xs, p ∈ placesO L := fun p hp => by
  rcases (mem_addNew _ _ _).1 hp with h | h
  · exact h1 p h
  · exact h2 p h

theorem objsO_append (L : List Ob) (R T : List Int) : objsO L (R ++ T) = objsO L R ++ objsO L T := by unfold objsO; rw [List.filterMap_append]

theorem placeAt_left (P : Nat) (X Y : List Ob) {i : Nat} (hi : i ≤ X.length) : placeAt P (X ++ Y) i = placeAt P X i := by
  unfold placeAt
  rw [List.take_append_of_le_length hi]

/-- What was brought over stays where it is. -/
theorem placeAt_prefix {L : List Ob} {R R' : List Int} (P : Nat) (hp : R <+: R') (hs : ∀ p ∈ R, p ∈ placesO L) {i : Nat} (hi : i ≤ R.length) : placeAt P (objsO L R') i = placeAt P (objsO L R) i := by
  obtain ⟨T, rfl⟩ := hp
  rw [objsO_append, placeAt_left P _ _ (by rw [objsO_length hs]; exact hi)]

theorem goes_prefix {L : List Ob} {R R' : List Int} {P : Nat} {q : Int} (hp : R <+: R') (hs : ∀ p ∈ R, p ∈ placesO L) (hs' : ∀ p ∈ R', p ∈ placesO L) (hq : q ∈ R) : goes R' (newPlaces P (objsO L R')) q = goes R (newPlaces P (objsO L R)) q := by
  have hn : numL R' q = numL R q := by
    obtain ⟨T, rfl⟩ := hp
    obtain ⟨i, hi, h1, h2⟩ := numL_mem hq
    rw [h1]
    unfold numL at h1 ⊢
    rw [List.findIdx?_append, h1]; rfl
  unfold goes
  rw [hn]
  obtain ⟨i, hi, h1, h2⟩ := numL_mem hq
  rw [h1]
  simp only [Option.getD_some]
  have hl := hp.length_le
  rw [newPlaces_get P _ (by rw [objsO_length hs']; omega), newPlaces_get P _ (by rw [objsO_length hs]; exact hi), placeAt_prefix P hp hs (by omega)]

/-- Where the fields of an object lead, up to one. -/
def ptrsK (f : Nat → Int) (x : Ob) (k : Nat) : List Int := (List.range k).filterMap fun (k : Nat) => if x.m / P2 (k : Int) % 2 = 1 ∧ ¬ f (x.at_.toNat + 2 + k) = 0 then some (f (x.at_.toNat + 2 + k) - 1) else none

theorem ptrsK_all (f : Nat → Int) (x : Ob) : ptrsK f x x.s.toNat = ptrs f x := rfl

theorem ptrsK_yes {f : Nat → Int} {x : Ob} {k : Nat} (h : x.m / P2 (k : Int) % 2 = 1 ∧ ¬ f (x.at_.toNat + 2 + k) = 0) : ptrsK f x (k + 1) = ptrsK f x k ++ [f (x.at_.toNat + 2 + k) - 1] := by
  unfold ptrsK
  rw [List.range_succ, List.filterMap_append]
  simp only [List.filterMap_cons, List.filterMap_nil, if_pos h]

theorem ptrsK_no {f : Nat → Int} {x : Ob} {k : Nat} (h : ¬ (x.m / P2 (k : Int) % 2 = 1 ∧ ¬ f (x.at_.toNat + 2 + k) = 0)) : ptrsK f x (k + 1) = ptrsK f x k := by
  unfold ptrsK
  rw [List.range_succ, List.filterMap_append]
  simp only [List.filterMap_cons, List.filterMap_nil, if_neg h, List.append_nil]

theorem addNew_one (R : List Int) (p : Int) : addNew R [p] = if p ∈ R then R else R ++ [p] := rfl

theorem addK_yes {f : Nat → Int} {x : Ob} {k : Nat} (R : List Int) (h : x.m / P2 (k : Int) % 2 = 1 ∧ ¬ f (x.at_.toNat + 2 + k) = 0) : addNew R (ptrsK f x (k + 1)) = addNew (addNew R (ptrsK f x k)) [f (x.at_.toNat + 2 + k) - 1] := by rw [ptrsK_yes h, addNew_append]

theorem addK_no {f : Nat → Int} {x : Ob} {k : Nat} (R : List Int) (h : ¬ (x.m / P2 (k : Int) % 2 = 1 ∧ ¬ f (x.at_.toNat + 2 + k) = 0)) : addNew R (ptrsK f x (k + 1)) = addNew R (ptrsK f x k) := by rw [ptrsK_no h]

section

variable {f W : Nat → Int} {L : List Ob} {B U P H s kk : Nat} {R : List Int}

/-- A field that leads on leads to an object. -/
theorem Cop.leads (a : Cop f L B U P H) {x : Ob} (hx : x ∈ L) {k : Nat} (hk : k < x.s.toNat) (h : x.m / P2 (k : Int) % 2 = 1 ∧ ¬ f (x.at_.toNat + 2 + k) = 0) : f (x.at_.toNat + 2 + k) - 1 ∈ placesO L := by
  have h0 := a.right.size x hx
  have := succO_sub a.right.points a.right.size x.at_ (List.mem_map.mpr ⟨x, hx, rfl⟩) (f (x.at_.toNat + 2 + k) - 1)
  refine this ?_
  unfold succO
  rw [a.right.apart x hx]
  exact mem_ptrs.2 ⟨k, hk, h.1, h.2, rfl⟩

theorem Cop.word_x (a : Cop f L B U P H) {p : Int} (hp : p ∈ placesO L) : 0 ≤ p ∧ p + 2 ≤ 2 * H ∧ p ≤ 398 := by
  obtain ⟨x, hx, _, hxa⟩ := a.obj hp
  have hb := a.bounds x hx
  obtain ⟨r1, r2, r3⟩ := a.room
  omega

/-- All words of a copying are words. -/
theorem CW.words (c : CW f L P R s kk W) (a : Cop f L B U P H) : ∀ i, i < 2 * H → Word (W i) := by
  intro j hj
  obtain ⟨r1, r2, r3⟩ := a.room
  have ht := c.tot a
  by_cases hin : P ≤ j ∧ j < P + totO (objsO L R)
  · obtain ⟨i, hi, g1, g2⟩ := in_object _ _ j hin.1 hin.2
    have e1 := headsAt_get _ _ c.heads i hi
    have hiR : i < R.length := by rw [← c.len]; exact hi
    have hf := objsO_get c.sub i hiR hi
    have hx := List.mem_of_find?_eq_some hf
    have hok := a.right.ok _ hx
    have hbx := a.bounds _ hx
    obtain ⟨⟨⟨s1, s2⟩, ⟨m1, m2⟩, ⟨o1, o2⟩, ⟨t1, t2⟩⟩, m3⟩ := hok
    have hw : wordsO (objsO L R)[i] = 2 + (objsO L R)[i].s.toNat := rfl
    by_cases a1 : j = placeAt P (objsO L R) i
    · rw [a1, e1.1]; unfold packO Word; omega
    · by_cases a2 : j = placeAt P (objsO L R) i + 1
      · rw [a2, e1.2]; unfold Word; omega
      · have hk : j - (placeAt P (objsO L R) i + 2) < (objsO L R)[i].s.toNat := by omega
        have hj : j = placeAt P (objsO L R) i + 2 + (j - (placeAt P (objsO L R) i + 2)) := by omega
        have hold : Word (f ((objsO L R)[i].at_.toNat + 2 + (j - (placeAt P (objsO L R) i + 2)))) := a.word _ (by omega)
        rw [hj, c.flds i hi _ hk]
        by_cases hc : i < s ∨ (i = s ∧ j - (placeAt P (objsO L R) i + 2) < kk)
        · rw [if_pos hc]
          unfold mapF
          by_cases hb : (objsO L R)[i].m / P2 ((j - (placeAt P (objsO L R) i + 2) : Nat) : Int) % 2 = 1 ∧ ¬ f ((objsO L R)[i].at_.toNat + 2 + (j - (placeAt P (objsO L R) i + 2))) = 0
          · rw [if_pos hb]
            obtain ⟨_, q1, q2⟩ := c.goes a (c.seen i hi _ hk hc hb.1 hb.2)
            unfold Word; omega
          · rw [if_neg hb]; exact hold
        · rw [if_neg hc]; exact hold
  · by_cases hm : (j : Int) ∈ R
    · obtain ⟨_, q1, q2⟩ := c.goes a hm
      have q0 := (c.goes a hm).1
      simp only [Int.toNat_natCast] at q0
      rw [q0]; unfold Word; omega
    · rw [c.keep j hin hm]
      exact a.word j hj

/-- Whether a place was brought over is told by its word. -/
theorem CW.forward (c : CW f L P R s kk W) (a : Cop f L B U P H) {p : Int} (hp : p ∈ R) : IsRF (W p.toNat) 0 (Go.Proofs.Ytnacdhnnpddccaa.goes R (newPlaces P (objsO L R)) p) := by
  obtain ⟨q0, q1, q2⟩ := c.goes a hp
  obtain ⟨r1, r2, r3⟩ := a.room
  have ht := c.tot a
  refine .inl ⟨?_, rfl, by omega⟩
  unfold RFOk
  omega

theorem CW.noForward (c : CW f L P R s kk W) (a : Cop f L B U P H) {p : Int} (hp : p ∈ placesO L) (hn : p ∉ R) : IsRF (W p.toNat) 1 0 := by
  obtain ⟨x, hx, _, hxa⟩ := a.obj hp
  have h0 := c.old a hx (by rw [hxa]; exact hn) (k := 0) (by show 0 < 2 + x.s.toNat; omega)
  rw [Nat.add_zero, hxa] at h0
  have h1 := (a.heads x hx).1
  rw [hxa] at h1
  obtain ⟨_, _, _, h4⟩ := pack_read (a.right.ok x hx)
  refine .inr ⟨?_, rfl, rfl⟩
  rw [h0, h1]
  unfold RFOk
  omega

theorem shift_obj {W : Nat → Int} {q n : Nat} {x : Ob} (hx : ObOk x) (h1 : W q = packO x) (h2 : W (q + 1) = x.h) (hn : q + 2 + x.s.toNat ≤ n) : Good (fun j => W (q + j)) (n - q) 0 ∧ W (q + 0) / 2 % 16 = x.s ∧ W (q + 0) / 32 % 4096 = x.m ∧ W (q + 0) / 131072 = x.o ∧ W (q + 1) = x.h ∧ szOf (fun j => W (q + j)) 0 = x.s.toNat := by
  obtain ⟨a1, a2, a3, a4⟩ := pack_read hx
  have hw : wordsO x = 2 + x.s.toNat := rfl
  have g := head_good (g := fun j => W (q + j)) (P := 0) (e := n - q) hx h1 h2 (by omega)
  have z := head_size (g := fun j => W (q + j)) (P := 0) hx h1
  refine ⟨g, ?_, ?_, ?_, h2, z⟩ <;> (rw [Nat.add_zero, h1]; assumption)

/-- The object that is looked through next. -/
theorem CW.look (c : CW f L P R s kk W) (a : Cop f L B U P H) (hs : s < R.length) : ∃ x, x ∈ L ∧ findO L R[s] = some x ∧ (objsO L R)[s]? = some x ∧ placeAt P (objsO L R) (s + 1) = placeAt P (objsO L R) s + 2 + x.s.toNat ∧ P ≤ placeAt P (objsO L R) s ∧ placeAt P (objsO L R) s + 2 + x.s.toNat ≤ P + totO (objsO L R) ∧
    W (placeAt P (objsO L R) s) = packO x ∧ W (placeAt P (objsO L R) s + 1) = x.h ∧ ∀ k, kk ≤ k → k < x.s.toNat → W (placeAt P (objsO L R) s + 2 + k) = f (x.at_.toNat + 2 + k) := by
  have hsl : s < (objsO L R).length := by rw [c.len]; exact hs
  have hf := objsO_get c.sub s hs hsl
  have he := placeAt_end P (objsO L R) hsl
  have hst := placeAt_step P (objsO L R) hsl
  have hw : wordsO (objsO L R)[s] = 2 + (objsO L R)[s].s.toNat := rfl
  have hh := headsAt_get _ _ c.heads s hsl
  refine ⟨(objsO L R)[s], List.mem_of_find?_eq_some hf, hf, List.getElem?_eq_getElem hsl, by omega, by unfold placeAt; omega, by omega, hh.1, hh.2, fun k h1 h2 => ?_⟩
  rw [c.flds s hsl k h2, if_neg (by omega)]

/-- The arena of a copying. -/
theorem CW.isOI (c : CW f L P R s kk W) {h : Int} {n : Nat} {ac bu : Int} (hk : IsSF h n f ac bu 0) (ho : IsOI h n f ac bu 0 L) (hP : P = (baseI (1 - ac) h).toNat) : IsOI h n W (1 - ac) (totO (objsO L R) : Int) 0 (moved P (objsO L R)) := by
  have a := cop_of hk ho
  rw [← hP] at a
  obtain ⟨⟨⟨q1, q2⟩, ⟨q3, q4⟩, q5, q6⟩, qn, qw⟩ := isFault_ok (isOI_zero ho).1
  have ht := c.tot a
  have hw := c.words a
  refine isOI_of (.inr (.inr (.inr ⟨⟨⟨q1, q2⟩, ⟨by omega, by omega⟩, by omega, by omega⟩, qn, fun i hi => hw i (by omega), rfl⟩))) ?_
  rw [← hP, Int.toNat_natCast]
  exact parse_heads _ _ (col_ok a.right) c.heads

end

/-- What stands of a copying: what was brought over, how many roots were seen, how many were looked through. -/
structure GT where
  R : List Int
  nx : Nat
  s : Nat

def gstep (succ : Int → List Int) (roots : List Int) (t : GT) : GT :=
  if t.nx < roots.length then ⟨addNew t.R [lf roots t.nx], t.nx + 1, t.s⟩ else if t.s < t.R.length then ⟨addNew t.R (succ (lf t.R t.s)), t.nx, t.s + 1⟩ else t

def gst (succ : Int → List Int) (roots : List Int) : Nat → GT
  | 0 => ⟨[], 0, 0⟩
  | n + 1 => gstep succ roots (gst succ roots n)

structure GI (L : List Ob) (roots : List Int) (t : GT) : Prop where
  sub : ∀ p ∈ t.R, p ∈ placesO L
  nodup : t.R.Nodup
  nx : t.nx ≤ roots.length
  s : t.s ≤ t.R.length
  seen : ∀ i, i < t.nx → lf roots i ∈ t.R

theorem GI.len {L : List Ob} {roots : List Int} {t : GT} (h : GI L roots t) : t.R.length ≤ L.length := by
  have := nodup_length h.nodup h.sub
  simpa [placesO] using this

theorem gi_init (L : List Ob) (roots : List Int) : GI L roots ⟨[], 0, 0⟩ := ⟨fun p hp => (by cases hp), List.nodup_nil, Nat.zero_le _, Nat.zero_le _, fun i hi => absurd hi (Nat.not_lt_zero _)⟩

theorem GI.step {L : List Ob} {roots : List Int} {t : GT} {succ : Int → List Int} (h : GI L roots t) (hr : ∀ p ∈ roots, p ∈ placesO L) (hs : ∀ p ∈ placesO L, ∀ y ∈ succ p, y ∈ placesO L) : GI L roots (gstep succ roots t) := by
  unfold gstep
  by_cases h1 : t.nx < roots.length
  · rw [if_pos h1]
    have hp := addNew_prefix [lf roots t.nx] t.R
    refine ⟨sub_addNew h.sub fun p hp => ?_, nodup_addNew _ _ h.nodup, h1, Nat.le_trans h.s hp.length_le, fun i hi => ?_⟩
    · simp only [List.mem_singleton] at hp; subst hp; exact hr _ (lf_mem h1)
    · by_cases e : i = t.nx
      · subst e; exact (mem_addNew _ _ _).2 (.inr (by simp))
      · have hi' : i < t.nx + 1 := hi
        exact hp.subset (h.seen i (by omega))
  · rw [if_neg h1]
    by_cases h2 : t.s < t.R.length
    · rw [if_pos h2]
      have hp := addNew_prefix (succ (lf t.R t.s)) t.R
      refine ⟨sub_addNew h.sub (hs _ (h.sub _ (lf_mem h2))), nodup_addNew _ _ h.nodup, h.nx, ?_, fun i hi => hp.subset (h.seen i hi)⟩
      have := hp.length_le
      show t.s + 1 ≤ (addNew t.R (succ (lf t.R t.s))).length
      omega
    · rw [if_neg h2]; exact h

theorem gst_gi {L : List Ob} {roots : List Int} {succ : Int → List Int} (hr : ∀ p ∈ roots, p ∈ placesO L) (hs : ∀ p ∈ placesO L, ∀ y ∈ succ p, y ∈ placesO L) : ∀ n, GI L roots (gst succ roots n)
  | 0 => gi_init L roots
  | n + 1 => (gst_gi hr hs n).step hr hs
end Go.Proofs.Ytnacdhnnpddccaa

