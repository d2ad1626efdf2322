/- Texts merged: X9 to FC1. -/
import Derived.Test.YtbhjmomphajnnaaPCO5
import Derived.Deep.RegionWith
import Derived.DeepKeys4
import Derived.WideKeyArgs2
import Derived.Laws.EntriesVeiled
import Derived.Deep.MidRow
namespace Go.Proofs.Ytbhjmomphajnnaa
open Go.RowKit Go.Maps
set_option linter.unusedVariables false

theorem implCol_any (h ac bu : Int) (a : Option Addr) (n c : Nat) (f : Nat → Int) (ra : Option Addr) (roots : List Int) (rc : Nat) (co : Int) (L : List Ob) (r : CR) (w : World) (hs : Src w a n f) (hcn : n ≤ c) (hcm : c ≤ maxLen) (hrs : Src w ra roots.length (lf roots)) (hk : IsAsk h n f ac bu roots co L) (hr : IsCR h n f ac bu roots co L r) :
    Calls Try.prog 12 #[.agg #[.int .i64 h, .slice a n c, .int .i64 ac, .int .i64 bu], .slice ra roots.length rc] w (RetCR w r) := by
  rcases hr with ⟨h0, rfl⟩ | ⟨rfl, g, hg, rfl⟩
  · exact implCol_code h ac bu a n c f ra roots rc co L w hs hcn hcm hrs hk h0
  · obtain ⟨h1, h2, h3, h4⟩ := isAsk_zero hk
    obtain ⟨⟨⟨g1, g2⟩, _⟩, gn, _⟩ := isFault_ok (isOI_zero h2).1
    obtain ⟨m, rfl⟩ : ∃ m : Nat, h = (m : Int) := ⟨h.toNat, by omega⟩
    obtain rfl : n = 2 * m := by omega
    exact implCol_ok m ac bu a c f ra roots rc L w hs hcn hcm hrs h1 h2 h3 h4 g hg

set_option maxRecDepth 100000 in
set_option maxHeartbeats 1600000 in
theorem specCol_code (h ac bu : Int) (a : Option Addr) (n c : Nat) (f : Nat → Int) (ra : Option Addr) (roots : List Int) (rc : Nat) (co : Int) (L : List Ob) (w : World) (hs : Src w a n f) (hcn : n ≤ c) (hcm : c ≤ maxLen) (hrs : Src w ra roots.length (lf roots)) (hk : IsAsk h n f ac bu roots co L) (h0 : ¬ co = 0) :
    Calls Try.prog 13 #[.agg #[.int .i64 h, .slice a n c, .int .i64 ac, .int .i64 bu], .slice ra roots.length rc] w (RetCR w (errCR co)) := by
  have hd : (co != 0) = true := by simpa using h0
  have HS := Lib.hid hs; have HK := Lib.hid hk; have HCM := Lib.hid hcm; have HRS := Lib.hid hrs; have H0 := Lib.hid h0
  have A_0 := Lib.hid ((Blk.new_at (w := w) (cs := #[.int .i64 h, .slice a n c, .int .i64 ac, .int .i64 bu]) (t := 26) w.heap.size rfl).alloc (.cells #[.int .i64 0, .int .i64 0, .slice none 0 0, .int .i64 0, .int .i64 0, .slice none 0 0, .int .i64 0] 30))
  have R_0 := Lib.hid (Blk.new_at (w := w.alloc (.cells #[.int .i64 h, .slice a n c, .int .i64 ac, .int .i64 bu] 26)) (cs := #[.int .i64 0, .int .i64 0, .slice none 0 0, .int .i64 0, .int .i64 0, .slice none 0 0, .int .i64 0]) (t := 30) (w.heap.size + 1) (by simp))
  have HB0 := Lib.hid (((Below.refl w.heap.size w).alloc (Nat.le_refl _) (.cells #[.int .i64 h, .slice a n c, .int .i64 ac, .int .i64 bu] 26)).alloc (by simp) (.cells #[.int .i64 0, .int .i64 0, .slice none 0 0, .int .i64 0, .int .i64 0, .slice none 0 0, .int .i64 0] 30))
  have z0 : w.heap.size + 2 ≤ ((w.alloc (.cells #[.int .i64 h, .slice a n c, .int .i64 ac, .int .i64 bu] 26)).alloc (.cells #[.int .i64 0, .int .i64 0, .slice none 0 0, .int .i64 0, .int .i64 0, .slice none 0 0, .int .i64 0] 30)).heap.size := by simp
  clear hs hk hcm hrs h0
  go_enter Try.func13, Try.ntmps13
  go_wp2_with fail
  generalize (w.alloc (.cells #[.int .i64 h, .slice a n c, .int .i64 ac, .int .i64 bu] 26)).alloc (.cells #[.int .i64 0, .int .i64 0, .slice none 0 0, .int .i64 0, .int .i64 0, .slice none 0 0, .int .i64 0] 30) = w0 at *
  refine (l4Ask_any w.heap.size h ac bu a n c f ra roots rc co L _ A_0.out (HS.out.below HB0.out) hcn HCM.out (HRS.out.below HB0.out) HK.out).mono ?_
  rintro e w1 ⟨hb, hr⟩
  have HB1 := Lib.hid (HB0.out.trans (hb.mono HB0.out.size))
  have R_1 := Lib.hid (R_0.out.below hb)
  have z1 := hb.size
  clear hb
  rcases hr with ⟨_, rfl⟩ | ⟨h0, _⟩
  · have lR := R_1.out.1; have cR0 := R_1.out.at 0 rfl; have cR1 := R_1.out.at 1 rfl; have cR2 := R_1.out.at 2 rfl; have cR3 := R_1.out.at 3 rfl; have cR4 := R_1.out.at 4 rfl; have cR5 := R_1.out.at 5 rfl; have cR6 := R_1.out.at 6 rfl; have fR0 := R_1.out.free 0 rfl; have fR1 := R_1.out.free 1 rfl; have fR2 := R_1.out.free 2 rfl; have fR3 := R_1.out.free 3 rfl; have fR4 := R_1.out.free 4 rfl; have fR5 := R_1.out.free 5 rfl; have fR6 := R_1.out.free 6 rfl
    go_wp2
    refine bodyPost_ret (v := .agg #[.int .i64 co, .int .i64 0, .slice none 0 0, .int .i64 0, .int .i64 0, .slice none 0 0, .int .i64 0]) (by simp [results, Try.results13, go_sem, cR0, cR1, cR2, cR3, cR4, cR5, cR6]) rfl ⟨none, 0, none, 0, w1.heap.size, rfl, .inl rfl, .inl rfl, by omega, by simp, ?_, fun h => absurd h H0.out⟩
    repeat (first | (with_reducible refine Below.setCell ?_ (by (try simp); (try omega)) _) | (with_reducible refine Below.alloc ?_ (by (try simp); (try omega)) _) | (with_reducible refine Below.drew ?_))
    exact HB1.out
  · exact absurd h0 H0.out

set_option maxRecDepth 100000 in
set_option maxHeartbeats 1600000 in
theorem specCol_ok (m : Nat) (ac bu : Int) (a : Option Addr) (c : Nat) (f : Nat → Int) (ra : Option Addr) (roots : List Int) (rc : Nat) (L : List Ob) (w : World) (hs : Src w a (2 * m) f) (hcn : 2 * m ≤ c) (hcm : c ≤ maxLen) (hrs : Src w ra roots.length (lf roots)) (hk : IsSF (m : Int) (2 * m) f ac bu 0) (ho : IsOI (m : Int) (2 * m) f ac bu 0 L) (h60 : roots.length ≤ 60) (hall : ∀ p ∈ roots, p ∈ placesO L) (g0 : Nat → Int) (hg0 : IsCol f L (reachO f L roots) (baseI (1 - ac) (m : Int)).toNat g0) :
    Calls Try.prog 13 #[.agg #[.int .i64 (m : Int), .slice a (2 * m) c, .int .i64 ac, .int .i64 bu], .slice ra roots.length rc] w (RetCR w ⟨0, (m : Int), 2 * m, g0, 1 - ac, (totO (objsO L (reachO f L roots)) : Int), roots.map (goes (reachO f L roots) (newPlaces (baseI (1 - ac) (m : Int)).toNat (objsO L (reachO f L roots)))), (totO (objsO L (reachO f L roots)) : Int)⟩) := by
  have HS := Lib.hid hs; have HK := Lib.hid hk; have HO := Lib.hid ho; have HCM := Lib.hid hcm; have HRS := Lib.hid hrs; have HALL := Lib.hid hall; have HG0 := Lib.hid hg0
  have HKA : Hid (IsAsk (m : Int) (2 * m) f ac bu roots 0 L) := Lib.hid (.inr (.inr (.inr ⟨hk, ho, h60, hall, rfl⟩)))
  have A_0 := Lib.hid ((Blk.new_at (w := w) (cs := #[.int .i64 (m : Int), .slice a (2 * m) c, .int .i64 ac, .int .i64 bu]) (t := 26) w.heap.size rfl).alloc (.cells #[.int .i64 0, .int .i64 0, .slice none 0 0, .int .i64 0, .int .i64 0, .slice none 0 0, .int .i64 0] 30))
  have R_0 := Lib.hid (Blk.new_at (w := w.alloc (.cells #[.int .i64 (m : Int), .slice a (2 * m) c, .int .i64 ac, .int .i64 bu] 26)) (cs := #[.int .i64 0, .int .i64 0, .slice none 0 0, .int .i64 0, .int .i64 0, .slice none 0 0, .int .i64 0]) (t := 30) (w.heap.size + 1) (by simp))
  have HB0 := Lib.hid (((Below.refl w.heap.size w).alloc (Nat.le_refl _) (.cells #[.int .i64 (m : Int), .slice a (2 * m) c, .int .i64 ac, .int .i64 bu] 26)).alloc (by simp) (.cells #[.int .i64 0, .int .i64 0, .slice none 0 0, .int .i64 0, .int .i64 0, .slice none 0 0, .int .i64 0] 30))
  have z0 : w.heap.size + 2 ≤ ((w.alloc (.cells #[.int .i64 (m : Int), .slice a (2 * m) c, .int .i64 ac, .int .i64 bu] 26)).alloc (.cells #[.int .i64 0, .int .i64 0, .slice none 0 0, .int .i64 0, .int .i64 0, .slice none 0 0, .int .i64 0] 30)).heap.size := by simp
  clear hs hk ho hcm hrs hall hg0
  obtain ⟨RM, hRM⟩ : ∃ R, reachO f L roots = R := ⟨_, rfl⟩
  obtain ⟨X, hX⟩ : ∃ X, objsO L RM = X := ⟨_, rfl⟩
  obtain ⟨P, hP⟩ : ∃ P, (baseI (1 - ac) (m : Int)).toNat = P := ⟨_, rfl⟩
  have HRM := Lib.hid hRM; have HX := Lib.hid hX; have HPP := Lib.hid hP
  rw [hRM, hX, hP]
  rw [hRM, hP] at HG0
  clear hRM hX hP
  go_enter Try.func13, Try.ntmps13
  go_wp2_with fail
  generalize (w.alloc (.cells #[.int .i64 (m : Int), .slice a (2 * m) c, .int .i64 ac, .int .i64 bu] 26)).alloc (.cells #[.int .i64 0, .int .i64 0, .slice none 0 0, .int .i64 0, .int .i64 0, .slice none 0 0, .int .i64 0] 30) = w0 at *
  refine (l4Ask_any w.heap.size (m : Int) ac bu a (2 * m) c f ra roots rc 0 L _ A_0.out (HS.out.below HB0.out) hcn HCM.out (HRS.out.below HB0.out) HKA.out).mono ?_
  rintro e w1 ⟨hb, hr⟩
  have HB1 := Lib.hid (HB0.out.trans (hb.mono HB0.out.size))
  have R_1 := Lib.hid (R_0.out.below hb); have A_1 := Lib.hid (A_0.out.below hb)
  have z1 := hb.size
  clear hb
  rcases hr with ⟨h0, _⟩ | ⟨_, v, M, a1, c1, hL, rfl, hm, ho1, h11, h12⟩
  · exact absurd rfl h0
  clear hL hm ho1 h11 h12
  go_wp2_with fail
  refine (l4Collect_any w.heap.size m ac bu a c f ra roots rc L _ A_1.out (HS.out.below HB1.out) hcn HCM.out (HRS.out.below HB1.out) HK.out HO.out h60 HALL.out).mono ?_
  rw [HRM.out, HX.out, HPP.out]
  rintro e w2 ⟨a2, c2, ra2, rc2, mid, g, rfl, hcol, how, hor, hmid1, hmid2, hb, hcc1, hcc2⟩
  have HB2 := Lib.hid (HB1.out.trans (hb.mono HB1.out.size))
  have R_2 := Lib.hid (R_1.out.below hb)
  have HCOL := Lib.hid hcol
  have HW2 := Lib.hid (how.congr (fun k _ => isCol_same hcol HG0.out k))
  have HR2 := Lib.hid hor
  have HCC := Lib.hid (And.intro hcc1 hcc2)
  have z2 := hb.size
  clear hb hcol how hor hcc1 hcc2
  have R_3 := Lib.hid (R_2.out.alloc (.cells #[.int .i64 (m : Int), .slice a2 (2 * m) c2, .int .i64 (1 - ac), .int .i64 (totO X : Int)] 26))
  have C_3 := Lib.hid (Blk.new_at (w := w2) (cs := #[.int .i64 (m : Int), .slice a2 (2 * m) c2, .int .i64 (1 - ac), .int .i64 (totO X : Int)]) (t := 26) w2.heap.size rfl)
  have HB3 := Lib.hid (HB2.out.alloc HB2.out.size (.cells #[.int .i64 (m : Int), .slice a2 (2 * m) c2, .int .i64 (1 - ac), .int .i64 (totO X : Int)] 26))
  have HW3 := Lib.hid (HW2.out.alloc (.cells #[.int .i64 (m : Int), .slice a2 (2 * m) c2, .int .i64 (1 - ac), .int .i64 (totO X : Int)] 26))
  have HR3 := Lib.hid (HR2.out.alloc (.cells #[.int .i64 (m : Int), .slice a2 (2 * m) c2, .int .i64 (1 - ac), .int .i64 (totO X : Int)] 26))
  have z3 : w2.heap.size + 1 = (w2.alloc (.cells #[.int .i64 (m : Int), .slice a2 (2 * m) c2, .int .i64 (1 - ac), .int .i64 (totO X : Int)] 26)).heap.size := by simp
  go_upto_region 5 with (fail)
  generalize w2.alloc (.cells #[.int .i64 (m : Int), .slice a2 (2 * m) c2, .int .i64 (1 - ac), .int .i64 (totO X : Int)] 26) = w3 at *
  have lR := R_3.out.1; have cR0 := R_3.out.at 0 rfl; have cR1 := R_3.out.at 1 rfl; have cR2 := R_3.out.at 2 rfl; have cR3 := R_3.out.at 3 rfl; have cR4 := R_3.out.at 4 rfl; have cR5 := R_3.out.at 5 rfl; have cR6 := R_3.out.at 6 rfl; have fR0 := R_3.out.free 0 rfl; have fR1 := R_3.out.free 1 rfl; have fR2 := R_3.out.free 2 rfl; have fR3 := R_3.out.free 3 rfl; have fR4 := R_3.out.free 4 rfl; have fR5 := R_3.out.free 5 rfl; have fR6 := R_3.out.free 6 rfl
  have lC := C_3.out.1; have cC0 := C_3.out.at 0 rfl; have cC1 := C_3.out.at 1 rfl; have cC2 := C_3.out.at 2 rfl; have cC3 := C_3.out.at 3 rfl
  go_wp2
  refine bodyPost_ret (v := .agg #[.int .i64 0, .int .i64 (m : Int), .slice a2 (2 * m) c2, .int .i64 (1 - ac), .int .i64 (totO X : Int), .slice ra2 roots.length rc2, .int .i64 (totO X : Int)]) (by simp [results, Try.results13, go_sem, cR0, cR1, cR2, cR3, cR4, cR5, cR6]) rfl ⟨a2, c2, ra2, rc2, mid, by simp, ?_, ?_, by omega, by simp; omega, ?_, fun _ => HCC.out⟩
  · refine OwnIn.widen (lo := w1.heap.size) (hi := mid) ?_ (by omega) (Nat.le_refl _)
    repeat (with_reducible refine OwnIn.setCell ?_ (.inl (by show w.heap.size + 1 < w1.heap.size; omega)) _)
    exact HW3.out
  · show OwnIn _ mid _ ra2 (roots.map (goes RM (newPlaces P X))).length _
    rw [List.length_map]
    refine OwnIn.widen (lo := mid) (hi := w2.heap.size) ?_ (Nat.le_refl _) (by simp; omega)
    repeat (with_reducible refine OwnIn.setCell ?_ (.inl (by show w.heap.size + 1 < mid; omega)) _)
    exact HR3.out
  · repeat (first | (with_reducible refine Below.setCell ?_ (by (try simp); (try omega)) _) | (with_reducible refine Below.alloc ?_ (by (try simp); (try omega)) _) | (with_reducible refine Below.drew ?_))
    exact HB3.out

theorem specCol_any (h ac bu : Int) (a : Option Addr) (n c : Nat) (f : Nat → Int) (ra : Option Addr) (roots : List Int) (rc : Nat) (co : Int) (L : List Ob) (r : CR) (w : World) (hs : Src w a n f) (hcn : n ≤ c) (hcm : c ≤ maxLen) (hrs : Src w ra roots.length (lf roots)) (hk : IsAsk h n f ac bu roots co L) (hr : IsCR h n f ac bu roots co L r) :
    Calls Try.prog 13 #[.agg #[.int .i64 h, .slice a n c, .int .i64 ac, .int .i64 bu], .slice ra roots.length rc] w (RetCR w r) := by
  rcases hr with ⟨h0, rfl⟩ | ⟨rfl, g, hg, rfl⟩
  · exact specCol_code h ac bu a n c f ra roots rc co L w hs hcn hcm hrs hk h0
  · obtain ⟨h1, h2, h3, h4⟩ := isAsk_zero hk
    obtain ⟨⟨⟨g1, g2⟩, _⟩, gn, _⟩ := isFault_ok (isOI_zero h2).1
    obtain ⟨m, rfl⟩ : ∃ m : Nat, h = (m : Int) := ⟨h.toNat, by omega⟩
    obtain rfl : n = 2 * m := by omega
    exact specCol_ok m ac bu a c f ra roots rc L w hs hcn hcm hrs h1 h2 h3 h4 g hg
end Go.Proofs.Ytbhjmomphajnnaa

namespace Go.Proofs.Ytbhjmomphajnnaa
open Go.RowKit Go.Maps
set_option linter.unusedVariables false

theorem numI_inj {R R' : List Int} {v w : Int} : numI R v = numI R' w ↔ numL R v = numL R' w := by
  unfold numI
  cases h1 : numL R v with
  | none =>
    cases h2 : numL R' w with
    | none => simp
    | some j => simp
  | some i =>
    cases h2 : numL R' w with
    | none => simp
    | some j => simp; omega

/-- Two objects are alike, by what is reached. -/
def ObAlike (f : Nat → Int) (R : List Int) (x : Ob) (g : Nat → Int) (R' : List Int) (y : Ob) : Prop :=
  (x.s = y.s ∧ x.m = y.m ∧ x.o = y.o ∧ x.h = y.h) ∧ ∀ k : Nat, k < x.s.toNat → FldAlike R R' (x.m / P2 (k : Int) % 2 = 1) (f (x.at_.toNat + 2 + k)) (g (y.at_.toNat + 2 + k))

def idV : Nat → Int := fun i => (i : Int)

theorem tab_num {R : List Int} {p : Int} (h : p ∈ R) : ∃ i, numL R p = some i ∧ (tab R idV p).getD 0 = (i : Int) := by
  obtain ⟨i, h1, _, _⟩ := numL_some h
  exact ⟨i, h1, by unfold tab; rw [h1]; rfl⟩

theorem tab_num_eq {R R' : List Int} {p q : Int} (h : p ∈ R) (h' : q ∈ R') : (tab R idV p).getD 0 = (tab R' idV q).getD 0 ↔ numL R p = numL R' q := by
  obtain ⟨i, h1, h2⟩ := tab_num h
  obtain ⟨j, h3, h4⟩ := tab_num h'
  rw [h1, h2, h3, h4]
  constructor
  · intro e; rw [show i = j by omega]
  · intro e; rw [Option.some.inj e]

theorem fld_iff {R R' : List Int} {bit : Prop} [Decidable bit] {v w : Int} (h1 : bit → ¬ v = 0 → v - 1 ∈ R) (h2 : bit → ¬ w = 0 → w - 1 ∈ R') :
    (if bit ∧ ¬ v = 0 then (tab R idV (v - 1)).getD 0 + 1 else v) = (if bit ∧ ¬ w = 0 then (tab R' idV (w - 1)).getD 0 + 1 else w) ↔ FldAlike R R' bit v w := by
  unfold FldAlike
  by_cases hb : bit
  · by_cases hv : v = 0
    · by_cases hw : w = 0
      · rw [if_neg (fun h => h.2 hv), if_neg (fun h => h.2 hw)]
        exact ⟨fun _ => ⟨fun _ => ⟨by omega, fun h => absurd hv h⟩, fun h => absurd hb h⟩, fun _ => by omega⟩
      · rw [if_neg (fun h => h.2 hv), if_pos ⟨hb, hw⟩]
        obtain ⟨j, _, h4⟩ := tab_num (h2 hb hw)
        rw [h4]
        exact ⟨fun e => by omega, fun h => absurd ((h.1 hb).1.1 hv) hw⟩
    · by_cases hw : w = 0
      · rw [if_pos ⟨hb, hv⟩, if_neg (fun h => h.2 hw)]
        obtain ⟨j, _, h4⟩ := tab_num (h1 hb hv)
        rw [h4]
        exact ⟨fun e => by omega, fun h => absurd ((h.1 hb).1.2 hw) hv⟩
      · rw [if_pos ⟨hb, hv⟩, if_pos ⟨hb, hw⟩]
        have h9 := tab_num_eq (h1 hb hv) (h2 hb hw)
        constructor
        · intro e
          exact ⟨fun _ => ⟨by omega, fun _ => h9.1 (by omega)⟩, fun h => absurd hb h⟩
        · intro h
          have := h9.2 ((h.1 hb).2 hv)
          omega
  · rw [if_neg (fun h => hb h.1), if_neg (fun h => hb h.1)]
    exact ⟨fun e => ⟨fun h => absurd h hb, fun _ => e⟩, fun h => h.2 hb⟩

theorem alike_obj {f g : Nat → Int} {L L' : List Ob} {ra rb : List Int} : AlikeO f L ra g L' rb ↔ ra.length = rb.length ∧ (reachO f L ra).length = (reachO g L' rb).length ∧ (∀ i, i < (reachO f L ra).length → ∃ x y, findO L (lf (reachO f L ra) i) = some x ∧ findO L' (lf (reachO g L' rb) i) = some y ∧ ObAlike f (reachO f L ra) x g (reachO g L' rb) y) ∧ ∀ i, i < ra.length → numL (reachO f L ra) (lf ra i) = numL (reachO g L' rb) (lf rb i) := by
  constructor
  · intro h
    refine ⟨h.rlen, h.len, fun i hi => ?_, h.roots⟩
    obtain ⟨x, y, h1, h2, h3, h4⟩ := h.obj i hi
    exact ⟨x, y, h1, h2, h3, h4⟩
  · rintro ⟨h1, h2, h3, h4⟩
    refine ⟨h1, h2, fun i hi => ?_, h4⟩
    obtain ⟨x, y, e1, e2, e3, e4⟩ := h3 i hi
    exact ⟨x, y, e1, e2, e3, e4⟩

theorem find_exact (v : Value) (M : List OM) (base lo : Nat) (f : Nat → Int) (y : Int) (x : Ob) (j : Nat) (w : World) (hm : OMS w base lo f v M) (hap : ∀ x ∈ M.map OM.x, findO (M.map OM.x) x.at_ = some x) (hf : findO (M.map OM.x) y = some x) (hj : (M.map OM.x)[j]? = some x) (hnd : (placesO (M.map OM.x)).Nodup) :
    Calls Try.prog 72 #[v, .int .i64 y] w fun e w' => e = .returned (.int .i64 (j : Int)) ∧ w = w' := by
  refine (hm.find y).mono ?_
  rintro e w' ⟨rfl, hr⟩
  rcases hr with ⟨h1, _⟩ | ⟨i, x', h1, h2, rfl⟩
  · rw [hf] at h1; cases h1
  · rw [hf] at h1
    obtain rfl := Option.some.inj h1
    have hi := (List.getElem?_eq_some_iff.mp h2).1
    have hj' := (List.getElem?_eq_some_iff.mp hj).1
    have e : (placesO (M.map OM.x))[i]? = (placesO (M.map OM.x))[j]? := by unfold placesO; rw [List.getElem?_map (f := Ob.at_) (l := M.map OM.x), List.getElem?_map (f := Ob.at_) (l := M.map OM.x), h2, hj]
    rw [List.getElem?_eq_getElem (by simpa [placesO] using hi), List.getElem?_eq_getElem (by simpa [placesO] using hj')] at e
    have := (List.getElem_inj hnd).mp (Option.some.inj e)
    subst this
    exact ⟨rfl, rfl⟩

/-- What lies of an object amid a list, for the comparison. -/
structure ObM (w : World) (g1 o g : Nat) (c : Nat) (f : Nat → Int) (x : Ob) : Prop where
  lt : g1 < w.heap.size
  c1 : w.cell? ⟨g1, o + 1, none⟩ = some (.int .i64 x.s)
  c2 : w.cell? ⟨g1, o + 2, none⟩ = some (.int .i64 x.m)
  c3 : w.cell? ⟨g1, o + 3, none⟩ = some (.int .i64 x.o)
  c4 : w.cell? ⟨g1, o + 4, none⟩ = some (.int .i64 x.h)
  c5 : w.cell? ⟨g1, o + 5, none⟩ = some (.slice (some ⟨g, 0, none⟩) x.s.toNat c)
  lg : g < w.heap.size
  fl : ∀ k, k < x.s.toNat → w.cell? ⟨g, k, none⟩ = some (.int .i64 (f (x.at_.toNat + 2 + k)))

theorem ObM.below {w w' : World} {g1 o g c : Nat} {f : Nat → Int} {x : Ob} (h : ObM w g1 o g c f x) (hb : Below w.heap.size w w') : ObM w' g1 o g c f x := by
  have hz := hb.size
  exact ⟨Nat.lt_of_lt_of_le h.lt hz, (hb.cell (p := ⟨g1, o + 1, none⟩) h.lt).trans h.c1, (hb.cell (p := ⟨g1, o + 2, none⟩) h.lt).trans h.c2, (hb.cell (p := ⟨g1, o + 3, none⟩) h.lt).trans h.c3, (hb.cell (p := ⟨g1, o + 4, none⟩) h.lt).trans h.c4, (hb.cell (p := ⟨g1, o + 5, none⟩) h.lt).trans h.c5, Nat.lt_of_lt_of_le h.lg hz, fun k hk => (hb.cell (p := ⟨g, k, none⟩) h.lg).trans (h.fl k hk)⟩

set_option maxRecDepth 100000 in
set_option maxHeartbeats 1600000 in
theorem l4Alike_head (g1 o1 e1 k1 g2 o2 e2 k2 : Nat) (f g : Nat → Int) (x y : Ob) (a a' : Option Addr) (R R' : List Int) (c c' : Nat) (w : World) (hx : ObM w g1 o1 e1 k1 f x) (hy : ObM w g2 o2 e2 k2 g y) (hh : ¬ (x.s = y.s ∧ x.m = y.m ∧ x.o = y.o ∧ x.h = y.h)) :
    Calls Try.prog 71 #[.pointer (some ⟨g1, o1, none⟩), .slice a R.length c, .pointer (some ⟨g2, o2, none⟩), .slice a' R'.length c'] w fun e w' => e = .returned (.bool false) ∧ ∃ q, w' = w.drewN q := by
  have HX := Lib.hid hx; have HY := Lib.hid hy; have HH := Lib.hid hh
  have lx := hx.lt; have x1 := hx.c1; have x2 := hx.c2; have x3 := hx.c3; have x4 := hx.c4
  have ly := hy.lt; have y1 := hy.c1; have y2 := hy.c2; have y3 := hy.c3; have y4 := hy.c4
  clear hx hy hh HX HY
  by_cases h1 : x.s = y.s
  · by_cases h2 : x.m = y.m
    · by_cases h3 : x.o = y.o
      · have h4 : ¬ x.h = y.h := fun h4 => HH.out ⟨h1, h2, h3, h4⟩
        rw [← h1] at y1; rw [← h2] at y2; rw [← h3] at y3
        have hb : (x.h == y.h) = false := by simpa using h4
        clear h1 h2 h3 h4
        go_enter Try.func71, Try.ntmps71
        go_wp2
        go_quiet (fail)
        go_wp2
        go_ret
        exact ⟨rfl, _, rfl⟩
      · rw [← h1] at y1; rw [← h2] at y2
        have hb : (x.o == y.o) = false := by simpa using h3
        clear h1 h2 h3
        go_enter Try.func71, Try.ntmps71
        go_wp2
        go_quiet (fail)
        go_wp2
        go_ret
        exact ⟨rfl, _, rfl⟩
    · rw [← h1] at y1
      have hb : (x.m == y.m) = false := by simpa using h2
      clear h1 h2
      go_enter Try.func71, Try.ntmps71
      go_wp2
      go_quiet (fail)
      go_wp2
      go_ret
      exact ⟨rfl, _, rfl⟩
  · have hb : (x.s == y.s) = false := by simpa using h1
    clear h1
    go_enter Try.func71, Try.ntmps71
    go_wp2
    go_quiet (fail)
    go_wp2
    go_ret
    exact ⟨rfl, _, rfl⟩
end Go.Proofs.Ytbhjmomphajnnaa

namespace Go.Proofs.Ytbhjmomphajnnaa
open Go.RowKit Go.Maps
set_option linter.unusedVariables false

set_option maxRecDepth 100000 in
set_option maxHeartbeats 3200000 in
theorem l4Alike_same (g1 o1 e1 k1 g2 o2 e2 k2 : Nat) (f g : Nat → Int) (x y : Ob) (a a' : Option Addr) (R R' : List Int) (c c' : Nat) (r : Bool) (w : World) (hx : ObM w g1 o1 e1 k1 f x) (hy : ObM w g2 o2 e2 k2 g y) (s1 : Src w a R.length (lf R)) (s2 : Src w a' R'.length (lf R')) (hl : R.length ≤ 400) (hl' : R'.length ≤ 400)
    (hs : x.s = y.s) (hm : x.m = y.m) (ho : x.o = y.o) (hh : x.h = y.h) (hxs : 0 ≤ x.s ∧ x.s ≤ 12) (hxm : 0 ≤ x.m ∧ x.m ≤ 4095) (hwx : ∀ k, k < x.s.toNat → -1000000000 ≤ f (x.at_.toNat + 2 + k) ∧ f (x.at_.toNat + 2 + k) ≤ 1000000000) (hwy : ∀ k, k < x.s.toNat → -1000000000 ≤ g (y.at_.toNat + 2 + k) ∧ g (y.at_.toNat + 2 + k) ≤ 1000000000)
    (hr : r = true ↔ ∀ k : Nat, k < x.s.toNat → FldAlike R R' (x.m / P2 (k : Int) % 2 = 1) (f (x.at_.toNat + 2 + k)) (g (y.at_.toNat + 2 + k))) :
    Calls Try.prog 71 #[.pointer (some ⟨g1, o1, none⟩), .slice a R.length c, .pointer (some ⟨g2, o2, none⟩), .slice a' R'.length c'] w fun e w' => e = .returned (.bool r) ∧ ∃ q, w' = w.drewN q := by
  have HX := Lib.hid hx; have HY := Lib.hid hy; have S1 := Lib.hid s1; have S2 := Lib.hid s2; have HR := Lib.hid hr; have HWX := Lib.hid hwx; have HWY := Lib.hid hwy
  have lx := hx.lt; have x1 := hx.c1; have x2 := hx.c2; have x3 := hx.c3; have x4 := hx.c4
  have ly := hy.lt; have y1 := hy.c1; have y2 := hy.c2; have y3 := hy.c3; have y4 := hy.c4
  rw [← hs] at y1; rw [← hm] at y2; rw [← ho] at y3; rw [← hh] at y4
  have HSY : Hid (y.s.toNat = x.s.toNat) := Lib.hid (by rw [hs])
  clear hx hy s1 s2 hr hwx hwy hs ho hh hm
  have hm := hxm
  clear hxm
  go_enter Try.func71, Try.ntmps71
  go_wp2
  go_quiet (fail)
  have HQ0 : Hid (∃ q, w.drewN nq = w.drewN q) := Lib.hid ⟨nq, rfl⟩
  clear x1 x2 x3 x4 y1 y2 y3 y4
  go_wp2
  go_loopw [9] (fun p wr => ∃ (k q : Nat), (k : Int) ≤ x.s ∧ p = .int .i64 (k : Int) ∧ wr = w.drewN q ∧ Hid (∀ j, j < k → FldAlike R R' (x.m / P2 (j : Int) % 2 = 1) (f (x.at_.toNat + 2 + j)) (g (y.at_.toNat + 2 + j)))) (fun p _ => x.s.toNat - (intOf p).toNat)
  case atStart => exact ⟨0, nq, by omega, rfl, rfl, Lib.hid (fun j hj => by omega)⟩
  case round =>
    clear HQ0
    obtain ⟨k, q, hk, rfl, hwq, HD⟩ := hrel
    subst hwq
    have XQ := Lib.hid (HX.out.below (drewN_below w q)); have YQ := Lib.hid (HY.out.below (drewN_below w q))
    have lx := XQ.out.lt; have x1 := XQ.out.c1
    by_cases hlt : (k : Int) < x.s
    · have hkt : k < x.s.toNat := by omega
      have hkn : (k : Int) < (x.s.toNat : Int) := by omega
      have hk0 : (0 : Int) ≤ (k : Int) := by omega
      have hky : (k : Int) < (y.s.toNat : Int) := by rw [HSY.out]; exact hkn
      have x2 := XQ.out.c2; have x5 := XQ.out.c5; have ly := YQ.out.lt; have y5 := YQ.out.c5
      have lgx := XQ.out.lg; have lgy := YQ.out.lg
      have fx := XQ.out.fl k hkt; have fy := YQ.out.fl k (by rw [HSY.out]; exact hkt)
      obtain ⟨a1, a2⟩ := HWX.out k hkt
      obtain ⟨b1, b2⟩ := HWY.out k hkt
      obtain ⟨V, hV⟩ : ∃ V, f (x.at_.toNat + 2 + k) = V := ⟨_, rfl⟩
      obtain ⟨U, hU⟩ : ∃ U, g (y.at_.toNat + 2 + k) = U := ⟨_, rfl⟩
      have HV := Lib.hid hV; have HU := Lib.hid hU
      rw [hV] at fx a1 a2; rw [hU] at fy b1 b2
      clear hV hU
      have hdd : x.m / P2 k % 2 = 1 ∨ x.m / P2 k % 2 = 0 := by omega
      rcases hdd with hd | hd
      · have HB := Lib.hid hd
        go_wp2_with fail
        refine (l2Pointer_at g1 (o1 + 1) k x.m true _ x2 hm (by omega) (by rw [hd]; rfl)).mono ?_
        rintro e w5 ⟨rfl, q5, rfl⟩
        rw [World.drewN_drewN]
        have HS1 := Lib.hid (S1.out.below (drewN_below w (q + q5)))
        have HS2 := Lib.hid (S2.out.below (drewN_below w (q + q5)))

        clear hd x1 x2 x5 y5 fx fy lx ly lgx lgy
        by_cases hv : V = 0
        · by_cases hu : U = 0
          · subst hv; subst hu
            have HD2 : Hid (∀ j, j < k + 1 → FldAlike R R' (x.m / P2 (j : Int) % 2 = 1) (f (x.at_.toNat + 2 + j)) (g (y.at_.toNat + 2 + j))) := Lib.hid (fun j hj => by
              rcases Nat.lt_succ_iff_lt_or_eq.mp hj with h | h
              · exact HD.out j h
              · subst h; exact ⟨fun _ => ⟨by rw [HV.out, HU.out], fun h => absurd HV.out h⟩, fun h => absurd HB.out h⟩)

            go_wp2
            go_roundw
            case rel => first | exact ⟨k + 1, _, by omega, by go_num, rfl, HD2⟩ | ((repeat apply Exists.intro); exact ⟨⟨k + 1, _, by omega, by go_num, rfl, HD2⟩, rfl⟩)
            case measure => simp [intOf]; omega

          · subst hv
            have hub : (U == 0) = false := by simpa using hu
            have hrf : r = false := by
              cases r with
              | false => rfl
              | true => exact absurd (HR.out.1 rfl k hkt) (fun h => hu (by rw [← HU.out]; exact (h.1 HB.out).1.1 HV.out))

            clear hu
            subst hrf
            go_wp2
            go_ret
            exact ⟨rfl, _, rfl⟩

        · by_cases hu : U = 0
          · subst hu
            have hvb : (V == 0) = false := by simpa using hv
            have hrf : r = false := by
              cases r with
              | false => rfl
              | true => exact absurd (HR.out.1 rfl k hkt) (fun h => hv (by rw [← HV.out]; exact (h.1 HB.out).1.2 HU.out))

            clear hv
            subst hrf
            go_wp2
            go_ret
            exact ⟨rfl, _, rfl⟩

          · have hvb : (V == 0) = false := by simpa using hv
            have hub : (U == 0) = false := by simpa using hu
            have hvn : (V != 0) = true := by simpa using hv
            have HVN := Lib.hid hv; have HUN := Lib.hid hu
            clear hv hu
            by_cases hn : numI R (V - 1) = numI R' (U - 1)
            · have HN := Lib.hid hn
              have HD2 : Hid (∀ j, j < k + 1 → FldAlike R R' (x.m / P2 (j : Int) % 2 = 1) (f (x.at_.toNat + 2 + j)) (g (y.at_.toNat + 2 + j))) := Lib.hid (fun j hj => by
                rcases Nat.lt_succ_iff_lt_or_eq.mp hj with h | h
                · exact HD.out j h
                · subst h; exact ⟨fun _ => ⟨by rw [HV.out, HU.out]; exact ⟨fun h => absurd h HVN.out, fun h => absurd h HUN.out⟩, fun _ => by rw [HV.out, HU.out]; exact numI_inj.1 HN.out⟩, fun h => absurd HB.out h⟩)

              clear hn
              go_wp2_with fail
              refine (l4Number_any a R c (V - 1) _ HS1.out (by omega)).mono ?_
              rintro e w' ⟨rfl, rfl⟩
              rw [HN.out]
              go_wp2_with fail
              refine (l4Number_any a' R' c' (U - 1) _ HS2.out (by omega)).mono ?_
              rintro e w' ⟨rfl, rfl⟩
              generalize numI R' (U - 1) = N2 at *
              go_wp2
              go_roundw
              case rel => first | exact ⟨k + 1, _, by omega, by go_num, rfl, HD2⟩ | ((repeat apply Exists.intro); exact ⟨⟨k + 1, _, by omega, by go_num, rfl, HD2⟩, rfl⟩)
              case measure => simp [intOf]; omega

            · have HN := Lib.hid hn
              have hrf : r = false := by
                cases r with
                | false => rfl
                | true => exact absurd (HR.out.1 rfl k hkt) (fun h => HN.out (numI_inj.2 (by have h9 := (h.1 HB.out).2 (by rw [HV.out]; exact HVN.out); rwa [HV.out, HU.out] at h9)))

              subst hrf
              have hnb : (numI R (V - 1) == numI R' (U - 1)) = false := by simpa using hn
              clear hn
              go_wp2_with fail
              refine (l4Number_any a R c (V - 1) _ HS1.out (by omega)).mono ?_
              rintro e w' ⟨rfl, rfl⟩
              go_wp2_with fail
              refine (l4Number_any a' R' c' (U - 1) _ HS2.out (by omega)).mono ?_
              rintro e w' ⟨rfl, rfl⟩
              clear HN
              generalize numI R' (U - 1) = N2 at *
              generalize numI R (V - 1) = N1 at *
              go_wp2
              go_ret
              exact ⟨rfl, _, rfl⟩
      · have HB : Hid (¬ x.m / P2 (k : Int) % 2 = 1) := Lib.hid (by omega)
        go_wp2_with fail
        refine (l2Pointer_at g1 (o1 + 1) k x.m false _ x2 hm (by omega) (by rw [hd]; rfl)).mono ?_
        rintro e w5 ⟨rfl, q5, rfl⟩
        rw [World.drewN_drewN]
        have HS1 := Lib.hid (S1.out.below (drewN_below w (q + q5)))
        have HS2 := Lib.hid (S2.out.below (drewN_below w (q + q5)))

        clear hd x1 x2 x5 y5 fx fy lx ly lgx lgy
        by_cases hvu : V = U
        · subst hvu
          have HD2 : Hid (∀ j, j < k + 1 → FldAlike R R' (x.m / P2 (j : Int) % 2 = 1) (f (x.at_.toNat + 2 + j)) (g (y.at_.toNat + 2 + j))) := Lib.hid (fun j hj => by
            rcases Nat.lt_succ_iff_lt_or_eq.mp hj with h | h
            · exact HD.out j h
            · subst h; exact ⟨fun h => absurd h HB.out, fun _ => by rw [HV.out, HU.out]⟩)

          go_wp2
          go_roundw
          case rel => first | exact ⟨k + 1, _, by omega, by go_num, rfl, HD2⟩ | ((repeat apply Exists.intro); exact ⟨⟨k + 1, _, by omega, by go_num, rfl, HD2⟩, rfl⟩)
          case measure => simp [intOf]; omega

        · have hb : (V == U) = false := by simpa using hvu
          have hrf : r = false := by
            cases r with
            | false => rfl
            | true => exact absurd (HR.out.1 rfl k hkt) (fun h => hvu (by have h9 := h.2 HB.out; rwa [HV.out, HU.out] at h9))

          clear hvu
          subst hrf
          go_wp2
          go_ret
          exact ⟨rfl, _, rfl⟩

    · have hrt : r = true := HR.out.2 (fun j hj => HD.out j (by omega))
      subst hrt
      go_wp2
      go_ret
      exact ⟨rfl, _, rfl⟩

theorem l4Alike_any (g1 o1 e1 k1 g2 o2 e2 k2 : Nat) (f g : Nat → Int) (x y : Ob) (a a' : Option Addr) (R R' : List Int) (c c' : Nat) (r : Bool) (w : World) (hx : ObM w g1 o1 e1 k1 f x) (hy : ObM w g2 o2 e2 k2 g y) (s1 : Src w a R.length (lf R)) (s2 : Src w a' R'.length (lf R')) (hl : R.length ≤ 400) (hl' : R'.length ≤ 400)
    (hxs : 0 ≤ x.s ∧ x.s ≤ 12) (hxm : 0 ≤ x.m ∧ x.m ≤ 4095) (hwx : ∀ k, k < x.s.toNat → -1000000000 ≤ f (x.at_.toNat + 2 + k) ∧ f (x.at_.toNat + 2 + k) ≤ 1000000000) (hwy : ∀ k, k < y.s.toNat → -1000000000 ≤ g (y.at_.toNat + 2 + k) ∧ g (y.at_.toNat + 2 + k) ≤ 1000000000)
    (hr : r = true ↔ ObAlike f R x g R' y) :
    Calls Try.prog 71 #[.pointer (some ⟨g1, o1, none⟩), .slice a R.length c, .pointer (some ⟨g2, o2, none⟩), .slice a' R'.length c'] w fun e w' => e = .returned (.bool r) ∧ ∃ q, w' = w.drewN q := by
  by_cases hh : x.s = y.s ∧ x.m = y.m ∧ x.o = y.o ∧ x.h = y.h
  · exact l4Alike_same g1 o1 e1 k1 g2 o2 e2 k2 f g x y a a' R R' c c' r w hx hy s1 s2 hl hl' hh.1 hh.2.1 hh.2.2.1 hh.2.2.2 hxs hxm hwx (fun k hk => hwy k (by rw [← hh.1]; exact hk)) ⟨fun h => (hr.1 h).2, fun h => hr.2 ⟨hh, h⟩⟩
  · have hrf : r = false := by
      cases r with
      | false => rfl
      | true => exact absurd (hr.1 rfl).1 hh
    subst hrf
    exact l4Alike_head g1 o1 e1 k1 g2 o2 e2 k2 f g x y a a' R R' c c' w hx hy hh
end Go.Proofs.Ytbhjmomphajnnaa

namespace Go.Proofs.Ytbhjmomphajnnaa
open Go.RowKit Go.Maps
set_option linter.unusedVariables false

def RetAskU (W : World) (f : Nat → Int) (roots : List Int) (co : Int) (L : List Ob) (e : Ending) (w' : World) : Prop :=
  Below W.heap.size W w' ∧ ∃ v a N c, e = .returned (.tuple #[v, .slice a N c, .int .i64 co]) ∧ (co = 0 → N = (reachO f L roots).length ∧ ∃ M, L = M.map OM.x ∧ OMS w' W.heap.size W.heap.size f v M ∧ Src w' a (reachO f L roots).length (lf (reachO f L roots)))

theorem askU {W : World} {f : Nat → Int} {roots : List Int} {co : Int} {L : List Ob} {e : Ending} {w' : World} (h : RetAsk W f roots co L e w') : RetAskU W f roots co L e w' := by
  obtain ⟨h1, h2⟩ := h
  refine ⟨h1, ?_⟩
  rcases h2 with ⟨h0, rfl⟩ | ⟨rfl, v, M, a, c, hL, rfl, hm, ho, _, _⟩
  · exact ⟨_, _, _, _, rfl, fun h => absurd h h0⟩
  · exact ⟨_, _, _, _, rfl, fun _ => ⟨rfl, M, hL, hm, ho.src⟩⟩

def IsIA (co co' : Int) (f : Nat → Int) (L : List Ob) (ra : List Int) (g : Nat → Int) (L' : List Ob) (rb : List Int) (r : Bool) : Prop := r = true ↔ co = 0 ∧ co' = 0 ∧ AlikeO f L ra g L' rb

theorem l4Number_is (n : Nat) (a : Option Addr) (l : List Int) (c : Nat) (v x : Int) (w : World) (hn : n = l.length) (hs : Src w a l.length (lf l)) (hl : l.length ≤ 1048576) (hx : numI l v = x) :
    Calls Try.prog 73 #[.slice a n c, .int .i64 v] w fun e w' => e = .returned (.int .i64 x) ∧ w = w' := by subst hn; exact hx ▸ l4Number_any a l c v w hs hl

theorem l4Alike_len (n : Nat) (g1 o1 e1 k1 g2 o2 e2 k2 : Nat) (f g : Nat → Int) (x y : Ob) (a a' : Option Addr) (R R' : List Int) (c c' : Nat) (r : Bool) (w : World) (hn : n = R'.length) (hx : ObM w g1 o1 e1 k1 f x) (hy : ObM w g2 o2 e2 k2 g y) (s1 : Src w a R.length (lf R)) (s2 : Src w a' R'.length (lf R')) (hl : R.length ≤ 400) (hl' : R'.length ≤ 400)
    (hxs : 0 ≤ x.s ∧ x.s ≤ 12) (hxm : 0 ≤ x.m ∧ x.m ≤ 4095) (hwx : ∀ k, k < x.s.toNat → -1000000000 ≤ f (x.at_.toNat + 2 + k) ∧ f (x.at_.toNat + 2 + k) ≤ 1000000000) (hwy : ∀ k, k < y.s.toNat → -1000000000 ≤ g (y.at_.toNat + 2 + k) ∧ g (y.at_.toNat + 2 + k) ≤ 1000000000)
    (hr : r = true ↔ ObAlike f R x g R' y) :
    Calls Try.prog 71 #[.pointer (some ⟨g1, o1, none⟩), .slice a R.length c, .pointer (some ⟨g2, o2, none⟩), .slice a' n c'] w fun e w' => e = .returned (.bool r) ∧ ∃ q, w' = w.drewN q := by subst hn; exact l4Alike_any g1 o1 e1 k1 g2 o2 e2 k2 f g x y a a' R R' c c' r w hx hy s1 s2 hl hl' hxs hxm hwx hwy hr

/-- The object of a number of what is reached, and where it lies. -/
theorem reach_obm {w : World} {base lo : Nat} {f : Nat → Int} {v : Value} {M : List OM} (hm : OMS w base lo f v M) {y : Int} (hy : y ∈ placesO (M.map OM.x)) : ∃ (x : Ob) (j g1 e1 k1 c1 : Nat), findO (M.map OM.x) y = some x ∧ (M.map OM.x)[j]? = some x ∧ j < M.length ∧ v = .slice (some ⟨g1, 0, none⟩) M.length c1 ∧ ObM w g1 (j * 6) e1 k1 f x ∧ (0 ≤ x.s ∧ x.s ≤ 12) ∧ (0 ≤ x.m ∧ x.m ≤ 4095) ∧ ∀ k, k < x.s.toNat → -1000000000 ≤ f (x.at_.toNat + 2 + k) ∧ f (x.at_.toNat + 2 + k) ≤ 1000000000 := by
  obtain ⟨x, hx⟩ := mem_placesO.1 hy
  obtain ⟨j, hj, hjx⟩ := List.getElem_of_mem (List.mem_of_find?_eq_some hx)
  have hjs : (M.map OM.x)[j]? = some x := by rw [List.getElem?_eq_getElem hj, hjx]
  obtain ⟨g1, c1, g, cc, e1, hjm, l1, x0, x1, x2, x3, x4, x5, lg, hfc, hs, hmm, hat, hwd⟩ := hm.get hjs
  exact ⟨x, j, g1, g, cc, c1, hx, hjs, hjm, e1, ⟨l1, x1, x2, x3, x4, x5, lg, hfc⟩, hs, hmm, hwd⟩

set_option maxRecDepth 100000 in
set_option maxHeartbeats 6400000 in
theorem specIA_any (h ac bu : Int) (a : Option Addr) (n c : Nat) (f : Nat → Int) (ra : Option Addr) (ra_ : List Int) (rc : Nat) (co : Int) (L : List Ob) (h' ac' bu' : Int) (a' : Option Addr) (n' c' : Nat) (f' : Nat → Int) (rb : Option Addr) (rb_ : List Int) (rd : Nat) (co' : Int) (L' : List Ob) (r : Bool) (w : World) (hs : Src w a n f) (hcn : n ≤ c) (hcm : c ≤ maxLen) (hrs : Src w ra ra_.length (lf ra_)) (hk : IsAsk h n f ac bu ra_ co L) (hs' : Src w a' n' f') (hcn' : n' ≤ c') (hcm' : c' ≤ maxLen) (hrs' : Src w rb rb_.length (lf rb_)) (hk' : IsAsk h' n' f' ac' bu' rb_ co' L') (hr : IsIA co co' f L ra_ f' L' rb_ r) :
    Calls Try.prog 16 #[.agg #[.int .i64 h, .slice a n c, .int .i64 ac, .int .i64 bu], .slice ra ra_.length rc, .agg #[.int .i64 h', .slice a' n' c', .int .i64 ac', .int .i64 bu'], .slice rb rb_.length rd] w (RetBool w r) := by
  have HS := Lib.hid hs; have HCM := Lib.hid hcm; have HRS := Lib.hid hrs; have HK := Lib.hid hk; have HR := Lib.hid hr
  have HS' := Lib.hid hs'; have HCM' := Lib.hid hcm'; have HRS' := Lib.hid hrs'; have HK' := Lib.hid hk'
  have HB0 := Lib.hid (((Below.refl w.heap.size w).alloc (Nat.le_refl _) (.cells #[.int .i64 h, .slice a n c, .int .i64 ac, .int .i64 bu] 26)).alloc (by simp) (.cells #[.int .i64 h', .slice a' n' c', .int .i64 ac', .int .i64 bu'] 26))
  have A_0 := Lib.hid ((Blk.new_at (w := w) (cs := #[.int .i64 h, .slice a n c, .int .i64 ac, .int .i64 bu]) (t := 26) w.heap.size rfl).alloc (.cells #[.int .i64 h', .slice a' n' c', .int .i64 ac', .int .i64 bu'] 26))
  have B_0 := Lib.hid (Blk.new_at (w := w.alloc (.cells #[.int .i64 h, .slice a n c, .int .i64 ac, .int .i64 bu] 26)) (cs := #[.int .i64 h', .slice a' n' c', .int .i64 ac', .int .i64 bu']) (t := 26) (w.heap.size + 1) (by simp))
  clear hs hcm hrs hk hr hs' hcm' hrs' hk'
  go_enter Try.func16, Try.ntmps16
  go_wp2_with fail
  generalize (w.alloc (.cells #[.int .i64 h, .slice a n c, .int .i64 ac, .int .i64 bu] 26)).alloc (.cells #[.int .i64 h', .slice a' n' c', .int .i64 ac', .int .i64 bu'] 26) = w0 at *
  refine (l4Ask_any w.heap.size h ac bu a n c f ra ra_ rc co L _ A_0.out (HS.out.below HB0.out) hcn HCM.out (HRS.out.below HB0.out) HK.out).mono ?_
  intro e w1 hq1
  obtain ⟨hb, v1, a1, N1, c1, rfl, hz1⟩ := askU hq1
  have HB1 := Lib.hid (HB0.out.trans (hb.mono HB0.out.size))
  have B_1 := Lib.hid (B_0.out.below hb)
  have HZ1 := Lib.hid hz1
  clear hb hz1 hq1
  go_wp2_with fail
  refine (l4Ask_any (w.heap.size + 1) h' ac' bu' a' n' c' f' rb rb_ rd co' L' _ B_1.out (HS'.out.below HB1.out) hcn' HCM'.out (HRS'.out.below HB1.out) HK'.out).mono ?_
  intro e w2 hq2
  obtain ⟨hb, v2, a2, N2, c2, rfl, hz2⟩ := askU hq2
  have HB2 := Lib.hid (HB1.out.trans (hb.mono HB1.out.size))
  have HW12 := Lib.hid hb
  have HZ2 := Lib.hid hz2
  clear hb hz2 hq2 A_0 B_0 B_1 HB0 HB1
  by_cases h0 : co = 0
  · by_cases h1 : co' = 0
    · subst h0; subst h1
      obtain ⟨rfl, M, hL, hm, hR1⟩ := HZ1.out rfl
      obtain ⟨rfl, M', hL', hm', hR2⟩ := HZ2.out rfl
      have HRI := Lib.hid (right_of (isAsk_zero HK.out).1 (isAsk_zero HK.out).2.1)
      have HRI' := Lib.hid (right_of (isAsk_zero HK'.out).1 (isAsk_zero HK'.out).2.1)
      have HSUB := Lib.hid (reachO_sub HRI.out.points HRI.out.size (isAsk_zero HK.out).2.2.2)
      have HSUB' := Lib.hid (reachO_sub HRI'.out.points HRI'.out.size (isAsk_zero HK'.out).2.2.2)
      have h60 : ra_.length ≤ 60 := (isAsk_zero HK.out).2.2.1
      have hl1 : (reachO f L ra_).length ≤ 400 := by have := (reach_small HK.out).1; rwa [outR_zero] at this
      have hl2 : (reachO f' L' rb_).length ≤ 400 := by have := (reach_small HK'.out).1; rwa [outR_zero] at this
      have HND := Lib.hid (show (placesO L).Nodup from by obtain ⟨_, h5⟩ := isOI_zero (isAsk_zero HK.out).2.1; exact places_nodup h5)
      have HND' := Lib.hid (show (placesO L').Nodup from by obtain ⟨_, h5⟩ := isOI_zero (isAsk_zero HK'.out).2.1; exact places_nodup h5)
      have HAL := Lib.hid (show (r = true ↔ _) from HR.out.trans ⟨fun h => alike_obj.1 h.2.2, fun h => ⟨rfl, rfl, alike_obj.2 h⟩⟩)
      obtain ⟨R, hR⟩ : ∃ R, reachO f L ra_ = R := ⟨_, rfl⟩
      obtain ⟨R', hR'⟩ : ∃ R, reachO f' L' rb_ = R := ⟨_, rfl⟩
      have HYR := Lib.hid (reachO_roots f L ra_); have HYR' := Lib.hid (reachO_roots f' L' rb_)
      rw [hR] at hR1 HSUB hl1 HAL HYR ⊢
      rw [hR'] at hR2 HSUB' hl2 HAL HYR' ⊢
      have HL := Lib.hid hL; have HL' := Lib.hid hL'
      have HM := Lib.hid (hm.below HW12.out); have HM' := Lib.hid hm'
      have HR1 := Lib.hid (hR1.below HW12.out); have HR2 := Lib.hid hR2
      clear hR hR' hL hL' hm hm' hR1 hR2 HZ1 HZ2 HR
      have HR := HAL
      clear HAL
      by_cases hlr : ra_.length = rb_.length
      · by_cases hln : R.length = R'.length
        · have HLR := Lib.hid hlr; have HLN := Lib.hid hln
          rw [← hlr, ← hln]
          clear hlr hln
          have hRW : Hid (∃ q, w2 = w2.drewN q) := Lib.hid ⟨0, rfl⟩
          go_wp2
          go_loopw [15] (fun p wr => ∃ (i q : Nat), i ≤ R.length ∧ p = .int .i64 (i : Int) ∧ wr = w2.drewN q ∧ Hid (∀ j, j < i → ∃ x y, findO L (lf R j) = some x ∧ findO L' (lf R' j) = some y ∧ ObAlike f R x f' R' y)) (fun p _ => R.length - (intOf p).toNat)
          case atStart => exact ⟨0, 0, by omega, rfl, rfl, Lib.hid (fun j hj => by omega)⟩
          case round =>
            obtain ⟨i, q, hi, rfl, hwq, HD⟩ := hrel
            subst hwq
            by_cases hlt : i < R.length
            · have hlt' : (i : Int) < (R.length : Int) := by omega
              have hi0 : (0 : Int) ≤ (i : Int) := by omega
              have hlt2 : i < R'.length := by rw [← HLN.out]; exact hlt
              have hlt2' : (i : Int) < (R'.length : Int) := by omega
              obtain ⟨x, j, g1, e1, k1, d1, hx, hjx, hjm, hv1, hob, hxs, hxm, hwx⟩ := reach_obm HM.out (y := lf R i) (by rw [← HL.out]; exact HSUB.out _ (lf_mem hlt))
              obtain ⟨y, j', g2, e2, k2, d2, hy, hjy, hjm', hv2, hob', hys, hym, hwy⟩ := reach_obm HM'.out (y := lf R' i) (by rw [← HL'.out]; exact HSUB'.out _ (lf_mem hlt2))
              subst hv1; subst hv2
              obtain ⟨b1, o1, rfl, lb1, hc1⟩ := src_some HR1.out (by omega)
              obtain ⟨b2, o2, rfl, lb2, hc2⟩ := src_some HR2.out (by omega)
              have cc1 := ((drewN_below w2 q).cell (p := ⟨b1, o1 + i, none⟩) lb1).trans (hc1 i hlt)
              have cc2 := ((drewN_below w2 q).cell (p := ⟨b2, o2 + i, none⟩) lb2).trans (hc2 i hlt2)
              have ll1 : b1 < (w2.drewN q).heap.size := by have := (drewN_below w2 q).size; omega
              have ll2 : b2 < (w2.drewN q).heap.size := by have := (drewN_below w2 q).size; omega
              obtain ⟨y1, hy1⟩ : ∃ y1, lf R i = y1 := ⟨_, rfl⟩
              obtain ⟨y2, hy2⟩ : ∃ y2, lf R' i = y2 := ⟨_, rfl⟩
              rw [hy1] at cc1 hx; rw [hy2] at cc2 hy
              have HX := Lib.hid hx; have HY := Lib.hid hy; have HJX := Lib.hid hjx; have HJY := Lib.hid hjy; have HOB := Lib.hid hob; have HOB' := Lib.hid hob'; have HWX := Lib.hid hwx; have HWY := Lib.hid hwy; have HY1 := Lib.hid hy1; have HY2 := Lib.hid hy2
              have HAP := Lib.hid (show ∀ x ∈ M.map OM.x, findO (M.map OM.x) x.at_ = some x from by rw [← HL.out]; exact HRI.out.apart)
              have HAP' := Lib.hid (show ∀ x ∈ M'.map OM.x, findO (M'.map OM.x) x.at_ = some x from by rw [← HL'.out]; exact HRI'.out.apart)
              have hj1 : (j : Int) < (M.length : Int) := by omega
              have hj2 : (j' : Int) < (M'.length : Int) := by omega
              have hj10 : (0 : Int) ≤ (j : Int) := by omega
              have hj20 : (0 : Int) ≤ (j' : Int) := by omega
              clear hx hy hjx hjy hob hob' hwx hwy hy1 hy2 hc1 hc2
              have HMq := Lib.hid (HM.out.below (drewN_below w2 q)); have HMq' := Lib.hid (HM'.out.below (drewN_below w2 q))
              have HOq := Lib.hid (HOB.out.below (drewN_below w2 q)); have HOq' := Lib.hid (HOB'.out.below (drewN_below w2 q))
              have HRq := Lib.hid (HR1.out.below (drewN_below w2 q)); have HRq' := Lib.hid (HR2.out.below (drewN_below w2 q))
              have HNDM := Lib.hid (show (placesO (M.map OM.x)).Nodup from by rw [← HL.out]; exact HND.out)
              have HNDM' := Lib.hid (show (placesO (M'.map OM.x)).Nodup from by rw [← HL'.out]; exact HND'.out)
              by_cases hob : ObAlike f R x f' R' y
              · have HOA := Lib.hid hob
                clear hob
                generalize hwq : w2.drewN q = wq at *
                go_wp2_with fail
                go_quiet (first | (with_reducible exact Calls.quiet_of_same (Calls.mono (find_exact _ M w0.heap.size w0.heap.size f y1 x j _ (HMq.out.below (drewN_below _ _)) HAP.out HX.out HJX.out HNDM.out) fun _ _ hh => ⟨hh.1, hh.2.symm⟩)) | (with_reducible exact Calls.quiet_of_same (Calls.mono (find_exact _ M' w1.heap.size w1.heap.size f' y2 y j' _ (HMq'.out.below (drewN_below _ _)) HAP'.out HY.out HJY.out HNDM'.out) fun _ _ hh => ⟨hh.1, hh.2.symm⟩)) | (with_reducible exact Calls.quiet_of (l4Alike_len _ g1 (j * 6) e1 k1 g2 (j' * 6) e2 k2 f f' x y _ _ R R' c1 c2 true _ HLN.out (HOq.out.below (drewN_below _ _)) (HOq'.out.below (drewN_below _ _)) (HRq.out.below (drewN_below _ _)) (HRq'.out.below (drewN_below _ _)) hl1 hl2 hxs hxm HWX.out HWY.out ⟨fun _ => HOA.out, fun _ => rfl⟩)))
                clear HMq HMq' HOq HOq' HRq HRq' HOB HOB' cc1 cc2
                subst hwq
                rw [World.drewN_drewN]
                have HD2 : Hid (∀ j, j < i + 1 → ∃ x y, findO L (lf R j) = some x ∧ findO L' (lf R' j) = some y ∧ ObAlike f R x f' R' y) := Lib.hid (fun k hk => by
                  rcases Nat.lt_succ_iff_lt_or_eq.mp hk with h | h
                  · exact HD.out k h
                  · subst h
                    exact ⟨x, y, by rw [HY1.out, HL.out]; exact HX.out, by rw [HY2.out, HL'.out]; exact HY.out, HOA.out⟩)
                go_wp2
                go_roundw
                case rel => first | exact ⟨i + 1, _, by omega, by go_num, rfl, HD2⟩ | ((repeat apply Exists.intro); exact ⟨⟨i + 1, _, by omega, by go_num, rfl, HD2⟩, rfl⟩)
                case measure => simp [intOf]; omega
              · have HOA := Lib.hid hob
                clear hob
                have hrf : r = false := by
                  cases r with
                  | false => rfl
                  | true =>
                    obtain ⟨x', y', q1, q2, q3⟩ := (HR.out.1 rfl).2.2.1 i hlt
                    rw [HY1.out, HL.out, HX.out] at q1; rw [HY2.out, HL'.out, HY.out] at q2
                    obtain rfl := Option.some.inj q1
                    obtain rfl := Option.some.inj q2
                    exact absurd q3 HOA.out
                subst hrf
                generalize hwq : w2.drewN q = wq at *
                go_wp2_with fail
                go_quiet (first | (with_reducible exact Calls.quiet_of_same (Calls.mono (find_exact _ M w0.heap.size w0.heap.size f y1 x j _ (HMq.out.below (drewN_below _ _)) HAP.out HX.out HJX.out HNDM.out) fun _ _ hh => ⟨hh.1, hh.2.symm⟩)) | (with_reducible exact Calls.quiet_of_same (Calls.mono (find_exact _ M' w1.heap.size w1.heap.size f' y2 y j' _ (HMq'.out.below (drewN_below _ _)) HAP'.out HY.out HJY.out HNDM'.out) fun _ _ hh => ⟨hh.1, hh.2.symm⟩)) | (with_reducible exact Calls.quiet_of (l4Alike_len _ g1 (j * 6) e1 k1 g2 (j' * 6) e2 k2 f f' x y _ _ R R' c1 c2 false _ HLN.out (HOq.out.below (drewN_below _ _)) (HOq'.out.below (drewN_below _ _)) (HRq.out.below (drewN_below _ _)) (HRq'.out.below (drewN_below _ _)) hl1 hl2 hxs hxm HWX.out HWY.out ⟨fun h => (Bool.noConfusion h), fun h => absurd h HOA.out⟩)))
                clear HMq HMq' HOq HOq' HRq HRq' HOB HOB' cc1 cc2
                subst hwq
                rw [World.drewN_drewN]
                go_wp2
                go_ret
                exact ⟨rfl, below_drewN HB2.out _⟩
            · have hlt' : ¬ (i : Int) < (R.length : Int) := by omega
              obtain rfl : i = R.length := by omega
              have HDD := HD
              clear HD
              go_wp2
              go_loopw [16] (fun p wr => ∃ (i q : Nat), i ≤ ra_.length ∧ p = .int .i64 (i : Int) ∧ wr = w2.drewN q ∧ Hid (∀ j, j < i → numL R (lf ra_ j) = numL R' (lf rb_ j))) (fun p _ => ra_.length - (intOf p).toNat)
              case atStart => exact ⟨0, q, by omega, rfl, rfl, Lib.hid (fun j hj => by omega)⟩
              case round =>
                obtain ⟨i, q, hi, rfl, hwq, HD⟩ := hrel
                subst hwq
                by_cases hlt : i < ra_.length
                · have hlt' : (i : Int) < (ra_.length : Int) := by omega
                  have hi0 : (0 : Int) ≤ (i : Int) := by omega
                  have hlt2 : i < rb_.length := by rw [← HLR.out]; exact hlt
                  have hlt2' : (i : Int) < (rb_.length : Int) := by omega
                  obtain ⟨b1, o1, rfl, lb1, hc1⟩ := src_some (HRS.out.below HB2.out) (by omega)
                  obtain ⟨b2, o2, rfl, lb2, hc2⟩ := src_some (HRS'.out.below HB2.out) (by omega)
                  have cc1 := ((drewN_below w2 q).cell (p := ⟨b1, o1 + i, none⟩) lb1).trans (hc1 i hlt)
                  have cc2 := ((drewN_below w2 q).cell (p := ⟨b2, o2 + i, none⟩) lb2).trans (hc2 i hlt2)
                  have ll1 : b1 < (w2.drewN q).heap.size := by have := (drewN_below w2 q).size; omega
                  have ll2 : b2 < (w2.drewN q).heap.size := by have := (drewN_below w2 q).size; omega
                  obtain ⟨y1, hy1⟩ : ∃ y1, lf ra_ i = y1 := ⟨_, rfl⟩
                  obtain ⟨y2, hy2⟩ : ∃ y2, lf rb_ i = y2 := ⟨_, rfl⟩
                  rw [hy1] at cc1; rw [hy2] at cc2
                  have HY1 := Lib.hid hy1; have HY2 := Lib.hid hy2
                  have HRq := Lib.hid (HR1.out.below (drewN_below w2 q)); have HRq' := Lib.hid (HR2.out.below (drewN_below w2 q))
                  clear hc1 hc2 hy1 hy2
                  by_cases hn : numI R y1 = numI R' y2
                  · have HN := Lib.hid hn
                    have HD2 : Hid (∀ j, j < i + 1 → numL R (lf ra_ j) = numL R' (lf rb_ j)) := Lib.hid (fun k hk => by
                      rcases Nat.lt_succ_iff_lt_or_eq.mp hk with h | h
                      · exact HD.out k h
                      · subst h
                        rw [HY1.out, HY2.out]; exact numI_inj.1 HN.out)
                    clear hn
                    have hnum : numI R y1 = numI R' y2 := HN.out
                    obtain ⟨N9, hN9⟩ : ∃ N9, numI R y1 = N9 := ⟨_, rfl⟩
                    have HN1 : Hid (numI R y1 = N9) := Lib.hid hN9
                    have HN2 : Hid (numI R' y2 = N9) := Lib.hid (by rw [← hnum]; exact hN9)
                    clear hnum hN9
                    generalize hwq : w2.drewN q = wq at *
                    go_wp2_with fail
                    go_quiet (first | (with_reducible exact Calls.quiet_of_same (Calls.mono (l4Number_is _ _ R c1 y1 N9 _ rfl (HRq.out.below (drewN_below _ _)) (by omega) HN1.out) fun _ _ hh => ⟨hh.1, hh.2.symm⟩)) | (with_reducible exact Calls.quiet_of_same (Calls.mono (l4Number_is _ _ R' c2 y2 N9 _ HLN.out (HRq'.out.below (drewN_below _ _)) (by omega) HN2.out) fun _ _ hh => ⟨hh.1, hh.2.symm⟩)))
                    clear HRq HRq' cc1 cc2
                    subst hwq
                    rw [World.drewN_drewN]
                    go_wp2
                    go_roundw
                    case rel => first | exact ⟨i + 1, _, by omega, by go_num, rfl, HD2⟩ | ((repeat apply Exists.intro); exact ⟨⟨i + 1, _, by omega, by go_num, rfl, HD2⟩, rfl⟩)
                    case measure => simp [intOf]; omega
                  · have HN := Lib.hid hn
                    have hrf : r = false := by
                      cases r with
                      | false => rfl
                      | true =>
                        have q3 := (HR.out.1 rfl).2.2.2 i hlt
                        rw [HY1.out, HY2.out] at q3
                        exact absurd (numI_inj.2 q3) HN.out
                    subst hrf
                    obtain ⟨N8, hN8⟩ : ∃ N9, numI R y1 = N9 := ⟨_, rfl⟩
                    obtain ⟨N9, hN9⟩ : ∃ N9, numI R' y2 = N9 := ⟨_, rfl⟩
                    rw [hN8, hN9] at hn
                    have HN1 := Lib.hid hN8; have HN2 := Lib.hid hN9
                    have hnb : (N8 == N9) = false := by simpa using hn
                    clear hn hN8 hN9
                    generalize hwq : w2.drewN q = wq at *
                    go_wp2_with fail
                    go_quiet (first | (with_reducible exact Calls.quiet_of_same (Calls.mono (l4Number_is _ _ R c1 y1 N8 _ rfl (HRq.out.below (drewN_below _ _)) (by omega) HN1.out) fun _ _ hh => ⟨hh.1, hh.2.symm⟩)) | (with_reducible exact Calls.quiet_of_same (Calls.mono (l4Number_is _ _ R' c2 y2 N9 _ HLN.out (HRq'.out.below (drewN_below _ _)) (by omega) HN2.out) fun _ _ hh => ⟨hh.1, hh.2.symm⟩)))
                    clear HRq HRq' cc1 cc2
                    subst hwq
                    rw [World.drewN_drewN]
                    go_wp2
                    go_ret
                    exact ⟨rfl, below_drewN HB2.out _⟩
                · have hlt' : ¬ (i : Int) < (ra_.length : Int) := by omega
                  have hrt : r = true := HR.out.2 ⟨HLR.out, HLN.out, fun j hj => HDD.out j hj, fun j hj => HD.out j (by omega)⟩
                  subst hrt
                  go_wp2
                  go_ret
                  exact ⟨rfl, below_drewN HB2.out _⟩
        · have hrf : r = false := by
            cases r with
            | false => rfl
            | true => exact absurd (HR.out.1 rfl) (fun h => hln h.2.1)
          subst hrf
          go_wp2
          go_ret
          exact ⟨rfl, HB2.out⟩
      · have hrf : r = false := by
          cases r with
          | false => rfl
          | true => exact absurd (HR.out.1 rfl) (fun h => hlr h.1)
        subst hrf
        go_wp2
        go_ret
        exact ⟨rfl, HB2.out⟩
    · subst h0
      have hd1 : (co' != 0) = true := by simpa using h1
      have hrf : r = false := by
        cases r with
        | false => rfl
        | true => exact absurd (HR.out.1 rfl) (fun h => h1 h.2.1)
      subst hrf
      clear h1
      go_wp2
      go_ret
      exact ⟨rfl, HB2.out⟩
  · have hd0 : (co != 0) = true := by simpa using h0
    have hrf : r = false := by
      cases r with
      | false => rfl
      | true => exact absurd (HR.out.1 rfl) (fun h => h0 h.1)
    subst hrf
    clear h0
    go_wp2
    go_ret
    exact ⟨rfl, HB2.out⟩
end Go.Proofs.Ytbhjmomphajnnaa

namespace Go.Proofs.Ytbhjmomphajnnaa
open Go.RowKit Go.Maps
set_option linter.unusedVariables false

def RetInU (W : World) (f : Nat → Int) (roots : List Int) (co : Int) (L : List Ob) (e : Ending) (w' : World) : Prop :=
  Below W.heap.size W w' ∧ ∃ (a : Option Addr) (N c : Nat) (mv : Option Nat), e = .returned (.agg #[.int .i64 co, .slice a N c, .map mv]) ∧ (co = 0 → N = (reachO f L roots).length ∧ ∃ mb T, mv = some mb ∧ GV w' a (reachO f L roots).length T ∧ MapT w' mb (reachO f L roots).length (reachO f L roots) idV ∧ ∀ i, i < (reachO f L roots).length → ∃ x, findO L (lf (reachO f L roots) i) = some x ∧ GSame (T i) (obG f x))

theorem inU {W : World} {f : Nat → Int} {roots : List Int} {co : Int} {L : List Ob} {e : Ending} {w' : World} (h : RetIn W f roots co L e w') : RetInU W f roots co L e w' := by
  obtain ⟨h1, h2⟩ := h
  refine ⟨h1, ?_⟩
  rcases h2 with ⟨h0, rfl⟩ | ⟨rfl, a, c, mb, T, rfl, hg, hm, hs⟩
  · exact ⟨_, _, _, _, rfl, fun h => absurd h h0⟩
  · exact ⟨_, _, _, _, rfl, fun _ => ⟨rfl, mb, T, rfl, hg, hm, hs⟩⟩

theorem inU_any (h ac bu : Int) (a : Option Addr) (n c : Nat) (f : Nat → Int) (ra : Option Addr) (ra_ : List Int) (rc : Nat) (co : Int) (L : List Ob) (w : World) (hs : Src w a n f) (hcn : n ≤ c) (hcm : c ≤ maxLen) (hrs : Src w ra ra_.length (lf ra_)) (hk : IsAsk h n f ac bu ra_ co L) : Calls Try.prog 57 #[.agg #[.int .i64 h, .slice a n c, .int .i64 ac, .int .i64 bu], .slice ra ra_.length rc] w (RetInU w f ra_ co L) :=
  (reachIn_any h ac bu a n c f ra ra_ rc co L w hs hcn hcm hrs hk).mono fun e w' h => inU h

theorem eight {w : World} {b d : Nat} {u0 u1 u2 u3 v0 v1 v2 v3 : Value} (h : Blk w b [u0, u1, u2, u3]) (k : Blk w d [v0, v1, v2, v3]) : w.cell? ⟨b, 0, none⟩ = some u0 ∧ w.cell? ⟨b, 1, none⟩ = some u1 ∧ w.cell? ⟨b, 2, none⟩ = some u2 ∧ w.cell? ⟨b, 3, none⟩ = some u3 ∧ w.cell? ⟨d, 0, none⟩ = some v0 ∧ w.cell? ⟨d, 1, none⟩ = some v1 ∧ w.cell? ⟨d, 2, none⟩ = some v2 ∧ w.cell? ⟨d, 3, none⟩ = some v3 := ⟨h.at 0 rfl, h.at 1 rfl, h.at 2 rfl, h.at 3 rfl, k.at 0 rfl, k.at 1 rfl, k.at 2 rfl, k.at 3 rfl⟩

/-- The program's comparison is that of what is reached. -/
theorem so_iff {h ac bu : Int} {n : Nat} {f : Nat → Int} {L : List Ob} {ra : List Int} {h' ac' bu' : Int} {n' : Nat} {g : Nat → Int} {L' : List Ob} {rb : List Int} (hk : IsAsk h n f ac bu ra 0 L) (hk' : IsAsk h' n' g ac' bu' rb 0 L') {T U T' U' : Nat → GM}
    (hT : ∀ i, i < (reachO f L ra).length → ∃ x, findO L (lf (reachO f L ra) i) = some x ∧ GSame (T i) (obG f x)) (hU : ∀ i, i < (reachO f L ra).length → GSame (U i) (mvT (reachO f L ra) idV (T i)))
    (hT' : ∀ i, i < (reachO g L' rb).length → ∃ x, findO L' (lf (reachO g L' rb) i) = some x ∧ GSame (T' i) (obG g x)) (hU' : ∀ i, i < (reachO g L' rb).length → GSame (U' i) (mvT (reachO g L' rb) idV (T' i))) :
    ((reachO f L ra).length = (reachO g L' rb).length ∧ ∀ i, i < (reachO f L ra).length → GSame (U i) (U' i)) ↔ ((reachO f L ra).length = (reachO g L' rb).length ∧ ∀ i, i < (reachO f L ra).length → ∃ x y, findO L (lf (reachO f L ra) i) = some x ∧ findO L' (lf (reachO g L' rb) i) = some y ∧ ObAlike f (reachO f L ra) x g (reachO g L' rb) y) := by
  obtain ⟨k1, k2, k3, k4⟩ := isAsk_zero hk
  obtain ⟨q1, q2, q3, q4⟩ := isAsk_zero hk'
  refine ⟨fun hh => ⟨hh.1, fun i hi => ?_⟩, fun hh => ⟨hh.1, fun i hi => ?_⟩⟩
  all_goals
    have hi' : i < (reachO g L' rb).length := by rw [← hh.1]; exact hi
    obtain ⟨x, hx, hs⟩ := hT i hi
    obtain ⟨y, hy, hs'⟩ := hT' i hi'
    obtain ⟨t1, t2, t3, t4, t5, t6, t7⟩ := hs
    obtain ⟨p1, p2, p3, p4, p5, p6, p7⟩ := hs'
    obtain ⟨u1, u2, u3, u4, u5, u6, u7⟩ := hU i hi
    obtain ⟨v1, v2, v3, v4, v5, v6, v7⟩ := hU' i hi'
    have us : (U i).s = x.s := u2.trans t2
    have um : (U i).m = x.m := u3.trans t3
    have uo : (U i).o = x.o := u4.trans t4
    have uh : (U i).h = x.h := u5.trans t5
    have un : (U i).n = x.s.toNat := u6.trans t6
    have vs : (U' i).s = y.s := v2.trans p2
    have vm : (U' i).m = y.m := v3.trans p3
    have vo : (U' i).o = y.o := v4.trans p4
    have vh : (U' i).h = y.h := v5.trans p5
    have vn : (U' i).n = y.s.toNat := v6.trans p6
    have tn : (T i).n = x.s.toNat := t6
    have pn : (T' i).n = y.s.toNat := p6
    have ua : (U i).at_ = (i : Int) := by
      have e1 : (T i).at_ = lf (reachO f L ra) i := t1.trans (findO_place hx)
      rw [u1]; show (tab _ _ (T i).at_).getD 0 = _
      rw [e1, tab_at (reachO_nodup f L ra) hi]; rfl
    have va : (U' i).at_ = (i : Int) := by
      have e1 : (T' i).at_ = lf (reachO g L' rb) i := p1.trans (findO_place hy)
      rw [v1]; show (tab _ _ (T' i).at_).getD 0 = _
      rw [e1, tab_at (reachO_nodup g L' rb) hi']; rfl
    have uf : ∀ k, k < x.s.toNat → (U i).f k = if x.m / P2 (k : Int) % 2 = 1 ∧ ¬ f (x.at_.toNat + 2 + k) = 0 then (tab (reachO f L ra) idV (f (x.at_.toNat + 2 + k) - 1)).getD 0 + 1 else f (x.at_.toNat + 2 + k) := fun k hk => by
      rw [u7 k (by omega)]
      show mvF _ _ (T i) k = _
      have e7 : (T i).f k = f (x.at_.toNat + 2 + k) := t7 k (by omega)
      have e3 : (T i).m = x.m := t3
      unfold mvF
      rw [e7, e3]
    have vf : ∀ k, k < y.s.toNat → (U' i).f k = if y.m / P2 (k : Int) % 2 = 1 ∧ ¬ g (y.at_.toNat + 2 + k) = 0 then (tab (reachO g L' rb) idV (g (y.at_.toNat + 2 + k) - 1)).getD 0 + 1 else g (y.at_.toNat + 2 + k) := fun k hk => by
      rw [v7 k (by omega)]
      show mvF _ _ (T' i) k = _
      have e7 : (T' i).f k = g (y.at_.toNat + 2 + k) := p7 k (by omega)
      have e3 : (T' i).m = y.m := p3
      unfold mvF
      rw [e7, e3]
    have hin : ∀ k, k < x.s.toNat → x.m / P2 (k : Int) % 2 = 1 → ¬ f (x.at_.toNat + 2 + k) = 0 → f (x.at_.toNat + 2 + k) - 1 ∈ reachO f L ra := fun k hk hb h0 => reach_target k1 k2 k4 (lf_mem hi) hx hk hb h0
    have hin' : ∀ k, k < y.s.toNat → y.m / P2 (k : Int) % 2 = 1 → ¬ g (y.at_.toNat + 2 + k) = 0 → g (y.at_.toNat + 2 + k) - 1 ∈ reachO g L' rb := fun k hk hb h0 => reach_target q1 q2 q4 (lf_mem hi') hy hk hb h0
  · obtain ⟨g1, g2, g3, g4, g5, g6, g7⟩ := hh.2 i hi
    have es : x.s = y.s := by rw [← us, ← vs]; exact g2
    have em : x.m = y.m := by rw [← um, ← vm]; exact g3
    refine ⟨x, y, hx, hy, ⟨es, em, by rw [← uo, ← vo]; exact g4, by rw [← uh, ← vh]; exact g5⟩, fun k hk => ?_⟩
    have e := g7 k (by omega)
    rw [uf k hk, vf k (by rw [← es]; exact hk), ← em] at e
    exact (fld_iff (hin k hk) (by rw [em]; exact hin' k (by rw [← es]; exact hk))).1 e
  · obtain ⟨x', y', e1, e2, ⟨es, em, eo, eh⟩, e4⟩ := hh.2 i hi
    rw [hx] at e1
    rw [hy] at e2
    obtain rfl := Option.some.inj e1
    obtain rfl := Option.some.inj e2
    refine ⟨by rw [ua, va], by rw [us, vs]; exact es, by rw [um, vm]; exact em, by rw [uo, vo]; exact eo, by rw [uh, vh]; exact eh, by rw [un, vn, es], fun k hk => ?_⟩
    have hk1 : k < x.s.toNat := by omega
    rw [uf k hk1, vf k (by rw [← es]; exact hk1), ← em]
    exact (fld_iff (hin k hk1) (by rw [em]; exact hin' k (by rw [← es]; exact hk1))).2 (e4 k hk1)

theorem roots_iff {f : Nat → Int} {L : List Ob} {ra : List Int} {g : Nat → Int} {L' : List Ob} {rb : List Int} :
    eqB ra.length rb.length (lf (ra.map fun p => (tab (reachO f L ra) idV p).getD 0)) (lf (rb.map fun p => (tab (reachO g L' rb) idV p).getD 0)) = true ↔ ra.length = rb.length ∧ ∀ i, i < ra.length → numL (reachO f L ra) (lf ra i) = numL (reachO g L' rb) (lf rb i) := by
  rw [eqB_iff]
  have key : ∀ (l R : List Int) (i : Nat), i < l.length → lf (l.map fun p => (tab R idV p).getD 0) i = (tab R idV (lf l i)).getD 0 := fun l R i hi => by
    rw [lf_at (by simpa using hi), lf_at hi]; simp
  constructor
  · rintro ⟨h1, h2⟩
    refine ⟨h1, fun i hi => ?_⟩
    have e := h2 i hi
    rw [key _ _ i hi, key _ _ i (by omega)] at e
    exact (tab_num_eq (reachO_roots f L ra _ (lf_mem hi)) (reachO_roots g L' rb _ (lf_mem (by omega)))).1 e
  · rintro ⟨h1, h2⟩
    refine ⟨h1, fun i hi => ?_⟩
    rw [key _ _ i hi, key _ _ i (by omega)]
    exact (tab_num_eq (reachO_roots f L ra _ (lf_mem hi)) (reachO_roots g L' rb _ (lf_mem (by omega)))).2 (h2 i hi)

theorem idV_bound {R : List Int} (h : R.length ≤ 400) : ∀ p, 0 ≤ (tab R idV p).getD 0 ∧ (tab R idV p).getD 0 ≤ 1000000 := fun p => by
  unfold tab
  cases hn : numL R p with
  | none => exact ⟨Int.le_refl _, by decide⟩
  | some i =>
    have hi : i < R.length := by
      unfold numL at hn
      exact (List.findIdx?_eq_some_iff_getElem.mp hn).1
    show 0 ≤ (i : Int) ∧ (i : Int) ≤ 1000000
    omega

/-- What is known of what was reached, where both codes are 0. -/
def InU2 (w : World) (z : Prop) (f : Nat → Int) (L : List Ob) (roots : List Int) (a : Option Addr) (N : Nat) (mv : Option Nat) : Prop :=
  z → N = (reachO f L roots).length ∧ ∃ mb T, mv = some mb ∧ GV w a (reachO f L roots).length T ∧ MapT w mb (reachO f L roots).length (reachO f L roots) idV ∧ ∀ i, i < (reachO f L roots).length → ∃ x, findO L (lf (reachO f L roots) i) = some x ∧ GSame (T i) (obG f x)

theorem InU2.below {w w' : World} {z : Prop} {f : Nat → Int} {L : List Ob} {roots : List Int} {a : Option Addr} {N : Nat} {mv : Option Nat} (h : InU2 w z f L roots a N mv) (hb : Below w.heap.size w w') : InU2 w' z f L roots a N mv := fun hz => by
  obtain ⟨h1, mb, T, h2, h3, h4, h5⟩ := h hz
  exact ⟨h1, mb, T, h2, h3.below hb, h4.below hb, h5⟩

def lainC (w : World) (R : Nat) (cc : Int) (x y : Value) : World := ((w.setCell ⟨R, 0, none⟩ (.int .i64 cc)).setCell ⟨R, 1, none⟩ x).setCell ⟨R, 2, none⟩ y

theorem InU2.lain {w : World} {z : Prop} {f : Nat → Int} {L : List Ob} {roots : List Int} {a : Option Addr} {N : Nat} {mv : Option Nat} {R : Nat} {cc : Int} {x y : Value} (h : InU2 w z f L roots a N mv) (hd : Dead w R) (hc : z → cc = 0) : InU2 (lainC w R cc x y) z f L roots a N mv := fun hz => by
  obtain ⟨h1, mb, T, h2, h3, h4, h5⟩ := h hz
  have e : lainC w R cc x y = Go.Proofs.Ytbhjmomphajnnaa.lain w R x y := by unfold lainC Go.Proofs.Ytbhjmomphajnnaa.lain; rw [hc hz]
  rw [e]
  exact ⟨h1, mb, T, h2, dead_gv hd h3 x y, dead_map hd h4 x y, h5⟩

theorem dead_block {w w' : World} {R : Nat} (h : Dead w R) (e : w'.heap[R]? = w.heap[R]?) : Dead w' R := by
  obtain ⟨t, fr, h⟩ := h
  exact ⟨t, fr, e.trans h⟩

theorem lainC_block {w : World} {R b : Nat} {cc : Int} {x y : Value} (h : b ≠ R) : (lainC w R cc x y).heap[b]? = w.heap[b]? :=
  (Below.heap_setCell _ _ _ b h).trans ((Below.heap_setCell _ _ _ b h).trans (Below.heap_setCell _ _ _ b h))

theorem blk_lain {w : World} {R : Nat} {cc : Int} {x y z0 z1 z2 : Value} (h : Blk w R [z0, z1, z2]) : Blk (lainC w R cc x y) R [.int .i64 cc, x, y] := by
  have h1 := ((h.set 0 (by simp) (.int .i64 cc)).set 1 (by simp) x).set 2 (by simp) y
  exact h1

theorem blk_lainO {w : World} {R b : Nat} {cc : Int} {x y : Value} {cs : List Value} (h : Blk w b cs) (hne : b ≠ R) : Blk (lainC w R cc x y) b cs := ((h.other (p := ⟨R, 0, none⟩) (fun e => hne e.symm) _).other (p := ⟨R, 1, none⟩) (fun e => hne e.symm) _).other (p := ⟨R, 2, none⟩) (fun e => hne e.symm) _

theorem below_lainC {w0 w : World} {B R : Nat} {cc : Int} {x y : Value} (h : Below B w0 w) (hB : B ≤ R) : Below B w0 (lainC w R cc x y) := ((h.setCell (p := ⟨R, 0, none⟩) hB _).setCell (p := ⟨R, 1, none⟩) hB _).setCell (p := ⟨R, 2, none⟩) hB _

theorem eightB {w W : World} {b d : Nat} {u0 u1 u2 u3 v0 v1 v2 v3 : Value} (h : Blk w b [u0, u1, u2, u3]) (k : Blk w d [v0, v1, v2, v3]) (hb : Below w.heap.size w W) : W.cell? ⟨b, 0, none⟩ = some u0 ∧ W.cell? ⟨b, 1, none⟩ = some u1 ∧ W.cell? ⟨b, 2, none⟩ = some u2 ∧ W.cell? ⟨b, 3, none⟩ = some u3 ∧ W.cell? ⟨d, 0, none⟩ = some v0 ∧ W.cell? ⟨d, 1, none⟩ = some v1 ∧ W.cell? ⟨d, 2, none⟩ = some v2 ∧ W.cell? ⟨d, 3, none⟩ = some v3 := eight (h.below hb) (k.below hb)

theorem bel_tr {w W w' : World} (h : Below w.heap.size w W) (hb : Below W.heap.size W w') : Below w.heap.size w w' := h.trans (hb.mono h.size)

theorem bel_mono {w W : World} {m k : Nat} (hm : m + k = w.heap.size) (h : Below w.heap.size w W) : Below m w W := h.mono (by omega)

theorem bel_mono2 {w0 w W : World} (h0 : Below w0.heap.size w0 w) (h : Below w.heap.size w W) : Below w0.heap.size w W := h.mono h0.size

def IARel (w : World) (z : Prop) (f : Nat → Int) (L : List Ob) (ra : List Int) (co : Int) (g : Nat → Int) (L' : List Ob) (rb : List Int) (co' : Int) (sX sY : Value) (wx : World) : Prop :=
  ∃ (bx by_ : Nat) (a1 : Option Addr) (N1 c1 : Nat) (mv1 : Option Nat) (a2 : Option Addr) (N2 c2 : Nat) (mv2 : Option Nat), sX = .pointer (some ⟨bx, 0, none⟩) ∧ sY = .pointer (some ⟨by_, 0, none⟩) ∧ Below w.heap.size w wx ∧ Blk wx bx [.int .i64 co, .slice a1 N1 c1, .map mv1] ∧ Blk wx by_ [.int .i64 co', .slice a2 N2 c2, .map mv2] ∧ InU2 wx z f L ra a1 N1 mv1 ∧ InU2 wx z g L' rb a2 N2 mv2

theorem size_lainC (w : World) (R : Nat) (cc : Int) (x y : Value) : (lainC w R cc x y).heap.size = w.heap.size := by simp [lainC]

theorem rel_a {w w2 : World} {z : Prop} {f g : Nat → Int} {L L' : List Ob} {ra rb : List Int} {co co' : Int} {a1 a2 : Option Addr} {N1 N2 c1 c2 : Nat} {mv1 mv2 : Option Nat} (hB : Below w.heap.size w w2) (hx : InU2 w2 z f L ra a1 N1 mv1) (hy : InU2 w2 z g L' rb a2 N2 mv2) : IARel w z f L ra co g L' rb co' (.pointer (some ⟨w2.heap.size, 0, none⟩)) (.pointer (some ⟨w2.heap.size + 1, 0, none⟩)) ((w2.alloc (.cells #[.int .i64 co, .slice a1 N1 c1, .map mv1] 101)).alloc (.cells #[.int .i64 co', .slice a2 N2 c2, .map mv2] 101)) := by
  have hA := ((Below.refl w2.heap.size w2).alloc (Nat.le_refl _) (.cells #[.int .i64 co, .slice a1 N1 c1, .map mv1] 101)).alloc (by simp) (.cells #[.int .i64 co', .slice a2 N2 c2, .map mv2] 101)
  exact ⟨_, _, a1, N1, c1, mv1, a2, N2, c2, mv2, rfl, rfl, hB.trans (hA.mono hB.size), (Blk.new_at w2.heap.size rfl).alloc _, Blk.new_at (w2.heap.size + 1) (by simp), hx.below hA, hy.below hA⟩

theorem rel_b {w w2 : World} {z : Prop} {f g : Nat → Int} {L L' : List Ob} {ra rb : List Int} {co co' : Int} {a1 a2 : Option Addr} {N1 N2 c1 c2 : Nat} {mv1 mv2 : Option Nat} (hB : Below w.heap.size w w2) (hx : InU2 w2 z f L ra a1 N1 mv1) (hy : InU2 w2 z g L' rb a2 N2 mv2) : IARel w z f L ra co g L' rb co' (.pointer (some ⟨w2.heap.size + 1, 0, none⟩)) (.pointer (some ⟨w2.heap.size, 0, none⟩)) ((w2.alloc (.cells #[.int .i64 co', .slice a2 N2 c2, .map mv2] 101)).alloc (.cells #[.int .i64 co, .slice a1 N1 c1, .map mv1] 101)) := by
  have hA := ((Below.refl w2.heap.size w2).alloc (Nat.le_refl _) (.cells #[.int .i64 co', .slice a2 N2 c2, .map mv2] 101)).alloc (by simp) (.cells #[.int .i64 co, .slice a1 N1 c1, .map mv1] 101)
  exact ⟨_, _, a1, N1, c1, mv1, a2, N2, c2, mv2, rfl, rfl, hB.trans (hA.mono hB.size), Blk.new_at (w2.heap.size + 1) (by simp), (Blk.new_at w2.heap.size rfl).alloc _, hx.below hA, hy.below hA⟩

theorem rel_c {w w2 : World} {z : Prop} {f g : Nat → Int} {L L' : List Ob} {ra rb : List Int} {co co' : Int} {a1 a2 : Option Addr} {N1 N2 c1 c2 : Nat} {mv1 mv2 : Option Nat} {bx : Nat} (hB : Below w.heap.size w w2) (hx : InU2 w2 z f L ra a1 N1 mv1) (hy : InU2 w2 z g L' rb a2 N2 mv2) (hb : Blk w2 bx [.int .i64 0, .slice none 0 0, .map none]) (hd : Dead w2 bx) (hlt : w.heap.size ≤ bx) (hz : z → co = 0 ∧ co' = 0) : IARel w z f L ra co g L' rb co' (.pointer (some ⟨bx, 0, none⟩)) (.pointer (some ⟨w2.heap.size, 0, none⟩)) ((((w2.setCell ⟨bx, 0, none⟩ (.int .i64 co)).setCell ⟨bx, 1, none⟩ (.slice a1 N1 c1)).setCell ⟨bx, 2, none⟩ (.map mv1)).alloc (.cells #[.int .i64 co', .slice a2 N2 c2, .map mv2] 101)) := by
  have hs := size_lainC w2 bx co (.slice a1 N1 c1) (.map mv1)
  have hA := (Below.refl (lainC w2 bx co (.slice a1 N1 c1) (.map mv1)).heap.size (lainC w2 bx co (.slice a1 N1 c1) (.map mv1))).alloc (Nat.le_refl _) (.cells #[.int .i64 co', .slice a2 N2 c2, .map mv2] 101)
  exact ⟨bx, w2.heap.size, a1, N1, c1, mv1, a2, N2, c2, mv2, rfl, rfl, (below_lainC hB hlt).trans (hA.mono (by rw [hs]; exact hB.size)), (blk_lain hb).alloc _, Blk.new_at (w := lainC w2 bx co (.slice a1 N1 c1) (.map mv1)) w2.heap.size hs.symm, (hx.lain hd (fun h => (hz h).1)).below hA, (hy.lain hd (fun h => (hz h).1)).below hA⟩

theorem rel_d {w w2 : World} {z : Prop} {f g : Nat → Int} {L L' : List Ob} {ra rb : List Int} {co co' : Int} {a1 a2 : Option Addr} {N1 N2 c1 c2 : Nat} {mv1 mv2 : Option Nat} {by_ : Nat} (hB : Below w.heap.size w w2) (hx : InU2 w2 z f L ra a1 N1 mv1) (hy : InU2 w2 z g L' rb a2 N2 mv2) (hb : Blk w2 by_ [.int .i64 0, .slice none 0 0, .map none]) (hd : Dead w2 by_) (hlt : w.heap.size ≤ by_) (hz : z → co = 0 ∧ co' = 0) : IARel w z f L ra co g L' rb co' (.pointer (some ⟨w2.heap.size, 0, none⟩)) (.pointer (some ⟨by_, 0, none⟩)) ((((w2.setCell ⟨by_, 0, none⟩ (.int .i64 co')).setCell ⟨by_, 1, none⟩ (.slice a2 N2 c2)).setCell ⟨by_, 2, none⟩ (.map mv2)).alloc (.cells #[.int .i64 co, .slice a1 N1 c1, .map mv1] 101)) := by
  have hs := size_lainC w2 by_ co' (.slice a2 N2 c2) (.map mv2)
  have hA := (Below.refl (lainC w2 by_ co' (.slice a2 N2 c2) (.map mv2)).heap.size (lainC w2 by_ co' (.slice a2 N2 c2) (.map mv2))).alloc (Nat.le_refl _) (.cells #[.int .i64 co, .slice a1 N1 c1, .map mv1] 101)
  exact ⟨w2.heap.size, by_, a1, N1, c1, mv1, a2, N2, c2, mv2, rfl, rfl, (below_lainC hB hlt).trans (hA.mono (by rw [hs]; exact hB.size)), Blk.new_at (w := lainC w2 by_ co' (.slice a2 N2 c2) (.map mv2)) w2.heap.size hs.symm, (blk_lain hb).alloc _, (hx.lain hd (fun h => (hz h).2)).below hA, (hy.lain hd (fun h => (hz h).2)).below hA⟩

theorem rel_e {w w2 : World} {z : Prop} {f g : Nat → Int} {L L' : List Ob} {ra rb : List Int} {co co' : Int} {a1 a2 : Option Addr} {N1 N2 c1 c2 : Nat} {mv1 mv2 : Option Nat} {bx by_ : Nat} (hB : Below w.heap.size w w2) (hx : InU2 w2 z f L ra a1 N1 mv1) (hy : InU2 w2 z g L' rb a2 N2 mv2) (hb : Blk w2 bx [.int .i64 0, .slice none 0 0, .map none]) (hd : Dead w2 bx) (hb' : Blk w2 by_ [.int .i64 0, .slice none 0 0, .map none]) (hd' : Dead w2 by_) (hlt : w.heap.size ≤ bx) (hlt' : w.heap.size ≤ by_) (hne : bx ≠ by_) (hz : z → co = 0 ∧ co' = 0) : IARel w z f L ra co g L' rb co' (.pointer (some ⟨bx, 0, none⟩)) (.pointer (some ⟨by_, 0, none⟩)) ((((((w2.setCell ⟨bx, 0, none⟩ (.int .i64 co)).setCell ⟨bx, 1, none⟩ (.slice a1 N1 c1)).setCell ⟨bx, 2, none⟩ (.map mv1)).setCell ⟨by_, 0, none⟩ (.int .i64 co')).setCell ⟨by_, 1, none⟩ (.slice a2 N2 c2)).setCell ⟨by_, 2, none⟩ (.map mv2)) := by
  have hd2 : Dead (lainC w2 bx co (.slice a1 N1 c1) (.map mv1)) by_ := dead_block hd' (lainC_block (fun e => hne e.symm))
  exact ⟨bx, by_, a1, N1, c1, mv1, a2, N2, c2, mv2, rfl, rfl, below_lainC (below_lainC hB hlt) hlt', blk_lainO (blk_lain hb) hne, blk_lain (blk_lainO hb' (fun e => hne e.symm)), (hx.lain hd (fun h => (hz h).1)).lain hd2 (fun h => (hz h).2), (hy.lain hd (fun h => (hz h).1)).lain hd2 (fun h => (hz h).2)⟩

theorem six_bel {w W : World} {b d : Nat} {u0 u1 u2 v0 v1 v2 : Value} (h : Blk w b [u0, u1, u2]) (k : Blk w d [v0, v1, v2]) (hb : Below w.heap.size w W) : W.cell? ⟨b, 0, none⟩ = some u0 ∧ W.cell? ⟨b, 1, none⟩ = some u1 ∧ W.cell? ⟨b, 2, none⟩ = some u2 ∧ W.cell? ⟨d, 0, none⟩ = some v0 ∧ W.cell? ⟨d, 1, none⟩ = some v1 ∧ W.cell? ⟨d, 2, none⟩ = some v2 := ⟨(h.below hb).at 0 rfl, (h.below hb).at 1 rfl, (h.below hb).at 2 rfl, (k.below hb).at 0 rfl, (k.below hb).at 1 rfl, (k.below hb).at 2 rfl⟩

theorem gv_src {w : World} {a : Option Addr} {N : Nat} {T : Nat → GM} (h : GV w a N T) (i : Nat) (hi : i < N) : Src w (T i).a (T i).n (T i).f := by
  rcases h with h0 | ⟨b, q, e, hs⟩
  · omega
  · exact hs.flds i hi

set_option linter.unusedSimpArgs false in
set_option maxRecDepth 100000 in
set_option maxHeartbeats 6400000 in
theorem implIA_any (h ac bu : Int) (a : Option Addr) (n c : Nat) (f : Nat → Int) (ra : Option Addr) (ra_ : List Int) (rc : Nat) (co : Int) (L : List Ob) (h' ac' bu' : Int) (a' : Option Addr) (n' c' : Nat) (f' : Nat → Int) (rb : Option Addr) (rb_ : List Int) (rd : Nat) (co' : Int) (L' : List Ob) (r : Bool) (w : World) (hs : Src w a n f) (hcn : n ≤ c) (hcm : c ≤ maxLen) (hrs : Src w ra ra_.length (lf ra_)) (hk : IsAsk h n f ac bu ra_ co L) (hs' : Src w a' n' f') (hcn' : n' ≤ c') (hcm' : c' ≤ maxLen) (hrs' : Src w rb rb_.length (lf rb_)) (hk' : IsAsk h' n' f' ac' bu' rb_ co' L') (hr : IsIA co co' f L ra_ f' L' rb_ r) :
    Calls Try.prog 15 #[.agg #[.int .i64 h, .slice a n c, .int .i64 ac, .int .i64 bu], .slice ra ra_.length rc, .agg #[.int .i64 h', .slice a' n' c', .int .i64 ac', .int .i64 bu'], .slice rb rb_.length rd] w (RetBool w r) := by
  have HS := Lib.hid hs; have HCM := Lib.hid hcm; have HRS := Lib.hid hrs; have HK := Lib.hid hk; have HR := Lib.hid hr
  have HS' := Lib.hid hs'; have HCM' := Lib.hid hcm'; have HRS' := Lib.hid hrs'; have HK' := Lib.hid hk'
  have HB0 := Lib.hid (((Below.refl w.heap.size w).alloc (Nat.le_refl _) (.cells #[.int .i64 h, .slice a n c, .int .i64 ac, .int .i64 bu] 26)).alloc (by simp) (.cells #[.int .i64 h', .slice a' n' c', .int .i64 ac', .int .i64 bu'] 26))
  have A_0 := Lib.hid ((Blk.new_at (w := w) (cs := #[.int .i64 h, .slice a n c, .int .i64 ac, .int .i64 bu]) (t := 26) w.heap.size rfl).alloc (.cells #[.int .i64 h', .slice a' n' c', .int .i64 ac', .int .i64 bu'] 26))
  have B_0 := Lib.hid (Blk.new_at (w := w.alloc (.cells #[.int .i64 h, .slice a n c, .int .i64 ac, .int .i64 bu] 26)) (cs := #[.int .i64 h', .slice a' n' c', .int .i64 ac', .int .i64 bu']) (t := 26) (w.heap.size + 1) (by simp))
  have z0 : w.heap.size + 2 = ((w.alloc (.cells #[.int .i64 h, .slice a n c, .int .i64 ac, .int .i64 bu] 26)).alloc (.cells #[.int .i64 h', .slice a' n' c', .int .i64 ac', .int .i64 bu'] 26)).heap.size := by simp
  clear hs hcm hrs hk hr hs' hcm' hrs' hk'
  obtain ⟨z, hz⟩ : ∃ z : Prop, z = (co = 0 ∧ co' = 0) := ⟨_, rfl⟩
  have HZ : Hid (z → co = 0 ∧ co' = 0) := Lib.hid (fun h => by rw [hz] at h; exact h)
  have HZZ : Hid (co = 0 ∧ co' = 0 → z) := Lib.hid (fun h => by rw [hz]; exact h)
  clear hz
  go_enter Try.func15, Try.ntmps15
  go_wp2_with fail
  generalize (w.alloc (.cells #[.int .i64 h, .slice a n c, .int .i64 ac, .int .i64 bu] 26)).alloc (.cells #[.int .i64 h', .slice a' n' c', .int .i64 ac', .int .i64 bu'] 26) = w0 at *
  go_cut [9, 10] (fun sX sY wx => Hid (IARel w z f L ra_ co f' L' rb_ co' sX sY wx))
  case first =>
    go_region_held3 (fun w' => w'.cell? ⟨w.heap.size, 0, none⟩ = some (.int .i64 h) ∧ w'.cell? ⟨w.heap.size, 1, none⟩ = some (.slice a n c) ∧ w'.cell? ⟨w.heap.size, 2, none⟩ = some (.int .i64 ac) ∧ w'.cell? ⟨w.heap.size, 3, none⟩ = some (.int .i64 bu) ∧ w'.cell? ⟨w.heap.size + 1, 0, none⟩ = some (.int .i64 h') ∧ w'.cell? ⟨w.heap.size + 1, 1, none⟩ = some (.slice a' n' c') ∧ w'.cell? ⟨w.heap.size + 1, 2, none⟩ = some (.int .i64 ac') ∧ w'.cell? ⟨w.heap.size + 1, 3, none⟩ = some (.int .i64 bu'))
      (first | (with_reducible exact eightB A_0.out B_0.out (Below.refl w0.heap.size w0).drew) | (with_reducible exact eightB A_0.out B_0.out ((Below.refl w0.heap.size w0).alloc (by (try simp); (try omega)) _).drew) | (with_reducible exact eightB A_0.out B_0.out (((Below.refl w0.heap.size w0).alloc (by (try simp); (try omega)) _).alloc (by (try simp); (try omega)) _).drew) | (with_reducible exact eightB A_0.out B_0.out HW1.out) | (with_reducible exact eightB A_0.out B_0.out (HW1.out.alloc (by (try simp); (try omega)) _)) | (with_reducible exact eightB A_0.out B_0.out ((HW1.out.alloc (by (try simp); (try omega)) _).alloc (by (try simp); (try omega)) _)) | (with_reducible exact eightB A_0.out B_0.out HW2.out) | (with_reducible exact eightB A_0.out B_0.out (HW2.out.alloc (by (try simp); (try omega)) _)) | (with_reducible exact eightB A_0.out B_0.out ((HW2.out.alloc (by (try simp); (try omega)) _).alloc (by (try simp); (try omega)) _)) | (with_reducible exact eightB A_0.out B_0.out (((HW2.out.setCell (by (try simp); (try omega)) _).setCell (by (try simp); (try omega)) _).setCell (by (try simp); (try omega)) _)) | (with_reducible exact eightB A_0.out B_0.out ((((HW2.out.setCell (by (try simp); (try omega)) _).setCell (by (try simp); (try omega)) _).setCell (by (try simp); (try omega)) _).alloc (by (try simp); (try omega)) _)) | (with_reducible exact eightB A_0.out B_0.out ((((HW2.out.alloc (by (try simp); (try omega)) _).setCell (by (try simp); (try omega)) _).setCell (by (try simp); (try omega)) _).setCell (by (try simp); (try omega)) _)) | (with_reducible exact eightB A_0.out B_0.out ((((((HW2.out.setCell (by (try simp); (try omega)) _).setCell (by (try simp); (try omega)) _).setCell (by (try simp); (try omega)) _).setCell (by (try simp); (try omega)) _).setCell (by (try simp); (try omega)) _).setCell (by (try simp); (try omega)) _)))
      (first | (go_at_call 57; (first | ((with_reducible refine (inU_any h ac bu a n c f ra ra_ rc co L _ (HS.out.below (HB0.out.trans (bel_mono z0 (by first | exact Below.refl _ _ | exact (Below.refl _ _).drew | exact ((Below.refl _ _).alloc (Nat.le_refl _) _).drew | exact (((Below.refl _ _).alloc (Nat.le_refl _) _).alloc (by simp) _).drew | exact (Below.refl _ _).alloc (Nat.le_refl _) _ | exact ((Below.refl _ _).alloc (Nat.le_refl _) _).alloc (by simp) _)))) hcn HCM.out (HRS.out.below (HB0.out.trans (bel_mono z0 (by first | exact Below.refl _ _ | exact (Below.refl _ _).drew | exact ((Below.refl _ _).alloc (Nat.le_refl _) _).drew | exact (((Below.refl _ _).alloc (Nat.le_refl _) _).alloc (by simp) _).drew | exact (Below.refl _ _).alloc (Nat.le_refl _) _ | exact ((Below.refl _ _).alloc (Nat.le_refl _) _).alloc (by simp) _)))) HK.out).mono ?_); rintro e w1 ⟨hb, a1, N1, c1, mv1, rfl, hz1⟩; have hbd : Below w0.heap.size w0 w1 := (bel_tr (by first | exact Below.refl _ _ | exact (Below.refl _ _).drew | exact ((Below.refl _ _).alloc (Nat.le_refl _) _).drew | exact (((Below.refl _ _).alloc (Nat.le_refl _) _).alloc (by simp) _).drew | exact (Below.refl _ _).alloc (Nat.le_refl _) _ | exact ((Below.refl _ _).alloc (Nat.le_refl _) _).alloc (by simp) _) hb); have HB1 := Lib.hid (HB0.out.trans (hbd.mono HB0.out.size)); have HZ1 : Hid (InU2 w1 z f L ra_ a1 N1 mv1) := Lib.hid (fun h => hz1 (HZ.out h).1); have hs1 := hb.size; (try simp at hs1); (try have P_1 : Hid (Blk w1 w0.heap.size [.int .i64 0, .slice none 0 0, .map none]) := Lib.hid (((Blk.new_at (w := w0) (cs := #[.int .i64 0, .slice none 0 0, .map none]) (t := 101) w0.heap.size rfl).drew).below hb)); (try have DP_1 : Hid (Dead w1 w0.heap.size) := Lib.hid (((dead_new (w := w0) (t := 101) w0.heap.size rfl).below (Below.refl _ _).drew).below hb)); (try have P_1 : Hid (Blk w1 w0.heap.size [.int .i64 0, .slice none 0 0, .map none]) := Lib.hid ((((Blk.new_at (w := w0) (cs := #[.int .i64 0, .slice none 0 0, .map none]) (t := 101) w0.heap.size rfl).alloc (.cells #[.int .i64 0, .slice none 0 0, .map none] 101)).drew).below hb)); (try have DP_1 : Hid (Dead w1 w0.heap.size) := Lib.hid (((dead_new (w := w0) (t := 101) w0.heap.size rfl).below (((Below.refl _ _).alloc (Nat.le_refl _) (.cells #[.int .i64 0, .slice none 0 0, .map none] 101)).drew)).below hb)); (try have Q_1 : Hid (Blk w1 (w0.heap.size + 1) [.int .i64 0, .slice none 0 0, .map none]) := Lib.hid (((Blk.new_at (w := w0.alloc (.cells #[.int .i64 0, .slice none 0 0, .map none] 101)) (cs := #[.int .i64 0, .slice none 0 0, .map none]) (t := 101) (w0.heap.size + 1) (by simp)).drew).below hb)); (try have DQ_1 : Hid (Dead w1 (w0.heap.size + 1)) := Lib.hid (((dead_new (w := w0.alloc (.cells #[.int .i64 0, .slice none 0 0, .map none] 101)) (t := 101) (w0.heap.size + 1) (by simp)).below (Below.refl _ _).drew).below hb)); have HW1 := Lib.hid hbd; clear hb hz1 hbd) | ((with_reducible refine (inU_any h' ac' bu' a' n' c' f' rb rb_ rd co' L' _ (HS'.out.below (HB1.out.trans (bel_mono2 HB1.out (by first | exact Below.refl _ _ | exact (Below.refl _ _).drew | exact ((Below.refl _ _).alloc (Nat.le_refl _) _).drew | exact (((Below.refl _ _).alloc (Nat.le_refl _) _).alloc (by simp) _).drew | exact (Below.refl _ _).alloc (Nat.le_refl _) _ | exact ((Below.refl _ _).alloc (Nat.le_refl _) _).alloc (by simp) _)))) hcn' HCM'.out (HRS'.out.below (HB1.out.trans (bel_mono2 HB1.out (by first | exact Below.refl _ _ | exact (Below.refl _ _).drew | exact ((Below.refl _ _).alloc (Nat.le_refl _) _).drew | exact (((Below.refl _ _).alloc (Nat.le_refl _) _).alloc (by simp) _).drew | exact (Below.refl _ _).alloc (Nat.le_refl _) _ | exact ((Below.refl _ _).alloc (Nat.le_refl _) _).alloc (by simp) _)))) HK'.out).mono ?_); rintro e w2 ⟨hb, a2, N2, c2, mv2, rfl, hz2⟩; have hbd : Below w1.heap.size w1 w2 := (bel_tr (by first | exact Below.refl _ _ | exact (Below.refl _ _).drew | exact ((Below.refl _ _).alloc (Nat.le_refl _) _).drew | exact (((Below.refl _ _).alloc (Nat.le_refl _) _).alloc (by simp) _).drew | exact (Below.refl _ _).alloc (Nat.le_refl _) _ | exact ((Below.refl _ _).alloc (Nat.le_refl _) _).alloc (by simp) _) hb); have HB2 := Lib.hid (HB1.out.trans (hbd.mono HB1.out.size)); have HX2 := Lib.hid (HZ1.out.below hbd); have HY2 : Hid (InU2 w2 z f' L' rb_ a2 N2 mv2) := Lib.hid (fun h => hz2 (HZ.out h).2); have hs2 := hb.size; (try simp at hs2); (try have P_2 := Lib.hid (P_1.out.below hbd)); (try have DP_2 := Lib.hid (DP_1.out.below hbd)); (try have Q_2 := Lib.hid (Q_1.out.below hbd)); (try have DQ_2 := Lib.hid (DQ_1.out.below hbd)); (try have R_2 : Hid (Blk w2 w1.heap.size [.int .i64 0, .slice none 0 0, .map none]) := Lib.hid ((Blk.new_at (w := w1) (cs := #[.int .i64 0, .slice none 0 0, .map none]) (t := 101) w1.heap.size rfl).below hb)); (try have DR_2 : Hid (Dead w2 w1.heap.size) := Lib.hid ((dead_new (w := w1) (t := 101) w1.heap.size rfl).below hb)); (try have R_2 : Hid (Blk w2 w1.heap.size [.int .i64 0, .slice none 0 0, .map none]) := Lib.hid (((Blk.new_at (w := w1) (cs := #[.int .i64 0, .slice none 0 0, .map none]) (t := 101) w1.heap.size rfl).alloc (.cells #[.int .i64 0, .slice none 0 0, .map none] 101)).below hb)); (try have DR_2 : Hid (Dead w2 w1.heap.size) := Lib.hid (((dead_new (w := w1) (t := 101) w1.heap.size rfl).below ((Below.refl _ _).alloc (Nat.le_refl _) (.cells #[.int .i64 0, .slice none 0 0, .map none] 101))).below hb)); (try have S_2 : Hid (Blk w2 (w1.heap.size + 1) [.int .i64 0, .slice none 0 0, .map none]) := Lib.hid ((Blk.new_at (w := w1.alloc (.cells #[.int .i64 0, .slice none 0 0, .map none] 101)) (cs := #[.int .i64 0, .slice none 0 0, .map none]) (t := 101) (w1.heap.size + 1) (by simp)).below hb)); (try have DS_2 : Hid (Dead w2 (w1.heap.size + 1)) := Lib.hid ((dead_new (w := w1.alloc (.cells #[.int .i64 0, .slice none 0 0, .map none] 101)) (t := 101) (w1.heap.size + 1) (by simp)).below hb)); have HW2 := Lib.hid (HW1.out.trans (hbd.mono HW1.out.size)); clear hb hz2 hbd; (try (have lP := P_2.out.1; have cP0 := P_2.out.at 0 rfl; have fP0 := P_2.out.free 0 rfl; have cP1 := P_2.out.at 1 rfl; have fP1 := P_2.out.free 1 rfl; have cP2 := P_2.out.at 2 rfl; have fP2 := P_2.out.free 2 rfl)); (try (have lQ := Q_2.out.1; have cQ0 := Q_2.out.at 0 rfl; have fQ0 := Q_2.out.free 0 rfl; have cQ1 := Q_2.out.at 1 rfl; have fQ1 := Q_2.out.free 1 rfl; have cQ2 := Q_2.out.at 2 rfl; have fQ2 := Q_2.out.free 2 rfl)); (try (have lR := R_2.out.1; have cR0 := R_2.out.at 0 rfl; have fR0 := R_2.out.free 0 rfl; have cR1 := R_2.out.at 1 rfl; have fR1 := R_2.out.free 1 rfl; have cR2 := R_2.out.at 2 rfl; have fR2 := R_2.out.free 2 rfl)); (try (have lS := S_2.out.1; have cS0 := S_2.out.at 0 rfl; have fS0 := S_2.out.free 0 rfl; have cS1 := S_2.out.at 1 rfl; have fS1 := S_2.out.free 1 rfl; have cS2 := S_2.out.at 2 rfl; have fS2 := S_2.out.free 2 rfl))))))
    all_goals (go_wp2_with fail)
    all_goals go_meet
    all_goals first | with_reducible exact Lib.hid (rel_a HB2.out HX2.out HY2.out) | with_reducible exact Lib.hid (rel_b HB2.out HX2.out HY2.out) | with_reducible exact Lib.hid (rel_c HB2.out HX2.out HY2.out P_2.out DP_2.out (by omega) HZ.out) | with_reducible exact Lib.hid (rel_d HB2.out HX2.out HY2.out P_2.out DP_2.out (by omega) HZ.out) | with_reducible exact Lib.hid (rel_c HB2.out HX2.out HY2.out Q_2.out DQ_2.out (by omega) HZ.out) | with_reducible exact Lib.hid (rel_d HB2.out HX2.out HY2.out Q_2.out DQ_2.out (by omega) HZ.out) | with_reducible exact Lib.hid (rel_c HB2.out HX2.out HY2.out R_2.out DR_2.out (by omega) HZ.out) | with_reducible exact Lib.hid (rel_d HB2.out HX2.out HY2.out R_2.out DR_2.out (by omega) HZ.out) | with_reducible exact Lib.hid (rel_c HB2.out HX2.out HY2.out S_2.out DS_2.out (by omega) HZ.out) | with_reducible exact Lib.hid (rel_d HB2.out HX2.out HY2.out S_2.out DS_2.out (by omega) HZ.out) | with_reducible exact Lib.hid (rel_e HB2.out HX2.out HY2.out P_2.out DP_2.out Q_2.out DQ_2.out (by omega) (by omega) (by omega) HZ.out) | with_reducible exact Lib.hid (rel_e HB2.out HX2.out HY2.out P_2.out DP_2.out R_2.out DR_2.out (by omega) (by omega) (by omega) HZ.out) | with_reducible exact Lib.hid (rel_e HB2.out HX2.out HY2.out P_2.out DP_2.out S_2.out DS_2.out (by omega) (by omega) (by omega) HZ.out) | with_reducible exact Lib.hid (rel_e HB2.out HX2.out HY2.out Q_2.out DQ_2.out P_2.out DP_2.out (by omega) (by omega) (by omega) HZ.out) | with_reducible exact Lib.hid (rel_e HB2.out HX2.out HY2.out Q_2.out DQ_2.out R_2.out DR_2.out (by omega) (by omega) (by omega) HZ.out) | with_reducible exact Lib.hid (rel_e HB2.out HX2.out HY2.out Q_2.out DQ_2.out S_2.out DS_2.out (by omega) (by omega) (by omega) HZ.out) | with_reducible exact Lib.hid (rel_e HB2.out HX2.out HY2.out R_2.out DR_2.out P_2.out DP_2.out (by omega) (by omega) (by omega) HZ.out) | with_reducible exact Lib.hid (rel_e HB2.out HX2.out HY2.out R_2.out DR_2.out Q_2.out DQ_2.out (by omega) (by omega) (by omega) HZ.out) | with_reducible exact Lib.hid (rel_e HB2.out HX2.out HY2.out R_2.out DR_2.out S_2.out DS_2.out (by omega) (by omega) (by omega) HZ.out) | with_reducible exact Lib.hid (rel_e HB2.out HX2.out HY2.out S_2.out DS_2.out P_2.out DP_2.out (by omega) (by omega) (by omega) HZ.out) | with_reducible exact Lib.hid (rel_e HB2.out HX2.out HY2.out S_2.out DS_2.out Q_2.out DQ_2.out (by omega) (by omega) (by omega) HZ.out) | with_reducible exact Lib.hid (rel_e HB2.out HX2.out HY2.out S_2.out DS_2.out R_2.out DR_2.out (by omega) (by omega) (by omega) HZ.out)
  case rest =>
    obtain ⟨bx, by_, a1, N1, c1, mv1, a2, N2, c2, mv2, rfl, rfl, hB3, hX3, hY3, hU3, hV3⟩ := hcut.out
    have HB3 := Lib.hid hB3; have X_2 := Lib.hid hX3; have Y_2 := Lib.hid hY3; have HZ1 := Lib.hid hU3; have HZ2 := Lib.hid hV3
    clear hB3 hX3 hY3 hU3 hV3 hcut A_0 B_0 HB0
    rename World => w3
    have lX := X_2.out.1; have cX0 := X_2.out.at 0 rfl
    have lY := Y_2.out.1; have cY0 := Y_2.out.at 0 rfl
    by_cases h0 : co = 0
    · by_cases h1 : co' = 0
      · have hzz : z := HZZ.out ⟨h0, h1⟩
        subst h0; subst h1
        obtain ⟨rfl, mb, T, rfl, hG, hM, hT⟩ := HZ1.out hzz
        obtain ⟨rfl, mb', T', rfl, hG', hM', hT'⟩ := HZ2.out hzz
        clear hzz
        have h60 : ra_.length ≤ 60 := (isAsk_zero HK.out).2.2.1
        have h60' : rb_.length ≤ 60 := (isAsk_zero HK'.out).2.2.1
        have hl1 : (reachO f L ra_).length ≤ 400 := by have := (reach_small HK.out).1; rwa [outR_zero] at this
        have hl2 : (reachO f' L' rb_).length ≤ 400 := by have := (reach_small HK'.out).1; rwa [outR_zero] at this
        have HVB := Lib.hid (idV_bound hl1); have HVB' := Lib.hid (idV_bound hl2)
        have HPL : Hid (∀ p ∈ ra_, 0 ≤ p ∧ p ≤ 1000000) := Lib.hid (fun p hp => place_bound (isAsk_zero HK.out).1 (isAsk_zero HK.out).2.1 ((isAsk_zero HK.out).2.2.2 p hp))
        have HPL' : Hid (∀ p ∈ rb_, 0 ≤ p ∧ p ≤ 1000000) := Lib.hid (fun p hp => place_bound (isAsk_zero HK'.out).1 (isAsk_zero HK'.out).2.1 ((isAsk_zero HK'.out).2.2.2 p hp))
        have HT := Lib.hid hT; have HT' := Lib.hid hT'
        have HRI := Lib.hid (@roots_iff f L ra_ f' L' rb_)
        have HAL : Hid (r = true ↔ _) := Lib.hid (HR.out.trans ⟨fun h => alike_obj.1 h.2.2, fun h => ⟨rfl, rfl, alike_obj.2 h⟩⟩)
        have HSI := Lib.hid (fun (U U' : Nat → GM) hU hU' => so_iff (T := T) (U := U) (T' := T') (U' := U') HK.out HK'.out HT.out hU HT'.out hU')
        have HMVB : Hid (∀ (w : World) (i : Nat), i < (reachO f L ra_).length → Src w (T i).a (T i).n (T i).f → Movable w (reachO f L ra_) idV (T i)) := Lib.hid (fun w i hi hw => by
          obtain ⟨x, e1, e2⟩ := HT.out i hi
          exact movable_of (isAsk_zero HK.out).1 (isAsk_zero HK.out).2.1 (isAsk_zero HK.out).2.2.2 (lf_mem hi) e1 e2 hw)
        have HMVB' : Hid (∀ (w : World) (i : Nat), i < (reachO f' L' rb_).length → Src w (T' i).a (T' i).n (T' i).f → Movable w (reachO f' L' rb_) idV (T' i)) := Lib.hid (fun w i hi hw => by
          obtain ⟨x, e1, e2⟩ := HT'.out i hi
          exact movable_of (isAsk_zero HK'.out).1 (isAsk_zero HK'.out).2.1 (isAsk_zero HK'.out).2.2.2 (lf_mem hi) e1 e2 hw)
        have HTN : Hid (∀ i, i < (reachO f L ra_).length → (T i).n ≤ 1048576) := Lib.hid (fun i hi => by
          obtain ⟨x, e1, e2⟩ := HT.out i hi
          have h9 : (T i).n = x.s.toNat := e2.2.2.2.2.2.1
          have := ((right_of (isAsk_zero HK.out).1 (isAsk_zero HK.out).2.1).ok x (List.mem_of_find?_eq_some e1)).1.1
          omega)
        have HTN' : Hid (∀ i, i < (reachO f' L' rb_).length → (T' i).n ≤ 1048576) := Lib.hid (fun i hi => by
          obtain ⟨x, e1, e2⟩ := HT'.out i hi
          have h9 : (T' i).n = x.s.toNat := e2.2.2.2.2.2.1
          have := ((right_of (isAsk_zero HK'.out).1 (isAsk_zero HK'.out).2.1).ok x (List.mem_of_find?_eq_some e1)).1.1
          omega)
        have HG := Lib.hid hG; have HM := Lib.hid hM; have HG' := Lib.hid hG'; have HM' := Lib.hid hM'
        clear hG hM hT hG' hM' hT' HZ1 HZ2 HR HT HT' HK HK' HZ HZZ
        obtain ⟨R, hR⟩ : ∃ R, reachO f L ra_ = R := ⟨_, rfl⟩
        obtain ⟨R', hR'⟩ : ∃ R, reachO f' L' rb_ = R := ⟨_, rfl⟩
        rw [hR] at HG HM hl1 HVB HRI HSI HAL HMVB HTN X_2
        rw [hR'] at HG' HM' hl2 HVB' HRI HSI HAL HMVB' HTN' Y_2
        clear hR hR'
        have HRS3 := Lib.hid (HRS.out.below HB3.out); have HRS3' := Lib.hid (HRS'.out.below HB3.out)
        have HWd : Hid (Below w3.heap.size w3 w3.drew) := Lib.hid ((Below.refl _ _).drew)
        by_cases hq : ra_.length = rb_.length ∧ ∀ i, i < ra_.length → numL R (lf ra_ i) = numL R' (lf rb_ i)
        · have hre := Lib.hid (HRI.out.2 hq)
          have HR2 : Hid (∀ (U U' : Nat → GM), (∀ i, i < R.length → GSame (U i) (mvT R idV (T i))) → (∀ i, i < R'.length → GSame (U' i) (mvT R' idV (T' i))) → (r = true ↔ R.length = R'.length ∧ ∀ i, i < R.length → GSame (U i) (U' i))) := Lib.hid (fun U U' hU hU' => by
            rw [HSI.out U U' hU hU']
            exact HAL.out.trans ⟨fun h => ⟨h.2.1, h.2.2.1⟩, fun h => ⟨hq.1, h.1, h.2, hq.2⟩⟩)
          have HQ := Lib.hid hq
          clear hq HSI HAL HRI
          go_upto_region 4 with (fail)
          clear lX cX0 lY cY0
          go_region_held3 (fun w' => w'.cell? ⟨bx, 0, none⟩ = some (.int .i64 0) ∧ w'.cell? ⟨bx, 1, none⟩ = some (.slice a1 R.length c1) ∧ w'.cell? ⟨bx, 2, none⟩ = some (.map (some mb)) ∧ w'.cell? ⟨by_, 0, none⟩ = some (.int .i64 0) ∧ w'.cell? ⟨by_, 1, none⟩ = some (.slice a2 R'.length c2) ∧ w'.cell? ⟨by_, 2, none⟩ = some (.map (some mb')))
            (first | (with_reducible exact six_bel X_2.out Y_2.out HWd.out) | (with_reducible exact six_bel X_2.out Y_2.out HW4.out) | (with_reducible exact six_bel X_2.out Y_2.out HW5.out) | (with_reducible exact six_bel X_2.out Y_2.out HW6.out) | (with_reducible exact six_bel X_2.out Y_2.out HW7.out) | (with_reducible exact six_bel X_2.out Y_2.out HW8.out) | (with_reducible exact six_bel X_2.out Y_2.out HW9.out))
            (first | (go_at_call 65; (first | ((with_reducible refine (movedRoots_any ra ra_ rc mb R.length R idV _ (HRS3.out.below HWd.out) (by omega) (HM.out.below HWd.out) HPL.out).mono ?_); rintro e w4 ⟨q4, d4, rfl, ho, hb, _, _, _⟩; have HW4 := Lib.hid (HWd.out.trans (hb.mono HWd.out.size)); have HQ4 := Lib.hid ho.src; clear hb ho) | ((with_reducible refine (movedRoots_any rb rb_ rd mb' R'.length R' idV _ (HRS3'.out.below HW4.out) (by omega) (HM'.out.below HW4.out) HPL'.out).mono ?_); rintro e w5 ⟨q5, d5, rfl, ho, hb, _, _, _⟩; have HW5 := Lib.hid (HW4.out.trans (hb.mono HW4.out.size)); have HQ5 := Lib.hid ho.src; have HQ45 := Lib.hid (HQ4.out.below hb); clear hb ho))) | (go_at_call 69; (refine (slEqual_is true q4 q5 ra_.length rb_.length d4 d5 _ _ _ hre.out HQ45.out HQ5.out (by omega) (by omega)).mono ?_; rintro e w6 ⟨rfl, hb⟩; have HW6 := Lib.hid (HW5.out.trans (hb.mono HW5.out.size)); clear hb)) | (go_at_call 61; (first | ((with_reducible refine (movedAll_any a1 R.length c1 mb R.length T R idV _ (HG.out.below HW6.out) hl1 (HM.out.below HW6.out) (fun i hi => HMVB.out _ i hi (gv_src (HG.out.below HW6.out) i hi)) HVB.out).mono ?_); rintro e w7 ⟨a7, c7, U, rfl, hgv, hsm, hb⟩; have HW7 := Lib.hid (HW6.out.trans (hb.mono HW6.out.size)); have HU7 := Lib.hid hgv.gv; have HS7 := Lib.hid hsm; clear hb hgv hsm) | ((with_reducible refine (movedAll_any a2 R'.length c2 mb' R'.length T' R' idV _ (HG'.out.below HW7.out) hl2 (HM'.out.below HW7.out) (fun i hi => HMVB'.out _ i hi (gv_src (HG'.out.below HW7.out) i hi)) HVB'.out).mono ?_); rintro e w8 ⟨a8, c8, U', rfl, hgv, hsm, hb⟩; have HW8 := Lib.hid (HW7.out.trans (hb.mono HW7.out.size)); have HU8 := Lib.hid hgv.gv; have HS8 := Lib.hid hsm; have HU78 := Lib.hid (HU7.out.below hb); clear hb hgv hsm))) | (go_at_call 70; (refine (implSO a7 a8 R.length R'.length c7 c8 U U' r _ HU78.out HU8.out (HR2.out U U' HS7.out HS8.out) (by omega) (by omega) (fun i hi => by rw [(HS7.out i hi).2.2.2.2.2.1]; exact HTN.out i hi) (fun i hi => by rw [(HS8.out i hi).2.2.2.2.2.1]; exact HTN'.out i hi)).mono ?_; rintro e w9 ⟨rfl, hb⟩; have HW9 := Lib.hid (HW8.out.trans (hb.mono HW8.out.size)); clear hb)))
          go_wp2
          go_ret
          exact ⟨rfl, HB3.out.trans (HW9.out.mono HB3.out.size)⟩
        · have hrf : r = false := by
            cases r with
            | false => rfl
            | true => exact absurd ⟨(HAL.out.1 rfl).1, (HAL.out.1 rfl).2.2.2⟩ hq
          subst hrf
          have hre : Hid (eqB ra_.length rb_.length (lf (ra_.map fun p => (tab R idV p).getD 0)) (lf (rb_.map fun p => (tab R' idV p).getD 0)) = false) := Lib.hid (by
            cases he : eqB ra_.length rb_.length (lf (ra_.map fun p => (tab R idV p).getD 0)) (lf (rb_.map fun p => (tab R' idV p).getD 0)) with
            | false => rfl
            | true => exact absurd (HRI.out.1 he) hq)
          clear hq HSI HAL HRI
          go_upto_region 4 with (fail)
          clear lX cX0 lY cY0
          refine wp_region_held_drew (S := (fun w' => w'.cell? ⟨bx, 0, none⟩ = some (.int .i64 0) ∧ w'.cell? ⟨bx, 1, none⟩ = some (.slice a1 R.length c1) ∧ w'.cell? ⟨bx, 2, none⟩ = some (.map (some mb)) ∧ w'.cell? ⟨by_, 0, none⟩ = some (.int .i64 0) ∧ w'.cell? ⟨by_, 1, none⟩ = some (.slice a2 R'.length c2) ∧ w'.cell? ⟨by_, 2, none⟩ = some (.map (some mb')))) (by kernel_rfl) (six_bel X_2.out Y_2.out HWd.out) (fun hHeld => ?_)
          refine wpAnyH_take (i := 0) (oi := { dst := some 25, op := Op.move (Operand.tmp 1), type := 24, pos := "l04_copy.go:182", after := #[], guard := none }) (v := ?_) rfl (by kernel_rfl) (by kernel_rfl) (by kernel_rfl) (fun _ _ _ h => h) (Or.inl ⟨by rfl, ?_⟩) (by assumption) ?_
          rotate_left
          · intro w hSw; (try dsimp only at hSw); go_simp; (try with_reducible rfl)
          try simp only [Act.put, List.setIfInBounds_toArray, List.set_cons_zero, List.set_cons_succ]
          refine wpAnyH_take (i := 1) (oi := { dst := some 26, op := Op.fieldAddr 101 (Operand.tmp 9) 2, type := 0, pos := "l04_copy.go:182", after := #[], guard := none }) (v := ?_) rfl (by kernel_rfl) (by kernel_rfl) (by kernel_rfl) (fun _ _ _ h => h) (Or.inl ⟨by rfl, ?_⟩) (by assumption) ?_
          rotate_left
          · intro w hSw; (try dsimp only at hSw); go_simp; (try with_reducible rfl)
          try simp only [Act.put, List.setIfInBounds_toArray, List.set_cons_zero, List.set_cons_succ]
          refine wpAnyH_take (i := 2) (oi := { dst := some 27, op := Op.load 99 (Operand.tmp 26), type := 99, pos := "l04_copy.go:182", after := #[{ on := 1, ground := Ground.data }], guard := none }) (v := ?_) rfl (by kernel_rfl) (by kernel_rfl) (by kernel_rfl) (fun _ _ _ h => h) (Or.inl ⟨by rfl, ?_⟩) (by assumption) ?_
          rotate_left
          · intro w hSw; (try dsimp only at hSw); go_simp; (try with_reducible rfl)
          try simp only [Act.put, List.setIfInBounds_toArray, List.set_cons_zero, List.set_cons_succ]
          refine wpAnyH_take (i := 4) (oi := { dst := some 29, op := Op.move (Operand.tmp 3), type := 24, pos := "l04_copy.go:182", after := #[], guard := none }) (v := ?_) rfl (by kernel_rfl) (by kernel_rfl) (by kernel_rfl) (fun _ _ _ h => h) (Or.inl ⟨by rfl, ?_⟩) (by assumption) ?_
          rotate_left
          · intro w hSw; (try dsimp only at hSw); go_simp; (try with_reducible rfl)
          try simp only [Act.put, List.setIfInBounds_toArray, List.set_cons_zero, List.set_cons_succ]
          refine wpAnyH_take (i := 5) (oi := { dst := some 30, op := Op.fieldAddr 101 (Operand.tmp 10) 2, type := 0, pos := "l04_copy.go:182", after := #[], guard := none }) (v := ?_) rfl (by kernel_rfl) (by kernel_rfl) (by kernel_rfl) (fun _ _ _ h => h) (Or.inl ⟨by rfl, ?_⟩) (by assumption) ?_
          rotate_left
          · intro w hSw; (try dsimp only at hSw); go_simp; (try with_reducible rfl)
          try simp only [Act.put, List.setIfInBounds_toArray, List.set_cons_zero, List.set_cons_succ]
          refine wpAnyH_take (i := 6) (oi := { dst := some 31, op := Op.load 99 (Operand.tmp 30), type := 99, pos := "l04_copy.go:182", after := #[{ on := 5, ground := Ground.data }], guard := none }) (v := ?_) rfl (by kernel_rfl) (by kernel_rfl) (by kernel_rfl) (fun _ _ _ h => h) (Or.inl ⟨by rfl, ?_⟩) (by assumption) ?_
          rotate_left
          · intro w hSw; (try dsimp only at hSw); go_simp; (try with_reducible rfl)
          try simp only [Act.put, List.setIfInBounds_toArray, List.set_cons_zero, List.set_cons_succ]
          refine wpAnyH_ready (rs := [3]) (by kernel_rfl) (by simp) ?_
          refine AllReadyH.cons (o := _) rfl (fun K hK => ?_) AllReadyH.nil
          go_simp
          (go_at_call 65; (with_reducible refine (movedRoots_any ra ra_ rc mb R.length R idV _ (HRS3.out.below HWd.out) (by omega) (HM.out.below HWd.out) HPL.out).mono ?_); rintro e w4 ⟨q4, d4, rfl, ho, hb, _, _, _⟩; have HW4 := Lib.hid (HWd.out.trans (hb.mono HWd.out.size)); have HQ4 := Lib.hid ho.src; clear hb ho)
          first | (refine hK.out _ _ (six_bel X_2.out Y_2.out HW4.out) (fun hHeld => ?_)) | (go_wp2_with fail; refine hK.out _ _ (six_bel X_2.out Y_2.out HW4.out) (fun hHeld => ?_))
          clear hK K
          try simp only [Act.put, List.setIfInBounds_toArray, List.set_cons_zero, List.set_cons_succ]
          refine wpAnyH_ready (rs := [7]) (by kernel_rfl) (by simp) ?_
          refine AllReadyH.cons (o := _) rfl (fun K hK => ?_) AllReadyH.nil
          go_simp
          (go_at_call 65; (with_reducible refine (movedRoots_any rb rb_ rd mb' R'.length R' idV _ (HRS3'.out.below HW4.out) (by omega) (HM'.out.below HW4.out) HPL'.out).mono ?_); rintro e w5 ⟨q5, d5, rfl, ho, hb, _, _, _⟩; have HW5 := Lib.hid (HW4.out.trans (hb.mono HW4.out.size)); have HQ5 := Lib.hid ho.src; have HQ45 := Lib.hid (HQ4.out.below hb); clear hb ho)
          first | (refine hK.out _ _ (six_bel X_2.out Y_2.out HW5.out) (fun hHeld => ?_)) | (go_wp2_with fail; refine hK.out _ _ (six_bel X_2.out Y_2.out HW5.out) (fun hHeld => ?_))
          clear hK K
          try simp only [Act.put, List.setIfInBounds_toArray, List.set_cons_zero, List.set_cons_succ]
          refine wpAnyH_ready (rs := [8]) (by kernel_rfl) (by simp) ?_
          refine AllReadyH.cons (o := _) rfl (fun K hK => ?_) AllReadyH.nil
          go_simp
          (go_at_call 69; (refine (slEqual_is false q4 q5 ra_.length rb_.length d4 d5 _ _ _ hre.out HQ45.out HQ5.out (by omega) (by omega)).mono ?_); rintro e w6 ⟨rfl, hb⟩; have HW6 := Lib.hid (HW5.out.trans (hb.mono HW5.out.size)); clear hb)
          first | (refine hK.out _ _ (six_bel X_2.out Y_2.out HW6.out) (fun hHeld => ?_)) | (go_wp2_with fail; refine hK.out _ _ (six_bel X_2.out Y_2.out HW6.out) (fun hHeld => ?_))
          clear hK K
          try simp only [Act.put, List.setIfInBounds_toArray, List.set_cons_zero, List.set_cons_succ]
          refine wpAnyH_take (i := 9) (oi := { dst := some 34, op := Op.move (Operand.tmp 33), type := 4, pos := "l04_copy.go:182", after := #[{ on := 8, ground := Ground.data }, { on := 8, ground := Ground.chain }], guard := none }) (v := ?_) rfl (by kernel_rfl) (by kernel_rfl) (by kernel_rfl) (fun _ _ _ h => h) (Or.inl ⟨by rfl, ?_⟩) (by assumption) ?_
          rotate_left
          · intro w hSw; (try dsimp only at hSw); go_simp; (try with_reducible rfl)
          try simp only [Act.put, List.setIfInBounds_toArray, List.set_cons_zero, List.set_cons_succ]
          refine wpAnyH_take (i := 10) (oi := { dst := some 35, op := Op.fieldAddr 101 (Operand.tmp 9) 1, type := 0, pos := "l04_copy.go:182", after := #[{ on := 9, ground := Ground.guard }], guard := some (9, true) }) (v := _) rfl (by kernel_rfl) (by kernel_rfl) (by kernel_rfl) (fun _ _ _ h => h) (Or.inr ⟨by rfl, rfl⟩) (by assumption) ?_
          try simp only [Act.put, List.setIfInBounds_toArray, List.set_cons_zero, List.set_cons_succ]
          refine wpAnyH_take (i := 11) (oi := { dst := some 36, op := Op.load 98 (Operand.tmp 35), type := 98, pos := "l04_copy.go:182", after := #[{ on := 10, ground := Ground.data }, { on := 9, ground := Ground.guard }], guard := some (9, true) }) (v := _) rfl (by kernel_rfl) (by kernel_rfl) (by kernel_rfl) (fun _ _ _ h => h) (Or.inr ⟨by rfl, rfl⟩) (by assumption) ?_
          try simp only [Act.put, List.setIfInBounds_toArray, List.set_cons_zero, List.set_cons_succ]
          refine wpAnyH_take (i := 12) (oi := { dst := some 37, op := Op.fieldAddr 101 (Operand.tmp 9) 2, type := 0, pos := "l04_copy.go:182", after := #[{ on := 9, ground := Ground.guard }], guard := some (9, true) }) (v := _) rfl (by kernel_rfl) (by kernel_rfl) (by kernel_rfl) (fun _ _ _ h => h) (Or.inr ⟨by rfl, rfl⟩) (by assumption) ?_
          try simp only [Act.put, List.setIfInBounds_toArray, List.set_cons_zero, List.set_cons_succ]
          refine wpAnyH_take (i := 13) (oi := { dst := some 38, op := Op.load 99 (Operand.tmp 37), type := 99, pos := "l04_copy.go:182", after := #[{ on := 12, ground := Ground.data }, { on := 9, ground := Ground.guard }], guard := some (9, true) }) (v := _) rfl (by kernel_rfl) (by kernel_rfl) (by kernel_rfl) (fun _ _ _ h => h) (Or.inr ⟨by rfl, rfl⟩) (by assumption) ?_
          try simp only [Act.put, List.setIfInBounds_toArray, List.set_cons_zero, List.set_cons_succ]
          refine wpAnyH_take (i := 15) (oi := { dst := some 40, op := Op.fieldAddr 101 (Operand.tmp 10) 1, type := 0, pos := "l04_copy.go:182", after := #[{ on := 9, ground := Ground.guard }], guard := some (9, true) }) (v := _) rfl (by kernel_rfl) (by kernel_rfl) (by kernel_rfl) (fun _ _ _ h => h) (Or.inr ⟨by rfl, rfl⟩) (by assumption) ?_
          try simp only [Act.put, List.setIfInBounds_toArray, List.set_cons_zero, List.set_cons_succ]
          refine wpAnyH_take (i := 16) (oi := { dst := some 41, op := Op.load 98 (Operand.tmp 40), type := 98, pos := "l04_copy.go:182", after := #[{ on := 15, ground := Ground.data }, { on := 9, ground := Ground.guard }], guard := some (9, true) }) (v := _) rfl (by kernel_rfl) (by kernel_rfl) (by kernel_rfl) (fun _ _ _ h => h) (Or.inr ⟨by rfl, rfl⟩) (by assumption) ?_
          try simp only [Act.put, List.setIfInBounds_toArray, List.set_cons_zero, List.set_cons_succ]
          refine wpAnyH_take (i := 17) (oi := { dst := some 42, op := Op.fieldAddr 101 (Operand.tmp 10) 2, type := 0, pos := "l04_copy.go:182", after := #[{ on := 9, ground := Ground.guard }], guard := some (9, true) }) (v := _) rfl (by kernel_rfl) (by kernel_rfl) (by kernel_rfl) (fun _ _ _ h => h) (Or.inr ⟨by rfl, rfl⟩) (by assumption) ?_
          try simp only [Act.put, List.setIfInBounds_toArray, List.set_cons_zero, List.set_cons_succ]
          refine wpAnyH_take (i := 18) (oi := { dst := some 43, op := Op.load 99 (Operand.tmp 42), type := 99, pos := "l04_copy.go:182", after := #[{ on := 17, ground := Ground.data }, { on := 9, ground := Ground.guard }], guard := some (9, true) }) (v := _) rfl (by kernel_rfl) (by kernel_rfl) (by kernel_rfl) (fun _ _ _ h => h) (Or.inr ⟨by rfl, rfl⟩) (by assumption) ?_
          try simp only [Act.put, List.setIfInBounds_toArray, List.set_cons_zero, List.set_cons_succ]
          refine wpAnyH_ready (rs := [14]) (by kernel_rfl) (by simp) ?_
          refine AllReadyH.cons (o := _) rfl (fun K hK => ?_) AllReadyH.nil
          go_simp
          refine hK.out _ _ (six_bel X_2.out Y_2.out HW6.out) (fun hHeld => ?_)
          clear hK K
          try simp only [Act.put, List.setIfInBounds_toArray, List.set_cons_zero, List.set_cons_succ]
          refine wpAnyH_ready (rs := [19]) (by kernel_rfl) (by simp) ?_
          refine AllReadyH.cons (o := _) rfl (fun K hK => ?_) AllReadyH.nil
          go_simp
          refine hK.out _ _ (six_bel X_2.out Y_2.out HW6.out) (fun hHeld => ?_)
          clear hK K
          try simp only [Act.put, List.setIfInBounds_toArray, List.set_cons_zero, List.set_cons_succ]
          refine wpAnyH_ready (rs := [20]) (by kernel_rfl) (by simp) ?_
          refine AllReadyH.cons (o := _) rfl (fun K hK => ?_) AllReadyH.nil
          go_simp
          refine hK.out _ _ (six_bel X_2.out Y_2.out HW6.out) (fun hHeld => ?_)
          clear hK K
          try simp only [Act.put, List.setIfInBounds_toArray, List.set_cons_zero, List.set_cons_succ]
          refine wpAnyH_take (i := 21) (oi := { dst := some 46, op := Op.pick (Operand.tmp 34) (Operand.tmp 45) (Operand.const (Value.bool false)), type := 4, pos := "l04_copy.go:182", after := #[{ on := 9, ground := Ground.data }, { on := 20, ground := Ground.data }], guard := none }) (v := ?_) rfl (by kernel_rfl) (by kernel_rfl) (by kernel_rfl) (fun _ _ _ h => h) (Or.inl ⟨by rfl, ?_⟩) (by assumption) ?_
          rotate_left
          · intro w hSw; (try dsimp only at hSw); go_simp; (try with_reducible rfl)
          try simp only [Act.put, List.setIfInBounds_toArray, List.set_cons_zero, List.set_cons_succ]
          refine wpAnyH_take (i := 22) (oi := { dst := some 8, op := Op.assign (Operand.tmp 46), type := 4, pos := "l04_copy.go:182", after := #[{ on := 21, ground := Ground.data }, { on := 20, ground := Ground.chain }, { on := 0, ground := Ground.phase }, { on := 1, ground := Ground.phase }, { on := 2, ground := Ground.phase }, { on := 3, ground := Ground.phase }, { on := 4, ground := Ground.phase }, { on := 5, ground := Ground.phase }, { on := 6, ground := Ground.phase }, { on := 7, ground := Ground.phase }, { on := 8, ground := Ground.phase }, { on := 9, ground := Ground.phase }, { on := 10, ground := Ground.phase }, { on := 11, ground := Ground.phase }, { on := 12, ground := Ground.phase }, { on := 13, ground := Ground.phase }, { on := 14, ground := Ground.phase }, { on := 15, ground := Ground.phase }, { on := 16, ground := Ground.phase }, { on := 17, ground := Ground.phase }, { on := 18, ground := Ground.phase }, { on := 19, ground := Ground.phase }, { on := 20, ground := Ground.phase }, { on := 21, ground := Ground.phase }], guard := none }) (v := ?_) rfl (by kernel_rfl) (by kernel_rfl) (by kernel_rfl) (fun _ _ _ h => h) (Or.inl ⟨by rfl, ?_⟩) (by assumption) ?_
          rotate_left
          · intro w hSw; (try dsimp only at hSw); go_simp; (try with_reducible rfl)
          try simp only [Act.put, List.setIfInBounds_toArray, List.set_cons_zero, List.set_cons_succ]
          refine wpAnyH_done (by kernel_rfl) ?_ _
          go_wp2
          go_ret
          exact ⟨rfl, HB3.out.trans (HW6.out.mono HB3.out.size)⟩
      · subst h0
        have hd1 : (co' != 0) = true := by simpa using h1
        have hrf : r = false := by
          cases r with
          | false => rfl
          | true => exact absurd (HR.out.1 rfl) (fun h => h1 h.2.1)
        subst hrf
        clear h1
        go_wp2
        go_ret
        exact ⟨rfl, HB3.out⟩
    · have hd0 : (co != 0) = true := by simpa using h0
      have hrf : r = false := by
        cases r with
        | false => rfl
        | true => exact absurd (HR.out.1 rfl) (fun h => h0 h.1)
      subst hrf
      clear h0
      go_wp2
      go_ret
      exact ⟨rfl, HB3.out⟩
end Go.Proofs.Ytbhjmomphajnnaa

namespace Go.Proofs.Ytbhjmomphajnnaa
open Go.RowKit Go.Maps
set_option linter.unusedVariables false

structure LA (W w : World) (P : Nat) (h ac bu : Int) (a : Option Addr) (n c : Nat) (f : Nat → Int) (ra : Option Addr) (l : List Int) (h' ac' bu' : Int) (a' : Option Addr) (n' c' : Nat) (f' : Nat → Int) (rb : Option Addr) (l' : List Int) : Prop where
  bel : Below W.heap.size W w
  ab : Blk w P [.int .i64 h, .slice a n c, .int .i64 ac, .int .i64 bu]
  bb : Blk w (P + 1) [.int .i64 h', .slice a' n' c', .int .i64 ac', .int .i64 bu']
  wa : Src w a n f
  ra : Src w ra l.length (lf l)
  wb : Src w a' n' f'
  rb : Src w rb l'.length (lf l')

section

variable {W w w' : World} {P : Nat} {h ac bu : Int} {a : Option Addr} {n c : Nat} {f : Nat → Int} {ra : Option Addr} {l : List Int} {h' ac' bu' : Int} {a' : Option Addr} {n' c' : Nat} {f' : Nat → Int} {rb : Option Addr} {l' : List Int}

theorem LA.below (d : LA W w P h ac bu a n c f ra l h' ac' bu' a' n' c' f' rb l') (hb : Below w.heap.size w w') : LA W w' P h ac bu a n c f ra l h' ac' bu' a' n' c' f' rb l' :=
  ⟨d.bel.trans (hb.mono d.bel.size), d.ab.below hb, d.bb.below hb, d.wa.below hb, d.ra.below hb, d.wb.below hb, d.rb.below hb⟩

theorem LA.drew (d : LA W w P h ac bu a n c f ra l h' ac' bu' a' n' c' f' rb l') : LA W w.drew P h ac bu a n c f ra l h' ac' bu' a' n' c' f' rb l' := d.below (Below.refl _ _).drew

end
end Go.Proofs.Ytbhjmomphajnnaa

namespace Go.Proofs.Ytbhjmomphajnnaa
open Go.RowKit
set_option linter.unusedVariables false

/-- A node in memory: as an object, with no owner. -/
def FivG (w : World) (b o : Nat) (t : GM) : Prop := w.cell? ⟨b, o, none⟩ = some (.int .i64 t.at_) ∧ w.cell? ⟨b, o + 1, none⟩ = some (.int .i64 t.s) ∧ w.cell? ⟨b, o + 2, none⟩ = some (.int .i64 t.m) ∧ w.cell? ⟨b, o + 3, none⟩ = some (.int .i64 t.h) ∧ w.cell? ⟨b, o + 4, none⟩ = some (.slice t.a t.n t.c)

def FivF (w : World) (b o : Nat) : Prop := w.frozen? ⟨b, o, none⟩ = false ∧ w.frozen? ⟨b, o + 1, none⟩ = false ∧ w.frozen? ⟨b, o + 2, none⟩ = false ∧ w.frozen? ⟨b, o + 3, none⟩ = false ∧ w.frozen? ⟨b, o + 4, none⟩ = false

theorem FivG.block {w w' : World} {b o : Nat} {t : GM} (h : FivG w b o t) (e : w'.heap[b]? = w.heap[b]?) : FivG w' b o t :=
  ⟨(World.cell?_of_block (w := w) (a := ⟨b, o, none⟩) e).trans h.1, (World.cell?_of_block (w := w) (a := ⟨b, o + 1, none⟩) e).trans h.2.1, (World.cell?_of_block (w := w) (a := ⟨b, o + 2, none⟩) e).trans h.2.2.1, (World.cell?_of_block (w := w) (a := ⟨b, o + 3, none⟩) e).trans h.2.2.2.1, (World.cell?_of_block (w := w) (a := ⟨b, o + 4, none⟩) e).trans h.2.2.2.2⟩

theorem FivF.block {w w' : World} {b o : Nat} (h : FivF w b o) (e : w'.heap[b]? = w.heap[b]?) : FivF w' b o :=
  ⟨(World.frozen?_of_block (w := w) (a := ⟨b, o, none⟩) e).trans h.1, (World.frozen?_of_block (w := w) (a := ⟨b, o + 1, none⟩) e).trans h.2.1, (World.frozen?_of_block (w := w) (a := ⟨b, o + 2, none⟩) e).trans h.2.2.1, (World.frozen?_of_block (w := w) (a := ⟨b, o + 3, none⟩) e).trans h.2.2.2.1, (World.frozen?_of_block (w := w) (a := ⟨b, o + 4, none⟩) e).trans h.2.2.2.2⟩

theorem FivG.below {w w' : World} {b o : Nat} {t : GM} (h : FivG w b o t) (hb : Below w.heap.size w w') (hl : b < w.heap.size) : FivG w' b o t := h.block (hb.block b hl)

theorem FivF.below {w w' : World} {b o : Nat} (h : FivF w b o) (hb : Below w.heap.size w w') (hl : b < w.heap.size) : FivF w' b o := h.block (hb.block b hl)

/-- A row of objects is read. -/
structure NSrc (w : World) (b q N : Nat) (T : Nat → GM) : Prop where
  lt : b < w.heap.size
  six : ∀ i, i < N → FivG w b (q + i * 5) (T i)
  flds : ∀ i, i < N → Src w (T i).a (T i).n (T i).f

/-- A row of objects of the call's own, in blocks from lo to hi. -/
structure NOwn (w : World) (lo hi b q N : Nat) (T : Nat → GM) : Prop where
  glo : lo ≤ b
  ghi : b < hi
  lt : b < w.heap.size
  six : ∀ i, i < N → FivG w b (q + i * 5) (T i)
  free : ∀ i, i < N → FivF w b (q + i * 5)
  flds : ∀ i, i < N → OwnIn w lo hi (T i).a (T i).n (T i).f
  off : ∀ i, i < N → (T i).n = 0 ∨ (T i).g ≠ b
  apart : ∀ i j, i < N → j < N → i ≠ j → (T i).n = 0 ∨ (T j).n = 0 ∨ (T i).g ≠ (T j).g

theorem NOwn.src {w : World} {lo hi b q N : Nat} {T : Nat → GM} (h : NOwn w lo hi b q N T) : NSrc w b q N T := ⟨h.lt, h.six, fun i hi => (h.flds i hi).src⟩

theorem NSrc.below {w w' : World} {b q N : Nat} {T : Nat → GM} (h : NSrc w b q N T) (hb : Below w.heap.size w w') : NSrc w' b q N T :=
  ⟨Nat.lt_of_lt_of_le h.lt hb.size, fun i hi => (h.six i hi).below hb h.lt, fun i hi => (h.flds i hi).below hb⟩

theorem NOwn.below {w w' : World} {lo hi b q N : Nat} {T : Nat → GM} (h : NOwn w lo hi b q N T) (hb : Below w.heap.size w w') : NOwn w' lo hi b q N T :=
  ⟨h.glo, h.ghi, Nat.lt_of_lt_of_le h.lt hb.size, fun i hi => (h.six i hi).below hb h.lt, fun i hi => (h.free i hi).below hb h.lt, fun i hi => (h.flds i hi).below hb, h.off, h.apart⟩

theorem NSrc.drew {w : World} {b q N : Nat} {T : Nat → GM} (h : NSrc w b q N T) : NSrc w.drew b q N T := h.below (Below.refl _ _).drew

theorem NSrc.alloc {w : World} {b q N : Nat} {T : Nat → GM} (h : NSrc w b q N T) (o : Obj) : NSrc (w.alloc o) b q N T := h.below ((Below.refl _ _).alloc (Nat.le_refl _) o)

theorem NOwn.drew {w : World} {lo hi b q N : Nat} {T : Nat → GM} (h : NOwn w lo hi b q N T) : NOwn w.drew lo hi b q N T := h.below (Below.refl _ _).drew

theorem NOwn.alloc {w : World} {lo hi b q N : Nat} {T : Nat → GM} (h : NOwn w lo hi b q N T) (o : Obj) : NOwn (w.alloc o) lo hi b q N T := h.below ((Below.refl _ _).alloc (Nat.le_refl _) o)
end Go.Proofs.Ytbhjmomphajnnaa

namespace Go.Proofs.Ytbhjmomphajnnaa
open Go.RowKit
set_option linter.unusedVariables false

def NV (w : World) (a : Option Addr) (N : Nat) (T : Nat → GM) : Prop := N = 0 ∨ ∃ b q, a = some ⟨b, q, none⟩ ∧ NSrc w b q N T

def NVO (w : World) (lo hi : Nat) (a : Option Addr) (N : Nat) (T : Nat → GM) : Prop := N = 0 ∨ ∃ b q, a = some ⟨b, q, none⟩ ∧ NOwn w lo hi b q N T

theorem NVO.src {w : World} {lo hi N : Nat} {a : Option Addr} {T : Nat → GM} (h : NVO w lo hi a N T) : NV w a N T := by
  rcases h with h0 | ⟨b, q, e, h⟩
  · exact .inl h0
  · exact .inr ⟨b, q, e, h.src⟩

theorem NV.below {w w' : World} {a : Option Addr} {N : Nat} {T : Nat → GM} (h : NV w a N T) (hb : Below w.heap.size w w') : NV w' a N T := by
  rcases h with h0 | ⟨b, q, e, h⟩
  · exact .inl h0
  · exact .inr ⟨b, q, e, h.below hb⟩

theorem NVO.below {w w' : World} {lo hi N : Nat} {a : Option Addr} {T : Nat → GM} (h : NVO w lo hi a N T) (hb : Below w.heap.size w w') : NVO w' lo hi a N T := by
  rcases h with h0 | ⟨b, q, e, h⟩
  · exact .inl h0
  · exact .inr ⟨b, q, e, h.below hb⟩

theorem NV.drew {w : World} {a : Option Addr} {N : Nat} {T : Nat → GM} (h : NV w a N T) : NV w.drew a N T := h.below (Below.refl _ _).drew

theorem NV.alloc {w : World} {a : Option Addr} {N : Nat} {T : Nat → GM} (h : NV w a N T) (o : Obj) : NV (w.alloc o) a N T := h.below ((Below.refl _ _).alloc (Nat.le_refl _) o)

theorem NVO.drew {w : World} {lo hi N : Nat} {a : Option Addr} {T : Nat → GM} (h : NVO w lo hi a N T) : NVO w.drew lo hi a N T := h.below (Below.refl _ _).drew

theorem NVO.alloc {w : World} {lo hi N : Nat} {a : Option Addr} {T : Nat → GM} (h : NVO w lo hi a N T) (o : Obj) : NVO (w.alloc o) lo hi a N T := h.below ((Below.refl _ _).alloc (Nat.le_refl _) o)
end Go.Proofs.Ytbhjmomphajnnaa

namespace Go.Proofs.Ytbhjmomphajnnaa
open Go.RowKit
set_option linter.unusedVariables false

/-- A slot in memory. -/
structure SL where
  g : Int
  nd : Int

def TwoG (w : World) (b o : Nat) (t : SL) : Prop := w.cell? ⟨b, o, none⟩ = some (.int .i64 t.g) ∧ w.cell? ⟨b, o + 1, none⟩ = some (.int .i64 t.nd)

def TwoF (w : World) (b o : Nat) : Prop := w.frozen? ⟨b, o, none⟩ = false ∧ w.frozen? ⟨b, o + 1, none⟩ = false

theorem TwoG.block {w w' : World} {b o : Nat} {t : SL} (h : TwoG w b o t) (e : w'.heap[b]? = w.heap[b]?) : TwoG w' b o t :=
  ⟨(World.cell?_of_block (w := w) (a := ⟨b, o, none⟩) e).trans h.1, (World.cell?_of_block (w := w) (a := ⟨b, o + 1, none⟩) e).trans h.2⟩

theorem TwoF.block {w w' : World} {b o : Nat} (h : TwoF w b o) (e : w'.heap[b]? = w.heap[b]?) : TwoF w' b o :=
  ⟨(World.frozen?_of_block (w := w) (a := ⟨b, o, none⟩) e).trans h.1, (World.frozen?_of_block (w := w) (a := ⟨b, o + 1, none⟩) e).trans h.2⟩

/-- A row of slots is read. -/
structure PSrc (w : World) (b q N : Nat) (T : Nat → SL) : Prop where
  lt : b < w.heap.size
  two : ∀ i, i < N → TwoG w b (q + i * 2) (T i)

/-- A row of slots of the call's own. -/
structure POwn (w : World) (lo hi b q N : Nat) (T : Nat → SL) : Prop where
  glo : lo ≤ b
  ghi : b < hi
  lt : b < w.heap.size
  two : ∀ i, i < N → TwoG w b (q + i * 2) (T i)
  free : ∀ i, i < N → TwoF w b (q + i * 2)

theorem POwn.src {w : World} {lo hi b q N : Nat} {T : Nat → SL} (h : POwn w lo hi b q N T) : PSrc w b q N T := ⟨h.lt, h.two⟩

theorem PSrc.below {w w' : World} {b q N : Nat} {T : Nat → SL} (h : PSrc w b q N T) (hb : Below w.heap.size w w') : PSrc w' b q N T :=
  ⟨Nat.lt_of_lt_of_le h.lt hb.size, fun i hi => (h.two i hi).block (hb.block b h.lt)⟩

theorem POwn.below {w w' : World} {lo hi b q N : Nat} {T : Nat → SL} (h : POwn w lo hi b q N T) (hb : Below w.heap.size w w') : POwn w' lo hi b q N T :=
  ⟨h.glo, h.ghi, Nat.lt_of_lt_of_le h.lt hb.size, fun i hi => (h.two i hi).block (hb.block b h.lt), fun i hi => (h.free i hi).block (hb.block b h.lt)⟩

def PV (w : World) (a : Option Addr) (N : Nat) (T : Nat → SL) : Prop := N = 0 ∨ ∃ b q, a = some ⟨b, q, none⟩ ∧ PSrc w b q N T

def PVO (w : World) (lo hi : Nat) (a : Option Addr) (N : Nat) (T : Nat → SL) : Prop := N = 0 ∨ ∃ b q, a = some ⟨b, q, none⟩ ∧ POwn w lo hi b q N T

theorem PVO.src {w : World} {lo hi N : Nat} {a : Option Addr} {T : Nat → SL} (h : PVO w lo hi a N T) : PV w a N T := by
  rcases h with h0 | ⟨b, q, ha, h⟩
  · exact .inl h0
  · exact .inr ⟨b, q, ha, h.src⟩

theorem PV.below {w w' : World} {N : Nat} {a : Option Addr} {T : Nat → SL} (h : PV w a N T) (hb : Below w.heap.size w w') : PV w' a N T := by
  rcases h with h0 | ⟨b, q, ha, h⟩
  · exact .inl h0
  · exact .inr ⟨b, q, ha, h.below hb⟩

theorem PVO.below {w w' : World} {lo hi N : Nat} {a : Option Addr} {T : Nat → SL} (h : PVO w lo hi a N T) (hb : Below w.heap.size w w') : PVO w' lo hi a N T := by
  rcases h with h0 | ⟨b, q, ha, h⟩
  · exact .inl h0
  · exact .inr ⟨b, q, ha, h.below hb⟩

theorem PV.drew {w : World} {N : Nat} {a : Option Addr} {T : Nat → SL} (h : PV w a N T) : PV w.drew a N T := h.below (Below.refl _ _).drew

theorem PV.alloc {w : World} {N : Nat} {a : Option Addr} {T : Nat → SL} (h : PV w a N T) (o : Obj) : PV (w.alloc o) a N T := h.below ((Below.refl _ _).alloc (Nat.le_refl _) o)

theorem PVO.drew {w : World} {lo hi N : Nat} {a : Option Addr} {T : Nat → SL} (h : PVO w lo hi a N T) : PVO w.drew lo hi a N T := h.below (Below.refl _ _).drew

theorem PVO.alloc {w : World} {lo hi N : Nat} {a : Option Addr} {T : Nat → SL} (h : PVO w lo hi a N T) (o : Obj) : PVO (w.alloc o) lo hi a N T := h.below ((Below.refl _ _).alloc (Nat.le_refl _) o)
end Go.Proofs.Ytbhjmomphajnnaa

namespace Go.Proofs.Ytbhjmomphajnnaa
open Go.RowKit Go.Maps
set_option linter.unusedVariables false

/-- What is carried through the draw of alike: the source, the bytes, the two answers' blocks, the arena, its words, the roots. -/
structure DA (W w : World) (ca : Option Addr) (k kc : Nat) (B : Nat → Int) (t P : Nat) (h ac bu : Int) (a : Option Addr) (n c : Nat) (f : Nat → Int) (ra : Option Addr) (l : List Int) : Prop where
  bel : Below W.heap.size W w
  src : Blk w (W.heap.size + 2) [.slice ca k kc, .int .i64 (t : Int)]
  byt : SrcB w (W.heap.size + 2) ca k B
  r0 : Blk w W.heap.size [.int .i64 0, .slice none 0 0, .int .i64 0, .int .i64 0]
  r1 : Blk w (W.heap.size + 1) [.int .i64 0, .slice none 0 0, .int .i64 0, .int .i64 0]
  arn : Blk w P [.int .i64 h, .slice a n c, .int .i64 ac, .int .i64 bu]
  wrd : OwnIn w (W.heap.size + 3) P a n f
  rts : OwnIn w (W.heap.size + 3) P ra l.length (lf l)
  hP : W.heap.size + 3 ≤ P

theorem DA.below {W w w' : World} {ca : Option Addr} {k kc t P : Nat} {B : Nat → Int} {h ac bu : Int} {a : Option Addr} {n c : Nat} {f : Nat → Int} {ra : Option Addr} {l : List Int} (d : DA W w ca k kc B t P h ac bu a n c f ra l) (hb : Below w.heap.size w w') : DA W w' ca k kc B t P h ac bu a n c f ra l :=
  ⟨d.bel.trans (hb.mono d.bel.size), d.src.below hb, d.byt.below hb, d.r0.below hb, d.r1.below hb, d.arn.below hb, d.wrd.below hb, d.rts.below hb, d.hP⟩

/-- .. and the second arena and list. -/
structure DB (W w : World) (ca : Option Addr) (k kc : Nat) (B : Nat → Int) (t P : Nat) (h ac bu : Int) (a : Option Addr) (n c : Nat) (f : Nat → Int) (ra : Option Addr) (l : List Int) (Q : Nat) (h' ac' bu' : Int) (a' : Option Addr) (n' c' : Nat) (f' : Nat → Int) (rb : Option Addr) (rd md : Nat) (l' : List Int) : Prop where
  da : DA W w ca k kc B t P h ac bu a n c f ra l
  bb : Blk w Q [.int .i64 h', .slice a' n' c', .int .i64 ac', .int .i64 bu']
  wb : OwnIn w (P + 1) md a' n' f'
  row : w.ownsRow md 2 1 (.slice rb l'.length rd) l'.length (nums l'.length (lf l'))
  hmd : P + 1 ≤ md
  hQ : P + 1 ≤ Q

theorem DB.below {W w w' : World} {ca : Option Addr} {k kc t P : Nat} {B : Nat → Int} {h ac bu : Int} {a : Option Addr} {n c : Nat} {f : Nat → Int} {ra : Option Addr} {l : List Int} {Q : Nat} {h' ac' bu' : Int} {a' : Option Addr} {n' c' : Nat} {f' : Nat → Int} {rb : Option Addr} {rd md : Nat} {l' : List Int} (d : DB W w ca k kc B t P h ac bu a n c f ra l Q h' ac' bu' a' n' c' f' rb rd md l') (hb : Below w.heap.size w w') : DB W w' ca k kc B t P h ac bu a n c f ra l Q h' ac' bu' a' n' c' f' rb rd md l' :=
  ⟨d.da.below hb, d.bb.below hb, d.wb.below hb, ownsRow_below d.row hb, d.hmd, d.hQ⟩

theorem own_row {w : World} {B e n c : Nat} {a : Option Addr} {l : List Int} (h : w.ownsRow B e 1 (.slice a n c) l.length (nums l.length (lf l))) : n = l.length ∧ Own w B a l.length (lf l) := by
  obtain ⟨a', c', he, ho⟩ := own_of_row' h
  simp only [Value.slice.injEq] at he
  obtain ⟨rfl, rfl, rfl⟩ := he
  exact ⟨rfl, ho⟩

theorem DB.own {W w : World} {ca : Option Addr} {k kc t P : Nat} {B : Nat → Int} {h ac bu : Int} {a : Option Addr} {n c : Nat} {f : Nat → Int} {ra : Option Addr} {l : List Int} {Q : Nat} {h' ac' bu' : Int} {a' : Option Addr} {n' c' : Nat} {f' : Nat → Int} {rb : Option Addr} {rd md : Nat} {l' : List Int} (d : DB W w ca k kc B t P h ac bu a n c f ra l Q h' ac' bu' a' n' c' f' rb rd md l') : Own w (P + 1) rb l'.length (lf l') := (own_row d.row).2.mono d.hmd
end Go.Proofs.Ytbhjmomphajnnaa

namespace Go.Proofs.Ytbhjmomphajnnaa
open Go.RowKit
set_option linter.unusedVariables false

def MRise (K : Nat) (T : Nat → GM) : Prop := ∀ i, i + 1 < K → (T i).at_ < (T (i + 1)).at_

/-- There is a node of this number. -/
def Has (K : Nat) (T : Nat → GM) (v : Int) : Prop := ∃ j, j < K ∧ (T j).at_ = v

/-- A field that is a pointer. -/
def IsP (t : GM) (k : Nat) : Prop := t.m / P2 (k : Int) % 2 = 1

def MLead (M : Nat) (S : Nat → SL) (K : Nat) (T : Nat → GM) : Prop := (∀ i, i < M → (S i).nd = 0 ∨ Has K T (S i).nd) ∧ ∀ i, i < K → ∀ k, k < (T i).n → IsP (T i) k → (T i).f k = 0 ∨ Has K T ((T i).f k)
end Go.Proofs.Ytbhjmomphajnnaa

namespace Go.Proofs.Ytbhjmomphajnnaa
open Go.RowKit
set_option linter.unusedVariables false

/-- What the closure reads. -/
structure CapN (w : World) (rb : Nat) (a : Option Addr) (N k : Nat) (T : Nat → GM) : Prop where
  blk : Blk w rb [.slice a N k]
  nv : NV w a N T

theorem CapN.below {w w' : World} {rb N k : Nat} {a : Option Addr} {T : Nat → GM} (h : CapN w rb a N k T) (hb : Below w.heap.size w w') : CapN w' rb a N k T := ⟨h.blk.below hb, h.nv.below hb⟩
end Go.Proofs.Ytbhjmomphajnnaa

namespace Go.Proofs.Ytbhjmomphajnnaa
open Go.RowKit
set_option linter.unusedVariables false

/-- What the closure reads. -/
structure CapM (w : World) (g : Nat) (te qu ha : Int) (sa : Option Addr) (M kc : Nat) (na : Option Addr) (K nc : Nat) (T : Nat → GM) : Prop where
  blk : Blk w g [.int .i64 te, .int .i64 qu, .int .i64 ha, .slice sa M kc, .slice na K nc]
  nv : NV w na K T

theorem CapM.below {w w' : World} {g : Nat} {te qu ha : Int} {sa : Option Addr} {M kc : Nat} {na : Option Addr} {K nc : Nat} {T : Nat → GM} (h : CapM w g te qu ha sa M kc na K nc T) (hb : Below w.heap.size w w') : CapM w' g te qu ha sa M kc na K nc T := ⟨h.blk.below hb, h.nv.below hb⟩
end Go.Proofs.Ytbhjmomphajnnaa

namespace Go.Proofs.Ytbhjmomphajnnaa
open Go.ChangeShapes Go.WideShapes Go.ChangeAt Go.RowKit Go.Joins Go.Deep
set_option linter.unusedVariables false

instance : Inhabited SL := ⟨⟨0, 0⟩⟩
end Go.Proofs.Ytbhjmomphajnnaa

namespace Go.Proofs.Ytbhjmomphajnnaa
open Go.RowKit
set_option linter.unusedVariables false

/-- The first place of a node of this number, or how many there are. -/
def ixN (T : Nat → GM) (x : Int) : Nat → Nat
  | 0 => 0
  | K + 1 => if ixN T x K < K then ixN T x K else if (T K).at_ = x then K else K + 1

/-- What of a list is not 0. -/
def nz (l : List Int) : List Int := l.filter (fun x => decide (¬ x = 0))

/-- The numbers of the slots' nodes. -/
def slotL (M : Nat) (S : Nat → SL) : List Int := (List.range M).map fun i => (S i).nd

theorem mem_slotL {M : Nat} {S : Nat → SL} {x : Int} : x ∈ slotL M S ↔ ∃ i, i < M ∧ (S i).nd = x := by simp [slotL]

/-- The node of a number. -/
def nodeM (K : Nat) (T : Nat → GM) (x : Int) : GM := T (ixN T x K)

section

variable {M : Nat} {S : Nat → SL} {K : Nat} {T : Nat → GM} {i : Nat} {O : List Int}

end
end Go.Proofs.Ytbhjmomphajnnaa

namespace Go.Proofs.Ytbhjmomphajnnaa
open Go.RowKit
set_option linter.unusedVariables false

/-- A node, and what stands for it. -/
def NIso (φ : Int → Int) (t t' : GM) : Prop := t'.s = t.s ∧ t'.m = t.m ∧ t'.h = t.h ∧ t'.n = t.n ∧ ∀ k, k < t.n → t'.f k = if t.m / P2 (k : Int) % 2 = 1 then φ (t.f k) else t.f k

/-- Two machines that are alike over some nodes, from which nothing else is reached. -/
structure MIso (U : List Int) (φ : Int → Int) (M : Nat) (S : Nat → SL) (K : Nat) (T : Nat → GM) (S' : Nat → SL) (K' : Nat) (T' : Nat → GM) : Prop where
  nd : U.Nodup
  z : φ 0 = 0
  u0 : (0 : Int) ∉ U
  nz : ∀ x ∈ U, ¬ φ x = 0
  inj : ∀ x ∈ U, ∀ y ∈ U, φ x = φ y → x = y
  has : ∀ x ∈ U, Has K T x
  has' : ∀ x ∈ U, Has K' T' (φ x)
  slots : ∀ i, i < M → (S i).nd = 0 ∨ (S i).nd ∈ U
  slot : ∀ i, i < M → (S' i).g = (S i).g ∧ (S' i).nd = φ (S i).nd
  node : ∀ x ∈ U, NIso φ (nodeM K T x) (nodeM K' T' (φ x))
  clo : ∀ x ∈ U, ∀ k, k < (nodeM K T x).n → IsP (nodeM K T x) k → (nodeM K T x).f k = 0 ∨ (nodeM K T x).f k ∈ U

theorem nz_map {φ : Int → Int} (hz : φ 0 = 0) {l : List Int} (h : ∀ x ∈ l, ¬ x = 0 → ¬ φ x = 0) : nz (l.map φ) = (nz l).map φ := by
  induction l with
  | nil => rfl
  | cons x l ih =>
    have ih := ih fun y hy => h y (List.mem_cons_of_mem _ hy)
    unfold nz at ih ⊢
    by_cases h0 : x = 0
    · subst h0
      rw [List.map_cons, List.filter_cons_of_neg (by simp [hz]), List.filter_cons_of_neg (by simp)]
      exact ih
    · have h1 := h x (List.mem_cons_self ..) h0
      rw [List.map_cons, List.filter_cons_of_pos (by simp [h1]), List.filter_cons_of_pos (by simp [h0]), List.map_cons, ih]

section

variable {U : List Int} {φ : Int → Int} {M : Nat} {S S' : Nat → SL} {K K' : Nat} {T T' : Nat → GM}

theorem MIso.roots (h : MIso U φ M S K T S' K' T') : Go.Proofs.Ytbhjmomphajnnaa.nz (slotL M S') = (Go.Proofs.Ytbhjmomphajnnaa.nz (slotL M S)).map φ := by
  have e : slotL M S' = (slotL M S).map φ := by
    unfold slotL
    rw [List.map_map]
    refine List.map_congr_left fun i hi => ?_
    exact (h.slot i (List.mem_range.mp hi)).2
  rw [e]
  refine nz_map h.z fun x hx h0 => ?_
  obtain ⟨i, hi, rfl⟩ := mem_slotL.1 hx
  exact h.nz _ ((h.slots i hi).resolve_left h0)

end
end Go.Proofs.Ytbhjmomphajnnaa

namespace Go.Proofs.Ytbhjmomphajnnaa
open Go.RowKit
set_option linter.unusedVariables false

section

variable {U : List Int} {φ : Int → Int} {M : Nat} {S S' : Nat → SL} {K K' : Nat} {T T' : Nat → GM}

end

/-- A machine that can be tidied. -/
structure MWk (M : Nat) (S : Nat → SL) (K : Nat) (T : Nat → GM) : Prop where
  node : ∀ i, i < K → 1 ≤ (T i).at_ ∧ HOk (T i).s (T i).m 0 (T i).h ∧ ((T i).n : Int) = (T i).s
  rise : MRise K T
  lead : MLead M S K T

section

variable {M : Nat} {S : Nat → SL} {K : Nat} {T : Nat → GM}

end
end Go.Proofs.Ytbhjmomphajnnaa

namespace Go.Proofs.Ytbhjmomphajnnaa
open Go.RowKit
set_option linter.unusedVariables false

instance (t : GM) (k : Nat) : Decidable (IsP t k) := inferInstanceAs (Decidable (_ = _))

/-- What an op turns of a machine. -/
structure MS where
  ha : Int
  S : Nat → SL
  K : Nat
  T : Nat → GM

/-- The slot of a handle. -/
def HSl (te : Int) (M : Nat) (S : Nat → SL) (x : Int) : Prop := (0 ≤ x ∧ 1 ≤ x / 32 ∧ x / 32 ≤ 99) ∧ x % 4 = te ∧ x / 4 % 8 < (M : Int) ∧ ¬ (S (x / 4 % 8).toNat).nd = 0 ∧ (S (x / 4 % 8).toNat).g = x / 32

instance (te : Int) (M : Nat) (S : Nat → SL) (x : Int) : Decidable (HSl te M S x) := inferInstanceAs (Decidable (_ ∧ _))

def slN (x : Int) : Nat := (x / 4 % 8).toNat

/-- The first slot that can be given, or how many there are. -/
def CanG (s : SL) : Prop := s.nd = 0 ∧ s.g < 99

instance (s : SL) : Decidable (CanG s) := inferInstanceAs (Decidable (_ ∧ _))

def freeS (S : Nat → SL) : Nat → Nat
  | 0 => 0
  | M + 1 => if freeS S M < M then freeS S M else if CanG (S M) then M else M + 1

theorem freeS_congr {S S' : Nat → SL} : ∀ {M : Nat}, (∀ i, i < M → (CanG (S' i) ↔ CanG (S i))) → freeS S' M = freeS S M
  | 0, _ => rfl
  | M + 1, h => by
    rw [freeS, freeS, freeS_congr fun i hi => h i (by omega)]
    by_cases h1 : freeS S M < M
    · rw [if_pos h1, if_pos h1]
    · rw [if_neg h1, if_neg h1]
      by_cases h2 : CanG (S M)
      · rw [if_pos h2, if_pos ((h M (by omega)).2 h2)]
      · rw [if_neg h2, if_neg fun h3 => h2 ((h M (by omega)).1 h3)]

section

variable {U : List Int} {φ : Int → Int} {M : Nat} {m m' : MS} {te qu : Int}

theorem MIso.zero_iff {S S' : Nat → SL} {K K' : Nat} {T T' : Nat → GM} (h : MIso U φ M S K T S' K' T') {i : Nat} (hi : i < M) : (S' i).nd = 0 ↔ (S i).nd = 0 := by
  rw [(h.slot i hi).2]
  rcases h.slots i hi with h1 | h1
  · rw [h1, h.z]
  · have h2 := h.nz _ h1
    have h3 : ¬ (S i).nd = 0 := fun e => h.u0 (e ▸ h1)
    exact ⟨fun e => absurd e h2, fun e => absurd e h3⟩

theorem HSl.lt {S : Nat → SL} {x : Int} (h : HSl te M S x) : slN x < M := by have := h.2.2.1; unfold slN; omega

theorem MIso.free {S S' : Nat → SL} {K K' : Nat} {T T' : Nat → GM} (h : MIso U φ M S K T S' K' T') : freeS S' M = freeS S M :=
  freeS_congr fun i hi => by unfold CanG; rw [h.zero_iff hi, (h.slot i hi).1]

end
end Go.Proofs.Ytbhjmomphajnnaa

namespace Go.Proofs.Ytbhjmomphajnnaa
open Go.RowKit
set_option linter.unusedVariables false

/-- The cells of a machine, from a place of a block on. -/
structure MAt (w : World) (g o : Nat) (te qu ha : Int) (sa : Option Addr) (M kc : Nat) (na : Option Addr) (K nc : Nat) : Prop where
  lt : g < w.heap.size
  c0 : w.cell? ⟨g, o, none⟩ = some (.int .i64 te)
  c1 : w.cell? ⟨g, o + 1, none⟩ = some (.int .i64 qu)
  c2 : w.cell? ⟨g, o + 2, none⟩ = some (.int .i64 ha)
  c3 : w.cell? ⟨g, o + 3, none⟩ = some (.slice sa M kc)
  c4 : w.cell? ⟨g, o + 4, none⟩ = some (.slice na K nc)

section

variable {w w' : World} {g o : Nat} {te qu ha : Int} {sa : Option Addr} {M kc : Nat} {na : Option Addr} {K nc : Nat}

theorem MAt.below (h : MAt w g o te qu ha sa M kc na K nc) (hb : Below w.heap.size w w') : MAt w' g o te qu ha sa M kc na K nc :=
  ⟨Nat.lt_of_lt_of_le h.lt hb.size, (hb.cell (p := ⟨g, o, none⟩) h.lt).trans h.c0, (hb.cell (p := ⟨g, o + 1, none⟩) h.lt).trans h.c1, (hb.cell (p := ⟨g, o + 2, none⟩) h.lt).trans h.c2, (hb.cell (p := ⟨g, o + 3, none⟩) h.lt).trans h.c3, (hb.cell (p := ⟨g, o + 4, none⟩) h.lt).trans h.c4⟩

end

/-- A node whose numbers are right, of any number. -/
def Nd (t : GM) : Prop := HOk t.s t.m 0 t.h ∧ (t.n : Int) = t.s

theorem MWk.nd {M : Nat} {S : Nat → SL} {K : Nat} {T : Nat → GM} (h : MWk M S K T) : ∀ i, i < K → Nd (T i) := fun i hi => (h.node i hi).2
end Go.Proofs.Ytbhjmomphajnnaa

namespace Go.Proofs.Ytbhjmomphajnnaa
open Go.RowKit Go.Maps
set_option linter.unusedVariables false

/-- A pointer to a node of a row. -/
def ptrV (na : Option Addr) (i : Nat) : Value := match na with | some ⟨b, q, s⟩ => .pointer (some ⟨b, q + i * 5, s⟩) | none => .pointer none

def ptrS (na : Option Addr) (K : Nat) (T : Nat → GM) (O : List Int) : List Value := O.map fun x => ptrV na (ixN T x K)

def nv1 : Nat → Int := fun i => (i : Int) + 1

/-- What is reached so far, as the program has it: in the block rb, with the map mb and the row v. -/
structure RN (w : World) (base rb mb : Nat) (v : Value) (na : Option Addr) (K : Nat) (T : Nat → GM) (O : List Int) : Prop where
  blk : Blk w rb [v, .map (some mb)]
  hrb : base ≤ rb
  hmb : base ≤ mb
  hne : mb ≠ rb
  vr : v.ownBlock ≠ some rb
  vm : v.ownBlock ≠ some mb
  row : w.ownsRow base 159 1 v O.length (ptrS na K T O)
  map : MapT w mb O.length O nv1

section

variable {w w' : World} {base rb mb : Nat} {v : Value} {na : Option Addr} {K : Nat} {T : Nat → GM} {O : List Int}

theorem RN.below (h : RN w base rb mb v na K T O) (hb : Below w.heap.size w w') : RN w' base rb mb v na K T O :=
  ⟨h.blk.below hb, h.hrb, h.hmb, h.hne, h.vr, h.vm, ownsRow_below h.row hb, h.map.below hb⟩

end
end Go.Proofs.Ytbhjmomphajnnaa

namespace Go.Proofs.Ytbhjmomphajnnaa
open Go.RowKit Go.Maps
set_option linter.unusedVariables false

/-- A row of pointers to the nodes of a list. -/
def PR (w : World) (na : Option Addr) (K : Nat) (T : Nat → GM) (ra : Option Addr) (R : List Int) : Prop :=
  R.length = 0 ∨ ∃ rb ro, ra = some ⟨rb, ro, none⟩ ∧ rb < w.heap.size ∧ ∀ i, i < R.length → w.cell? ⟨rb, ro + i, none⟩ = some (ptrV na (ixN T (lf R i) K))

theorem PR.below {w w' : World} {na : Option Addr} {K : Nat} {T : Nat → GM} {ra : Option Addr} {R : List Int} (h : PR w na K T ra R) (hb : Below w.heap.size w w') : PR w' na K T ra R := by
  rcases h with h | ⟨rb, ro, e, hl, hc⟩
  · exact .inl h
  · exact .inr ⟨rb, ro, e, Nat.lt_of_lt_of_le hl hb.size, fun i hi => (hb.cell (p := ⟨rb, ro + i, none⟩) hl).trans (hc i hi)⟩

/-- A row that adding leaves as it is. -/
def Apart (w : World) (a : Option Addr) (n rb mb : Nat) (v : Value) : Prop := n = 0 ∨ ∃ b o, a = some ⟨b, o, none⟩ ∧ b ≠ rb ∧ b ≠ mb ∧ v.ownBlock ≠ some b ∧ b < w.heap.size

theorem Apart.size {w w' : World} {a : Option Addr} {n rb mb : Nat} {v : Value} (h : Apart w a n rb mb v) (hz : w.heap.size ≤ w'.heap.size) : Apart w' a n rb mb v := by
  rcases h with h | ⟨b, o, h1, h2, h3, h4, h5⟩
  · exact .inl h
  · exact .inr ⟨b, o, h1, h2, h3, h4, by omega⟩
end Go.Proofs.Ytbhjmomphajnnaa

namespace Go.Proofs.Ytbhjmomphajnnaa
open Go.RowKit Go.Maps
set_option linter.unusedVariables false

def haV (a b d : Int) : Value := .agg #[.int .i64 a, .int .i64 b, .int .i64 d]

/-- How an element is told: whether it points at anything. -/
def ptrR (v : Value) : Option (DataW Unit × List MemPlace) := match v with | .pointer p => some (.lit (.bool p.isSome), []) | _ => none

/-- A slot that leads to a node by a handle of its own. -/
def Leads (te : Int) (S : Nat → SL) (i : Nat) (a b d : Int) : Prop := a = te ∧ ∃ j : Nat, j < i ∧ b = (j : Int) ∧ d = (S j).g ∧ ¬ (S j).nd = 0

/-- A map of handles: of the first slots. -/
def MapH (w : World) (b n : Nat) (te : Int) (S : Nat → SL) (i : Nat) : Prop :=
  ∃ D : DataW Unit, w.ownsMap Try.prog 42 ptrR b n D ∧ ∀ a c d kl, keyOf Try.prog 42 (haV a c d) = some kl → ∃ r : Bool, D.atKey kl (.lit (.bool false)) = .lit (.bool r) ∧ (r = true ↔ Leads te S i a c d)

theorem MapH.lt {w : World} {b n : Nat} {te : Int} {S : Nat → SL} {i : Nat} (h : MapH w b n te S i) : b < w.heap.size := by obtain ⟨D, h1, _⟩ := h; exact h1.lt

theorem MapH.block {w w' : World} {b n : Nat} {te : Int} {S : Nat → SL} {i : Nat} (h : MapH w b n te S i) (hb : w'.heap[b]? = w.heap[b]?) : MapH w' b n te S i := by
  obtain ⟨D, ⟨es, clock, h1, h2⟩, h3⟩ := h
  exact ⟨D, ⟨es, clock, hb.trans h1, h2⟩, h3⟩

theorem MapH.below {w w' : World} {b n : Nat} {te : Int} {S : Nat → SL} {i : Nat} (h : MapH w b n te S i) (hb : Below w.heap.size w w') : MapH w' b n te S i := h.block (hb.block b h.lt)
end Go.Proofs.Ytbhjmomphajnnaa

namespace Go.Proofs.Ytbhjmomphajnnaa
open Go.RowKit Go.Maps
set_option linter.unusedVariables false

theorem MapH.mono {w : World} {b n n' : Nat} {te : Int} {S : Nat → SL} {i : Nat} (h : MapH w b n te S i) (hn : n ≤ n') : MapH w b n' te S i := by
  obtain ⟨D, h1, h2⟩ := h
  exact ⟨D, h1.mono hn, h2⟩
end Go.Proofs.Ytbhjmomphajnnaa

namespace Go.Proofs.Ytbhjmomphajnnaa
open Go.RowKit Go.Maps
set_option linter.unusedVariables false

theorem totO_moved : ∀ (X : List Ob) (P : Nat), totO (moved P X) = totO X
  | [], _ => rfl
  | x :: X, P => by
    show wordsO ⟨(P : Int), x.s, x.m, x.o, x.h⟩ + totO (moved (P + wordsO x) X) = wordsO x + totO X
    rw [totO_moved X]; rfl

section

variable {h : Int} {n : Nat} {f g g2 : Nat → Int} {ac bu : Int} {roots : List Int} {L : List Ob}

/-- Where the roots went. -/
def wentL (f : Nat → Int) (L : List Ob) (roots : List Int) (P : Nat) : List Int := roots.map (goes (reachO f L roots) (newPlaces P (objsO L (reachO f L roots))))

def movedL (f : Nat → Int) (L : List Ob) (roots : List Int) (P : Nat) : List Ob := moved P (objsO L (reachO f L roots))

def liveO (f : Nat → Int) (L : List Ob) (roots : List Int) : Nat := totO (objsO L (reachO f L roots))

theorem fc_ask (hk : IsAsk h n f ac bu roots 0 L) (hc : IsCol f L (reachO f L roots) (baseI (1 - ac) h).toNat g) :
    IsAsk h n g (1 - ac) (liveO f L roots : Int) (wentL f L roots (baseI (1 - ac) h).toNat) 0 (movedL f L roots (baseI (1 - ac) h).toNat) := by
  obtain ⟨h1, h2, h3, h4⟩ := isAsk_zero hk
  obtain ⟨a1, a2, a3⟩ := col_shape h1 h2 h4 hc
  refine .inr (.inr (.inr ⟨a3, a2, by unfold wentL; simpa using h3, fun p hp => ?_, rfl⟩))
  unfold movedL
  rw [moved_places]
  exact col_roots (right_of h1 h2) h4 p hp

theorem fc_alike (hk : IsAsk h n f ac bu roots 0 L) {P : Nat} (hc : IsCol f L (reachO f L roots) P g) : AlikeO f L roots g (movedL f L roots P) (wentL f L roots P) := by
  obtain ⟨h1, h2, h3, h4⟩ := isAsk_zero hk
  exact col_alike (right_of h1 h2) h4 hc

theorem fc_garbage (hk : IsAsk h n f ac bu roots 0 L) {P : Nat} (hc : IsCol f L (reachO f L roots) P g) : outG g (movedL f L roots P) (wentL f L roots P) 0 = [] := by
  obtain ⟨h1, h2, h3, h4⟩ := isAsk_zero hk
  have hr := col_reach (right_of h1 h2) h4 hc
  unfold outG movedL wentL
  rw [if_pos rfl, hr, moved_places]
  exact List.filter_eq_nil_iff.mpr fun p hp => by simpa using hp

theorem fc_live (hk : IsAsk h n f ac bu roots 0 L) : outW f L roots 0 = (liveO f L roots : Int) := by
  obtain ⟨h1, h2, h3, h4⟩ := isAsk_zero hk
  have hr := right_of h1 h2
  unfold outW liveO
  rw [if_pos rfl, tot_objs (reachO_sub hr.points hr.size h4)]

theorem fc_again (hk : IsAsk h n f ac bu roots 0 L) {P : Nat} (hc : IsCol f L (reachO f L roots) P g) : liveO g (movedL f L roots P) (wentL f L roots P) = liveO f L roots := by
  obtain ⟨h1, h2, h3, h4⟩ := isAsk_zero hk
  have hr := right_of h1 h2
  have hre := col_reach hr h4 hc
  have ha := (col_right hr h4 hc).apart
  unfold liveO movedL wentL
  rw [hre, ← moved_places, objs_all ha, totO_moved]

end
end Go.Proofs.Ytbhjmomphajnnaa

