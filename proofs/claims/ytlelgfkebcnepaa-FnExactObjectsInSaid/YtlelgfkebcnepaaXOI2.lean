/- Texts merged: K15 to Q10. -/
import Derived.Test.YtlelgfkebcnepaaXOI1
import Derived.Deep.Slices
import Derived.Deep.LoopGhost
import Derived.Shelf.Abstract
import Derived.RangeFuncNested
import Derived.RangeFuncBound
import Derived.RangeFuncCalls
import Derived.RangeFuncLeaves
import Derived.Shelf.RegionOpen
import Derived.OwnWalkIn
import Derived.TacticsInMore
import Derived.LoopNIn
import Derived.LoopIn
import Derived.Maps.OwnIn
import Derived.Maps.AppendAt
namespace Go.Proofs.Ytlelgfkebcnepaa
open Go.RowKit
set_option linter.unusedVariables false

set_option maxRecDepth 100000 in
set_option maxHeartbeats 400000 in
theorem eqGV_same (a1 a2 : Option Addr) (N k1 k2 : Nat) (T U : Nat → GM) (w : World) (h1 : GV w a1 N T) (h2 : GV w a2 N U) (he : ∀ i, i < N → GSame (T i) (U i)) (hN : N ≤ 1048576) (hn : ∀ i, i < N → (T i).n ≤ 1048576) :
    Calls Try.prog 51 #[.slice a1 N k1, .slice a2 N k2] w (RetBool w true) := by
  rcases Nat.eq_zero_or_pos N with rfl | hp
  · clear h1 h2 he hn
    go_enter Try.func51, Try.ntmps51
    go_wp2
    go_loop [5] (fun p => p = .int .i64 0) (fun _ => 0)
    case atStart => rfl
    case round =>
      obtain rfl := hrel
      go_wp2
      go_ret
      exact ⟨rfl, Below.refl _ _⟩
  · rcases h1 with h0 | ⟨b1, q1, rfl, h1⟩
    · omega
    · rcases h2 with h0 | ⟨b2, q2, rfl, h2⟩
      · omega
      · exact eqObjGS_same b1 b2 q1 q2 N k1 k2 T U w h1 h2 he hN hn

set_option maxRecDepth 100000 in
set_option maxHeartbeats 800000 in
theorem eqORG_same (co : Int) (a1 a2 : Option Addr) (N k1 k2 : Nat) (T U : Nat → GM) (w : World) (h1 : GV w a1 N T) (h2 : GV w a2 N U) (he : ∀ i, i < N → GSame (T i) (U i)) (hN : N ≤ 1048576) (hn : ∀ i, i < N → (T i).n ≤ 1048576) :
    Calls Try.prog 35 #[.agg #[.int .i64 co, .slice a1 N k1], .agg #[.int .i64 co, .slice a2 N k2]] w (RetBool w true) := by
  have H1 := Lib.hid h1; have H2 := Lib.hid h2; have HE := Lib.hid he; have HN := Lib.hid hn
  clear h1 h2 he hn
  go_enter Try.func35, Try.ntmps35
  go_wp2_with fail
  refine (eqGV_same _ _ N _ _ T U _ ((H1.out.alloc _).alloc _) ((H2.out.alloc _).alloc _) HE.out hN HN.out).mono ?_
  rintro e w1 ⟨rfl, hb⟩
  have HB1 := Lib.hid (thru2 (Below.refl _ _) hb)
  clear hb
  go_wp2
  go_ret
  exact ⟨rfl, HB1.out⟩

/-- A row is marked. -/
def RetMarkV (W : World) (lo hi : Nat) (a : Option Addr) (N : Nat) (T : Nat → GM) (k : Int) (e : Ending) (w' : World) : Prop :=
  e = .returned (.int .i64 (k + (offs T N : Int))) ∧ GVO w' lo hi a N (marked T k) ∧ Keeps W w' lo hi

set_option maxRecDepth 100000 in
set_option maxHeartbeats 400000 in
theorem markGV_any (lo hi N c : Nat) (a : Option Addr) (T : Nat → GM) (k : Int) (w : World) (hs : GVO w lo hi a N T) (hk0 : 0 ≤ k) (hk1 : k + (offs T N : Int) ≤ 1048576) :
    Calls Try.prog 91 #[.slice a N c, .int .i64 k] w (RetMarkV w lo hi a N T k) := by
  rcases Nat.eq_zero_or_pos N with rfl | hp
  · clear hs
    simp only [offs] at hk1
    go_enter Try.func91, Try.ntmps91
    go_wp2
    go_loop [1, 5] (fun u p => u = .int .i64 k ∧ p = .int .i64 0) (fun _ _ => 0)
    case atStart => exact ⟨rfl, rfl⟩
    case round =>
      obtain ⟨rfl, rfl⟩ := hrel
      go_wp2
      go_ret
      exact ⟨by simp [offs], .inl rfl, Keeps.refl _ _ _⟩
  · rcases hs with h0 | ⟨b, q, rfl, h⟩
    · omega
    · refine (markObjectS_any lo hi b q N c T k w h hk0 hk1).mono ?_
      rintro e w' ⟨rfl, h1, h2⟩
      exact ⟨rfl, .inr ⟨b, q, rfl, h1⟩, h2⟩

set_option maxRecDepth 100000 in
set_option maxHeartbeats 400000 in
theorem heldGV_any (N c : Nat) (a : Option Addr) (T : Nat → GM) (k : Int) (w : World) (hs : GV w a N (marked T k)) (hk0 : 0 ≤ k) (hk1 : k + (offs T N : Int) ≤ 1048576) :
    Calls Try.prog 92 #[.slice a N c, .int .i64 k] w fun e w' => e = .returned (.int .i64 (k + (offs T N : Int))) ∧ w = w' := by
  rcases Nat.eq_zero_or_pos N with rfl | hp
  · clear hs
    simp only [offs] at hk1
    go_enter Try.func92, Try.ntmps92
    go_wp2
    go_loop [1, 5] (fun u p => u = .int .i64 k ∧ p = .int .i64 0) (fun _ _ => 0)
    case atStart => exact ⟨rfl, rfl⟩
    case round =>
      obtain ⟨rfl, rfl⟩ := hrel
      go_wp2
      go_ret
      exact ⟨by simp [offs], rfl⟩
  · rcases hs with h0 | ⟨b, q, rfl, h⟩
    · omega
    · exact heldObjectS_any b q N c T k w h hk0 hk1

set_option maxRecDepth 100000 in
set_option maxHeartbeats 400000 in
theorem markOR_any (co : Int) (lo hi N c : Nat) (a : Option Addr) (T : Nat → GM) (k : Int) (w : World) (hs : GVO w lo hi a N T) (hk0 : 0 ≤ k) (hk1 : k + (offs T N : Int) ≤ 1048576) :
    Calls Try.prog 38 #[.agg #[.int .i64 co, .slice a N c], .int .i64 k] w (RetMarkV w lo hi a N T k) := by
  have HO := Lib.hid hs
  have HK := Lib.hid hk1
  clear hs hk1
  go_enter Try.func38, Try.ntmps38
  go_wp2_with fail
  refine (markGV_any lo hi N c a T k _ (HO.out.alloc _) hk0 HK.out).mono ?_
  rintro e w1 ⟨rfl, ho1, hk⟩
  have HO1 := Lib.hid ho1; have HK1 := Lib.hid hk
  clear ho1 hk
  go_wp2
  go_ret
  exact ⟨rfl, HO1.out, (keeps_of_below ((Below.refl _ _).alloc (Nat.le_refl _) _) lo hi).trans HK1.out⟩

set_option maxRecDepth 100000 in
set_option maxHeartbeats 400000 in
theorem heldOR_any (co : Int) (N c : Nat) (a : Option Addr) (T : Nat → GM) (k : Int) (w : World) (hs : GV w a N (marked T k)) (hk0 : 0 ≤ k) (hk1 : k + (offs T N : Int) ≤ 1048576) :
    Calls Try.prog 39 #[.agg #[.int .i64 co, .slice a N c], .int .i64 k] w (RetInt w (k + (offs T N : Int))) := by
  have HO := Lib.hid hs
  have HK := Lib.hid hk1
  have h9 : ¬ k + (offs T N : Int) < 0 := by omega
  clear hs hk1
  go_enter Try.func39, Try.ntmps39
  go_wp2_with fail
  refine (heldGV_any N c a T k _ (HO.out.alloc _) hk0 HK.out).mono ?_
  rintro e w1 ⟨rfl, rfl⟩
  go_wp2
  go_ret
  exact ⟨rfl, (Below.refl _ _).alloc (Nat.le_refl _) _⟩
-- one object

/-- What the model's row of objects is, in these words. -/
def omT (f : Nat → Int) (M : List OM) (i : Nat) : GM := match M[i]? with | some t => ⟨t.x.at_, t.x.s, t.x.m, t.x.o, t.x.h, some ⟨t.g, 0, none⟩, t.x.s.toNat, t.c, fun k => f (t.x.at_.toNat + 2 + k)⟩ | none => ⟨0, 0, 0, 0, 0, none, 0, 0, fun _ => 0⟩

theorem omT_at (f : Nat → Int) {M : List OM} {i : Nat} {t : OM} (h : M[i]? = some t) : omT f M i = ⟨t.x.at_, t.x.s, t.x.m, t.x.o, t.x.h, some ⟨t.g, 0, none⟩, t.x.s.toNat, t.c, fun k => f (t.x.at_.toNat + 2 + k)⟩ := by simp [omT, h]

theorem row_GVO {w : World} {base lo : Nat} {v : Value} {M : List OM} {f : Nat → Int} (h : w.ownsRow base 42 6 v M.length (rowCells M)) (hf : Flds w lo f v M) (hl : lo ≤ base) : ∃ a c, v = .slice a M.length c ∧ GVO w lo w.heap.size a M.length (omT f M) := by
  obtain ⟨a, c, hv⟩ := row_nil h
  refine ⟨a, c, hv, ?_⟩
  rcases Nat.eq_zero_or_pos M.length with h0 | hp
  · exact .inl h0
  · right
    obtain ⟨gb, cap, he, hb, hlt, hob⟩ := row_form h hp
    have e2 := hv.symm.trans he
    simp only [Value.slice.injEq] at e2
    obtain ⟨rfl, -, rfl⟩ := e2
    subst hv
    have hfr : ∀ k, k < M.length * 6 → w.frozen? ⟨gb, k, none⟩ = false := fun k hk => by
      have := h.frozenAt k
      simpa using this
    refine ⟨gb, 0, rfl, by omega, hlt, hlt, fun i hi => ?_, fun i hi => ?_, fun i hi => ?_, fun i hi => ?_, fun i j hi hj hij => ?_⟩
    · have ht := List.getElem?_eq_getElem hi
      rw [omT_at f ht, Nat.zero_add]
      exact (hob i _ ht).six
    · rw [Nat.zero_add]
      exact ⟨hfr _ (by omega), hfr _ (by omega), hfr _ (by omega), hfr _ (by omega), hfr _ (by omega), hfr _ (by omega)⟩
    · have ht := List.getElem?_eq_getElem hi
      rw [omT_at f ht]
      obtain ⟨h1, h2, _, h4⟩ := hf.1 M[i] (List.getElem_mem hi)
      exact .inr ⟨_, 0, rfl, ⟨h1, h2⟩, h2, fun k hk => by rw [Nat.zero_add]; exact h4 k hk⟩
    · have ht := List.getElem?_eq_getElem hi
      rw [omT_at f ht]
      obtain ⟨_, _, h3, _⟩ := hf.1 M[i] (List.getElem_mem hi)
      right
      simpa [GM.g, Value.ownBlock] using h3
    · have hp := List.pairwise_iff_getElem.mp hf.2
      right; right
      rw [omT_at f (List.getElem?_eq_getElem hi), omT_at f (List.getElem?_eq_getElem hj)]
      simp only [GM.g]
      rcases Nat.lt_or_gt_of_ne hij with hlt' | hgt
      · have := hp i j hi hj hlt'; omega
      · have := hp j i hj hi hgt; omega
end Go.Proofs.Ytlelgfkebcnepaa

namespace Go.Proofs.Ytlelgfkebcnepaa
open Go.RowKit
set_option linter.unusedVariables false

def obG (f : Nat → Int) (y : Ob) : GM := ⟨y.at_, y.s, y.m, y.o, y.h, none, y.s.toNat, 0, fun k => f (y.at_.toNat + 2 + k)⟩

def gzero : GM := ⟨0, 0, 0, 0, 0, none, 0, 0, fun _ => 0⟩

def xT (f : Nat → Int) (x : Option Ob) : GM := match x with | none => gzero | some y => obG f y

def obT (f : Nat → Int) (L : List Ob) (i : Nat) : GM := xT f L[i]?

theorem GSame.tie {t u v : GM} (h1 : GSame t v) (h2 : GSame u v) : GSame t u := by
  obtain ⟨a1, a2, a3, a4, a5, a6, a7⟩ := h1
  obtain ⟨b1, b2, b3, b4, b5, b6, b7⟩ := h2
  exact ⟨a1.trans b1.symm, a2.trans b2.symm, a3.trans b3.symm, a4.trans b4.symm, a5.trans b5.symm, a6.trans b6.symm, fun k hk => (a7 k hk).trans (b7 k (by omega)).symm⟩

theorem GSame.refl (t : GM) : GSame t t := ⟨rfl, rfl, rfl, rfl, rfl, rfl, fun _ _ => rfl⟩

/-- A row of objects comes back, with a code. -/
def RetORG (W : World) (f : Nat → Int) (co : Int) (L : List Ob) (e : Ending) (w' : World) : Prop :=
  ∃ a c T, e = .returned (.agg #[.int .i64 co, .slice a L.length c]) ∧ GVO w' W.heap.size w'.heap.size a L.length T ∧ (∀ i, i < L.length → GSame (T i) (obT f L i)) ∧ Below W.heap.size W w' ∧ L.length ≤ c ∧ c ≤ maxLen

theorem row_cap {w : World} {base e size n c : Nat} {a : Option Addr} {xs : List Value} (h : w.ownsRow base e size (.slice a n c) n xs) : n ≤ c ∧ c ≤ maxLen := by
  rcases h.2 with ⟨h1, h2⟩ | ⟨g, cap, cur, h1, _, _, h4, h5, _⟩
  · simp only [Value.slice.injEq] at h1
    obtain ⟨_, rfl, rfl⟩ := h1
    exact ⟨Nat.le_refl _, Nat.zero_le _⟩
  · simp only [Value.slice.injEq] at h1
    obtain ⟨_, _, rfl⟩ := h1
    exact ⟨h4, h5⟩

theorem gvo_mono {w : World} {lo lo' hi N : Nat} {a : Option Addr} {T : Nat → GM} (h : GVO w lo hi a N T) (hl : lo' ≤ lo) : GVO w lo' hi a N T := by
  rcases h with h0 | ⟨b, q, e, h⟩
  · exact .inl h0
  · exact .inr ⟨b, q, e, Nat.le_trans hl h.glo, h.ghi, h.lt, h.six, h.free, fun i hi => (h.flds i hi).widen hl (Nat.le_refl _), h.off, h.apart⟩

theorem specOIG_any (h ac bu : Int) (a : Option Addr) (n c : Nat) (f : Nat → Int) (co : Int) (L : List Ob) (w : World) (hs : Src w a n f) (hcn : n ≤ c) (hcm : c ≤ maxLen) (hk : IsOI h n f ac bu co L) : Calls Try.prog 20 #[.agg #[.int .i64 h, .slice a n c, .int .i64 ac, .int .i64 bu]] w (RetORG w f co L) := by
  refine (specOI_any h ac bu a n c f co L w hs hcn hcm hk).mono ?_
  rintro e w' ⟨v, M, rfl, rfl, ho, hf, hb⟩
  obtain ⟨b, k, rfl, hg⟩ := row_GVO ho hf (Nat.le_refl _)
  obtain ⟨hc1, hc2⟩ := row_cap ho
  refine ⟨b, k, omT f M, by simp, by simpa using hg, fun i hi => ?_, hb, by simpa using hc1, hc2⟩
  have hi' : i < M.length := by simpa using hi
  rw [omT_at f (List.getElem?_eq_getElem hi')]
  simp only [obT, List.getElem?_map, List.getElem?_eq_getElem hi', Option.map_some, xT, obG]
  exact ⟨rfl, rfl, rfl, rfl, rfl, rfl, fun _ _ => rfl⟩

theorem xT_le {t : GM} {f : Nat → Int} {x : Option Ob} (h : GSame t (xT f x)) (hx : ∀ y, x = some y → 0 ≤ y.s ∧ y.s ≤ 12) : t.n ≤ 1048576 := by
  rw [h.2.2.2.2.2.1]
  cases x with
  | none => simp [xT, gzero]
  | some y => have := hx y rfl; simp only [xT, obG]; omega

theorem isOI_small {h : Int} {n : Nat} {f : Nat → Int} {ac bu co : Int} {L : List Ob} (hk : IsOI h n f ac bu co L) : L.length ≤ 400 ∧ ∀ y ∈ L, 0 ≤ y.s ∧ y.s ≤ 12 := by
  rcases hk with ⟨_, _, _, _, rfl⟩ | ⟨_, _, _, rfl⟩ | ⟨h4, h5, _⟩
  · exact ⟨Nat.zero_le _, fun y hy => by cases hy⟩
  · exact ⟨Nat.zero_le _, fun y hy => by cases hy⟩
  · obtain ⟨⟨⟨g1, g2⟩, ⟨g3, g4⟩, g5, g6⟩, gn, _⟩ := isFault_ok h4
    have hl := parse_length _ _ L (Nat.le_refl _) h5
    have hb := baseI_bd (ac := ac) g1
    exact ⟨by omega, parse_sizes _ _ L (Nat.le_refl _) h5⟩

theorem obT_le {T : Nat → GM} {f : Nat → Int} {L : List Ob} (h : ∀ i, i < L.length → GSame (T i) (obT f L i)) (hx : ∀ y ∈ L, 0 ≤ y.s ∧ y.s ≤ 12) (i : Nat) (hi : i < L.length) : (T i).n ≤ 1048576 :=
  xT_le (h i hi) fun y hy => hx y (List.mem_of_getElem? hy)

theorem offs_le {T : Nat → GM} {f : Nat → Int} {L : List Ob} (h : ∀ i, i < L.length → GSame (T i) (obT f L i)) (hx : ∀ y ∈ L, 0 ≤ y.s ∧ y.s ≤ 12) : ∀ j, j ≤ L.length → offs T j ≤ j * 17
  | 0, _ => Nat.le_refl _
  | j + 1, hj => by
    have ih := offs_le h hx j (by omega)
    have hs := (h j (by omega)).2.2.2.2.2.1
    have hn : (T j).n ≤ 12 := by
      rw [hs]
      have ht := List.getElem?_eq_getElem (show j < L.length by omega)
      have := hx L[j] (List.getElem_mem _)
      simp only [obT, ht, xT, obG]; omega
    simp only [offs]; omega

theorem offs_small {T : Nat → GM} {f : Nat → Int} {L : List Ob} (h : ∀ i, i < L.length → GSame (T i) (obT f L i)) (hx : ∀ y ∈ L, 0 ≤ y.s ∧ y.s ≤ 12) (hl : L.length ≤ 400) : (1 : Int) + (offs T L.length : Int) ≤ 1048576 := by
  have := offs_le h hx L.length (Nat.le_refl _); omega

/-- What is owed of the program's function. -/
def ImplOI : Prop := ∀ (h ac bu : Int) (a : Option Addr) (n c : Nat) (f : Nat → Int) (co : Int) (L : List Ob) (w : World), Src w a n f → n ≤ c → c ≤ maxLen → IsOI h n f ac bu co L → Calls Try.prog 16 #[.agg #[.int .i64 h, .slice a n c, .int .i64 ac, .int .i64 bu]] w (RetORG w f co L)
end Go.Proofs.Ytlelgfkebcnepaa

namespace Go.Proofs.Ytlelgfkebcnepaa
open Go.ChangeShapes Go.WideShapes Go.ChangeAt Go.RowKit Go.Joins Go.Deep
set_option linter.unusedVariables false

instance : Inhabited GM := ⟨gzero⟩
end Go.Proofs.Ytlelgfkebcnepaa

namespace Go.Proofs.Ytlelgfkebcnepaa
open Go.RowKit
set_option linter.unusedVariables false

set_option maxHeartbeats 400000 in
theorem e5_far (h ac bu : Int) (a : Option Addr) (n c : Nat) (w : World) (hn : n ≤ maxLen) (hbig : 1048576 < n) :
    Calls Try.prog 5 #[.agg #[.int .i64 h, .slice a n c, .int .i64 ac, .int .i64 bu]] w (RetBool w true) := by
  go_enter Try.func5, Try.ntmps5
  go_wp2_with (go_at_call 33; (with_reducible refine (szArena_no _ _ _ _ _ _ _ _ (by omega) (by omega) hn (by omega)).mono ?_); rintro e w1 ⟨rfl, hb⟩; obtain ⟨hc, hf⟩ := bcell hb; have HB := Lib.hid hb; have hz := hb.size; clear hb)
  go_ret
  exact ⟨rfl, ((Below.refl _ _).alloc (Nat.le_refl _) _).trans (HB.out.mono (by simp; try omega))⟩

set_option maxHeartbeats 3200000 in
theorem e5_near (HI : ImplOI) (h ac bu : Int) (a : Option Addr) (n c : Nat) (f : Nat → Int) (w : World) (hs : Src w a n f) (hbig : n ≤ 1048576) :
    Calls Try.prog 5 #[.agg #[.int .i64 h, .slice a n c, .int .i64 ac, .int .i64 bu]] w (RetBool w true) := by
  obtain ⟨co, L1, hr⟩ := isOI_some h n f ac bu
  have hx1 := (isOI_small hr).2
  have hL4 := (isOI_small hr).1
  have hL1 : L1.length ≤ 1048576 := by omega
  have HR := Lib.hid hr
  have HS := Lib.hid hs
  clear hr hs
  have HS0 := HS
  go_enter Try.func5, Try.ntmps5
  go_wp2_with fail
  refine (szArena_ok _ _ _ _ _ _ _ _ (by omega) (by omega) (by unfold maxLen; omega) (by omega)).mono ?_
  rintro e w1 ⟨rfl, hb⟩
  have HB1 : Hid (Below w.heap.size w w1) := thru1 (Below.refl _ _) hb
  have z1 : w.heap.size + 1 ≤ w1.heap.size := by have := hb.size; simp at this; omega
  have HS_1 := Lib.hid ((HS.out.alloc _).below hb)
  have A_1 := Lib.hid ((Blk.new_at (w.heap.size) (by simp)).below hb)
  clear hb HS
  have lA := A_1.out.1
  have cA0 := A_1.out.at 0 rfl
  have cA1 := A_1.out.at 1 rfl
  have cA2 := A_1.out.at 2 rfl
  have cA3 := A_1.out.at 3 rfl
  go_wp2_with fail
  refine (toArena_any _ _ _ _ _ _ f _ HS_1.out hbig).mono ?_
  rintro e w2 ⟨u2, c2, rfl, ho, hb, hc2, hcm2, hn2⟩
  have HB2 : Hid (Below w.heap.size w w2) := thru0 HB1.out hb
  have z2 : w1.heap.size ≤ w2.heap.size := hb.size
  have HS_2 := Lib.hid (HS_1.out.below hb)
  have A_2 := Lib.hid (A_1.out.below hb)
  have RA_2 : Hid (OwnIn w2 (w1.heap.size) w2.heap.size u2 n f) := ho.into
  clear hb lA cA0 cA1 cA2 cA3 HS_1 A_1 HB1 ho
  go_wp2_with fail
  refine (specOIG_any _ _ _ _ _ _ f co L1 _ RA_2.out.src hc2 hcm2 HR.out).mono ?_
  rintro e w3 ⟨u3, c3, T3, rfl, ho, hg3, hb, _, _⟩
  have HB3 : Hid (Below w.heap.size w w3) := thru0 HB2.out hb
  have z3 : w2.heap.size ≤ w3.heap.size := hb.size
  have HS_3 := Lib.hid (HS_2.out.below hb)
  have A_3 := Lib.hid (A_2.out.below hb)
  have RA_3 := Lib.hid (RA_2.out.below hb)
  have RW_3 : Hid (GVO w3 (w2.heap.size) w3.heap.size u3 L1.length T3) := ho
  have HG3 := Lib.hid hg3
  clear hg3
  clear hb HS_2 A_2 RA_2 HB2 ho
  clear RA_3
  have lA := A_3.out.1
  have cA0 := A_3.out.at 0 rfl
  have cA1 := A_3.out.at 1 rfl
  have cA2 := A_3.out.at 2 rfl
  have cA3 := A_3.out.at 3 rfl
  go_wp2_with fail
  refine (toArena_any _ _ _ _ _ _ f _ (HS_3.out.alloc _) hbig).mono ?_
  rintro e w4 ⟨u4, c4, rfl, ho, hb, hc4, hcm4, hn4⟩
  have HB4 : Hid (Below w.heap.size w w4) := thru1 HB3.out hb
  have z4 : w3.heap.size + 1 ≤ w4.heap.size := by have := hb.size; simp at this; omega
  have HS_4 := Lib.hid ((HS_3.out.alloc _).below hb)
  have A_4 := Lib.hid ((A_3.out.alloc _).below hb)
  have RW_4 := Lib.hid ((RW_3.out.alloc _).below hb)
  have W_4 := Lib.hid ((Blk.new_at (w3.heap.size) (by simp)).below hb)
  have RX_4 : Hid (OwnIn w4 (w3.heap.size + 1) w4.heap.size u4 n f) := (ho.mono (by simp)).into
  clear hb lA cA0 cA1 cA2 cA3 HS_3 A_3 RW_3 HB3 ho
  go_wp2_with fail
  refine (HI _ _ _ _ _ _ f co L1 _ (RX_4.out.alloc _).src hc4 hcm4 HR.out).mono ?_
  rintro e w5 ⟨u5, c5, T5, rfl, ho, hg5, hb, _, _⟩
  have HB5 : Hid (Below w.heap.size w w5) := thru1 HB4.out hb
  have z5 : w4.heap.size + 1 ≤ w5.heap.size := by have := hb.size; simp at this; omega
  have HS_5 := Lib.hid ((HS_4.out.alloc _).below hb)
  have A_5 := Lib.hid ((A_4.out.alloc _).below hb)
  have RW_5 := Lib.hid ((RW_4.out.alloc _).below hb)
  have W_5 := Lib.hid ((W_4.out.alloc _).below hb)
  have RX_5 := Lib.hid ((RX_4.out.alloc _).below hb)
  have X_5 := Lib.hid ((Blk.new_at (w4.heap.size) (by simp)).below hb)
  have RG_5 : Hid (GVO w5 (w4.heap.size + 1) w5.heap.size u5 L1.length T5) := (gvo_mono ho (by simp))
  have HG5 := Lib.hid hg5
  clear hg5
  clear hb HS_4 A_4 RW_4 W_4 RX_4 HB4 ho
  have lW := W_5.out.1
  have cW0 := W_5.out.at 0 rfl
  have cW1 := W_5.out.at 1 rfl
  have lA := A_5.out.1
  have cA0 := A_5.out.at 0 rfl
  have cA1 := A_5.out.at 1 rfl
  have cA2 := A_5.out.at 2 rfl
  have cA3 := A_5.out.at 3 rfl
  have lX := X_5.out.1
  have cX0 := X_5.out.at 0 rfl
  have cX1 := X_5.out.at 1 rfl
  have cX2 := X_5.out.at 2 rfl
  have cX3 := X_5.out.at 3 rfl
  go_wp2_with fail
  refine (eqORG_same co _ _ L1.length _ _ T5 T3 _ (RG_5.out.alloc _).src (RW_5.out.alloc _).src (fun i hi => GSame.tie (HG5.out i hi) (HG3.out i hi)) hL1 (fun i hi => obT_le HG5.out hx1 i hi)).mono ?_
  rintro e w6 ⟨rfl, hb⟩
  have HB6 : Hid (Below w.heap.size w w6) := thru1 HB5.out hb
  have z6 : w5.heap.size + 1 ≤ w6.heap.size := by have := hb.size; simp at this; omega
  have HS_6 := Lib.hid ((HS_5.out.alloc _).below hb)
  have A_6 := Lib.hid ((A_5.out.alloc _).below hb)
  have RW_6 := Lib.hid ((RW_5.out.alloc _).below hb)
  have W_6 := Lib.hid ((W_5.out.alloc _).below hb)
  have RX_6 := Lib.hid ((RX_5.out.alloc _).below hb)
  have X_6 := Lib.hid ((X_5.out.alloc _).below hb)
  have RG_6 := Lib.hid ((RG_5.out.alloc _).below hb)
  have G_6 := Lib.hid ((Blk.new_at (w5.heap.size) (by simp)).below hb)
  clear hb lW cW0 cW1 lA cA0 cA1 cA2 cA3 lX cX0 cX1 cX2 cX3 HS_5 A_5 RW_5 W_5 RX_5 X_5 RG_5 HB5
  have lA := A_6.out.1
  have cA0 := A_6.out.at 0 rfl
  have cA1 := A_6.out.at 1 rfl
  have cA2 := A_6.out.at 2 rfl
  have cA3 := A_6.out.at 3 rfl
  have lX := X_6.out.1
  have cX0 := X_6.out.at 0 rfl
  have cX1 := X_6.out.at 1 rfl
  have cX2 := X_6.out.at 2 rfl
  have cX3 := X_6.out.at 3 rfl
  go_wp2_with fail
  have HS_6d := Lib.hid HS_6.out.drew
  have A_6d := Lib.hid A_6.out.drew
  have RW_6d := Lib.hid RW_6.out.drew
  have W_6d := Lib.hid W_6.out.drew
  have RX_6d := Lib.hid RX_6.out.drew
  have X_6d := Lib.hid X_6.out.drew
  have RG_6d := Lib.hid RG_6.out.drew
  have G_6d := Lib.hid G_6.out.drew
  have HB6d := Lib.hid HB6.out.drew
  go_region_held3 (fun w' => w'.cell? ⟨w.heap.size, 0, none⟩ = some (.int .i64 h) ∧ w'.cell? ⟨w.heap.size, 1, none⟩ = some (.slice a n c) ∧ w'.cell? ⟨w.heap.size, 2, none⟩ = some (.int .i64 ac) ∧ w'.cell? ⟨w.heap.size, 3, none⟩ = some (.int .i64 bu) ∧ w'.cell? ⟨w4.heap.size, 0, none⟩ = some (.int .i64 h) ∧ w'.cell? ⟨w4.heap.size, 1, none⟩ = some (.slice u4 n c4) ∧ w'.cell? ⟨w4.heap.size, 2, none⟩ = some (.int .i64 ac) ∧ w'.cell? ⟨w4.heap.size, 3, none⟩ = some (.int .i64 bu))
    (first | exact ⟨A_6d.out.at 0 rfl, A_6d.out.at 1 rfl, A_6d.out.at 2 rfl, A_6d.out.at 3 rfl, X_6d.out.at 0 rfl, X_6d.out.at 1 rfl, X_6d.out.at 2 rfl, X_6d.out.at 3 rfl⟩ | exact ⟨A_7.out.at 0 rfl, A_7.out.at 1 rfl, A_7.out.at 2 rfl, A_7.out.at 3 rfl, X_7.out.at 0 rfl, X_7.out.at 1 rfl, X_7.out.at 2 rfl, X_7.out.at 3 rfl⟩ | exact ⟨A_8.out.at 0 rfl, A_8.out.at 1 rfl, A_8.out.at 2 rfl, A_8.out.at 3 rfl, X_8.out.at 0 rfl, X_8.out.at 1 rfl, X_8.out.at 2 rfl, X_8.out.at 3 rfl⟩)
    (first | (go_at_call 34; refine (toArena_any _ _ _ _ _ _ f _ HS_6d.out hbig).mono ?_; rintro e w7 ⟨u7, c7, rfl, ho, hb, hc7, hcm7, hn7⟩; have HB7 := Lib.hid (thru0 HB6d.out hb); have z7 : w6.heap.size ≤ w7.heap.size := hb.size; have HS_7 := Lib.hid (HS_6d.out.below hb); have A_7 := Lib.hid (A_6d.out.below hb); have RW_7 := Lib.hid (RW_6d.out.below hb); have W_7 := Lib.hid (W_6d.out.below hb); have RX_7 := Lib.hid (RX_6d.out.below hb); have X_7 := Lib.hid (X_6d.out.below hb); have RG_7 := Lib.hid (RG_6d.out.below hb); have G_7 := Lib.hid (G_6d.out.below hb); have RT_7 : Hid (OwnIn w7 w6.heap.size w7.heap.size u7 n f) := ho.into; clear hb ho) | (go_at_call 36; refine (eqArena_same _ _ _ _ _ _ _ _ f f _ RX_7.out.src RT_7.out.src hbig (fun _ _ => rfl)).mono ?_; rintro e w8 ⟨rfl, hb⟩; have HB8 := Lib.hid (thru0 HB7.out hb); have z8 : w7.heap.size ≤ w8.heap.size := hb.size; have HS_8 := Lib.hid (HS_7.out.below hb); have A_8 := Lib.hid (A_7.out.below hb); have RW_8 := Lib.hid (RW_7.out.below hb); have W_8 := Lib.hid (W_7.out.below hb); have RX_8 := Lib.hid (RX_7.out.below hb); have X_8 := Lib.hid (X_7.out.below hb); have RG_8 := Lib.hid (RG_7.out.below hb); have G_8 := Lib.hid (G_7.out.below hb); have RT_8 := Lib.hid (RT_7.out.below hb); clear hb))

  have lX := X_8.out.1
  have cX0 := X_8.out.at 0 rfl
  have cX1 := X_8.out.at 1 rfl
  have cX2 := X_8.out.at 2 rfl
  have cX3 := X_8.out.at 3 rfl
  go_wp2_with fail
  clear HS_8
  refine (markArena_any _ _ _ _ _ _ _ _ _ _ _ RX_8.out hbig (by omega) (by omega)).mono ?_
  rintro e w9 ⟨rfl, ho, hk⟩
  have HB9 : Hid (Below w.heap.size w w9) := HB8.out.trans (hk.below (by omega) HB8.out.size)
  have z9 : w8.heap.size ≤ w9.heap.size := hk.size
  have A_9 := Lib.hid (A_8.out.keeps hk (by omega))
  have RW_9 := Lib.hid (RW_8.out.keeps hk (by omega))
  have W_9 := Lib.hid (W_8.out.keeps hk (by omega))
  have X_9 := Lib.hid (X_8.out.keeps hk (by omega))
  have RG_9 := Lib.hid (RG_8.out.keeps hk (by omega))
  have G_9 := Lib.hid (G_8.out.keeps hk (by omega))
  have RX_9 : Hid (OwnIn w9 (w3.heap.size + 1) w4.heap.size u4 n (fun i => 1 + i)) := ho
  clear hk lX cX0 cX1 cX2 cX3 A_8 RW_8 W_8 RX_8 X_8 RG_8 G_8 HB8 ho
  have lW := W_9.out.1
  have cW0 := W_9.out.at 0 rfl
  have cW1 := W_9.out.at 1 rfl
  have lG := G_9.out.1
  have cG0 := G_9.out.at 0 rfl
  have cG1 := G_9.out.at 1 rfl
  go_wp2_with fail
  refine (eqORG_same co _ _ L1.length _ _ T5 T3 _ RG_9.out.src RW_9.out.src (fun i hi => GSame.tie (HG5.out i hi) (HG3.out i hi)) hL1 (fun i hi => obT_le HG5.out hx1 i hi)).mono ?_
  rintro e w10 ⟨rfl, hb⟩
  have HB10 : Hid (Below w.heap.size w w10) := thru0 HB9.out hb
  have z10 : w9.heap.size ≤ w10.heap.size := hb.size
  have A_10 := Lib.hid (A_9.out.below hb)
  have RW_10 := Lib.hid (RW_9.out.below hb)
  have W_10 := Lib.hid (W_9.out.below hb)
  have X_10 := Lib.hid (X_9.out.below hb)
  have RG_10 := Lib.hid (RG_9.out.below hb)
  have G_10 := Lib.hid (G_9.out.below hb)
  have RX_10 := Lib.hid (RX_9.out.below hb)
  clear hb lW cW0 cW1 lG cG0 cG1 A_9 RW_9 W_9 X_9 RG_9 G_9 RX_9 HB9
  have lG := G_10.out.1
  have cG0 := G_10.out.at 0 rfl
  have cG1 := G_10.out.at 1 rfl
  go_wp2_with fail
  have hok : (1 : Int) + (offs T5 L1.length : Int) ≤ 1048576 := offs_small HG5.out hx1 hL4
  refine (markOR_any co _ _ L1.length _ _ T5 1 _ RG_10.out (by omega) hok).mono ?_
  rintro e w11 ⟨rfl, ho, hk⟩
  have HB11 : Hid (Below w.heap.size w w11) := HB10.out.trans (hk.below (by omega) HB10.out.size)
  have z11 : w10.heap.size ≤ w11.heap.size := hk.size
  have A_11 := Lib.hid (A_10.out.keeps hk (by omega))
  have RW_11 := Lib.hid (RW_10.out.keeps hk (by omega))
  have W_11 := Lib.hid (W_10.out.keeps hk (by omega))
  have X_11 := Lib.hid (X_10.out.keeps hk (by omega))
  have G_11 := Lib.hid (G_10.out.keeps hk (by omega))
  have RX_11 := Lib.hid (RX_10.out.keeps hk (by omega))
  have RG_11 : Hid (GVO w11 (w4.heap.size + 1) w5.heap.size u5 L1.length (marked T5 1)) := ho
  clear hk lG cG0 cG1 A_10 RW_10 W_10 X_10 RG_10 G_10 RX_10 HB10 ho
  have lG := G_11.out.1
  have cG0 := G_11.out.at 0 rfl
  have cG1 := G_11.out.at 1 rfl
  go_wp2_with fail
  refine (heldOR_any co L1.length _ _ T5 1 _ RG_11.out.src (by omega) hok).mono ?_
  rintro e w12 ⟨rfl, hb⟩
  have HB12 : Hid (Below w.heap.size w w12) := thru0 HB11.out hb
  have z12 : w11.heap.size ≤ w12.heap.size := hb.size
  have A_12 := Lib.hid (A_11.out.below hb)
  have RW_12 := Lib.hid (RW_11.out.below hb)
  have W_12 := Lib.hid (W_11.out.below hb)
  have X_12 := Lib.hid (X_11.out.below hb)
  have G_12 := Lib.hid (G_11.out.below hb)
  have RX_12 := Lib.hid (RX_11.out.below hb)
  have RG_12 := Lib.hid (RG_11.out.below hb)
  clear hb lG cG0 cG1 A_11 RW_11 W_11 X_11 G_11 RX_11 RG_11 HB11
  have lA := A_12.out.1
  have cA0 := A_12.out.at 0 rfl
  have cA1 := A_12.out.at 1 rfl
  have cA2 := A_12.out.at 2 rfl
  have cA3 := A_12.out.at 3 rfl
  go_wp2_with fail
  have HSk := Lib.hid (HS0.out.below HB12.out)
  refine (toArena_any _ _ _ _ _ _ f _ HSk.out hbig).mono ?_
  rintro e w13 ⟨u13, c13, rfl, ho, hb, hc13, hcm13, hn13⟩
  have HB13 : Hid (Below w.heap.size w w13) := thru0 HB12.out hb
  have z13 : w12.heap.size ≤ w13.heap.size := hb.size
  have A_13 := Lib.hid (A_12.out.below hb)
  have RW_13 := Lib.hid (RW_12.out.below hb)
  have W_13 := Lib.hid (W_12.out.below hb)
  have X_13 := Lib.hid (X_12.out.below hb)
  have G_13 := Lib.hid (G_12.out.below hb)
  have RX_13 := Lib.hid (RX_12.out.below hb)
  have RG_13 := Lib.hid (RG_12.out.below hb)
  have HS_13 := Lib.hid (HSk.out.below hb)
  have RT_13 : Hid (OwnIn w13 (w12.heap.size) w13.heap.size u13 n f) := ho.into
  clear hb lA cA0 cA1 cA2 cA3 A_12 RW_12 W_12 X_12 G_12 RX_12 RG_12 HSk HB12 ho
  go_wp2_with fail
  refine (HI _ _ _ _ _ _ f co L1 _ RT_13.out.src hc13 hcm13 HR.out).mono ?_
  rintro e w14 ⟨u14, c14, T14, rfl, ho, hg14, hb, _, _⟩
  have HB14 : Hid (Below w.heap.size w w14) := thru0 HB13.out hb
  have z14 : w13.heap.size ≤ w14.heap.size := hb.size
  have A_14 := Lib.hid (A_13.out.below hb)
  have RW_14 := Lib.hid (RW_13.out.below hb)
  have W_14 := Lib.hid (W_13.out.below hb)
  have X_14 := Lib.hid (X_13.out.below hb)
  have G_14 := Lib.hid (G_13.out.below hb)
  have RX_14 := Lib.hid (RX_13.out.below hb)
  have RG_14 := Lib.hid (RG_13.out.below hb)
  have HS_14 := Lib.hid (HS_13.out.below hb)
  have RT_14 := Lib.hid (RT_13.out.below hb)
  have RH_14 : Hid (GVO w14 (w13.heap.size) w14.heap.size u14 L1.length T14) := ho
  have HG14 := Lib.hid hg14
  clear hg14
  clear hb A_13 RW_13 W_13 X_13 G_13 RX_13 RG_13 HS_13 RT_13 HB13 ho
  clear RT_14
  have lW := W_14.out.1
  have cW0 := W_14.out.at 0 rfl
  have cW1 := W_14.out.at 1 rfl
  have lG := G_14.out.1
  have cG0 := G_14.out.at 0 rfl
  have cG1 := G_14.out.at 1 rfl
  go_wp2_with fail
  refine (eqORG_same co _ _ L1.length _ _ T14 T3 _ (RH_14.out.alloc _).src (RW_14.out.alloc _).src (fun i hi => GSame.tie (HG14.out i hi) (HG3.out i hi)) hL1 (fun i hi => obT_le HG14.out hx1 i hi)).mono ?_
  rintro e w15 ⟨rfl, hb⟩
  have HB15 : Hid (Below w.heap.size w w15) := thru1 HB14.out hb
  have z15 : w14.heap.size + 1 ≤ w15.heap.size := by have := hb.size; simp at this; omega
  have A_15 := Lib.hid ((A_14.out.alloc _).below hb)
  have RW_15 := Lib.hid ((RW_14.out.alloc _).below hb)
  have W_15 := Lib.hid ((W_14.out.alloc _).below hb)
  have X_15 := Lib.hid ((X_14.out.alloc _).below hb)
  have G_15 := Lib.hid ((G_14.out.alloc _).below hb)
  have RX_15 := Lib.hid ((RX_14.out.alloc _).below hb)
  have RG_15 := Lib.hid ((RG_14.out.alloc _).below hb)
  have HS_15 := Lib.hid ((HS_14.out.alloc _).below hb)
  have RH_15 := Lib.hid ((RH_14.out.alloc _).below hb)
  have HH_15 := Lib.hid ((Blk.new_at (w14.heap.size) (by simp)).below hb)
  clear hb lW cW0 cW1 lG cG0 cG1 A_14 RW_14 W_14 X_14 G_14 RX_14 RG_14 HS_14 RH_14 HB14
  have lG := G_15.out.1
  have cG0 := G_15.out.at 0 rfl
  have cG1 := G_15.out.at 1 rfl
  go_wp2_with fail
  refine (heldOR_any co L1.length _ _ T5 1 _ RG_15.out.src (by omega) hok).mono ?_
  rintro e w16 ⟨rfl, hb⟩
  have HB16 : Hid (Below w.heap.size w w16) := thru0 HB15.out hb
  have z16 : w15.heap.size ≤ w16.heap.size := hb.size
  have A_16 := Lib.hid (A_15.out.below hb)
  have RW_16 := Lib.hid (RW_15.out.below hb)
  have W_16 := Lib.hid (W_15.out.below hb)
  have X_16 := Lib.hid (X_15.out.below hb)
  have G_16 := Lib.hid (G_15.out.below hb)
  have RX_16 := Lib.hid (RX_15.out.below hb)
  have RG_16 := Lib.hid (RG_15.out.below hb)
  have HS_16 := Lib.hid (HS_15.out.below hb)
  have RH_16 := Lib.hid (RH_15.out.below hb)
  have HH_16 := Lib.hid (HH_15.out.below hb)
  clear hb lG cG0 cG1 A_15 RW_15 W_15 X_15 G_15 RX_15 RG_15 HS_15 RH_15 HH_15 HB15
  go_wp2
  go_ret
  exact ⟨rfl, HB16.out⟩

theorem e5_any (HI : ImplOI) (h ac bu : Int) (a : Option Addr) (n c : Nat) (f : Nat → Int) (w : World) (hs : Src w a n f) (hn : n ≤ maxLen) : Calls Try.prog 5 #[.agg #[.int .i64 h, .slice a n c, .int .i64 ac, .int .i64 bu]] w (RetBool w true) := by
  by_cases hb : n ≤ 1048576
  · exact e5_near HI h ac bu a n c f  w hs hb
  · exact e5_far h ac bu a n c  w hn (by omega)
end Go.Proofs.Ytlelgfkebcnepaa

namespace Go.Proofs.Ytlelgfkebcnepaa
open Go.RowKit
set_option linter.unusedVariables false

theorem GSame.symm {t u : GM} (h : GSame t u) : GSame u t := (GSame.refl u).tie h
end Go.Proofs.Ytlelgfkebcnepaa

namespace Go.Proofs.Ytlelgfkebcnepaa
open Go.RowKit
set_option linter.unusedVariables false

theorem GSame.trans {t u v : GM} (h1 : GSame t u) (h2 : GSame u v) : GSame t v := by
  obtain ⟨a1, a2, a3, a4, a5, a6, a7⟩ := h1
  obtain ⟨b1, b2, b3, b4, b5, b6, b7⟩ := h2
  exact ⟨a1.trans b1, a2.trans b2, a3.trans b3, a4.trans b4, a5.trans b5, a6.trans b6, fun k hk => (a7 k hk).trans (b7 k (by omega))⟩
end Go.Proofs.Ytlelgfkebcnepaa

namespace Go.Proofs.Ytlelgfkebcnepaa
open Go.RowKit
set_option linter.unusedVariables false

theorem seven_keeps (w : World) (B : Nat) (v0 v1 v2 v3 v4 v5 v6 : Value) : Keeps w (((((((w.setCell ⟨B, 0, none⟩ v0).setCell ⟨B, 1, none⟩ v1).setCell ⟨B, 2, none⟩ v2).setCell ⟨B, 3, none⟩ v3).setCell ⟨B, 4, none⟩ v4).setCell ⟨B, 5, none⟩ v5).setCell ⟨B, 6, none⟩ v6) B (B + 1) := by
  repeat (refine Keeps.trans ?_ (keeps_setCell (p := ⟨B, _, none⟩) (Nat.le_refl B) (Nat.lt_succ_self B) _))
  exact Keeps.refl _ _ _

theorem blk_seven {w : World} {b B : Nat} {cs : List Value} (h : Blk w b cs) (hne : b ≠ B) (v0 v1 v2 v3 v4 v5 v6 : Value) : Blk (((((((w.setCell ⟨B, 0, none⟩ v0).setCell ⟨B, 1, none⟩ v1).setCell ⟨B, 2, none⟩ v2).setCell ⟨B, 3, none⟩ v3).setCell ⟨B, 4, none⟩ v4).setCell ⟨B, 5, none⟩ v5).setCell ⟨B, 6, none⟩ v6) b cs := h.keeps (seven_keeps w B v0 v1 v2 v3 v4 v5 v6) (by omega)

theorem cells5 {w : World} {b : Nat} {v0 v1 v2 v3 v4 : Value} (h : Blk w b [v0, v1, v2, v3, v4]) : w.cell? ⟨b, 0, none⟩ = some v0 ∧ w.cell? ⟨b, 1, none⟩ = some v1 ∧ w.cell? ⟨b, 2, none⟩ = some v2 ∧ w.cell? ⟨b, 3, none⟩ = some v3 ∧ w.cell? ⟨b, 4, none⟩ = some v4 := ⟨h.at 0 rfl, h.at 1 rfl, h.at 2 rfl, h.at 3 rfl, h.at 4 rfl⟩

set_option maxRecDepth 100000 in
set_option maxHeartbeats 400000 in
theorem clone_all (ad : Addr) (n cap : Nat) (f : Nat → Int) (w : World) (hs : Src w (some ad) n f) (hn : n ≤ 1048576) :
    Calls Try.prog 130 #[.slice (some ad) n cap] w (RetInts w n f) := by
  rcases Nat.eq_zero_or_pos n with rfl | hp
  · obtain ⟨i0, hi, hz0, hz1, hz2⟩ := info_parts Try.info2
    have hnil := fun (w : World) (a : Option Addr) (n c : Nat) => Lib.run_eql_slice_nil (P := Try.prog) w 24 2 a n c 0 0 Try.underlying24
    go_enter Try.func130, Try.ntmps130
    go_wp2_with (at_builtin; refine wpList_append_own _ rfl _ _ 24 rfl w.heap.size 2 i0 (.int .i64 0) 1 8 Try.underlying24 hi hz0 hz1 hz2 rfl (by decide) _ 0 [] rfl (World.ownsRow_lit w #[] 0 (Nat.le_refl _) (by simp [maxLen]) rfl) ad 0 cap (nums 0 f) rfl (by simp [nums]) (by intro j u h; simp [nums] at h) (nums_one 0 f) (by unfold maxLen; omega) (by omega) (by simp) ?_; intro v' w1 hown hgrow _)
    go_ret
    exact retInts_of_row (e := 2) (by simpa using hown) (((Below.refl _ _).alloc (Nat.le_refl _) _).grown hgrow (by simp) (by intro k hk; cases hk; exact Nat.le_refl _))
  · exact clone_any (some ad) n cap f w hs hp hn

/-- The first object of a row of words comes back, or a code. -/
def RetFirst (W : World) (n : Nat) (f : Nat → Int) (e : Ending) (w' : World) : Prop :=
  Below W.heap.size W w' ∧ ((Good f n 0 ∧ ∃ a c, e = .returned (.agg #[.int .i64 0, .int .i64 0, .int .i64 (f 0 / 2 % 16), .int .i64 (f 0 / 32 % 4096), .int .i64 (f 0 / 131072), .int .i64 (f 1), .slice a (szOf f 0) c]) ∧ Own w' W.heap.size a (szOf f 0) (fun k => f (2 + k))) ∨
    (¬ Good f n 0 ∧ e = .returned (.agg #[.int .i64 1, .int .i64 0, .int .i64 0, .int .i64 0, .int .i64 0, .int .i64 0, .slice none 0 0])))

set_option maxRecDepth 100000 in
set_option maxHeartbeats 1600000 in
theorem implFirst_any (b off n c : Nat) (f : Nat → Int) (w : World) (hs : Src w (some ⟨b, off, none⟩) n f) (hn : n ≤ 1048576) (hnc : n ≤ c) (hcm : c ≤ maxLen) :
    Calls Try.prog 110 #[.slice (some ⟨b, off, none⟩) n c] w (RetFirst w n f) := by
  have S := Lib.hid hs
  clear hs
  by_cases h2 : n < 2
  · have h2' : (n : Int) < 2 := by omega
    have hb : Hid (¬ Good f n 0) := Lib.hid (fun h => by have := h.1; omega)
    go_enter Try.func110, Try.ntmps110
    go_wp2
    refine bodyPost_ret (v := .agg #[.int .i64 1, .int .i64 0, .int .i64 0, .int .i64 0, .int .i64 0, .int .i64 0, .slice none 0 0]) (by simp [results, Try.results110, go_sem]) rfl ⟨?_, .inr ⟨hb.out, rfl⟩⟩
    repeat (first | (with_reducible refine Below.setCell ?_ (by (try simp); (try omega)) _) | (with_reducible refine Below.alloc ?_ (by (try simp); (try omega)) _) | (with_reducible refine Below.drew ?_))
    exact Below.refl _ _
  · have h2' : ¬ (n : Int) < 2 := by omega
    have h22 : (2 : Int) ≤ (n : Int) := by omega
    have hnc' : (n : Int) ≤ (c : Int) := by omega
    have hc2 : 2 ≤ c := by omega
    have S2 : Hid (Src w (some ⟨b, off, none⟩) 2 f) := S.out.elim (fun h => .inl (by omega)) (fun ⟨b', o', h1, h3, h4⟩ => .inr ⟨b', o', h1, h3, fun i hi => h4 i (by omega)⟩)
    have HCM := Lib.hid hcm
    clear hcm
    by_cases hk : ROk (f 0) (f 1)
    · have hs12 := hk.2.1
      have HK := Lib.hid hk
      clear hk
      go_enter Try.func110, Try.ntmps110
      go_wp2_with fail

      refine (implRH_any (some ⟨b, off, none⟩) 2 c f 0 (f 0 / 2 % 16) (f 0 / 32 % 4096) (f 0 / 131072) (f 1) _ (S2.out.alloc _) (by omega) (.inr (.inl ⟨rfl, HK.out, rfl, rfl, rfl, rfl, rfl⟩))).mono ?_
      rintro e w1 ⟨rfl, hb⟩
      have HB1 := Lib.hid (thru1 (Below.refl _ _) hb)
      have R_1 := Lib.hid ((Blk.new_at (w := w) (cs := #[.int .i64 0, .int .i64 0, .int .i64 0, .int .i64 0, .int .i64 0, .int .i64 0, .slice none 0 0]) (t := 44) (w.heap.size) rfl).below hb)
      have S1 := Lib.hid ((S.out.alloc _).below hb)
      have z1 : w.heap.size + 1 ≤ w1.heap.size := by have := hb.size; simp at this; omega
      clear hb
      by_cases hfit : f 0 / 2 % 16 ≤ (n : Int) - 2
      · obtain ⟨s, hs⟩ : ∃ s : Nat, f 0 / 2 % 16 = (s : Int) := ⟨(f 0 / 2 % 16).toNat, by omega⟩
        have hsz : szOf f 0 = s := by unfold szOf; omega
        have hg : Hid (Good f n 0) := Lib.hid ⟨by omega, HK.out, by rw [hsz]; omega⟩
        rw [hs] at hs12 hfit ⊢
        have HSZ := Lib.hid hsz
        clear hsz
        obtain ⟨m, hm⟩ : ∃ m, f 0 / 32 % 4096 = m := ⟨_, rfl⟩
        obtain ⟨o, ho⟩ : ∃ o, f 0 / 131072 = o := ⟨_, rfl⟩
        rw [hm, ho]
        have HES := Lib.hid hs; have HEM := Lib.hid hm; have HEO := Lib.hid ho
        clear hs hm ho
        have X1 := Lib.hid (Blk.new_at (w := w1) (cs := #[.int .i64 0, .int .i64 (s : Int), .int .i64 m, .int .i64 o, .int .i64 (f 1)]) (t := 167) (w1.heap.size) rfl)
        have R1 := Lib.hid (R_1.out.alloc (.cells #[.int .i64 0, .int .i64 (s : Int), .int .i64 m, .int .i64 o, .int .i64 (f 1)] 167))
        have HBa := Lib.hid (HB1.out.alloc HB1.out.size (.cells #[.int .i64 0, .int .i64 (s : Int), .int .i64 m, .int .i64 o, .int .i64 (f 1)] 167))
        have S3 : Hid (Src (w1.alloc (.cells #[.int .i64 0, .int .i64 (s : Int), .int .i64 m, .int .i64 o, .int .i64 (f 1)] 167)) (some ⟨b, off + 2, none⟩) s (fun k => f (2 + k))) := (S1.out.alloc _).elim (fun h => .inl (by omega)) (fun ⟨b', o', h1, h3, h4⟩ => .inr ⟨b', o' + 2, by cases h1; rfl, h3, fun i hi => by rw [show o' + 2 + i = o' + (2 + i) by omega]; exact h4 (2 + i) (by omega)⟩)
        have X1d := Lib.hid X1.out.drew; have R1d := Lib.hid R1.out.drew; have S3d := Lib.hid S3.out.drew; have HBd := Lib.hid HBa.out.drew
        have zd' : Hid (w.heap.size + 2 ≤ (w1.alloc (.cells #[.int .i64 0, .int .i64 (s : Int), .int .i64 m, .int .i64 o, .int .i64 (f 1)] 167)).drew.heap.size) := Lib.hid (by simp [World.drew]; omega)
        have hne7 : w1.heap.size ≠ w.heap.size := by omega
        have hs0 : (0 : Int) ≤ (s : Int) := by omega
        have hle1 : (2 : Int) ≤ 2 + (s : Int) := by omega
        have hle2 : 2 + (s : Int) ≤ (c : Int) := by omega
        have hs9 : s ≤ 1048576 := by omega
        by_cases hc : c = 2
        · have hz0 : Hid (s = 0) := Lib.hid (by omega)
          have S4d : Hid (Src (w1.alloc (.cells #[.int .i64 0, .int .i64 (s : Int), .int .i64 m, .int .i64 o, .int .i64 (f 1)] 167)).drew (some ⟨b, off, none⟩) s (fun k => f (2 + k))) := Lib.hid (Or.inl hz0.out)
          subst hc
          have lR := R_1.out.1; have cR0 := R_1.out.at 0 rfl; have fR0 := R_1.out.free 0 rfl; have cR1 := R_1.out.at 1 rfl; have fR1 := R_1.out.free 1 rfl; have cR2 := R_1.out.at 2 rfl; have fR2 := R_1.out.free 2 rfl; have cR3 := R_1.out.at 3 rfl; have fR3 := R_1.out.free 3 rfl; have cR4 := R_1.out.at 4 rfl; have fR4 := R_1.out.free 4 rfl; have cR5 := R_1.out.at 5 rfl; have fR5 := R_1.out.free 5 rfl; have cR6 := R_1.out.at 6 rfl; have fR6 := R_1.out.free 6 rfl
          go_wp2_with fail
          clear lR cR0 fR0 cR1 fR1 cR2 fR2 cR3 fR3 cR4 fR4 cR5 fR5 cR6 fR6
          clear hle1 hle2 hfit hs12 hnc' hc2 h22 h2' h2 hn hnc S S2 S1 X1 R1 HBa S3 R_1 HB1 HCM HK hs0
          go_region_held3 (fun w' => w'.cell? ⟨w1.heap.size, 0, none⟩ = some (.int .i64 0) ∧ w'.cell? ⟨w1.heap.size, 1, none⟩ = some (.int .i64 (s : Int)) ∧ w'.cell? ⟨w1.heap.size, 2, none⟩ = some (.int .i64 m) ∧ w'.cell? ⟨w1.heap.size, 3, none⟩ = some (.int .i64 o) ∧ w'.cell? ⟨w1.heap.size, 4, none⟩ = some (.int .i64 (f 1)))
            (first | (with_reducible exact cells5 X1d.out) | (with_reducible exact cells5 X2.out) | (with_reducible exact cells5 (blk_seven X2.out hne7 _ _ _ _ _ _ _)))
            (first | (go_at_call 130; refine (clone_all ⟨b, off, none⟩ s _ (fun k => f (2 + k)) _ S4d.out hs9).mono ?_; rintro e w2 ⟨g, cg, rfl, ho, hb, _, _, _⟩; have HB2 := Lib.hid (HBd.out.trans (hb.mono HBd.out.size)); have X2 := Lib.hid (X1d.out.below hb); have R2 := Lib.hid (R1d.out.below hb); have z2 := hb.size; have HO := Lib.hid (ho.mono zd'.out); clear hb ho; have lR := R2.out.1; have cR0 := R2.out.at 0 rfl; have fR0 := R2.out.free 0 rfl; have cR1 := R2.out.at 1 rfl; have fR1 := R2.out.free 1 rfl; have cR2 := R2.out.at 2 rfl; have fR2 := R2.out.free 2 rfl; have cR3 := R2.out.at 3 rfl; have fR3 := R2.out.free 3 rfl; have cR4 := R2.out.at 4 rfl; have fR4 := R2.out.free 4 rfl; have cR5 := R2.out.at 5 rfl; have fR5 := R2.out.free 5 rfl; have cR6 := R2.out.at 6 rfl; have fR6 := R2.out.free 6 rfl))
          go_wp2
          refine bodyPost_ret (v := .agg #[.int .i64 0, .int .i64 0, .int .i64 (s : Int), .int .i64 m, .int .i64 o, .int .i64 (f 1), .slice g s cg]) (by simp [results, Try.results110, go_sem, cR0, cR1, cR2, cR3, cR4, cR5, cR6]) rfl ⟨?_, .inl ⟨hg.out, g, cg, by rw [HSZ.out, HES.out, HEM.out, HEO.out], ?_⟩⟩
          · repeat (first | (with_reducible refine Below.setCell ?_ (by (try simp); (try omega)) _) | (with_reducible refine Below.alloc ?_ (by (try simp); (try omega)) _) | (with_reducible refine Below.drew ?_))
            exact HB2.out
          · rw [HSZ.out]
            refine Own.mono (B := w.heap.size + 2) ?_ (by omega)
            repeat (first | (with_reducible refine Own.setCell ?_ (by (try simp); (try omega)) _) | (with_reducible refine Own.alloc ?_ _) | (with_reducible refine Own.drew ?_))
            exact HO.out
        · have lR := R_1.out.1; have cR0 := R_1.out.at 0 rfl; have fR0 := R_1.out.free 0 rfl; have cR1 := R_1.out.at 1 rfl; have fR1 := R_1.out.free 1 rfl; have cR2 := R_1.out.at 2 rfl; have fR2 := R_1.out.free 2 rfl; have cR3 := R_1.out.at 3 rfl; have fR3 := R_1.out.free 3 rfl; have cR4 := R_1.out.at 4 rfl; have fR4 := R_1.out.free 4 rfl; have cR5 := R_1.out.at 5 rfl; have fR5 := R_1.out.free 5 rfl; have cR6 := R_1.out.at 6 rfl; have fR6 := R_1.out.free 6 rfl
          go_wp2_with fail
          clear lR cR0 fR0 cR1 fR1 cR2 fR2 cR3 fR3 cR4 fR4 cR5 fR5 cR6 fR6
          clear hle1 hle2 hfit hs12 hnc' hc2 h22 h2' h2 hn hnc S S2 S1 X1 R1 HBa S3 R_1 HB1 HCM HK hs0
          go_region_held3 (fun w' => w'.cell? ⟨w1.heap.size, 0, none⟩ = some (.int .i64 0) ∧ w'.cell? ⟨w1.heap.size, 1, none⟩ = some (.int .i64 (s : Int)) ∧ w'.cell? ⟨w1.heap.size, 2, none⟩ = some (.int .i64 m) ∧ w'.cell? ⟨w1.heap.size, 3, none⟩ = some (.int .i64 o) ∧ w'.cell? ⟨w1.heap.size, 4, none⟩ = some (.int .i64 (f 1)))
            (first | (with_reducible exact cells5 X1d.out) | (with_reducible exact cells5 X2.out) | (with_reducible exact cells5 (blk_seven X2.out hne7 _ _ _ _ _ _ _)))
            (first | (go_at_call 130; refine (clone_all ⟨b, off + 2, none⟩ s _ (fun k => f (2 + k)) _ S3d.out hs9).mono ?_; rintro e w2 ⟨g, cg, rfl, ho, hb, _, _, _⟩; have HB2 := Lib.hid (HBd.out.trans (hb.mono HBd.out.size)); have X2 := Lib.hid (X1d.out.below hb); have R2 := Lib.hid (R1d.out.below hb); have z2 := hb.size; have HO := Lib.hid (ho.mono zd'.out); clear hb ho; have lR := R2.out.1; have cR0 := R2.out.at 0 rfl; have fR0 := R2.out.free 0 rfl; have cR1 := R2.out.at 1 rfl; have fR1 := R2.out.free 1 rfl; have cR2 := R2.out.at 2 rfl; have fR2 := R2.out.free 2 rfl; have cR3 := R2.out.at 3 rfl; have fR3 := R2.out.free 3 rfl; have cR4 := R2.out.at 4 rfl; have fR4 := R2.out.free 4 rfl; have cR5 := R2.out.at 5 rfl; have fR5 := R2.out.free 5 rfl; have cR6 := R2.out.at 6 rfl; have fR6 := R2.out.free 6 rfl))
          go_wp2
          refine bodyPost_ret (v := .agg #[.int .i64 0, .int .i64 0, .int .i64 (s : Int), .int .i64 m, .int .i64 o, .int .i64 (f 1), .slice g s cg]) (by simp [results, Try.results110, go_sem, cR0, cR1, cR2, cR3, cR4, cR5, cR6]) rfl ⟨?_, .inl ⟨hg.out, g, cg, by rw [HSZ.out, HES.out, HEM.out, HEO.out], ?_⟩⟩
          · repeat (first | (with_reducible refine Below.setCell ?_ (by (try simp); (try omega)) _) | (with_reducible refine Below.alloc ?_ (by (try simp); (try omega)) _) | (with_reducible refine Below.drew ?_))
            exact HB2.out
          · rw [HSZ.out]
            refine Own.mono (B := w.heap.size + 2) ?_ (by omega)
            repeat (first | (with_reducible refine Own.setCell ?_ (by (try simp); (try omega)) _) | (with_reducible refine Own.alloc ?_ _) | (with_reducible refine Own.drew ?_))
            exact HO.out
      · have hs12' := hs12
        have hb : Hid (¬ Good f n 0) := Lib.hid (fun h => by have h3 := h.2.2; unfold szOf at h3; omega)
        have hd : (n : Int) - 2 < f 0 / 2 % 16 := by omega
        have lR := R_1.out.1; have cR0 := R_1.out.at 0 rfl; have fR0 := R_1.out.free 0 rfl; have cR1 := R_1.out.at 1 rfl; have fR1 := R_1.out.free 1 rfl; have cR2 := R_1.out.at 2 rfl; have fR2 := R_1.out.free 2 rfl; have cR3 := R_1.out.at 3 rfl; have fR3 := R_1.out.free 3 rfl; have cR4 := R_1.out.at 4 rfl; have fR4 := R_1.out.free 4 rfl; have cR5 := R_1.out.at 5 rfl; have fR5 := R_1.out.free 5 rfl; have cR6 := R_1.out.at 6 rfl; have fR6 := R_1.out.free 6 rfl
        go_wp2
        refine bodyPost_ret (v := .agg #[.int .i64 1, .int .i64 0, .int .i64 0, .int .i64 0, .int .i64 0, .int .i64 0, .slice none 0 0]) (by simp [results, Try.results110, go_sem, lR, cR0, cR1, cR2, cR3, cR4, cR5, cR6]) rfl ⟨?_, .inr ⟨hb.out, rfl⟩⟩
        repeat (first | (with_reducible refine Below.setCell ?_ (by (try simp); (try omega)) _) | (with_reducible refine Below.alloc ?_ (by (try simp); (try omega)) _) | (with_reducible refine Below.drew ?_))
        exact HB1.out
    · have HK := Lib.hid hk
      clear hk
      have hb : Hid (¬ Good f n 0) := Lib.hid (fun h => HK.out h.2.1)
      go_enter Try.func110, Try.ntmps110
      go_wp2_with fail

      refine (implRH_any (some ⟨b, off, none⟩) 2 c f 1 0 0 0 0 _ (S2.out.alloc _) (by omega) (.inr (.inr ⟨rfl, HK.out, rfl, rfl, rfl, rfl, rfl⟩))).mono ?_
      rintro e w1 ⟨rfl, hb⟩
      have HB1 := Lib.hid (thru1 (Below.refl _ _) hb)
      have R_1 := Lib.hid ((Blk.new_at (w := w) (cs := #[.int .i64 0, .int .i64 0, .int .i64 0, .int .i64 0, .int .i64 0, .int .i64 0, .slice none 0 0]) (t := 44) (w.heap.size) rfl).below hb)
      have S1 := Lib.hid ((S.out.alloc _).below hb)
      have z1 : w.heap.size + 1 ≤ w1.heap.size := by have := hb.size; simp at this; omega
      clear hb
      have lR := R_1.out.1; have cR0 := R_1.out.at 0 rfl; have fR0 := R_1.out.free 0 rfl; have cR1 := R_1.out.at 1 rfl; have fR1 := R_1.out.free 1 rfl; have cR2 := R_1.out.at 2 rfl; have fR2 := R_1.out.free 2 rfl; have cR3 := R_1.out.at 3 rfl; have fR3 := R_1.out.free 3 rfl; have cR4 := R_1.out.at 4 rfl; have fR4 := R_1.out.free 4 rfl; have cR5 := R_1.out.at 5 rfl; have fR5 := R_1.out.free 5 rfl; have cR6 := R_1.out.at 6 rfl; have fR6 := R_1.out.free 6 rfl
      go_wp2
      refine bodyPost_ret (v := .agg #[.int .i64 1, .int .i64 0, .int .i64 0, .int .i64 0, .int .i64 0, .int .i64 0, .slice none 0 0]) (by simp [results, Try.results110, go_sem, lR, cR0, cR1, cR2, cR3, cR4, cR5, cR6]) rfl ⟨?_, .inr ⟨hb.out, rfl⟩⟩
      repeat (first | (with_reducible refine Below.setCell ?_ (by (try simp); (try omega)) _) | (with_reducible refine Below.alloc ?_ (by (try simp); (try omega)) _) | (with_reducible refine Below.drew ?_))
      exact HB1.out
end Go.Proofs.Ytlelgfkebcnepaa

namespace Go.Proofs.Ytlelgfkebcnepaa
open Go.RowKit Go.Shelf
set_option linter.unusedVariables false
attribute [local go_sem] Oper.semAt_some

theorem walk_any (h ac bu : Int) (a : Option Addr) (n c : Nat) (w : World) : Calls Try.prog 60 #[.agg #[.int .i64 h, .slice a n c, .int .i64 ac, .int .i64 bu]] w (fun e w' => e = .returned (.func (.func 109) #[] #[.pointer (some ⟨w.heap.size, 0, none⟩)]) ∧ w' = w.alloc (.cells #[.int .i64 h, .slice a n c, .int .i64 ac, .int .i64 bu] 26)) := by
  go_enter Try.func60, Try.ntmps60
  go_wp2
  go_ret
  exact ⟨rfl, rfl⟩

theorem first_at (b off n c A e : Nat) (f : Nat → Int) (w : World) (hs : Src w (some ⟨b, off, none⟩) n f) (hA : A < e) (he : e ≤ n) (hn : n ≤ 1048576) (hnc : n ≤ c) (hcm : c ≤ maxLen) :
    Calls Try.prog 110 #[.slice (some ⟨b, off + A, none⟩) (e - A) (c - A)] w (fun en w' => Below w.heap.size w w' ∧ ((Good f e A ∧ ∃ ta tc, en = .returned (.agg #[.int .i64 0, .int .i64 0, .int .i64 (f A / 2 % 16), .int .i64 (f A / 32 % 4096), .int .i64 (f A / 131072), .int .i64 (f (A + 1)), .slice ta (szOf f A) tc]) ∧ Own w' w.heap.size ta (szOf f A) (fun k => f (A + 2 + k))) ∨ (¬ Good f e A ∧ en = .returned (.agg #[.int .i64 1, .int .i64 0, .int .i64 0, .int .i64 0, .int .i64 0, .int .i64 0, .slice none 0 0])))) := by
  have hs' : Src w (some ⟨b, off + A, none⟩) (e - A) (fun k => f (A + k)) := hs.elim (fun h => .inl (by omega)) (fun ⟨b', o', h1, h3, h4⟩ => .inr ⟨b', o' + A, by cases h1; rfl, h3, fun i hi => by rw [show o' + A + i = o' + (A + i) by omega]; exact h4 (A + i) (by omega)⟩)
  have hgood : Good (fun k => f (A + k)) (e - A) 0 ↔ Good f e A := by
    constructor
    · rintro ⟨h1, h2, h3⟩; exact ⟨by omega, h2, by have h3' : 0 + 2 + szOf f A ≤ e - A := h3; omega⟩
    · rintro ⟨h1, h2, h3⟩; exact ⟨by omega, h2, by show 0 + 2 + szOf f A ≤ e - A; omega⟩
  refine (implFirst_any b (off + A) (e - A) (c - A) (fun k => f (A + k)) w hs' (by omega) (by omega) (by omega)).mono ?_
  rintro en w' ⟨hb, hc⟩
  refine ⟨hb, ?_⟩
  rcases hc with ⟨h1, ta, tc, h2, h3⟩ | ⟨h1, h2⟩
  · exact .inl ⟨hgood.1 h1, ta, tc, h2, h3.congr fun i _ => by show f (A + (2 + i)) = f (A + 2 + i); rw [Nat.add_assoc]⟩
  · exact .inr ⟨fun h => h1 (hgood.2 h), h2⟩

/-- What has come, and what is told of it. -/
def Match (f : Nat → Int) (M : List GM) (L : List Ob) : Prop := M.length = L.length ∧ ∀ (i : Nat) (t : GM) (y : Ob), M[i]? = some t → L[i]? = some y → GSame t (obG f y)

theorem match_snoc {f : Nat → Int} {M : List GM} {L : List Ob} {t : GM} {y : Ob} (h : Match f M L) (ht : GSame t (obG f y)) : Match f (M ++ [t]) (L ++ [y]) := by
  refine ⟨by simp [h.1], fun i u v hu hv => ?_⟩
  rcases Nat.lt_or_ge i M.length with hi | hi
  · rw [List.getElem?_append_left hi] at hu
    rw [List.getElem?_append_left (by rw [← h.1]; exact hi)] at hv
    exact h.2 i u v hu hv
  · rw [List.getElem?_append_right hi] at hu
    rw [List.getElem?_append_right (by rw [← h.1]; exact hi), ← h.1] at hv
    rcases Nat.eq_zero_or_pos (i - M.length) with h0 | h0
    · rw [h0] at hu hv
      simp only [List.getElem?_cons_zero, Option.some.injEq] at hu hv
      subst hu; subst hv; exact ht
    · rw [List.getElem?_eq_none (by simp; omega)] at hu
      cases hu

/-- What a round keeps. -/
def Kept (n0 A1 : Nat) (W0 W1 W' : World) : Prop := Below n0 W1 W' ∧ W'.heap[A1]? = W1.heap[A1]? ∧ ∀ b, W0.heap.size ≤ b → b < W1.heap.size → W'.heap[b]? = W1.heap[b]?

theorem blk_block {w w' : World} {b : Nat} {cs : List Value} (h : Blk w b cs) (e : w'.heap[b]? = w.heap[b]?) : Blk w' b cs := by
  refine ⟨?_, fun i u hu => ?_⟩
  · have h1 : w.heap[b]? = some (w.heap[b]'h.1) := Array.getElem?_eq_getElem h.1
    rw [h1] at e
    exact (Array.getElem?_eq_some_iff.1 e).1
  · obtain ⟨h1, h2⟩ := h.2 i u hu
    exact ⟨(World.cell?_of_block (w := w) (a := ⟨b, i, none⟩) e).trans h1, (World.frozen?_of_block (w := w) (a := ⟨b, i, none⟩) e).trans h2⟩

set_option maxRecDepth 100000 in
set_option maxHeartbeats 1600000 in
theorem iter_in (m l A1 : Nat) (h ac : Int) (ab ao n c P U : Nat) (f : Nat → Int) (w W : World) (J : List GM → World → Prop) (Jx : World → Prop)
    (hJ : ∀ pre V V', J pre V → Below V.heap.size V V' → J pre V')
    (hgo : ∀ pre (t : GM) V0 V1, J pre V0 → pre.length < 400 → Below V0.heap.size V0 V1 → Own V1 V0.heap.size t.a t.n t.f → YieldAt Fence.wide (m - 1) Try.prog l #[.agg #[.int .i64 0, .int .i64 t.at_, .int .i64 t.s, .int .i64 t.m, .int .i64 t.o, .int .i64 t.h, .slice t.a t.n t.c]] V1 fun e V' => e = .returned (.bool true) ∧ J (pre ++ [t]) V' ∧ Kept w.heap.size A1 V0 V1 V')
    (hno : ∀ pre V0 V1, J pre V0 → Below V0.heap.size V0 V1 → YieldAt Fence.wide (m - 1) Try.prog l #[.agg #[.int .i64 1, .int .i64 0, .int .i64 0, .int .i64 0, .int .i64 0, .int .i64 0, .slice none 0 0]] V1 fun e V' => e = .returned (.bool false) ∧ Jx V')
    (hs : Src w (some ⟨ab, ao, none⟩) n f) (hW : Below w.heap.size w W) (hA : Blk W A1 [.int .i64 h, .slice (some ⟨ab, ao, none⟩) n c, .int .i64 ac, .int .i64 (U : Int)])
    (h1 : 8 ≤ h) (h2 : h ≤ 200) (h3 : 0 ≤ ac) (h4 : ac ≤ 1) (hP : baseI ac h = (P : Int)) (hn : (n : Int) = 2 * h) (hPU : P + U ≤ n) (hnc : n ≤ c) (hcm : c ≤ maxLen) (h0 : J [] W) :
    CallsIn Fence.wide m Try.prog 109 #[.func (.yield l) #[] #[], .pointer (some ⟨A1, 0, none⟩)] W fun e V' => (∃ v, e = .returned v) ∧
      ((∃ L xs, parse f (P + U) P = some L ∧ Match f xs L ∧ J xs V') ∨ (parse f (P + U) P = none ∧ Jx V')) := by
  have HS := Lib.hid hs; have HW := Lib.hid hW; have HA := Lib.hid hA; have HJ := Lib.hid hJ; have HGO := Lib.hid hgo; have HNO := Lib.hid hno; have H0 := Lib.hid h0; have HP := Lib.hid hP; have HCM := Lib.hid hcm
  obtain ⟨E, hE⟩ : ∃ E : Nat, P + U = E := ⟨_, rfl⟩
  rw [hE] at hPU ⊢
  have HE := Lib.hid hE
  have HEI : Hid ((P : Int) + (U : Int) = (E : Int)) := Lib.hid (by omega)
  have hPE : P ≤ E := by omega
  have hn4 : n ≤ 400 := by omega
  have hUb : (U : Int) ≤ 400 := by omega
  have hPb : (P : Int) ≤ 400 := by omega
  clear hs hW hA hJ hgo hno h0 hP hE hcm hn
  have cA := HA.out
  have lA := HA.out.1; have cA0 := HA.out.at 0 rfl; have fA0 := HA.out.free 0 rfl; have cA1 := HA.out.at 1 rfl; have fA1 := HA.out.free 1 rfl; have cA2 := HA.out.at 2 rfl; have fA2 := HA.out.free 2 rfl; have cA3 := HA.out.at 3 rfl; have fA3 := HA.out.free 3 rfl
  clear cA
  refine callsIn_of_wp Try.func109 rfl trivial ?_ rfl
  simp only [Try.ntmps109, List.size_toArray, List.length_cons, List.length_nil, Nat.reduceAdd, Nat.reduceSub, Array.replicate_succ, Array.replicate_zero, List.push_toArray, List.append_toArray, List.nil_append, List.cons_append]
  gi_wp2_with fail
  refine ⟨trivial, fun hx => (by simp [Fence.wide] at hx), (callsIn_wide.2 (baseOf_any h ac (U : Int) (some ⟨ab, ao, none⟩) n c _ h1 h2 h3 h4)).mono ?_⟩
  rintro e w1 ⟨rfl, hb⟩
  rw [HP.out]
  have HA1 := Lib.hid (HA.out.below hb); have HW1 := Lib.hid (HW.out.trans (hb.mono HW.out.size)); have H1 := Lib.hid (HJ.out _ _ _ H0.out hb)
  clear hb h1 h2 h3 h4 HA HW H0
  clear lA cA0 fA0 cA1 fA1 cA2 fA2 cA3 fA3
  have lA := HA1.out.1; have cA0 := HA1.out.at 0 rfl; have fA0 := HA1.out.free 0 rfl; have cA1 := HA1.out.at 1 rfl; have fA1 := HA1.out.free 1 rfl; have cA2 := HA1.out.at 2 rfl; have fA2 := HA1.out.free 2 rfl; have cA3 := HA1.out.at 3 rfl; have fA3 := HA1.out.free 3 rfl
  gi_wp2
  clear lA cA0 fA0 cA1 fA1 cA2 fA2 cA3 fA3
  rw [HEI.out]
  gi_loopw [3] (fun p wr => ∃ (pre : List GM) (L : List Ob) (A : Nat), p = .int .i64 (A : Int) ∧ P ≤ A ∧ A ≤ E ∧ 2 * pre.length ≤ A ∧ Hid (parse f E P = (parse f E A).map (L ++ ·)) ∧ Hid (Match f pre L) ∧ Hid (J pre wr) ∧ Hid (Blk wr A1 [.int .i64 h, .slice (some ⟨ab, ao, none⟩) n c, .int .i64 ac, .int .i64 (U : Int)]) ∧ Hid (Below w.heap.size w wr)) (fun p _ => E - (intOf p).toNat)
  case atStart => exact ⟨[], [], P, rfl, Nat.le_refl _, hPE, Nat.zero_le _, Lib.hid (by cases parse f E P <;> rfl), Lib.hid ⟨rfl, fun i t y ht => by cases ht⟩, H1, HA1, HW1⟩
  clear H1 HA1 HW1
  case round =>
    obtain ⟨pre, L, A, rfl, hPA, hAE, hlen, HPR, HMT, HJr, HAr, HWr⟩ := hrel
    have hA0 : (0 : Int) ≤ (A : Int) := by omega
    by_cases hlt : A < E
    · have hlt' : (A : Int) < (E : Int) := by omega
      have hle' : (A : Int) ≤ (E : Int) := by omega
      have hEc : (E : Int) ≤ (c : Int) := by omega
      have hcA : ¬ c = A := by omega
      have lA := HAr.out.1; have cA0 := HAr.out.at 0 rfl; have fA0 := HAr.out.free 0 rfl; have cA1 := HAr.out.at 1 rfl; have fA1 := HAr.out.free 1 rfl; have cA2 := HAr.out.at 2 rfl; have fA2 := HAr.out.free 2 rfl; have cA3 := HAr.out.at 3 rfl; have fA3 := HAr.out.free 3 rfl
      gi_wp2_with fail
      clear lA cA0 fA0 cA1 fA1 cA2 fA2 cA3 fA3
      refine ⟨trivial, fun hx => (by simp [Fence.wide] at hx), (callsIn_wide.2 (first_at ab ao n c A E f _ (HS.out.below HWr.out) hlt hPU (by omega) hnc HCM.out)).mono ?_⟩
      rintro en w2 ⟨hb, hc⟩
      have HBW := Lib.hid hb
      have HA2 := Lib.hid (HAr.out.below hb)
      have zr := hb.size
      clear hb hlt' hle' hEc hcA
      rcases hc with ⟨hgd, ta, tc, rfl, ho⟩ | ⟨hbd, rfl⟩
      · have HGD := Lib.hid hgd
        have HO := Lib.hid ho
        have hsz := good_size hgd
        have hsE : A + 2 + szOf f A ≤ E := hgd.2.2
        clear hgd ho
        have X0 := Lib.hid (Blk.new_at (w := w2) (cs := #[.int .i64 0, .int .i64 0, .int .i64 (f A / 2 % 16), .int .i64 (f A / 32 % 4096), .int .i64 (f A / 131072), .int .i64 (f (A + 1)), .slice ta (szOf f A) tc]) (t := 44) w2.heap.size rfl)
        have X1 : Hid (Blk (w2.alloc (.cells #[.int .i64 0, .int .i64 (A : Int), .int .i64 (f A / 2 % 16), .int .i64 (f A / 32 % 4096), .int .i64 (f A / 131072), .int .i64 (f (A + 1)), .slice ta (szOf f A) tc] 44)) w2.heap.size [.int .i64 0, .int .i64 (A : Int), .int .i64 (f A / 2 % 16), .int .i64 (f A / 32 % 4096), .int .i64 (f A / 131072), .int .i64 (f (A + 1)), .slice ta (szOf f A) tc]) := Lib.hid (Blk.new_at (w := w2) (cs := #[.int .i64 0, .int .i64 (A : Int), .int .i64 (f A / 2 % 16), .int .i64 (f A / 32 % 4096), .int .i64 (f A / 131072), .int .i64 (f (A + 1)), .slice ta (szOf f A) tc]) (t := 44) w2.heap.size rfl)
        have hz1 : (w2.alloc (.cells #[.int .i64 0, .int .i64 (A : Int), .int .i64 (f A / 2 % 16), .int .i64 (f A / 32 % 4096), .int .i64 (f A / 131072), .int .i64 (f (A + 1)), .slice ta (szOf f A) tc] 44)).heap.size = w2.heap.size + 1 := by simp
        have HZ1 := Lib.hid hz1
        clear hz1
        have HB2 : Hid (Below w2.heap.size w2 (w2.alloc (.cells #[.int .i64 0, .int .i64 (A : Int), .int .i64 (f A / 2 % 16), .int .i64 (f A / 32 % 4096), .int .i64 (f A / 131072), .int .i64 (f (A + 1)), .slice ta (szOf f A) tc] 44))) := Lib.hid ((Below.refl _ w2).alloc (Nat.le_refl _) _)
        have HA3 := Lib.hid (HA2.out.below HB2.out)
        have HBr : Hid (Below wr.heap.size wr (w2.alloc (.cells #[.int .i64 0, .int .i64 (A : Int), .int .i64 (f A / 2 % 16), .int .i64 (f A / 32 % 4096), .int .i64 (f A / 131072), .int .i64 (f (A + 1)), .slice ta (szOf f A) tc] 44))) := Lib.hid (HBW.out.trans (HB2.out.mono zr))
        obtain ⟨fn, tmps, assign, body, hy, hR⟩ := HGO.out pre ⟨(A : Int), f A / 2 % 16, f A / 32 % 4096, f A / 131072, f (A + 1), ta, szOf f A, tc, fun k => f (A + 2 + k)⟩ wr _ HJr.out (by omega) HBr.out (HO.out.below HB2.out)
        dsimp only at hy
        have lX := X0.out.1; have cX0 := X0.out.at 0 rfl; have fX0 := X0.out.free 0 rfl; have cX1 := X0.out.at 1 rfl; have fX1 := X0.out.free 1 rfl; have cX2 := X0.out.at 2 rfl; have fX2 := X0.out.free 2 rfl; have cX3 := X0.out.at 3 rfl; have fX3 := X0.out.free 3 rfl; have cX4 := X0.out.at 4 rfl; have fX4 := X0.out.free 4 rfl; have cX5 := X0.out.at 5 rfl; have fX5 := X0.out.free 5 rfl; have cX6 := X0.out.at 6 rfl; have fX6 := X0.out.free 6 rfl
        have lY := X1.out.1; have cY0 := X1.out.at 0 rfl; have fY0 := X1.out.free 0 rfl; have cY1 := X1.out.at 1 rfl; have fY1 := X1.out.free 1 rfl; have cY2 := X1.out.at 2 rfl; have fY2 := X1.out.free 2 rfl; have cY3 := X1.out.at 3 rfl; have fY3 := X1.out.free 3 rfl; have cY4 := X1.out.at 4 rfl; have fY4 := X1.out.free 4 rfl; have cY5 := X1.out.at 5 rfl; have fY5 := X1.out.free 5 rfl; have cY6 := X1.out.at 6 rfl; have fY6 := X1.out.free 6 rfl
        gi_wp2
        clear lX cX0 fX0 cX1 fX1 cX2 fX2 cX3 fX3 cX4 fX4 cX5 fX5 cX6 fX6
        clear lY cY0 fY0 cY1 fY1 cY2 fY2 cY3 fY3 cY4 fY4 cY5 fY5 cY6 fY6
        refine ⟨fun hx => (by simp [Fence.wide] at hx), hR.mono ?_⟩
        rintro e W3 ⟨rfl, hJ3, hk3⟩
        have X3 := Lib.hid (blk_block X1.out (hk3.2.2 w2.heap.size zr (by rw [HZ1.out]; omega)))
        have A3 := Lib.hid (blk_block HA3.out hk3.2.1)
        have W3B := Lib.hid (((HWr.out.trans (HBr.out.mono HWr.out.size))).trans hk3.1)
        have J3 := Lib.hid hJ3
        clear hy hR hJ3 hk3
        have lX := X3.out.1; have cX2 := X3.out.at 2 rfl
        have HPS := Lib.hid (parse_step HPR.out hlt HGD.out)
        have HM3 : Hid (Match f (pre ++ [⟨(A : Int), f A / 2 % 16, f A / 32 % 4096, f A / 131072, f (A + 1), ta, szOf f A, tc, fun k => f (A + 2 + k)⟩]) (L ++ [objAt f A])) := Lib.hid (match_snoc HMT.out ⟨rfl, rfl, rfl, rfl, rfl, rfl, fun _ _ => rfl⟩)
        obtain ⟨sz0, sz1, sz2⟩ := hsz
        have HSZ := Lib.hid sz2
        have hAb : (A : Int) ≤ 400 := by omega
        gi_wp2
        go_roundw
        case rel => exact ⟨_, _, A + 2 + szOf f A, by have := HSZ.out; go_num, by omega, hsE, by simp; omega, HPS, HM3, J3, A3, W3B⟩
        case measure => have := HSZ.out; simp [intOf]; omega
      · have HBD := Lib.hid hbd
        clear hbd
        have X0 := Lib.hid (Blk.new_at (w := w2) (cs := #[.int .i64 1, .int .i64 0, .int .i64 0, .int .i64 0, .int .i64 0, .int .i64 0, .slice none 0 0]) (t := 44) w2.heap.size rfl)
        have HBr : Hid (Below wr.heap.size wr (w2.alloc (.cells #[.int .i64 1, .int .i64 0, .int .i64 0, .int .i64 0, .int .i64 0, .int .i64 0, .slice none 0 0] 44))) := Lib.hid (HBW.out.alloc zr _)
        obtain ⟨fn, tmps, assign, body, hy, hR⟩ := HNO.out pre wr _ HJr.out HBr.out
        have lX := X0.out.1; have cX0 := X0.out.at 0 rfl; have fX0 := X0.out.free 0 rfl; have cX1 := X0.out.at 1 rfl; have fX1 := X0.out.free 1 rfl; have cX2 := X0.out.at 2 rfl; have fX2 := X0.out.free 2 rfl; have cX3 := X0.out.at 3 rfl; have fX3 := X0.out.free 3 rfl; have cX4 := X0.out.at 4 rfl; have fX4 := X0.out.free 4 rfl; have cX5 := X0.out.at 5 rfl; have fX5 := X0.out.free 5 rfl; have cX6 := X0.out.at 6 rfl; have fX6 := X0.out.free 6 rfl
        gi_wp2
        clear lX cX0 fX0 cX1 fX1 cX2 fX2 cX3 fX3 cX4 fX4 cX5 fX5 cX6 fX6
        refine ⟨fun hx => (by simp [Fence.wide] at hx), hR.mono ?_⟩
        rintro e W3 ⟨rfl, hJ3⟩
        have HN : Hid (parse f E P = none) := Lib.hid (by rw [HPR.out, parse_bad hlt HBD.out]; rfl)
        gi_wp2
        refine bodyPost_ret (results_none rfl _ _ _) rfl ?_
        exact ⟨⟨_, rfl⟩, .inr ⟨HN.out, hJ3⟩⟩
    · have hlt' : ¬ (A : Int) < (E : Int) := by omega
      have HN : Hid (parse f E P = some L) := Lib.hid (by rw [HPR.out, parse_stop hlt]; simp)
      gi_wp2
      go_end0
      exact ⟨⟨_, rfl⟩, .inl ⟨L, HN.out, pre, HMT.out, HJr.out⟩⟩
end Go.Proofs.Ytlelgfkebcnepaa

namespace Go.Proofs.Ytlelgfkebcnepaa
open Go.RowKit
set_option linter.unusedVariables false

def gcells (t : GM) : List Value := [.int .i64 t.at_, .int .i64 t.s, .int .i64 t.m, .int .i64 t.o, .int .i64 t.h, .slice t.a t.n t.c]

def rowG (M : List GM) : List Value := M.flatMap gcells

theorem rowG_snoc (M : List GM) (t : GM) : rowG (M ++ [t]) = rowG M ++ gcells t := by simp [rowG]

theorem rowG_get : ∀ (M : List GM) (i : Nat) (t : GM), M[i]? = some t → ∀ j, j < 6 → (rowG M)[i * 6 + j]? = (gcells t)[j]?
  | [], i, t, h, j, hj => by simp at h
  | u :: M, 0, t, h, j, hj => by
    simp only [List.getElem?_cons_zero, Option.some.injEq] at h
    subst h
    simp only [rowG, List.flatMap_cons, Nat.zero_mul, Nat.zero_add]
    rw [List.getElem?_append_left (by simp [gcells]; omega)]
  | u :: M, i + 1, t, h, j, hj => by
    have ih := rowG_get M i t (by simpa using h) j hj
    simp only [rowG, List.flatMap_cons] at ih ⊢
    rw [List.getElem?_append_right (by simp [gcells]; omega)]
    have e : (i + 1) * 6 + j - (gcells u).length = i * 6 + j := by simp [gcells]; omega
    rw [e]; exact ih

/-- Each object's fields are numbers of their own, later ones in later blocks. -/
def FldG (w : World) (lo : Nat) (v : Value) (M : List GM) : Prop :=
  (∀ t ∈ M, t.n = 0 ∨ (lo ≤ t.g ∧ t.g < w.heap.size ∧ some t.g ≠ v.ownBlock ∧ ∃ q, t.a = some ⟨t.g, q, none⟩ ∧ ∀ k, k < t.n → w.cell? ⟨t.g, q + k, none⟩ = some (.int .i64 (t.f k)) ∧ w.frozen? ⟨t.g, q + k, none⟩ = false)) ∧ M.Pairwise (fun t u => t.n = 0 ∨ u.n = 0 ∨ t.g < u.g)

theorem FldG.block {w w' : World} {lo : Nat} {v : Value} {M : List GM} (h : FldG w lo v M) (hz : w.heap.size ≤ w'.heap.size) (hb : ∀ b, lo ≤ b → b < w.heap.size → some b ≠ v.ownBlock → w'.heap[b]? = w.heap[b]?) : FldG w' lo v M :=
  ⟨fun t ht => by
    rcases h.1 t ht with h0 | ⟨h1, h2, h3, q, h4, h5⟩
    · exact .inl h0
    · have e := hb t.g h1 h2 h3
      exact .inr ⟨h1, Nat.lt_of_lt_of_le h2 hz, h3, q, h4, fun k hk => ⟨(World.cell?_of_block (w := w) (a := ⟨t.g, q + k, none⟩) e).trans (h5 k hk).1, (World.frozen?_of_block (w := w) (a := ⟨t.g, q + k, none⟩) e).trans (h5 k hk).2⟩⟩, h.2⟩

theorem FldG.below {w w' : World} {lo : Nat} {v : Value} {M : List GM} (h : FldG w lo v M) (hb : Below w.heap.size w w') : FldG w' lo v M := h.block hb.size fun b _ h2 _ => hb.block b h2

theorem FldG.snoc {w0 w1 w2 : World} {lo : Nat} {v v' : Value} {M : List GM} (t : GM) (h : FldG w0 lo v M) (hz : w0.heap.size ≤ w1.heap.size) (h01 : ∀ (b : Nat) (o : Obj), w0.heap[b]? = some o → o.isCells = true → w1.heap[b]? = some o) (hg : w1.grownBy w2 v.ownBlock)
    (hat : v'.ownBlock = v.ownBlock ∨ v'.ownBlock = some w1.heap.size) (hlo : lo ≤ w0.heap.size) (hv : ∀ k, v.ownBlock = some k → k < w0.heap.size) (ho : Own w1 w0.heap.size t.a t.n t.f) : FldG w2 lo v' (M ++ [t]) := by
  refine ⟨fun u hu => ?_, ?_⟩
  · rcases List.mem_append.mp hu with hu | hu
    · rcases Nat.eq_zero_or_pos u.n with hp | hp
      · exact .inl hp
      rcases h.1 u hu with h0 | ⟨h1, h2, h3, q, h4, h5⟩
      · exact .inl h0
      · obtain ⟨ob, hob, hcb⟩ := cells_of_cell (h5 0 hp).1
        have e := (hg.block u.g (Nat.lt_of_lt_of_le h2 hz) h3).trans ((h01 u.g ob hob hcb).trans hob.symm)
        refine .inr ⟨h1, Nat.lt_of_lt_of_le (Nat.lt_of_lt_of_le h2 hz) hg.size, ?_, q, h4, fun k hk => ⟨(World.cell?_of_block (w := w0) (a := ⟨u.g, q + k, none⟩) e).trans (h5 k hk).1, (World.frozen?_of_block (w := w0) (a := ⟨u.g, q + k, none⟩) e).trans (h5 k hk).2⟩⟩
        rcases hat with hat | hat
        · rw [hat]; exact h3
        · rw [hat]; intro he; simp only [Option.some.injEq] at he; omega
    · simp only [List.mem_singleton] at hu
      subst hu
      rcases ho with h0 | ⟨b, off, he, h1, h2, h3⟩
      · exact .inl h0
      · have hgb : u.g = b := by simp [GM.g, he]
        have hne : some b ≠ v.ownBlock := fun hx => by have := hv b hx.symm; omega
        have e := hg.block b h2 hne
        refine .inr ⟨by omega, by rw [hgb]; exact Nat.lt_of_lt_of_le h2 hg.size, ?_, off, by rw [hgb]; exact he, fun k hk => ?_⟩
        · rw [hgb]
          rcases hat with hat | hat
          · rw [hat]; exact hne
          · rw [hat]; intro hx; simp only [Option.some.injEq] at hx; omega
        · rw [hgb]
          exact ⟨(World.cell?_of_block (w := w1) (a := ⟨b, off + k, none⟩) e).trans (h3 k hk).1, (World.frozen?_of_block (w := w1) (a := ⟨b, off + k, none⟩) e).trans (h3 k hk).2⟩
  · rw [List.pairwise_append]
    refine ⟨h.2, by simp, fun u hu x hx => ?_⟩
    simp only [List.mem_singleton] at hx
    subst hx
    rcases h.1 u hu with h0 | ⟨_, h2, _⟩
    · exact .inl h0
    · rcases ho with h0 | ⟨b, off, he, h1, _⟩
      · exact .inr (.inl h0)
      · have hgb : x.g = b := by simp [GM.g, he]
        exact .inr (.inr (by omega))

def gT (M : List GM) (i : Nat) : GM := M[i]?.getD gzero

theorem gT_at {M : List GM} {i : Nat} {t : GM} (h : M[i]? = some t) : gT M i = t := by simp [gT, h]

theorem rowG_GVO {w : World} {base lo : Nat} {v : Value} {M : List GM} (h : w.ownsRow base 42 6 v M.length (rowG M)) (hf : FldG w lo v M) (hl : lo ≤ base) : ∃ a c, v = .slice a M.length c ∧ GVO w lo w.heap.size a M.length (gT M) := by
  rcases Nat.eq_zero_or_pos M.length with h0 | hp
  · rcases h.2 with ⟨h1, h2⟩ | ⟨g, cap, cur, h1, _⟩
    · exact ⟨none, 0, by rw [h1, h2], .inl h0⟩
    · exact ⟨_, cap, h1, .inl h0⟩
  · obtain ⟨gb, cap, rfl, hb, hlt⟩ := h.form hp
    refine ⟨_, cap, rfl, .inr ⟨gb, 0, rfl, ?_⟩⟩
    have hfr : ∀ k, k < M.length * 6 → w.frozen? ⟨gb, k, none⟩ = false := fun k hk => by
      have := h.frozenAt k
      simpa using this
    have hce : ∀ i t, M[i]? = some t → ∀ j u, (gcells t)[j]? = some u → w.cell? ⟨gb, i * 6 + j, none⟩ = some u := fun i t ht j u hu => by
      have hi : i < M.length := (List.getElem?_eq_some_iff.mp ht).1
      have hj : j < 6 := by
        have := (List.getElem?_eq_some_iff.mp hu).1
        simpa [gcells] using this
      have hc := h.cellAt (i * 6 + j) (by omega)
      rw [rowG_get M i t ht j hj, hu] at hc
      simpa using hc
    refine ⟨by omega, hlt, hlt, fun i hi => ?_, fun i hi => ?_, fun i hi => ?_, fun i hi => ?_, fun i j hi hj hij => ?_⟩
    · have ht := List.getElem?_eq_getElem hi
      rw [gT_at ht, Nat.zero_add]
      exact ⟨hce i _ ht 0 _ rfl, hce i _ ht 1 _ rfl, hce i _ ht 2 _ rfl, hce i _ ht 3 _ rfl, hce i _ ht 4 _ rfl, hce i _ ht 5 _ rfl⟩
    · rw [Nat.zero_add]
      exact ⟨hfr _ (by omega), hfr _ (by omega), hfr _ (by omega), hfr _ (by omega), hfr _ (by omega), hfr _ (by omega)⟩
    · have ht := List.getElem?_eq_getElem hi
      rw [gT_at ht]
      rcases hf.1 M[i] (List.getElem_mem hi) with h0 | ⟨h1, h2, _, q, h4, h5⟩
      · exact .inl h0
      · exact .inr ⟨_, q, h4, ⟨h1, h2⟩, h2, h5⟩
    · have ht := List.getElem?_eq_getElem hi
      rw [gT_at ht]
      rcases hf.1 M[i] (List.getElem_mem hi) with h0 | ⟨_, _, h3, _⟩
      · exact .inl h0
      · right
        intro he
        exact h3 (by rw [he]; rfl)
    · have hp := List.pairwise_iff_getElem.mp hf.2
      rw [gT_at (List.getElem?_eq_getElem hi), gT_at (List.getElem?_eq_getElem hj)]
      rcases Nat.lt_or_ge i j with hlt' | hge
      · rcases hp i j hi hj hlt' with h0 | h0 | h0
        · exact .inl h0
        · exact .inr (.inl h0)
        · exact .inr (.inr (by omega))
      · rcases hp j i hj hi (by omega) with h0 | h0 | h0
        · exact .inr (.inl h0)
        · exact .inl h0
        · exact .inr (.inr (by omega))

theorem match_same {f : Nat → Int} {M : List GM} {L : List Ob} (h : Match f M L) (i : Nat) (hi : i < L.length) : GSame (gT M i) (obT f L i) := by
  have h1 : i < M.length := by rw [h.1]; exact hi
  rw [gT_at (List.getElem?_eq_getElem h1)]
  have := h.2 i _ _ (List.getElem?_eq_getElem h1) (List.getElem?_eq_getElem hi)
  simpa [obT, List.getElem?_eq_getElem hi, xT] using this
end Go.Proofs.Ytlelgfkebcnepaa

namespace Go.Proofs.Ytlelgfkebcnepaa
open Go.RowKit Go.Shelf
set_option linter.unusedVariables false

/-- What lay below B, and what holds cells, is as it was. -/
structure Turn (B : Nat) (V V' : World) : Prop where
  os : V'.os = V.os
  tape : V'.tape = V.tape
  output : V'.output = V.output
  size : V.heap.size ≤ V'.heap.size
  same : ∀ (k : Nat) (o : Obj), V.heap[k]? = some o → (k < B ∨ o.isCells = true) → V'.heap[k]? = some o

theorem Turn.of_below {B : Nat} {V V' : World} (h : Below V.heap.size V V') : Turn B V V' :=
  ⟨h.os, h.tape, h.output, h.size, fun k o hk _ => (h.block k (Array.getElem?_eq_some_iff.1 hk).1).trans hk⟩

theorem Turn.trans {B : Nat} {V V' V'' : World} (h : Turn B V V') (h' : Turn B V' V'') : Turn B V V'' :=
  ⟨h'.os.trans h.os, h'.tape.trans h.tape, h'.output.trans h.output, Nat.le_trans h.size h'.size, fun k o hk hc => h'.same k o (h.same k o hk hc) hc⟩

theorem Turn.put {B : Nat} {V : World} {l : Nat} {o : Obj} (o' : Obj) (hl : B ≤ l) (h : V.heap[l]? = some o) (hc : o.isCells = false) : Turn B V (V.putObj l o') :=
  ⟨rfl, rfl, rfl, by simp, fun k x hk hx => by
    have hne : k ≠ l := fun e => by
      subst e
      rw [h] at hk
      cases hk
      rcases hx with hx | hx
      · omega
      · rw [hc] at hx; cases hx
    rw [World.putObj_heap_other hne]; exact hk⟩

theorem Turn.below {B n : Nat} {V V' : World} (h : Turn B V V') (hn : n ≤ B) (hz : n ≤ V.heap.size) : Below n V V' :=
  ⟨h.os, h.tape, h.output, h.size, fun k hk => by
    have hk' : V.heap[k]? = some (V.heap[k]'(by omega)) := Array.getElem?_eq_getElem (by omega)
    rw [hk']; exact h.same k _ hk' (.inl (by omega))⟩

theorem Turn.cell {B : Nat} {V V' : World} (h : Turn B V V') {p : Addr} {v : Value} (hc : V.cell? p = some v) : V'.cell? p = some v ∧ V'.frozen? p = V.frozen? p ∧ V'.heap[p.block]? = V.heap[p.block]? := by
  obtain ⟨o, ho, hcc⟩ := cells_of_cell hc
  have e : V'.heap[p.block]? = V.heap[p.block]? := (h.same _ o ho (.inr hcc)).trans ho.symm
  exact ⟨(World.cell?_of_block e).trans hc, World.frozen?_of_block e, e⟩

theorem Turn.blk {B : Nat} {V V' : World} (h : Turn B V V') {b : Nat} {cs : List Value} (hb : Blk V b cs) (hne : cs ≠ []) : Blk V' b cs := by
  cases cs with
  | nil => exact absurd rfl hne
  | cons u cs => exact blk_block hb (h.cell (hb.2 0 u rfl).1).2.2

theorem Turn.own {B : Nat} {V V' : World} (h : Turn B V V') {lo n : Nat} {a : Option Addr} {f : Nat → Int} (ho : Own V lo a n f) : Own V' lo a n f := by
  rcases ho with h0 | ⟨b, off, he, h1, h2, h3⟩
  · exact .inl h0
  · exact .inr ⟨b, off, he, h1, Nat.lt_of_lt_of_le h2 h.size, fun k hk => by
      obtain ⟨e1, e2, _⟩ := h.cell (h3 k hk).1
      exact ⟨e1, e2.trans (h3 k hk).2⟩⟩

theorem Turn.row {B : Nat} {V V' : World} (h : Turn B V V') {base e size n : Nat} {v : Value} {xs : List Value} (ho : V.ownsRow base e size v n xs) : V'.ownsRow base e size v n xs := by
  refine ⟨ho.1, ?_⟩
  rcases ho.2 with h0 | ⟨g, cap, cur, h1, h2, h3, h4⟩
  · exact .inl h0
  · exact .inr ⟨g, cap, cur, h1, h2, h.same g _ h3 (.inr rfl), h4⟩

theorem Turn.fld {B : Nat} {V V' : World} (h : Turn B V V') {lo : Nat} {v : Value} {M : List GM} (ho : FldG V lo v M) : FldG V' lo v M :=
  ⟨fun t ht => by
    rcases Nat.eq_zero_or_pos t.n with h0 | hp
    · exact .inl h0
    · rcases ho.1 t ht with h0 | ⟨h1, h2, h3, q, h4, h5⟩
      · exact .inl h0
      · exact .inr ⟨h1, Nat.lt_of_lt_of_le h2 h.size, h3, q, h4, fun k hk => by
          obtain ⟨e1, e2, _⟩ := h.cell (h5 k hk).1
          exact ⟨e1, e2.trans (h5 k hk).2⟩⟩, ho.2⟩

set_option maxHeartbeats 800000 in
/-- A loop over the iterator of objects: what each round owes, and what it is told. -/
theorem range_objs {n : Nat} {g : Operand} {p : Tmp} {assign body : Code} {Q : Exit → Act → World → Prop} {a : Act} {W0 : World} {gf : Nat} {lb : Array Value}
    (hg : a.eval g = .func (.func gf) #[] lb) (eg : ∀ args w, (callFunc gf args).run Try.prog w = .ok (.enter gf args) w)
    (S : List GM → Prop) (N : Prop) (I : List GM → World → Prop) (Ix : World → Prop) (n0 A1 : Nat) (hn0 : n0 ≤ W0.heap.size) (hA1 : A1 < W0.heap.size)
    (hI : ∀ s V V', I s V → Turn W0.heap.size V V' → I s V') (hIx : ∀ V V', Ix V → Turn W0.heap.size V V' → Ix V') (h0 : I [] W0)
    (hit : ∀ (l : Nat) (J : List GM → World → Prop) (Jx : World → Prop) (W1 : World), Below W0.heap.size W0 W1 → (∀ pre V V', J pre V → Below V.heap.size V V' → J pre V') →
      (∀ pre (t : GM) V0 V1, J pre V0 → pre.length < 400 → Below V0.heap.size V0 V1 → Own V1 V0.heap.size t.a t.n t.f → YieldAt Fence.wide (n - 1 - 1) Try.prog l #[.agg #[.int .i64 0, .int .i64 t.at_, .int .i64 t.s, .int .i64 t.m, .int .i64 t.o, .int .i64 t.h, .slice t.a t.n t.c]] V1 fun e V' => e = .returned (.bool true) ∧ J (pre ++ [t]) V' ∧ Kept n0 A1 V0 V1 V') →
      (∀ pre V0 V1, J pre V0 → Below V0.heap.size V0 V1 → YieldAt Fence.wide (n - 1 - 1) Try.prog l #[.agg #[.int .i64 1, .int .i64 0, .int .i64 0, .int .i64 0, .int .i64 0, .int .i64 0, .slice none 0 0]] V1 fun e V' => e = .returned (.bool false) ∧ Jx V') → J [] W1 →
      CallsIn Fence.wide (n - 1) Try.prog gf (#[.func (.yield l) #[] #[]] ++ lb) W1 fun e V' => (∃ v, e = .returned v) ∧ ((∃ xs, S xs ∧ J xs V') ∨ (N ∧ Jx V')))
    (a₁ : Value → Nat → Act)
    (hassign : ∀ (l : Nat) (c0 c1 c2 c3 c4 c5 : Int) (sa : Option Addr) (sn sc : Nat) (V1 : World) (K : Act → World → Prop), K (a₁ (.agg #[.int .i64 c0, .int .i64 c1, .int .i64 c2, .int .i64 c3, .int .i64 c4, .int .i64 c5, .slice sa sn sc]) V1.heap.size) (V1.alloc (.cells #[.int .i64 c0, .int .i64 c1, .int .i64 c2, .int .i64 c3, .int .i64 c4, .int .i64 c5, .slice sa sn sc] 44)) →
      assign.wpIn (Fence.wide.inRound l) (n - 1 - 1) Try.prog (Exit.then K (fun _ _ _ => False)) { tmps := a.tmps.setIfInBounds p (.agg #[.int .i64 c0, .int .i64 c1, .int .i64 c2, .int .i64 c3, .int .i64 c4, .int .i64 c5, .slice sa sn sc]), defers := [] } V1)
    (hgo : ∀ (l : Nat) (pre : List GM) (t : GM) (V0 V1 V2 : World), I pre V0 → pre.length < 400 → Turn W0.heap.size V0 V2 → V0.heap.size ≤ V1.heap.size → V2.heap.size = V1.heap.size + 1 → W0.heap.size ≤ V0.heap.size → Blk V2 V1.heap.size [.int .i64 0, .int .i64 t.at_, .int .i64 t.s, .int .i64 t.m, .int .i64 t.o, .int .i64 t.h, .slice t.a t.n t.c] → Own V2 V0.heap.size t.a t.n t.f →
      body.wpIn (Fence.wide.inRound l) (n - 1 - 1) Try.prog (fun ex _ V3 => ex = .normal ∧ KeepsOthers V2 V3 ∧ I (pre ++ [t]) V3 ∧ Kept n0 A1 V0 V2 V3) (a₁ (.agg #[.int .i64 0, .int .i64 t.at_, .int .i64 t.s, .int .i64 t.m, .int .i64 t.o, .int .i64 t.h, .slice t.a t.n t.c]) V1.heap.size) V2)
    (hno : ∀ (l : Nat) (pre : List GM) (V0 V1 V2 : World), I pre V0 → Turn W0.heap.size V0 V2 → V0.heap.size ≤ V1.heap.size → V2.heap.size = V1.heap.size + 1 → W0.heap.size ≤ V0.heap.size → Blk V2 V1.heap.size [.int .i64 1, .int .i64 0, .int .i64 0, .int .i64 0, .int .i64 0, .int .i64 0, .slice none 0 0] →
      body.wpIn (Fence.wide.inRound l) (n - 1 - 1) Try.prog (fun ex _ V3 => ex = .ret ∧ KeepsOthers V2 V3 ∧ Ix V3) (a₁ (.agg #[.int .i64 1, .int .i64 0, .int .i64 0, .int .i64 0, .int .i64 0, .int .i64 0, .slice none 0 0]) V1.heap.size) V2)
    (hdone : ∀ (D : Nat) (xs : List GM) (V : World), W0.heap.size ≤ D → S xs → I xs V → V.heap[D]? = some (.deferred (some [])) → Q .normal { a with defers := { target := .collected D, args := #[] } :: a.defers } V)
    (hstop : ∀ (D : Nat) (V : World), W0.heap.size ≤ D → N → Ix V → V.heap[D]? = some (.deferred (some [])) → Code.ret.wpIn Fence.wide n Try.prog Q { a with defers := { target := .collected D, args := #[] } :: a.defers } V) :
    (Code.rangeFunc g #[p] assign body).wpIn Fence.wide n Try.prog Q a W0 := by
  refine wpIn_rangeFunc ?_
  intro fn hfn
  obtain ⟨rec, hrec⟩ : ∃ rec : LoopState → Option Code → Loop, rec = fun st pe => { state := st, pending := pe, fn, tmps := a.tmps, params := #[p], assign, body, defers := W0.heap.size } := ⟨_, rfl⟩
  have hfold : ∀ v : Value, (#[p].zip #[v]).foldl (fun tmps (t, a) => tmps.setIfInBounds t a) a.tmps = a.tmps.setIfInBounds p v := fun v => by simp
  have hL1 : ((W0.alloc (.deferred (some []))).alloc (.loop (rec .ready none))).heap[W0.heap.size + 1]? = some (.loop (rec .ready none)) := by
    have := World.alloc_heap_new (W0.alloc (.deferred (some []))) (.loop (rec .ready none)); rwa [World.size_alloc] at this
  have hK1 : ((W0.alloc (.deferred (some []))).alloc (.loop (rec .ready none))).heap[W0.heap.size]? = some (.deferred (some [])) := (Below.heap_alloc _ _ _ (by simp)).trans (World.alloc_heap_new W0 _)
  have hB1 : Below W0.heap.size W0 ((W0.alloc (.deferred (some []))).alloc (.loop (rec .ready none))) := ((Below.refl _ W0).alloc (Nat.le_refl _) _).alloc (by simp) _
  refine ⟨W0.heap.size + 1, [{ target := .collected W0.heap.size, args := #[] }], (W0.alloc (.deferred (some []))).alloc (.loop (rec .ready none)), { target := .fn (.func gf) lb, args := #[.func (.yield (W0.heap.size + 1)) #[] #[]] }, (W0.alloc (.deferred (some []))).alloc (.loop (rec .ready none)), gf,
    #[.func (.yield (W0.heap.size + 1)) #[] #[]] ++ lb, (W0.alloc (.deferred (some []))).alloc (.loop (rec .ready none)), ?_, ?_, ?_, ?_, fun hx => (by simp [Fence.wide] at hx), ?_⟩
  · rw [hrec]; exact run_enterLoop_outer _ _ _ _ _
  · simp only [resolve, hg]
    simp [go_sem]
  · intro f' _; trivial
  · simp [invoke, go_sem, eg]
  refine (hit (W0.heap.size + 1)
    (fun pre V => I pre V ∧ V.heap[W0.heap.size + 1]? = some (.loop (rec .ready none)) ∧ V.heap[W0.heap.size]? = some (.deferred (some [])))
    (fun V => Ix V ∧ V.heap[W0.heap.size + 1]? = some (.loop (rec .done (some .ret))) ∧ V.heap[W0.heap.size]? = some (.deferred (some [])))
    _ hB1 (fun pre V V' hs hb => ⟨hI _ _ _ hs.1 (Turn.of_below hb), (hb.block _ (Array.getElem?_eq_some_iff.1 hs.2.1).1).trans hs.2.1, (hb.block _ (Array.getElem?_eq_some_iff.1 hs.2.2).1).trans hs.2.2⟩) ?_ ?_ ⟨hI _ _ _ h0 (Turn.of_below hB1), hL1, hK1⟩).mono ?_
  · rintro pre t V0 V1 ⟨hi, hl, hk⟩ hlen hb ho
    have hls := (Array.getElem?_eq_some_iff.1 hl).1
    have hz := hb.size
    have hz0 : W0.heap.size ≤ V0.heap.size := by omega
    have hl1 : V1.heap[W0.heap.size + 1]? = some (.loop (rec .ready none)) := (hb.block _ hls).trans hl
    have hk1 : V1.heap[W0.heap.size]? = some (.deferred (some [])) := (hb.block _ (by omega)).trans hk
    have hy := run_yield (P := Try.prog) (args := #[.agg #[.int .i64 0, .int .i64 t.at_, .int .i64 t.s, .int .i64 t.m, .int .i64 t.o, .int .i64 t.h, .slice t.a t.n t.c]]) hl1 (by rw [hrec]; rfl)
    rw [hrec] at hy
    refine ⟨fn, _, assign, body, hy, roundIn_of_wpIn hfn ?_⟩
    dsimp only
    rw [hfold]
    refine hassign (W0.heap.size + 1) 0 t.at_ t.s t.m t.o t.h t.a t.n t.c V1 _ ?_
    refine ⟨_, run_beginRound ((Below.heap_alloc _ _ _ (by omega)).trans hl1) (by rw [hrec]), ?_⟩
    have hla : (V1.alloc (.cells #[.int .i64 0, .int .i64 t.at_, .int .i64 t.s, .int .i64 t.m, .int .i64 t.o, .int .i64 t.h, .slice t.a t.n t.c] 44)).heap[W0.heap.size + 1]? = some (.loop (rec .ready none)) := (Below.heap_alloc _ _ _ (by omega)).trans hl1
    have hka : (V1.alloc (.cells #[.int .i64 0, .int .i64 t.at_, .int .i64 t.s, .int .i64 t.m, .int .i64 t.o, .int .i64 t.h, .slice t.a t.n t.c] 44)).heap[W0.heap.size]? = some (.deferred (some [])) := (Below.heap_alloc _ _ _ (by omega)).trans hk1
    have hT1 : Turn W0.heap.size (V1.alloc (.cells #[.int .i64 0, .int .i64 t.at_, .int .i64 t.s, .int .i64 t.m, .int .i64 t.o, .int .i64 t.h, .slice t.a t.n t.c] 44)) ((V1.alloc (.cells #[.int .i64 0, .int .i64 t.at_, .int .i64 t.s, .int .i64 t.m, .int .i64 t.o, .int .i64 t.h, .slice t.a t.n t.c] 44)).putObj (W0.heap.size + 1) (.loop { rec .ready none with state := .busy })) := Turn.put _ (by omega) hla rfl
    have hT12 : Turn W0.heap.size V1 ((V1.alloc (.cells #[.int .i64 0, .int .i64 t.at_, .int .i64 t.s, .int .i64 t.m, .int .i64 t.o, .int .i64 t.h, .slice t.a t.n t.c] 44)).putObj (W0.heap.size + 1) (.loop { rec .ready none with state := .busy })) := (Turn.of_below ((Below.refl _ V1).alloc (Nat.le_refl _) _)).trans hT1
    have hT : Turn W0.heap.size V0 ((V1.alloc (.cells #[.int .i64 0, .int .i64 t.at_, .int .i64 t.s, .int .i64 t.m, .int .i64 t.o, .int .i64 t.h, .slice t.a t.n t.c] 44)).putObj (W0.heap.size + 1) (.loop { rec .ready none with state := .busy })) := (Turn.of_below hb).trans hT12
    have hz2 : ((V1.alloc (.cells #[.int .i64 0, .int .i64 t.at_, .int .i64 t.s, .int .i64 t.m, .int .i64 t.o, .int .i64 t.h, .slice t.a t.n t.c] 44)).putObj (W0.heap.size + 1) (.loop { rec .ready none with state := .busy })).heap.size = V1.heap.size + 1 := by simp
    have hB2 : Blk ((V1.alloc (.cells #[.int .i64 0, .int .i64 t.at_, .int .i64 t.s, .int .i64 t.m, .int .i64 t.o, .int .i64 t.h, .slice t.a t.n t.c] 44)).putObj (W0.heap.size + 1) (.loop { rec .ready none with state := .busy })) V1.heap.size [.int .i64 0, .int .i64 t.at_, .int .i64 t.s, .int .i64 t.m, .int .i64 t.o, .int .i64 t.h, .slice t.a t.n t.c] := hT1.blk (Blk.new_at (w := V1) (cs := #[.int .i64 0, .int .i64 t.at_, .int .i64 t.s, .int .i64 t.m, .int .i64 t.o, .int .i64 t.h, .slice t.a t.n t.c]) (t := 44) V1.heap.size rfl) (by simp)
    have hl2 : ((V1.alloc (.cells #[.int .i64 0, .int .i64 t.at_, .int .i64 t.s, .int .i64 t.m, .int .i64 t.o, .int .i64 t.h, .slice t.a t.n t.c] 44)).putObj (W0.heap.size + 1) (.loop { rec .ready none with state := .busy })).heap[W0.heap.size + 1]? = some (.loop { rec .ready none with state := .busy }) := World.putObj_heap_same (Array.getElem?_eq_some_iff.1 hla).1
    have hk2 : ((V1.alloc (.cells #[.int .i64 0, .int .i64 t.at_, .int .i64 t.s, .int .i64 t.m, .int .i64 t.o, .int .i64 t.h, .slice t.a t.n t.c] 44)).putObj (W0.heap.size + 1) (.loop { rec .ready none with state := .busy })).heap[W0.heap.size]? = some (.deferred (some [])) := (World.putObj_heap_other (by omega)).trans hka
    refine wpIn_mono (hgo (W0.heap.size + 1) pre t V0 V1 _ hi hlen hT hb.size hz2 hz0 hB2 (hT1.own (ho.alloc _))) ?_
    rintro ex a3 V3 ⟨rfl, hko, hi3, hkp⟩
    have hl3 := hko.same _ _ hl2 rfl
    have hk3 := hko.same _ _ hk2 rfl
    have hT3 : Turn W0.heap.size V3 (V3.putObj (W0.heap.size + 1) (.loop (rec .ready none))) := Turn.put _ (by omega) hl3 rfl
    have hl3' := (Array.getElem?_eq_some_iff.1 hl3).1
    have hend : (Instr.endRound (W0.heap.size + 1) none).run Try.prog V3 = .ok (.bool true) (V3.putObj (W0.heap.size + 1) (.loop (rec .ready none))) := by
      have := run_endRound (P := Try.prog) none hl3
      rw [hrec] at this ⊢; exact this
    refine ⟨_, _, hend, rfl, ⟨hI _ _ _ hi3 hT3, World.putObj_heap_same hl3', (World.putObj_heap_other (by omega)).trans hk3⟩, ?_, ?_, fun b hb0 hb1 => ?_⟩
    · exact (hT12.below hn0 (by omega)).trans (hkp.1.trans (hT3.below hn0 (by have := hko.size; have := hT12.size; omega)))
    · have e1 : V1.heap[A1]? = some (V1.heap[A1]'(by omega)) := Array.getElem?_eq_getElem (by omega)
      have e2 := hT12.same A1 _ e1 (.inl hA1)
      have e3 := hkp.2.1.trans e2
      rw [e1]; exact hT3.same A1 _ e3 (.inl hA1)
    · refine (World.putObj_heap_other (by omega)).trans ((hkp.2.2 b hb0 (by rw [hz2]; omega)).trans ((World.putObj_heap_other (by omega)).trans (Below.heap_alloc _ _ _ hb1)))
  · rintro pre V0 V1 ⟨hi, hl, hk⟩ hb
    have hls := (Array.getElem?_eq_some_iff.1 hl).1
    have hz := hb.size
    have hz0 : W0.heap.size ≤ V0.heap.size := by omega
    have hl1 : V1.heap[W0.heap.size + 1]? = some (.loop (rec .ready none)) := (hb.block _ hls).trans hl
    have hk1 : V1.heap[W0.heap.size]? = some (.deferred (some [])) := (hb.block _ (by omega)).trans hk
    have hy := run_yield (P := Try.prog) (args := #[.agg #[.int .i64 1, .int .i64 0, .int .i64 0, .int .i64 0, .int .i64 0, .int .i64 0, .slice none 0 0]]) hl1 (by rw [hrec]; rfl)
    rw [hrec] at hy
    refine ⟨fn, _, assign, body, hy, roundIn_of_wpIn hfn ?_⟩
    dsimp only
    rw [hfold]
    refine hassign (W0.heap.size + 1) 1 0 0 0 0 0 none 0 0 V1 _ ?_
    refine ⟨_, run_beginRound ((Below.heap_alloc _ _ _ (by omega)).trans hl1) (by rw [hrec]), ?_⟩
    have hla : (V1.alloc (.cells #[.int .i64 1, .int .i64 0, .int .i64 0, .int .i64 0, .int .i64 0, .int .i64 0, .slice none 0 0] 44)).heap[W0.heap.size + 1]? = some (.loop (rec .ready none)) := (Below.heap_alloc _ _ _ (by omega)).trans hl1
    have hka : (V1.alloc (.cells #[.int .i64 1, .int .i64 0, .int .i64 0, .int .i64 0, .int .i64 0, .int .i64 0, .slice none 0 0] 44)).heap[W0.heap.size]? = some (.deferred (some [])) := (Below.heap_alloc _ _ _ (by omega)).trans hk1
    have hT1 : Turn W0.heap.size (V1.alloc (.cells #[.int .i64 1, .int .i64 0, .int .i64 0, .int .i64 0, .int .i64 0, .int .i64 0, .slice none 0 0] 44)) ((V1.alloc (.cells #[.int .i64 1, .int .i64 0, .int .i64 0, .int .i64 0, .int .i64 0, .int .i64 0, .slice none 0 0] 44)).putObj (W0.heap.size + 1) (.loop { rec .ready none with state := .busy })) := Turn.put _ (by omega) hla rfl
    have hT12 : Turn W0.heap.size V1 ((V1.alloc (.cells #[.int .i64 1, .int .i64 0, .int .i64 0, .int .i64 0, .int .i64 0, .int .i64 0, .slice none 0 0] 44)).putObj (W0.heap.size + 1) (.loop { rec .ready none with state := .busy })) := (Turn.of_below ((Below.refl _ V1).alloc (Nat.le_refl _) _)).trans hT1
    have hT : Turn W0.heap.size V0 ((V1.alloc (.cells #[.int .i64 1, .int .i64 0, .int .i64 0, .int .i64 0, .int .i64 0, .int .i64 0, .slice none 0 0] 44)).putObj (W0.heap.size + 1) (.loop { rec .ready none with state := .busy })) := (Turn.of_below hb).trans hT12
    have hz2 : ((V1.alloc (.cells #[.int .i64 1, .int .i64 0, .int .i64 0, .int .i64 0, .int .i64 0, .int .i64 0, .slice none 0 0] 44)).putObj (W0.heap.size + 1) (.loop { rec .ready none with state := .busy })).heap.size = V1.heap.size + 1 := by simp
    have hB2 : Blk ((V1.alloc (.cells #[.int .i64 1, .int .i64 0, .int .i64 0, .int .i64 0, .int .i64 0, .int .i64 0, .slice none 0 0] 44)).putObj (W0.heap.size + 1) (.loop { rec .ready none with state := .busy })) V1.heap.size [.int .i64 1, .int .i64 0, .int .i64 0, .int .i64 0, .int .i64 0, .int .i64 0, .slice none 0 0] := hT1.blk (Blk.new_at (w := V1) (cs := #[.int .i64 1, .int .i64 0, .int .i64 0, .int .i64 0, .int .i64 0, .int .i64 0, .slice none 0 0]) (t := 44) V1.heap.size rfl) (by simp)
    have hl2 : ((V1.alloc (.cells #[.int .i64 1, .int .i64 0, .int .i64 0, .int .i64 0, .int .i64 0, .int .i64 0, .slice none 0 0] 44)).putObj (W0.heap.size + 1) (.loop { rec .ready none with state := .busy })).heap[W0.heap.size + 1]? = some (.loop { rec .ready none with state := .busy }) := World.putObj_heap_same (Array.getElem?_eq_some_iff.1 hla).1
    have hk2 : ((V1.alloc (.cells #[.int .i64 1, .int .i64 0, .int .i64 0, .int .i64 0, .int .i64 0, .int .i64 0, .slice none 0 0] 44)).putObj (W0.heap.size + 1) (.loop { rec .ready none with state := .busy })).heap[W0.heap.size]? = some (.deferred (some [])) := (World.putObj_heap_other (by omega)).trans hka
    refine wpIn_mono (hno (W0.heap.size + 1) pre V0 V1 _ hi hT hb.size hz2 hz0 hB2) ?_
    rintro ex a3 V3 ⟨rfl, hko, hi3⟩
    have hl3 := hko.same _ _ hl2 rfl
    have hk3 := hko.same _ _ hk2 rfl
    have hT3 : Turn W0.heap.size V3 (V3.putObj (W0.heap.size + 1) (.loop (rec .done (some .ret)))) := Turn.put _ (by omega) hl3 rfl
    have hl3' := (Array.getElem?_eq_some_iff.1 hl3).1
    have hend : (Instr.endRound (W0.heap.size + 1) (some .ret)).run Try.prog V3 = .ok (.bool false) (V3.putObj (W0.heap.size + 1) (.loop (rec .done (some .ret)))) := by
      have := run_endRound (P := Try.prog) (some .ret) hl3
      rw [hrec] at this ⊢; exact this
    exact ⟨_, _, hend, rfl, hIx _ _ hi3 hT3, World.putObj_heap_same hl3', (World.putObj_heap_other (by omega)).trans hk3⟩
  · rintro e W2 ⟨⟨v, rfl⟩, (⟨xs, hS, hi, hl, hk⟩ | ⟨hN, hi, hl, hk⟩)⟩
    · exact ⟨none, _, by have := run_endLoop (P := Try.prog) hl (by rw [hrec]; simp); rw [hrec] at this; exact this, hdone _ xs _ (Nat.le_refl _) hS (hI _ _ _ hi (Turn.put _ (by omega) hl rfl)) ((World.putObj_heap_other (by omega)).trans hk)⟩
    · exact ⟨some .ret, _, by have := run_endLoop (P := Try.prog) hl (by rw [hrec]; simp); rw [hrec] at this; exact this, hstop _ _ (Nat.le_refl _) hN (hIx _ _ hi (Turn.put _ (by omega) hl rfl)) ((World.putObj_heap_other (by omega)).trans hk)⟩
end Go.Proofs.Ytlelgfkebcnepaa

namespace Go.Proofs.Ytlelgfkebcnepaa
open Go.RowKit Go.Shelf
attribute [local go_sem] Oper.semAt_some
set_option linter.unusedVariables false

theorem cells_new6 (w : World) (t : GM) : ∀ j u, (gcells t)[j]? = some u → (w.alloc (.cells #[.int .i64 t.at_, .int .i64 t.s, .int .i64 t.m, .int .i64 t.o, .int .i64 t.h, .slice t.a t.n t.c] 42)).cell? ((⟨w.heap.size, 0, none⟩ : Addr).add j) = some u := fun j u h => by
  have := ((Blk.new w #[.int .i64 t.at_, .int .i64 t.s, .int .i64 t.m, .int .i64 t.o, .int .i64 t.h, .slice t.a t.n t.c] 42).2 j u h).1
  cases j with
  | zero => exact this
  | succ j => simpa [Addr.add] using this

theorem row_far {w : World} {base e size n b : Nat} {v : Value} {xs : List Value} (h : w.ownsRow base e size v n xs) (hb : b < base) : v.ownBlock ≠ some b := fun he => by have := (h.lt b he).1; omega

theorem blk_grown {w w' : World} {b : Nat} {cs : List Value} {row : Option Nat} (h : Blk w b cs) (hg : w.grownBy w' row) (hne : row ≠ some b) : Blk w' b cs := blk_block h (hg.block b h.1 (fun e => hne e.symm))

theorem row_set {w : World} {base e size n : Nat} {v : Value} {xs : List Value} (h : w.ownsRow base e size v n xs) {p : Addr} (hp : p.block < base) (u : Value) : (w.setCell p u).ownsRow base e size v n xs := by
  refine ⟨h.1, ?_⟩
  rcases h.2 with h0 | ⟨g, cap, cur, h1, h2, h3, h4⟩
  · exact .inl h0
  · exact .inr ⟨g, cap, cur, h1, h2, (Below.heap_setCell w p u g (by omega)).trans h3, h4⟩

theorem row_cells {w : World} {base e size n : Nat} {v : Value} {xs : List Value} (h : w.ownsRow base e size v n xs) (j : Nat) (o : Obj) (hj : v.ownBlock = some j) (ho : w.heap[j]? = some o) : o.isCells = true := by
  rcases h.2 with ⟨rfl, _⟩ | ⟨g, cap, cur, rfl, _, hg, _⟩
  · simp [Value.ownBlock] at hj
  · simp only [Value.ownBlock, Option.some.injEq] at hj
    subst hj
    rw [hg] at ho
    cases ho; rfl

set_option maxRecDepth 100000 in
set_option maxHeartbeats 800000 in
theorem implOI_fault (h ac bu : Int) (a : Option Addr) (n c : Nat) (f : Nat → Int) (k : Int) (w : World) (hs : Src w a n f) (hk : IsFault h n f ac bu k) (hk0 : ¬ k = 0) :
    Calls Try.prog 16 #[.agg #[.int .i64 h, .slice a n c, .int .i64 ac, .int .i64 bu]] w (RetORG w f k []) := by
  have HS := Lib.hid hs; have HK := Lib.hid hk
  clear hs hk
  go_enter Try.func16, Try.ntmps16
  go_wp2_with fail
  refine (implFault_any h ac bu a n c f k _ ((HS.out.alloc _).alloc _) HK.out).mono ?_
  rintro e w1 ⟨rfl, hb⟩
  have HB1 := Lib.hid (thru2 (Below.refl _ _) hb)
  have R_1 := Lib.hid ((Blk.new_at (w := w.alloc (.cells #[.int .i64 h, .slice a n c, .int .i64 ac, .int .i64 bu] 26)) (cs := #[.int .i64 0, .slice none 0 0]) (t := 37) (w.heap.size + 1) (by simp)).below hb)
  have z1 : w.heap.size + 2 ≤ w1.heap.size := by have := hb.size; simp at this; omega
  clear hb
  have hd : (k != 0) = true := by simpa using hk0
  have lR := R_1.out.1; have cR0 := R_1.out.at 0 rfl; have fR0 := R_1.out.free 0 rfl; have cR1 := R_1.out.at 1 rfl; have fR1 := R_1.out.free 1 rfl
  go_wp2
  refine bodyPost_ret (v := .agg #[.int .i64 k, .slice none 0 0]) (by simp [results, Try.results16, go_sem, cR0, cR1]) rfl ⟨none, 0, fun _ => gzero, rfl, .inl rfl, fun i hi => (by simp at hi), ?_, Nat.le_refl _, by simp [maxLen]⟩
  repeat (first | (with_reducible refine Below.setCell ?_ (by (try simp); (try omega)) _) | (with_reducible refine Below.alloc ?_ (by (try simp); (try omega)) _) | (with_reducible refine Below.drew ?_))
  exact HB1.out

set_option maxRecDepth 100000 in
set_option maxHeartbeats 3200000 in
theorem implOI_none (h ac bu : Int) (a : Option Addr) (n c : Nat) (f : Nat → Int) (co : Int) (L : List Ob) (w : World) (hs : Src w a n f) (hnc : n ≤ c) (hcm : c ≤ maxLen) (hk : IsFault h n f ac bu 0)
    (hc : (parse f ((baseI ac h).toNat + bu.toNat) (baseI ac h).toNat = none ∧ co = 1 ∧ L = []) ∨ (parse f ((baseI ac h).toNat + bu.toNat) (baseI ac h).toNat = some L ∧ co = 0)) :
    Calls Try.prog 16 #[.agg #[.int .i64 h, .slice a n c, .int .i64 ac, .int .i64 bu]] w (RetORG w f co L) := by
  obtain ⟨⟨⟨g1, g2⟩, ⟨g3, g4⟩, g5, g6⟩, gn, gw⟩ := isFault_ok hk
  have hb0 : 0 ≤ baseI ac h ∧ baseI ac h ≤ h ∧ baseI ac h + h ≤ 2 * h := by rcases (by omega : ac = 0 ∨ ac = 1) with rfl | rfl <;> simp [baseI] <;> omega
  obtain ⟨P, hP⟩ : ∃ P : Nat, baseI ac h = (P : Int) := ⟨(baseI ac h).toNat, by omega⟩
  obtain ⟨U, rfl⟩ : ∃ U : Nat, bu = (U : Int) := ⟨bu.toNat, by omega⟩
  rw [hP, Int.toNat_natCast, Int.toNat_natCast] at hc
  obtain ⟨ab, ao, rfl⟩ : ∃ ab ao, a = some ⟨ab, ao, none⟩ := by
    rcases hs with h0 | ⟨b, off, he, _⟩
    · omega
    · exact ⟨b, off, he⟩
  have hPU : P + U ≤ n := by omega
  have HS := Lib.hid hs; have HK := Lib.hid hk; have HC := Lib.hid hc; have HP := Lib.hid hP; have HCM := Lib.hid hcm
  have HG := Lib.hid (show 8 ≤ h ∧ h ≤ 200 ∧ 0 ≤ ac ∧ ac ≤ 1 ∧ (n : Int) = 2 * h from ⟨g1, g2, g3, g4, gn⟩)
  clear hs hk hc hP hcm gw hb0 g1 g2 g3 g4 g5 g6 gn
  obtain ⟨m, _⟩ : ∃ m : Nat, m = m := ⟨9, rfl⟩
  refine (callsIn_wide (n := m)).1 ?_
  refine callsIn_of_wp_marks Try.func16 rfl trivial ?_ rfl
  simp only [Try.ntmps16, List.size_toArray, List.length_cons, List.length_nil, Nat.reduceAdd, Nat.reduceSub, Array.replicate_succ, Array.replicate_zero, List.push_toArray, List.append_toArray, List.nil_append, List.cons_append]
  gi_wp2_with fail
  refine ⟨trivial, fun hx => (by simp [Fence.wide] at hx), (callsIn_wide.2 (implFault_any h ac (U : Int) (some ⟨ab, ao, none⟩) n c f 0 _ ((HS.out.alloc _).alloc _) HK.out)).mono ?_⟩
  rintro e w1 ⟨rfl, hb⟩
  have HB1 := Lib.hid (thru2 (Below.refl _ _) hb)
  have A_1 := Lib.hid (((Blk.new_at (w := w) (cs := #[.int .i64 h, .slice (some ⟨ab, ao, none⟩) n c, .int .i64 ac, .int .i64 (U : Int)]) (t := 26) (w.heap.size) rfl).alloc _).below hb)
  have R_1 := Lib.hid ((Blk.new_at (w := w.alloc (.cells #[.int .i64 h, .slice (some ⟨ab, ao, none⟩) n c, .int .i64 ac, .int .i64 (U : Int)] 26)) (cs := #[.int .i64 0, .slice none 0 0]) (t := 37) (w.heap.size + 1) (by simp)).below hb)
  have z1 : w.heap.size + 2 ≤ w1.heap.size := by have := hb.size; simp at this; omega
  clear hb
  have lA := A_1.out.1; have cA0 := A_1.out.at 0 rfl; have fA0 := A_1.out.free 0 rfl; have cA1 := A_1.out.at 1 rfl; have fA1 := A_1.out.free 1 rfl; have cA2 := A_1.out.at 2 rfl; have fA2 := A_1.out.free 2 rfl; have cA3 := A_1.out.at 3 rfl; have fA3 := A_1.out.free 3 rfl
  gi_wp2_with fail
  clear lA cA0 fA0 cA1 fA1 cA2 fA2 cA3 fA3
  refine ⟨trivial, fun hx => (by simp [Fence.wide] at hx), (callsIn_wide.2 (walk_any h ac (U : Int) (some ⟨ab, ao, none⟩) n c _)).mono ?_⟩
  rintro e w2 ⟨rfl, rfl⟩
  have HB0 : Hid (Below w.heap.size w ((w1.alloc (.cells #[.slice none 0 0] 35)).alloc (.cells #[.int .i64 h, .slice (some ⟨ab, ao, none⟩) n c, .int .i64 ac, .int .i64 (U : Int)] 26))) := Lib.hid ((HB1.out.alloc HB1.out.size _).alloc (by have := HB1.out.size; simp; omega) _)
  have T0 : Hid (Blk ((w1.alloc (.cells #[.slice none 0 0] 35)).alloc (.cells #[.int .i64 h, .slice (some ⟨ab, ao, none⟩) n c, .int .i64 ac, .int .i64 (U : Int)] 26)) w1.heap.size [.slice none 0 0]) := Lib.hid ((Blk.new_at (w := w1) (cs := #[.slice none 0 0]) (t := 35) w1.heap.size rfl).alloc _)
  have A0 : Hid (Blk ((w1.alloc (.cells #[.slice none 0 0] 35)).alloc (.cells #[.int .i64 h, .slice (some ⟨ab, ao, none⟩) n c, .int .i64 ac, .int .i64 (U : Int)] 26)) (w1.heap.size + 1) [.int .i64 h, .slice (some ⟨ab, ao, none⟩) n c, .int .i64 ac, .int .i64 (U : Int)]) := Lib.hid (Blk.new_at (w := w1.alloc (.cells #[.slice none 0 0] 35)) (cs := #[.int .i64 h, .slice (some ⟨ab, ao, none⟩) n c, .int .i64 ac, .int .i64 (U : Int)]) (t := 26) (w1.heap.size + 1) (by simp))
  have R0 : Hid (Blk ((w1.alloc (.cells #[.slice none 0 0] 35)).alloc (.cells #[.int .i64 h, .slice (some ⟨ab, ao, none⟩) n c, .int .i64 ac, .int .i64 (U : Int)] 26)) (w.heap.size + 1) [.int .i64 0, .slice none 0 0]) := Lib.hid ((R_1.out.alloc _).alloc _)
  have z0 : ((w1.alloc (.cells #[.slice none 0 0] 35)).alloc (.cells #[.int .i64 h, .slice (some ⟨ab, ao, none⟩) n c, .int .i64 ac, .int .i64 (U : Int)] 26)).heap.size = w1.heap.size + 2 := by simp
  gi_wp2
  generalize (w1.alloc (.cells #[.slice none 0 0] 35)).alloc (.cells #[.int .i64 h, .slice (some ⟨ab, ao, none⟩) n c, .int .i64 ac, .int .i64 (U : Int)] 26) = W0 at *
  have z0' : w.heap.size + 4 ≤ W0.heap.size := by omega
  have hn0 : w.heap.size ≤ W0.heap.size := by omega
  have hA1 : w1.heap.size + 1 < W0.heap.size := by omega
  have HZ0 := Lib.hid z0
  clear HB1 R_1 A_1 z0
  obtain ⟨i0, hi, hi0, hi1, hi2⟩ := info_parts Try.info42
  refine range_objs (gf := 109) (lb := #[.pointer (some ⟨w1.heap.size + 1, 0, none⟩)]) rfl (enters_of Try.func109 (by kernel_rfl) rfl)
    (fun xs => ∃ L', parse f (P + U) P = some L' ∧ Match f xs L') (parse f (P + U) P = none)
    (fun pre V => Below w.heap.size w V ∧ Blk V (w.heap.size + 1) [.int .i64 0, .slice none 0 0] ∧ ∃ va vc, Blk V w1.heap.size [.slice va pre.length vc] ∧ V.ownsRow W0.heap.size 42 6 (.slice va pre.length vc) pre.length (rowG pre) ∧ FldG V W0.heap.size (.slice va pre.length vc) pre)
    (fun V => Below w.heap.size w V ∧ Blk V (w.heap.size + 1) [.int .i64 1, .slice none 0 0])
    w.heap.size (w1.heap.size + 1) hn0 hA1 ?stable ?stablex ?start ?iter
    (fun v B => { tmps := #[.agg #[.int .i64 h, .slice (some ⟨ab, ao, none⟩) n c, .int .i64 ac, .int .i64 (U : Int)], .pointer (some ⟨w.heap.size, 0, none⟩), .pointer (some ⟨w.heap.size + 1, 0, none⟩), .int .i64 0, .pointer (some ⟨w1.heap.size, 0, none⟩), .pointer (some ⟨B, 0, none⟩), .agg #[.int .i64 h, .slice (some ⟨ab, ao, none⟩) n c, .int .i64 ac, .int .i64 (U : Int)], .int .i64 0, .int .i64 0, .bool false, undef, undef, .agg #[.int .i64 h, .slice (some ⟨ab, ao, none⟩) n c, .int .i64 ac, .int .i64 (U : Int)], .func (.func 109) #[] #[.pointer (some ⟨w1.heap.size + 1, 0, none⟩)], v, undef, undef, undef, undef, undef, undef, undef, undef, undef, undef, undef, undef, undef], defers := [] })
    ?assign ?go ?no ?done ?stop
  case stable =>
    rintro s V V' ⟨h1, h2, va, vc, h3, h4, h5⟩ hT
    exact ⟨h1.trans (hT.below hn0 h1.size), hT.blk h2 (by simp), va, vc, hT.blk h3 (by simp), hT.row h4, hT.fld h5⟩
  case stablex =>
    rintro V V' ⟨h1, h2⟩ hT
    exact ⟨h1.trans (hT.below hn0 h1.size), hT.blk h2 (by simp)⟩
  case start => exact ⟨HB0.out, R0.out, none, 0, T0.out, World.ownsRow_nil _ _ _ _, ⟨fun t ht => (by cases ht), List.Pairwise.nil⟩⟩
  case iter =>
    intro l J Jx W1 hb hJ hgo hno hJ0
    obtain ⟨g1, g2, g3, g4, gn⟩ := HG.out
    refine (iter_in (m - 1) l (w1.heap.size + 1) h ac ab ao n c P U f w W1 J Jx hJ hgo hno HS.out (HB0.out.trans (hb.mono hn0)) (A0.out.below hb) g1 g2 g3 g4 HP.out gn hPU hnc HCM.out hJ0).mono ?_
    rintro e V' ⟨hv, ⟨L', xs, h1, h2, h3⟩ | h1⟩
    · exact ⟨hv, .inl ⟨xs, ⟨L', h1, h2⟩, h3⟩⟩
    · exact ⟨hv, .inr h1⟩
  case assign =>
    intro l c0 c1 c2 c3 c4 c5 sa sn sc V1 K hK
    gi_wp2
    exact hK
  case go =>
    rintro l pre t V0 V1 V2 ⟨hB, hR, va, vc, hT, how, hfl⟩ hlen hTn hz hz2 hz0 hX ho
    have T2 := Lib.hid (hTn.blk hT (by simp)); have X2 := Lib.hid hX; have R2 := Lib.hid (hTn.blk hR (by simp)); have OW2 := Lib.hid (hTn.row how); have HFL := Lib.hid hfl; have HTN := Lib.hid hTn; have HO := Lib.hid ho; have HOW := Lib.hid how
    have HB2 := Lib.hid (hB.trans (hTn.below hn0 hB.size))
    have HZ2 := Lib.hid hz2
    have hV02 : V0.heap.size ≤ V2.heap.size := by omega
    clear hT hX hR how hfl hTn ho hB hz2
    have hnew := cells_new6 V2 t
    have lT := T2.out.1; have cT0 := T2.out.at 0 rfl; have fT0 := T2.out.free 0 rfl
    have lX := X2.out.1; have cX0 := X2.out.at 0 rfl; have fX0 := X2.out.free 0 rfl; have cX1 := X2.out.at 1 rfl; have fX1 := X2.out.free 1 rfl; have cX2 := X2.out.at 2 rfl; have fX2 := X2.out.free 2 rfl; have cX3 := X2.out.at 3 rfl; have fX3 := X2.out.free 3 rfl; have cX4 := X2.out.at 4 rfl; have fX4 := X2.out.free 4 rfl; have cX5 := X2.out.at 5 rfl; have fX5 := X2.out.free 5 rfl; have cX6 := X2.out.at 6 rfl; have fX6 := X2.out.free 6 rfl
    gi_wp2_with (gi_at_builtin; go_loud (refine wpListIn_append_own_at _ rfl _ _ 35 rfl W0.heap.size 42 i0 _ 6 64 Try.underlying35 hi hi0 hi1 hi2 rfl (by decide) _ pre.length _ rfl (OW2.out.alloc _) ⟨V2.heap.size, 0, none⟩ 1 1 (gcells t) rfl rfl hnew (by intro u hu; simp [gcells] at hu; rcases hu with rfl | rfl | rfl | rfl | rfl | rfl <;> rfl) (by unfold maxLen; omega) (by omega) (by simp; omega) ?_); intro v' w4 hown hgrow _ hat; obtain ⟨g', cap', rfl⟩ := ownsRow_succ hown; have T3 := Lib.hid (blk_grown (T2.out.alloc _) hgrow (row_far OW2.out (by omega))); clear lT cT0 fT0; have lT := T3.out.1; have cT0 := T3.out.at 0 rfl; have fT0 := T3.out.free 0 rfl)
    clear lT cT0 fT0 lX cX0 cX1 cX2 cX3 cX4 cX5 cX6 fX0 fX1 fX2 fX3 fX4 fX5 fX6
    have z := HZ0.out
    have hsv : some (⟨g', 0, none⟩ : Addr) = some ⟨g', 0, none⟩ := rfl
    have hfar : ∀ b, b < W0.heap.size → some b ≠ (Value.slice va pre.length vc).ownBlock := fun b hb e => row_far OW2.out hb e.symm
    have hBn : ∀ n1, n1 ≤ w1.heap.size → Below n1 V2 (w4.setCell ⟨w1.heap.size, 0, none⟩ (.slice (some ⟨g', 0, none⟩) (pre.length + 1) cap')) := fun n1 h1 =>
      (((Below.refl n1 V2).alloc (by omega) _).grown hgrow (by simp; omega) (fun k e => by have := (OW2.out.lt k e).1; omega)).setCell h1 _
    refine ⟨(KeepsOthers.alloc V2 _).trans ((KeepsOthers.of_grownBy hgrow (row_cells (OW2.out.alloc _))).trans (KeepsOthers.setCell _ _ _)), ⟨HB2.out.trans (hBn _ (by omega)), (blk_grown (R2.out.alloc _) hgrow (row_far OW2.out (by omega))).other (by simp; omega) _, some ⟨g', 0, none⟩, cap', T3.out.set 0 (by simp) _, row_set (by rw [rowG_snoc]; exact hown) (by show w1.heap.size < W0.heap.size; omega) _, ?_⟩, hBn _ (by omega), ?_, fun b hb1 hb2 => ?_⟩
    · exact (FldG.snoc t HFL.out (by simp; omega) (fun b o hb hc => (Below.heap_alloc _ _ _ (Array.getElem?_eq_some_iff.1 (HTN.out.same b o hb (.inr hc))).1).trans (HTN.out.same b o hb (.inr hc))) hgrow hat hz0 (fun k e => (HOW.out.lt k e).2) (HO.out.alloc _)).block (by simp) (fun b h1 _ _ => Below.heap_setCell _ _ _ b (by show b ≠ w1.heap.size; omega))
    · exact (Below.heap_setCell _ _ _ _ (by show w1.heap.size + 1 ≠ w1.heap.size; omega)).trans ((hgrow.block _ (by simp; omega) (hfar _ hA1)).trans (Below.heap_alloc _ _ _ (by omega)))
    · exact (Below.heap_setCell _ _ _ _ (by show b ≠ w1.heap.size; omega)).trans ((hgrow.block _ (by simp; omega) (fun e => by have := (HOW.out.lt b e.symm).2; omega)).trans (Below.heap_alloc _ _ _ hb2))
  case no =>
    rintro l pre V0 V1 V2 ⟨hB, hR, va, vc, hT, how, hfl⟩ hTn hz hz2 hz0 hX
    have X2 := Lib.hid hX; have R2 := Lib.hid (hTn.blk hR (by simp))
    have HB2 := Lib.hid (hB.trans (hTn.below hn0 hB.size))
    clear hT hX hR how hfl hTn hB
    have lX := X2.out.1; have cX0 := X2.out.at 0 rfl; have fX0 := X2.out.free 0 rfl; have cX1 := X2.out.at 1 rfl; have fX1 := X2.out.free 1 rfl; have cX2 := X2.out.at 2 rfl; have fX2 := X2.out.free 2 rfl; have cX3 := X2.out.at 3 rfl; have fX3 := X2.out.free 3 rfl; have cX4 := X2.out.at 4 rfl; have fX4 := X2.out.free 4 rfl; have cX5 := X2.out.at 5 rfl; have fX5 := X2.out.free 5 rfl; have cX6 := X2.out.at 6 rfl; have fX6 := X2.out.free 6 rfl
    have lR := R2.out.1; have cR0 := R2.out.at 0 rfl; have fR0 := R2.out.free 0 rfl; have cR1 := R2.out.at 1 rfl; have fR1 := R2.out.free 1 rfl
    gi_wp2
    exact ⟨(KeepsOthers.setCell _ _ _).trans (KeepsOthers.setCell _ _ _), HB2.out.trans (((Below.refl _ V2).setCell (by show w.heap.size ≤ w.heap.size + 1; omega) _).setCell (by show w.heap.size ≤ w.heap.size + 1; omega) _), (R2.out.set 0 (by simp) _).set 1 (by simp) _⟩
  case done =>
    rintro D xs V hD ⟨L', h1, h2⟩ ⟨hB, hR, va, vc, hT, how, hfl⟩ hK
    have T2 := Lib.hid hT; have R2 := Lib.hid hR
    have lT := T2.out.1; have cT0 := T2.out.at 0 rfl; have fT0 := T2.out.free 0 rfl
    have lR := R2.out.1; have cR0 := R2.out.at 0 rfl; have fR0 := R2.out.free 0 rfl; have cR1 := R2.out.at 1 rfl; have fR1 := R2.out.free 1 rfl
    gi_wp2
    clear lT cT0 fT0 lR cR0 cR1 fR0 fR1
    have hRD : (⟨w.heap.size + 1, 0, none⟩ : Addr).block < W0.heap.size := by show w.heap.size + 1 < W0.heap.size; omega
    have hK' := ((KeepsOthers.setCell V ⟨w.heap.size + 1, 0, none⟩ (.int .i64 0)).trans (KeepsOthers.setCell _ ⟨w.heap.size + 1, 1, none⟩ (.slice va xs.length vc))).same D _ hK rfl
    have hBV := ((Below.refl w.heap.size V).setCell (p := ⟨w.heap.size + 1, 0, none⟩) (by show w.heap.size ≤ w.heap.size + 1; omega) (.int .i64 0)).setCell (p := ⟨w.heap.size + 1, 1, none⟩) (by show w.heap.size ≤ w.heap.size + 1; omega) (.slice va xs.length vc)
    have hRV : Blk ((V.setCell ⟨w.heap.size + 1, 0, none⟩ (.int .i64 0)).setCell ⟨w.heap.size + 1, 1, none⟩ (.slice va xs.length vc)) (w.heap.size + 1) [.int .i64 0, .slice va xs.length vc] := (R2.out.set 0 (by simp) _).set 1 (by simp) _
    have hOV := row_set (row_set how hRD (.int .i64 0)) (p := ⟨w.heap.size + 1, 1, none⟩) hRD (.slice va xs.length vc)
    have hFV : FldG ((V.setCell ⟨w.heap.size + 1, 0, none⟩ (.int .i64 0)).setCell ⟨w.heap.size + 1, 1, none⟩ (.slice va xs.length vc)) W0.heap.size (.slice va xs.length vc) xs := hfl.block (by simp) (fun b hb _ _ => (Below.heap_setCell _ _ _ b (by show b ≠ w.heap.size + 1; omega)).trans (Below.heap_setCell _ _ _ b (by show b ≠ w.heap.size + 1; omega)))
    have hzV : V.heap.size ≤ ((V.setCell ⟨w.heap.size + 1, 0, none⟩ (.int .i64 0)).setCell ⟨w.heap.size + 1, 1, none⟩ (.slice va xs.length vc)).heap.size := by simp
    generalize (V.setCell ⟨w.heap.size + 1, 0, none⟩ (.int .i64 0)).setCell ⟨w.heap.size + 1, 1, none⟩ (.slice va xs.length vc) = Vf at *
    have hTF : Turn W0.heap.size Vf (Vf.putObj D (.deferred none)) := Turn.put _ hD hK' rfl
    have hRW := hTF.blk hRV (by simp)
    obtain ⟨rfl, rfl⟩ : co = 0 ∧ L = L' := by
      rcases HC.out with ⟨hx, _⟩ | ⟨hx, hy⟩
      · rw [hx] at h1; cases h1
      · rw [hx] at h1; cases h1; exact ⟨hy, rfl⟩
    obtain ⟨a', c', he, hg⟩ := rowG_GVO (hTF.row hOV) (hTF.fld hFV) (Nat.le_refl _)
    simp only [Value.slice.injEq] at he
    obtain ⟨rfl, _, rfl⟩ := he
    obtain ⟨hc1, hc2⟩ := row_cap (hTF.row hOV)
    have hBF := (hB.trans hBV).trans (hTF.below hn0 (by have := hB.size; omega))
    have c0 := hRW.at 0 rfl
    have c1 := hRW.at 1 rfl
    refine ⟨by simp, .inl ⟨_, _, rfl, run_takeDeferred hK', ?_⟩⟩
    refine ⟨.agg #[.int .i64 0, .slice va xs.length vc], by simp [results, Try.results16, go_sem, c0, c1], ?_⟩
    rw [h2.1] at hg hc1 ⊢
    exact ⟨va, vc, gT xs, rfl, gvo_mono hg hn0, match_same h2, hBF, hc1, hc2⟩
  case stop =>
    rintro D V hD hN ⟨hB, hR⟩ hK
    gi_wp2
    have hTF : Turn W0.heap.size V (V.putObj D (.deferred none)) := Turn.put _ hD hK rfl
    have hRW := hTF.blk hR (by simp)
    obtain ⟨rfl, rfl⟩ : co = 1 ∧ L = [] := by
      rcases HC.out with ⟨_, hx⟩ | ⟨hx, _⟩
      · exact hx
      · rw [hx] at hN; cases hN
    have hBF := hB.trans (hTF.below hn0 hB.size)
    have c0 := hRW.at 0 rfl
    have c1 := hRW.at 1 rfl
    refine ⟨by simp, .inl ⟨_, _, rfl, run_takeDeferred hK, ?_⟩⟩
    refine ⟨.agg #[.int .i64 1, .slice none 0 0], by simp [results, Try.results16, go_sem, c0, c1], ?_⟩
    exact ⟨none, 0, fun _ => gzero, rfl, .inl rfl, fun i hi => (by simp at hi), hBF, Nat.le_refl _, by simp [maxLen]⟩

theorem implOI : ImplOI := fun h ac bu a n c f co L w hs hnc hcm hk => by
  rcases hk with ⟨k, h1, h2, rfl, rfl⟩ | ⟨h1, h2, h3, h4⟩ | ⟨h1, h2, h3⟩
  · exact implOI_fault h ac bu a n c f _ w hs h1 h2
  · exact implOI_none h ac bu a n c f co L w hs hnc hcm h1 (.inl ⟨h2, h3, h4⟩)
  · exact implOI_none h ac bu a n c f co L w hs hnc hcm h1 (.inr ⟨h2, h3⟩)
end Go.Proofs.Ytlelgfkebcnepaa

