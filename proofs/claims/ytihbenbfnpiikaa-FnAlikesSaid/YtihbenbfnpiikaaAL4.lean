/- Texts merged: S4 to Y3. -/
import Derived.Test.YtihbenbfnpiikaaAL3
import Derived.Maps.Own
import Derived.Maps.OwnOps
import Derived.Maps.OwnSet
import Derived.OneCell
import Derived.WalkMore
import Derived.Laws.IdiomCopy
namespace Go.Proofs.Ytihbenbfnpiikaa
open Go.RowKit
set_option linter.unusedVariables false

theorem l3Objs_any (b : Nat) (h ac bu : Int) (a : Option Addr) (n c : Nat) (f : Nat → Int) (L : List Ob) (w : World) (hB : Blk w b [.int .i64 h, .slice a n c, .int .i64 ac, .int .i64 bu]) (hs : Src w a n f) (hcn : n ≤ c) (hcm : c ≤ maxLen) (ho : IsOI h n f ac bu 0 L) :
    Calls Try.prog 143 #[.pointer (some ⟨b, 0, none⟩)] w fun e w' => Below w.heap.size w w' ∧ ∃ v M, L = M.map OM.x ∧ e = .returned (.tuple #[v, .bool true]) ∧ OMS w' w.heap.size w.heap.size f v M := by
  obtain ⟨h4, h5⟩ := isOI_zero ho
  obtain ⟨⟨⟨g1, g2⟩, ⟨g3, g4⟩, g5, g6⟩, gn, gw⟩ := isFault_ok h4
  have hb := baseI_bd (ac := ac) g1
  obtain ⟨P, hP⟩ : ∃ P : Nat, baseI ac h = (P : Int) := ⟨(baseI ac h).toNat, by omega⟩
  obtain ⟨U, rfl⟩ : ∃ U : Nat, bu = (U : Int) := ⟨bu.toNat, by omega⟩
  obtain ⟨ab, ao, rfl, hab, hac⟩ := src_some hs (by omega)
  rw [hP, Int.toNat_natCast, Int.toNat_natCast] at h5
  have hPU : P + U ≤ n := by rcases (by omega : ac = 0 ∨ ac = 1) with rfl | rfl <;> simp [baseI] at hP <;> omega
  have hok := parse_ok h5 hPU gw
  have hln := parse_length (P + U - P) P L (Nat.le_refl _) h5
  refine (l3Objects_any b P U h ac ab ao n c f w hB hs g1 g2 g3 g4 hP hPU (by omega) hcn hcm (fun i hi => by have := gw i hi; unfold Word at this; omega)).mono ?_
  rintro e w' ⟨hb1, hr⟩
  rw [h5] at hr
  refine ⟨hb1, ?_⟩
  obtain ⟨hx, _⟩ | ⟨v, M, hx, rfl, hown, hfl⟩ := hr
  · cases hx
  obtain rfl := Option.some.inj hx
  refine ⟨v, M, rfl, rfl, hown, hfl, by have : M.length = (M.map OM.x).length := (by simp); omega, fun t ht => ?_⟩
  have h9 := hok t.x (List.mem_map_of_mem ht)
  exact ⟨h9.1, h9.2.1, ⟨h9.2.2.2.1.1, by omega⟩, h9.2.2.2.2⟩

/-- What is asked of an arena and roots. -/
def IsAsk (h : Int) (n : Nat) (f : Nat → Int) (ac bu : Int) (roots : List Int) (co : Int) (L : List Ob) : Prop :=
  (IsSF h n f ac bu co ∧ ¬ co = 0) ∨ (IsSF h n f ac bu 0 ∧ 60 < roots.length ∧ co = 2) ∨ (IsSF h n f ac bu 0 ∧ IsOI h n f ac bu 0 L ∧ roots.length ≤ 60 ∧ (∃ p ∈ roots, p ∉ placesO L) ∧ co = 4) ∨ (IsSF h n f ac bu 0 ∧ IsOI h n f ac bu 0 L ∧ roots.length ≤ 60 ∧ (∀ p ∈ roots, p ∈ placesO L) ∧ co = 0)

theorem isAsk_some (h : Int) (n : Nat) (f : Nat → Int) (ac bu : Int) (roots : List Int) : ∃ co L, IsAsk h n f ac bu roots co L := by
  obtain ⟨k, hk⟩ := isSF_some h n f ac bu
  by_cases h0 : k = 0
  · subst h0
    by_cases h1 : 60 < roots.length
    · exact ⟨2, [], .inr (.inl ⟨hk, h1, rfl⟩)⟩
    · obtain ⟨L, hL⟩ := isSF_zero hk
      by_cases h2 : ∀ p ∈ roots, p ∈ placesO L
      · exact ⟨0, L, .inr (.inr (.inr ⟨hk, hL, by omega, h2, rfl⟩))⟩
      · refine ⟨4, L, .inr (.inr (.inl ⟨hk, hL, by omega, ?_, rfl⟩))⟩
        apply Classical.byContradiction
        intro hn
        exact h2 fun p hp => Classical.byContradiction fun hq => hn ⟨p, hp, hq⟩
  · exact ⟨k, [], .inl ⟨hk, h0⟩⟩

theorem isAsk_zero {h : Int} {n : Nat} {f : Nat → Int} {ac bu : Int} {roots : List Int} {L : List Ob} (hk : IsAsk h n f ac bu roots 0 L) : IsSF h n f ac bu 0 ∧ IsOI h n f ac bu 0 L ∧ roots.length ≤ 60 ∧ ∀ p ∈ roots, p ∈ placesO L := by
  rcases hk with ⟨_, h⟩ | ⟨_, _, h⟩ | ⟨_, _, _, _, h⟩ | ⟨h1, h2, h3, h4, _⟩
  · exact absurd rfl h
  · cases h
  · cases h
  · exact ⟨h1, h2, h3, h4⟩

def RetAsk (W : World) (f : Nat → Int) (roots : List Int) (co : Int) (L : List Ob) (e : Ending) (w' : World) : Prop :=
  Below W.heap.size W w' ∧ ((¬ co = 0 ∧ e = .returned (.tuple #[.slice none 0 0, .slice none 0 0, .int .i64 co])) ∨ (co = 0 ∧ ∃ v M a c, L = M.map OM.x ∧ e = .returned (.tuple #[v, .slice a (reachO f L roots).length c, .int .i64 0]) ∧ OMS w' W.heap.size W.heap.size f v M ∧ Own w' W.heap.size a (reachO f L roots).length (lf (reachO f L roots)) ∧ (reachO f L roots).length ≤ c ∧ c ≤ maxLen))

theorem OMS.lo {w : World} {base lo base' lo' : Nat} {f : Nat → Int} {v : Value} {M : List OM} (h : OMS w base lo f v M) (h1 : base' ≤ base) (h2 : lo' ≤ lo) : OMS w base' lo' f v M := by
  refine ⟨?_, ⟨fun t ht => ?_, h.fl.2⟩, h.len, h.ok⟩
  · refine ⟨h.row.1, ?_⟩
    rcases h.row.2 with h0 | ⟨g, cap, cur, e1, e2, e3⟩
    · exact .inl h0
    · exact .inr ⟨g, cap, cur, e1, Nat.le_trans h1 e2, e3⟩
  · obtain ⟨e1, e2⟩ := h.fl.1 t ht
    exact ⟨Nat.le_trans h2 e1, e2⟩

set_option maxRecDepth 100000 in
set_option maxHeartbeats 1600000 in
theorem l4Ask_code (b : Nat) (h ac bu : Int) (a : Option Addr) (n c : Nat) (f : Nat → Int) (ra : Option Addr) (roots : List Int) (rc : Nat) (co : Int) (L : List Ob) (w : World) (hB : Blk w b [.int .i64 h, .slice a n c, .int .i64 ac, .int .i64 bu]) (hs : Src w a n f) (hcn : n ≤ c) (hcm : c ≤ maxLen) (hk : IsSF h n f ac bu co) (h0 : ¬ co = 0) :
    Calls Try.prog 74 #[.pointer (some ⟨b, 0, none⟩), .slice ra roots.length rc] w (RetAsk w f roots co L) := by
  have hd : (co != 0) = true := by simpa using h0
  have HB0 := Lib.hid hB; have HS := Lib.hid hs; have HK := Lib.hid hk; have HCM := Lib.hid hcm; have H0 := Lib.hid h0
  have lb := HB0.out.1; have cb0 := HB0.out.at 0 rfl; have cb1 := HB0.out.at 1 rfl; have cb2 := HB0.out.at 2 rfl; have cb3 := HB0.out.at 3 rfl
  clear hB hs hk hcm h0
  go_enter Try.func74, Try.ntmps74
  go_wp2_with fail
  refine (specSF_any h ac bu a n c f co _ HS.out hcn HCM.out HK.out).mono ?_
  rintro e w1 ⟨rfl, hb⟩
  have HB1 := Lib.hid hb
  clear hb cb0 cb1 cb2 cb3 lb
  go_wp2
  exact bodyPost_ret (v := .tuple #[.slice none 0 0, .slice none 0 0, .int .i64 co]) (by simp [results, Try.results74, go_sem]) rfl ⟨HB1.out, .inl ⟨H0.out, rfl⟩⟩

set_option maxRecDepth 100000 in
set_option maxHeartbeats 1600000 in
theorem l4Ask_many (b : Nat) (h ac bu : Int) (a : Option Addr) (n c : Nat) (f : Nat → Int) (ra : Option Addr) (roots : List Int) (rc : Nat) (L : List Ob) (w : World) (hB : Blk w b [.int .i64 h, .slice a n c, .int .i64 ac, .int .i64 bu]) (hs : Src w a n f) (hcn : n ≤ c) (hcm : c ≤ maxLen) (hk : IsSF h n f ac bu 0) (h0 : 60 < roots.length) :
    Calls Try.prog 74 #[.pointer (some ⟨b, 0, none⟩), .slice ra roots.length rc] w (RetAsk w f roots 2 L) := by
  have hd : (60 : Int) < (roots.length : Int) := by omega
  have HB0 := Lib.hid hB; have HS := Lib.hid hs; have HK := Lib.hid hk; have HCM := Lib.hid hcm
  have lb := HB0.out.1; have cb0 := HB0.out.at 0 rfl; have cb1 := HB0.out.at 1 rfl; have cb2 := HB0.out.at 2 rfl; have cb3 := HB0.out.at 3 rfl
  clear hB hs hk hcm h0
  go_enter Try.func74, Try.ntmps74
  go_wp2_with fail
  refine (specSF_any h ac bu a n c f 0 _ HS.out hcn HCM.out HK.out).mono ?_
  rintro e w1 ⟨rfl, hb⟩
  have HB1 := Lib.hid hb
  clear hb cb0 cb1 cb2 cb3 lb
  go_wp2
  exact bodyPost_ret (v := .tuple #[.slice none 0 0, .slice none 0 0, .int .i64 2]) (by simp [results, Try.results74, go_sem]) rfl ⟨HB1.out, .inl ⟨by decide, rfl⟩⟩

set_option maxRecDepth 100000 in
set_option maxHeartbeats 3200000 in
theorem l4Ask_rest (b : Nat) (h ac bu : Int) (a : Option Addr) (n c : Nat) (f : Nat → Int) (ra : Option Addr) (roots : List Int) (rc : Nat) (co : Int) (L : List Ob) (w : World) (hB : Blk w b [.int .i64 h, .slice a n c, .int .i64 ac, .int .i64 bu]) (hs : Src w a n f) (hcn : n ≤ c) (hcm : c ≤ maxLen) (hrs : Src w ra roots.length (lf roots)) (hk : IsSF h n f ac bu 0) (ho : IsOI h n f ac bu 0 L) (h60 : roots.length ≤ 60) (hco : ((∃ p ∈ roots, p ∉ placesO L) ∧ co = 4) ∨ ((∀ p ∈ roots, p ∈ placesO L) ∧ co = 0)) :
    Calls Try.prog 74 #[.pointer (some ⟨b, 0, none⟩), .slice ra roots.length rc] w (RetAsk w f roots co L) := by
  have hd : ¬ (60 : Int) < (roots.length : Int) := by omega
  have HB0 := Lib.hid hB; have HS := Lib.hid hs; have HK := Lib.hid hk; have HCM := Lib.hid hcm; have HRS := Lib.hid hrs; have HO := Lib.hid ho; have HCO := Lib.hid hco
  have HRI := Lib.hid (right_of hk ho)
  have lb := HB0.out.1; have cb0 := HB0.out.at 0 rfl; have cb1 := HB0.out.at 1 rfl; have cb2 := HB0.out.at 2 rfl; have cb3 := HB0.out.at 3 rfl
  clear hB hs hk hcm hrs ho hco
  go_enter Try.func74, Try.ntmps74
  go_wp2_with fail
  refine (specSF_any h ac bu a n c f 0 _ HS.out hcn HCM.out HK.out).mono ?_
  rintro e w1 ⟨rfl, hb⟩
  have HB1 := Lib.hid hb
  clear hb cb0 cb1 cb2 cb3 lb
  go_wp2_with fail
  refine (l3Objs_any b h ac bu a n c f L _ (HB0.out.below HB1.out) (HS.out.below HB1.out) hcn HCM.out HO.out).mono ?_
  rintro e w2 ⟨hb, v, M, hL, rfl, hm⟩
  have HB2 := Lib.hid (thru0 HB1.out hb)
  have z1 := HB1.out.size
  have HM := Lib.hid (hm.lo z1 z1)
  have HL := Lib.hid hL
  clear hb hm hL HB1 z1
  go_wp2
  go_loop [10] (fun q => ∃ i : Nat, i ≤ roots.length ∧ q = .int .i64 (i : Int) ∧ Hid (∀ j, j < i → lf roots j ∈ placesO L)) (fun q => roots.length - (intOf q).toNat)
  case atStart => exact ⟨0, by omega, rfl, Lib.hid (fun j hj => by omega)⟩
  case round =>
    obtain ⟨i, hi, rfl, HD⟩ := hrel
    by_cases hlt : i < roots.length
    · have hlt' : (i : Int) < (roots.length : Int) := by omega
      have hi0 : (0 : Int) ≤ (i : Int) := by omega
      obtain ⟨rb, ro, rfl, hrb, hrc⟩ := src_some (HRS.out.below HB2.out) (by omega)
      have c0 := hrc i hlt
      obtain ⟨y, hy⟩ : ∃ y, lf roots i = y := ⟨_, rfl⟩
      have HME := Lib.hid (lf_mem hlt)
      have HY := Lib.hid hy
      rw [hy] at c0 HME
      clear hrc hy
      go_wp2_with fail
      refine (HM.out.find y).mono ?_
      rintro e w' ⟨rfl, hf⟩
      rcases hf with ⟨hf, rfl⟩ | ⟨j, x, hf, hx, rfl⟩
      · have hn : y ∉ placesO L := fun hp => by
          obtain ⟨z, hz⟩ := mem_placesO.1 hp
          rw [HL.out, hf] at hz; cases hz
        have hc4 : co = 4 := by
          rcases HCO.out with ⟨_, h4⟩ | ⟨hq, _⟩
          · exact h4
          · exact absurd (hq y HME.out) hn
        subst hc4
        clear hf hn
        go_wp2
        exact bodyPost_ret (v := .tuple #[.slice none 0 0, .slice none 0 0, .int .i64 4]) (by simp [results, Try.results74, go_sem]) rfl ⟨HB2.out, .inl ⟨by decide, rfl⟩⟩
      · have HP : Hid (y ∈ placesO L) := Lib.hid (mem_placesO.2 ⟨x, by rw [HL.out]; exact hf⟩)
        have hj0 : ¬ (j : Int) < 0 := by omega
        clear hf hx
        go_wp2
        go_round
        case rel => first | exact ⟨i + 1, by omega, by go_num, Lib.hid (fun j hj => by rcases Nat.lt_succ_iff_lt_or_eq.mp hj with h1 | h1; exact HD.out j h1; subst h1; rw [HY.out]; exact HP.out)⟩ | ((repeat apply Exists.intro); exact ⟨⟨i + 1, by omega, by go_num, Lib.hid (fun j hj => by rcases Nat.lt_succ_iff_lt_or_eq.mp hj with h1 | h1; exact HD.out j h1; subst h1; rw [HY.out]; exact HP.out)⟩, rfl⟩)
        case measure => simp [intOf]; omega
    · have hlt' : ¬ (i : Int) < (roots.length : Int) := by omega
      have hall : ∀ p ∈ roots, p ∈ placesO L := fun p hp => by
        obtain ⟨j, hj, rfl⟩ := List.getElem_of_mem hp
        rw [← lf_at hj]; exact HD.out j (by omega)
      have hc0 : co = 0 := by
        rcases HCO.out with ⟨⟨p, hp, hq⟩, _⟩ | ⟨_, h0⟩
        · exact absurd (hall p hp) hq
        · exact h0
      subst hc0
      have HALL := Lib.hid hall
      clear hall
      go_wp2_with fail
      refine (l4Reach_any v M w.heap.size w.heap.size ra roots rc f _ HM.out (by rw [← HL.out]; exact HRI.out.points) (HRS.out.below HB2.out) (by omega) (by rw [← HL.out]; exact HALL.out)).mono ?_
      rintro e w3 ⟨a3, c3, rfl, ho3, hb, h31, h32, h33⟩
      have HB3 := Lib.hid (thru0 HB2.out hb)
      have HM3 := Lib.hid (HM.out.below hb)
      have HO3 := Lib.hid (ho3.mono HB2.out.size)
      have HQ3 := Lib.hid (show (reachO f (M.map OM.x) roots).length ≤ c3 ∧ c3 ≤ maxLen from ⟨h31, h32⟩)
      clear hb ho3 h31 h32 h33
      go_wp2
      exact bodyPost_ret (v := .tuple #[v, .slice a3 (reachO f (M.map OM.x) roots).length c3, .int .i64 0]) (by simp [results, Try.results74, go_sem]) rfl ⟨HB3.out, .inr ⟨rfl, v, M, a3, c3, HL.out, by rw [HL.out], HM3.out, by rw [HL.out]; exact HO3.out, by rw [HL.out]; exact HQ3.out⟩⟩

theorem l4Ask_any (b : Nat) (h ac bu : Int) (a : Option Addr) (n c : Nat) (f : Nat → Int) (ra : Option Addr) (roots : List Int) (rc : Nat) (co : Int) (L : List Ob) (w : World) (hB : Blk w b [.int .i64 h, .slice a n c, .int .i64 ac, .int .i64 bu]) (hs : Src w a n f) (hcn : n ≤ c) (hcm : c ≤ maxLen) (hrs : Src w ra roots.length (lf roots)) (hk : IsAsk h n f ac bu roots co L) :
    Calls Try.prog 74 #[.pointer (some ⟨b, 0, none⟩), .slice ra roots.length rc] w (RetAsk w f roots co L) := by
  rcases hk with ⟨h1, h2⟩ | ⟨h1, h2, rfl⟩ | ⟨h1, h2, h3, h4, rfl⟩ | ⟨h1, h2, h3, h4, rfl⟩
  · exact l4Ask_code b h ac bu a n c f ra roots rc co L w hB hs hcn hcm h1 h2
  · exact l4Ask_many b h ac bu a n c f ra roots rc L w hB hs hcn hcm h1 h2
  · exact l4Ask_rest b h ac bu a n c f ra roots rc 4 L w hB hs hcn hcm hrs h1 h2 h3 (.inl ⟨h4, rfl⟩)
  · exact l4Ask_rest b h ac bu a n c f ra roots rc 0 L w hB hs hcn hcm hrs h1 h2 h3 (.inr ⟨h4, rfl⟩)
end Go.Proofs.Ytihbenbfnpiikaa

namespace Go.Proofs.Ytihbenbfnpiikaa
open Go.RowKit
set_option linter.unusedVariables false

def outR (f : Nat → Int) (L : List Ob) (roots : List Int) (co : Int) : List Int := if co = 0 then reachO f L roots else []

def outG (f : Nat → Int) (L : List Ob) (roots : List Int) (co : Int) : List Int := if co = 0 then (placesO L).filter (fun p => decide (p ∉ reachO f L roots)) else []

theorem outR_zero (f : Nat → Int) (L : List Ob) (roots : List Int) : outR f L roots 0 = reachO f L roots := rfl

theorem outR_no (f : Nat → Int) (L : List Ob) (roots : List Int) {co : Int} (h : ¬ co = 0) : outR f L roots co = [] := if_neg h

theorem outG_no (f : Nat → Int) (L : List Ob) (roots : List Int) {co : Int} (h : ¬ co = 0) : outG f L roots co = [] := if_neg h

set_option maxRecDepth 100000 in
set_option maxHeartbeats 400000 in
theorem l2Words_at (b off : Nat) (s : Int) (w : World) (c0 : w.cell? ⟨b, off, none⟩ = some (.int .i64 s)) (h0 : 0 ≤ s ∧ s ≤ 12) :
    Calls Try.prog 193 #[.pointer (some ⟨b, off, none⟩)] w fun e w' => e = .returned (.int .i64 (s + 2)) ∧ w = w' := by
  obtain ⟨h1, h2⟩ := h0
  go_enter Try.func193, Try.ntmps193
  go_wp2
  go_ret
  exact ⟨rfl, rfl⟩
end Go.Proofs.Ytihbenbfnpiikaa

namespace Go.Proofs.Ytihbenbfnpiikaa
open Go.RowKit
set_option linter.unusedVariables false

theorem own_of_row' {w : World} {B e : Nat} {v : Value} {l : List Int} (h : w.ownsRow B e 1 v l.length (nums l.length (lf l))) : ∃ a c, v = .slice a l.length c ∧ Own w B a l.length (lf l) := by
  obtain ⟨a, c, rfl, _⟩ := row_shape h
  exact ⟨a, c, rfl, own_of_row h⟩
end Go.Proofs.Ytihbenbfnpiikaa

namespace Go.Proofs.Ytihbenbfnpiikaa
open Go.RowKit Go.Maps
set_option linter.unusedVariables false

theorem Try.underlyingMap : Try.prog.underlying 91 = some (.map 2 2) := by kernel_rfl

theorem Try.underlyingI : Try.prog.underlying 2 = some (.int .i64) := by kernel_rfl

theorem keyI : Keyed Try.prog 2 := int_keyed Try.underlyingI

theorem zeroI (w : World) : (zeroValue 2).run Try.prog w = .ok (.int .i64 0) w := by kernel_rfl

theorem wfI {p : Int} (h : -1000000000 ≤ p ∧ p ≤ 1000000000) : (Lit.int .i64 p).wf = true := WalkArith.wf_i64 (by omega)

/-- A block is a map in which the i-th of a list has the i-th value, and nothing else is there. -/
def MapT (w : World) (b n : Nat) (R : List Int) (v : Nat → Int) : Prop :=
  ∃ D : DataW Unit, w.ownsMap Try.prog 2 (plainElem Try.prog 2) b n D ∧ ∀ p, (Lit.int .i64 p).wf = true → Maps.has D (.int .i64 p) = decide (p ∈ R) ∧ D.atKey (.int .i64 p) (.lit (.int .i64 0)) = .lit (.int .i64 ((tab R v p).getD 0))

section

variable {w : World} {b n : Nat} {R : List Int} {v : Nat → Int} {p : Int}

theorem MapT.lt (h : MapT w b n R v) : b < w.heap.size := by obtain ⟨D, h1, _⟩ := h; exact h1.lt

theorem MapT.block {w' : World} (h : MapT w b n R v) (hb : w'.heap[b]? = w.heap[b]?) : MapT w' b n R v := by
  obtain ⟨D, ⟨es, clock, h1, h2⟩, h3⟩ := h
  exact ⟨D, ⟨es, clock, hb.trans h1, h2⟩, h3⟩

theorem MapT.below {w' : World} (h : MapT w b n R v) (hb : Below w.heap.size w w') : MapT w' b n R v := h.block (hb.block b h.lt)

theorem MapT.alloc (h : MapT w b n R v) (o : Obj) : MapT (w.alloc o) b n R v := h.below ((Below.refl _ _).alloc (Nat.le_refl _) o)

theorem MapT.drew (h : MapT w b n R v) : MapT w.drew b n R v := h.below (Below.refl _ _).drew

theorem MapT.drewN (h : MapT w b n R v) (q : Nat) : MapT (w.drewN q) b n R v := h.below (drewN_below w q)

theorem MapT.grown {w' : World} {row : Option Nat} (h : MapT w b n R v) (hg : w.grownBy w' row) (hne : row ≠ some b) : MapT w' b n R v := h.block (hg.block b h.lt (fun e => hne e.symm))

theorem MapT.set (h : MapT w b n R v) {p : Addr} (hp : b ≠ p.block) (u : Value) : MapT (w.setCell p u) b n R v := h.block (Below.heap_setCell _ _ _ b hp)

theorem MapT.made (w : World) (v : Nat → Int) : MapT (w.alloc (.map #[] 0)) w.heap.size 0 [] v := ⟨.map [], World.ownsMap_made _ _ _ _, fun p _ => ⟨by simp [Maps.has_eq], by simp [tab_nil]; rfl⟩⟩

theorem MapT.look_ok (h : MapT w b n R v) (hp : -1000000000 ≤ p ∧ p ≤ 1000000000) : (Instr.lookup 91 (.map (some b)) (.int .i64 p) true).run Try.prog w = .ok (.tuple #[.int .i64 ((tab R v p).getD 0), .bool (decide (p ∈ R))]) w := by
  obtain ⟨D, h1, h2⟩ := h
  obtain ⟨x, ps, hr, hx⟩ := h1.look_ok keyI Try.underlyingMap (zeroI w) (plainElem_int Try.underlyingI (wfI (p := 0) (by omega))) (keyOf_int_mk Try.underlyingI (wfI hp))
  obtain ⟨h3, h4⟩ := h2 p (wfI hp)
  rw [h4] at hx
  obtain ⟨c, rfl, hc, _⟩ := plainElem_int_inv Try.underlyingI hx
  have : (tab R v p).getD 0 = c := by simpa using congrArg Prod.fst hc
  rw [hr, h3, this]

theorem MapT.look (h : MapT w b n R v) (hp : -1000000000 ≤ p ∧ p ≤ 1000000000) : (Instr.lookup 91 (.map (some b)) (.int .i64 p) false).run Try.prog w = .ok (.int .i64 ((tab R v p).getD 0)) w := by
  obtain ⟨D, h1, h2⟩ := h
  obtain ⟨c, hr, hc, _⟩ := h1.lookup_int keyI Try.underlyingMap Try.underlyingI (zeroI w) (keyOf_int_mk Try.underlyingI (wfI hp))
  obtain ⟨h3, h4⟩ := h2 p (wfI hp)
  rw [h4] at hc
  have : (tab R v p).getD 0 = c := by simpa using hc
  rw [hr, this]

theorem MapT.update (h : MapT w b n R v) (hn : n < maxLen) (hp : -1000000000 ≤ p ∧ p ≤ 1000000000) (hv : -1000000000 ≤ v R.length ∧ v R.length ≤ 1000000000) (hq : p ∉ R) : ∃ w', (Instr.mapUpdate 91 (.map (some b)) (.int .i64 p) (.int .i64 (v R.length))).run Try.prog w = .ok () w' ∧ MapT w' b (n + 1) (R ++ [p]) v ∧ w.grownBy w' (some b) := by
  obtain ⟨D, h1, h2⟩ := h
  obtain ⟨w', hr, h3, h4⟩ := h1.update keyI Try.underlyingMap hn (keyOf_int_mk Try.underlyingI (wfI hp)) (plainElem_int Try.underlyingI (wfI hv))
  refine ⟨w', hr, ⟨_, h3, fun q hwq => ?_⟩, h4⟩
  have hk : WideAt.IsKeyLit (Lit.int .i64 p) := by trivial
  by_cases e : q = p
  · subst e
    refine ⟨by rw [Maps.has_put_same h1.isMap hk]; simp, ?_⟩
    rw [Maps.atKey_put_same h1.isMap hk, tab_snoc hq, if_pos rfl]; rfl
  · have hne : Lit.int .i64 q ≠ Lit.int .i64 p := fun h => e (by simpa using h)
    refine ⟨by rw [Maps.has_put_other hne, (h2 q hwq).1]; simp [e], ?_⟩
    rw [Maps.atKey_put_other hne, (h2 q hwq).2, tab_snoc hq, if_neg e]

end

/-- A row of objects is read. -/
theorem rowG_GV {w : World} {base : Nat} {v : Value} {M : List GM} (h : w.ownsRow base 103 6 v M.length (rowG M)) (hf : ∀ t ∈ M, Src w t.a t.n t.f) : ∃ a c, v = .slice a M.length c ∧ GV w a M.length (gT M) := by
  rcases Nat.eq_zero_or_pos M.length with h0 | hp
  · rcases h.2 with ⟨h1, h2⟩ | ⟨g, cap, cur, h1, _⟩
    · exact ⟨none, 0, by rw [h1, h2], .inl h0⟩
    · exact ⟨_, _, h1, .inl h0⟩
  · obtain ⟨g, cap, rfl, hb, hlt⟩ := h.form hp
    have hce : ∀ i t, M[i]? = some t → ∀ j u, (gcells t)[j]? = some u → w.cell? ⟨g, i * 6 + j, none⟩ = some u := fun i t ht j u hu => by
      have hi : i < M.length := (List.getElem?_eq_some_iff.mp ht).1
      have hj : j < 6 := by
        have := (List.getElem?_eq_some_iff.mp hu).1
        simpa [gcells] using this
      have hc := h.cellAt (i * 6 + j) (by omega)
      rw [rowG_get M i t ht j hj, hu] at hc
      simpa using hc
    refine ⟨_, _, rfl, .inr ⟨g, 0, rfl, hlt, fun i hi => ?_, fun i hi => ?_⟩⟩
    · have ht := List.getElem?_eq_getElem hi
      rw [gT_at ht, Nat.zero_add]
      exact ⟨hce i _ ht 0 _ rfl, hce i _ ht 1 _ rfl, hce i _ ht 2 _ rfl, hce i _ ht 3 _ rfl, hce i _ ht 4 _ rfl, hce i _ ht 5 _ rfl⟩
    · rw [gT_at (List.getElem?_eq_getElem hi)]
      exact hf _ (List.getElem_mem hi)
end Go.Proofs.Ytihbenbfnpiikaa

namespace Go.Proofs.Ytihbenbfnpiikaa
open Go.RowKit Go.Maps
set_option linter.unusedVariables false

/-- Where a field of an object leads, in the program's words. -/
def tgtV (t : GM) (k : Nat) : Option Int := if t.m / P2 (k : Int) % 2 = 1 ∧ ¬ t.f k = 0 then some (t.f k - 1) else none

def RetTgt (W : World) (r : Option Int) (e : Ending) (w' : World) : Prop := Below W.heap.size W w' ∧ e = .returned (.tuple #[.int .i64 (r.getD 0), .bool r.isSome])

theorem mid5 {w : World} {b : Nat} {v0 v1 v2 v3 v4 v5 u : Value} {p : Addr} (h : Blk w b [v0, v1, v2, v3, v4, v5]) (hp : w.cell? p = some u) : w.cell? ⟨b, 1, none⟩ = some v1 ∧ w.cell? ⟨b, 2, none⟩ = some v2 ∧ w.cell? ⟨b, 3, none⟩ = some v3 ∧ w.cell? ⟨b, 4, none⟩ = some v4 ∧ w.cell? ⟨b, 5, none⟩ = some v5 ∧ w.cell? p = some u := ⟨h.at 1 rfl, h.at 2 rfl, h.at 3 rfl, h.at 4 rfl, h.at 5 rfl, hp⟩

set_option maxRecDepth 100000 in
set_option maxHeartbeats 3200000 in
theorem target_any (t : GM) (k : Nat) (w : World) (hs : Src w t.a t.n t.f) (hk : k < t.n) (hok : HOk t.s t.m t.o t.h) (htn : t.n = t.s.toNat) (hwd : -1000000000 ≤ t.f k ∧ t.f k ≤ 1000000000) :
    Calls Try.prog 187 #[.agg #[.int .i64 t.at_, .int .i64 t.s, .int .i64 t.m, .int .i64 t.o, .int .i64 t.h, .slice t.a t.n t.c], .int .i64 (k : Int)] w (RetTgt w (tgtV t k)) := by
  have ht12 : t.n ≤ 12 := by have := hok.1; omega
  have hst : t.s = (t.n : Int) := by have := hok.1; omega
  obtain ⟨tb, tf, hta, ltb, hck⟩ : ∃ tb tf, t.a = some ⟨tb, tf, none⟩ ∧ tb < w.heap.size ∧ w.cell? ⟨tb, tf + k, none⟩ = some (.int .i64 (t.f k)) := by
    rcases hs with h0 | ⟨tb, tf, h1, h2, h3⟩
    · omega
    · exact ⟨tb, tf, h1, h2, h3 k hk⟩
  obtain ⟨hw1, hw2⟩ := hwd
  have hk' : (k : Int) < (t.n : Int) := by omega
  have hk0 : (0 : Int) ≤ (k : Int) := by omega
  have hkI : (0 : Int) ≤ (k : Int) ∧ (k : Int) ≤ t.s - 1 := by omega
  have HIP : Hid (∃ r, IsIP t.s t.m t.o t.h (k : Int) r ∧ r = (t.m / P2 (k : Int) % 2 == 1)) := Lib.hid ⟨_, .inl ⟨⟨hok, hkI⟩, rfl⟩, rfl⟩
  obtain ⟨r, hip, hr⟩ := HIP.out
  have HI := Lib.hid hip; have HR := Lib.hid hr
  obtain ⟨y, hy⟩ : ∃ y, t.f k = y := ⟨_, rfl⟩
  have HY := Lib.hid hy
  rw [hy] at hck hw1 hw2
  rw [hta]
  have ha1 : ∀ (v : Int) (w : World), (Instr.typeAssert (fieldV true v) 248 238 true).run Try.prog w = .ok (.tuple #[.int .i64 v, .bool true]) w := fun v w => as_ptr _ w
  have ha2 : ∀ (v : Int) (w : World), (Instr.typeAssert (fieldV false v) 248 238 true).run Try.prog w = .ok (.tuple #[.int .i64 0, .bool false]) w := fun v w => as_plain _ w
  have X0 := Lib.hid (Blk.new_at (w := w) (cs := #[.int .i64 t.at_, .int .i64 t.s, .int .i64 t.m, .int .i64 t.o, .int .i64 t.h, .slice (some ⟨tb, tf, none⟩) t.n t.c]) (t := 103) w.heap.size rfl)
  have HB0 := Lib.hid ((Below.refl w.heap.size w).alloc (Nat.le_refl _) (.cells #[.int .i64 t.at_, .int .i64 t.s, .int .i64 t.m, .int .i64 t.o, .int .i64 t.h, .slice (some ⟨tb, tf, none⟩) t.n t.c] 103))
  have c0 := HB0.out.cell (p := ⟨tb, tf + k, none⟩) ltb
  rw [hck] at c0
  clear hip hr hs hok hta hck hkI HIP hy htn hst
  go_enter Try.func187, Try.ntmps187
  go_wp2_with fail
  have Xd := Lib.hid X0.out.drew
  have zz : w.heap.size + 1 ≤ (w.alloc (.cells #[.int .i64 t.at_, .int .i64 t.s, .int .i64 t.m, .int .i64 t.o, .int .i64 t.h, .slice (some ⟨tb, tf, none⟩) t.n t.c] 103)).heap.size := by simp
  have lt0 : tb < (w.alloc (.cells #[.int .i64 t.at_, .int .i64 t.s, .int .i64 t.m, .int .i64 t.o, .int .i64 t.h, .slice (some ⟨tb, tf, none⟩) t.n t.c] 103)).heap.size := by omega
  generalize w.alloc (.cells #[.int .i64 t.at_, .int .i64 t.s, .int .i64 t.m, .int .i64 t.o, .int .i64 t.h, .slice (some ⟨tb, tf, none⟩) t.n t.c] 103) = w0 at *
  have cd : w0.drew.cell? ⟨tb, tf + k, none⟩ = some (.int .i64 y) := by simpa using c0
  have ltd : tb < w0.drew.heap.size := by simpa using lt0
  cases r with
  | true =>
    have hd : t.m / P2 (k : Int) % 2 = 1 := by have := HR.out; simpa using this.symm
    go_region_held3 (fun w' => w'.cell? ⟨w.heap.size, 1, none⟩ = some (.int .i64 t.s) ∧ w'.cell? ⟨w.heap.size, 2, none⟩ = some (.int .i64 t.m) ∧ w'.cell? ⟨w.heap.size, 3, none⟩ = some (.int .i64 t.o) ∧ w'.cell? ⟨w.heap.size, 4, none⟩ = some (.int .i64 t.h) ∧ w'.cell? ⟨w.heap.size, 5, none⟩ = some (.slice (some ⟨tb, tf, none⟩) t.n t.c) ∧ w'.cell? ⟨tb, tf + k, none⟩ = some (.int .i64 y))
      (first | (with_reducible exact mid5 X0.out c0) | (with_reducible exact mid5 Xd.out cd) | (with_reducible exact mid5 X2.out c2))
      (first | (go_at_call 197; (refine (fieldOf_any t.s t.m t.o t.h (k : Int) y true _ HI.out).mono ?_; rintro e w2 ⟨rfl, hb⟩; have HB2 := Lib.hid ((HB0.out.drew).trans (hb.mono (by simp; omega))); have X2 := Lib.hid (Xd.out.below hb); have c2 := (hb.cell (p := ⟨tb, tf + k, none⟩) ltd).trans cd; clear hb)))
    by_cases h0 : y = 0
    · have HT : Hid (tgtV t k = none) := Lib.hid (by unfold tgtV; rw [HY.out, if_neg (fun h => h.2 h0)])
      subst h0
      go_wp2
      refine bodyPost_ret (v := .tuple #[.int .i64 0, .bool false]) (by simp [results, Try.results187, go_sem]) rfl ?_
      rw [HT.out]
      exact ⟨HB2.out, rfl⟩
    · have HT : Hid (tgtV t k = some (y - 1)) := Lib.hid (by unfold tgtV; rw [HY.out, if_pos ⟨hd, h0⟩])
      have h0' : (y == 0) = false := by simpa using h0
      clear hd
      go_wp2_with fail
      refine (place_any y _ hw1 hw2).mono ?_
      rintro e w3 ⟨rfl, hb⟩
      have HB3 := Lib.hid (HB2.out.trans (hb.mono HB2.out.size))
      clear hb
      go_wp2
      refine bodyPost_ret (v := .tuple #[.int .i64 (y - 1), .bool true]) (by simp [results, Try.results187, go_sem]) rfl ?_
      rw [HT.out]
      exact ⟨HB3.out, rfl⟩
  | false =>
    have hd : ¬ t.m / P2 (k : Int) % 2 = 1 := by have := HR.out; simpa using this.symm
    have HT : Hid (tgtV t k = none) := Lib.hid (by unfold tgtV; rw [if_neg (fun h => hd h.1)])
    clear hd
    go_region_held3 (fun w' => w'.cell? ⟨w.heap.size, 1, none⟩ = some (.int .i64 t.s) ∧ w'.cell? ⟨w.heap.size, 2, none⟩ = some (.int .i64 t.m) ∧ w'.cell? ⟨w.heap.size, 3, none⟩ = some (.int .i64 t.o) ∧ w'.cell? ⟨w.heap.size, 4, none⟩ = some (.int .i64 t.h) ∧ w'.cell? ⟨w.heap.size, 5, none⟩ = some (.slice (some ⟨tb, tf, none⟩) t.n t.c) ∧ w'.cell? ⟨tb, tf + k, none⟩ = some (.int .i64 y))
      (first | (with_reducible exact mid5 X0.out c0) | (with_reducible exact mid5 Xd.out cd) | (with_reducible exact mid5 X2.out c2))
      (first | (go_at_call 197; (refine (fieldOf_any t.s t.m t.o t.h (k : Int) y false _ HI.out).mono ?_; rintro e w2 ⟨rfl, hb⟩; have HB2 := Lib.hid ((HB0.out.drew).trans (hb.mono (by simp; omega))); have X2 := Lib.hid (Xd.out.below hb); have c2 := (hb.cell (p := ⟨tb, tf + k, none⟩) ltd).trans cd; clear hb)))
    go_wp2
    refine bodyPost_ret (v := .tuple #[.int .i64 0, .bool false]) (by simp [results, Try.results187, go_sem]) rfl ?_
    rw [HT.out]
    exact ⟨HB2.out, rfl⟩
end Go.Proofs.Ytihbenbfnpiikaa

namespace Go.Proofs.Ytihbenbfnpiikaa
open Go.RowKit Go.Maps
set_option linter.unusedVariables false

theorem Try.infoOb9 : (Try.prog.info? 103).map (fun i => (i.zero, i.size, i.bytes)) = some (some (.agg #[.int .i64 0, .int .i64 0, .int .i64 0, .int .i64 0, .int .i64 0, .slice none 0 0]), 6, 64) := by kernel_rfl

/-- What is reached so far, as the program has it: in the block rb, with the map mb and the row v. -/
structure RS (w : World) (base rb mb : Nat) (v : Value) (M : List GM) (f : Nat → Int) (L : List Ob) (O : List Int) : Prop where
  blk : Blk w rb [.int .i64 0, v, .map (some mb)]
  hrb : base ≤ rb
  hmb : base ≤ mb
  hne : mb ≠ rb
  vr : v.ownBlock ≠ some rb
  vm : v.ownBlock ≠ some mb
  row : w.ownsRow base 103 6 v M.length (rowG M)
  map : MapT w mb O.length O (fun i => (i : Int))
  len : M.length = O.length
  src : ∀ t ∈ M, Src w t.a t.n t.f ∧ (t.n = 0 ∨ t.g + 1 < base)
  same : ∀ i t, M[i]? = some t → ∃ x, findO L (lf O i) = some x ∧ GSame t (obG f x)

section

variable {w w' : World} {base rb mb : Nat} {v : Value} {M : List GM} {f : Nat → Int} {L : List Ob} {O : List Int}

theorem RS.below (h : RS w base rb mb v M f L O) (hb : Below w.heap.size w w') : RS w' base rb mb v M f L O :=
  ⟨h.blk.below hb, h.hrb, h.hmb, h.hne, h.vr, h.vm, ownsRow_below h.row hb, h.map.below hb, h.len, fun t ht => ⟨(h.src t ht).1.below hb, (h.src t ht).2⟩, h.same⟩

theorem src_far {base : Nat} {t : GM} (h : Src w t.a t.n t.f) (hg : t.n = 0 ∨ t.g + 1 < base) (hb : Below base w w') (hz : w.heap.size ≤ w'.heap.size) : Src w' t.a t.n t.f := by
  rcases h with h0 | ⟨b, o, e1, h2, h3⟩
  · exact .inl h0
  · rcases hg with h0 | hg
    · exact .inl h0
    · have hg' : b < base := by have : t.g = b := (by simp [GM.g, e1]); omega
      exact .inr ⟨b, o, e1, by omega, fun i hi => (World.cell?_of_block (w := w) (a := ⟨b, o + i, none⟩) (hb.block b hg')).trans (h3 i hi)⟩

theorem RS.set (h : RS w base rb mb v M f L O) {p : Addr} (hp : p.block + 1 = base) (u : Value) : RS (w.setCell p u) base rb mb v M f L O := by
  have h1 := h.hrb; have h2 := h.hmb
  refine ⟨h.blk.other (by omega) _, h.hrb, h.hmb, h.hne, h.vr, h.vm, row_set h.row (by omega) _, h.map.set (by omega) _, h.len, fun t ht => ⟨?_, (h.src t ht).2⟩, h.same⟩
  obtain ⟨h3, h4⟩ := h.src t ht
  rcases h3 with h0 | ⟨b, o, e1, h5, h6⟩
  · exact .inl h0
  · rcases h4 with h0 | h4
    · exact .inl h0
    · have : t.g = b := (by simp [GM.g, e1])
      exact .inr ⟨b, o, e1, by simpa using h5, fun i hi => (World.cell?_of_block (w := w) (a := ⟨b, o + i, none⟩) (Below.heap_setCell _ _ _ b (by omega))).trans (h6 i hi)⟩

theorem RS.out (h : RS w base rb mb v M f L O) : ∃ a c, v = .slice a M.length c ∧ GV w a M.length (gT M) := rowG_GV h.row (fun t ht => (h.src t ht).1)

end

set_option maxRecDepth 100000 in
set_option maxHeartbeats 1600000 in
theorem add_old (base rb mb : Nat) (v : Value) (M : List GM) (f : Nat → Int) (L : List Ob) (O : List Int) (t : GM) (w : World) (h : RS w base rb mb v M f L O) (hp : -1000000000 ≤ t.at_ ∧ t.at_ ≤ 1000000000) (hin : t.at_ ∈ O) (hz : base ≤ w.heap.size) :
    Calls Try.prog 186 #[.pointer (some ⟨rb, 0, none⟩), .agg #[.int .i64 t.at_, .int .i64 t.s, .int .i64 t.m, .int .i64 t.o, .int .i64 t.h, .slice t.a t.n t.c]] w fun e w' => e = .returned (.tuple #[]) ∧ Below base w w' ∧ w.heap.size ≤ w'.heap.size ∧ RS w' base rb mb v M f L O := by
  have H := Lib.hid h
  have hd : decide (t.at_ ∈ O) = true := decide_eq_true hin
  have X0 := Lib.hid (Blk.new_at (w := w) (cs := #[.int .i64 t.at_, .int .i64 t.s, .int .i64 t.m, .int .i64 t.o, .int .i64 t.h, .slice t.a t.n t.c]) (t := 103) w.heap.size rfl)
  have B0 := Lib.hid (h.blk.alloc (.cells #[.int .i64 t.at_, .int .i64 t.s, .int .i64 t.m, .int .i64 t.o, .int .i64 t.h, .slice t.a t.n t.c] 103))
  have HB0 := Lib.hid ((Below.refl w.heap.size w).alloc (Nat.le_refl _) (.cells #[.int .i64 t.at_, .int .i64 t.s, .int .i64 t.m, .int .i64 t.o, .int .i64 t.h, .slice t.a t.n t.c] 103))
  have hlk := fun q => ((h.map.alloc (.cells #[.int .i64 t.at_, .int .i64 t.s, .int .i64 t.m, .int .i64 t.o, .int .i64 t.h, .slice t.a t.n t.c] 103)).drewN q).look_ok hp
  rw [hd] at hlk
  clear h
  go_enter Try.func186, Try.ntmps186
  go_wp2_with fail
  have zz : w.heap.size + 1 ≤ (w.alloc (.cells #[.int .i64 t.at_, .int .i64 t.s, .int .i64 t.m, .int .i64 t.o, .int .i64 t.h, .slice t.a t.n t.c] 103)).heap.size := by simp
  generalize w.alloc (.cells #[.int .i64 t.at_, .int .i64 t.s, .int .i64 t.m, .int .i64 t.o, .int .i64 t.h, .slice t.a t.n t.c] 103) = w0 at *
  have lX := X0.out.1; have cX0 := X0.out.at 0 rfl; have cX1 := X0.out.at 1 rfl; have cX2 := X0.out.at 2 rfl; have cX3 := X0.out.at 3 rfl; have cX4 := X0.out.at 4 rfl; have cX5 := X0.out.at 5 rfl
  have lB := B0.out.1; have cB0 := B0.out.at 0 rfl; have cB1 := B0.out.at 1 rfl; have cB2 := B0.out.at 2 rfl
  go_quiet (fail)
  clear hlk
  go_wp2
  refine bodyPost_ret (v := .tuple #[]) (by simp [results, Try.results186, go_sem]) rfl ?_
  have hb := below_drewN HB0.out
  exact ⟨rfl, (hb _).mono hz, (hb _).size, H.out.below (hb _)⟩
end Go.Proofs.Ytihbenbfnpiikaa

namespace Go.Proofs.Ytihbenbfnpiikaa
open Go.RowKit Go.Maps
set_option linter.unusedVariables false

theorem rowG_val {w : World} {base : Nat} {v : Value} {M : List GM} (h : w.ownsRow base 103 6 v M.length (rowG M)) : ∃ a c, v = .slice a M.length c := by
  rcases h.2 with ⟨e1, e2⟩ | ⟨g, cap, cur, e1, _⟩
  · exact ⟨none, 0, by rw [e1, e2]⟩
  · exact ⟨_, _, e1⟩

theorem obj_one (t : GM) : ∀ u ∈ gcells t, u.oneCell' = true := by
  intro u hu
  simp [gcells] at hu
  rcases hu with rfl | rfl | rfl | rfl | rfl | rfl <;> rfl

set_option maxRecDepth 100000 in
set_option maxHeartbeats 3200000 in
theorem add_new (base rb mb : Nat) (v : Value) (M : List GM) (f : Nat → Int) (L : List Ob) (O : List Int) (t : GM) (x : Ob) (w : World) (h : RS w base rb mb v M f L O) (hp : -1000000000 ≤ t.at_ ∧ t.at_ ≤ 1000000000) (hin : t.at_ ∉ O) (hz : base ≤ w.heap.size) (hx : findO L t.at_ = some x) (hsm : GSame t (obG f x)) (hsr : Src w t.a t.n t.f) (hfar : t.n = 0 ∨ t.g + 1 < base) (hl : O.length ≤ 400) :
    Calls Try.prog 186 #[.pointer (some ⟨rb, 0, none⟩), .agg #[.int .i64 t.at_, .int .i64 t.s, .int .i64 t.m, .int .i64 t.o, .int .i64 t.h, .slice t.a t.n t.c]] w fun e w' => e = .returned (.tuple #[]) ∧ Below base w w' ∧ w.heap.size ≤ w'.heap.size ∧ ∃ v', RS w' base rb mb v' (M ++ [t]) f L (O ++ [t.at_]) := by
  have HML := Lib.hid h.len
  have hml4 : M.length ≤ 400 := by rw [h.len]; exact hl
  have H := Lib.hid h; have HX := Lib.hid hx; have HSM := Lib.hid hsm; have HSR := Lib.hid hsr; have HFAR := Lib.hid hfar; have HP := Lib.hid hp; have HIN := Lib.hid hin
  have hd : decide (t.at_ ∈ O) = false := decide_eq_false hin
  have X0 := Lib.hid (Blk.new_at (w := w) (cs := #[.int .i64 t.at_, .int .i64 t.s, .int .i64 t.m, .int .i64 t.o, .int .i64 t.h, .slice t.a t.n t.c]) (t := 103) w.heap.size rfl)
  have B0 := Lib.hid (h.blk.alloc (.cells #[.int .i64 t.at_, .int .i64 t.s, .int .i64 t.m, .int .i64 t.o, .int .i64 t.h, .slice t.a t.n t.c] 103))
  have HB0 := Lib.hid ((Below.refl w.heap.size w).alloc (Nat.le_refl _) (.cells #[.int .i64 t.at_, .int .i64 t.s, .int .i64 t.m, .int .i64 t.o, .int .i64 t.h, .slice t.a t.n t.c] 103))
  have hlk := fun q => ((h.map.alloc (.cells #[.int .i64 t.at_, .int .i64 t.s, .int .i64 t.m, .int .i64 t.o, .int .i64 t.h, .slice t.a t.n t.c] 103)).drewN q).look_ok hp
  rw [hd] at hlk
  have hrbl : rb < w.heap.size := h.blk.1
  have hmbl : mb < w.heap.size := h.map.lt
  have hr1 := h.hrb; have hm1 := h.hmb; have hne := h.hne
  obtain ⟨j0, hif, hj0, hj1, hj2⟩ := info_parts Try.infoOb9
  obtain ⟨av, kv, hv⟩ := rowG_val h.row
  subst hv
  clear h hx hsm hsr hfar hp hin
  go_enter Try.func186, Try.ntmps186
  go_wp2_with fail
  have zz : w.heap.size + 1 = (w.alloc (.cells #[.int .i64 t.at_, .int .i64 t.s, .int .i64 t.m, .int .i64 t.o, .int .i64 t.h, .slice t.a t.n t.c] 103)).heap.size := by simp
  
  generalize w.alloc (.cells #[.int .i64 t.at_, .int .i64 t.s, .int .i64 t.m, .int .i64 t.o, .int .i64 t.h, .slice t.a t.n t.c] 103) = w0 at *
  have lX := X0.out.1; have cX0 := X0.out.at 0 rfl; have cX1 := X0.out.at 1 rfl; have cX2 := X0.out.at 2 rfl; have cX3 := X0.out.at 3 rfl; have cX4 := X0.out.at 4 rfl; have cX5 := X0.out.at 5 rfl
  have lB := B0.out.1; have cB0 := B0.out.at 0 rfl; have cB1 := B0.out.at 1 rfl; have cB2 := B0.out.at 2 rfl
  go_quiet (fail)
  clear hlk
  have M0 := Lib.hid (H.out.map.below (by rw [show w.heap.size = w.heap.size from rfl]; exact HB0.out))
  have HB1 := Lib.hid (below_drewN HB0.out nq)
  have X1 := Lib.hid (X0.out.below (drewN_below w0 nq)); have B1 := Lib.hid (B0.out.below (drewN_below w0 nq)); have M1 := Lib.hid (M0.out.drewN nq)
  have z1 : w.heap.size + 1 = (w0.drewN nq).heap.size := by simpa using zz
  clear lX cX0 cX1 cX2 cX3 cX4 cX5
  clear lB cB0 cB1 cB2
  clear X0 B0 HB0 M0 zz
  generalize w0.drewN nq = w1 at *
  go_wp2_with fail
  have lX := X1.out.1; have cX0 := X1.out.at 0 rfl; have cX1 := X1.out.at 1 rfl; have cX2 := X1.out.at 2 rfl; have cX3 := X1.out.at 3 rfl; have cX4 := X1.out.at 4 rfl; have cX5 := X1.out.at 5 rfl
  have lB := B1.out.1; have cB0 := B1.out.at 0 rfl; have cB1 := B1.out.at 1 rfl; have cB2 := B1.out.at 2 rfl
  go_still_tail 11, (by kernel_rfl)
  change wpList _ _ _ _ _ w1.drew
  clear lX cX0 cX1 cX2 cX3 cX4 cX5
  clear lB cB0 cB1 cB2
  have HB2 := Lib.hid HB1.out.drew; have X2 := Lib.hid X1.out.drew; have B2 := Lib.hid B1.out.drew; have M2 := Lib.hid M1.out.drew
  have z2 : w.heap.size + 1 = w1.drew.heap.size := by simpa using z1
  clear HB1 X1 B1 M1 z1
  generalize w1.drew = w2 at *
  obtain ⟨w3, hr3, hm3, hg3⟩ := M2.out.update (by unfold maxLen; omega) HP.out (by constructor <;> omega) HIN.out
  rw [← HML.out] at hr3
  have HB3 : Hid (Below base w w3) := Lib.hid ((HB2.out.mono hz).grown hg3 (by omega) (fun k hk => by cases hk; exact hm1))
  have hz3 : w.heap.size + 1 ≤ w3.heap.size := by have := hg3.size; omega
  have X3 := Lib.hid (blk_grown X2.out hg3 (by simp; omega))
  have B3 := Lib.hid (blk_grown B2.out hg3 (by simp; omega))
  have M3 := Lib.hid hm3
  have OW3 : Hid (w3.ownsRow base 103 6 (.slice av M.length kv) M.length (rowG M)) := Lib.hid ((ownsRow_below H.out.row HB2.out).kept hg3 (.inr H.out.vm))
  clear X2 B2 M2 HB2 hm3 hg3
  go_wp2_with fail
  clear hr3
  have lX := X3.out.1; have cX0 := X3.out.at 0 rfl; have cX1 := X3.out.at 1 rfl; have cX2 := X3.out.at 2 rfl; have cX3 := X3.out.at 3 rfl; have cX4 := X3.out.at 4 rfl; have cX5 := X3.out.at 5 rfl
  have lB := B3.out.1; have cB0 := B3.out.at 0 rfl; have fB0 := B3.out.free 0 rfl; have cB1 := B3.out.at 1 rfl; have fB1 := B3.out.free 1 rfl; have cB2 := B3.out.at 2 rfl; have fB2 := B3.out.free 2 rfl
  have hnew := cells_new6 w3.drew t
  go_region_law (first | (refine step_append_lies _ rfl (.tmp 32) (.tmp 34) 90 rfl base 103 j0 _ 6 64 Try.underlying90 hif hj0 hj1 hj2 rfl (by decide) (.slice av M.length kv) M.length (rowG M) rfl (OW3.out.drew.alloc _) ⟨w3.drew.heap.size, 0, none⟩ 1 1 (gcells t) rfl rfl hnew (obj_one t) (by omega) (by unfold maxLen; omega) (by omega) (by simp; omega) (w3.heap.size + 1) (by simp) ?_; intro g9 cap9 w9 hown9 hgrow9 hat9 hlt9; have T9 := Lib.hid (blk_grown (B3.out.drew.alloc _) hgrow9 H.out.vr); have l9 := T9.out.1; have d91 := T9.out.at 1 rfl; have e91 := T9.out.free 1 rfl))
  all_goals (
    have HB9 : Hid (Below base w w9) := Lib.hid ((HB3.out.drew.alloc (by simp; omega) _).grown hgrow9 (by simp; omega) (fun k hk => (OW3.out.lt k hk).1))
    have hz9 : w.heap.size ≤ w9.heap.size := (by have := hgrow9.size; simp at this; omega)
    have hg9r : g9 ≠ rb := (by rcases hat9 with he | he; (intro e; exact H.out.vr (by rw [he, e])); omega)
    have hg9m : g9 ≠ mb := (by rcases hat9 with he | he; (intro e; exact H.out.vm (by rw [he, e])); omega)
    have M9 := Lib.hid ((M3.out.drew.alloc (.cells #[.int .i64 t.at_, .int .i64 t.s, .int .i64 t.m, .int .i64 t.o, .int .i64 t.h, .slice t.a t.n t.c] 103)).grown hgrow9 H.out.vm)
    have OW9 := Lib.hid hown9
    clear hown9 hgrow9 hat9 l9 d91 e91 hnew
    clear lX cX0 cX1 cX2 cX3 cX4 cX5
    clear lB cB0 fB0 cB1 fB1 cB2 fB2
    go_wp2
    refine bodyPost_end (v := .tuple #[]) (by simp [results, Try.results186, go_sem]) rfl ?_
    have hbF : Below base w (w9.setCell ⟨rb, 1, none⟩ (.slice (some ⟨g9, 0, none⟩) (M.length + 1) cap9)) := HB9.out.setCell hr1 _
    have hzF : w.heap.size ≤ (w9.setCell ⟨rb, 1, none⟩ (.slice (some ⟨g9, 0, none⟩) (M.length + 1) cap9)).heap.size := (by simpa using hz9)
    refine ⟨rfl, hbF, hzF, .slice (some ⟨g9, 0, none⟩) (M.length + 1) cap9, T9.out.set 1 (by simp) _, hr1, hm1, hne, fun e => hg9r (by simpa [Value.ownBlock] using e), fun e => hg9m (by simpa [Value.ownBlock] using e), ?_, ?_, by rw [List.length_append, List.length_append, HML.out]; rfl, fun u hu => ?_, fun i u hu => ?_⟩
    · rw [rowG_snoc, List.length_append]
      exact ownsRow_setCell_other OW9.out (fun e => hg9r (by simpa [Value.ownBlock] using e)) _
    · rw [List.length_append]
      exact M9.out.set hne _
    · rcases List.mem_append.mp hu with hu | hu
      · exact ⟨src_far (H.out.src u hu).1 (H.out.src u hu).2 hbF hzF, (H.out.src u hu).2⟩
      · simp only [List.mem_singleton] at hu
        subst hu
        exact ⟨src_far HSR.out HFAR.out hbF hzF, HFAR.out⟩
    · rcases Nat.lt_or_ge i M.length with hi | hi
      · rw [List.getElem?_append_left hi] at hu
        obtain ⟨z, h1, h2⟩ := H.out.same i u hu
        exact ⟨z, by rw [lf_left (by rw [← HML.out]; exact hi)]; exact h1, h2⟩
      · have hi' : i = M.length := (by have := (List.getElem?_eq_some_iff.mp hu).1; simp at this; omega)
        subst hi'
        rw [List.getElem?_append_right (Nat.le_refl _), Nat.sub_self] at hu
        have hu' : t = u := (by simpa using hu)
        subst hu'
        exact ⟨x, by rw [HML.out, lf_last]; exact HX.out, HSM.out⟩)

theorem add_any (base rb mb : Nat) (v : Value) (M : List GM) (f : Nat → Int) (L : List Ob) (O : List Int) (t : GM) (x : Ob) (w : World) (h : RS w base rb mb v M f L O) (hp : -1000000000 ≤ t.at_ ∧ t.at_ ≤ 1000000000) (hz : base ≤ w.heap.size) (hx : findO L t.at_ = some x) (hsm : GSame t (obG f x)) (hsr : Src w t.a t.n t.f) (hfar : t.n = 0 ∨ t.g + 1 < base) (hl : O.length ≤ 400) :
    Calls Try.prog 186 #[.pointer (some ⟨rb, 0, none⟩), .agg #[.int .i64 t.at_, .int .i64 t.s, .int .i64 t.m, .int .i64 t.o, .int .i64 t.h, .slice t.a t.n t.c]] w fun e w' => e = .returned (.tuple #[]) ∧ Below base w w' ∧ w.heap.size ≤ w'.heap.size ∧ ∃ v' M', RS w' base rb mb v' M' f L (add1 O t.at_) := by
  by_cases hin : t.at_ ∈ O
  · refine (add_old base rb mb v M f L O t w h hp hin hz).mono ?_
    rintro e w' ⟨h1, h2, h3, h4⟩
    exact ⟨h1, h2, h3, v, M, by rw [add1, if_pos hin]; exact h4⟩
  · refine (add_new base rb mb v M f L O t x w h hp hin hz hx hsm hsr hfar hl).mono ?_
    rintro e w' ⟨h1, h2, h3, v', h4⟩
    exact ⟨h1, h2, h3, v', _, by rw [add1, if_neg hin]; exact h4⟩
end Go.Proofs.Ytihbenbfnpiikaa

namespace Go.Proofs.Ytihbenbfnpiikaa
open Go.RowKit Go.Maps
set_option linter.unusedVariables false

theorem fld_obj7 (v0 v1 v2 v3 v4 v5 v6 : Value) (w : World) : (Instr.field 208 (.agg #[v0, v1, v2, v3, v4, v5, v6]) 1).run Try.prog w = .ok (.agg #[v1, v2, v3, v4, v5, v6]) w := by kernel_rfl

/-- What is known of the objects of an arena without a fault, as the program reads them. -/
structure Shaped (w : World) (a : Option Addr) (T : Nat → GM) (f : Nat → Int) (L : List Ob) : Prop where
  gv : GV w a L.length T
  same : ∀ i, i < L.length → GSame (T i) (obT f L i)
  sort : ∀ i j, i < j → j < L.length → (T i).at_ < (T j).at_
  right : Right f L
  len : L.length ≤ 400
  place : ∀ x ∈ L, 0 ≤ x.at_ ∧ x.at_ ≤ 1000000
  word : ∀ x ∈ L, ∀ k, k < x.s.toNat → -1000000000 ≤ f (x.at_.toNat + 2 + k) ∧ f (x.at_.toNat + 2 + k) ≤ 1000000000

section

variable {w w' : World} {a : Option Addr} {T : Nat → GM} {f : Nat → Int} {L : List Ob}

theorem Shaped.below (h : Shaped w a T f L) (hb : Below w.heap.size w w') : Shaped w' a T f L := ⟨h.gv.below hb, h.same, h.sort, h.right, h.len, h.place, h.word⟩

theorem Shaped.src (h : Shaped w a T f L) {i : Nat} (hi : i < L.length) : Src w (T i).a (T i).n (T i).f := by
  rcases h.gv with h0 | ⟨b, q, _, g⟩
  · omega
  · exact g.flds i hi

theorem gm_lt {t : GM} (h : Src w t.a t.n t.f) : t.n = 0 ∨ t.g < w.heap.size := by
  rcases h with h0 | ⟨b, o, e, hb, _⟩
  · exact .inl h0
  · exact .inr (by simpa [GM.g, e] using hb)

theorem Shaped.obj (h : Shaped w a T f L) {i : Nat} (hi : i < L.length) : findO L (T i).at_ = some L[i] ∧ GSame (T i) (obG f L[i]) ∧ (0 ≤ (T i).at_ ∧ (T i).at_ ≤ 1000000) := by
  have hs := h.same i hi
  rw [obT_get f hi] at hs
  have e : (T i).at_ = L[i].at_ := hs.1
  exact ⟨by rw [e]; exact h.right.apart _ (List.getElem_mem hi), hs, by rw [e]; exact h.place _ (List.getElem_mem hi)⟩

theorem Shaped.nope (h : Shaped w a T f L) {p : Int} (hn : ∀ i, i < L.length → ¬ (T i).at_ = p) : p ∉ placesO L := fun hp => by
  obtain ⟨x, hx, rfl⟩ := List.mem_map.mp hp
  obtain ⟨i, hi, rfl⟩ := List.getElem_of_mem hx
  have hs := h.same i hi
  rw [obT_get f hi] at hs
  exact hn i hi hs.1

theorem Shaped.yes (h : Shaped w a T f L) {i : Nat} (hi : i < L.length) : (T i).at_ ∈ placesO L := mem_placesO.2 ⟨_, (h.obj hi).1⟩

end

/-- The program's scan: at a field of an object, or at the end. -/
def ST (f : Nat → Int) (L : List Ob) (roots : List Int) (n i : Nat) (O : List Int) : Prop := (n = O.length ∧ i = 0 ∧ SC f L roots n O) ∨ ∃ x, i ≤ x.s.toNat ∧ SI f L roots n i x O

theorem st_of_sc {f : Nat → Int} {L : List Ob} {roots O : List Int} {n : Nat} (h : SC f L roots n O) : ST f L roots n 0 O := by
  rcases Nat.lt_or_ge n O.length with h1 | h1
  · obtain ⟨x, _, hx⟩ := sc_in h h1
    exact .inr ⟨x, Nat.zero_le _, hx⟩
  · have := h.le
    exact .inl ⟨by omega, rfl, h⟩

theorem ST.len {f : Nat → Int} {L : List Ob} {roots O : List Int} {n i : Nat} (h : ST f L roots n i O) : O.length ≤ L.length := by
  rcases h with ⟨_, _, h⟩ | ⟨_, _, h⟩
  · exact h.len
  · exact h.len

theorem tgt_eq {t : GM} {f : Nat → Int} {x : Ob} (h : GSame t (obG f x)) {k : Nat} (hk : k < x.s.toNat) : tgtV t k = if x.m / P2 (k : Int) % 2 = 1 ∧ ¬ f (x.at_.toNat + 2 + k) = 0 then some (f (x.at_.toNat + 2 + k) - 1) else none := by
  obtain ⟨h1, h2, h3, h4, h5, h6, h7⟩ := h
  have e := h7 k (by rw [h6]; exact hk)
  have e' : t.f k = f (x.at_.toNat + 2 + k) := e
  have e3 : t.m = x.m := h3
  unfold tgtV
  rw [e', e3]

def RetReach (W : World) (f : Nat → Int) (L : List Ob) (roots : List Int) (e : Ending) (w' : World) : Prop :=
  Below W.heap.size W w' ∧ (((∃ p ∈ roots, p ∉ placesO L) ∧ e = .returned (.agg #[.int .i64 4, .slice none 0 0, .map none])) ∨
    ((∀ p ∈ roots, p ∈ placesO L) ∧ ∃ a c mb T, e = .returned (.agg #[.int .i64 0, .slice a (reachO f L roots).length c, .map (some mb)]) ∧ GV w' a (reachO f L roots).length T ∧ MapT w' mb (reachO f L roots).length (reachO f L roots) (fun i => (i : Int)) ∧ ∀ i, i < (reachO f L roots).length → ∃ x, findO L (lf (reachO f L roots) i) = some x ∧ GSame (T i) (obG f x)))

theorem ret_of_rs {W w : World} {base rb mb : Nat} {av : Option Addr} {kv : Nat} {M : List GM} {f : Nat → Int} {L : List Ob} {O roots : List Int} (hall : ∀ p ∈ roots, p ∈ placesO L) (he : reachO f L roots = O) (h : RS w base rb mb (.slice av M.length kv) M f L O) (hb : Below W.heap.size W w) : RetReach W f L roots (.returned (.agg #[.int .i64 0, .slice av M.length kv, .map (some mb)])) w := by
  obtain ⟨a, c, e, hg⟩ := h.out
  simp only [Value.slice.injEq] at e
  obtain ⟨rfl, -, rfl⟩ := e
  have hl := h.len
  rw [hl] at hg
  refine ⟨hb, .inr ⟨hall, av, kv, mb, gT M, by rw [he, hl], by rw [he]; exact hg, by rw [he]; exact h.map, fun i hi => ?_⟩⟩
  rw [he] at hi ⊢
  have hi' : i < M.length := by omega
  rw [gT_at (List.getElem?_eq_getElem hi')]
  exact h.same i _ (List.getElem?_eq_getElem hi')

set_option maxRecDepth 100000 in
set_option maxHeartbeats 1600000 in
theorem reachOf_any (a : Option Addr) (kc : Nat) (T : Nat → GM) (f : Nat → Int) (L : List Ob) (ra : Option Addr) (roots : List Int) (rc : Nat) (w : World) (hsh : Shaped w a T f L) (hrs : Src w ra roots.length (lf roots)) (hrn : roots.length ≤ 60) :
    Calls Try.prog 134 #[.slice a L.length kc, .slice ra roots.length rc] w (RetReach w f L roots) := by
  have HSH := Lib.hid hsh; have HRS := Lib.hid hrs
  have hL4 := hsh.len
  have hmk := @run_makeMap Try.prog
  clear hsh hrs
  go_enter Try.func134, Try.ntmps134
  go_wp2_with fail
  go_step3
  have HW0 := Lib.hid ((Below.refl w.heap.size w).alloc (Nat.le_refl _) (.cells #[.int .i64 0, .slice none 0 0, .map none] 93))
  have R0 := Lib.hid (Blk.new_at (w := w) (cs := #[.int .i64 0, .slice none 0 0, .map none]) (t := 93) w.heap.size rfl)
  have z0 : (w.alloc (.cells #[.int .i64 0, .slice none 0 0, .map none] 93)).heap.size = w.heap.size + 1 := by simp
  have HM1 := Lib.hid ((MapT.made (w.alloc (.cells #[.int .i64 0, .slice none 0 0, .map none] 93)) (fun i => (i : Int))).alloc (.cells #[.int .i64 0, .slice none 0 0, .map (some (w.heap.size + 1))] 93))
  have B1 := Lib.hid (Blk.new_at (w := (w.alloc (.cells #[.int .i64 0, .slice none 0 0, .map none] 93)).alloc (.map #[] 0)) (cs := #[.int .i64 0, .slice none 0 0, .map (some (w.heap.size + 1))]) (t := 93) (w.heap.size + 1 + 1) (by simp))
  go_wp2_with fail
  generalize w.alloc (.cells #[.int .i64 0, .slice none 0 0, .map none] 93) = W0 at *
  rw [z0] at HM1
  have RS0 : Hid (RS ((W0.alloc (.map #[] 0)).alloc (.cells #[.int .i64 0, .slice none 0 0, .map (some (w.heap.size + 1))] 93)) (w.heap.size + 1) (w.heap.size + 1 + 1) (w.heap.size + 1) (.slice none 0 0) [] f L []) := Lib.hid
    ⟨B1.out, by omega, Nat.le_refl _, by omega, by simp [Value.ownBlock], by simp [Value.ownBlock], World.ownsRow_nil _ _ _ _, HM1.out, rfl, fun t ht => (by cases ht), fun i t ht => (by simp at ht)⟩
  have HB0 : Hid (Below (w.heap.size + 1) W0 ((W0.alloc (.map #[] 0)).alloc (.cells #[.int .i64 0, .slice none 0 0, .map (some (w.heap.size + 1))] 93))) := Lib.hid (((Below.refl _ _).alloc (by omega) _).alloc (by simp; omega) _)
  have zz : w.heap.size + 3 ≤ ((W0.alloc (.map #[] 0)).alloc (.cells #[.int .i64 0, .slice none 0 0, .map (some (w.heap.size + 1))] 93)).heap.size := by simp; omega
  generalize (W0.alloc (.map #[] 0)).alloc (.cells #[.int .i64 0, .slice none 0 0, .map (some (w.heap.size + 1))] 93) = W3 at *
  clear HM1 B1
  generalize hrb : w.heap.size + 1 + 1 = rb at *
  generalize hmb : w.heap.size + 1 = mb at *
  have HBW : Hid (∀ wr, Below mb W0 wr → Below w.heap.size w wr) := Lib.hid (fun wr hb => HW0.out.trans (hb.mono (by omega)))
  go_loopw [17] (fun p wr => ∃ (i : Nat) (v : Value) (M : List GM), i ≤ roots.length ∧ p = .int .i64 (i : Int) ∧ Hid (Below mb W0 wr) ∧ Hid (RS wr mb rb mb v M f L (addNew [] (roots.take i))) ∧ Hid (∀ j, j < i → lf roots j ∈ placesO L)) (fun p _ => roots.length - (intOf p).toNat)
  case atStart => exact ⟨0, _, [], by omega, rfl, HB0, RS0, Lib.hid (fun j hj => by omega)⟩
  case round =>
    clear HB0 RS0 zz
    obtain ⟨i, v, M, hi, rfl, HB_r, RS_r, HD⟩ := hrel
    have hzr : mb ≤ wr.heap.size := by have := RS_r.out.map.lt; omega
    by_cases hlt : i < roots.length
    · have hlt' : (i : Int) < (roots.length : Int) := by omega
      have hi0 : (0 : Int) ≤ (i : Int) := by omega
      obtain ⟨xb, xo, rfl, hxb, hxc⟩ := src_some (HRS.out.below (HBW.out _ HB_r.out)) (by omega)
      have c0 := hxc i hlt
      obtain ⟨y, hy⟩ : ∃ y, lf roots i = y := ⟨_, rfl⟩
      have HY := Lib.hid hy
      have HME := Lib.hid (lf_mem hlt)
      have HSN := Lib.hid (roots_snoc hlt [])
      rw [hy] at c0 HME HSN
      clear hxc hy
      go_wp2_with fail
      refine (find_any a L.length kc T y _ (HSH.out.below (HBW.out _ HB_r.out)).gv (by omega) HSH.out.sort).mono ?_
      rintro e w1 ⟨hb, hr⟩
      have HB1 := Lib.hid (HB_r.out.trans (hb.mono hzr))
      have RS1 := Lib.hid (RS_r.out.below hb)
      have z1 := hb.size
      clear hb
      rcases hr with ⟨j, hj, hat, rfl⟩ | ⟨hn, rfl⟩
      · obtain ⟨ho1, ho2, ho3⟩ := HSH.out.obj hj
        have HO := Lib.hid (And.intro ho1 (And.intro ho2 (And.intro ho3 (And.intro (HSH.out.src hj) (HSH.out.yes hj)))))
        have HL6 := Lib.hid (addNew_len (roots.take i) [])
        have HAT := Lib.hid hat
        clear ho1 ho2 ho3 hat
        generalize T j = t at *
        go_wp2_with fail
        have RS2 := Lib.hid (RS1.out.below ((Below.refl _ _).alloc (Nat.le_refl _) (.cells #[.int .i64 0, .int .i64 t.at_, .int .i64 t.s, .int .i64 t.m, .int .i64 t.o, .int .i64 t.h, .slice t.a t.n t.c] 208)))
        have HB2 := Lib.hid (HB1.out.alloc (by omega) (.cells #[.int .i64 0, .int .i64 t.at_, .int .i64 t.s, .int .i64 t.m, .int .i64 t.o, .int .i64 t.h, .slice t.a t.n t.c] 208))
        have z2 : w1.heap.size + 1 = (w1.alloc (.cells #[.int .i64 0, .int .i64 t.at_, .int .i64 t.s, .int .i64 t.m, .int .i64 t.o, .int .i64 t.h, .slice t.a t.n t.c] 208)).heap.size := by simp
        clear RS1 HB1
        generalize w1.alloc (.cells #[.int .i64 0, .int .i64 t.at_, .int .i64 t.s, .int .i64 t.m, .int .i64 t.o, .int .i64 t.h, .slice t.a t.n t.c] 208) = w2 at *
        have hs2 := HO.out.2.2.2.1
        refine (add_any mb rb mb v M f L _ t L[j] _ RS2.out (by have := HO.out.2.2.1; omega) (by omega) HO.out.1 HO.out.2.1 (HO.out.2.2.2.1.below (HBW.out _ HB2.out)) (by rcases gm_lt hs2 with h0 | h0; exact .inl h0; exact .inr (by omega)) (by have := HL6.out; simp at this; omega)).mono ?_
        rintro e w3 ⟨rfl, hb, hz, v', M', hrs⟩
        have HB3 := Lib.hid (HB2.out.trans hb)
        have RS3 : Hid (RS w3 mb rb mb v' M' f L (addNew [] (roots.take (i + 1)))) := Lib.hid (by rw [HSN.out, ← HAT.out]; exact hrs)
        have HP := Lib.hid (show y ∈ placesO L by rw [← HAT.out]; exact HO.out.2.2.2.2)
        clear hb hrs hs2 HB2 RS2 HO
        go_wp2
        go_roundw
        case rel => first | exact ⟨i + 1, v', M', by omega, by go_num, HB3, RS3, Lib.hid (fun j hj => by rcases Nat.lt_succ_iff_lt_or_eq.mp hj with h1 | h1; exact HD.out j h1; subst h1; rw [HY.out]; exact HP.out)⟩ | ((repeat apply Exists.intro); exact ⟨⟨i + 1, v', M', by omega, by go_num, HB3, RS3, Lib.hid (fun j hj => by rcases Nat.lt_succ_iff_lt_or_eq.mp hj with h1 | h1; exact HD.out j h1; subst h1; rw [HY.out]; exact HP.out)⟩, rfl⟩)
        case measure => simp [intOf]; omega
      · have hnp := HSH.out.nope hn
        have HNP := Lib.hid hnp
        have R_1 := Lib.hid (blk_under R0.out HB1.out (by omega))
        clear hn hnp
        have lR := R_1.out.1; have cR0 := R_1.out.at 0 rfl; have fR0 := R_1.out.free 0 rfl; have cR1 := R_1.out.at 1 rfl; have fR1 := R_1.out.free 1 rfl; have cR2 := R_1.out.at 2 rfl; have fR2 := R_1.out.free 2 rfl
        go_wp2
        refine bodyPost_ret (v := .agg #[.int .i64 4, .slice none 0 0, .map none]) (by simp [results, Try.results134, go_sem, cR0, cR1, cR2, lR]) rfl ⟨?_, .inl ⟨⟨y, HME.out, HNP.out⟩, rfl⟩⟩
        repeat (first | (with_reducible refine Below.setCell ?_ (by (try simp); (try omega)) _) | (with_reducible refine Below.alloc ?_ (by (try simp); (try omega)) _) | (with_reducible refine Below.drew ?_))
        exact HBW.out _ HB1.out
    · have hlt' : ¬ (i : Int) < (roots.length : Int) := by omega
      obtain rfl : i = roots.length := by omega
      have HALL : Hid (∀ p ∈ roots, p ∈ placesO L) := Lib.hid (fun p hp => by
        obtain ⟨j, hj, rfl⟩ := List.getElem_of_mem hp
        rw [← lf_at hj]; exact HD.out j hj)
      have HSC : Hid (SC f L roots 0 (addNew [] roots)) := Lib.hid (sc_start HALL.out)
      have RS4 : Hid (RS wr mb rb mb v M f L (addNew [] roots)) := Lib.hid (by have := RS_r.out; rw [List.take_length] at this; exact this)
      clear HD RS_r
      have st0 := st_of_sc HSC.out
      have ST0 := Lib.hid st0
      clear hlt hlt' HSC HRS st0 hrn hi
      go_wp2
      go_step3
      go_wp2_with fail
      go_loopw [9, 10] (fun p q wr => ∃ (n i : Nat) (v : Value) (M : List GM) (O : List Int), p = .int .i64 (n : Int) ∧ q = .int .i64 (i : Int) ∧ n ≤ L.length ∧ i ≤ 12 ∧ Hid (Below mb W0 wr) ∧ Hid (RS wr mb rb mb v M f L O) ∧ Hid (ST f L roots n i O)) (fun p q _ => (L.length - (intOf p).toNat) * 14 + (13 - (intOf q).toNat))
      case atStart => exact ⟨0, 0, v, M, _, rfl, rfl, by omega, by omega, HB_r, RS4, ST0⟩
      case round =>
        clear HB_r RS4 ST0 hzr
        obtain ⟨n, i, v, M, O, rfl, rfl, hnl, hi12, HB_r, RS_r, STT⟩ := hrel
        have hzr : mb ≤ wr.heap.size := by have := RS_r.out.map.lt; omega
        have hml := Lib.hid RS_r.out.len
        have hol := ST.len STT.out
        have hB := RS_r.out.blk
        obtain ⟨av, kv, hv⟩ := rowG_val RS_r.out.row
        subst hv
        have lB := hB.1; have cB0 := hB.at 0 rfl; have cB1 := hB.at 1 rfl; have cB2 := hB.at 2 rfl
        clear hB
        rcases STT.out with ⟨hn, hi0, hsc⟩ | ⟨x, hix, hsi⟩
        · have hnm : n = M.length := by rw [hml.out]; exact hn
          subst hi0
          have HSC := Lib.hid hsc
          have R_r := Lib.hid (blk_under R0.out HB_r.out (by omega))
          have HE : Hid (reachO f L roots = O) := Lib.hid (sc_end hsc (by omega))
          obtain ⟨a', c', he, hg⟩ := rowG_GV RS_r.out.row (fun t ht => (RS_r.out.src t ht).1)
          have HGV := Lib.hid hg; have HEE := Lib.hid he
          clear hsc hg he hn
          subst hnm
          have lR := R_r.out.1; have cR0 := R_r.out.at 0 rfl; have fR0 := R_r.out.free 0 rfl; have cR1 := R_r.out.at 1 rfl; have fR1 := R_r.out.free 1 rfl; have cR2 := R_r.out.at 2 rfl; have fR2 := R_r.out.free 2 rfl
          go_wp2
          rw [Exit.noGoto_ret]
          refine bodyPost_ret (v := .agg #[.int .i64 0, .slice av M.length kv, .map (some mb)]) (by simp [results, Try.results134, go_sem, cR0, cR1, cR2]) rfl ?_
          have hRF := ((RS_r.out.set (p := ⟨w.heap.size, 0, none⟩) hmb (.int .i64 0)).set (p := ⟨w.heap.size, 1, none⟩) hmb (.slice av M.length kv)).set (p := ⟨w.heap.size, 2, none⟩) hmb (.map (some mb))
          have hBF : Below w.heap.size w (((wr.setCell ⟨w.heap.size, 0, none⟩ (.int .i64 0)).setCell ⟨w.heap.size, 1, none⟩ (.slice av M.length kv)).setCell ⟨w.heap.size, 2, none⟩ (.map (some mb))) := (((HBW.out _ HB_r.out).setCell (Nat.le_refl _) _).setCell (Nat.le_refl _) _).setCell (Nat.le_refl _) _
          exact ret_of_rs HALL.out HE.out hRF hBF
        · have hnO : n < O.length := hsi.lt
          have hnM : n < M.length := by rw [hml.out]; exact hnO
          have hnm : ¬ n = M.length := by omega
          have hnm' : ((n : Int) == (M.length : Int)) = false := by simp; omega
          have hn0 : (0 : Int) ≤ (n : Int) := by omega
          have hnI : (n : Int) < (M.length : Int) := by omega
          obtain ⟨a', c', he, hg⟩ := RS_r.out.out
          simp only [Value.slice.injEq] at he
          obtain ⟨rfl, -, rfl⟩ := he
          obtain ⟨gb, gq, rfl, gs⟩ : ∃ b q, av = some ⟨b, q, none⟩ ∧ GSrc wr b q M.length (gT M) := by
            rcases hg with h0 | h
            · omega
            · exact h
          have hMn : M[n]? = some M[n] := List.getElem?_eq_getElem hnM
          obtain ⟨x', hx', hsame⟩ := RS_r.out.same n M[n] hMn
          rw [hsi.at_] at hx'
          obtain rfl := Option.some.inj hx'
          have hsx := gs.six n hnM
          have hfx := gs.flds n hnM
          rw [gT_at hMn] at hsx hfx
          have hxL : x ∈ L := List.mem_of_find?_eq_some hsi.at_
          have hok := HSH.out.right.ok x hxL
          have hwd := HSH.out.word x hxL
          generalize M[n] = t at *
          obtain ⟨s0, s1, s2, s3, s4, s5⟩ := hsx
          have htn : t.n = x.s.toNat := hsame.2.2.2.2.2.1
          have htx : t.s = x.s ∧ t.m = x.m ∧ t.o = x.o ∧ t.h = x.h := ⟨hsame.2.1, hsame.2.2.1, hsame.2.2.2.1, hsame.2.2.2.2.1⟩
          have HSM := Lib.hid hsame; have HFX := Lib.hid hfx; have HOK := Lib.hid hok; have HWD := Lib.hid hwd; have HSI := Lib.hid hsi; have HTX := Lib.hid htx
          have hs12 : x.s.toNat ≤ 12 := by have := hok.1.1; omega
          have HTN := Lib.hid htn
          clear hsame hfx hok hwd hsi htx gs hg hMn hxL htn hml
          by_cases hie : i = t.n
          · have hie' : ((i : Int) == (t.n : Int)) = true := by simp; omega
            have STN := Lib.hid (st_of_sc (si_end HSI.out (by rw [← HTN.out, hie]; exact Nat.le_refl _)))
            go_wp2
            go_roundw
            case rel => first | exact ⟨n + 1, 0, _, M, O, by go_num, rfl, by omega, by omega, HB_r, RS_r, STN⟩ | ((repeat apply Exists.intro); exact ⟨⟨n + 1, 0, _, M, O, by go_num, rfl, by omega, by omega, HB_r, RS_r, STN⟩, rfl⟩)
            case measure => simp [intOf]; omega
          · have hie' : ((i : Int) == (t.n : Int)) = false := by simp; omega
            have hit : i < t.n := by have := HTN.out; omega
            have hkx : i < x.s.toNat := by have := HTN.out; omega
            have HTG := Lib.hid (tgt_eq HSM.out hkx)
            go_wp2_with fail
            clear s0 s1 s2 s3 s4 s5
            refine (target_any t i _ HFX.out hit (by rw [HTX.out.1, HTX.out.2.1, HTX.out.2.2.1, HTX.out.2.2.2]; exact HOK.out.1) (by rw [HTX.out.1]; exact HTN.out) (by rw [show t.f i = f (x.at_.toNat + 2 + i) from HSM.out.2.2.2.2.2.2 i hit]; exact HWD.out i hkx)).mono ?_
            rintro e w1 ⟨hb, rfl⟩
            have HB1 := Lib.hid (HB_r.out.trans (hb.mono hzr))
            have RS1 := Lib.hid (RS_r.out.below hb)
            have z1 := hb.size
            clear hb
            rw [HTG.out]
            by_cases hd : x.m / P2 (i : Int) % 2 = 1 ∧ ¬ f (x.at_.toNat + 2 + i) = 0
            · rw [if_pos hd]
              have hsy := si_yes HSH.out.right.points HSH.out.right.size HSI.out hkx hd.1 hd.2
              have hin := si_in HSH.out.right.points HSH.out.right.size HSI.out hkx hd.1 hd.2
              obtain ⟨y, hy⟩ : ∃ y, f (x.at_.toNat + 2 + i) - 1 = y := ⟨_, rfl⟩
              rw [hy] at hsy hin ⊢
              have HSY := Lib.hid hsy; have HIN := Lib.hid hin
              clear hsy hin hd hy
              simp only [Option.getD_some, Option.isSome_some]
              go_wp2_with fail
              refine (find_any _ L.length kc T y _ (HSH.out.below (HBW.out _ HB1.out)).gv (by omega) HSH.out.sort).mono ?_
              rintro e w2 ⟨hb, hr⟩
              have HB2 := Lib.hid (HB1.out.trans (hb.mono (by omega)))
              have RS2 := Lib.hid (RS1.out.below hb)
              have z2 := hb.size
              clear hb
              rcases hr with ⟨j, hj, hat, rfl⟩ | ⟨hn, rfl⟩
              case inr => exact absurd HIN.out (HSH.out.nope hn)
              obtain ⟨ho1, ho2, ho3⟩ := HSH.out.obj hj
              have HO := Lib.hid (And.intro ho1 (And.intro ho2 (And.intro ho3 (HSH.out.src hj))))
              have HAT := Lib.hid hat
              clear ho1 ho2 ho3 hat
              have hf7 := fld_obj7
              generalize T j = u at *
              go_wp2_with fail
              have hs2 := HO.out.2.2.2
              refine (add_any mb rb mb _ M f L O u L[j] _ RS2.out (by have := HO.out.2.2.1; omega) (by omega) HO.out.1 HO.out.2.1 (HO.out.2.2.2.below (HBW.out _ HB2.out)) (by rcases gm_lt hs2 with h0 | h0; exact .inl h0; exact .inr (by omega)) (by omega)).mono ?_
              rintro e w3 ⟨rfl, hb, hz, v', M', hrs⟩
              have HB3 := Lib.hid (HB2.out.trans hb)
              have RS3 : Hid (RS w3 mb rb mb v' M' f L (add1 O y)) := Lib.hid (by rw [← HAT.out]; exact hrs)
              have STN : Hid (ST f L roots n (i + 1) (add1 O y)) := Lib.hid (.inr ⟨x, by omega, HSY.out⟩)
              clear hb hrs hs2 HB2 RS2 HO hf7
              go_wp2
              go_roundw
              case rel => first | exact ⟨n, i + 1, v', M', _, rfl, by go_num, by omega, by omega, HB3, RS3, STN⟩ | ((repeat apply Exists.intro); exact ⟨⟨n, i + 1, v', M', _, rfl, by go_num, by omega, by omega, HB3, RS3, STN⟩, rfl⟩)
              case measure => simp [intOf]; omega
            · rw [if_neg hd]
              have STN : Hid (ST f L roots n (i + 1) O) := Lib.hid (.inr ⟨x, by omega, si_no HSI.out hkx hd⟩)
              simp only [Option.getD_none, Option.isSome_none]
              clear hd
              go_wp2
              go_roundw
              case rel => first | exact ⟨n, i + 1, _, M, O, rfl, by go_num, by omega, by omega, HB1, RS1, STN⟩ | ((repeat apply Exists.intro); exact ⟨⟨n, i + 1, _, M, O, rfl, by go_num, by omega, by omega, HB1, RS1, STN⟩, rfl⟩)
              case measure => simp [intOf]; omega
end Go.Proofs.Ytihbenbfnpiikaa

namespace Go.Proofs.Ytihbenbfnpiikaa
open Go.RowKit Go.Maps
set_option linter.unusedVariables false

theorem shaped_of {h : Int} {n : Nat} {f : Nat → Int} {ac bu : Int} {L : List Ob} {w : World} {a : Option Addr} {T : Nat → GM} (hk : IsSF h n f ac bu 0) (ho : IsOI h n f ac bu 0 L) (hg : GV w a L.length T) (hT : ∀ i, i < L.length → GSame (T i) (obT f L i)) : Shaped w a T f L := by
  obtain ⟨h4, h5⟩ := isOI_zero ho
  obtain ⟨⟨⟨g1, g2⟩, ⟨g3, g4⟩, g5, g6⟩, gn, gw⟩ := isFault_ok h4
  have hb := baseI_bd (ac := ac) g1
  have hPU : (baseI ac h).toNat + bu.toNat ≤ n := by
    have hb0 : 0 ≤ baseI ac h ∧ baseI ac h ≤ h ∧ baseI ac h + h ≤ 2 * h := by rcases (by omega : ac = 0 ∨ ac = 1) with rfl | rfl <;> simp [baseI] <;> omega
    omega
  have hok := parse_ok h5 hPU gw
  have hln := parse_length _ _ L (Nat.le_refl _) h5
  refine ⟨hg, hT, fun i j hij hj => sorted_T h5 hT i j hij hj, right_of hk ho, by omega, fun x hx => ?_, fun x hx => (hok x hx).2.2.2.2⟩
  have := (hok x hx).2.2.2.1
  omega

/-- A block that holds no more than a code, an empty row and no map. -/
def Dead (w : World) (R : Nat) : Prop := ∃ t fr, w.heap[R]? = some (.cells #[.int .i64 0, .slice none 0 0, .map none] t fr)

theorem dead_new {w : World} {t : TypeId} (R : Nat) (hR : R = w.heap.size) : Dead (w.alloc (.cells #[.int .i64 0, .slice none 0 0, .map none] t)) R := by
  subst hR
  exact ⟨t, _, (heap_alloc_new w _)⟩

theorem Dead.below {w w' : World} {R : Nat} (h : Dead w R) (hb : Below w.heap.size w w') : Dead w' R := by
  obtain ⟨t, fr, h1⟩ := h
  exact ⟨t, fr, (hb.block R (Array.getElem?_eq_some_iff.1 h1).1).trans h1⟩

def lain (w : World) (R : Nat) (x y : Value) : World := ((w.setCell ⟨R, 0, none⟩ (.int .i64 0)).setCell ⟨R, 1, none⟩ x).setCell ⟨R, 2, none⟩ y

theorem lain_block {w : World} {R b : Nat} {x y : Value} (h : b ≠ R) : (lain w R x y).heap[b]? = w.heap[b]? :=
  (Below.heap_setCell _ _ _ b h).trans ((Below.heap_setCell _ _ _ b h).trans (Below.heap_setCell _ _ _ b h))

theorem dead_cell {w : World} {R : Nat} (h : Dead w R) (o : Nat) : w.cell? ⟨R, o, none⟩ = (#[.int .i64 0, .slice none 0 0, .map none] : Array Value)[o]? := by
  obtain ⟨t, fr, h1⟩ := h
  exact cell_of_row w R o _ t fr h1

theorem dead_int {w : World} {R b o : Nat} {v : Int} (h : Dead w R) (hc : w.cell? ⟨b, o, none⟩ = some (.int .i64 v)) (x y : Value) : (lain w R x y).cell? ⟨b, o, none⟩ = some (.int .i64 v) := by
  by_cases e : b = R
  · subst e
    have h0 := dead_cell h o
    rw [hc] at h0
    match o, h0 with
    | 0, h0 =>
      have h9 : v = 0 := by simpa using h0
      subst h9
      have hc' : (w.setCell ⟨b, 0, none⟩ (.int .i64 0)).cell? ⟨b, 0, none⟩ = some (.int .i64 0) := by rw [World.cell?_setCell_same' _ _ _ (by rw [hc]; rfl)]
      unfold lain
      rw [World.cell?_setCell_other _ _ _ _ (by simp), World.cell?_setCell_other _ _ _ _ (by simp)]
      exact hc'
    | 1, h0 => simp at h0
    | 2, h0 => simp at h0
    | o + 3, h0 => simp at h0
  · exact (World.cell?_of_block (w := w) (a := ⟨b, o, none⟩) (lain_block e)).trans hc

theorem dead_src {w : World} {R : Nat} {a : Option Addr} {n : Nat} {f : Nat → Int} (h : Dead w R) (hs : Src w a n f) (x y : Value) : Src (lain w R x y) a n f := by
  rcases hs with h0 | ⟨b, o, e, hb, hc⟩
  · exact .inl h0
  · exact .inr ⟨b, o, e, by simpa [lain] using hb, fun i hi => dead_int h (hc i hi) x y⟩

theorem dead_gv {w : World} {R : Nat} {a : Option Addr} {N : Nat} {T : Nat → GM} (h : Dead w R) (hg : GV w a N T) (x y : Value) : GV (lain w R x y) a N T := by
  rcases hg with h0 | ⟨b, q, e, g⟩
  · exact .inl h0
  · rcases Nat.eq_zero_or_pos N with h0 | hp
    · exact .inl h0
    have hne : b ≠ R := fun e => by
      subst e
      have h0 := (g.six 0 hp).1
      have h1 := (g.six 0 hp).2.1
      rw [dead_cell h] at h0 h1
      match q, h0, h1 with
      | 0, h0, h1 => simp at h1
      | 1, h0, h1 => simp at h0
      | 2, h0, h1 => simp at h0
      | q + 3, h0, h1 => simp at h0
    exact .inr ⟨b, q, e, by have := g.lt; simpa [lain] using this, fun i hi => (g.six i hi).block (lain_block hne), fun i hi => dead_src h (g.flds i hi) x y⟩

theorem dead_map {w : World} {R mb n : Nat} {O : List Int} {v : Nat → Int} (h : Dead w R) (hm : MapT w mb n O v) (x y : Value) : MapT (lain w R x y) mb n O v := by
  refine hm.block (lain_block fun e => ?_)
  subst e
  obtain ⟨t, fr, h1⟩ := h
  obtain ⟨D, ⟨es, clock, h2, _⟩, _⟩ := hm
  rw [h1] at h2; cases h2

def RetIn (W : World) (f : Nat → Int) (roots : List Int) (co : Int) (L : List Ob) (e : Ending) (w' : World) : Prop :=
  Below W.heap.size W w' ∧ ((¬ co = 0 ∧ e = .returned (.agg #[.int .i64 co, .slice none 0 0, .map none])) ∨
    (co = 0 ∧ ∃ a c mb T, e = .returned (.agg #[.int .i64 0, .slice a (reachO f L roots).length c, .map (some mb)]) ∧ GV w' a (reachO f L roots).length T ∧ MapT w' mb (reachO f L roots).length (reachO f L roots) (fun i => (i : Int)) ∧ ∀ i, i < (reachO f L roots).length → ∃ x, findO L (lf (reachO f L roots) i) = some x ∧ GSame (T i) (obG f x)))

set_option maxRecDepth 100000 in
set_option maxHeartbeats 1600000 in
theorem reachIn_code (h ac bu : Int) (a : Option Addr) (n c : Nat) (f : Nat → Int) (ra : Option Addr) (roots : List Int) (rc : Nat) (co : Int) (L : List Ob) (w : World) (hs : Src w a n f) (hcn : n ≤ c) (hcm : c ≤ maxLen) (hrs : Src w ra roots.length (lf roots)) (hk : IsSF h n f ac bu co) (h0 : ¬ co = 0) :
    Calls Try.prog 65 #[.agg #[.int .i64 h, .slice a n c, .int .i64 ac, .int .i64 bu], .slice ra roots.length rc] w (RetIn w f roots co L) := by
  have HS := Lib.hid hs; have HK := Lib.hid hk; have HCM := Lib.hid hcm; have HRS := Lib.hid hrs
  clear hs hk hcm hrs
  go_enter Try.func65, Try.ntmps65
  go_wp2_with fail
  refine (shaped_any h ac bu a n c f _ ((HS.out.alloc _).alloc _) hcn HCM.out co [] (.inl ⟨HK.out, h0, rfl⟩)).mono ?_
  rintro e w1 ⟨a1, c1, T, rfl, hg, hT, hb, hc1, hc2⟩
  have HB1 := Lib.hid (thru2 (Below.refl _ _) hb)
  have R_1 := Lib.hid ((Blk.new_at (w := w.alloc (.cells #[.int .i64 h, .slice a n c, .int .i64 ac, .int .i64 bu] 26)) (cs := #[.int .i64 0, .slice none 0 0, .map none]) (t := 93) (w.heap.size + 1) (by simp)).below hb)
  have z1 : w.heap.size + 2 ≤ w1.heap.size := by have := hb.size; simp at this; omega
  have HG := Lib.hid hg; have HT := Lib.hid hT
  have HBb := Lib.hid hb
  clear hb hg hT hc1 hc2
  have hz := HB1.out.size
  have hd : (co != 0) = true := by simpa using h0
  have H0 := Lib.hid h0
  clear h0
  have lR := R_1.out.1; have cR0 := R_1.out.at 0 rfl; have fR0 := R_1.out.free 0 rfl; have cR1 := R_1.out.at 1 rfl; have fR1 := R_1.out.free 1 rfl; have cR2 := R_1.out.at 2 rfl; have fR2 := R_1.out.free 2 rfl
  go_wp2
  refine bodyPost_ret (v := .agg #[.int .i64 co, .slice none 0 0, .map none]) (by simp [results, Try.results65, go_sem, cR0, cR1, cR2, lR]) rfl ⟨?_, .inl ⟨H0.out, rfl⟩⟩
  repeat (first | (with_reducible refine Below.setCell ?_ (by (try simp); (try omega)) _) | (with_reducible refine Below.alloc ?_ (by (try simp); (try omega)) _) | (with_reducible refine Below.drew ?_))
  exact HB1.out

set_option maxRecDepth 100000 in
set_option maxHeartbeats 1600000 in
theorem reachIn_many (h ac bu : Int) (a : Option Addr) (n c : Nat) (f : Nat → Int) (ra : Option Addr) (roots : List Int) (rc : Nat) (co : Int) (L : List Ob) (w : World) (hs : Src w a n f) (hcn : n ≤ c) (hcm : c ≤ maxLen) (hrs : Src w ra roots.length (lf roots)) (hk : IsSF h n f ac bu 0) (L0 : List Ob) (ho : IsOI h n f ac bu 0 L0) (h0 : 60 < roots.length) :
    Calls Try.prog 65 #[.agg #[.int .i64 h, .slice a n c, .int .i64 ac, .int .i64 bu], .slice ra roots.length rc] w (RetIn w f roots 2 L) := by
  have HS := Lib.hid hs; have HK := Lib.hid hk; have HCM := Lib.hid hcm; have HRS := Lib.hid hrs
  clear hs hk hcm hrs
  go_enter Try.func65, Try.ntmps65
  go_wp2_with fail
  refine (shaped_any h ac bu a n c f _ ((HS.out.alloc _).alloc _) hcn HCM.out 0 L0 (.inr ⟨rfl, HK.out, ho⟩)).mono ?_
  rintro e w1 ⟨a1, c1, T, rfl, hg, hT, hb, hc1, hc2⟩
  have HB1 := Lib.hid (thru2 (Below.refl _ _) hb)
  have R_1 := Lib.hid ((Blk.new_at (w := w.alloc (.cells #[.int .i64 h, .slice a n c, .int .i64 ac, .int .i64 bu] 26)) (cs := #[.int .i64 0, .slice none 0 0, .map none]) (t := 93) (w.heap.size + 1) (by simp)).below hb)
  have z1 : w.heap.size + 2 ≤ w1.heap.size := by have := hb.size; simp at this; omega
  have HG := Lib.hid hg; have HT := Lib.hid hT
  have HBb := Lib.hid hb
  clear hb hg hT hc1 hc2
  have hz := HB1.out.size
  have hd : (60 : Int) < (roots.length : Int) := by omega
  clear h0 ho
  have lR := R_1.out.1; have cR0 := R_1.out.at 0 rfl; have fR0 := R_1.out.free 0 rfl; have cR1 := R_1.out.at 1 rfl; have fR1 := R_1.out.free 1 rfl; have cR2 := R_1.out.at 2 rfl; have fR2 := R_1.out.free 2 rfl
  go_wp2
  refine bodyPost_ret (v := .agg #[.int .i64 2, .slice none 0 0, .map none]) (by simp [results, Try.results65, go_sem, cR0, cR1, cR2, lR]) rfl ⟨?_, .inl ⟨by decide, rfl⟩⟩
  repeat (first | (with_reducible refine Below.setCell ?_ (by (try simp); (try omega)) _) | (with_reducible refine Below.alloc ?_ (by (try simp); (try omega)) _) | (with_reducible refine Below.drew ?_))
  exact HB1.out

set_option maxRecDepth 100000 in
set_option maxHeartbeats 1600000 in
theorem reachIn_rest (h ac bu : Int) (a : Option Addr) (n c : Nat) (f : Nat → Int) (ra : Option Addr) (roots : List Int) (rc : Nat) (co : Int) (L : List Ob) (w : World) (hs : Src w a n f) (hcn : n ≤ c) (hcm : c ≤ maxLen) (hrs : Src w ra roots.length (lf roots)) (hk : IsSF h n f ac bu 0) (ho : IsOI h n f ac bu 0 L) (h60 : roots.length ≤ 60) (hco : ((∃ p ∈ roots, p ∉ placesO L) ∧ co = 4) ∨ ((∀ p ∈ roots, p ∈ placesO L) ∧ co = 0)) :
    Calls Try.prog 65 #[.agg #[.int .i64 h, .slice a n c, .int .i64 ac, .int .i64 bu], .slice ra roots.length rc] w (RetIn w f roots co L) := by
  have HS := Lib.hid hs; have HK := Lib.hid hk; have HCM := Lib.hid hcm; have HRS := Lib.hid hrs
  have HO := Lib.hid ho; have HCO := Lib.hid hco
  clear hs hk hcm hrs ho hco
  go_enter Try.func65, Try.ntmps65
  go_wp2_with fail
  refine (shaped_any h ac bu a n c f _ ((HS.out.alloc _).alloc _) hcn HCM.out 0 L (.inr ⟨rfl, HK.out, HO.out⟩)).mono ?_
  rintro e w1 ⟨a1, c1, T, rfl, hg, hT, hb, hc1, hc2⟩
  have HB1 := Lib.hid (thru2 (Below.refl _ _) hb)
  have R_1 := Lib.hid ((Blk.new_at (w := w.alloc (.cells #[.int .i64 h, .slice a n c, .int .i64 ac, .int .i64 bu] 26)) (cs := #[.int .i64 0, .slice none 0 0, .map none]) (t := 93) (w.heap.size + 1) (by simp)).below hb)
  have z1 : w.heap.size + 2 ≤ w1.heap.size := by have := hb.size; simp at this; omega
  have HG := Lib.hid hg; have HT := Lib.hid hT
  have HBb := Lib.hid hb
  clear hb hg hT hc1 hc2
  have hz := HB1.out.size
  have hd : ¬ (60 : Int) < (roots.length : Int) := by omega
  have DE_1 := Lib.hid ((dead_new (w := w.alloc (.cells #[.int .i64 h, .slice a n c, .int .i64 ac, .int .i64 bu] 26)) (t := 93) (w.heap.size + 1) (by simp)).below HBb.out)
  have HSH := Lib.hid (shaped_of HK.out HO.out HG.out.src HT.out)
  clear HG HT
  go_wp2_with fail
  have HB2 := Lib.hid (HB1.out.alloc hz (.cells #[.int .i64 0, .slice a1 L.length c1] 113))
  have DE2 := Lib.hid (DE_1.out.below ((Below.refl _ _).alloc (Nat.le_refl _) (.cells #[.int .i64 0, .slice a1 L.length c1] 113)))
  have R_2 := Lib.hid (R_1.out.alloc (.cells #[.int .i64 0, .slice a1 L.length c1] 113))
  have SH2 := Lib.hid (HSH.out.below ((Below.refl _ _).alloc (Nat.le_refl _) (.cells #[.int .i64 0, .slice a1 L.length c1] 113)))
  have hz2 : w.heap.size + 2 ≤ (w1.alloc (.cells #[.int .i64 0, .slice a1 L.length c1] 113)).heap.size := by simp; omega
  clear HB1 R_1 HSH
  generalize w1.alloc (.cells #[.int .i64 0, .slice a1 L.length c1] 113) = w2 at *
  refine (reachOf_any a1 c1 T f L ra roots rc _ SH2.out (HRS.out.below HB2.out) h60).mono ?_
  rintro e w3 ⟨hb, hr⟩
  have HB3 := Lib.hid (thru0 HB2.out hb)
  have R_3 := Lib.hid (R_2.out.below hb)
  have DE3 := Lib.hid (DE2.out.below hb)
  have z3 := hb.size
  clear hb
  have lR := R_3.out.1; have cR0 := R_3.out.at 0 rfl; have fR0 := R_3.out.free 0 rfl; have cR1 := R_3.out.at 1 rfl; have fR1 := R_3.out.free 1 rfl; have cR2 := R_3.out.at 2 rfl; have fR2 := R_3.out.free 2 rfl
  rcases hr with ⟨hbad, rfl⟩ | ⟨hall, a3, c3, mb, U, rfl, hgv, hmp, hsm⟩
  · have hc4 : co = 4 := by
      rcases HCO.out with ⟨_, h4⟩ | ⟨hq, _⟩
      · exact h4
      · obtain ⟨p, hp, hq'⟩ := hbad; exact absurd (hq p hp) hq'
    subst hc4
    clear hbad
    go_wp2
    refine bodyPost_ret (v := .agg #[.int .i64 4, .slice none 0 0, .map none]) (by simp [results, Try.results65, go_sem, cR0, cR1, cR2]) rfl ⟨?_, .inl ⟨by decide, rfl⟩⟩
    repeat (first | (with_reducible refine Below.setCell ?_ (by (try simp); (try omega)) _) | (with_reducible refine Below.alloc ?_ (by (try simp); (try omega)) _) | (with_reducible refine Below.drew ?_))
    exact HB3.out
  · have hc0 : co = 0 := by
      rcases HCO.out with ⟨⟨p, hp, hq⟩, _⟩ | ⟨_, h0⟩
      · exact absurd (hall p hp) hq
      · exact h0
    subst hc0
    have HGV := Lib.hid hgv; have HMP := Lib.hid hmp; have HSM := Lib.hid hsm
    clear hall hgv hmp hsm
    go_wp2
    refine bodyPost_ret (v := .agg #[.int .i64 0, .slice a3 (reachO f L roots).length c3, .map (some mb)]) (by simp [results, Try.results65, go_sem, cR0, cR1, cR2]) rfl ⟨?_, .inr ⟨rfl, a3, c3, mb, U, rfl, dead_gv DE3.out HGV.out _ _, dead_map DE3.out HMP.out _ _, HSM.out⟩⟩
    repeat (first | (with_reducible refine Below.setCell ?_ (by (try simp); (try omega)) _) | (with_reducible refine Below.alloc ?_ (by (try simp); (try omega)) _) | (with_reducible refine Below.drew ?_))
    exact HB3.out
end Go.Proofs.Ytihbenbfnpiikaa

namespace Go.Proofs.Ytihbenbfnpiikaa
open Go.RowKit Go.Maps
set_option linter.unusedVariables false

theorem nums_succ (n : Nat) (f : Nat → Int) : nums (n + 1) f = nums n f ++ [.int .i64 (f n)] := by simp [nums, List.range_succ]

theorem gv_get {w : World} {a : Option Addr} {N : Nat} {T : Nat → GM} (h : GV w a N T) {i : Nat} (hi : i < N) : ∃ b q, a = some ⟨b, q, none⟩ ∧ b < w.heap.size ∧ SixG w b (q + i * 6) (T i) := by
  rcases h with h0 | ⟨b, q, e, g⟩
  · omega
  · exact ⟨b, q, e, g.lt, g.six i hi⟩
end Go.Proofs.Ytihbenbfnpiikaa

namespace Go.Proofs.Ytihbenbfnpiikaa
open Go.RowKit Go.Maps
set_option linter.unusedVariables false

theorem reachIn_any (h ac bu : Int) (a : Option Addr) (n c : Nat) (f : Nat → Int) (ra : Option Addr) (roots : List Int) (rc : Nat) (co : Int) (L : List Ob) (w : World) (hs : Src w a n f) (hcn : n ≤ c) (hcm : c ≤ maxLen) (hrs : Src w ra roots.length (lf roots)) (hk : IsAsk h n f ac bu roots co L) :
    Calls Try.prog 65 #[.agg #[.int .i64 h, .slice a n c, .int .i64 ac, .int .i64 bu], .slice ra roots.length rc] w (RetIn w f roots co L) := by
  rcases hk with ⟨h1, h2⟩ | ⟨h1, h2, rfl⟩ | ⟨h1, h2, h3, h4, rfl⟩ | ⟨h1, h2, h3, h4, rfl⟩
  · exact reachIn_code h ac bu a n c f ra roots rc co L w hs hcn hcm hrs h1 h2
  · obtain ⟨L0, hL0⟩ := isSF_zero h1
    exact reachIn_many h ac bu a n c f ra roots rc 2 L w hs hcn hcm hrs h1 L0 hL0 h2
  · exact reachIn_rest h ac bu a n c f ra roots rc 4 L w hs hcn hcm hrs h1 h2 h3 (.inl ⟨h4, rfl⟩)
  · exact reachIn_rest h ac bu a n c f ra roots rc 0 L w hs hcn hcm hrs h1 h2 h3 (.inr ⟨h4, rfl⟩)
end Go.Proofs.Ytihbenbfnpiikaa

namespace Go.Proofs.Ytihbenbfnpiikaa
open Go.RowKit Go.Maps
set_option linter.unusedVariables false

theorem reach_small {h : Int} {n : Nat} {f : Nat → Int} {ac bu : Int} {roots : List Int} {co : Int} {L : List Ob} (hk : IsAsk h n f ac bu roots co L) : (outR f L roots co).length ≤ 400 ∧ (outG f L roots co).length ≤ 400 := by
  by_cases h0 : co = 0
  · subst h0
    obtain ⟨h1, h2, h3, h4⟩ := isAsk_zero hk
    have hri := right_of h1 h2
    have h9 := reachO_length hri.points hri.size h4
    have h8 := isOI_small h2
    refine ⟨by rw [outR_zero]; omega, ?_⟩
    unfold outG
    rw [if_pos rfl]
    have := List.length_filter_le (fun p => decide (p ∉ reachO f L roots)) (placesO L)
    simp [placesO] at this ⊢
    omega
  · rw [outR_no f L roots h0, outG_no f L roots h0]; simp
end Go.Proofs.Ytihbenbfnpiikaa

namespace Go.Proofs.Ytihbenbfnpiikaa
open Go.RowKit Go.Maps
set_option linter.unusedVariables false

/-- What the closure reads. -/
structure Cap (w : World) (rb mb nn : Nat) (v : Value) (O : List Int) : Prop where
  blk : Blk w rb [.int .i64 0, v, .map (some mb)]
  map : MapT w mb nn O (fun i => (i : Int))

theorem Cap.below {w w' : World} {rb mb nn : Nat} {v : Value} {O : List Int} (h : Cap w rb mb nn v O) (hb : Below w.heap.size w w') : Cap w' rb mb nn v O := ⟨h.blk.below hb, h.map.below hb⟩
end Go.Proofs.Ytihbenbfnpiikaa

namespace Go.Proofs.Ytihbenbfnpiikaa
open Go.RowKit Go.Maps
set_option linter.unusedVariables false

/-- A row of objects that may be written. -/
structure RW (w : World) (b q N : Nat) (V : Nat → GM) : Prop where
  lt : b < w.heap.size
  six : ∀ k, k < N → SixG w b (q + k * 6) (V k)
  free : ∀ k, k < N → SixF w b (q + k * 6)
  flds : ∀ k, k < N → Src w (V k).a (V k).n (V k).f
  off : ∀ k, k < N → (V k).n = 0 ∨ (V k).g ≠ b

theorem RW.below {w w' : World} {b q N : Nat} {V : Nat → GM} (h : RW w b q N V) (hb : Below w.heap.size w w') : RW w' b q N V :=
  ⟨Nat.lt_of_lt_of_le h.lt hb.size, fun k hk => (h.six k hk).below hb h.lt, fun k hk => (h.free k hk).below hb h.lt, fun k hk => (h.flds k hk).below hb, h.off⟩

theorem src_six {w : World} {b o : Nat} {t u : GM} (h : Src w u.a u.n u.f) (hb : u.n = 0 ∨ u.g ≠ b) : Src (sixW w b o t) u.a u.n u.f := by
  rcases h with h0 | ⟨b', o', e, h1, h2⟩
  · exact .inl h0
  · rcases hb with h0 | hb
    · exact .inl h0
    · have hg : u.g = b' := by simp [GM.g, e]
      have hk := (sixW_keeps w b o t).block b' h1 (by omega)
      exact .inr ⟨b', o', e, Nat.lt_of_lt_of_le h1 (sixW_keeps w b o t).size, fun i hi => (World.cell?_of_block (w := w) (a := ⟨b', o' + i, none⟩) hk).trans (h2 i hi)⟩

theorem sixF_six {w : World} {b o o' : Nat} {t : GM} (h : SixF w b o) : SixF (sixW w b o' t) b o :=
  ⟨(sixW_frozen _ _ _ _ _).trans h.1, (sixW_frozen _ _ _ _ _).trans h.2.1, (sixW_frozen _ _ _ _ _).trans h.2.2.1, (sixW_frozen _ _ _ _ _).trans h.2.2.2.1, (sixW_frozen _ _ _ _ _).trans h.2.2.2.2.1, (sixW_frozen _ _ _ _ _).trans h.2.2.2.2.2⟩

theorem RW.set {w : World} {b q N i : Nat} {V : Nat → GM} {t : GM} (h : RW w b q N V) (hi : i < N) (hs : Src w t.a t.n t.f) (ho : t.n = 0 ∨ t.g ≠ b) : RW (sixW w b (q + i * 6) t) b q N (fun k => if k = i then t else V k) := by
  refine ⟨Nat.lt_of_lt_of_le h.lt (sixW_keeps w b _ t).size, fun k hk => ?_, fun k hk => sixF_six (h.free k hk), fun k hk => ?_, fun k hk => ?_⟩
  · by_cases e : k = i
    · subst e; rw [if_pos rfl]; exact sixW_at (h.six k hk) t
    · rw [if_neg e]; exact sixW_other (h.six k hk) (by omega) t
  · by_cases e : k = i
    · rw [if_pos e]; exact src_six hs ho
    · rw [if_neg e]; exact src_six (h.flds k hk) (h.off k hk)
  · by_cases e : k = i
    · rw [if_pos e]; exact ho
    · rw [if_neg e]; exact h.off k hk
end Go.Proofs.Ytihbenbfnpiikaa

namespace Go.Proofs.Ytihbenbfnpiikaa
open Go.RowKit Go.Maps
set_option linter.unusedVariables false

theorem keeps_grown {w w' : World} {b : Nat} (h : Keeps w w' b (b + 1)) : w.grownBy w' (some b) :=
  ⟨h.os, h.tape, h.output, h.size, fun k hk hne => h.block k hk (by rcases Nat.lt_trichotomy k b with h1 | h1 | h1; exact .inl h1; exact absurd (by rw [h1]) hne; exact .inr (by omega))⟩

/-- l3Objects, of an arena without a fault: some list. -/
theorem l3Objs_some (b : Nat) (h ac bu : Int) (a : Option Addr) (n c : Nat) (f : Nat → Int) (w : World) (hB : Blk w b [.int .i64 h, .slice a n c, .int .i64 ac, .int .i64 bu]) (hs : Src w a n f) (hcn : n ≤ c) (hcm : c ≤ maxLen) (hF : IsFault h n f ac bu 0) :
    Calls Try.prog 143 #[.pointer (some ⟨b, 0, none⟩)] w fun e w' => Below w.heap.size w w' ∧ ∃ (r : Bool) (a' : Option Addr) (M : List OM) (c' : Nat), e = .returned (.tuple #[.slice a' M.length c', .bool r]) ∧ OMS w' w.heap.size w.heap.size f (.slice a' M.length c') M := by
  obtain ⟨⟨⟨g1, g2⟩, ⟨g3, g4⟩, g5, g6⟩, gn, gw⟩ := isFault_ok hF
  cases hp : parse f ((baseI ac h).toNat + bu.toNat) (baseI ac h).toNat with
  | some L =>
    have ho : IsOI h n f ac bu 0 L := .inr (.inr ⟨hF, hp, rfl⟩)
    refine (l3Objs_any b h ac bu a n c f L w hB hs hcn hcm ho).mono ?_
    rintro e w' ⟨hb, v, M, hL, rfl, hm⟩
    obtain ⟨a1, k1, rfl⟩ := row_nil hm.row
    exact ⟨hb, true, a1, M, k1, rfl, hm⟩
  | none =>
    have hb := baseI_bd (ac := ac) g1
    obtain ⟨P, hP⟩ : ∃ P : Nat, baseI ac h = (P : Int) := ⟨(baseI ac h).toNat, by omega⟩
    obtain ⟨U, rfl⟩ : ∃ U : Nat, bu = (U : Int) := ⟨bu.toNat, by omega⟩
    obtain ⟨ab, ao, rfl, hab, hac⟩ := src_some hs (by omega)
    rw [hP, Int.toNat_natCast, Int.toNat_natCast] at hp
    have hPU : P + U ≤ n := by rcases (by omega : ac = 0 ∨ ac = 1) with rfl | rfl <;> simp [baseI] at hP <;> omega
    refine (l3Objects_any b P U h ac ab ao n c f w hB hs g1 g2 g3 g4 hP hPU (by omega) hcn hcm (fun i hi => by have := gw i hi; unfold Word at this; omega)).mono ?_
    rintro e w' ⟨hb1, hr⟩
    rw [hp] at hr
    obtain ⟨_, rfl⟩ | ⟨v, M, hx, _⟩ := hr
    · exact ⟨hb1, false, none, [], 0, rfl, World.ownsRow_nil _ _ _ _, ⟨fun t ht => (by cases ht), List.Pairwise.nil⟩, by simp, fun t ht => (by cases ht)⟩
    · cases hx

/-- Roots are drawn. -/
def RetRoots (W : World) (b : Nat) (ca : Option Addr) (k kc t : Nat) (e : Ending) (w' : World) : Prop :=
  ∃ (v : Value) (l : List Int) (t' : Nat), e = .returned v ∧ w'.ownsRow W.heap.size 2 1 v l.length (nums l.length (lf l)) ∧ l.length ≤ 4 ∧ Blk w' b [.slice ca k kc, .int .i64 (t' : Int)] ∧ t' ≤ t + 6 ∧ Keeps W w' b (b + 1)

set_option maxRecDepth 100000 in
set_option maxHeartbeats 3200000 in
theorem roots_any (b S : Nat) (ca : Option Addr) (k kc t : Nat) (B : Nat → Int) (P lo hi : Nat) (h ac bu : Int) (a : Option Addr) (n c : Nat) (f : Nat → Int) (w : World) (hB0 : Blk w b [.slice ca k kc, .int .i64 (t : Int)]) (hs : SrcB w S ca k B) (hS : S ≤ b) (hk0 : k ≤ 1048576) (ht : t ≤ 1000)
    (hA : Blk w P [.int .i64 h, .slice a n c, .int .i64 ac, .int .i64 bu]) (hPb : P ≠ b) (hO : OwnIn w lo hi a n f) (hlo : b + 1 ≤ lo) (hhi : hi ≤ w.heap.size) (hF : IsFault h n f ac bu 0) (hcn : n ≤ c) (hcm : c ≤ maxLen) :
    Calls Try.prog 133 #[.pointer (some ⟨b, 0, none⟩), .pointer (some ⟨P, 0, none⟩)] w (RetRoots w b ca k kc t) := by
  have S_0 := Lib.hid hB0; have B_0 := Lib.hid hs; have A_0 := Lib.hid hA; have O_0 := Lib.hid hO; have HF := Lib.hid hF; have HCM := Lib.hid hcm
  have hbl := hB0.1; have hPl := hA.1
  have hSl : S ≤ w.heap.size := by omega
  obtain ⟨i0, hif, hz0, hz1, hz2⟩ := info_parts Try.info2
  clear hB0 hs hA hO hF hcm
  go_enter Try.func133, Try.ntmps133
  go_wp2_with fail
  have K_a := Lib.hid ((Keeps.refl w b (b + 1)).alloc (.cells #[] 2))
  have S_a := Lib.hid (S_0.out.alloc (.cells #[] 2)); have B_a := Lib.hid (B_0.out.alloc (.cells #[] 2)); have A_a := Lib.hid (A_0.out.alloc (.cells #[] 2)); have O_a := Lib.hid (O_0.out.alloc (.cells #[] 2))
  have OWa : Hid ((w.alloc (.cells #[] 2)).ownsRow w.heap.size 2 1 (.slice (some ⟨w.heap.size, 0, none⟩) 0 0) ([] : List Int).length (nums ([] : List Int).length (lf []))) := World.ownsRow_lit w #[] 0 (Nat.le_refl _) (by simp [maxLen]) rfl
  clear S_0 B_0 A_0 O_0
  generalize w.alloc (.cells #[] 2) = wa at *
  refine (next_is 4 b S ca k kc t 4 B _ rfl S_a.out B_a.out hS hk0 (by omega) (by omega) (by omega)).mono ?_
  rintro e w1 ⟨m, rfl, hm4, hB, hk⟩
  have K_1 := Lib.hid (K_a.out.trans hk)
  have S_1 : Hid (Blk w1 b [.slice ca k kc, .int .i64 ((t + 1 : Nat) : Int)]) := Lib.hid (by have := hB; simpa using this)
  have B_1 := Lib.hid (B_a.out.keeps hk hS)
  have A_1 := Lib.hid (A_a.out.keeps hk (by omega)); have O_1 := Lib.hid (O_a.out.keeps hk (by omega))
  have OW_1 := Lib.hid (OWa.out.kept (keeps_grown hk) (.inr (by simp [Value.ownBlock]; omega)))
  clear hB hk K_a S_a B_a A_a O_a OWa
  go_wp2
  go_loopw [5, 6] (fun u p wr => ∃ (cnt t1 : Nat) (l : List Int), p = .int .i64 (cnt : Int) ∧ cnt + l.length ≤ 4 ∧ t1 + cnt ≤ t + 6 ∧ Hid (Keeps w wr b (b + 1)) ∧ Hid (Blk wr b [.slice ca k kc, .int .i64 (t1 : Int)]) ∧ Hid (SrcB wr S ca k B) ∧ Hid (Blk wr P [.int .i64 h, .slice a n c, .int .i64 ac, .int .i64 bu]) ∧ Hid (OwnIn wr lo hi a n f) ∧ Hid (wr.ownsRow w.heap.size 2 1 u l.length (nums l.length (lf l)))) (fun _ p _ => (intOf p).toNat)
  case atStart => exact ⟨m, t + 1, [], rfl, by simp; omega, by omega, K_1, S_1, B_1, A_1, O_1, OW_1⟩
  case round =>
    clear K_1 S_1 B_1 A_1 O_1 OW_1
    obtain ⟨cnt, t1, l, rfl, hcl, htc, K_r, S_r, B_r, A_r, O_r, OW_r⟩ := hrel
    have hzr := K_r.out.size
    by_cases h0 : 0 < cnt
    · have h0' : (0 : Int) < (cnt : Int) := by omega
      go_wp2_with fail
      refine (l3Objs_some P h ac bu a n c f _ A_r.out O_r.out.src hcn HCM.out HF.out).mono ?_
      rintro e w2 ⟨hb, r, a2, M, c2, rfl, hm⟩
      have hkb := keeps_of_below hb b (b + 1)
      have K_2 := Lib.hid (K_r.out.trans hkb)
      have S_2 := Lib.hid (S_r.out.below hb); have B_2 := Lib.hid (B_r.out.below hb); have A_2 := Lib.hid (A_r.out.below hb); have O_2 := Lib.hid (O_r.out.below hb); have OW_2 := Lib.hid (ownsRow_below OW_r.out hb)
      have M_2 := Lib.hid hm
      have hml := hm.len
      have z2 := hb.size
      clear hb hkb hm K_r S_r B_r A_r O_r OW_r
      by_cases hM : 0 < M.length
      · have hM' : (0 : Int) < (M.length : Int) := by omega
        go_wp2_with fail
        refine (next_is (M.length : Int) b S ca k kc t1 M.length B _ rfl S_2.out B_2.out hS hk0 (by omega) (by omega) (by omega)).mono ?_
        rintro e w3 ⟨j, rfl, hj, hB, hk⟩
        have K_3 := Lib.hid (K_2.out.trans hk)
        have S_3 : Hid (Blk w3 b [.slice ca k kc, .int .i64 ((t1 + 1 : Nat) : Int)]) := Lib.hid (by have := hB; simpa using this)
        have B_3 := Lib.hid (B_2.out.keeps hk hS)
        have A_3 := Lib.hid (A_2.out.keeps hk (by omega)); have O_3 := Lib.hid (O_2.out.keeps hk (by omega))
        have OW_3 := Lib.hid (OW_2.out.kept (keeps_grown hk) (.inr (fun e => by have := (OW_2.out.lt b e).1; omega)))
        have z3 := hk.size
        obtain ⟨x, hx⟩ : ∃ x, (M.map OM.x)[j]? = some x := ⟨_, List.getElem?_eq_getElem (by simpa using hj)⟩
        obtain ⟨g1, cc1, g, cg, e1, hjm, l1, x0, x1, x2, x3, x4, x5, lg, hfc, hss, hmm, hat, hwd⟩ := M_2.out.get hx
        simp only [Value.slice.injEq] at e1
        obtain ⟨rfl, -, rfl⟩ := e1
        have hgb : w.heap.size ≤ g1 := by
          have := M_2.out.row.lt g1 rfl
          omega
        have x0' := (World.cell?_of_block (w := w2) (a := ⟨g1, j * 6, none⟩) (hk.block g1 l1 (by omega))).trans x0
        have hj' : (j : Int) < (M.length : Int) := by omega
        have hj0 : (0 : Int) ≤ (j : Int) := by omega
        have HGE : Hid (∀ k, u5.ownBlock = some k → w.heap.size ≤ k) := Lib.hid (fun k hk => (OW_3.out.lt k hk).1)
        generalize x.at_ = y at *
        clear hB hk K_2 S_2 B_2 A_2 O_2 OW_2 M_2 hx x0 x1 x2 x3 x4 x5 lg hfc hss hmm hat hwd
        go_wp2_with (at_builtin; go_loud (refine wpList_append_lies _ rfl _ _ 24 rfl w.heap.size 2 i0 (.int .i64 0) 1 8 Try.underlying24 hif hz0 hz1 hz2 rfl (by decide) u5 l.length (nums l.length (lf l)) rfl (ownsRow_below OW_3.out ((Below.refl _ _).alloc (Nat.le_refl _) _)) ⟨w3.heap.size, 0, none⟩ 1 1 [.int .i64 y] rfl rfl (news1 w3 y) (by intro u hu; simp only [List.mem_cons, List.mem_nil_iff, or_false] at hu; subst hu; rfl) (by omega) (by unfold maxLen; omega) (by omega) (by simp; omega) (w3.heap.size + 1) (by simp) ?_); intro g9 cap9 w9 hown9 hgrow9 hat9 hlt9)
        have hz9 : w3.heap.size ≤ w9.heap.size := by have := hgrow9.size; simp at this; omega
        have hk9 : Keeps w3 w9 w.heap.size w9.heap.size := ⟨hgrow9.os, hgrow9.tape, hgrow9.output, hz9, fun q hq hd => by
          rcases hd with hd | hd
          · exact (hgrow9.block q (by simp; omega) (fun e => by have := HGE.out q e.symm; omega)).trans (Below.heap_alloc _ _ _ hq)
          · omega⟩
        have K_9 : Hid (Keeps w w9 b (b + 1)) := Lib.hid ⟨hk9.os.trans K_3.out.os, hk9.tape.trans K_3.out.tape, hk9.output.trans K_3.out.output, Nat.le_trans K_3.out.size hk9.size, fun q hq hd => (hk9.block q (by omega) (.inl hq)).trans (K_3.out.block q hq hd)⟩
        have S_9 := Lib.hid (S_3.out.keeps hk9 (.inl hbl)); have B_9 := Lib.hid (B_3.out.keeps hk9 hSl); have A_9 := Lib.hid (A_3.out.keeps hk9 (.inl hPl)); have O_9 := Lib.hid (O_3.out.keeps hk9 (.inl hhi))
        have OW_9 : Hid (w9.ownsRow w.heap.size 2 1 (.slice (some ⟨g9, 0, none⟩) (l.length + 1) cap9) (l ++ [y]).length (nums (l ++ [y]).length (lf (l ++ [y])))) := Lib.hid (by
          rw [show (l ++ [y]).length = l.length + 1 by simp, ← nums_snoc]; exact hown9)
        clear hown9 hgrow9 hat9 hk9 K_3 S_3 B_3 A_3 O_3 OW_3 x0'
        go_wp2
        go_roundw
        case rel => first | exact ⟨cnt - 1, t1 + 1, l ++ [y], by go_num, by simp; omega, by omega, K_9, S_9, B_9, A_9, O_9, OW_9⟩ | ((repeat apply Exists.intro); exact ⟨⟨cnt - 1, t1 + 1, l ++ [y], by go_num, by simp; omega, by omega, K_9, S_9, B_9, A_9, O_9, OW_9⟩, rfl⟩)
        case measure => simp [intOf]; omega
      · have hM' : ¬ (0 : Int) < (M.length : Int) := by omega
        go_wp2
        go_roundw
        case rel => first | exact ⟨cnt - 1, t1, l, by go_num, by omega, by omega, K_2, S_2, B_2, A_2, O_2, OW_2⟩ | ((repeat apply Exists.intro); exact ⟨⟨cnt - 1, t1, l, by go_num, by omega, by omega, K_2, S_2, B_2, A_2, O_2, OW_2⟩, rfl⟩)
        case measure => simp [intOf]; omega
    · have h0' : ¬ (0 : Int) < (cnt : Int) := by omega
      go_wp2
      go_ret
      exact ⟨_, l, t1, rfl, OW_r.out, by omega, S_r.out, by omega, K_r.out⟩
end Go.Proofs.Ytihbenbfnpiikaa

namespace Go.Proofs.Ytihbenbfnpiikaa
open Go.RowKit Go.Maps
set_option linter.unusedVariables false

def RetDR (W : World) (e : Ending) (w' : World) : Prop :=
  ∃ (h ac bu : Int) (n c : Nat) (a : Option Addr) (f : Nat → Int) (l : List Int) (ra : Option Addr) (rc : Nat), e = .returned (.tuple #[.agg #[.int .i64 h, .slice a n c, .int .i64 ac, .int .i64 bu], .slice ra l.length rc]) ∧ Own w' W.heap.size a n f ∧ Own w' W.heap.size ra l.length (lf l) ∧ Below W.heap.size W w' ∧ n ≤ 120 ∧ n ≤ c ∧ c ≤ maxLen ∧ l.length ≤ 100

/-- What is carried through the draw: the source, the bytes, the arena, the answer's block, the arena's words, the roots. -/
structure DS (W w : World) (ca : Option Addr) (k kc : Nat) (B : Nat → Int) (t P : Nat) (h ac bu : Int) (a : Option Addr) (n c : Nat) (f : Nat → Int) (u : Value) (l : List Int) : Prop where
  bel : Below W.heap.size W w
  src : Blk w (W.heap.size + 1) [.slice ca k kc, .int .i64 (t : Int)]
  byt : SrcB w (W.heap.size + 1) ca k B
  arn : Blk w P [.int .i64 h, .slice a n c, .int .i64 ac, .int .i64 bu]
  res : Blk w W.heap.size [.int .i64 0, .slice none 0 0, .int .i64 0, .int .i64 0]
  wrd : OwnIn w (W.heap.size + 2) P a n f
  row : w.ownsRow (P + 1) 2 1 u l.length (nums l.length (lf l))
  hP : W.heap.size + 2 ≤ P

theorem DS.below {W w w' : World} {ca : Option Addr} {k kc t P : Nat} {B f : Nat → Int} {h ac bu : Int} {a : Option Addr} {n c : Nat} {u : Value} {l : List Int} (d : DS W w ca k kc B t P h ac bu a n c f u l) (hb : Below w.heap.size w w') : DS W w' ca k kc B t P h ac bu a n c f u l :=
  ⟨d.bel.trans (hb.mono d.bel.size), d.src.below hb, d.byt.below hb, d.arn.below hb, d.res.below hb, d.wrd.below hb, ownsRow_below d.row hb, d.hP⟩

theorem DS.next {W w w' : World} {ca : Option Addr} {k kc t t' P : Nat} {B f : Nat → Int} {h ac bu : Int} {a : Option Addr} {n c : Nat} {u : Value} {l : List Int} (d : DS W w ca k kc B t P h ac bu a n c f u l) (hk : Keeps w w' (W.heap.size + 1) (W.heap.size + 1 + 1)) (hs : Blk w' (W.heap.size + 1) [.slice ca k kc, .int .i64 (t' : Int)]) : DS W w' ca k kc B t' P h ac bu a n c f u l := by
  have hP := d.hP
  exact ⟨d.bel.trans (hk.below (by omega) d.bel.size), hs, d.byt.keeps hk (Nat.le_refl _), d.arn.keeps hk (by omega), d.res.keeps hk (by omega), d.wrd.keeps hk (by omega), d.row.kept (keeps_grown hk) (.inr (fun e => by have := (d.row.lt _ e).1; omega)), d.hP⟩

theorem DS.append {W w w' : World} {o : Obj} {ca : Option Addr} {k kc t P : Nat} {B f : Nat → Int} {h ac bu : Int} {a : Option Addr} {n c : Nat} {u u' : Value} {l l' : List Int} (d : DS W w ca k kc B t P h ac bu a n c f u l) (hg : (w.alloc o).grownBy w' u.ownBlock) (hr : w'.ownsRow (P + 1) 2 1 u' l'.length (nums l'.length (lf l'))) : DS W w' ca k kc B t P h ac bu a n c f u' l' := by
  have hP := d.hP
  have hPw := d.arn.1
  have hz : w.heap.size ≤ w'.heap.size := by have := hg.size; simp at this; omega
  have hk : Keeps w w' (P + 1) w'.heap.size := ⟨hg.os, hg.tape, hg.output, hz, fun q hq hd => by
    rcases hd with hd | hd
    · exact (hg.block q (by simp; omega) (fun e => by have := (d.row.lt q e.symm).1; omega)).trans (Below.heap_alloc _ _ _ hq)
    · omega⟩
  exact ⟨d.bel.trans (hk.below (by omega) d.bel.size), d.src.keeps hk (.inl (by omega)), d.byt.keeps hk (by omega), d.arn.keeps hk (.inl (by omega)), d.res.keeps hk (.inl (by omega)), d.wrd.keeps hk (.inl (by omega)), hr, d.hP⟩
end Go.Proofs.Ytihbenbfnpiikaa

namespace Go.Proofs.Ytihbenbfnpiikaa
open Go.RowKit Go.Maps
set_option linter.unusedVariables false

theorem ir_code (x : Int) (y : Value) (w : World) : (Instr.field 35 (.agg #[.int .i64 x, y]) 0).run Try.prog w = .ok (.int .i64 x) w := by kernel_rfl

theorem places_nodup {f : Nat → Int} {e a : Nat} {L : List Ob} (hp : parse f e a = some L) : (placesO L).Nodup := by
  have h := parse_sorted (e - a) a L (Nat.le_refl _) hp
  unfold placesO List.Nodup
  rw [List.pairwise_map]
  exact h.imp (fun hxy => by omega)
end Go.Proofs.Ytihbenbfnpiikaa

namespace Go.Proofs.Ytihbenbfnpiikaa
open Go.RowKit Go.Maps
set_option linter.unusedVariables false

/-- What the law of what is reached has at hand. -/
structure LR (W w : World) (P P5 P6 P7 : Nat) (h ac bu : Int) (a : Option Addr) (n c : Nat) (f : Nat → Int) (ra : Option Addr) (l : List Int) (co : Int) (R : List Int) (ua : Option Addr) (uc : Nat) (G : List Int) (ga : Option Addr) (gc : Nat) (wv : Int) : Prop where
  bel : Below W.heap.size W w
  arn : Blk w P [.int .i64 h, .slice a n c, .int .i64 ac, .int .i64 bu]
  wrd : Src w a n f
  rts : Src w ra l.length (lf l)
  rb : Blk w P5 [.int .i64 co, .slice ua R.length uc]
  rl : Src w ua R.length (lf R)
  gb : Blk w P6 [.int .i64 co, .slice ga G.length gc]
  gl : Src w ga G.length (lf G)
  wb : Blk w P7 [.int .i64 co, .int .i64 wv]

section

variable {W w w' : World} {P P5 P6 P7 : Nat} {h ac bu : Int} {a : Option Addr} {n c : Nat} {f : Nat → Int} {ra : Option Addr} {l : List Int} {co : Int} {R : List Int} {ua : Option Addr} {uc : Nat} {G : List Int} {ga : Option Addr} {gc : Nat} {wv : Int}

theorem LR.below (d : LR W w P P5 P6 P7 h ac bu a n c f ra l co R ua uc G ga gc wv) (hb : Below w.heap.size w w') : LR W w' P P5 P6 P7 h ac bu a n c f ra l co R ua uc G ga gc wv :=
  ⟨d.bel.trans (hb.mono d.bel.size), d.arn.below hb, d.wrd.below hb, d.rts.below hb, d.rb.below hb, d.rl.below hb, d.gb.below hb, d.gl.below hb, d.wb.below hb⟩

theorem LR.drew (d : LR W w P P5 P6 P7 h ac bu a n c f ra l co R ua uc G ga gc wv) : LR W w.drew P P5 P6 P7 h ac bu a n c f ra l co R ua uc G ga gc wv := d.below (Below.refl _ _).drew

theorem LR.c7 (d : LR W w P P5 P6 P7 h ac bu a n c f ra l co R ua uc G ga gc wv) : w.cell? ⟨P, 0, none⟩ = some (.int .i64 h) ∧ w.cell? ⟨P, 1, none⟩ = some (.slice a n c) ∧ w.cell? ⟨P, 2, none⟩ = some (.int .i64 ac) ∧ w.cell? ⟨P, 3, none⟩ = some (.int .i64 bu) ∧ w.cell? ⟨P5, 0, none⟩ = some (.int .i64 co) ∧ w.cell? ⟨P6, 0, none⟩ = some (.int .i64 co) ∧ w.cell? ⟨P7, 0, none⟩ = some (.int .i64 co) ∧ w.cell? ⟨P7, 1, none⟩ = some (.int .i64 wv) :=
  ⟨d.arn.at 0 rfl, d.arn.at 1 rfl, d.arn.at 2 rfl, d.arn.at 3 rfl, d.rb.at 0 rfl, d.gb.at 0 rfl, d.wb.at 0 rfl, d.wb.at 1 rfl⟩

end
end Go.Proofs.Ytihbenbfnpiikaa

namespace Go.Proofs.Ytihbenbfnpiikaa
open Go.RowKit
set_option linter.unusedVariables false

/-- The word of number d of an object, behind a collection. -/
def colAt (f : Nat → Int) (R : List Int) (P : Nat) (X : List Ob) (x : Ob) (d : Nat) : Int := if d = 0 then packO x else if d = 1 then x.h else mapF f R (newPlaces P X) x (d - 2)

/-- The words of a set are so; beside the objects there is nothing. -/
structure ColOn (f : Nat → Int) (R : List Int) (P : Nat) (X : List Ob) (D : Nat → Nat → Prop) (g : Nat → Int) : Prop where
  on : ∀ j (hj : j < X.length) d, D j d → d < wordsO X[j] → g (placeAt P X j + d) = colAt f R P X X[j] d
  rest : ∀ i, ¬ (P ≤ i ∧ i < P + totO X) → g i = 0

theorem wordsO_two (x : Ob) : 2 ≤ wordsO x := by unfold wordsO; omega

theorem placeAt_mono (P : Nat) (X : List Ob) {i j : Nat} (h : i ≤ j) (hj : j ≤ X.length) : placeAt P X i ≤ placeAt P X j := by
  rcases Nat.lt_or_eq_of_le h with h1 | rfl
  · have := placeAt_lt P X i j h1 hj; omega
  · exact Nat.le_refl _

theorem placeAt_next (P : Nat) (X : List Ob) {i j : Nat} (h : i < j) (hj : j < X.length) : placeAt P X i + wordsO (X[i]'(by omega)) ≤ placeAt P X j := by
  rw [← placeAt_step P X (show i < X.length by omega)]
  exact placeAt_mono P X h (by omega)

theorem place_apart {P : Nat} {X : List Ob} {i j d e : Nat} (hi : i < X.length) (hj : j < X.length) (hd : d < wordsO X[i]) (he : e < wordsO X[j]) (h : placeAt P X i + d = placeAt P X j + e) : i = j ∧ d = e := by
  rcases Nat.lt_trichotomy i j with h1 | rfl | h1
  · have := placeAt_next P X h1 hj; omega
  · exact ⟨rfl, by omega⟩
  · have := placeAt_next P X h1 hi; omega

theorem placeAt_ge (P : Nat) (X : List Ob) (i : Nat) : P ≤ placeAt P X i := by unfold placeAt; omega

section

variable {f g : Nat → Int} {R : List Int} {P : Nat} {X : List Ob} {D E : Nat → Nat → Prop} {i d : Nat}

theorem ColOn.less (h : ColOn f R P X D g) (hD : ∀ j d, (hj : j < X.length) → d < wordsO X[j] → E j d → D j d) : ColOn f R P X E g := ⟨fun j hj d h1 h2 => h.on j hj d (hD j d hj h2 h1) h2, h.rest⟩

theorem ColOn.set (h : ColOn f R P X D g) (hi : i < X.length) (hd : d < wordsO X[i]) {v : Int} (hv : v = colAt f R P X X[i] d) : ColOn f R P X (fun j e => D j e ∨ (j = i ∧ e = d)) (upd g (placeAt P X i + d) v) := by
  refine ⟨fun j hj e h1 h2 => ?_, fun k hk => ?_⟩
  · unfold upd
    by_cases he : placeAt P X j + e = placeAt P X i + d
    · obtain ⟨rfl, rfl⟩ := place_apart hj hi h2 hd he
      rw [if_pos rfl, hv]
    · rw [if_neg he]
      rcases h1 with h1 | ⟨rfl, rfl⟩
      · exact h.on j hj e h1 h2
      · exact absurd rfl he
  · unfold upd
    have := placeAt_end P X hi
    have := placeAt_ge P X i
    rw [if_neg (by omega)]
    exact h.rest k hk

theorem ColOn.put (h : ColOn f R P X D g) (hi : i < X.length) (hd : d < wordsO X[i]) {K : Nat} (hK : K = placeAt P X i + d) {v : Int} (hv : v = colAt f R P X X[i] d) : ColOn f R P X (fun j e => D j e ∨ (j = i ∧ e = d)) (upd g K v) := by rw [hK]; exact h.set hi hd hv

/-- All the words of an object at once. -/
theorem ColOn.obj (h : ColOn f R P X D g) (hi : i < X.length) {g' : Nat → Int} (hin : ∀ d, d < wordsO X[i] → g' (placeAt P X i + d) = colAt f R P X X[i] d) (hout : ∀ k, ¬ (placeAt P X i ≤ k ∧ k < placeAt P X i + wordsO X[i]) → g' k = g k) : ColOn f R P X (fun j e => D j e ∨ j = i) g' := by
  refine ⟨fun j hj e h1 h2 => ?_, fun k hk => ?_⟩
  · by_cases he : j = i
    · subst he; exact hin e h2
    · rw [hout _ (fun hq => he (place_apart (P := P) (d := e) (e := placeAt P X j + e - placeAt P X i) hj hi h2 (by omega) (by omega)).1)]
      rcases h1 with h1 | h1
      · exact h.on j hj e h1 h2
      · exact absurd h1 he
  · have := placeAt_end P X hi
    have := placeAt_ge P X i
    rw [hout k (by omega)]
    exact h.rest k hk

theorem headsAt_of {g : Nat → Int} : ∀ (X : List Ob) (P : Nat), (∀ (i : Nat) (hi : i < X.length), g (placeAt P X i) = packO X[i] ∧ g (placeAt P X i + 1) = X[i].h) → HeadsAt g P X
  | [], _, _ => trivial
  | x :: X, P, h => by
    have h0 := h 0 (by simp)
    rw [placeAt_zero] at h0
    refine ⟨h0.1, h0.2, headsAt_of X (P + wordsO x) fun i hi => ?_⟩
    have := h (i + 1) (by simpa using hi)
    rw [placeAt_succ] at this
    simpa using this

theorem isCol_of {L : List Ob} (h : ColOn f R P (objsO L R) (fun _ _ => True) g) : IsCol f L R P g := by
  refine ⟨headsAt_of _ _ fun i hi => ?_, fun i hi k hk => ?_, h.rest⟩
  · have hw := wordsO_two (objsO L R)[i]
    have h0 := h.on i hi 0 trivial (by omega)
    have h1 := h.on i hi 1 trivial (by omega)
    unfold colAt at h0 h1
    rw [if_pos rfl] at h0
    rw [if_neg (by omega), if_pos rfl] at h1
    exact ⟨h0, h1⟩
  · have h0 := h.on i hi (2 + k) trivial (by unfold wordsO; omega)
    unfold colAt at h0
    rw [if_neg (by omega), if_neg (by omega), show 2 + k - 2 = k by omega, ← Nat.add_assoc] at h0
    exact h0

theorem colOn_zero : ColOn f R P X (fun _ _ => False) (fun _ => 0) := ⟨fun _ _ _ h => h.elim, fun _ _ => rfl⟩

theorem ColOn.congr {g' : Nat → Int} (h : ColOn f R P X D g) (e : ∀ k, g' k = g k) : ColOn f R P X D g' := ⟨fun j hj d h1 h2 => (e _).trans (h.on j hj d h1 h2), fun i hi => (e i).trans (h.rest i hi)⟩

end

theorem newPlaces_lf (P : Nat) (X : List Ob) {i : Nat} (hi : i < X.length) : lf (newPlaces P X) i = (placeAt P X i : Int) := newPlaces_get P X hi

theorem newPlaces_take (P : Nat) (X : List Ob) {i : Nat} (hi : i < X.length) : (newPlaces P X).take (i + 1) = (newPlaces P X).take i ++ [(placeAt P X i : Int)] := by
  rw [List.take_succ_eq_append_getElem (by rw [newPlaces_length]; exact hi), ← lf_at (by rw [newPlaces_length]; exact hi), newPlaces_lf P X hi]

theorem totO_take (X : List Ob) {i : Nat} (hi : i < X.length) : totO (X.take (i + 1)) = totO (X.take i) + wordsO X[i] := by
  have := placeAt_step 0 X hi
  unfold placeAt at this
  omega

theorem goes_num {R Q : List Int} {p : Int} {i : Nat} (h : numL R p = some i) : goes R Q p = Q.getD i 0 := by unfold goes; rw [h]; rfl
end Go.Proofs.Ytihbenbfnpiikaa

namespace Go.Proofs.Ytihbenbfnpiikaa
open Go.RowKit
set_option linter.unusedVariables false

/-- A head lies amid a block. -/
structure HdAt (w : World) (d q : Nat) (s m o h : Int) : Prop where
  lt : d < w.heap.size
  c0 : w.cell? ⟨d, q, none⟩ = some (.int .i64 s)
  c1 : w.cell? ⟨d, q + 1, none⟩ = some (.int .i64 m)
  c2 : w.cell? ⟨d, q + 2, none⟩ = some (.int .i64 o)
  c3 : w.cell? ⟨d, q + 3, none⟩ = some (.int .i64 h)

theorem HdAt.block {w w' : World} {d q : Nat} {s m o h : Int} (x : HdAt w d q s m o h) (e : w'.heap[d]? = w.heap[d]?) (z : w.heap.size ≤ w'.heap.size) : HdAt w' d q s m o h :=
  ⟨Nat.lt_of_lt_of_le x.lt z, (World.cell?_of_block (a := ⟨d, q, none⟩) e).trans x.c0, (World.cell?_of_block (a := ⟨d, q + 1, none⟩) e).trans x.c1, (World.cell?_of_block (a := ⟨d, q + 2, none⟩) e).trans x.c2, (World.cell?_of_block (a := ⟨d, q + 3, none⟩) e).trans x.c3⟩

theorem HdAt.below {w w' : World} {d q : Nat} {s m o h : Int} (x : HdAt w d q s m o h) (hb : Below w.heap.size w w') : HdAt w' d q s m o h := x.block (hb.block d x.lt) hb.size

theorem HdAt.drew {w : World} {d q : Nat} {s m o h : Int} (x : HdAt w d q s m o h) : HdAt w.drew d q s m o h := x.below (Below.refl _ _).drew

theorem HdAt.alloc {w : World} {d q : Nat} {s m o h : Int} (x : HdAt w d q s m o h) (ob : Obj) : HdAt (w.alloc ob) d q s m o h := x.below ((Below.refl _ _).alloc (Nat.le_refl _) ob)

theorem HdAt.other {w : World} {d q : Nat} {s m o h : Int} (x : HdAt w d q s m o h) {p : Addr} (hp : p.block ≠ d) (u : Value) : HdAt (w.setCell p u) d q s m o h := x.block (Below.heap_setCell w p u d (fun e => hp e.symm)) (by simp)

set_option maxRecDepth 100000 in
set_option maxHeartbeats 1600000 in
theorem l2Pack_at (d q : Nat) (s m o h : Int) (w : World) (hB : HdAt w d q s m o h) (hk : HOk s m o h) :
    Calls Try.prog 194 #[.pointer (some ⟨d, q, none⟩)] w fun e w' => e = .returned (.slice (some ⟨w.heap.size, 0, none⟩) 2 2) ∧ Blk w' w.heap.size [.int .i64 (1 + 2 * (s + 16 * (m + 4096 * o))), .int .i64 h] ∧ Below w.heap.size w w' := by
  obtain ⟨⟨q1, q2⟩, ⟨q3, q4⟩, ⟨q5, q6⟩, q7, q8⟩ := hk
  have q9 := P2_le q2
  have q4' : m ≤ 4095 := by omega
  have H1 := Lib.hid hB
  have H2 := Lib.hid hB.drew
  have lB := hB.lt
  clear hB q4 q9
  go_enter Try.func194, Try.ntmps194
  go_wp2
  go_region_held3 (fun w' => w'.cell? ⟨d, q, none⟩ = some (.int .i64 s) ∧ w'.cell? ⟨d, q + 1, none⟩ = some (.int .i64 m) ∧ w'.cell? ⟨d, q + 2, none⟩ = some (.int .i64 o) ∧ w'.cell? ⟨d, q + 3, none⟩ = some (.int .i64 h))
    (first | (with_reducible exact ⟨(H1.out).c0, (H1.out).c1, (H1.out).c2, (H1.out).c3⟩) | (with_reducible exact ⟨(H2.out).c0, (H2.out).c1, (H2.out).c2, (H2.out).c3⟩) | (with_reducible exact ⟨((H1.out.alloc _).drew).c0, ((H1.out.alloc _).drew).c1, ((H1.out.alloc _).drew).c2, ((H1.out.alloc _).drew).c3⟩))
    (fail)
  have hw : IntKind.i64.wrap (1 + IntKind.i64.wrap (2 * IntKind.i64.wrap (s + IntKind.i64.wrap (16 * IntKind.i64.wrap (m + IntKind.i64.wrap (4096 * o)))))) = (1 + 2 * (s + 16 * (m + 4096 * o))) := by
    rw [IntWalk.i64_in (4096 * o) (by omega), IntWalk.i64_in (m + 4096 * o) (by omega), IntWalk.i64_in (16 * (m + 4096 * o)) (by omega), IntWalk.i64_in (s + 16 * (m + 4096 * o)) (by omega), IntWalk.i64_in (2 * (s + 16 * (m + 4096 * o))) (by omega), IntWalk.i64_in _ (by omega)]
  rw [hw]
  clear hw
  go_wp2
  go_ret
  exact ⟨rfl, (Blk.new_at (w.heap.size) rfl).drew, ((Below.refl _ _).alloc (Nat.le_refl _) _).drew⟩

theorem ownIn_put {w : World} {lo hi g q n : Nat} {f : Nat → Int} (h : OwnIn w lo hi (some ⟨g, q, none⟩) n f) (k : Nat) (hk : k < n) (v : Int) : OwnIn (w.setCell ⟨g, q + k, none⟩ (.int .i64 v)) lo hi (some ⟨g, q, none⟩) n (upd f k v) := (h.stored k hk v).1

theorem ownIn_other {w : World} {lo hi g q n : Nat} {f : Nat → Int} (h : OwnIn w lo hi (some ⟨g, q, none⟩) n f) {p : Addr} (hp : p.block ≠ g) (u : Value) : OwnIn (w.setCell p u) lo hi (some ⟨g, q, none⟩) n f := by
  rcases h with h0 | ⟨b', o', he, h1, hb', hc'⟩
  · exact .inl h0
  · cases he
    refine .inr ⟨g, q, rfl, h1, by simpa using hb', fun i hi => ⟨?_, ?_⟩⟩
    · rw [World.cell?_setCell_other _ _ _ _ (fun e => hp (by rw [e]))]; exact (hc' i hi).1
    · rw [World.frozen?_setCell]; exact (hc' i hi).2

set_option maxRecDepth 100000 in
set_option maxHeartbeats 3200000 in
theorem l3Put_at (lo hi b d e0 g q P U K : Nat) (h ac s m o hh : Int) (n c : Nat) (f : Nat → Int) (w : World) (hBb : (lo ≤ b ∧ b < hi) ∧ (lo ≤ g ∧ g < hi) ∧ b ≠ g ∧ d ≠ b ∧ d ≠ g) (lhi : hi ≤ w.heap.size)
    (hB : Blk w b [.int .i64 h, .slice (some ⟨g, q, none⟩) n c, .int .i64 ac, .int .i64 (U : Int)]) (hD : HdAt w d e0 s m o hh) (ho : OwnIn w lo hi (some ⟨g, q, none⟩) n f)
    (h1 : 8 ≤ h) (h2 : h ≤ 200) (h3 : 0 ≤ ac) (h4 : ac ≤ 1) (hP : baseI ac h = (P : Int)) (hn : (n : Int) = 2 * h) (hKe : K = P + U) (hU : K + 2 ≤ n) (hk : HOk s m o hh) :
    Calls Try.prog 146 #[.pointer (some ⟨b, 0, none⟩), .pointer (some ⟨d, e0, none⟩)] w fun e w' => e = .returned (.int .i64 (K : Int)) ∧ Blk w' b [.int .i64 h, .slice (some ⟨g, q, none⟩) n c, .int .i64 ac, .int .i64 ((U : Int) + (s + 2))] ∧ OwnIn w' lo hi (some ⟨g, q, none⟩) n (upd (upd f K (1 + 2 * (s + 16 * (m + 4096 * o)))) (K + 1) hh) ∧ Keeps w w' lo hi := by
  have c0 := hB.at 0 rfl; have c1 := hB.at 1 rfl; have c2 := hB.at 2 rfl; have c3 := hB.at 3 rfl
  have l0 := hB.1; have ld := hD.lt
  have HB := Lib.hid hB; have HD := Lib.hid hD; have HO := Lib.hid ho; have HK := Lib.hid hk; have HN := Lib.hid hn; have HP := Lib.hid hP
  clear hB hD ho hk hn hP
  go_enter Try.func146, Try.ntmps146
  have HB2 := Lib.hid HB.out.drew
  go_wp2_with fail
  have hw : IntKind.i64.wrap ((P : Int) + (U : Int)) = (K : Int) := by have := HN.out; rw [IntWalk.i64_in _ (by omega)]; omega
  go_region_held3 (fun w' => w'.cell? ⟨b, 0, none⟩ = some (.int .i64 h) ∧ w'.cell? ⟨b, 1, none⟩ = some (.slice (some ⟨g, q, none⟩) n c) ∧ w'.cell? ⟨b, 2, none⟩ = some (.int .i64 ac) ∧ w'.cell? ⟨b, 3, none⟩ = some (.int .i64 (U : Int)))
    (first | (with_reducible exact ⟨(HB.out).at 0 rfl, (HB.out).at 1 rfl, (HB.out).at 2 rfl, (HB.out).at 3 rfl⟩) | (with_reducible exact ⟨(HB2.out).at 0 rfl, (HB2.out).at 1 rfl, (HB2.out).at 2 rfl, (HB2.out).at 3 rfl⟩) | (with_reducible exact ⟨(HB1.out).at 0 rfl, (HB1.out).at 1 rfl, (HB1.out).at 2 rfl, (HB1.out).at 3 rfl⟩))
    (first | (go_at_call 89; refine (l1Base_eq (P : Int) b h ac (U : Int) (some ⟨g, q, none⟩) n c _ HP.out HB2.out h1 h2 h3 h4).mono ?_; rintro e w1 ⟨rfl, hb⟩; have HB1 := Lib.hid (HB2.out.below hb); have HD1 := Lib.hid (HD.out.drew.below hb); have HO1 := Lib.hid (HO.out.drew.below hb); have HW1 := Lib.hid ((keeps_of_below (Below.refl _ w).drew lo hi).trans (keeps_of_below hb lo hi)); clear hb))
  clear HB HB2 HD HO
  rw [show (P : Int) + (U : Int) = (K : Int) from by omega]
  clear hw
  have HKe := Lib.hid hKe
  clear hKe
  go_wp2_with fail
  refine (l2Pack_at d e0 s m o hh _ HD1.out HK.out).mono ?_
  rintro e w2 ⟨rfl, hw2, hb⟩
  have z1 : w.heap.size ≤ w1.heap.size := HW1.out.size
  have z2 : w1.heap.size ≤ w2.heap.size := hb.size
  have HB2 := Lib.hid (HB1.out.below hb); have HD2 := Lib.hid (HD1.out.below hb); have HO2 := Lib.hid (HO1.out.below hb); have HW2 := Lib.hid (HW1.out.trans (keeps_of_below hb lo hi)); have HV2 := Lib.hid hw2
  clear HB1 HD1 HO1 HW1 hw2 hb
  have z0 : hi ≤ w2.heap.size := by omega
  have b0 := HB2.out.at 0 rfl; have b1 := HB2.out.at 1 rfl; have b3 := HB2.out.at 3 rfl; have b3f := HB2.out.free 3 rfl; have v0 := HV2.out.at 0 rfl; have v1 := HV2.out.at 1 rfl
  obtain ⟨lg, hg⟩ := own_get HO2.out.out (by omega)
  have g0 := (hg K (by omega)).1; have g0f := (hg K (by omega)).2; have g1 := (hg (K + 1) (by omega)).1; have g1f := (hg (K + 1) (by omega)).2
  clear hg
  have lv := HV2.out.1; have lb2 := HB2.out.1
  clear c0 c1 c2 c3 l0 ld
  have hPU : K + 2 ≤ 400 := by have := HN.out; omega
  have hK0 : (0 : Int) ≤ (K : Int) := by omega
  have hPn : (K : Int) < (n : Int) := by omega
  have hPn1 : (K : Int) + 1 < (n : Int) := by omega
  go_wp2
  have HBd := Lib.hid HB2.out.drew; have HVd := Lib.hid HV2.out.drew; have HDd := Lib.hid HD2.out.drew
  have hgb : g ≠ b := fun e => hBb.2.2.1 e.symm
  have hgd : g ≠ d := fun e => hBb.2.2.2.2 e.symm
  have hgv : g ≠ w1.heap.size := by omega
  go_region_held3 (fun w' => w'.cell? ⟨b, 1, none⟩ = some (.slice (some ⟨g, q, none⟩) n c) ∧ w'.cell? ⟨w1.heap.size, 0, none⟩ = some (.int .i64 (1 + 2 * (s + 16 * (m + 4096 * o)))))
    (first | (with_reducible exact ⟨HB2.out.at 1 rfl, HV2.out.at 0 rfl⟩) | (with_reducible exact ⟨HBd.out.at 1 rfl, HVd.out.at 0 rfl⟩) | (with_reducible exact ⟨(HBd.out.other (p := ⟨g, q + K, none⟩) hgb _).at 1 rfl, (HVd.out.other (p := ⟨g, q + K, none⟩) hgv _).at 0 rfl⟩) | (with_reducible exact ⟨((HB2.out.other (p := ⟨g, q + K, none⟩) hgb _).drew).at 1 rfl, ((HV2.out.other (p := ⟨g, q + K, none⟩) hgv _).drew).at 0 rfl⟩))
    (fail)
  have kd : ∀ w : World, Keeps w w.drew lo hi := fun w => keeps_of_below (Below.refl _ w).drew lo hi
  have HB3 := Lib.hid (HB2.out.other (p := ⟨g, q + K, none⟩) hgb (.int .i64 (1 + 2 * (s + 16 * (m + 4096 * o))))).drew
  have HD3 := Lib.hid (HD2.out.other (p := ⟨g, q + K, none⟩) hgd (.int .i64 (1 + 2 * (s + 16 * (m + 4096 * o))))).drew
  have HV3 := Lib.hid (HV2.out.other (p := ⟨g, q + K, none⟩) hgv (.int .i64 (1 + 2 * (s + 16 * (m + 4096 * o))))).drew
  have HO3 := Lib.hid (ownIn_put HO2.out K (by omega) (1 + 2 * (s + 16 * (m + 4096 * o)))).drew
  have HW3 := Lib.hid ((HW2.out.trans (keeps_setCell (p := ⟨g, q + K, none⟩) hBb.2.1.1 hBb.2.1.2 (.int .i64 (1 + 2 * (s + 16 * (m + 4096 * o)))))).trans (kd _))
  have z3 : w2.heap.size ≤ (w2.setCell ⟨g, q + K, none⟩ (.int .i64 (1 + 2 * (s + 16 * (m + 4096 * o))))).drew.heap.size := by simp
  have KD := Lib.hid kd
  clear kd b0 b1 b3 b3f v0 v1 lg g0 g0f g1 g1f lv lb2 HBd HVd HDd HB2 HD2 HV2 HO2 HW2
  generalize (w2.setCell ⟨g, q + K, none⟩ (.int .i64 (1 + 2 * (s + 16 * (m + 4096 * o))))).drew = w3 at *
  have lb3 := HB3.out.1
  have b1 := HB3.out.at 1 rfl; have v1 := HV3.out.at 1 rfl; have lv := HV3.out.1
  obtain ⟨lg, hg⟩ := own_get HO3.out.out (by omega)
  have g1 := (hg (K + 1) (by omega)).1; have g1f := (hg (K + 1) (by omega)).2
  clear hg
  go_wp2
  have hw1 : IntKind.i64.wrap ((K : Int) + 1) = (K : Int) + 1 := IntWalk.i64_in _ (by omega)
  have hK1 : (0 : Int) ≤ (K : Int) + 1 := by omega
  have hK2 : ((K : Int) + 1).toNat = K + 1 := by omega
  have HBd := Lib.hid HB3.out.drew; have HVd := Lib.hid HV3.out.drew
  go_region_held3 (fun w' => w'.cell? ⟨b, 1, none⟩ = some (.slice (some ⟨g, q, none⟩) n c) ∧ w'.cell? ⟨w1.heap.size, 1, none⟩ = some (.int .i64 hh))
    (first | (with_reducible exact ⟨HB3.out.at 1 rfl, HV3.out.at 1 rfl⟩) | (with_reducible exact ⟨HBd.out.at 1 rfl, HVd.out.at 1 rfl⟩) | (with_reducible exact ⟨(HBd.out.other (p := ⟨g, q + (K + 1), none⟩) hgb _).at 1 rfl, (HVd.out.other (p := ⟨g, q + (K + 1), none⟩) hgv _).at 1 rfl⟩) | (with_reducible exact ⟨((HB3.out.other (p := ⟨g, q + (K + 1), none⟩) hgb _).drew).at 1 rfl, ((HV3.out.other (p := ⟨g, q + (K + 1), none⟩) hgv _).drew).at 1 rfl⟩))
    (fail)
  have HB4 := Lib.hid (HB3.out.other (p := ⟨g, q + (K + 1), none⟩) hgb (.int .i64 hh)).drew
  have HD4 := Lib.hid (HD3.out.other (p := ⟨g, q + (K + 1), none⟩) hgd (.int .i64 hh)).drew
  have HO4 := Lib.hid (ownIn_put HO3.out (K + 1) (by omega) hh).drew
  have HW4 := Lib.hid ((HW3.out.trans (keeps_setCell (p := ⟨g, q + (K + 1), none⟩) hBb.2.1.1 hBb.2.1.2 (.int .i64 hh))).trans (KD.out _))
  have z4 : w3.heap.size ≤ (w3.setCell ⟨g, q + (K + 1), none⟩ (.int .i64 hh)).drew.heap.size := by simp
  clear b1 v1 lv lg g1 g1f lb3 HBd HVd HB3 HD3 HV3 HO3 HW3
  generalize (w3.setCell ⟨g, q + (K + 1), none⟩ (.int .i64 hh)).drew = w4 at *
  have lb4 := HB4.out.1
  have b3 := HB4.out.at 3 rfl; have b3f := HB4.out.free 3 rfl
  have hs := HK.out.1
  go_wp2_with fail
  have HDx := Lib.hid HD4.out.drew
  have hU0 := HKe.out
  have hs2 := hs.1; have hs3 := hs.2
  have hHS := Lib.hid hs
  have hU1 : (U : Int) ≤ 400 := by omega
  clear hs hU0
  have hwU : IntKind.i64.wrap ((U : Int) + (s + 2)) = (U : Int) + (s + 2) := IntWalk.i64_in _ (by omega)
  go_region_law (first | (go_simp; go_at_call 193; refine (l2Words_at d e0 s _ HDx.out.c0 hHS.out).mono ?_; rintro e w' ⟨rfl, rfl⟩) | (go_at_call 193; refine (l2Words_at d e0 s _ HDx.out.c0 hHS.out).mono ?_; rintro e w' ⟨rfl, rfl⟩))
  all_goals (
    go_wp2
    go_ret
    exact ⟨rfl, (HB4.out.set 3 (by simp) _).drew, (ownIn_other HO4.out (p := ⟨b, 3, none⟩) hBb.2.2.1 _).drew, (HW4.out.trans (keeps_setCell (p := ⟨b, 3, none⟩) hBb.1.1 hBb.1.2 _)).trans (KD.out _)⟩)
end Go.Proofs.Ytihbenbfnpiikaa

namespace Go.Proofs.Ytihbenbfnpiikaa
open Go.RowKit Go.Maps
set_option linter.unusedVariables false

set_option maxRecDepth 100000 in
set_option maxHeartbeats 400000 in
theorem clone_opt (a : Option Addr) (n cap : Nat) (f : Nat → Int) (w : World) (hs : Src w a n f) (hn : n ≤ 1048576) :
    Calls Try.prog 166 #[.slice a n cap] w (RetInts w n f) := by
  cases a with
  | some ad => exact clone_all ad n cap f w hs hn
  | none =>
    have h0 : n = 0 := by
      rcases hs with h | ⟨b, off, h, _⟩
      · exact h
      · cases h
    subst h0
    have hnil := fun (w : World) (a : Option Addr) (n c : Nat) => Lib.run_eql_slice_nil (P := Try.prog) w 24 2 a n c 0 0 Try.underlying24
    clear hs
    go_enter Try.func166, Try.ntmps166
    go_wp2
    go_ret
    exact ⟨none, 0, rfl, .inl rfl, Below.refl _ _, Nat.le_refl _, by simp [maxLen], fun _ => ⟨rfl, rfl⟩⟩

theorem pto_any (p : Int) (w : World) (h : 0 ≤ p ∧ p ≤ 1000000) : Calls Try.prog 188 #[.int .i64 p] w (fun e w' => e = .returned (.int .i64 (p + 1)) ∧ w = w') := by
  obtain ⟨h1, h2⟩ := h
  go_enter Try.func188, Try.ntmps188
  go_wp2
  go_ret
  exact ⟨rfl, rfl⟩

/-- Where a field leads, once all stands where a table says. -/
def mvF (R : List Int) (v : Nat → Int) (t : GM) (k : Nat) : Int := if t.m / P2 (k : Int) % 2 = 1 ∧ ¬ t.f k = 0 then (tab R v (t.f k - 1)).getD 0 + 1 else t.f k

def mvT (R : List Int) (v : Nat → Int) (t : GM) : GM := ⟨(tab R v t.at_).getD 0, t.s, t.m, t.o, t.h, none, t.n, 0, mvF R v t⟩

def mvU (R : List Int) (v : Nat → Int) (t : GM) (i k : Nat) : Int := if k < i then mvF R v t k else t.f k

theorem mvU_step (R : List Int) (v : Nat → Int) (t : GM) (i : Nat) : ∀ k, upd (mvU R v t i) i (mvF R v t i) k = mvU R v t (i + 1) k := by
  intro k
  unfold upd mvU
  by_cases h : k = i
  · subst h; rw [if_pos rfl, if_pos (by omega)]
  · rw [if_neg h]
    by_cases h2 : k < i
    · rw [if_pos h2, if_pos (by omega)]
    · rw [if_neg h2, if_neg (by omega)]

theorem mvU_skip (R : List Int) (v : Nat → Int) (t : GM) (i : Nat) (h : mvF R v t i = t.f i) : ∀ k, mvU R v t i k = mvU R v t (i + 1) k := by
  intro k
  unfold mvU
  by_cases h1 : k < i
  · rw [if_pos h1, if_pos (by omega)]
  · rw [if_neg h1]
    by_cases h2 : k = i
    · subst h2; rw [if_pos (by omega), h]
    · rw [if_neg (by omega)]

theorem mvF_none {R : List Int} {v : Nat → Int} {t : GM} {k : Nat} (h : tgtV t k = none) : mvF R v t k = t.f k := by
  unfold tgtV at h
  unfold mvF
  by_cases h1 : t.m / P2 (k : Int) % 2 = 1 ∧ ¬ t.f k = 0
  · rw [if_pos h1] at h; cases h
  · rw [if_neg h1]

theorem mvF_some {R : List Int} {v : Nat → Int} {t : GM} {k : Nat} {p : Int} (h : tgtV t k = some p) : mvF R v t k = (tab R v p).getD 0 + 1 ∧ p = t.f k - 1 := by
  unfold tgtV at h
  unfold mvF
  by_cases h1 : t.m / P2 (k : Int) % 2 = 1 ∧ ¬ t.f k = 0
  · rw [if_pos h1] at h
    have := Option.some.inj h
    rw [if_pos h1, ← this]
    exact ⟨rfl, rfl⟩
  · rw [if_neg h1] at h; cases h

def RetMoved (W : World) (R : List Int) (v : Nat → Int) (t : GM) (e : Ending) (w' : World) : Prop :=
  ∃ a c, e = .returned (.agg #[.int .i64 ((tab R v t.at_).getD 0), .int .i64 t.s, .int .i64 t.m, .int .i64 t.o, .int .i64 t.h, .slice a t.n c]) ∧ Own w' W.heap.size a t.n (mvF R v t) ∧ Below W.heap.size W w'

set_option maxRecDepth 100000 in
set_option maxHeartbeats 3200000 in
theorem moved_any (t : GM) (mb nn : Nat) (R : List Int) (v : Nat → Int) (w : World) (hm : MapT w mb nn R v) (hs : Src w t.a t.n t.f) (hok : HOk t.s t.m t.o t.h) (htn : t.n = t.s.toNat) (hwd : ∀ k, k < t.n → -1000000000 ≤ t.f k ∧ t.f k ≤ 1000000000) (hat : -1000000000 ≤ t.at_ ∧ t.at_ ≤ 1000000000) (hpt : ∀ k p, k < t.n → tgtV t k = some p → 0 ≤ p ∧ p ≤ 1000000) (hv : ∀ p, 0 ≤ (tab R v p).getD 0 ∧ (tab R v p).getD 0 ≤ 1000000) :
    Calls Try.prog 139 #[.agg #[.int .i64 t.at_, .int .i64 t.s, .int .i64 t.m, .int .i64 t.o, .int .i64 t.h, .slice t.a t.n t.c], .map (some mb)] w (RetMoved w R v t) := by
  have hn12 : t.n ≤ 12 := by have := hok.1; omega
  have X0 := Lib.hid ((Blk.new_at (w := w) (cs := #[.int .i64 t.at_, .int .i64 t.s, .int .i64 t.m, .int .i64 t.o, .int .i64 t.h, .slice t.a t.n t.c]) (t := 103) w.heap.size rfl).alloc (.cells #[.int .i64 0, .int .i64 0, .int .i64 0, .int .i64 0, .int .i64 0, .slice none 0 0] 103))
  have Z0 := Lib.hid (Blk.new_at (w := w.alloc (.cells #[.int .i64 t.at_, .int .i64 t.s, .int .i64 t.m, .int .i64 t.o, .int .i64 t.h, .slice t.a t.n t.c] 103)) (cs := #[.int .i64 0, .int .i64 0, .int .i64 0, .int .i64 0, .int .i64 0, .slice none 0 0]) (t := 103) (w.heap.size + 1) (by simp))
  have HB0 := Lib.hid (((Below.refl w.heap.size w).alloc (Nat.le_refl _) (.cells #[.int .i64 t.at_, .int .i64 t.s, .int .i64 t.m, .int .i64 t.o, .int .i64 t.h, .slice t.a t.n t.c] 103)).alloc (by simp) (.cells #[.int .i64 0, .int .i64 0, .int .i64 0, .int .i64 0, .int .i64 0, .slice none 0 0] 103))
  have z0 : ((w.alloc (.cells #[.int .i64 t.at_, .int .i64 t.s, .int .i64 t.m, .int .i64 t.o, .int .i64 t.h, .slice t.a t.n t.c] 103)).alloc (.cells #[.int .i64 0, .int .i64 0, .int .i64 0, .int .i64 0, .int .i64 0, .slice none 0 0] 103)).heap.size = w.heap.size + 2 := by simp
  have HZ0 := Lib.hid z0
  have M0 := Lib.hid (hm.below HB0.out)
  have S0 := Lib.hid (hs.below HB0.out)
  have HOK := Lib.hid hok; have HTN := Lib.hid htn; have HWD := Lib.hid hwd; have HAT := Lib.hid hat; have HV := Lib.hid hv; have HPT := Lib.hid hpt
  have zl : w.heap.size + 2 ≤ ((w.alloc (.cells #[.int .i64 t.at_, .int .i64 t.s, .int .i64 t.m, .int .i64 t.o, .int .i64 t.h, .slice t.a t.n t.c] 103)).alloc (.cells #[.int .i64 0, .int .i64 0, .int .i64 0, .int .i64 0, .int .i64 0, .slice none 0 0] 103)).heap.size := by omega
  have lX := X0.out.1; have cX2 := X0.out.at 5 rfl
  clear hm hs hok htn hwd hat hv hpt z0
  go_enter Try.func139, Try.ntmps139
  go_wp2_with fail
  generalize (w.alloc (.cells #[.int .i64 t.at_, .int .i64 t.s, .int .i64 t.m, .int .i64 t.o, .int .i64 t.h, .slice t.a t.n t.c] 103)).alloc (.cells #[.int .i64 0, .int .i64 0, .int .i64 0, .int .i64 0, .int .i64 0, .slice none 0 0] 103) = w0 at *
  refine (clone_opt t.a t.n t.c t.f _ S0.out (by omega)).mono ?_
  rintro e w1 ⟨a5, c5, rfl, ho, hb, h51, h52, h53⟩
  have HB1 : Hid (Below w0.heap.size w0 w1) := Lib.hid hb
  have HO1 : Hid (Own w1 w0.heap.size a5 t.n (mvU R v t 0)) := Lib.hid (ho.congr (fun k hk => by unfold mvU; rw [if_neg (by omega)]))
  clear ho hb lX cX2 h51 h52 h53
  go_wp2
  go_loopw [14] (fun p wr => ∃ i : Nat, i ≤ t.n ∧ p = .int .i64 (i : Int) ∧ Hid (Below w0.heap.size w0 wr) ∧ Hid (Own wr w0.heap.size a5 t.n (mvU R v t i))) (fun p _ => t.n - (intOf p).toNat)
  case atStart => exact ⟨0, Nat.zero_le _, rfl, HB1, HO1⟩
  case round =>
    clear HB1 HO1
    obtain ⟨i, hi, rfl, HB, HO⟩ := hrel
    have hzr := HB.out.size
    have XR := Lib.hid (X0.out.below HB.out)
    by_cases hlt : i < t.n
    · have hlt' : (i : Int) < (t.n : Int) := by omega
      have hi0 : (0 : Int) ≤ (i : Int) := by omega
      have lX := XR.out.1; have cX0 := XR.out.at 0 rfl; have cX1 := XR.out.at 1 rfl; have cX2 := XR.out.at 2 rfl; have cX3 := XR.out.at 3 rfl; have cX4 := XR.out.at 4 rfl; have cX5 := XR.out.at 5 rfl
      go_wp2_with fail
      refine (target_any t i _ (S0.out.below HB.out) hlt HOK.out HTN.out (HWD.out i hlt)).mono ?_
      rintro e w2 ⟨hb, rfl⟩
      have HB2 := Lib.hid (HB.out.trans (hb.mono hzr))
      have HO2 := Lib.hid (HO.out.below hb)
      clear hb lX cX0 cX1 cX2 cX3 cX4 cX5
      cases ht : tgtV t i with
      | none =>
        have HS : Hid (∀ k, mvU R v t i k = mvU R v t (i + 1) k) := Lib.hid (mvU_skip R v t i (mvF_none ht))
        clear ht
        have HO3 := Lib.hid (HO2.out.congr (fun k _ => HS.out k))
        go_wp2
        go_roundw
        case rel => first | exact ⟨i + 1, by omega, by go_num, HB2, HO3⟩ | ((repeat apply Exists.intro); exact ⟨⟨i + 1, by omega, by go_num, HB2, HO3⟩, rfl⟩)
        case measure => simp [intOf]; omega
      | some p =>
        obtain ⟨hF, hp⟩ := mvF_some (R := R) (v := v) ht
        obtain ⟨hp0, hp1⟩ := HPT.out i p hlt ht
        obtain ⟨t1, t2⟩ := HV.out p
        have HLK := Lib.hid ((M0.out.below HB2.out).look (p := p) ⟨by omega, by omega⟩)
        obtain ⟨q, hq⟩ : ∃ q, (tab R v p).getD 0 = q := ⟨_, rfl⟩
        rw [hq] at HLK t1 t2 hF
        have HF := Lib.hid hF
        obtain ⟨g, o5, rfl, hgl, hgs, hgc⟩ : ∃ g o5, a5 = some ⟨g, o5, none⟩ ∧ w0.heap.size ≤ g ∧ g < w2.heap.size ∧ ∀ k, k < t.n → w2.cell? ⟨g, o5 + k, none⟩ = some (.int .i64 (mvU R v t i k)) ∧ w2.frozen? ⟨g, o5 + k, none⟩ = false := by
          rcases HO2.out with h0 | h0
          · omega
          · exact h0
        have d0 := (hgc i hlt).1; have d1 := (hgc i hlt).2
        have hlk := HLK.out
        clear hq hp ht hF hgc
        go_wp2_with fail
        refine (pto_any q _ ⟨t1, t2⟩).mono ?_
        rintro e w' ⟨rfl, rfl⟩
        go_wp2_with fail
        refine (word_ptr (q + 1) _).mono ?_
        rintro e w3 ⟨rfl, hb⟩
        have HB3 := Lib.hid (HB2.out.trans (hb.mono HB2.out.size))
        have HO3 := Lib.hid (HO2.out.below hb)
        have d2 := (hb.cell (p := ⟨g, o5 + i, none⟩) hgs).trans d0
        have d3 := (hb.frozen (p := ⟨g, o5 + i, none⟩) hgs).trans d1
        have hgs3 : g < w3.heap.size := by have := hb.size; omega
        clear hb d0 d1 hlk HLK hgs
        go_wp2
        have HB4 := Lib.hid (HB3.out.setCell (p := ⟨g, o5 + i, none⟩) hgl (.int .i64 (q + 1)))
        have HO4 : Hid (Own (w3.setCell ⟨g, o5 + i, none⟩ (.int .i64 (q + 1))) w0.heap.size (some ⟨g, o5, none⟩) t.n (mvU R v t (i + 1))) := Lib.hid ((own_put HO3.out i hlt (q + 1)).congr (fun k _ => by rw [← HF.out]; exact mvU_step R v t i k))
        clear d2 d3 HB3 HO3
        go_roundw
        case rel => first | exact ⟨i + 1, by omega, by go_num, HB4, HO4⟩ | ((repeat apply Exists.intro); exact ⟨⟨i + 1, by omega, by go_num, HB4, HO4⟩, rfl⟩)
        case measure => simp [intOf]; omega
    · have hlt' : ¬ (i : Int) < (t.n : Int) := by omega
      have ZR := Lib.hid (Z0.out.below HB.out)
      have HLK := Lib.hid ((M0.out.below HB.out).look (p := t.at_) HAT.out)
      have hlk := HLK.out
      have HE : Hid (∀ k, k < t.n → mvU R v t i k = mvF R v t k) := Lib.hid (fun k hk => by unfold mvU; rw [if_pos (by omega)])
      have lX := XR.out.1; have cX0 := XR.out.at 0 rfl; have cX1 := XR.out.at 1 rfl; have cX2 := XR.out.at 2 rfl; have cX3 := XR.out.at 3 rfl; have cX4 := XR.out.at 4 rfl
      have lZ := ZR.out.1; have cZ0 := ZR.out.at 0 rfl; have fZ0 := ZR.out.free 0 rfl; have cZ1 := ZR.out.at 1 rfl; have fZ1 := ZR.out.free 1 rfl; have cZ2 := ZR.out.at 2 rfl; have fZ2 := ZR.out.free 2 rfl; have cZ3 := ZR.out.at 3 rfl; have fZ3 := ZR.out.free 3 rfl; have cZ4 := ZR.out.at 4 rfl; have fZ4 := ZR.out.free 4 rfl; have cZ5 := ZR.out.at 5 rfl; have fZ5 := ZR.out.free 5 rfl
      go_wp2
      refine bodyPost_ret (v := .agg #[.int .i64 ((tab R v t.at_).getD 0), .int .i64 t.s, .int .i64 t.m, .int .i64 t.o, .int .i64 t.h, .slice a5 t.n c5]) (by simp [results, Try.results139, go_sem, cZ0, cZ1, cZ2, cZ3, cZ4, cZ5]) rfl ⟨a5, c5, rfl, ?_, ?_⟩
      · refine Own.mono (B := w0.heap.size) ?_ (by omega)
        repeat (first | (with_reducible refine Own.setCell ?_ (by (try simp); (try omega)) _) | (with_reducible refine Own.alloc ?_ _) | (with_reducible refine Own.drew ?_))
        exact HO.out.congr HE.out
      · repeat (first | (with_reducible refine Below.setCell ?_ (by (try simp); (try omega)) _) | (with_reducible refine Below.alloc ?_ (by (try simp); (try omega)) _) | (with_reducible refine Below.drew ?_))
        exact HB0.out.trans (HB.out.mono HB0.out.size)
end Go.Proofs.Ytihbenbfnpiikaa

namespace Go.Proofs.Ytihbenbfnpiikaa
open Go.RowKit Go.Maps
set_option linter.unusedVariables false

theorem src_grown {w w' : World} {row : Option Nat} {t : GM} (h : Src w t.a t.n t.f) (hg : w.grownBy w' row) (hne : t.n = 0 ∨ row ≠ some t.g) : Src w' t.a t.n t.f := by
  rcases h with h0 | ⟨b, off, e, lt, hc⟩
  · exact .inl h0
  · rcases hne with h0 | hne
    · exact .inl h0
    · have hgb : t.g = b := by unfold GM.g; rw [e]
      have hbl := hg.block b lt (fun e => hne (by rw [hgb, e]))
      have hz := hg.size
      exact .inr ⟨b, off, e, by omega, fun i hi => (World.cell?_of_block (a := ⟨b, off + i, none⟩) hbl).trans (hc i hi)⟩

theorem src_lt {w : World} {t : GM} (h : Src w t.a t.n t.f) : t.n = 0 ∨ t.g < w.heap.size := by
  rcases h with h0 | ⟨b, off, e, lt, hc⟩
  · exact .inl h0
  · right; unfold GM.g; rw [e]; exact lt

/-- A list of objects that stand where a table says, while it is made. -/
structure ML (w : World) (base : Nat) (u : Value) (M : List GM) (R : List Int) (v : Nat → Int) (T : Nat → GM) : Prop where
  row : w.ownsRow base 103 6 u M.length (rowG M)
  src : ∀ t ∈ M, Src w t.a t.n t.f ∧ (t.n = 0 ∨ u.ownBlock ≠ some t.g)
  far : ∀ t ∈ M, t.n = 0 ∨ base ≤ t.g
  same : ∀ i t, M[i]? = some t → GSame t (mvT R v (T i))

theorem ML.below {w w' : World} {base : Nat} {u : Value} {M : List GM} {R : List Int} {v : Nat → Int} {T : Nat → GM} (h : ML w base u M R v T) (hb : Below w.heap.size w w') : ML w' base u M R v T := ⟨ownsRow_below h.row hb, fun t ht => ⟨(h.src t ht).1.below hb, (h.src t ht).2⟩, h.far, h.same⟩

theorem ML.snoc {w w' : World} {base : Nat} {u u' : Value} {M : List GM} {R : List Int} {v : Nat → Int} {T : Nat → GM} {t : GM} (h : ML w base u M R v T) (hrow : w'.ownsRow base 103 6 u' (M ++ [t]).length (rowG (M ++ [t]))) (hg : w.grownBy w' u.ownBlock) (hu : u'.ownBlock = u.ownBlock ∨ ∃ g, u'.ownBlock = some g ∧ w.heap.size ≤ g)
    (hs : Src w t.a t.n t.f) (hne : t.n = 0 ∨ u.ownBlock ≠ some t.g) (hfar : t.n = 0 ∨ base ≤ t.g) (hsm : GSame t (mvT R v (T M.length))) : ML w' base u' (M ++ [t]) R v T := by
  have key : ∀ x : GM, Src w x.a x.n x.f → (x.n = 0 ∨ u.ownBlock ≠ some x.g) → Src w' x.a x.n x.f ∧ (x.n = 0 ∨ u'.ownBlock ≠ some x.g) := fun x h1 h2 => by
    refine ⟨src_grown h1 hg h2, ?_⟩
    rcases h2 with h2 | h2
    · exact .inl h2
    · rcases src_lt h1 with h3 | h3
      · exact .inl h3
      · right
        rcases hu with hu | ⟨g, hu, hl⟩
        · rw [hu]; exact h2
        · rw [hu]; intro e; have := Option.some.inj e; omega
  refine ⟨hrow, fun x hx => ?_, fun x hx => ?_, fun i x hx => ?_⟩
  · rcases List.mem_append.mp hx with hx | hx
    · exact key x (h.src x hx).1 (h.src x hx).2
    · simp only [List.mem_singleton] at hx
      subst hx
      exact key x hs hne
  · rcases List.mem_append.mp hx with hx | hx
    · exact h.far x hx
    · simp only [List.mem_singleton] at hx
      subst hx
      exact hfar
  · rcases Nat.lt_or_ge i M.length with hi | hi
    · rw [List.getElem?_append_left hi] at hx
      exact h.same i x hx
    · have hi' : i = M.length := by have := (List.getElem?_eq_some_iff.mp hx).1; simp at this; omega
      subst hi'
      rw [List.getElem?_append_right (Nat.le_refl _), Nat.sub_self] at hx
      have : t = x := by simpa using hx
      subst this
      exact hsm

/-- A row of objects in blocks from a place on. -/
def GVB (w : World) (base : Nat) (a : Option Addr) (N : Nat) (T : Nat → GM) : Prop := N = 0 ∨ ∃ b q, a = some ⟨b, q, none⟩ ∧ base ≤ b ∧ GSrc w b q N T ∧ ∀ i, i < N → (T i).n = 0 ∨ base ≤ (T i).g

theorem GVB.gv {w : World} {base : Nat} {a : Option Addr} {N : Nat} {T : Nat → GM} (h : GVB w base a N T) : GV w a N T := by
  rcases h with h | ⟨b, q, h1, _, h2, _⟩
  · exact .inl h
  · exact .inr ⟨b, q, h1, h2⟩

theorem GVB.keeps {w w' : World} {base lo hi : Nat} {a : Option Addr} {N : Nat} {T : Nat → GM} (h : GVB w base a N T) (hk : Keeps w w' lo hi) (hb : hi ≤ base) : GVB w' base a N T := by
  rcases h with h | ⟨b, q, h1, h2, h3, h4⟩
  · exact .inl h
  · exact .inr ⟨b, q, h1, h2, h3.keeps hk (.inr (by omega)) (fun i hi => by rcases h4 i hi with h5 | h5; exact .inl h5; exact .inr (.inr (by omega))), h4⟩

theorem GVB.below {w w' : World} {base : Nat} {a : Option Addr} {N : Nat} {T : Nat → GM} (h : GVB w base a N T) (hb : Below w.heap.size w w') : GVB w' base a N T := by
  rcases h with h | ⟨b, q, h1, h2, h3, h4⟩
  · exact .inl h
  · exact .inr ⟨b, q, h1, h2, h3.below hb, h4⟩

def RetAll (W : World) (N : Nat) (R : List Int) (v : Nat → Int) (T : Nat → GM) (e : Ending) (w' : World) : Prop :=
  ∃ a c U, e = .returned (.slice a N c) ∧ GVB w' W.heap.size a N U ∧ (∀ i, i < N → GSame (U i) (mvT R v (T i))) ∧ Below W.heap.size W w'

/-- What the objects of a list have to be, for all of them to move. -/
def Movable (w : World) (R : List Int) (v : Nat → Int) (t : GM) : Prop := Src w t.a t.n t.f ∧ HOk t.s t.m t.o t.h ∧ t.n = t.s.toNat ∧ (∀ k, k < t.n → -1000000000 ≤ t.f k ∧ t.f k ≤ 1000000000) ∧ (-1000000000 ≤ t.at_ ∧ t.at_ ≤ 1000000000) ∧ (∀ k p, k < t.n → tgtV t k = some p → 0 ≤ p ∧ p ≤ 1000000)

set_option maxRecDepth 100000 in
set_option maxHeartbeats 3200000 in
theorem movedAll_any (a : Option Addr) (N c mb nn : Nat) (T : Nat → GM) (R : List Int) (v : Nat → Int) (w : World) (hg : GV w a N T) (hN : N ≤ 400) (hm : MapT w mb nn R v) (hT : ∀ i, i < N → Movable w R v (T i)) (hv : ∀ p, 0 ≤ (tab R v p).getD 0 ∧ (tab R v p).getD 0 ≤ 1000000) :
    Calls Try.prog 69 #[.slice a N c, .map (some mb)] w (RetAll w N R v T) := by
  have G := Lib.hid hg; have MP := Lib.hid hm; have HT := Lib.hid hT; have HV := Lib.hid hv
  obtain ⟨j0, hif, hj0, hj1, hj2⟩ := info_parts Try.infoOb9
  clear hg hm hT hv
  go_enter Try.func69, Try.ntmps69
  go_wp2
  go_loopw [5, 10] (fun u p wr => ∃ (i : Nat) (M : List GM), i ≤ N ∧ p = .int .i64 (i : Int) ∧ M.length = i ∧ Hid (Below w.heap.size w wr) ∧ Hid (ML wr w.heap.size u M R v T)) (fun _ p _ => N - (intOf p).toNat)
  case atStart => exact ⟨0, [], Nat.zero_le _, rfl, rfl, Below.refl _ _, Lib.hid ⟨World.ownsRow_nil _ _ _ _, fun t ht => (by cases ht), fun t ht => (by cases ht), fun i t ht => (by simp at ht)⟩⟩
  case round =>
    obtain ⟨i, M, hi, rfl, hml, HB, HM⟩ := hrel
    have hzr := HB.out.size
    have HTI : Hid (mvT R v (T i) = mvT R v (T M.length)) := Lib.hid (by rw [hml])
    have hml4 : M.length ≤ 400 := by omega
    have HML := Lib.hid hml
    clear hml
    by_cases hlt : i < N
    · have hlt' : (i : Int) < (N : Int) := by omega
      have hi0 : (0 : Int) ≤ (i : Int) := by omega
      obtain ⟨b, q, rfl, lb, hsix⟩ := gv_get (G.out.below HB.out) hlt
      have HMT := Lib.hid (HT.out i hlt)
      have HAL : Hid (Below w.heap.size w (wr.alloc (.cells #[.int .i64 (T i).at_, .int .i64 (T i).s, .int .i64 (T i).m, .int .i64 (T i).o, .int .i64 (T i).h, .slice (T i).a (T i).n (T i).c] 103))) := Lib.hid (HB.out.alloc hzr _)
      have HMA := Lib.hid (HM.out.below ((Below.refl wr.heap.size wr).alloc (Nat.le_refl _) (.cells #[.int .i64 (T i).at_, .int .i64 (T i).s, .int .i64 (T i).m, .int .i64 (T i).o, .int .i64 (T i).h, .slice (T i).a (T i).n (T i).c] 103)))
      have za : (wr.alloc (.cells #[.int .i64 (T i).at_, .int .i64 (T i).s, .int .i64 (T i).m, .int .i64 (T i).o, .int .i64 (T i).h, .slice (T i).a (T i).n (T i).c] 103)).heap.size = wr.heap.size + 1 := by simp
      have HZA := Lib.hid za
      have hlow : Hid (∀ k, u5.ownBlock = some k → k < wr.heap.size) := Lib.hid (fun k hk => (HM.out.row.lt k hk).2)
      have hge : Hid (∀ k, u5.ownBlock = some k → w.heap.size ≤ k) := Lib.hid (fun k hk => (HM.out.row.lt k hk).1)
      obtain ⟨av, kv, hvu⟩ := rowG_val HM.out.row
      subst hvu
      clear HM HB za
      generalize hti : T i = t at *
      have HTT := Lib.hid hti
      clear hti
      obtain ⟨s0, s1, s2, s3, s4, s5⟩ := hsix
      go_wp2_with fail
      refine (moved_any t mb nn R v _ (MP.out.below HAL.out) (HMT.out.1.below HAL.out) HMT.out.2.1 HMT.out.2.2.1 HMT.out.2.2.2.1 HMT.out.2.2.2.2.1 HMT.out.2.2.2.2.2 HV.out).mono ?_
      rintro e w2 ⟨a5, c5, rfl, ho, hb⟩
      have HB2 := Lib.hid (HAL.out.trans (hb.mono HAL.out.size))
      have HM2 := Lib.hid (HMA.out.below hb)
      have hz2 : wr.heap.size + 1 ≤ w2.heap.size := by have := hb.size; have := HZA.out; omega
      obtain ⟨x, hx⟩ : ∃ x : GM, x = ⟨(tab R v t.at_).getD 0, t.s, t.m, t.o, t.h, a5, t.n, c5, mvF R v t⟩ := ⟨_, rfl⟩
      have HX : Hid (Src w2 x.a x.n x.f ∧ (x.n = 0 ∨ (Value.slice av M.length kv).ownBlock ≠ some x.g) ∧ (x.n = 0 ∨ w.heap.size ≤ x.g) ∧ GSame x (mvT R v t)) := Lib.hid (by
        subst hx
        refine ⟨ho.src, ?_, ?_, rfl, rfl, rfl, rfl, rfl, rfl, fun _ _ => rfl⟩
        rcases ho with h0 | ⟨g, o5, e1, e2, e3, _⟩
        · exact .inl h0
        · right
          intro e
          have h9 := hlow.out _ e
          have h8 : (GM.g ⟨(tab R v t.at_).getD 0, t.s, t.m, t.o, t.h, a5, t.n, c5, mvF R v t⟩) = g := by unfold GM.g; rw [e1]
          rw [h8] at h9
          have := HZA.out
          omega
        · rcases ho with h0 | ⟨g, o5, e1, e2, e3, _⟩
          · exact .inl h0
          · right
            have h8 : (GM.g ⟨(tab R v t.at_).getD 0, t.s, t.m, t.o, t.h, a5, t.n, c5, mvF R v t⟩) = g := by unfold GM.g; rw [e1]
            rw [h8]
            have := HZA.out
            omega)
      have x0 : (tab R v t.at_).getD 0 = x.at_ := by rw [hx]
      have x1 : t.s = x.s := by rw [hx]
      have x2 : t.m = x.m := by rw [hx]
      have x3 : t.o = x.o := by rw [hx]
      have x4 : t.h = x.h := by rw [hx]
      have x5 : (Value.slice a5 t.n c5) = .slice x.a x.n x.c := by rw [hx]
      rw [x0, x1, x2, x3, x4, x5]
      clear x0 x1 x2 x3 x4 x5 hx ho hb s0 s1 s2 s3 s4 s5 HAL HMA
      go_wp2_with (at_builtin; go_loud (refine wpList_append_lies _ rfl _ _ 90 rfl w.heap.size 103 j0 _ 6 64 Try.underlying90 hif hj0 hj1 hj2 rfl (by decide) (.slice av M.length kv) M.length (rowG M) rfl (HM2.out.row.alloc _) ⟨w2.heap.size, 0, none⟩ 1 1 (gcells x) rfl rfl (cells_new6 w2 x) (obj_one x) (by omega) (by unfold maxLen; omega) (by omega) (by simp; omega) (w2.heap.size + 1) (by simp) ?_); intro g9 cap9 w9 hown9 hgrow9 hat9 hlt9)
      have HB9 : Hid (Below w.heap.size w w9) := (HB2.out.alloc (by omega) _).grown hgrow9 (by simp; omega) (fun k hk => hge.out k hk)
      have HM9 : Hid (ML w9 w.heap.size (.slice (some ⟨g9, 0, none⟩) (M.length + 1) cap9) (M ++ [x]) R v T) := Lib.hid (by
        refine ML.snoc (HM2.out.below ((Below.refl w2.heap.size w2).alloc (Nat.le_refl _) (.cells #[.int .i64 x.at_, .int .i64 x.s, .int .i64 x.m, .int .i64 x.o, .int .i64 x.h, .slice x.a x.n x.c] 103))) ?_ hgrow9 ?_ (HX.out.1.alloc _) HX.out.2.1 HX.out.2.2.1 ?_
        · rw [rowG_snoc, List.length_append]; exact hown9
        · rcases hat9 with he | he
          · exact .inl he.symm
          · exact .inr ⟨g9, rfl, by simp; omega⟩
        · rw [← HTI.out]; exact HX.out.2.2.2)
      clear hown9 hgrow9 hat9
      go_wp2
      go_roundw
      case rel => first | exact ⟨i + 1, M ++ [x], by omega, by go_num, by rw [List.length_append, HML.out]; rfl, HB9, HM9⟩ | ((repeat apply Exists.intro); exact ⟨⟨i + 1, M ++ [x], by omega, by go_num, by rw [List.length_append, HML.out]; rfl, HB9, HM9⟩, rfl⟩)
      case measure => simp [intOf]; omega
    · have hlt' : ¬ (i : Int) < (N : Int) := by omega
      obtain rfl : i = N := by omega
      have hml := HML.out
      clear HML
      subst hml
      have HRet : Hid (RetAll w M.length R v T (.returned u5) wr) := Lib.hid (by
        have hlo := HM.out.row.lt
        obtain ⟨a', c', rfl, hgv⟩ := rowG_GV HM.out.row (fun t ht => (HM.out.src t ht).1)
        refine ⟨a', c', gT M, rfl, ?_, fun k hk => by rw [gT_at (List.getElem?_eq_getElem hk)]; exact HM.out.same k _ (List.getElem?_eq_getElem hk), HB.out⟩
        rcases hgv with h0 | ⟨b, q, e1, e2⟩
        · exact .inl h0
        · refine .inr ⟨b, q, e1, ?_, e2, fun k hk => by rw [gT_at (List.getElem?_eq_getElem hk)]; exact HM.out.far _ (List.getElem_mem hk)⟩
          subst e1
          exact (hlo b rfl).1)
      go_wp2
      go_ret
      exact HRet.out

set_option maxRecDepth 100000 in
set_option maxHeartbeats 1600000 in
theorem movedRoots_any (ra : Option Addr) (roots : List Int) (rc mb nn : Nat) (R : List Int) (v : Nat → Int) (w : World) (hr : Src w ra roots.length (lf roots)) (hrn : roots.length ≤ 1048576) (hm : MapT w mb nn R v) (hp : ∀ p ∈ roots, 0 ≤ p ∧ p ≤ 1000000) :
    Calls Try.prog 73 #[.slice ra roots.length rc, .map (some mb)] w (RetInts w roots.length (lf (roots.map fun p => (tab R v p).getD 0))) := by
  have RS := Lib.hid hr; have MP := Lib.hid hm; have HP := Lib.hid hp
  obtain ⟨i0, hif, hz0, hz1, hz2⟩ := info_parts Try.info2
  clear hr hm hp
  go_enter Try.func73, Try.ntmps73
  go_wp2
  go_loopw [5, 10] (fun u p wr => ∃ i : Nat, i ≤ roots.length ∧ p = .int .i64 (i : Int) ∧ Hid (Below w.heap.size w wr) ∧ Hid (wr.ownsRow w.heap.size 2 1 u i (nums i (lf (roots.map fun p => (tab R v p).getD 0))))) (fun _ p _ => roots.length - (intOf p).toNat)
  case atStart => exact ⟨0, Nat.zero_le _, rfl, Below.refl _ _, World.ownsRow_nil _ _ _ _⟩
  case round =>
    obtain ⟨i, hi, rfl, HB, OW⟩ := hrel
    have hzr := HB.out.size
    by_cases hlt : i < roots.length
    · have hlt' : (i : Int) < (roots.length : Int) := by omega
      have hi0 : (0 : Int) ≤ (i : Int) := by omega
      obtain ⟨rb, ro, rfl, hrb, hrc⟩ := src_some (RS.out.below HB.out) (by omega)
      have c0 := hrc i hlt
      have hpp := HP.out _ (lf_mem hlt)
      have HY : Hid (lf (roots.map fun p => (tab R v p).getD 0) i = (tab R v (lf roots i)).getD 0) := Lib.hid (by rw [lf_at (by simpa using hlt), lf_at hlt]; simp)
      obtain ⟨y, hy⟩ : ∃ y, lf roots i = y := ⟨_, rfl⟩
      rw [hy] at c0 hpp HY
      have HLK := Lib.hid ((MP.out.below HB.out).look (p := y) ⟨by omega, by omega⟩)
      obtain ⟨z, hz⟩ : ∃ z, (tab R v y).getD 0 = z := ⟨_, rfl⟩
      rw [hz] at HLK HY
      have hlk := HLK.out
      have HGE : Hid (∀ k, u5.ownBlock = some k → w.heap.size ≤ k) := Lib.hid (fun k hk => (OW.out.lt k hk).1)
      clear hrc hy hz
      go_wp2_with (at_builtin; go_loud (refine wpList_append_lies _ rfl _ _ 24 rfl w.heap.size 2 i0 (.int .i64 0) 1 8 Try.underlying24 hif hz0 hz1 hz2 rfl (by decide) u5 i (nums i (lf (roots.map fun p => (tab R v p).getD 0))) rfl (OW.out.alloc _) ⟨wr.heap.size, 0, none⟩ 1 1 [.int .i64 z] rfl rfl (news1 wr z) (by intro u hu; simp only [List.mem_cons, List.mem_nil_iff, or_false] at hu; subst hu; rfl) (by omega) (by unfold maxLen; omega) (by omega) (by simp; omega) (wr.heap.size + 1) (by simp) ?_); intro g9 cap9 w9 hown9 hgrow9 hat9 hlt9)
      have HB9 : Hid (Below w.heap.size w w9) := (HB.out.alloc hzr _).grown hgrow9 (by simp; omega) (fun k hk => HGE.out k hk)
      have OW9 : Hid (w9.ownsRow w.heap.size 2 1 (.slice (some ⟨g9, 0, none⟩) (i + 1) cap9) (i + 1) (nums (i + 1) (lf (roots.map fun p => (tab R v p).getD 0)))) := Lib.hid (by rw [nums_succ, HY.out]; exact hown9)
      clear hown9 hgrow9 hat9 hlk HLK c0
      go_wp2
      go_roundw
      case rel => first | exact ⟨i + 1, by omega, by go_num, HB9, OW9⟩ | ((repeat apply Exists.intro); exact ⟨⟨i + 1, by omega, by go_num, HB9, OW9⟩, rfl⟩)
      case measure => simp [intOf]; omega
    · have hlt' : ¬ (i : Int) < (roots.length : Int) := by omega
      obtain rfl : i = roots.length := by omega
      have HRet := Lib.hid (retInts_of_row OW.out HB.out)
      go_wp2
      go_ret
      exact HRet.out

theorem totO_take_le : ∀ (X : List Ob) (i : Nat), totO (X.take i) ≤ totO X
  | [], i => by simp [totO]
  | x :: X, 0 => by simp [totO]
  | x :: X, i + 1 => by
    have := totO_take_le X i
    simp only [List.take_succ_cons, totO]
    omega

theorem placeAt_top (P : Nat) (X : List Ob) (i : Nat) : placeAt P X i ≤ P + totO X := by
  have := totO_take_le X i
  unfold placeAt; omega
end Go.Proofs.Ytihbenbfnpiikaa

namespace Go.Proofs.Ytihbenbfnpiikaa
open Go.RowKit Go.Maps
set_option linter.unusedVariables false

section

variable {h ac bu : Int} {n : Nat} {f : Nat → Int} {L : List Ob} {roots : List Int}

theorem objs_word (hk : IsSF h n f ac bu 0) (ho : IsOI h n f ac bu 0 L) : ∀ x ∈ L, (0 ≤ x.at_ ∧ x.at_ ≤ 1000000) ∧ ∀ k, k < x.s.toNat → -1000000000 ≤ f (x.at_.toNat + 2 + k) ∧ f (x.at_.toNat + 2 + k) ≤ 1000000000 := by
  obtain ⟨h4, h5⟩ := isOI_zero ho
  obtain ⟨⟨⟨g1, g2⟩, ⟨g3, g4⟩, g5, g6⟩, gn, gw⟩ := isFault_ok h4
  have hb := baseI_bd (ac := ac) g1
  have hPU : (baseI ac h).toNat + bu.toNat ≤ n := by
    have hb0 : 0 ≤ baseI ac h ∧ baseI ac h ≤ h ∧ baseI ac h + h ≤ 2 * h := by rcases (by omega : ac = 0 ∨ ac = 1) with rfl | rfl <;> simp [baseI] <;> omega
    omega
  have hok := parse_ok h5 hPU gw
  intro x hx
  have := (hok x hx).2.2.2.1
  exact ⟨by omega, (hok x hx).2.2.2.2⟩

theorem findO_place {p : Int} {x : Ob} (h : findO L p = some x) : x.at_ = p := by
  have := List.find?_some h
  simpa using this

theorem place_bound (hk : IsSF h n f ac bu 0) (ho : IsOI h n f ac bu 0 L) {p : Int} (hp : p ∈ placesO L) : 0 ≤ p ∧ p ≤ 1000000 := by
  obtain ⟨x, hx⟩ := mem_placesO.1 hp
  have := (objs_word hk ho x (List.mem_of_find?_eq_some hx)).1
  rwa [findO_place hx] at this

/-- Where a pointer of what is reached leads. -/
theorem reach_target (hk : IsSF h n f ac bu 0) (ho : IsOI h n f ac bu 0 L) (hroots : ∀ p ∈ roots, p ∈ placesO L) {y : Int} (hy : y ∈ reachO f L roots) {x : Ob} (hx : findO L y = some x) {k : Nat} (hk' : k < x.s.toNat) (hb : x.m / P2 (k : Int) % 2 = 1) (h0 : ¬ f (x.at_.toNat + 2 + k) = 0) : f (x.at_.toNat + 2 + k) - 1 ∈ reachO f L roots := by
  have hr := right_of hk ho
  refine reachO_closed hr.points hr.size hroots y hy _ ?_
  unfold succO; rw [hx]; exact mem_ptrs.2 ⟨k, hk', hb, h0, rfl⟩

theorem movable_of {w : World} {t : GM} {R : List Int} {v : Nat → Int} (hk : IsSF h n f ac bu 0) (ho : IsOI h n f ac bu 0 L) (hroots : ∀ p ∈ roots, p ∈ placesO L) {y : Int} (hy : y ∈ reachO f L roots) {x : Ob} (hx : findO L y = some x) (hs : GSame t (obG f x)) (hw : Src w t.a t.n t.f) : Movable w R v t := by
  have hr := right_of hk ho
  have hxL := List.mem_of_find?_eq_some hx
  obtain ⟨e1, e2, e3, e4, e5, e6, e7⟩ := hs
  obtain ⟨b1, b2⟩ := objs_word hk ho x hxL
  have e1' : t.at_ = x.at_ := e1
  have e2' : t.s = x.s := e2
  have e3' : t.m = x.m := e3
  have e4' : t.o = x.o := e4
  have e5' : t.h = x.h := e5
  have e6' : t.n = x.s.toNat := e6
  have e7' : ∀ k, k < t.n → t.f k = f (x.at_.toNat + 2 + k) := e7
  refine ⟨hw, by rw [e2', e3', e4', e5']; exact (hr.ok x hxL).1, by rw [e6', e2'], fun k hk' => by rw [e7' k hk']; exact b2 k (by omega), by rw [e1']; omega, fun k p hk' ht => ?_⟩
  unfold tgtV at ht
  rw [e3', e7' k hk'] at ht
  by_cases hb : x.m / P2 (k : Int) % 2 = 1 ∧ ¬ f (x.at_.toNat + 2 + k) = 0
  · rw [if_pos hb] at ht
    have := reach_target hk ho hroots hy hx (by omega) hb.1 hb.2
    rw [Option.some.inj ht] at this
    exact place_bound hk ho (reachO_sub hr.points hr.size hroots _ this)
  · rw [if_neg hb] at ht; cases ht

theorem tab_at {R : List Int} {v : Nat → Int} (hn : R.Nodup) {i : Nat} (hi : i < R.length) : tab R v (lf R i) = some (v i) := by
  unfold tab lf; rw [numL_at hn hi]; rfl

theorem goes_mem {R Q : List Int} {p : Int} (h : p ∈ R) : ∃ i, numL R p = some i ∧ i < R.length ∧ goes R Q p = Q.getD i 0 := by
  obtain ⟨i, h1, h2, _⟩ := numL_some h
  exact ⟨i, h1, h2, goes_num h1⟩

end
end Go.Proofs.Ytihbenbfnpiikaa

namespace Go.Proofs.Ytihbenbfnpiikaa
open Go.RowKit
set_option linter.unusedVariables false

theorem row_keeps {w w' : World} {base e size n lo hi : Nat} {v : Value} {xs : List Value} (h : w.ownsRow base e size v n xs) (hk : Keeps w w' lo hi) (hb : hi ≤ base) : w'.ownsRow base e size v n xs := by
  refine ⟨h.1, ?_⟩
  rcases h.2 with h0 | ⟨g, cap, cur, e1, e2, e3, e4⟩
  · exact .inl h0
  · exact .inr ⟨g, cap, cur, e1, e2, (hk.block g (Array.getElem?_eq_some_iff.mp e3).1 (.inr (by omega))).trans e3, e4⟩

theorem two_cells {w : World} {b : Nat} {v0 v1 v2 v3 u : Value} {p : Addr} (hA : Blk w b [v0, v1, v2, v3]) (hp : w.cell? p = some u) : w.cell? ⟨b, 1, none⟩ = some v1 ∧ w.cell? p = some u := ⟨hA.at 1 rfl, hp⟩

theorem ownIn_cell3 {w : World} {lo hi g q n : Nat} {G : Nat → Int} (h : OwnIn w lo hi (some ⟨g, q, none⟩) n G) (k : Nat) (hk : k < n) : ∃ v, g < w.heap.size ∧ w.cell? ⟨g, q + k, none⟩ = some (.int .i64 v) ∧ w.frozen? ⟨g, q + k, none⟩ = false := by
  rcases h with h0 | ⟨b', o', e1, h1, hb, hc⟩
  · omega
  · cases e1
    exact ⟨G k, hb, (hc k hk).1, (hc k hk).2⟩

/-- What lies in memory while the model collects. -/
structure CS (W w : World) (b : Nat) (g q : Nat) (h ac U : Int) (n c : Nat) (u : Value) (l : List Int) (G : Nat → Int) : Prop where
  bel : Below W.heap.size W w
  arn : Blk w b [.int .i64 h, .slice (some ⟨g, q, none⟩) n c, .int .i64 ac, .int .i64 U]
  wrd : OwnIn w W.heap.size (b + 1) (some ⟨g, q, none⟩) n G
  row : w.ownsRow (b + 1) 2 1 u l.length (nums l.length (lf l))

section

variable {W w w' : World} {b g q : Nat} {h ac U : Int} {n c : Nat} {u : Value} {l : List Int} {G : Nat → Int}

theorem CS.below (d : CS W w b g q h ac U n c u l G) (hb : Below w.heap.size w w') : CS W w' b g q h ac U n c u l G := ⟨d.bel.trans (hb.mono d.bel.size), d.arn.below hb, d.wrd.below hb, ownsRow_below d.row hb⟩

theorem CS.put (d : CS W w b g q h ac U n c u l G) {U' : Int} {G' : Nat → Int} (hW : W.heap.size ≤ b) (hk : Keeps w w' W.heap.size (b + 1)) (hA : Blk w' b [.int .i64 h, .slice (some ⟨g, q, none⟩) n c, .int .i64 ac, .int .i64 U']) (ho : OwnIn w' W.heap.size (b + 1) (some ⟨g, q, none⟩) n G') : CS W w' b g q h ac U' n c u l G' :=
  ⟨d.bel.trans (hk.below (Nat.le_refl _) d.bel.size), hA, ho, row_keeps d.row hk (Nat.le_refl _)⟩

theorem CS.append (d : CS W w b g q h ac U n c u l G) {o : Obj} {u' : Value} {l' : List Int} (hW : W.heap.size ≤ b) (hg : (w.alloc o).grownBy w' u.ownBlock) (hr : w'.ownsRow (b + 1) 2 1 u' l'.length (nums l'.length (lf l'))) : CS W w' b g q h ac U n c u' l' G := by
  have hPw := d.arn.1
  have hz : w.heap.size ≤ w'.heap.size := by have := hg.size; simp at this; omega
  have hk : Keeps w w' (b + 1) w'.heap.size := ⟨hg.os, hg.tape, hg.output, hz, fun q hq hd => by
    rcases hd with hd | hd
    · exact (hg.block q (by simp; omega) (fun e => by have := (d.row.lt q e.symm).1; omega)).trans (Below.heap_alloc _ _ _ hq)
    · omega⟩
  exact ⟨d.bel.trans (hk.below (by omega) d.bel.size), d.arn.keeps hk (.inl (by omega)), d.wrd.keeps hk (.inl (by omega)), hr⟩

end

theorem tot_fits {h : Int} {n : Nat} {f : Nat → Int} {ac bu : Int} {L : List Ob} {roots : List Int} (hk : IsSF h n f ac bu 0) (ho : IsOI h n f ac bu 0 L) (hroots : ∀ p ∈ roots, p ∈ placesO L) : (totO (objsO L (reachO f L roots)) : Int) ≤ bu := by
  have hr := right_of hk ho
  have h1 := tot_le (L := L) (R := reachO f L roots) hr.apart (reachO_nodup f L roots) (reachO_sub hr.points hr.size hroots)
  obtain ⟨h4, h5⟩ := isOI_zero ho
  obtain ⟨⟨⟨g1, g2⟩, ⟨g3, g4⟩, g5, g6⟩, gn, gw⟩ := isFault_ok h4
  have := parse_tot_eq _ _ L (Nat.le_refl _) (by omega) h5
  omega
end Go.Proofs.Ytihbenbfnpiikaa

namespace Go.Proofs.Ytihbenbfnpiikaa
open Go.RowKit Go.Maps
set_option linter.unusedVariables false

/-- The words while the program collects. -/
structure PW (W w : World) (g q n : Nat) (G : Nat → Int) : Prop where
  kp : Keeps W w g (g + 1)
  wrd : OwnIn w g (g + 1) (some ⟨g, q, none⟩) n G

theorem PW.below {W w w' : World} {g q n : Nat} {G : Nat → Int} (d : PW W w g q n G) (hb : Below w.heap.size w w') : PW W w' g q n G := ⟨d.kp.trans (keeps_of_below hb g (g + 1)), d.wrd.below hb⟩

theorem MapT.keeps {w w' : World} {b n lo hi : Nat} {R : List Int} {v : Nat → Int} (h : MapT w b n R v) (hk : Keeps w w' lo hi) (hd : b < lo ∨ hi ≤ b) : MapT w' b n R v := h.block (hk.block b h.lt hd)
end Go.Proofs.Ytihbenbfnpiikaa

namespace Go.Proofs.Ytihbenbfnpiikaa
open Go.RowKit Go.Maps
set_option linter.unusedVariables false

theorem numI_inj {R R' : List Int} {v w : Int} : numI R v = numI R' w ↔ numL R v = numL R' w := by
  unfold numI
  cases h1 : numL R v with
  | none =>
    cases h2 : numL R' w with
    | none => simp
    | some j => simp
  | some i =>
    cases h2 : numL R' w with
    | none => simp
    | some j => simp; omega

/-- Two objects are alike, by what is reached. -/
def ObAlike (f : Nat → Int) (R : List Int) (x : Ob) (g : Nat → Int) (R' : List Int) (y : Ob) : Prop :=
  (x.s = y.s ∧ x.m = y.m ∧ x.o = y.o ∧ x.h = y.h) ∧ ∀ k : Nat, k < x.s.toNat → FldAlike R R' (x.m / P2 (k : Int) % 2 = 1) (f (x.at_.toNat + 2 + k)) (g (y.at_.toNat + 2 + k))

def idV : Nat → Int := fun i => (i : Int)

theorem tab_num {R : List Int} {p : Int} (h : p ∈ R) : ∃ i, numL R p = some i ∧ (tab R idV p).getD 0 = (i : Int) := by
  obtain ⟨i, h1, _, _⟩ := numL_some h
  exact ⟨i, h1, by unfold tab; rw [h1]; rfl⟩

theorem tab_num_eq {R R' : List Int} {p q : Int} (h : p ∈ R) (h' : q ∈ R') : (tab R idV p).getD 0 = (tab R' idV q).getD 0 ↔ numL R p = numL R' q := by
  obtain ⟨i, h1, h2⟩ := tab_num h
  obtain ⟨j, h3, h4⟩ := tab_num h'
  rw [h1, h2, h3, h4]
  constructor
  · intro e; rw [show i = j by omega]
  · intro e; rw [Option.some.inj e]

theorem fld_iff {R R' : List Int} {bit : Prop} [Decidable bit] {v w : Int} (h1 : bit → ¬ v = 0 → v - 1 ∈ R) (h2 : bit → ¬ w = 0 → w - 1 ∈ R') :
    (if bit ∧ ¬ v = 0 then (tab R idV (v - 1)).getD 0 + 1 else v) = (if bit ∧ ¬ w = 0 then (tab R' idV (w - 1)).getD 0 + 1 else w) ↔ FldAlike R R' bit v w := by
  unfold FldAlike
  by_cases hb : bit
  · by_cases hv : v = 0
    · by_cases hw : w = 0
      · rw [if_neg (fun h => h.2 hv), if_neg (fun h => h.2 hw)]
        exact ⟨fun _ => ⟨fun _ => ⟨by omega, fun h => absurd hv h⟩, fun h => absurd hb h⟩, fun _ => by omega⟩
      · rw [if_neg (fun h => h.2 hv), if_pos ⟨hb, hw⟩]
        obtain ⟨j, _, h4⟩ := tab_num (h2 hb hw)
        rw [h4]
        exact ⟨fun e => by omega, fun h => absurd ((h.1 hb).1.1 hv) hw⟩
    · by_cases hw : w = 0
      · rw [if_pos ⟨hb, hv⟩, if_neg (fun h => h.2 hw)]
        obtain ⟨j, _, h4⟩ := tab_num (h1 hb hv)
        rw [h4]
        exact ⟨fun e => by omega, fun h => absurd ((h.1 hb).1.2 hw) hv⟩
      · rw [if_pos ⟨hb, hv⟩, if_pos ⟨hb, hw⟩]
        have h9 := tab_num_eq (h1 hb hv) (h2 hb hw)
        constructor
        · intro e
          exact ⟨fun _ => ⟨by omega, fun _ => h9.1 (by omega)⟩, fun h => absurd hb h⟩
        · intro h
          have := h9.2 ((h.1 hb).2 hv)
          omega
  · rw [if_neg (fun h => hb h.1), if_neg (fun h => hb h.1)]
    exact ⟨fun e => ⟨fun h => absurd h hb, fun _ => e⟩, fun h => h.2 hb⟩

theorem alike_obj {f g : Nat → Int} {L L' : List Ob} {ra rb : List Int} : AlikeO f L ra g L' rb ↔ ra.length = rb.length ∧ (reachO f L ra).length = (reachO g L' rb).length ∧ (∀ i, i < (reachO f L ra).length → ∃ x y, findO L (lf (reachO f L ra) i) = some x ∧ findO L' (lf (reachO g L' rb) i) = some y ∧ ObAlike f (reachO f L ra) x g (reachO g L' rb) y) ∧ ∀ i, i < ra.length → numL (reachO f L ra) (lf ra i) = numL (reachO g L' rb) (lf rb i) := by
  constructor
  · intro h
    refine ⟨h.rlen, h.len, fun i hi => ?_, h.roots⟩
    obtain ⟨x, y, h1, h2, h3, h4⟩ := h.obj i hi
    exact ⟨x, y, h1, h2, h3, h4⟩
  · rintro ⟨h1, h2, h3, h4⟩
    refine ⟨h1, h2, fun i hi => ?_, h4⟩
    obtain ⟨x, y, e1, e2, e3, e4⟩ := h3 i hi
    exact ⟨x, y, e1, e2, e3, e4⟩

theorem find_exact (v : Value) (M : List OM) (base lo : Nat) (f : Nat → Int) (y : Int) (x : Ob) (j : Nat) (w : World) (hm : OMS w base lo f v M) (hap : ∀ x ∈ M.map OM.x, findO (M.map OM.x) x.at_ = some x) (hf : findO (M.map OM.x) y = some x) (hj : (M.map OM.x)[j]? = some x) (hnd : (placesO (M.map OM.x)).Nodup) :
    Calls Try.prog 80 #[v, .int .i64 y] w fun e w' => e = .returned (.int .i64 (j : Int)) ∧ w = w' := by
  refine (hm.find y).mono ?_
  rintro e w' ⟨rfl, hr⟩
  rcases hr with ⟨h1, _⟩ | ⟨i, x', h1, h2, rfl⟩
  · rw [hf] at h1; cases h1
  · rw [hf] at h1
    obtain rfl := Option.some.inj h1
    have hi := (List.getElem?_eq_some_iff.mp h2).1
    have hj' := (List.getElem?_eq_some_iff.mp hj).1
    have e : (placesO (M.map OM.x))[i]? = (placesO (M.map OM.x))[j]? := by unfold placesO; rw [List.getElem?_map (f := Ob.at_) (l := M.map OM.x), List.getElem?_map (f := Ob.at_) (l := M.map OM.x), h2, hj]
    rw [List.getElem?_eq_getElem (by simpa [placesO] using hi), List.getElem?_eq_getElem (by simpa [placesO] using hj')] at e
    have := (List.getElem_inj hnd).mp (Option.some.inj e)
    subst this
    exact ⟨rfl, rfl⟩

/-- What lies of an object amid a list, for the comparison. -/
structure ObM (w : World) (g1 o g : Nat) (c : Nat) (f : Nat → Int) (x : Ob) : Prop where
  lt : g1 < w.heap.size
  c1 : w.cell? ⟨g1, o + 1, none⟩ = some (.int .i64 x.s)
  c2 : w.cell? ⟨g1, o + 2, none⟩ = some (.int .i64 x.m)
  c3 : w.cell? ⟨g1, o + 3, none⟩ = some (.int .i64 x.o)
  c4 : w.cell? ⟨g1, o + 4, none⟩ = some (.int .i64 x.h)
  c5 : w.cell? ⟨g1, o + 5, none⟩ = some (.slice (some ⟨g, 0, none⟩) x.s.toNat c)
  lg : g < w.heap.size
  fl : ∀ k, k < x.s.toNat → w.cell? ⟨g, k, none⟩ = some (.int .i64 (f (x.at_.toNat + 2 + k)))

theorem ObM.below {w w' : World} {g1 o g c : Nat} {f : Nat → Int} {x : Ob} (h : ObM w g1 o g c f x) (hb : Below w.heap.size w w') : ObM w' g1 o g c f x := by
  have hz := hb.size
  exact ⟨Nat.lt_of_lt_of_le h.lt hz, (hb.cell (p := ⟨g1, o + 1, none⟩) h.lt).trans h.c1, (hb.cell (p := ⟨g1, o + 2, none⟩) h.lt).trans h.c2, (hb.cell (p := ⟨g1, o + 3, none⟩) h.lt).trans h.c3, (hb.cell (p := ⟨g1, o + 4, none⟩) h.lt).trans h.c4, (hb.cell (p := ⟨g1, o + 5, none⟩) h.lt).trans h.c5, Nat.lt_of_lt_of_le h.lg hz, fun k hk => (hb.cell (p := ⟨g, k, none⟩) h.lg).trans (h.fl k hk)⟩

set_option maxRecDepth 100000 in
set_option maxHeartbeats 1600000 in
theorem l4Alike_head (g1 o1 e1 k1 g2 o2 e2 k2 : Nat) (f g : Nat → Int) (x y : Ob) (a a' : Option Addr) (R R' : List Int) (c c' : Nat) (w : World) (hx : ObM w g1 o1 e1 k1 f x) (hy : ObM w g2 o2 e2 k2 g y) (hh : ¬ (x.s = y.s ∧ x.m = y.m ∧ x.o = y.o ∧ x.h = y.h)) :
    Calls Try.prog 79 #[.pointer (some ⟨g1, o1, none⟩), .slice a R.length c, .pointer (some ⟨g2, o2, none⟩), .slice a' R'.length c'] w fun e w' => e = .returned (.bool false) ∧ ∃ q, w' = w.drewN q := by
  have HX := Lib.hid hx; have HY := Lib.hid hy; have HH := Lib.hid hh
  have lx := hx.lt; have x1 := hx.c1; have x2 := hx.c2; have x3 := hx.c3; have x4 := hx.c4
  have ly := hy.lt; have y1 := hy.c1; have y2 := hy.c2; have y3 := hy.c3; have y4 := hy.c4
  clear hx hy hh HX HY
  by_cases h1 : x.s = y.s
  · by_cases h2 : x.m = y.m
    · by_cases h3 : x.o = y.o
      · have h4 : ¬ x.h = y.h := fun h4 => HH.out ⟨h1, h2, h3, h4⟩
        rw [← h1] at y1; rw [← h2] at y2; rw [← h3] at y3
        have hb : (x.h == y.h) = false := by simpa using h4
        clear h1 h2 h3 h4
        go_enter Try.func79, Try.ntmps79
        go_wp2
        go_quiet (fail)
        go_wp2
        go_ret
        exact ⟨rfl, _, rfl⟩
      · rw [← h1] at y1; rw [← h2] at y2
        have hb : (x.o == y.o) = false := by simpa using h3
        clear h1 h2 h3
        go_enter Try.func79, Try.ntmps79
        go_wp2
        go_quiet (fail)
        go_wp2
        go_ret
        exact ⟨rfl, _, rfl⟩
    · rw [← h1] at y1
      have hb : (x.m == y.m) = false := by simpa using h2
      clear h1 h2
      go_enter Try.func79, Try.ntmps79
      go_wp2
      go_quiet (fail)
      go_wp2
      go_ret
      exact ⟨rfl, _, rfl⟩
  · have hb : (x.s == y.s) = false := by simpa using h1
    clear h1
    go_enter Try.func79, Try.ntmps79
    go_wp2
    go_quiet (fail)
    go_wp2
    go_ret
    exact ⟨rfl, _, rfl⟩
end Go.Proofs.Ytihbenbfnpiikaa

namespace Go.Proofs.Ytihbenbfnpiikaa
open Go.RowKit Go.Maps
set_option linter.unusedVariables false

set_option maxRecDepth 100000 in
set_option maxHeartbeats 3200000 in
theorem l4Alike_same (g1 o1 e1 k1 g2 o2 e2 k2 : Nat) (f g : Nat → Int) (x y : Ob) (a a' : Option Addr) (R R' : List Int) (c c' : Nat) (r : Bool) (w : World) (hx : ObM w g1 o1 e1 k1 f x) (hy : ObM w g2 o2 e2 k2 g y) (s1 : Src w a R.length (lf R)) (s2 : Src w a' R'.length (lf R')) (hl : R.length ≤ 400) (hl' : R'.length ≤ 400)
    (hs : x.s = y.s) (hm : x.m = y.m) (ho : x.o = y.o) (hh : x.h = y.h) (hxs : 0 ≤ x.s ∧ x.s ≤ 12) (hxm : 0 ≤ x.m ∧ x.m ≤ 4095) (hwx : ∀ k, k < x.s.toNat → -1000000000 ≤ f (x.at_.toNat + 2 + k) ∧ f (x.at_.toNat + 2 + k) ≤ 1000000000) (hwy : ∀ k, k < x.s.toNat → -1000000000 ≤ g (y.at_.toNat + 2 + k) ∧ g (y.at_.toNat + 2 + k) ≤ 1000000000)
    (hr : r = true ↔ ∀ k : Nat, k < x.s.toNat → FldAlike R R' (x.m / P2 (k : Int) % 2 = 1) (f (x.at_.toNat + 2 + k)) (g (y.at_.toNat + 2 + k))) :
    Calls Try.prog 79 #[.pointer (some ⟨g1, o1, none⟩), .slice a R.length c, .pointer (some ⟨g2, o2, none⟩), .slice a' R'.length c'] w fun e w' => e = .returned (.bool r) ∧ ∃ q, w' = w.drewN q := by
  have HX := Lib.hid hx; have HY := Lib.hid hy; have S1 := Lib.hid s1; have S2 := Lib.hid s2; have HR := Lib.hid hr; have HWX := Lib.hid hwx; have HWY := Lib.hid hwy
  have lx := hx.lt; have x1 := hx.c1; have x2 := hx.c2; have x3 := hx.c3; have x4 := hx.c4
  have ly := hy.lt; have y1 := hy.c1; have y2 := hy.c2; have y3 := hy.c3; have y4 := hy.c4
  rw [← hs] at y1; rw [← hm] at y2; rw [← ho] at y3; rw [← hh] at y4
  have HSY : Hid (y.s.toNat = x.s.toNat) := Lib.hid (by rw [hs])
  clear hx hy s1 s2 hr hwx hwy hs ho hh hm
  have hm := hxm
  clear hxm
  go_enter Try.func79, Try.ntmps79
  go_wp2
  go_quiet (fail)
  have HQ0 : Hid (∃ q, w.drewN nq = w.drewN q) := Lib.hid ⟨nq, rfl⟩
  clear x1 x2 x3 x4 y1 y2 y3 y4
  go_wp2
  go_loopw [9] (fun p wr => ∃ (k q : Nat), (k : Int) ≤ x.s ∧ p = .int .i64 (k : Int) ∧ wr = w.drewN q ∧ Hid (∀ j, j < k → FldAlike R R' (x.m / P2 (j : Int) % 2 = 1) (f (x.at_.toNat + 2 + j)) (g (y.at_.toNat + 2 + j)))) (fun p _ => x.s.toNat - (intOf p).toNat)
  case atStart => exact ⟨0, nq, by omega, rfl, rfl, Lib.hid (fun j hj => by omega)⟩
  case round =>
    clear HQ0
    obtain ⟨k, q, hk, rfl, hwq, HD⟩ := hrel
    subst hwq
    have XQ := Lib.hid (HX.out.below (drewN_below w q)); have YQ := Lib.hid (HY.out.below (drewN_below w q))
    have lx := XQ.out.lt; have x1 := XQ.out.c1
    by_cases hlt : (k : Int) < x.s
    · have hkt : k < x.s.toNat := by omega
      have hkn : (k : Int) < (x.s.toNat : Int) := by omega
      have hk0 : (0 : Int) ≤ (k : Int) := by omega
      have hky : (k : Int) < (y.s.toNat : Int) := by rw [HSY.out]; exact hkn
      have x2 := XQ.out.c2; have x5 := XQ.out.c5; have ly := YQ.out.lt; have y5 := YQ.out.c5
      have lgx := XQ.out.lg; have lgy := YQ.out.lg
      have fx := XQ.out.fl k hkt; have fy := YQ.out.fl k (by rw [HSY.out]; exact hkt)
      obtain ⟨a1, a2⟩ := HWX.out k hkt
      obtain ⟨b1, b2⟩ := HWY.out k hkt
      obtain ⟨V, hV⟩ : ∃ V, f (x.at_.toNat + 2 + k) = V := ⟨_, rfl⟩
      obtain ⟨U, hU⟩ : ∃ U, g (y.at_.toNat + 2 + k) = U := ⟨_, rfl⟩
      have HV := Lib.hid hV; have HU := Lib.hid hU
      rw [hV] at fx a1 a2; rw [hU] at fy b1 b2
      clear hV hU
      have hdd : x.m / P2 k % 2 = 1 ∨ x.m / P2 k % 2 = 0 := by omega
      rcases hdd with hd | hd
      · have HB := Lib.hid hd
        go_wp2_with fail
        refine (l2Pointer_at g1 (o1 + 1) k x.m true _ x2 hm (by omega) (by rw [hd]; rfl)).mono ?_
        rintro e w5 ⟨rfl, q5, rfl⟩
        rw [World.drewN_drewN]
        have HS1 := Lib.hid (S1.out.below (drewN_below w (q + q5)))
        have HS2 := Lib.hid (S2.out.below (drewN_below w (q + q5)))

        clear hd x1 x2 x5 y5 fx fy lx ly lgx lgy
        by_cases hv : V = 0
        · by_cases hu : U = 0
          · subst hv; subst hu
            have HD2 : Hid (∀ j, j < k + 1 → FldAlike R R' (x.m / P2 (j : Int) % 2 = 1) (f (x.at_.toNat + 2 + j)) (g (y.at_.toNat + 2 + j))) := Lib.hid (fun j hj => by
              rcases Nat.lt_succ_iff_lt_or_eq.mp hj with h | h
              · exact HD.out j h
              · subst h; exact ⟨fun _ => ⟨by rw [HV.out, HU.out], fun h => absurd HV.out h⟩, fun h => absurd HB.out h⟩)

            go_wp2
            go_roundw
            case rel => first | exact ⟨k + 1, _, by omega, by go_num, rfl, HD2⟩ | ((repeat apply Exists.intro); exact ⟨⟨k + 1, _, by omega, by go_num, rfl, HD2⟩, rfl⟩)
            case measure => simp [intOf]; omega

          · subst hv
            have hub : (U == 0) = false := by simpa using hu
            have hrf : r = false := by
              cases r with
              | false => rfl
              | true => exact absurd (HR.out.1 rfl k hkt) (fun h => hu (by rw [← HU.out]; exact (h.1 HB.out).1.1 HV.out))

            clear hu
            subst hrf
            go_wp2
            go_ret
            exact ⟨rfl, _, rfl⟩

        · by_cases hu : U = 0
          · subst hu
            have hvb : (V == 0) = false := by simpa using hv
            have hrf : r = false := by
              cases r with
              | false => rfl
              | true => exact absurd (HR.out.1 rfl k hkt) (fun h => hv (by rw [← HV.out]; exact (h.1 HB.out).1.2 HU.out))

            clear hv
            subst hrf
            go_wp2
            go_ret
            exact ⟨rfl, _, rfl⟩

          · have hvb : (V == 0) = false := by simpa using hv
            have hub : (U == 0) = false := by simpa using hu
            have hvn : (V != 0) = true := by simpa using hv
            have HVN := Lib.hid hv; have HUN := Lib.hid hu
            clear hv hu
            by_cases hn : numI R (V - 1) = numI R' (U - 1)
            · have HN := Lib.hid hn
              have HD2 : Hid (∀ j, j < k + 1 → FldAlike R R' (x.m / P2 (j : Int) % 2 = 1) (f (x.at_.toNat + 2 + j)) (g (y.at_.toNat + 2 + j))) := Lib.hid (fun j hj => by
                rcases Nat.lt_succ_iff_lt_or_eq.mp hj with h | h
                · exact HD.out j h
                · subst h; exact ⟨fun _ => ⟨by rw [HV.out, HU.out]; exact ⟨fun h => absurd h HVN.out, fun h => absurd h HUN.out⟩, fun _ => by rw [HV.out, HU.out]; exact numI_inj.1 HN.out⟩, fun h => absurd HB.out h⟩)

              clear hn
              go_wp2_with fail
              refine (l4Number_any a R c (V - 1) _ HS1.out (by omega)).mono ?_
              rintro e w' ⟨rfl, rfl⟩
              rw [HN.out]
              go_wp2_with fail
              refine (l4Number_any a' R' c' (U - 1) _ HS2.out (by omega)).mono ?_
              rintro e w' ⟨rfl, rfl⟩
              generalize numI R' (U - 1) = N2 at *
              go_wp2
              go_roundw
              case rel => first | exact ⟨k + 1, _, by omega, by go_num, rfl, HD2⟩ | ((repeat apply Exists.intro); exact ⟨⟨k + 1, _, by omega, by go_num, rfl, HD2⟩, rfl⟩)
              case measure => simp [intOf]; omega

            · have HN := Lib.hid hn
              have hrf : r = false := by
                cases r with
                | false => rfl
                | true => exact absurd (HR.out.1 rfl k hkt) (fun h => HN.out (numI_inj.2 (by have h9 := (h.1 HB.out).2 (by rw [HV.out]; exact HVN.out); rwa [HV.out, HU.out] at h9)))

              subst hrf
              have hnb : (numI R (V - 1) == numI R' (U - 1)) = false := by simpa using hn
              clear hn
              go_wp2_with fail
              refine (l4Number_any a R c (V - 1) _ HS1.out (by omega)).mono ?_
              rintro e w' ⟨rfl, rfl⟩
              go_wp2_with fail
              refine (l4Number_any a' R' c' (U - 1) _ HS2.out (by omega)).mono ?_
              rintro e w' ⟨rfl, rfl⟩
              clear HN
              generalize numI R' (U - 1) = N2 at *
              generalize numI R (V - 1) = N1 at *
              go_wp2
              go_ret
              exact ⟨rfl, _, rfl⟩
      · have HB : Hid (¬ x.m / P2 (k : Int) % 2 = 1) := Lib.hid (by omega)
        go_wp2_with fail
        refine (l2Pointer_at g1 (o1 + 1) k x.m false _ x2 hm (by omega) (by rw [hd]; rfl)).mono ?_
        rintro e w5 ⟨rfl, q5, rfl⟩
        rw [World.drewN_drewN]
        have HS1 := Lib.hid (S1.out.below (drewN_below w (q + q5)))
        have HS2 := Lib.hid (S2.out.below (drewN_below w (q + q5)))

        clear hd x1 x2 x5 y5 fx fy lx ly lgx lgy
        by_cases hvu : V = U
        · subst hvu
          have HD2 : Hid (∀ j, j < k + 1 → FldAlike R R' (x.m / P2 (j : Int) % 2 = 1) (f (x.at_.toNat + 2 + j)) (g (y.at_.toNat + 2 + j))) := Lib.hid (fun j hj => by
            rcases Nat.lt_succ_iff_lt_or_eq.mp hj with h | h
            · exact HD.out j h
            · subst h; exact ⟨fun h => absurd h HB.out, fun _ => by rw [HV.out, HU.out]⟩)

          go_wp2
          go_roundw
          case rel => first | exact ⟨k + 1, _, by omega, by go_num, rfl, HD2⟩ | ((repeat apply Exists.intro); exact ⟨⟨k + 1, _, by omega, by go_num, rfl, HD2⟩, rfl⟩)
          case measure => simp [intOf]; omega

        · have hb : (V == U) = false := by simpa using hvu
          have hrf : r = false := by
            cases r with
            | false => rfl
            | true => exact absurd (HR.out.1 rfl k hkt) (fun h => hvu (by have h9 := h.2 HB.out; rwa [HV.out, HU.out] at h9))

          clear hvu
          subst hrf
          go_wp2
          go_ret
          exact ⟨rfl, _, rfl⟩

    · have hrt : r = true := HR.out.2 (fun j hj => HD.out j (by omega))
      subst hrt
      go_wp2
      go_ret
      exact ⟨rfl, _, rfl⟩

theorem l4Alike_any (g1 o1 e1 k1 g2 o2 e2 k2 : Nat) (f g : Nat → Int) (x y : Ob) (a a' : Option Addr) (R R' : List Int) (c c' : Nat) (r : Bool) (w : World) (hx : ObM w g1 o1 e1 k1 f x) (hy : ObM w g2 o2 e2 k2 g y) (s1 : Src w a R.length (lf R)) (s2 : Src w a' R'.length (lf R')) (hl : R.length ≤ 400) (hl' : R'.length ≤ 400)
    (hxs : 0 ≤ x.s ∧ x.s ≤ 12) (hxm : 0 ≤ x.m ∧ x.m ≤ 4095) (hwx : ∀ k, k < x.s.toNat → -1000000000 ≤ f (x.at_.toNat + 2 + k) ∧ f (x.at_.toNat + 2 + k) ≤ 1000000000) (hwy : ∀ k, k < y.s.toNat → -1000000000 ≤ g (y.at_.toNat + 2 + k) ∧ g (y.at_.toNat + 2 + k) ≤ 1000000000)
    (hr : r = true ↔ ObAlike f R x g R' y) :
    Calls Try.prog 79 #[.pointer (some ⟨g1, o1, none⟩), .slice a R.length c, .pointer (some ⟨g2, o2, none⟩), .slice a' R'.length c'] w fun e w' => e = .returned (.bool r) ∧ ∃ q, w' = w.drewN q := by
  by_cases hh : x.s = y.s ∧ x.m = y.m ∧ x.o = y.o ∧ x.h = y.h
  · exact l4Alike_same g1 o1 e1 k1 g2 o2 e2 k2 f g x y a a' R R' c c' r w hx hy s1 s2 hl hl' hh.1 hh.2.1 hh.2.2.1 hh.2.2.2 hxs hxm hwx (fun k hk => hwy k (by rw [← hh.1]; exact hk)) ⟨fun h => (hr.1 h).2, fun h => hr.2 ⟨hh, h⟩⟩
  · have hrf : r = false := by
      cases r with
      | false => rfl
      | true => exact absurd (hr.1 rfl).1 hh
    subst hrf
    exact l4Alike_head g1 o1 e1 k1 g2 o2 e2 k2 f g x y a a' R R' c c' w hx hy hh
end Go.Proofs.Ytihbenbfnpiikaa

namespace Go.Proofs.Ytihbenbfnpiikaa
open Go.RowKit Go.Maps
set_option linter.unusedVariables false

def RetAskU (W : World) (f : Nat → Int) (roots : List Int) (co : Int) (L : List Ob) (e : Ending) (w' : World) : Prop :=
  Below W.heap.size W w' ∧ ∃ v a N c, e = .returned (.tuple #[v, .slice a N c, .int .i64 co]) ∧ (co = 0 → N = (reachO f L roots).length ∧ ∃ M, L = M.map OM.x ∧ OMS w' W.heap.size W.heap.size f v M ∧ Src w' a (reachO f L roots).length (lf (reachO f L roots)))

theorem askU {W : World} {f : Nat → Int} {roots : List Int} {co : Int} {L : List Ob} {e : Ending} {w' : World} (h : RetAsk W f roots co L e w') : RetAskU W f roots co L e w' := by
  obtain ⟨h1, h2⟩ := h
  refine ⟨h1, ?_⟩
  rcases h2 with ⟨h0, rfl⟩ | ⟨rfl, v, M, a, c, hL, rfl, hm, ho, _, _⟩
  · exact ⟨_, _, _, _, rfl, fun h => absurd h h0⟩
  · exact ⟨_, _, _, _, rfl, fun _ => ⟨rfl, M, hL, hm, ho.src⟩⟩

def IsIA (co co' : Int) (f : Nat → Int) (L : List Ob) (ra : List Int) (g : Nat → Int) (L' : List Ob) (rb : List Int) (r : Bool) : Prop := r = true ↔ co = 0 ∧ co' = 0 ∧ AlikeO f L ra g L' rb

theorem isIA_some (co co' : Int) (f : Nat → Int) (L : List Ob) (ra : List Int) (g : Nat → Int) (L' : List Ob) (rb : List Int) : ∃ r, IsIA co co' f L ra g L' rb r := by
  by_cases h : co = 0 ∧ co' = 0 ∧ AlikeO f L ra g L' rb
  · exact ⟨true, fun _ => h, fun _ => rfl⟩
  · exact ⟨false, fun h0 => (by cases h0), fun h0 => absurd h0 h⟩

theorem l4Number_is (n : Nat) (a : Option Addr) (l : List Int) (c : Nat) (v x : Int) (w : World) (hn : n = l.length) (hs : Src w a l.length (lf l)) (hl : l.length ≤ 1048576) (hx : numI l v = x) :
    Calls Try.prog 81 #[.slice a n c, .int .i64 v] w fun e w' => e = .returned (.int .i64 x) ∧ w = w' := by subst hn; exact hx ▸ l4Number_any a l c v w hs hl

theorem l4Alike_len (n : Nat) (g1 o1 e1 k1 g2 o2 e2 k2 : Nat) (f g : Nat → Int) (x y : Ob) (a a' : Option Addr) (R R' : List Int) (c c' : Nat) (r : Bool) (w : World) (hn : n = R'.length) (hx : ObM w g1 o1 e1 k1 f x) (hy : ObM w g2 o2 e2 k2 g y) (s1 : Src w a R.length (lf R)) (s2 : Src w a' R'.length (lf R')) (hl : R.length ≤ 400) (hl' : R'.length ≤ 400)
    (hxs : 0 ≤ x.s ∧ x.s ≤ 12) (hxm : 0 ≤ x.m ∧ x.m ≤ 4095) (hwx : ∀ k, k < x.s.toNat → -1000000000 ≤ f (x.at_.toNat + 2 + k) ∧ f (x.at_.toNat + 2 + k) ≤ 1000000000) (hwy : ∀ k, k < y.s.toNat → -1000000000 ≤ g (y.at_.toNat + 2 + k) ∧ g (y.at_.toNat + 2 + k) ≤ 1000000000)
    (hr : r = true ↔ ObAlike f R x g R' y) :
    Calls Try.prog 79 #[.pointer (some ⟨g1, o1, none⟩), .slice a R.length c, .pointer (some ⟨g2, o2, none⟩), .slice a' n c'] w fun e w' => e = .returned (.bool r) ∧ ∃ q, w' = w.drewN q := by subst hn; exact l4Alike_any g1 o1 e1 k1 g2 o2 e2 k2 f g x y a a' R R' c c' r w hx hy s1 s2 hl hl' hxs hxm hwx hwy hr

/-- The object of a number of what is reached, and where it lies. -/
theorem reach_obm {w : World} {base lo : Nat} {f : Nat → Int} {v : Value} {M : List OM} (hm : OMS w base lo f v M) {y : Int} (hy : y ∈ placesO (M.map OM.x)) : ∃ (x : Ob) (j g1 e1 k1 c1 : Nat), findO (M.map OM.x) y = some x ∧ (M.map OM.x)[j]? = some x ∧ j < M.length ∧ v = .slice (some ⟨g1, 0, none⟩) M.length c1 ∧ ObM w g1 (j * 6) e1 k1 f x ∧ (0 ≤ x.s ∧ x.s ≤ 12) ∧ (0 ≤ x.m ∧ x.m ≤ 4095) ∧ ∀ k, k < x.s.toNat → -1000000000 ≤ f (x.at_.toNat + 2 + k) ∧ f (x.at_.toNat + 2 + k) ≤ 1000000000 := by
  obtain ⟨x, hx⟩ := mem_placesO.1 hy
  obtain ⟨j, hj, hjx⟩ := List.getElem_of_mem (List.mem_of_find?_eq_some hx)
  have hjs : (M.map OM.x)[j]? = some x := by rw [List.getElem?_eq_getElem hj, hjx]
  obtain ⟨g1, c1, g, cc, e1, hjm, l1, x0, x1, x2, x3, x4, x5, lg, hfc, hs, hmm, hat, hwd⟩ := hm.get hjs
  exact ⟨x, j, g1, g, cc, c1, hx, hjs, hjm, e1, ⟨l1, x1, x2, x3, x4, x5, lg, hfc⟩, hs, hmm, hwd⟩

set_option maxRecDepth 100000 in
set_option maxHeartbeats 6400000 in
theorem specIA_any (h ac bu : Int) (a : Option Addr) (n c : Nat) (f : Nat → Int) (ra : Option Addr) (ra_ : List Int) (rc : Nat) (co : Int) (L : List Ob) (h' ac' bu' : Int) (a' : Option Addr) (n' c' : Nat) (f' : Nat → Int) (rb : Option Addr) (rb_ : List Int) (rd : Nat) (co' : Int) (L' : List Ob) (r : Bool) (w : World) (hs : Src w a n f) (hcn : n ≤ c) (hcm : c ≤ maxLen) (hrs : Src w ra ra_.length (lf ra_)) (hk : IsAsk h n f ac bu ra_ co L) (hs' : Src w a' n' f') (hcn' : n' ≤ c') (hcm' : c' ≤ maxLen) (hrs' : Src w rb rb_.length (lf rb_)) (hk' : IsAsk h' n' f' ac' bu' rb_ co' L') (hr : IsIA co co' f L ra_ f' L' rb_ r) :
    Calls Try.prog 22 #[.agg #[.int .i64 h, .slice a n c, .int .i64 ac, .int .i64 bu], .slice ra ra_.length rc, .agg #[.int .i64 h', .slice a' n' c', .int .i64 ac', .int .i64 bu'], .slice rb rb_.length rd] w (RetBool w r) := by
  have HS := Lib.hid hs; have HCM := Lib.hid hcm; have HRS := Lib.hid hrs; have HK := Lib.hid hk; have HR := Lib.hid hr
  have HS' := Lib.hid hs'; have HCM' := Lib.hid hcm'; have HRS' := Lib.hid hrs'; have HK' := Lib.hid hk'
  have HB0 := Lib.hid (((Below.refl w.heap.size w).alloc (Nat.le_refl _) (.cells #[.int .i64 h, .slice a n c, .int .i64 ac, .int .i64 bu] 26)).alloc (by simp) (.cells #[.int .i64 h', .slice a' n' c', .int .i64 ac', .int .i64 bu'] 26))
  have A_0 := Lib.hid ((Blk.new_at (w := w) (cs := #[.int .i64 h, .slice a n c, .int .i64 ac, .int .i64 bu]) (t := 26) w.heap.size rfl).alloc (.cells #[.int .i64 h', .slice a' n' c', .int .i64 ac', .int .i64 bu'] 26))
  have B_0 := Lib.hid (Blk.new_at (w := w.alloc (.cells #[.int .i64 h, .slice a n c, .int .i64 ac, .int .i64 bu] 26)) (cs := #[.int .i64 h', .slice a' n' c', .int .i64 ac', .int .i64 bu']) (t := 26) (w.heap.size + 1) (by simp))
  clear hs hcm hrs hk hr hs' hcm' hrs' hk'
  go_enter Try.func22, Try.ntmps22
  go_wp2_with fail
  generalize (w.alloc (.cells #[.int .i64 h, .slice a n c, .int .i64 ac, .int .i64 bu] 26)).alloc (.cells #[.int .i64 h', .slice a' n' c', .int .i64 ac', .int .i64 bu'] 26) = w0 at *
  refine (l4Ask_any w.heap.size h ac bu a n c f ra ra_ rc co L _ A_0.out (HS.out.below HB0.out) hcn HCM.out (HRS.out.below HB0.out) HK.out).mono ?_
  intro e w1 hq1
  obtain ⟨hb, v1, a1, N1, c1, rfl, hz1⟩ := askU hq1
  have HB1 := Lib.hid (HB0.out.trans (hb.mono HB0.out.size))
  have B_1 := Lib.hid (B_0.out.below hb)
  have HZ1 := Lib.hid hz1
  clear hb hz1 hq1
  go_wp2_with fail
  refine (l4Ask_any (w.heap.size + 1) h' ac' bu' a' n' c' f' rb rb_ rd co' L' _ B_1.out (HS'.out.below HB1.out) hcn' HCM'.out (HRS'.out.below HB1.out) HK'.out).mono ?_
  intro e w2 hq2
  obtain ⟨hb, v2, a2, N2, c2, rfl, hz2⟩ := askU hq2
  have HB2 := Lib.hid (HB1.out.trans (hb.mono HB1.out.size))
  have HW12 := Lib.hid hb
  have HZ2 := Lib.hid hz2
  clear hb hz2 hq2 A_0 B_0 B_1 HB0 HB1
  by_cases h0 : co = 0
  · by_cases h1 : co' = 0
    · subst h0; subst h1
      obtain ⟨rfl, M, hL, hm, hR1⟩ := HZ1.out rfl
      obtain ⟨rfl, M', hL', hm', hR2⟩ := HZ2.out rfl
      have HRI := Lib.hid (right_of (isAsk_zero HK.out).1 (isAsk_zero HK.out).2.1)
      have HRI' := Lib.hid (right_of (isAsk_zero HK'.out).1 (isAsk_zero HK'.out).2.1)
      have HSUB := Lib.hid (reachO_sub HRI.out.points HRI.out.size (isAsk_zero HK.out).2.2.2)
      have HSUB' := Lib.hid (reachO_sub HRI'.out.points HRI'.out.size (isAsk_zero HK'.out).2.2.2)
      have h60 : ra_.length ≤ 60 := (isAsk_zero HK.out).2.2.1
      have hl1 : (reachO f L ra_).length ≤ 400 := by have := (reach_small HK.out).1; rwa [outR_zero] at this
      have hl2 : (reachO f' L' rb_).length ≤ 400 := by have := (reach_small HK'.out).1; rwa [outR_zero] at this
      have HND := Lib.hid (show (placesO L).Nodup from by obtain ⟨_, h5⟩ := isOI_zero (isAsk_zero HK.out).2.1; exact places_nodup h5)
      have HND' := Lib.hid (show (placesO L').Nodup from by obtain ⟨_, h5⟩ := isOI_zero (isAsk_zero HK'.out).2.1; exact places_nodup h5)
      have HAL := Lib.hid (show (r = true ↔ _) from HR.out.trans ⟨fun h => alike_obj.1 h.2.2, fun h => ⟨rfl, rfl, alike_obj.2 h⟩⟩)
      obtain ⟨R, hR⟩ : ∃ R, reachO f L ra_ = R := ⟨_, rfl⟩
      obtain ⟨R', hR'⟩ : ∃ R, reachO f' L' rb_ = R := ⟨_, rfl⟩
      have HYR := Lib.hid (reachO_roots f L ra_); have HYR' := Lib.hid (reachO_roots f' L' rb_)
      rw [hR] at hR1 HSUB hl1 HAL HYR ⊢
      rw [hR'] at hR2 HSUB' hl2 HAL HYR' ⊢
      have HL := Lib.hid hL; have HL' := Lib.hid hL'
      have HM := Lib.hid (hm.below HW12.out); have HM' := Lib.hid hm'
      have HR1 := Lib.hid (hR1.below HW12.out); have HR2 := Lib.hid hR2
      clear hR hR' hL hL' hm hm' hR1 hR2 HZ1 HZ2 HR
      have HR := HAL
      clear HAL
      by_cases hlr : ra_.length = rb_.length
      · by_cases hln : R.length = R'.length
        · have HLR := Lib.hid hlr; have HLN := Lib.hid hln
          rw [← hlr, ← hln]
          clear hlr hln
          have hRW : Hid (∃ q, w2 = w2.drewN q) := Lib.hid ⟨0, rfl⟩
          go_wp2
          go_loopw [15] (fun p wr => ∃ (i q : Nat), i ≤ R.length ∧ p = .int .i64 (i : Int) ∧ wr = w2.drewN q ∧ Hid (∀ j, j < i → ∃ x y, findO L (lf R j) = some x ∧ findO L' (lf R' j) = some y ∧ ObAlike f R x f' R' y)) (fun p _ => R.length - (intOf p).toNat)
          case atStart => exact ⟨0, 0, by omega, rfl, rfl, Lib.hid (fun j hj => by omega)⟩
          case round =>
            obtain ⟨i, q, hi, rfl, hwq, HD⟩ := hrel
            subst hwq
            by_cases hlt : i < R.length
            · have hlt' : (i : Int) < (R.length : Int) := by omega
              have hi0 : (0 : Int) ≤ (i : Int) := by omega
              have hlt2 : i < R'.length := by rw [← HLN.out]; exact hlt
              have hlt2' : (i : Int) < (R'.length : Int) := by omega
              obtain ⟨x, j, g1, e1, k1, d1, hx, hjx, hjm, hv1, hob, hxs, hxm, hwx⟩ := reach_obm HM.out (y := lf R i) (by rw [← HL.out]; exact HSUB.out _ (lf_mem hlt))
              obtain ⟨y, j', g2, e2, k2, d2, hy, hjy, hjm', hv2, hob', hys, hym, hwy⟩ := reach_obm HM'.out (y := lf R' i) (by rw [← HL'.out]; exact HSUB'.out _ (lf_mem hlt2))
              subst hv1; subst hv2
              obtain ⟨b1, o1, rfl, lb1, hc1⟩ := src_some HR1.out (by omega)
              obtain ⟨b2, o2, rfl, lb2, hc2⟩ := src_some HR2.out (by omega)
              have cc1 := ((drewN_below w2 q).cell (p := ⟨b1, o1 + i, none⟩) lb1).trans (hc1 i hlt)
              have cc2 := ((drewN_below w2 q).cell (p := ⟨b2, o2 + i, none⟩) lb2).trans (hc2 i hlt2)
              have ll1 : b1 < (w2.drewN q).heap.size := by have := (drewN_below w2 q).size; omega
              have ll2 : b2 < (w2.drewN q).heap.size := by have := (drewN_below w2 q).size; omega
              obtain ⟨y1, hy1⟩ : ∃ y1, lf R i = y1 := ⟨_, rfl⟩
              obtain ⟨y2, hy2⟩ : ∃ y2, lf R' i = y2 := ⟨_, rfl⟩
              rw [hy1] at cc1 hx; rw [hy2] at cc2 hy
              have HX := Lib.hid hx; have HY := Lib.hid hy; have HJX := Lib.hid hjx; have HJY := Lib.hid hjy; have HOB := Lib.hid hob; have HOB' := Lib.hid hob'; have HWX := Lib.hid hwx; have HWY := Lib.hid hwy; have HY1 := Lib.hid hy1; have HY2 := Lib.hid hy2
              have HAP := Lib.hid (show ∀ x ∈ M.map OM.x, findO (M.map OM.x) x.at_ = some x from by rw [← HL.out]; exact HRI.out.apart)
              have HAP' := Lib.hid (show ∀ x ∈ M'.map OM.x, findO (M'.map OM.x) x.at_ = some x from by rw [← HL'.out]; exact HRI'.out.apart)
              have hj1 : (j : Int) < (M.length : Int) := by omega
              have hj2 : (j' : Int) < (M'.length : Int) := by omega
              have hj10 : (0 : Int) ≤ (j : Int) := by omega
              have hj20 : (0 : Int) ≤ (j' : Int) := by omega
              clear hx hy hjx hjy hob hob' hwx hwy hy1 hy2 hc1 hc2
              have HMq := Lib.hid (HM.out.below (drewN_below w2 q)); have HMq' := Lib.hid (HM'.out.below (drewN_below w2 q))
              have HOq := Lib.hid (HOB.out.below (drewN_below w2 q)); have HOq' := Lib.hid (HOB'.out.below (drewN_below w2 q))
              have HRq := Lib.hid (HR1.out.below (drewN_below w2 q)); have HRq' := Lib.hid (HR2.out.below (drewN_below w2 q))
              have HNDM := Lib.hid (show (placesO (M.map OM.x)).Nodup from by rw [← HL.out]; exact HND.out)
              have HNDM' := Lib.hid (show (placesO (M'.map OM.x)).Nodup from by rw [← HL'.out]; exact HND'.out)
              by_cases hob : ObAlike f R x f' R' y
              · have HOA := Lib.hid hob
                clear hob
                generalize hwq : w2.drewN q = wq at *
                go_wp2_with fail
                go_quiet (first | (with_reducible exact Calls.quiet_of_same (Calls.mono (find_exact _ M w0.heap.size w0.heap.size f y1 x j _ (HMq.out.below (drewN_below _ _)) HAP.out HX.out HJX.out HNDM.out) fun _ _ hh => ⟨hh.1, hh.2.symm⟩)) | (with_reducible exact Calls.quiet_of_same (Calls.mono (find_exact _ M' w1.heap.size w1.heap.size f' y2 y j' _ (HMq'.out.below (drewN_below _ _)) HAP'.out HY.out HJY.out HNDM'.out) fun _ _ hh => ⟨hh.1, hh.2.symm⟩)) | (with_reducible exact Calls.quiet_of (l4Alike_len _ g1 (j * 6) e1 k1 g2 (j' * 6) e2 k2 f f' x y _ _ R R' c1 c2 true _ HLN.out (HOq.out.below (drewN_below _ _)) (HOq'.out.below (drewN_below _ _)) (HRq.out.below (drewN_below _ _)) (HRq'.out.below (drewN_below _ _)) hl1 hl2 hxs hxm HWX.out HWY.out ⟨fun _ => HOA.out, fun _ => rfl⟩)))
                clear HMq HMq' HOq HOq' HRq HRq' HOB HOB' cc1 cc2
                subst hwq
                rw [World.drewN_drewN]
                have HD2 : Hid (∀ j, j < i + 1 → ∃ x y, findO L (lf R j) = some x ∧ findO L' (lf R' j) = some y ∧ ObAlike f R x f' R' y) := Lib.hid (fun k hk => by
                  rcases Nat.lt_succ_iff_lt_or_eq.mp hk with h | h
                  · exact HD.out k h
                  · subst h
                    exact ⟨x, y, by rw [HY1.out, HL.out]; exact HX.out, by rw [HY2.out, HL'.out]; exact HY.out, HOA.out⟩)
                go_wp2
                go_roundw
                case rel => first | exact ⟨i + 1, _, by omega, by go_num, rfl, HD2⟩ | ((repeat apply Exists.intro); exact ⟨⟨i + 1, _, by omega, by go_num, rfl, HD2⟩, rfl⟩)
                case measure => simp [intOf]; omega
              · have HOA := Lib.hid hob
                clear hob
                have hrf : r = false := by
                  cases r with
                  | false => rfl
                  | true =>
                    obtain ⟨x', y', q1, q2, q3⟩ := (HR.out.1 rfl).2.2.1 i hlt
                    rw [HY1.out, HL.out, HX.out] at q1; rw [HY2.out, HL'.out, HY.out] at q2
                    obtain rfl := Option.some.inj q1
                    obtain rfl := Option.some.inj q2
                    exact absurd q3 HOA.out
                subst hrf
                generalize hwq : w2.drewN q = wq at *
                go_wp2_with fail
                go_quiet (first | (with_reducible exact Calls.quiet_of_same (Calls.mono (find_exact _ M w0.heap.size w0.heap.size f y1 x j _ (HMq.out.below (drewN_below _ _)) HAP.out HX.out HJX.out HNDM.out) fun _ _ hh => ⟨hh.1, hh.2.symm⟩)) | (with_reducible exact Calls.quiet_of_same (Calls.mono (find_exact _ M' w1.heap.size w1.heap.size f' y2 y j' _ (HMq'.out.below (drewN_below _ _)) HAP'.out HY.out HJY.out HNDM'.out) fun _ _ hh => ⟨hh.1, hh.2.symm⟩)) | (with_reducible exact Calls.quiet_of (l4Alike_len _ g1 (j * 6) e1 k1 g2 (j' * 6) e2 k2 f f' x y _ _ R R' c1 c2 false _ HLN.out (HOq.out.below (drewN_below _ _)) (HOq'.out.below (drewN_below _ _)) (HRq.out.below (drewN_below _ _)) (HRq'.out.below (drewN_below _ _)) hl1 hl2 hxs hxm HWX.out HWY.out ⟨fun h => (Bool.noConfusion h), fun h => absurd h HOA.out⟩)))
                clear HMq HMq' HOq HOq' HRq HRq' HOB HOB' cc1 cc2
                subst hwq
                rw [World.drewN_drewN]
                go_wp2
                go_ret
                exact ⟨rfl, below_drewN HB2.out _⟩
            · have hlt' : ¬ (i : Int) < (R.length : Int) := by omega
              obtain rfl : i = R.length := by omega
              have HDD := HD
              clear HD
              go_wp2
              go_loopw [16] (fun p wr => ∃ (i q : Nat), i ≤ ra_.length ∧ p = .int .i64 (i : Int) ∧ wr = w2.drewN q ∧ Hid (∀ j, j < i → numL R (lf ra_ j) = numL R' (lf rb_ j))) (fun p _ => ra_.length - (intOf p).toNat)
              case atStart => exact ⟨0, q, by omega, rfl, rfl, Lib.hid (fun j hj => by omega)⟩
              case round =>
                obtain ⟨i, q, hi, rfl, hwq, HD⟩ := hrel
                subst hwq
                by_cases hlt : i < ra_.length
                · have hlt' : (i : Int) < (ra_.length : Int) := by omega
                  have hi0 : (0 : Int) ≤ (i : Int) := by omega
                  have hlt2 : i < rb_.length := by rw [← HLR.out]; exact hlt
                  have hlt2' : (i : Int) < (rb_.length : Int) := by omega
                  obtain ⟨b1, o1, rfl, lb1, hc1⟩ := src_some (HRS.out.below HB2.out) (by omega)
                  obtain ⟨b2, o2, rfl, lb2, hc2⟩ := src_some (HRS'.out.below HB2.out) (by omega)
                  have cc1 := ((drewN_below w2 q).cell (p := ⟨b1, o1 + i, none⟩) lb1).trans (hc1 i hlt)
                  have cc2 := ((drewN_below w2 q).cell (p := ⟨b2, o2 + i, none⟩) lb2).trans (hc2 i hlt2)
                  have ll1 : b1 < (w2.drewN q).heap.size := by have := (drewN_below w2 q).size; omega
                  have ll2 : b2 < (w2.drewN q).heap.size := by have := (drewN_below w2 q).size; omega
                  obtain ⟨y1, hy1⟩ : ∃ y1, lf ra_ i = y1 := ⟨_, rfl⟩
                  obtain ⟨y2, hy2⟩ : ∃ y2, lf rb_ i = y2 := ⟨_, rfl⟩
                  rw [hy1] at cc1; rw [hy2] at cc2
                  have HY1 := Lib.hid hy1; have HY2 := Lib.hid hy2
                  have HRq := Lib.hid (HR1.out.below (drewN_below w2 q)); have HRq' := Lib.hid (HR2.out.below (drewN_below w2 q))
                  clear hc1 hc2 hy1 hy2
                  by_cases hn : numI R y1 = numI R' y2
                  · have HN := Lib.hid hn
                    have HD2 : Hid (∀ j, j < i + 1 → numL R (lf ra_ j) = numL R' (lf rb_ j)) := Lib.hid (fun k hk => by
                      rcases Nat.lt_succ_iff_lt_or_eq.mp hk with h | h
                      · exact HD.out k h
                      · subst h
                        rw [HY1.out, HY2.out]; exact numI_inj.1 HN.out)
                    clear hn
                    have hnum : numI R y1 = numI R' y2 := HN.out
                    obtain ⟨N9, hN9⟩ : ∃ N9, numI R y1 = N9 := ⟨_, rfl⟩
                    have HN1 : Hid (numI R y1 = N9) := Lib.hid hN9
                    have HN2 : Hid (numI R' y2 = N9) := Lib.hid (by rw [← hnum]; exact hN9)
                    clear hnum hN9
                    generalize hwq : w2.drewN q = wq at *
                    go_wp2_with fail
                    go_quiet (first | (with_reducible exact Calls.quiet_of_same (Calls.mono (l4Number_is _ _ R c1 y1 N9 _ rfl (HRq.out.below (drewN_below _ _)) (by omega) HN1.out) fun _ _ hh => ⟨hh.1, hh.2.symm⟩)) | (with_reducible exact Calls.quiet_of_same (Calls.mono (l4Number_is _ _ R' c2 y2 N9 _ HLN.out (HRq'.out.below (drewN_below _ _)) (by omega) HN2.out) fun _ _ hh => ⟨hh.1, hh.2.symm⟩)))
                    clear HRq HRq' cc1 cc2
                    subst hwq
                    rw [World.drewN_drewN]
                    go_wp2
                    go_roundw
                    case rel => first | exact ⟨i + 1, _, by omega, by go_num, rfl, HD2⟩ | ((repeat apply Exists.intro); exact ⟨⟨i + 1, _, by omega, by go_num, rfl, HD2⟩, rfl⟩)
                    case measure => simp [intOf]; omega
                  · have HN := Lib.hid hn
                    have hrf : r = false := by
                      cases r with
                      | false => rfl
                      | true =>
                        have q3 := (HR.out.1 rfl).2.2.2 i hlt
                        rw [HY1.out, HY2.out] at q3
                        exact absurd (numI_inj.2 q3) HN.out
                    subst hrf
                    obtain ⟨N8, hN8⟩ : ∃ N9, numI R y1 = N9 := ⟨_, rfl⟩
                    obtain ⟨N9, hN9⟩ : ∃ N9, numI R' y2 = N9 := ⟨_, rfl⟩
                    rw [hN8, hN9] at hn
                    have HN1 := Lib.hid hN8; have HN2 := Lib.hid hN9
                    have hnb : (N8 == N9) = false := by simpa using hn
                    clear hn hN8 hN9
                    generalize hwq : w2.drewN q = wq at *
                    go_wp2_with fail
                    go_quiet (first | (with_reducible exact Calls.quiet_of_same (Calls.mono (l4Number_is _ _ R c1 y1 N8 _ rfl (HRq.out.below (drewN_below _ _)) (by omega) HN1.out) fun _ _ hh => ⟨hh.1, hh.2.symm⟩)) | (with_reducible exact Calls.quiet_of_same (Calls.mono (l4Number_is _ _ R' c2 y2 N9 _ HLN.out (HRq'.out.below (drewN_below _ _)) (by omega) HN2.out) fun _ _ hh => ⟨hh.1, hh.2.symm⟩)))
                    clear HRq HRq' cc1 cc2
                    subst hwq
                    rw [World.drewN_drewN]
                    go_wp2
                    go_ret
                    exact ⟨rfl, below_drewN HB2.out _⟩
                · have hlt' : ¬ (i : Int) < (ra_.length : Int) := by omega
                  have hrt : r = true := HR.out.2 ⟨HLR.out, HLN.out, fun j hj => HDD.out j hj, fun j hj => HD.out j (by omega)⟩
                  subst hrt
                  go_wp2
                  go_ret
                  exact ⟨rfl, below_drewN HB2.out _⟩
        · have hrf : r = false := by
            cases r with
            | false => rfl
            | true => exact absurd (HR.out.1 rfl) (fun h => hln h.2.1)
          subst hrf
          go_wp2
          go_ret
          exact ⟨rfl, HB2.out⟩
      · have hrf : r = false := by
          cases r with
          | false => rfl
          | true => exact absurd (HR.out.1 rfl) (fun h => hlr h.1)
        subst hrf
        go_wp2
        go_ret
        exact ⟨rfl, HB2.out⟩
    · subst h0
      have hd1 : (co' != 0) = true := by simpa using h1
      have hrf : r = false := by
        cases r with
        | false => rfl
        | true => exact absurd (HR.out.1 rfl) (fun h => h1 h.2.1)
      subst hrf
      clear h1
      go_wp2
      go_ret
      exact ⟨rfl, HB2.out⟩
  · have hd0 : (co != 0) = true := by simpa using h0
    have hrf : r = false := by
      cases r with
      | false => rfl
      | true => exact absurd (HR.out.1 rfl) (fun h => h0 h.1)
    subst hrf
    clear h0
    go_wp2
    go_ret
    exact ⟨rfl, HB2.out⟩
end Go.Proofs.Ytihbenbfnpiikaa

