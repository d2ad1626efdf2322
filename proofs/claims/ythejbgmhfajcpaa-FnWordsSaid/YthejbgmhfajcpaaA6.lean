/- Contracts: ArenaFault, of the program and of the model. -/
import Derived.Test.YthejbgmhfajcpaaA5
import Derived.Test.YthejbgmhfajcpaaT1
namespace Go.Proofs.Ythejbgmhfajcpaa
open Go.RowKit

def Word (v : Int) : Prop := -1000000000 ≤ v ∧ v ≤ 1000000000
def HeadOk (h ac bu : Int) : Prop := (8 ≤ h ∧ h ≤ 200) ∧ (0 ≤ ac ∧ ac ≤ 1) ∧ (0 ≤ bu ∧ bu ≤ h)
/-- The code of an arena. -/
def IsFault (h : Int) (n : Nat) (f : Nat → Int) (ac bu k : Int) : Prop :=
  (¬ HeadOk h ac bu ∧ k = 3) ∨ (HeadOk h ac bu ∧ ¬ (n : Int) = 2 * h ∧ k = 2) ∨ (HeadOk h ac bu ∧ (n : Int) = 2 * h ∧ (∃ i, i < n ∧ ¬ Word (f i)) ∧ k = 3) ∨
  (HeadOk h ac bu ∧ (n : Int) = 2 * h ∧ (∀ i, i < n → Word (f i)) ∧ k = 0)
theorem isFault_some (h : Int) (n : Nat) (f : Nat → Int) (ac bu : Int) : ∃ k, IsFault h n f ac bu k := by
  by_cases h1 : HeadOk h ac bu
  · by_cases h2 : (n : Int) = 2 * h
    · by_cases h3 : ∀ i, i < n → Word (f i)
      · exact ⟨0, .inr (.inr (.inr ⟨h1, h2, h3, rfl⟩))⟩
      · refine ⟨3, .inr (.inr (.inl ⟨h1, h2, ?_, rfl⟩))⟩
        apply Classical.byContradiction; intro hn
        exact h3 fun i hi => Classical.byContradiction fun hw => hn ⟨i, hi, hw⟩
    · exact ⟨2, .inr (.inl ⟨h1, h2, rfl⟩)⟩
  · exact ⟨3, .inl ⟨h1, rfl⟩⟩
/-- An integer comes back; nothing that was there is turned. -/
def RetInt (W : World) (r : Int) (e : Ending) (w' : World) : Prop := e = .returned (.int .i64 r) ∧ Below W.heap.size W w'

set_option maxHeartbeats 400000 in
theorem l1In_yes (v l g : Int) (w : World) (h1 : l ≤ v) (h2 : v ≤ g) : Calls Try.prog 58 #[.int .i64 v, .int .i64 l, .int .i64 g] w fun e w' => e = .returned (.bool true) ∧ w = w' := by
  go_enter Try.func58, Try.ntmps58
  go_wp2
  go_ret
  exact ⟨rfl, rfl⟩
set_option maxHeartbeats 400000 in
theorem l1In_no (v l g : Int) (w : World) (h : ¬ (l ≤ v ∧ v ≤ g)) : Calls Try.prog 58 #[.int .i64 v, .int .i64 l, .int .i64 g] w fun e w' => e = .returned (.bool false) ∧ w = w' := by
  by_cases h1 : l ≤ v
  · have h2 : ¬ v ≤ g := fun k => h ⟨h1, k⟩
    clear h
    go_enter Try.func58, Try.ntmps58
    go_wp2
    go_ret
    exact ⟨rfl, rfl⟩
  · clear h
    go_enter Try.func58, Try.ntmps58
    go_wp2
    go_ret
    exact ⟨rfl, rfl⟩
set_option maxHeartbeats 400000 in
theorem l1Value_yes (v : Int) (w : World) (h : Word v) : Calls Try.prog 56 #[.int .i64 v] w fun e w' => e = .returned (.bool true) ∧ w = w' := by
  obtain ⟨h1, h2⟩ := h
  go_enter Try.func56, Try.ntmps56
  go_wp2_with (go_at_call 58; (with_reducible refine (l1In_yes _ _ _ _ h1 h2).mono ?_); rintro e w' ⟨rfl, rfl⟩)
  go_ret
  exact ⟨rfl, rfl⟩
set_option maxHeartbeats 400000 in
theorem l1Value_no (v : Int) (w : World) (h : ¬ Word v) : Calls Try.prog 56 #[.int .i64 v] w fun e w' => e = .returned (.bool false) ∧ w = w' := by
  have H := Lib.hid h
  clear h
  go_enter Try.func56, Try.ntmps56
  go_wp2_with (go_at_call 58; (with_reducible refine (l1In_no _ _ _ _ (by have := H.out; unfold Word at this; omega)).mono ?_); rintro e w' ⟨rfl, rfl⟩)
  go_ret
  exact ⟨rfl, rfl⟩

set_option maxHeartbeats 400000 in
theorem specFault_head (h ac bu : Int) (a : Option Addr) (n c : Nat) (w : World) (h0 : ¬ HeadOk h ac bu) :
    Calls Try.prog 23 #[.agg #[.int .i64 h, .slice a n c, .int .i64 ac, .int .i64 bu]] w (RetInt w 3) := by
  by_cases c1 : 8 ≤ h ∧ h ≤ 200
  · by_cases c2 : 0 ≤ ac ∧ ac ≤ 1
    · have c3 : ¬ (0 ≤ bu ∧ bu ≤ h) := fun x => h0 ⟨c1, c2, x⟩
      have C3 := Lib.hid c3
      obtain ⟨c11, c12⟩ := c1
      obtain ⟨c21, c22⟩ := c2
      clear h0 c3
      go_enter Try.func23, Try.ntmps23
      go_wp2_with (first | (go_at_call 58; (with_reducible refine (l1In_yes _ _ _ _ (by omega) (by omega)).mono ?_); rintro e w' ⟨rfl, rfl⟩) | (go_at_call 58; (with_reducible refine (l1In_no _ _ _ _ (by have := C3.out; omega)).mono ?_); rintro e w' ⟨rfl, rfl⟩))
      go_ret
      exact ⟨rfl, (Below.refl _ _).alloc (Nat.le_refl _) _⟩
    · have C3 := Lib.hid c2
      obtain ⟨c11, c12⟩ := c1
      clear h0 c2
      go_enter Try.func23, Try.ntmps23
      go_wp2_with (first | (go_at_call 58; (with_reducible refine (l1In_no _ _ _ _ (by have := C3.out; omega)).mono ?_); rintro e w' ⟨rfl, rfl⟩) | (go_at_call 58; (with_reducible refine (l1In_yes _ _ _ _ (by omega) (by omega)).mono ?_); rintro e w' ⟨rfl, rfl⟩))
      go_ret
      exact ⟨rfl, (Below.refl _ _).alloc (Nat.le_refl _) _⟩
  · have C3 := Lib.hid c1
    clear h0 c1
    go_enter Try.func23, Try.ntmps23
    go_wp2_with (go_at_call 58; (with_reducible refine (l1In_no _ _ _ _ (by have := C3.out; omega)).mono ?_); rintro e w' ⟨rfl, rfl⟩)
    go_ret
    exact ⟨rfl, (Below.refl _ _).alloc (Nat.le_refl _) _⟩

set_option maxHeartbeats 400000 in
theorem specFault_many (h ac bu : Int) (a : Option Addr) (n c : Nat) (w : World) (h0 : HeadOk h ac bu) (hm : ¬ (n : Int) = 2 * h) :
    Calls Try.prog 23 #[.agg #[.int .i64 h, .slice a n c, .int .i64 ac, .int .i64 bu]] w (RetInt w 2) := by
  obtain ⟨⟨c11, c12⟩, ⟨c21, c22⟩, c31, c32⟩ := h0
  have hd : ((n : Int) != 2 * h) = true := by simpa using hm
  clear hm
  go_enter Try.func23, Try.ntmps23
  go_wp2_with (first | (go_at_call 58; (with_reducible refine (l1In_yes _ _ _ _ (by omega) (by omega)).mono ?_); rintro e w' ⟨rfl, rfl⟩))
  go_ret
  exact ⟨rfl, (Below.refl _ _).alloc (Nat.le_refl _) _⟩

set_option maxHeartbeats 400000 in
theorem specFault_words (h ac bu : Int) (a : Option Addr) (n c : Nat) (f : Nat → Int) (k : Int) (w : World) (hs : Src w a n f) (h0 : HeadOk h ac bu) (hm : (n : Int) = 2 * h)
    (hk : (k = 0 ∧ ∀ i, i < n → Word (f i)) ∨ (k = 3 ∧ ∃ i, i < n ∧ ¬ Word (f i))) :
    Calls Try.prog 23 #[.agg #[.int .i64 h, .slice a n c, .int .i64 ac, .int .i64 bu]] w (RetInt w k) := by
  obtain ⟨⟨c11, c12⟩, ⟨c21, c22⟩, c31, c32⟩ := h0
  have hd : ((n : Int) != 2 * h) = false := by simpa using hm
  have HS := Lib.hid hs
  have HK := Lib.hid hk
  have hn : n ≤ 400 := by omega
  clear hm hk hs
  go_enter Try.func23, Try.ntmps23
  go_wp2_with (first | (go_at_call 58; (with_reducible refine (l1In_yes _ _ _ _ (by omega) (by omega)).mono ?_); rintro e w' ⟨rfl, rfl⟩))
  go_loopw [3] (fun k' wr => ∃ i : Nat, i ≤ n ∧ k' = .int .i64 i ∧ wr = w.alloc (.cells #[.int .i64 h, .slice a n c, .int .i64 ac, .int .i64 bu] 26) ∧ Hid (∀ j, j < i → Word (f j))) (fun k' _ => n - (intOf k').toNat)
  case atStart => exact ⟨0, Nat.zero_le _, rfl, rfl, fun j hj => by omega⟩
  case round =>
    obtain ⟨i, hi, rfl, rfl, HE⟩ := hrel
    by_cases hlt : i < n
    · obtain ⟨b1, o1, rfl, hb1, hc1⟩ := src_some HS.out (by omega)
      have d1 := hc1 i hlt
      have hlt' : (i : Int) < (n : Int) := by omega
      clear hc1
      by_cases hw : Word (f i)
      · have HW := Lib.hid hw
        clear hw
        go_wp2_with (go_at_call 56; (with_reducible refine (l1Value_yes _ _ HW.out).mono ?_); rintro e w' ⟨rfl, rfl⟩)
        go_roundw
        case rel => exact ⟨i + 1, by omega, by go_num, trivial, fun j hj => by
            rcases Nat.lt_succ_iff_lt_or_eq.mp hj with h | h
            · exact HE.out j h
            · subst h; exact HW.out⟩
        case measure => simp [intOf]; omega
      · have HW := Lib.hid hw
        clear hw
        go_wp2_with (go_at_call 56; (with_reducible refine (l1Value_no _ _ HW.out).mono ?_); rintro e w' ⟨rfl, rfl⟩)
        go_ret
        rcases HK.out with ⟨_, hk⟩ | ⟨hk, _⟩
        · exact absurd (hk i hlt) HW.out
        · subst hk; exact ⟨rfl, (Below.refl _ _).alloc (Nat.le_refl _) _⟩
    · go_wp2
      go_ret
      rcases HK.out with ⟨hk, _⟩ | ⟨_, j, hj, hk⟩
      · subst hk; exact ⟨rfl, (Below.refl _ _).alloc (Nat.le_refl _) _⟩
      · exact absurd (HE.out j (by omega)) hk

theorem specFault_any (h ac bu : Int) (a : Option Addr) (n c : Nat) (f : Nat → Int) (k : Int) (w : World) (hs : Src w a n f) (hk : IsFault h n f ac bu k) :
    Calls Try.prog 23 #[.agg #[.int .i64 h, .slice a n c, .int .i64 ac, .int .i64 bu]] w (RetInt w k) := by
  rcases hk with ⟨h1, rfl⟩ | ⟨h1, h2, rfl⟩ | ⟨h1, h2, h3, rfl⟩ | ⟨h1, h2, h3, rfl⟩
  · exact specFault_head h ac bu a n c w h1
  · exact specFault_many h ac bu a n c w h1 h2
  · exact specFault_words h ac bu a n c f 3 w hs h1 h2 (.inr ⟨rfl, h3⟩)
  · exact specFault_words h ac bu a n c f 0 w hs h1 h2 (.inl ⟨rfl, h3⟩)

set_option maxHeartbeats 400000 in
theorem wordBound_any (v : Int) (w : World) : Calls Try.prog 49 #[.int .i64 v] w fun e w' => e = .returned (.agg #[.int .i64 v, .int .i64 (-1000000000), .int .i64 1000000000]) ∧ Below w.heap.size w w' := by
  go_enter Try.func49, Try.ntmps49
  go_wp2
  exact bodyPost_ret (v := .agg #[.int .i64 v, .int .i64 (-1000000000), .int .i64 1000000000]) (by simp [results, Try.results49, go_sem]) rfl ⟨rfl, (Below.refl _ _).alloc (Nat.le_refl _) _⟩


theorem b3_new {W : World} {cs : Array Value} {t : TypeId} {o : Nat} {v l g : Int} (h1 : cs[o]? = some (.int .i64 v)) (h2 : cs[o + 1]? = some (.int .i64 l)) (h3 : cs[o + 2]? = some (.int .i64 g)) : B3 (W.alloc (.cells cs t)) W.heap.size o v l g := by
  refine ⟨?_, ?_, ?_⟩ <;> (rw [World.cell?_alloc_at _ _ _ _ rfl]; assumption)
/-- isOutside, of bounds that were laid just ahead of the call. -/
def pick3 (a b c : Int) : Nat → Int := fun i => if i = 0 then a else if i = 1 then b else c
theorem isOut1 (B : Nat) (W : World) (v l g : Int) (r : Bool) (hB : B = W.heap.size) (hr : (r = false ∧ (l ≤ v ∧ v ≤ g)) ∨ (r = true ∧ ¬ (l ≤ v ∧ v ≤ g))) :
    Calls Try.prog 47 #[.slice (some ⟨B, 0, none⟩) 1 1] (W.alloc (.cells #[.int .i64 v, .int .i64 l, .int .i64 g] 62)) (RetBool (W.alloc (.cells #[.int .i64 v, .int .i64 l, .int .i64 g] 62)) r) := by
  subst hB
  rcases hr with ⟨rfl, hr⟩ | ⟨rfl, hr⟩
  · refine isOut_no W.heap.size 1 (fun _ => v) (fun _ => l) (fun _ => g) _ (by omega) (by simp) (fun i hi => ?_) (fun _ _ => hr)
    obtain rfl : i = 0 := by omega
    exact b3_new rfl rfl rfl
  · refine isOut_yes W.heap.size 1 (fun _ => v) (fun _ => l) (fun _ => g) _ (by omega) (by simp) (fun i hi => ?_) ⟨0, by omega, hr⟩
    obtain rfl : i = 0 := by omega
    exact b3_new rfl rfl rfl
theorem isOut2 (B : Nat) (W : World) (v0 l0 g0 v1 l1 g1 : Int) (r : Bool) (hB : B = W.heap.size)
    (hr : (r = false ∧ (l0 ≤ v0 ∧ v0 ≤ g0) ∧ (l1 ≤ v1 ∧ v1 ≤ g1)) ∨ (r = true ∧ ¬ ((l0 ≤ v0 ∧ v0 ≤ g0) ∧ (l1 ≤ v1 ∧ v1 ≤ g1)))) :
    Calls Try.prog 47 #[.slice (some ⟨B, 0, none⟩) 2 2] (W.alloc (.cells #[.int .i64 v0, .int .i64 l0, .int .i64 g0, .int .i64 v1, .int .i64 l1, .int .i64 g1] 62))
      (RetBool (W.alloc (.cells #[.int .i64 v0, .int .i64 l0, .int .i64 g0, .int .i64 v1, .int .i64 l1, .int .i64 g1] 62)) r) := by
  subst hB
  have hB3 : ∀ i, i < 2 → B3 (W.alloc (.cells #[.int .i64 v0, .int .i64 l0, .int .i64 g0, .int .i64 v1, .int .i64 l1, .int .i64 g1] 62)) W.heap.size (i * 3) (pick3 v0 v1 0 i) (pick3 l0 l1 0 i) (pick3 g0 g1 0 i) := by
    intro i hi
    match i, hi with
    | 0, _ => exact b3_new rfl rfl rfl
    | 1, _ => exact b3_new rfl rfl rfl
  rcases hr with ⟨rfl, hr⟩ | ⟨rfl, hr⟩
  · refine isOut_no W.heap.size 2 _ _ _ _ (by omega) (by simp) hB3 (fun i hi => ?_)
    match i, hi with
    | 0, _ => exact hr.1
    | 1, _ => exact hr.2
  · refine isOut_yes W.heap.size 2 _ _ _ _ (by omega) (by simp) hB3 ?_
    by_cases h0 : l0 ≤ v0 ∧ v0 ≤ g0
    · exact ⟨1, by omega, fun h1 => hr ⟨h0, h1⟩⟩
    · exact ⟨0, by omega, h0⟩
theorem isOut3 (B : Nat) (W : World) (v0 l0 g0 v1 l1 g1 v2 l2 g2 : Int) (r : Bool) (hB : B = W.heap.size)
    (hr : (r = false ∧ (l0 ≤ v0 ∧ v0 ≤ g0) ∧ (l1 ≤ v1 ∧ v1 ≤ g1) ∧ (l2 ≤ v2 ∧ v2 ≤ g2)) ∨ (r = true ∧ ¬ ((l0 ≤ v0 ∧ v0 ≤ g0) ∧ (l1 ≤ v1 ∧ v1 ≤ g1) ∧ (l2 ≤ v2 ∧ v2 ≤ g2)))) :
    Calls Try.prog 47 #[.slice (some ⟨B, 0, none⟩) 3 3] (W.alloc (.cells #[.int .i64 v0, .int .i64 l0, .int .i64 g0, .int .i64 v1, .int .i64 l1, .int .i64 g1, .int .i64 v2, .int .i64 l2, .int .i64 g2] 62))
      (RetBool (W.alloc (.cells #[.int .i64 v0, .int .i64 l0, .int .i64 g0, .int .i64 v1, .int .i64 l1, .int .i64 g1, .int .i64 v2, .int .i64 l2, .int .i64 g2] 62)) r) := by
  subst hB
  have hB3 : ∀ i, i < 3 → B3 (W.alloc (.cells #[.int .i64 v0, .int .i64 l0, .int .i64 g0, .int .i64 v1, .int .i64 l1, .int .i64 g1, .int .i64 v2, .int .i64 l2, .int .i64 g2] 62)) W.heap.size (i * 3) (pick3 v0 v1 v2 i) (pick3 l0 l1 l2 i) (pick3 g0 g1 g2 i) := by
    intro i hi
    match i, hi with
    | 0, _ => exact b3_new rfl rfl rfl
    | 1, _ => exact b3_new rfl rfl rfl
    | 2, _ => exact b3_new rfl rfl rfl
  rcases hr with ⟨rfl, hr⟩ | ⟨rfl, hr⟩
  · refine isOut_no W.heap.size 3 _ _ _ _ (by omega) (by simp) hB3 (fun i hi => ?_)
    match i, hi with
    | 0, _ => exact hr.1
    | 1, _ => exact hr.2.1
    | 2, _ => exact hr.2.2
  · refine isOut_yes W.heap.size 3 _ _ _ _ (by omega) (by simp) hB3 ?_
    by_cases h0 : l0 ≤ v0 ∧ v0 ≤ g0
    · by_cases h1 : l1 ≤ v1 ∧ v1 ≤ g1
      · exact ⟨2, by omega, fun h2 => hr ⟨h0, h1, h2⟩⟩
      · exact ⟨1, by omega, h1⟩
    · exact ⟨0, by omega, h0⟩

set_option maxHeartbeats 400000 in
theorem implFault_head (h ac bu : Int) (a : Option Addr) (n c : Nat) (w : World) (h0 : ¬ HeadOk h ac bu) :
    Calls Try.prog 22 #[.agg #[.int .i64 h, .slice a n c, .int .i64 ac, .int .i64 bu]] w (RetInt w 3) := by
  have H0 : Hid (¬ ((8 ≤ h ∧ h ≤ 200) ∧ (0 ≤ ac ∧ ac ≤ 1) ∧ (0 ≤ bu ∧ bu ≤ h))) := h0
  clear h0
  go_enter Try.func22, Try.ntmps22
  go_wp2_with (go_at_call 47; (with_reducible refine (isOut3 _ _ _ _ _ _ _ _ _ _ _ true (by simp) (.inr ⟨rfl, H0.out⟩)).mono ?_); rintro e w1 ⟨rfl, hb⟩; obtain ⟨hc, hf⟩ := bcell hb; have HB := Lib.hid hb; have hz := hb.size; clear hb)
  go_ret
  exact ⟨rfl, (((Below.refl _ _).alloc (Nat.le_refl _) _).alloc (by simp) _).trans (HB.out.mono (by simp; try omega))⟩

set_option maxHeartbeats 400000 in
theorem implFault_many (h ac bu : Int) (a : Option Addr) (n c : Nat) (w : World) (h0 : HeadOk h ac bu) (hm : ¬ (n : Int) = 2 * h) :
    Calls Try.prog 22 #[.agg #[.int .i64 h, .slice a n c, .int .i64 ac, .int .i64 bu]] w (RetInt w 2) := by
  have H0 : Hid ((8 ≤ h ∧ h ≤ 200) ∧ (0 ≤ ac ∧ ac ≤ 1) ∧ (0 ≤ bu ∧ bu ≤ h)) := h0
  have hd : ((n : Int) != 2 * h) = true := by simpa using hm
  obtain ⟨⟨c11, c12⟩, ⟨c21, c22⟩, c31, c32⟩ := h0
  clear hm
  go_enter Try.func22, Try.ntmps22
  go_wp2_with (go_at_call 47; (with_reducible refine (isOut3 _ _ _ _ _ _ _ _ _ _ _ false (by simp) (.inl ⟨rfl, H0.out⟩)).mono ?_); rintro e w1 ⟨rfl, hb⟩; obtain ⟨hc, hf⟩ := bcell hb; have HB := Lib.hid hb; have hz := hb.size; clear hb)
  go_ret
  exact ⟨rfl, (((Below.refl _ _).alloc (Nat.le_refl _) _).alloc (by simp) _).trans (HB.out.mono (by simp; try omega))⟩

set_option maxHeartbeats 800000 in
theorem implFault_words (h ac bu : Int) (a : Option Addr) (n c : Nat) (f : Nat → Int) (k : Int) (w : World) (hs : Src w a n f) (h0 : HeadOk h ac bu) (hm : (n : Int) = 2 * h)
    (hk : (k = 0 ∧ ∀ i, i < n → Word (f i)) ∨ (k = 3 ∧ ∃ i, i < n ∧ ¬ Word (f i))) :
    Calls Try.prog 22 #[.agg #[.int .i64 h, .slice a n c, .int .i64 ac, .int .i64 bu]] w (RetInt w k) := by
  have H0 : Hid ((8 ≤ h ∧ h ≤ 200) ∧ (0 ≤ ac ∧ ac ≤ 1) ∧ (0 ≤ bu ∧ bu ≤ h)) := h0
  obtain ⟨⟨c11, c12⟩, ⟨c21, c22⟩, c31, c32⟩ := h0
  have hd : ((n : Int) != 2 * h) = false := by simpa using hm
  have HS := Lib.hid hs
  have HK := Lib.hid hk
  have hn : n ≤ 400 := by omega
  clear hm hk hs
  go_enter Try.func22, Try.ntmps22
  go_wp2_with (go_at_call 47; (with_reducible refine (isOut3 _ _ _ _ _ _ _ _ _ _ _ false (by simp) (.inl ⟨rfl, H0.out⟩)).mono ?_); rintro e w1 ⟨rfl, hb⟩; obtain ⟨hc, hf⟩ := bcell hb; have HB := Lib.hid hb; have hz := hb.size; clear hb)
  have HB1 : Hid (Below w.heap.size w w1) := (((Below.refl _ _).alloc (Nat.le_refl _) _).alloc (by simp) _).trans (HB.out.mono (by simp; try omega))
  clear hc hf hz HB
  go_loopw [28] (fun k' wr => ∃ i : Nat, i ≤ n ∧ k' = .int .i64 i ∧ Hid (Below w.heap.size w wr) ∧ Hid (∀ j, j < i → Word (f j))) (fun k' _ => n - (intOf k').toNat)
  case atStart => exact ⟨0, Nat.zero_le _, rfl, HB1, fun j hj => by omega⟩
  case round =>
    obtain ⟨i, hi, rfl, HBr, HE⟩ := hrel
    by_cases hlt : i < n
    · obtain ⟨b1, o1, rfl, hb1, hc1⟩ := src_some (HS.out.below HBr.out) (by omega)
      have d1 := hc1 i hlt
      have hlt' : (i : Int) < (n : Int) := by omega
      have hz := HBr.out.size
      clear hc1 HB1
      by_cases hw : Word (f i)
      · have HW : Hid (-1000000000 ≤ f i ∧ f i ≤ 1000000000) := hw
        clear hw
        go_wp2_with (first | (go_at_call 49; (with_reducible refine (wordBound_any _ _).mono ?_); rintro e w2 ⟨rfl, hb2⟩; have HB2 := Lib.hid hb2; have hz2 := hb2.size; clear hb2) | (go_at_call 47; (with_reducible refine (isOut1 _ _ _ _ _ false (by simp) (.inl ⟨rfl, HW.out⟩)).mono ?_); rintro e w3 ⟨rfl, hb3⟩; have HB3 := Lib.hid hb3; have hz3 := hb3.size; clear hb3))
        go_roundw
        case rel => exact ⟨i + 1, by omega, by go_num, ((HBr.out.trans (HB2.out.mono (by omega))).alloc (by omega) _).trans (HB3.out.mono (by simp; omega)), fun j hj => by
            rcases Nat.lt_succ_iff_lt_or_eq.mp hj with h | h
            · exact HE.out j h
            · subst h; exact HW.out⟩
        case measure => simp [intOf]; omega
      · have HW : Hid (¬ (-1000000000 ≤ f i ∧ f i ≤ 1000000000)) := hw
        clear hw
        go_wp2_with (first | (go_at_call 49; (with_reducible refine (wordBound_any _ _).mono ?_); rintro e w2 ⟨rfl, hb2⟩; have HB2 := Lib.hid hb2; have hz2 := hb2.size; clear hb2) | (go_at_call 47; (with_reducible refine (isOut1 _ _ _ _ _ true (by simp) (.inr ⟨rfl, HW.out⟩)).mono ?_); rintro e w3 ⟨rfl, hb3⟩; have HB3 := Lib.hid hb3; have hz3 := hb3.size; clear hb3))
        go_ret
        rcases HK.out with ⟨_, hk⟩ | ⟨hk, _⟩
        · exact absurd (hk i hlt) HW.out
        · subst hk; exact ⟨rfl, ((HBr.out.trans (HB2.out.mono (by omega))).alloc (by omega) _).trans (HB3.out.mono (by simp; omega))⟩
    · go_wp2
      go_ret
      rcases HK.out with ⟨hk, _⟩ | ⟨_, j, hj, hk⟩
      · subst hk; exact ⟨rfl, HBr.out⟩
      · exact absurd (HE.out j (by omega)) hk

theorem implFault_any (h ac bu : Int) (a : Option Addr) (n c : Nat) (f : Nat → Int) (k : Int) (w : World) (hs : Src w a n f) (hk : IsFault h n f ac bu k) :
    Calls Try.prog 22 #[.agg #[.int .i64 h, .slice a n c, .int .i64 ac, .int .i64 bu]] w (RetInt w k) := by
  rcases hk with ⟨h1, rfl⟩ | ⟨h1, h2, rfl⟩ | ⟨h1, h2, h3, rfl⟩ | ⟨h1, h2, h3, rfl⟩
  · exact implFault_head h ac bu a n c w h1
  · exact implFault_many h ac bu a n c w h1 h2
  · exact implFault_words h ac bu a n c f 3 w hs h1 h2 (.inr ⟨rfl, h3⟩)
  · exact implFault_words h ac bu a n c f 0 w hs h1 h2 (.inl ⟨rfl, h3⟩)
end Go.Proofs.Ythejbgmhfajcpaa
