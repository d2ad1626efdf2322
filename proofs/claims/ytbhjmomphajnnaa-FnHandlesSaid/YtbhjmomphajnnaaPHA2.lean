/- Texts merged: M3 to Z8a. -/
import Derived.Test.YtbhjmomphajnnaaPHA1
import Derived.DeepKeys4
import Derived.WideKeyArgs2
namespace Go.Proofs.Ytbhjmomphajnnaa
open Go.RowKit
set_option linter.unusedVariables false

/-- The first place of the node of this number, or -1. -/
def IsFd (N : Nat) (T : Nat → GM) (x v : Int) : Prop := (∃ i : Nat, i < N ∧ (T i).at_ = x ∧ (∀ j, j < i → ¬ (T j).at_ = x) ∧ v = (i : Int)) ∨ (¬ Has N T x ∧ v = -1)

theorem isFd_some (N : Nat) (T : Nat → GM) (x : Int) : ∃ v, IsFd N T x v := by
  induction N with
  | zero => exact ⟨-1, .inr ⟨fun ⟨j, hj, _⟩ => by omega, rfl⟩⟩
  | succ N ih =>
    obtain ⟨v, ⟨i, hi, h1, h2, rfl⟩ | ⟨hno, rfl⟩⟩ := ih
    · exact ⟨(i : Int), .inl ⟨i, by omega, h1, h2, rfl⟩⟩
    · by_cases h : (T N).at_ = x
      · exact ⟨(N : Int), .inl ⟨N, by omega, h, fun j hj he => hno ⟨j, hj, he⟩, rfl⟩⟩
      · refine ⟨-1, .inr ⟨fun ⟨j, hj, he⟩ => ?_, rfl⟩⟩
        rcases Nat.lt_succ_iff_lt_or_eq.mp hj with h1 | h1
        · exact hno ⟨j, h1, he⟩
        · subst h1; exact h he

theorem isFd_has {N : Nat} {T : Nat → GM} {x v : Int} (h : IsFd N T x v) : (0 ≤ v ∧ Has N T x) ∨ (v = -1 ∧ ¬ Has N T x) := by
  rcases h with ⟨i, hi, h1, _, rfl⟩ | ⟨h1, rfl⟩
  · exact .inl ⟨by omega, i, hi, h1⟩
  · exact .inr ⟨rfl, h1⟩

theorem isFd_first {N i : Nat} {T : Nat → GM} {x v : Int} (h : IsFd N T x v) (hi : i < N) (hx : (T i).at_ = x) (hf : ∀ j, j < i → ¬ (T j).at_ = x) : v = (i : Int) := by
  rcases h with ⟨k, hk, h1, h2, rfl⟩ | ⟨h1, _⟩
  · rcases Nat.lt_trichotomy i k with h | rfl | h
    · exact absurd hx (h2 i h)
    · rfl
    · exact absurd h1 (hf k h)
  · exact absurd ⟨i, hi, hx⟩ h1

theorem isFd_none {N : Nat} {T : Nat → GM} {x v : Int} (h : IsFd N T x v) (hf : ∀ j, j < N → ¬ (T j).at_ = x) : v = -1 := by
  rcases h with ⟨k, hk, h1, h2, rfl⟩ | ⟨_, rfl⟩
  · exact absurd h1 (hf k hk)
  · rfl

set_option maxRecDepth 100000 in
set_option maxHeartbeats 1600000 in
theorem l5Find_any (a : Option Addr) (N k : Nat) (T : Nat → GM) (x v : Int) (w : World) (hg : NV w a N T) (hN : N ≤ 1048576) (hv : IsFd N T x v) :
    Calls Try.prog 205 #[.slice a N k, .int .i64 x] w fun e w' => e = .returned (.int .i64 v) ∧ w = w' := by
  have G := Lib.hid hg; have HV := Lib.hid hv
  clear hg hv
  go_enter Try.func205, Try.ntmps205
  go_wp2
  go_loop [5] (fun p => ∃ i : Nat, i ≤ N ∧ p = .int .i64 (i : Int) ∧ Hid (∀ j, j < i → ¬ (T j).at_ = x)) (fun p => N - (intOf p).toNat)
  case atStart => exact ⟨0, Nat.zero_le _, rfl, Lib.hid (fun j hj => by omega)⟩
  case round =>
    obtain ⟨i, hi, rfl, HD⟩ := hrel
    by_cases hlt : i < N
    · have hlt' : (i : Int) < (N : Int) := by omega
      have hi0 : (0 : Int) ≤ (i : Int) := by omega
      rcases G.out with h0 | ⟨b, q, rfl, hg⟩
      · omega
      have lt := hg.lt
      obtain ⟨x0, x1, x2, x3, x4⟩ := hg.six i hlt
      clear hg
      by_cases hx : (T i).at_ = x
      · have hx' : ((T i).at_ == x) = true := by simpa using hx
        obtain rfl : v = (i : Int) := isFd_first HV.out hlt hx HD.out
        clear hx
        go_wp2
        go_ret
        exact ⟨rfl, rfl⟩
      · have hx' : ((T i).at_ == x) = false := by simpa using hx
        have HD' : Hid (∀ j, j < i + 1 → ¬ (T j).at_ = x) := Lib.hid fun j hj => by
          rcases Nat.lt_succ_iff_lt_or_eq.mp hj with h1 | h1
          · exact HD.out j h1
          · subst h1; exact hx
        clear hx HD
        go_wp2
        go_round
        case rel => first | exact ⟨i + 1, by omega, by go_num, HD'⟩ | ((repeat apply Exists.intro); exact ⟨⟨i + 1, by omega, by go_num, HD'⟩, rfl⟩)
        case measure => simp [intOf]; omega
    · have hlt' : ¬ (i : Int) < (N : Int) := by omega
      obtain rfl : v = -1 := isFd_none HV.out fun j hj => HD.out j (by omega)
      go_wp2
      go_ret
      exact ⟨rfl, rfl⟩

set_option maxRecDepth 100000 in
set_option maxHeartbeats 3200000 in
theorem l5Leads_any (g : Nat) (te qu ha : Int) (sa : Option Addr) (M kc : Nat) (S : Nat → SL) (na : Option Addr) (K nc : Nat) (T : Nat → GM) (r : Bool) (w : World)
    (hB : Blk w g [.int .i64 te, .int .i64 qu, .int .i64 ha, .slice sa M kc, .slice na K nc]) (hp : PV w sa M S) (hg : NV w na K T) (hM : M ≤ 1000) (hK : K ≤ 1000) (hn : ∀ i, i < K → IsNode (T i) 0) (hr : r = true ↔ MLead M S K T) :
    Calls Try.prog 153 #[.pointer (some ⟨g, 0, none⟩)] w (RetBool w r) := by
  have B := Lib.hid hB; have P := Lib.hid hp; have G := Lib.hid hg; have HN := Lib.hid hn; have HR := Lib.hid hr
  clear hB hp hg hn hr
  go_enter Try.func153, Try.ntmps153
  go_wp2
  go_loopw [2, 3] (fun u p wr => ∃ i : Nat, i ≤ M ∧ p = .int .i64 (i : Int) ∧ Hid (Below w.heap.size w wr) ∧ Hid (∀ j, j < i → (S j).nd = 0 ∨ Has K T (S j).nd)) (fun _ p _ => M - (intOf p).toNat)
  case atStart => exact ⟨0, Nat.zero_le _, rfl, Below.refl _ _, Lib.hid (fun j hj => by omega)⟩
  case round =>
    obtain ⟨i, hi, rfl, HBr, HD⟩ := hrel
    have b3 := (B.out.below HBr.out).at 3 rfl; have b4 := (B.out.below HBr.out).at 4 rfl; have lB := (B.out.below HBr.out).1
    by_cases hlt : i < M
    · have hlt' : (i : Int) < (M : Int) := by omega
      have hi0 : (0 : Int) ≤ (i : Int) := by omega
      rcases P.out.below HBr.out with h0 | ⟨b, q, rfl, hg⟩
      · omega
      have lt := hg.lt
      obtain ⟨x0, x1⟩ := hg.two i hlt
      clear hg
      have HNX : Hid ((S i).nd = 0 ∨ Has K T (S i).nd → ∀ j, j < i + 1 → (S j).nd = 0 ∨ Has K T (S j).nd) := Lib.hid fun h j hj => by
        rcases Nat.lt_succ_iff_lt_or_eq.mp hj with h1 | h1
        · exact HD.out j h1
        · subst h1; exact h
      have HNO : Hid (¬ ((S i).nd = 0 ∨ Has K T (S i).nd) → r = false) := Lib.hid fun h => by
        cases hq : r
        · rfl
        · exact absurd ((HR.out.1 hq).1 i hlt) h
      by_cases hx : (S i).nd = 0
      · have hx' : ((S i).nd != 0) = false := by simpa using hx
        have HD' := Lib.hid (HNX.out (.inl hx))
        clear hx HD HNX HNO
        go_wp2_with fail
        go_quiet (fail)
        go_wp2
        exact ⟨⟨i + 1, by omega, by go_num, Lib.hid (below_drewN HBr.out _), HD'⟩, by simp [intOf]; omega⟩
      · have hx' : ((S i).nd != 0) = true := by simpa using hx
        have HX := Lib.hid hx
        obtain ⟨v, hv⟩ := isFd_some K T (S i).nd
        have HV := Lib.hid hv
        have G1 := Lib.hid (G.out.below HBr.out)
        rcases isFd_has hv with ⟨h0, hh⟩ | ⟨h0, hh⟩
        · have HD' := Lib.hid (HNX.out (.inr hh))
          have hv0 : ¬ v < 0 := by omega
          clear hx HD HNX HNO hv hh
          go_wp2_with fail
          go_quiet (exact Calls.quiet_of_same (Calls.mono (l5Find_any na K nc T (S i).nd v _ (G1.out.below (drewN_below _ _)) (show K ≤ 1048576 by omega) HV.out) fun _ _ h => ⟨h.1, h.2.symm⟩))
          go_wp2
          exact ⟨⟨i + 1, by omega, by go_num, Lib.hid (below_drewN HBr.out _), HD'⟩, by simp [intOf]; omega⟩
        · obtain rfl := HNO.out (fun h => h.elim hx hh)
          have hv0 : v < 0 := by omega
          clear hx HD HNX HNO hv hh
          go_wp2_with fail
          go_quiet (first | exact Calls.quiet_of_same (Calls.mono (l5Find_any na K nc T (S i).nd v _ (G1.out.below (drewN_below _ _)) (show K ≤ 1048576 by omega) HV.out) fun _ _ h => ⟨h.1, h.2.symm⟩))
          go_wp2
          go_ret
          exact ⟨rfl, below_drewN HBr.out _⟩
    · have hlt' : ¬ (i : Int) < (M : Int) := by omega
      obtain rfl : i = M := by omega
      have HS := Lib.hid (show ∀ j, j < i → (S j).nd = 0 ∨ Has K T (S j).nd from HD.out)
      have HB0 := HBr
      clear HD HBr
      go_wp2
      go_loopw [2, 4] (fun u p wr => ∃ j : Nat, j ≤ K ∧ p = .int .i64 (j : Int) ∧ Hid (Below w.heap.size w wr) ∧ Hid (∀ i, i < j → ∀ k, k < (T i).n → IsP (T i) k → (T i).f k = 0 ∨ Has K T ((T i).f k))) (fun _ p _ => K - (intOf p).toNat)
      case atStart => exact ⟨0, Nat.zero_le _, rfl, HB0, Lib.hid (fun j hj => by omega)⟩
      case round =>
        obtain ⟨j, hj, rfl, HBr, HD⟩ := hrel
        have b3 := (B.out.below HBr.out).at 3 rfl; have b4 := (B.out.below HBr.out).at 4 rfl; have lB := (B.out.below HBr.out).1
        by_cases hlt : j < K
        · have hlt' : (j : Int) < (K : Int) := by omega
          have hj0 : (0 : Int) ≤ (j : Int) := by omega
          rcases G.out.below HBr.out with h0 | ⟨b, q, rfl, hg⟩
          · omega
          have lt := hg.lt
          have six := hg.six j hlt
          have FV := Lib.hid six
          have SR := Lib.hid (hg.flds j hlt)
          clear hg six
          have HNI := Lib.hid (isNode_zero (HN.out j hlt))
          obtain ⟨t, ht⟩ : ∃ t, T j = t := ⟨_, rfl⟩
          rw [ht] at HNI
          have FV' : Hid (FivG wr b (q + j * 5) t) := Lib.hid (by rw [← ht]; exact FV.out)
          have SR' : Hid (Src wr t.a t.n t.f) := Lib.hid (by rw [← ht]; exact SR.out)
          have HT := Lib.hid ht
          have HRF : Hid (r = true → ∀ k, k < t.n → IsP t k → t.f k = 0 ∨ Has K T (t.f k)) := Lib.hid (by rw [← ht]; exact fun h => (HR.out.1 h).2 j hlt)
          have HDN : Hid ((∀ k, k < t.n → IsP t k → t.f k = 0 ∨ Has K T (t.f k)) → ∀ i, i < j + 1 → ∀ k, k < (T i).n → IsP (T i) k → (T i).f k = 0 ∨ Has K T ((T i).f k)) := Lib.hid (by
            rw [← ht]
            intro h i hi
            rcases Nat.lt_succ_iff_lt_or_eq.mp hi with h1 | h1
            · exact HD.out i h1
            · subst h1; exact h)
          clear ht FV SR HD
          go_wp2_with fail
          refine (l5Head_any b (q + j * 5) t _ FV'.out lt).mono ?_
          rintro e w1 ⟨rfl, hb⟩
          have HB1 := Lib.hid (thru0 HBr.out hb)
          have F1 := Lib.hid ((FV'.out.below hb lt).below ((Below.refl _ _).alloc (Nat.le_refl _) (.cells #[.int .i64 t.s, .int .i64 t.m, .int .i64 0, .int .i64 t.h] 109)) (by have := hb.size; omega))
          have S1 := Lib.hid ((SR'.out.below hb).alloc (.cells #[.int .i64 t.s, .int .i64 t.m, .int .i64 0, .int .i64 t.h] 109))
          have HB2 : Hid (Below w.heap.size w (w1.alloc (.cells #[.int .i64 t.s, .int .i64 t.m, .int .i64 0, .int .i64 t.h] 109))) := Lib.hid (HB1.out.alloc HB1.out.size _)
          have K1 := Lib.hid (Blk.new_at (w := w1) (cs := #[.int .i64 t.s, .int .i64 t.m, .int .i64 0, .int .i64 t.h]) (t := 109) w1.heap.size rfl)
          have lb1 : b < w1.heap.size := by have := hb.size; omega
          clear hb b3 b4 lB lt FV' SR' HB1 HBr
          obtain ⟨ta, hta⟩ : ∃ ta, t.a = ta := ⟨_, rfl⟩
          have HTA := Lib.hid hta
          rw [hta] at S1
          clear hta
          have hsz : (t.n : Int) = t.s := HNI.out.2.1
          have hs12 : t.s ≤ 12 := HNI.out.1.2.1.2
          have HM : Hid (0 ≤ t.m ∧ t.m ≤ 4095) := Lib.hid (by have h1 := HNI.out.1.2.2.1; have h2 := P2_le hs12; omega)
          have HSZ := Lib.hid hsz
          clear hsz
          go_wp2
          go_loopw [2, 7] (fun u p wr => ∃ k : Nat, k ≤ t.n ∧ p = .int .i64 (k : Int) ∧ Hid (Below w.heap.size w wr) ∧ Hid (FivG wr b (q + j * 5) t) ∧ Hid (Src wr ta t.n t.f) ∧ Hid (Blk wr w1.heap.size [.int .i64 t.s, .int .i64 t.m, .int .i64 0, .int .i64 t.h]) ∧ Hid (∀ i, i < k → IsP t i → t.f i = 0 ∨ Has K T (t.f i)) ∧ w1.heap.size < wr.heap.size) (fun _ p _ => t.n - (intOf p).toNat)
          case atStart => exact ⟨0, Nat.zero_le _, rfl, HB2, F1, S1, K1, Lib.hid (fun i hi => by omega), by simp⟩
          case round =>
            obtain ⟨k, hk, rfl, HBr, XR, SR, BK, HP, l1q⟩ := hrel
            have lr : b < wr.heap.size := by omega
            obtain ⟨x0, x1, x2, x3, x4⟩ := XR.out
            rw [HTA.out] at x4
            have b4 := (B.out.below HBr.out).at 4 rfl; have lB := (B.out.below HBr.out).1
            have z1 := BK.out.at 1 rfl
            have hk0 : (0 : Int) ≤ (k : Int) := by omega
            by_cases hkn : k < t.n
            · have hks : (k : Int) < t.s := by have := HSZ.out; omega
              have hkn' : (k : Int) < (t.n : Int) := by omega
              rcases SR.out with h0 | ⟨b', o', rfl, hb', hc'⟩
              · omega
              have hck := hc' k hkn
              have HPN : Hid ((IsP t k → t.f k = 0 ∨ Has K T (t.f k)) → ∀ i, i < k + 1 → IsP t i → t.f i = 0 ∨ Has K T (t.f i)) := Lib.hid fun h i hi => by
                rcases Nat.lt_succ_iff_lt_or_eq.mp hi with h1 | h1
                · exact HP.out i h1
                · subst h1; exact h
              have G1 := Lib.hid (G.out.below HBr.out)
              rcases (show IsP t k ∨ t.m / P2 (k : Int) % 2 = 0 by unfold IsP; omega) with hd | hd
              · have HD1 := Lib.hid hd
                unfold IsP at hd
                by_cases hx : t.f k = 0
                · have hx' : (t.f k != 0) = false := by simpa using hx
                  have HP' := Lib.hid (HPN.out fun _ => .inl hx)
                  clear hx HPN HP
                  go_wp2_with fail
                  go_quiet (first | exact Calls.quiet_of (l2Pointer_at w1.heap.size 0 k t.m true _ (((drewN_below wr _).cell (p := ⟨w1.heap.size, 0 + 1, none⟩) l1q).trans z1) HM.out (by omega) (by rw [hd]; rfl)))
                  clear hd
                  go_wp2
                  first | (exact ⟨⟨k + 1, by omega, by go_num, Lib.hid (below_drewN HBr.out _), Lib.hid (XR.out.below (drewN_below _ _) lr), Lib.hid (SR.out.below (drewN_below _ _)), Lib.hid (BK.out.below (drewN_below _ _)), HP', by have := (drewN_below wr nq).size; omega⟩, by simp [intOf]; omega⟩)
                · have hx' : (t.f k != 0) = true := by simpa using hx
                  obtain ⟨v, hv⟩ := isFd_some K T (t.f k)
                  have HV := Lib.hid hv
                  rcases isFd_has hv with ⟨h0, hh⟩ | ⟨h0, hh⟩
                  · have HP' := Lib.hid (HPN.out fun _ => .inr hh)
                    have hv0 : ¬ v < 0 := by omega
                    clear hx HPN HP hv hh
                    go_wp2_with fail
                    go_quiet (first | exact Calls.quiet_of (l2Pointer_at w1.heap.size 0 k t.m true _ (((drewN_below wr _).cell (p := ⟨w1.heap.size, 0 + 1, none⟩) l1q).trans z1) HM.out (by omega) (by rw [hd]; rfl)) | exact Calls.quiet_of_same (Calls.mono (l5Find_any _ K nc T (t.f k) v _ (G1.out.below (drewN_below _ _)) (show K ≤ 1048576 by omega) HV.out) fun _ _ h => ⟨h.1, h.2.symm⟩))
                    clear hd
                    go_wp2
                    first | (exact ⟨⟨k + 1, by omega, by go_num, Lib.hid (below_drewN HBr.out _), Lib.hid (XR.out.below (drewN_below _ _) lr), Lib.hid (SR.out.below (drewN_below _ _)), Lib.hid (BK.out.below (drewN_below _ _)), HP', by have := (drewN_below wr nq).size; omega⟩, by simp [intOf]; omega⟩)
                  · have hrf : Hid (r = false) := Lib.hid (by
                      cases hq : r
                      · rfl
                      · exact absurd (HRF.out hq k hkn HD1.out) (fun h => h.elim hx hh))
                    have hv0 : v < 0 := by omega
                    clear hx HPN HP hv hh
                    go_wp2_with fail
                    go_quiet (first | exact Calls.quiet_of (l2Pointer_at w1.heap.size 0 k t.m true _ (((drewN_below wr _).cell (p := ⟨w1.heap.size, 0 + 1, none⟩) l1q).trans z1) HM.out (by omega) (by rw [hd]; rfl)) | exact Calls.quiet_of_same (Calls.mono (l5Find_any _ K nc T (t.f k) v _ (G1.out.below (drewN_below _ _)) (show K ≤ 1048576 by omega) HV.out) fun _ _ h => ⟨h.1, h.2.symm⟩))
                    clear hd
                    go_wp2
                    go_ret
                    exact ⟨by rw [hrf.out]; rfl, below_drewN HBr.out _⟩
              · have HP' := Lib.hid (HPN.out fun h => by unfold IsP at h; omega)
                clear HPN HP
                go_wp2_with fail
                go_quiet (first | exact Calls.quiet_of (l2Pointer_at w1.heap.size 0 k t.m false _ (((drewN_below wr _).cell (p := ⟨w1.heap.size, 0 + 1, none⟩) l1q).trans z1) HM.out (by omega) (by rw [hd]; rfl)))
                clear hd
                go_wp2
                first | (exact ⟨⟨k + 1, by omega, by go_num, Lib.hid (below_drewN HBr.out _), Lib.hid (XR.out.below (drewN_below _ _) lr), Lib.hid (SR.out.below (drewN_below _ _)), Lib.hid (BK.out.below (drewN_below _ _)), HP', by have := (drewN_below wr nq).size; omega⟩, by simp [intOf]; omega⟩)
            · have hks : ¬ (k : Int) < t.s := by have := HSZ.out; omega
              have HD' := Lib.hid (HDN.out (fun i hi => HP.out i (by omega)))
              clear HP z1 x0 x2 x3 x4
              go_wp2
              exact ⟨⟨j + 1, by omega, by go_num, HBr, HD'⟩, by simp [intOf]; omega⟩
        · have hlt' : ¬ (j : Int) < (K : Int) := by omega
          have hrt : Hid (r = true) := Lib.hid (HR.out.2 ⟨HS.out, fun i hi => HD.out i (by omega)⟩)
          go_wp2
          go_ret
          exact ⟨by rw [hrt.out]; rfl, HBr.out⟩
end Go.Proofs.Ytbhjmomphajnnaa

namespace Go.Proofs.Ytbhjmomphajnnaa
open Go.RowKit
set_option linter.unusedVariables false

set_option maxRecDepth 100000 in
theorem nw1_any (t : GM) (at_ : Int) (w : World) : Calls Try.prog 211 #[.agg #[.int .i64 t.at_, .int .i64 t.s, .int .i64 t.m, .int .i64 t.h, .slice t.a t.n t.c], .int .i64 at_] w (fun e w' => e = .returned (.int .i64 (sgn t.at_ at_)) ∧ Below w.heap.size w w') := by
  go_enter Try.func211, Try.ntmps211
  go_wp2_with (go_at_call 212; refine (compare_any t.at_ at_ _).mono ?_; rintro e w1 ⟨rfl, hb1⟩)
  go_ret
  exact ⟨rfl, ((Below.refl _ _).alloc (Nat.le_refl _) _).trans (hb1.mono (by simp))⟩

set_option maxRecDepth 100000 in
set_option maxHeartbeats 1600000 in
theorem bsn_any (a : Option Addr) (N k : Nat) (T : Nat → GM) (at_ : Int) (w : World) (hg : NV w a N T) (hN : N ≤ 1048576) (hm : ∀ i j, i < j → j < N → (T i).at_ < (T j).at_) :
    Calls Try.prog 210 #[.slice a N k, .int .i64 at_, .func (.func 211) #[] #[]] w (fun e w' => ∃ i : Nat, i ≤ N ∧ Cut T N at_ i i ∧ e = .returned (.tuple #[.int .i64 (i : Int), .bool (decide (i < N ∧ (T i).at_ = at_))]) ∧ Below w.heap.size w w') := by
  have G := Lib.hid hg; have HM := Lib.hid hm
  clear hg hm
  have eg : ∀ args w, (callFunc 211 args).run Try.prog w = .ok (.enter 211 args) w := enters_of Try.func211 (by kernel_rfl) rfl
  go_enter Try.func210, Try.ntmps210
  go_wp2
  go_loopw [9, 10] (fun p r wr => ∃ lo hi : Nat, p = .int .i64 (lo : Int) ∧ r = .int .i64 (hi : Int) ∧ lo ≤ hi ∧ hi ≤ N ∧ Hid (Cut T N at_ lo hi) ∧ Hid (Below w.heap.size w wr)) (fun p r _ => (intOf r).toNat - (intOf p).toNat)
  case atStart => exact ⟨0, N, rfl, rfl, Nat.zero_le _, Nat.le_refl _, ⟨fun j hj => by omega, fun j h1 h2 => by omega⟩, Below.refl _ _⟩
  case round =>
    obtain ⟨lo, hi, rfl, rfl, hlh, hin, HC, HBr⟩ := hrel
    by_cases hlt : lo < hi
    · have hlt' : (lo : Int) < (hi : Int) := by omega
      obtain ⟨b, q, rfl, gs⟩ : ∃ b q, a = some ⟨b, q, none⟩ ∧ NSrc w b q N T := by
        rcases G.out with h0 | h
        · omega
        · exact h
      have fiv := (gs.six ((lo + hi) / 2) (by omega)).below HBr.out gs.lt
      have HS := Lib.hid fiv
      clear fiv gs
      obtain ⟨s0, s1, s2, s3, s4⟩ := HS.out
      by_cases hx : (T ((lo + hi) / 2)).at_ < at_
      · have hs : sgn (T ((lo + hi) / 2)).at_ at_ < 0 := by unfold sgn; rw [if_pos hx]; omega
        have C1 : Hid (Cut T N at_ ((lo + hi) / 2 + 1) hi) := Lib.hid ⟨fun j hj => by
          rcases Nat.lt_or_ge j ((lo + hi) / 2) with h | h
          · exact Int.lt_trans (HM.out j _ h (by omega)) hx
          · rw [show j = (lo + hi) / 2 by omega]; exact hx, HC.out.2⟩
        clear hx HC
        go_wp2_with (go_at_fn 211; refine (nw1_any (T _) at_ _).mono ?_; rintro e w1 ⟨rfl, hb1⟩)
        clear hs s0 s1 s2 s3 s4 HS
        have HB1 := Lib.hid (HBr.out.trans ((Below.refl _ _).trans (hb1.mono HBr.out.size)))
        clear hb1
        go_roundw
        case measure => simp [intOf]; omega
        case rel => exact ⟨(lo + hi) / 2 + 1, hi, by go_num, rfl, by omega, hin, C1, HB1⟩
      · have hs : ¬ sgn (T ((lo + hi) / 2)).at_ at_ < 0 := by unfold sgn; rw [if_neg hx]; split <;> omega
        have C1 : Hid (Cut T N at_ lo ((lo + hi) / 2)) := Lib.hid ⟨HC.out.1, fun j h1 h2 => by
          rcases Nat.lt_or_ge ((lo + hi) / 2) j with h | h
          · exact Int.le_of_lt (Int.lt_of_le_of_lt (by omega) (HM.out _ j h h2))
          · rw [show j = (lo + hi) / 2 by omega]; omega⟩
        clear hx HC
        go_wp2_with (go_at_fn 211; refine (nw1_any (T _) at_ _).mono ?_; rintro e w1 ⟨rfl, hb1⟩)
        clear hs s0 s1 s2 s3 s4 HS
        have HB1 := Lib.hid (HBr.out.trans ((Below.refl _ _).trans (hb1.mono HBr.out.size)))
        clear hb1
        go_roundw
        case measure => simp [intOf]; omega
        case rel => exact ⟨lo, (lo + hi) / 2, rfl, by go_num, by omega, by omega, C1, HB1⟩
    · obtain rfl : hi = lo := by omega
      have hlt' : ¬ (hi : Int) < (hi : Int) := by omega
      by_cases hn : hi < N
      · have hn' : (hi : Int) < (N : Int) := by omega
        obtain ⟨b, q, rfl, gs⟩ : ∃ b q, a = some ⟨b, q, none⟩ ∧ NSrc w b q N T := by
          rcases G.out with h0 | h
          · omega
          · exact h
        have fiv := (gs.six hi hn).below HBr.out gs.lt
        have HS := Lib.hid fiv
        clear fiv gs
        obtain ⟨s0, s1, s2, s3, s4⟩ := HS.out
        obtain ⟨t, ht⟩ : ∃ t, T hi = t := ⟨_, rfl⟩
        rw [ht] at s0 s1 s2 s3 s4
        have HT := Lib.hid ht
        clear ht HS
        have hd : Hid ((sgn t.at_ at_ == 0) = decide (hi < N ∧ (T hi).at_ = at_)) := Lib.hid (by
          rw [HT.out]
          by_cases hx : t.at_ = at_
          · have : sgn t.at_ at_ = 0 := by unfold sgn; rw [if_neg (by omega), if_neg (by omega)]
            rw [this, decide_eq_true ⟨hn, hx⟩]; rfl
          · have : ¬ sgn t.at_ at_ = 0 := by unfold sgn; split; omega; split <;> omega
            rw [decide_eq_false (fun h => hx h.2)]; simpa using this)
        go_wp2_with (go_at_fn 211; refine (nw1_any t at_ _).mono ?_; rintro e w1 ⟨rfl, hb1⟩)
        have HB1 := Lib.hid (HBr.out.trans ((Below.refl _ _).trans (hb1.mono HBr.out.size)))
        go_ret2
        exact ⟨hi, hin, HC.out, by rw [← hd.out]; rfl, HB1.out⟩
      · have hn' : ¬ (hi : Int) < (N : Int) := by omega
        have hd : Hid (false = decide (hi < N ∧ (T hi).at_ = at_)) := Lib.hid (decide_eq_false (fun h => hn h.1)).symm
        go_wp2
        go_ret2
        refine ⟨hi, hin, HC.out, ?_, HBr.out⟩
        rw [decide_eq_false hn]; rfl
end Go.Proofs.Ytbhjmomphajnnaa

namespace Go.Proofs.Ytbhjmomphajnnaa
open Go.RowKit
set_option linter.unusedVariables false

/-- A pointer to the node of this number, or none. -/
def RetNW (W : World) (a : Option Addr) (N : Nat) (T : Nat → GM) (x : Int) (e : Ending) (w' : World) : Prop :=
  Below W.heap.size W w' ∧ ((∃ i b q, i < N ∧ (T i).at_ = x ∧ a = some ⟨b, q, none⟩ ∧ e = .returned (.pointer (some ⟨b, q + i * 5, none⟩))) ∨ (¬ Has N T x ∧ e = .returned (.pointer none)))

set_option maxRecDepth 100000 in
set_option maxHeartbeats 1600000 in
theorem nodeWith_any (a : Option Addr) (N k : Nat) (T : Nat → GM) (x : Int) (w : World) (hg : NV w a N T) (hN : N ≤ 1048576) (hm : ∀ i j, i < j → j < N → (T i).at_ < (T j).at_) :
    Calls Try.prog 162 #[.slice a N k, .int .i64 x] w (RetNW w a N T x) := by
  have G := Lib.hid hg; have HM := Lib.hid hm
  clear hg hm
  go_enter Try.func162, Try.ntmps162
  go_wp2_with fail
  refine (bsn_any a N k T x _ G.out hN HM.out).mono ?_
  rintro e w1 ⟨i, hi, hc, rfl, hb⟩
  have HB1 := Lib.hid (thru0 (Below.refl _ _) hb)
  have G1 := Lib.hid (G.out.below hb)
  clear hb
  have HC := Lib.hid hc
  clear hc
  by_cases hx : i < N ∧ (T i).at_ = x
  · rw [decide_eq_true hx]
    obtain ⟨b, q, rfl, gs⟩ : ∃ b q, a = some ⟨b, q, none⟩ ∧ NSrc w1 b q N T := by
      rcases G1.out with h0 | h
      · omega
      · exact h
    have HS := Lib.hid (gs.six i hx.1)
    clear gs
    have hi' : (i : Int) < (N : Int) := by omega
    have hi0 : (0 : Int) ≤ (i : Int) := by omega
    obtain ⟨s0, s1, s2, s3, s4⟩ := HS.out
    have HX := Lib.hid hx
    clear hx
    go_wp2
    go_ret
    exact ⟨HB1.out, .inl ⟨i, b, q, HX.out.1, HX.out.2, rfl, rfl⟩⟩
  · rw [decide_eq_false hx]
    have HP : Hid (¬ Has N T x) := Lib.hid (fun ⟨j, hj, he⟩ => by
      rcases Nat.lt_or_ge j i with h | h
      · have := HC.out.1 j h; omega
      · have h2 := HC.out.2 i (Nat.le_refl _) (by omega)
        rcases Nat.lt_or_ge i j with h3 | h3
        · have := HM.out i j h3 hj; omega
        · exact hx ⟨by omega, by rw [show i = j by omega]; exact he⟩)
    clear hx HC
    go_wp2
    go_ret
    exact ⟨HB1.out, .inr ⟨HP.out, rfl⟩⟩

/-- A number that leads nowhere. -/
def Stray (N : Nat) (T : Nat → GM) (x : Int) : Prop := ¬ x = 0 ∧ ¬ Has N T x

/-- What the closure reads. -/
structure CapN (w : World) (rb : Nat) (a : Option Addr) (N k : Nat) (T : Nat → GM) : Prop where
  blk : Blk w rb [.slice a N k]
  nv : NV w a N T

theorem CapN.below {w w' : World} {rb N k : Nat} {a : Option Addr} {T : Nat → GM} (h : CapN w rb a N k T) (hb : Below w.heap.size w w') : CapN w' rb a N k T := ⟨h.blk.below hb, h.nv.below hb⟩

set_option maxRecDepth 100000 in
set_option maxHeartbeats 800000 in
theorem stray1_any (rb : Nat) (a : Option Addr) (N k : Nat) (T : Nat → GM) (x : Int) (r : Bool) (w : World) (h : CapN w rb a N k T) (hN : N ≤ 1048576) (hm : ∀ i j, i < j → j < N → (T i).at_ < (T j).at_) (hr : r = true ↔ Stray N T x) :
    Calls Try.prog 207 #[.int .i64 x, .pointer (some ⟨rb, 0, none⟩)] w (RetBool w r) := by
  have H := Lib.hid h; have HM := Lib.hid hm; have HR := Lib.hid hr
  clear h hm hr
  have c0 := H.out.blk.at 0 rfl; have l0 := H.out.blk.1
  by_cases hx : x = 0
  · obtain rfl : r = false := by
      cases r
      · rfl
      · exact absurd hx (HR.out.1 rfl).1
    subst hx
    go_enter Try.func207, Try.ntmps207
    go_wp2
    go_ret
    exact ⟨rfl, Below.refl _ _⟩
  · have hx' : (x != 0) = true := by simpa using hx
    go_enter Try.func207, Try.ntmps207
    go_wp2_with fail
    refine (nodeWith_any a N k T x _ H.out.nv hN HM.out).mono ?_
    rintro e w1 ⟨hb, hres⟩
    have HB1 := Lib.hid hb
    clear hb
    rcases hres with ⟨i, b, q, hi, he, rfl, rfl⟩ | ⟨hno, rfl⟩
    · obtain rfl : r = false := by
        cases r
        · rfl
        · exact absurd ⟨i, hi, he⟩ (HR.out.1 rfl).2
      go_wp2
      go_ret
      exact ⟨rfl, HB1.out⟩
    · obtain rfl : r = true := HR.out.2 ⟨hx, hno⟩
      go_wp2
      go_ret
      exact ⟨rfl, HB1.out⟩

/-- slices.IndexFunc over numbers with that closure: the first that leads nowhere. -/
def RetIx (W : World) (n : Nat) (f : Nat → Int) (N : Nat) (T : Nat → GM) (e : Ending) (w' : World) : Prop :=
  Below W.heap.size W w' ∧ (((∀ j, j < n → ¬ Stray N T (f j)) ∧ e = .returned (.int .i64 (-1))) ∨ ∃ i : Nat, i < n ∧ Stray N T (f i) ∧ e = .returned (.int .i64 (i : Int)))

set_option maxRecDepth 100000 in
set_option maxHeartbeats 1600000 in
theorem index64_any (ia : Option Addr) (n c : Nat) (f : Nat → Int) (rb : Nat) (a : Option Addr) (N k : Nat) (T : Nat → GM) (w : World) (hs : Src w ia n f) (hn : n ≤ 1048576) (hc : CapN w rb a N k T) (hN : N ≤ 1048576) (hm : ∀ i j, i < j → j < N → (T i).at_ < (T j).at_) :
    Calls Try.prog 229 #[.slice ia n c, .func (.func 207) #[] #[.pointer (some ⟨rb, 0, none⟩)]] w (RetIx w n f N T) := by
  have S0 := Lib.hid hs; have HC := Lib.hid hc; have HM := Lib.hid hm
  have eg : ∀ args w, (callFunc 207 args).run Try.prog w = .ok (.enter 207 args) w := enters_of Try.func207 (by kernel_rfl) rfl
  clear hs hc hm
  go_enter Try.func229, Try.ntmps229
  go_wp2
  go_loopw [8] (fun p wr => ∃ i : Nat, i ≤ n ∧ p = .int .i64 (i : Int) ∧ Hid (Below w.heap.size w wr) ∧ Hid (∀ j, j < i → ¬ Stray N T (f j))) (fun p _ => n - (intOf p).toNat)
  case atStart => exact ⟨0, Nat.zero_le _, rfl, Below.refl _ _, Lib.hid (fun j hj => by omega)⟩
  case round =>
    obtain ⟨i, hi, rfl, HBr, HD⟩ := hrel
    by_cases hlt : i < n
    · have hlt' : (i : Int) < (n : Int) := by omega
      have hi0 : (0 : Int) ≤ (i : Int) := by omega
      rcases S0.out.below HBr.out with h0 | ⟨b, o, rfl, lb, hc⟩
      · omega
      have hci := hc i hlt
      have HCR := Lib.hid (HC.out.below HBr.out)
      clear hc
      by_cases hin : Stray N T (f i)
      · have HF : Hid (∃ i' : Nat, i' < n ∧ Stray N T (f i') ∧ Ending.returned (.int .i64 (i : Int)) = Ending.returned (.int .i64 (i' : Int))) := Lib.hid ⟨i, hlt, hin, rfl⟩
        have HIN := Lib.hid (show true = true ↔ Stray N T (f i) by simp [hin])
        clear hin
        go_wp2_with (go_at_fn 207; refine (stray1_any rb a N k T (f i) true _ HCR.out hN HM.out HIN.out).mono ?_; rintro e w1 ⟨rfl, hb⟩; have HB1 := Lib.hid (thru0 HBr.out hb); clear hb)
        go_ret
        exact ⟨HB1.out, .inr HF.out⟩
      · have HD' : Hid (∀ j, j < i + 1 → ¬ Stray N T (f j)) := Lib.hid fun j hj => by
          rcases Nat.lt_succ_iff_lt_or_eq.mp hj with h1 | h1
          · exact HD.out j h1
          · subst h1; exact hin
        have HIN := Lib.hid (show false = true ↔ Stray N T (f i) by simp [hin])
        clear hin HD
        go_wp2_with (go_at_fn 207; refine (stray1_any rb a N k T (f i) false _ HCR.out hN HM.out HIN.out).mono ?_; rintro e w1 ⟨rfl, hb⟩; have HB1 := Lib.hid (thru0 HBr.out hb); clear hb)
        clear hci
        go_roundw
        case rel => first | exact ⟨i + 1, by omega, by go_num, HB1, HD'⟩ | ((repeat apply Exists.intro); exact ⟨⟨i + 1, by omega, by go_num, HB1, HD'⟩, rfl⟩)
        case measure => simp [intOf]; omega
    · have hlt' : ¬ (i : Int) < (n : Int) := by omega
      go_wp2
      go_ret
      exact ⟨HBr.out, .inl ⟨fun j hj => HD.out j (by omega), rfl⟩⟩

set_option maxRecDepth 100000 in
set_option maxHeartbeats 400000 in
theorem contains64_any (ia : Option Addr) (n c : Nat) (f : Nat → Int) (rb : Nat) (a : Option Addr) (N k : Nat) (T : Nat → GM) (r : Bool) (w : World) (hs : Src w ia n f) (hn : n ≤ 1048576) (hc : CapN w rb a N k T) (hN : N ≤ 1048576) (hm : ∀ i j, i < j → j < N → (T i).at_ < (T j).at_) (hr : r = true ↔ ∃ i, i < n ∧ Stray N T (f i)) :
    Calls Try.prog 206 #[.slice ia n c, .func (.func 207) #[] #[.pointer (some ⟨rb, 0, none⟩)]] w (RetBool w r) := by
  have HR := Lib.hid hr
  clear hr
  go_enter Try.func206, Try.ntmps206
  go_wp2_with fail
  refine (index64_any ia n c f rb a N k T _ hs hn hc hN hm).mono ?_
  rintro e w1 ⟨hb, hres⟩
  have HB1 := Lib.hid hb
  clear hb
  rcases hres with ⟨hno, rfl⟩ | ⟨i, hi, hin, rfl⟩
  · obtain rfl : r = false := by
      cases r
      · rfl
      · obtain ⟨i, hi, h⟩ := HR.out.1 rfl
        exact absurd h (hno i hi)
    go_wp2
    go_ret
    exact ⟨rfl, HB1.out⟩
  · obtain rfl : r = true := HR.out.2 ⟨i, hi, hin⟩
    have hi0 : (0 : Int) ≤ (i : Int) := by omega
    clear hin
    go_wp2
    go_ret
    exact ⟨rfl, HB1.out⟩

set_option maxRecDepth 100000 in
set_option maxHeartbeats 400000 in
theorem strayId_any (a : Option Addr) (N k : Nat) (T : Nat → GM) (ia : Option Addr) (n c : Nat) (f : Nat → Int) (r : Bool) (w : World) (hg : NV w a N T) (hN : N ≤ 1048576) (hm : ∀ i j, i < j → j < N → (T i).at_ < (T j).at_) (hs : Src w ia n f) (hn : n ≤ 1048576) (hr : r = true ↔ ∃ i, i < n ∧ Stray N T (f i)) :
    Calls Try.prog 155 #[.slice a N k, .slice ia n c] w (RetBool w r) := by
  have G0 := Lib.hid hg; have S0 := Lib.hid hs
  have X0 := Lib.hid (Blk.new_at (w := w) (cs := #[.slice a N k]) (t := 52) w.heap.size rfl)
  clear hg hs
  go_enter Try.func155, Try.ntmps155
  go_wp2_with fail
  refine (contains64_any ia n c f w.heap.size a N k T r _ (S0.out.alloc _) hn ⟨X0.out, G0.out.alloc _⟩ hN hm hr).mono ?_
  rintro e w1 ⟨rfl, hb⟩
  have HB1 := Lib.hid (thru1 (Below.refl _ _) hb)
  clear hb
  go_wp2
  go_ret
  exact ⟨rfl, HB1.out⟩
end Go.Proofs.Ytbhjmomphajnnaa

namespace Go.Proofs.Ytbhjmomphajnnaa
open Go.RowKit
set_option linter.unusedVariables false

set_option maxRecDepth 100000 in
set_option maxHeartbeats 6400000 in
theorem specMF_any (te qu ha : Int) (sa : Option Addr) (M kc : Nat) (S : Nat → SL) (na : Option Addr) (K nc : Nat) (T : Nat → GM) (c : Int) (w : World)
    (hp : PV w sa M S) (hg : NV w na K T) (hM : M ≤ 1048576) (hK : K ≤ 1048576) (hn : ∀ i, i < K → (T i).n ≤ 1048576) (hk : IsMF te qu ha M S K T c) :
    Calls Try.prog 86 #[.agg #[.int .i64 te, .int .i64 qu, .int .i64 ha, .slice sa M kc, .slice na K nc]] w (RetInt w c) := by
  have P0 := Lib.hid hp; have G0 := Lib.hid hg; have HN := Lib.hid hn
  clear hp hg hn
  rcases hk with ⟨h1, rfl⟩ | ⟨⟨⟨t1, t2⟩, ⟨t3, t4⟩, t5, t6⟩, hk⟩
  · by_cases g1 : 0 ≤ te ∧ te ≤ 3
    · by_cases g2 : 2 ≤ qu ∧ qu ≤ 200
      · have g3 : ¬ (0 ≤ ha ∧ ha ≤ 99999) := fun h => h1 ⟨g1, g2, h⟩
        go_enter Try.func86, Try.ntmps86
        go_wp2_with fail
        refine (l1In_yes te 0 3 _ g1.1 g1.2).mono ?_
        rintro e w' ⟨rfl, rfl⟩
        go_wp2_with fail
        refine (l1In_yes qu 2 200 _ g2.1 g2.2).mono ?_
        rintro e w' ⟨rfl, rfl⟩
        go_wp2_with fail
        refine (l1In_no ha 0 99999 _ g3).mono ?_
        rintro e w' ⟨rfl, rfl⟩
        go_wp2
        go_ret
        exact ⟨rfl, (Below.refl _ _).alloc (Nat.le_refl _) _⟩
      · go_enter Try.func86, Try.ntmps86
        go_wp2_with fail
        refine (l1In_yes te 0 3 _ g1.1 g1.2).mono ?_
        rintro e w' ⟨rfl, rfl⟩
        go_wp2_with fail
        refine (l1In_no qu 2 200 _ g2).mono ?_
        rintro e w' ⟨rfl, rfl⟩
        go_wp2
        go_ret
        exact ⟨rfl, (Below.refl _ _).alloc (Nat.le_refl _) _⟩
    · go_enter Try.func86, Try.ntmps86
      go_wp2_with fail
      refine (l1In_no te 0 3 _ g1).mono ?_
      rintro e w' ⟨rfl, rfl⟩
      go_wp2
      go_ret
      exact ⟨rfl, (Below.refl _ _).alloc (Nat.le_refl _) _⟩
  · have HK0 := Lib.hid hk
    clear hk
    go_enter Try.func86, Try.ntmps86
    go_wp2_with fail
    refine (l1In_yes te 0 3 _ t1 t2).mono ?_
    rintro e w' ⟨rfl, rfl⟩
    go_wp2_with fail
    refine (l1In_yes qu 2 200 _ t3 t4).mono ?_
    rintro e w' ⟨rfl, rfl⟩
    go_wp2_with fail
    refine (l1In_yes ha 0 99999 _ t5 t6).mono ?_
    rintro e w' ⟨rfl, rfl⟩
    have HB := Lib.hid ((Below.refl w.heap.size w).alloc (Nat.le_refl _) (.cells #[.int .i64 te, .int .i64 qu, .int .i64 ha, .slice sa M kc, .slice na K nc] 54))
    have B0 := Lib.hid (Blk.new_at (w := w) (cs := #[.int .i64 te, .int .i64 qu, .int .i64 ha, .slice sa M kc, .slice na K nc]) (t := 54) w.heap.size rfl)
    have P1 := Lib.hid (P0.out.alloc (.cells #[.int .i64 te, .int .i64 qu, .int .i64 ha, .slice sa M kc, .slice na K nc] 54))
    have G1 := Lib.hid (G0.out.alloc (.cells #[.int .i64 te, .int .i64 qu, .int .i64 ha, .slice sa M kc, .slice na K nc] 54))
    clear P0 G0
    have HW0 := Lib.hid ((Below.refl w.heap.size w).alloc (Nat.le_refl _) (.cells #[.int .i64 te, .int .i64 qu, .int .i64 ha, .slice sa M kc, .slice na K nc] 54))
    generalize w.alloc (.cells #[.int .i64 te, .int .i64 qu, .int .i64 ha, .slice sa M kc, .slice na K nc] 54) = w0 at *
    obtain ⟨b3, b4, lB⟩ := (show w0.cell? ⟨w.heap.size, 3, none⟩ = some (.slice sa M kc) ∧ w0.cell? ⟨w.heap.size, 4, none⟩ = some (.slice na K nc) ∧ w.heap.size < w0.heap.size from ⟨B0.out.at 3 rfl, B0.out.at 4 rfl, B0.out.1⟩)
    by_cases q1 : (M : Int) < 1
    · obtain rfl : c = 2 := by
        rcases HK0.out with ⟨_, h⟩ | ⟨⟨⟨m1, _⟩, _⟩, _⟩
        · exact h
        · omega
      go_wp2
      go_ret
      exact ⟨rfl, HB.out⟩
    by_cases q2 : 8 < (M : Int)
    · obtain rfl : c = 2 := by
        rcases HK0.out with ⟨_, h⟩ | ⟨⟨⟨_, m1⟩, _⟩, _⟩
        · exact h
        · omega
      go_wp2
      go_ret
      exact ⟨rfl, HB.out⟩
    by_cases q3 : 150 < (K : Int)
    · obtain rfl : c = 2 := by
        rcases HK0.out with ⟨_, h⟩ | ⟨⟨_, _, m1⟩, _⟩
        · exact h
        · omega
      go_wp2
      go_ret
      exact ⟨rfl, HB.out⟩
    rcases HK0.out with ⟨h2, _⟩ | ⟨_, hk⟩
    · exact absurd ⟨⟨by omega, by omega⟩, by omega, by omega⟩ h2
    have HK1 := Lib.hid hk
    clear hk HK0
    go_wp2
    clear b3 b4 lB q1
    go_loopw [2, 3] (fun u p wr => ∃ i : Nat, i ≤ M ∧ p = .int .i64 (i : Int) ∧ Hid (Below w0.heap.size w0 wr) ∧ Hid (∀ j, j < i → (0 ≤ (S j).g ∧ (S j).g ≤ 99) ∧ (0 ≤ (S j).nd ∧ (S j).nd ≤ 9999))) (fun _ p _ => M - (intOf p).toNat)
    case atStart => exact ⟨0, Nat.zero_le _, rfl, Below.refl _ _, Lib.hid (fun j hj => by omega)⟩
    case round =>
      obtain ⟨i, hi, rfl, HBr, HD⟩ := hrel
      have b3 := (B0.out.below HBr.out).at 3 rfl; have b4 := (B0.out.below HBr.out).at 4 rfl; have lB := (B0.out.below HBr.out).1
      by_cases hlt : i < M
      · have hlt' : (i : Int) < (M : Int) := by omega
        have hi0 : (0 : Int) ≤ (i : Int) := by omega
        rcases P1.out.below HBr.out with h0 | ⟨b, q, rfl, hg⟩
        · omega
        have lt := hg.lt
        obtain ⟨x0, x1⟩ := hg.two i hlt
        clear hg
        have HBW := Lib.hid (HW0.out.trans (HBr.out.mono HW0.out.size))
        by_cases g1 : 0 ≤ (S i).g ∧ (S i).g ≤ 99
        · by_cases g2 : 0 ≤ (S i).nd ∧ (S i).nd ≤ 9999
          · have HD' : Hid (∀ j, j < i + 1 → (0 ≤ (S j).g ∧ (S j).g ≤ 99) ∧ (0 ≤ (S j).nd ∧ (S j).nd ≤ 9999)) := Lib.hid fun j hj => by
              rcases Nat.lt_succ_iff_lt_or_eq.mp hj with h1 | h1
              · exact HD.out j h1
              · subst h1; exact ⟨g1, g2⟩
            clear HD
            go_wp2_with fail
            refine (l1In_yes (S i).g 0 99 _ g1.1 g1.2).mono ?_
            rintro e w' ⟨rfl, rfl⟩
            go_wp2_with fail
            refine (l1In_yes (S i).nd 0 9999 _ g2.1 g2.2).mono ?_
            rintro e w' ⟨rfl, rfl⟩
            go_wp2
            exact ⟨⟨i + 1, by omega, by go_num, HBr, HD'⟩, by simp [intOf]; omega⟩
          · obtain rfl : c = 3 := by
              rcases HK1.out with ⟨_, h⟩ | ⟨h, _⟩
              · exact h
              · exact absurd (h i hlt).2 g2
            clear HD HK1
            go_wp2_with fail
            refine (l1In_yes (S i).g 0 99 _ g1.1 g1.2).mono ?_
            rintro e w' ⟨rfl, rfl⟩
            go_wp2_with fail
            refine (l1In_no (S i).nd 0 9999 _ g2).mono ?_
            rintro e w' ⟨rfl, rfl⟩
            go_wp2
            go_ret
            exact ⟨rfl, HBW.out⟩
        · obtain rfl : c = 3 := by
            rcases HK1.out with ⟨_, h⟩ | ⟨h, _⟩
            · exact h
            · exact absurd (h i hlt).1 g1
          clear HD HK1
          go_wp2_with fail
          refine (l1In_no (S i).g 0 99 _ g1).mono ?_
          rintro e w' ⟨rfl, rfl⟩
          go_wp2
          go_ret
          exact ⟨rfl, HBW.out⟩
      · have hlt' : ¬ (i : Int) < (M : Int) := by omega
        rcases HK1.out with ⟨h, _⟩ | ⟨hms, hk⟩
        · exact absurd (fun j hj => HD.out j (by omega)) h
        have HK2 := Lib.hid hk
        have B1 := Lib.hid (B0.out.below HBr.out); have P2' := Lib.hid (P1.out.below HBr.out); have G2 := Lib.hid (G1.out.below HBr.out)
        have HBW := Lib.hid (HW0.out.trans (HBr.out.mono HW0.out.size))
        go_wp2
        clear HK1 HD hk b3 b4 lB HBr hlt' hlt B0 P1 G1 HW0 HB
        generalize wr = w1 at *
        go_loopw [2, 4] (fun u p wr => ∃ j : Nat, j ≤ K ∧ p = .int .i64 (j : Int) ∧ Hid (Below w1.heap.size w1 wr) ∧ Hid (∀ i, i < j → IsNode (T i) 0)) (fun _ p _ => K - (intOf p).toNat)
        case atStart => exact ⟨0, Nat.zero_le _, rfl, Below.refl _ _, Lib.hid (fun j hj => by omega)⟩
        case round =>
          obtain ⟨j, hj, rfl, HBr, HD⟩ := hrel
          have b3 := (B1.out.below HBr.out).at 3 rfl; have b4 := (B1.out.below HBr.out).at 4 rfl; have lB := (B1.out.below HBr.out).1
          have HBX := Lib.hid (HBW.out.trans (HBr.out.mono HBW.out.size))
          by_cases hlt : j < K
          · have hlt' : (j : Int) < (K : Int) := by omega
            have hj0 : (0 : Int) ≤ (j : Int) := by omega
            rcases G2.out.below HBr.out with h0 | ⟨b, q, rfl, hg⟩
            · omega
            have lt := hg.lt
            have FV := Lib.hid (hg.six j hlt)
            have SR := Lib.hid (hg.flds j hlt)
            clear hg
            obtain ⟨cj, hcj⟩ := isNode_some (T j)
            have HCJ := Lib.hid hcj
            clear hcj
            go_wp2_with fail
            refine (l5Node_any b (q + j * 5) (T j) cj _ FV.out lt SR.out (HN.out j hlt) HCJ.out).mono ?_
            rintro e w2 ⟨rfl, hb⟩
            have HB2 := Lib.hid (thru0 HBr.out hb)
            have HB3 := Lib.hid (thru0 HBX.out hb)
            clear hb
            by_cases h0 : cj = 0
            · subst h0
              have HD' : Hid (∀ i, i < j + 1 → IsNode (T i) 0) := Lib.hid fun i hi => by
                rcases Nat.lt_succ_iff_lt_or_eq.mp hi with h1 | h1
                · exact HD.out i h1
                · subst h1; exact HCJ.out
              clear HD b3 b4 lB
              go_wp2
              exact ⟨⟨j + 1, by omega, by go_num, HB2, HD'⟩, by simp [intOf]; omega⟩
            · have h0' : (cj != 0) = true := by simpa using h0
              obtain rfl : c = cj := by
                rcases HK2.out with ⟨h, _⟩ | ⟨h, _⟩
                · exact isNodes_hit h hlt HD.out HCJ.out h0
                · exact absurd (isNode_one HCJ.out (isNodes_zero h j hlt)) h0
              clear HD HK2 b3 b4 lB
              go_wp2
              go_ret
              exact ⟨rfl, HB3.out⟩
          · have hlt' : ¬ (j : Int) < (K : Int) := by omega
            obtain rfl : j = K := by omega
            rcases HK2.out with ⟨h, h0⟩ | ⟨_, hk⟩
            · exact absurd (isNodes_all h fun i hi => HD.out i hi) h0
            have HK3 := Lib.hid hk
            have HND := Lib.hid (show ∀ i, i < j → IsNode (T i) 0 from HD.out)
            have B2 := Lib.hid (B1.out.below HBr.out); have P3 := Lib.hid (P2'.out.below HBr.out); have G3 := Lib.hid (G2.out.below HBr.out)
            go_wp2
            clear HK2 HD hk b3 b4 lB HBr hlt' hlt B1 P2' G2 HBW
            generalize wr = w2 at *
            go_loopw [2, 6] (fun u p wr => ∃ i : Nat, (i = 0 ∨ i < j) ∧ p = .int .i64 ((i : Int) + 1) ∧ Hid (Below w2.heap.size w2 wr) ∧ Hid (∀ k, k < i → (T k).at_ < (T (k + 1)).at_)) (fun _ p _ => j + 1 - (intOf p).toNat)
            case atStart => exact ⟨0, .inl rfl, rfl, Below.refl _ _, Lib.hid (fun k hk => by omega)⟩
            case round =>
              obtain ⟨i, hi, rfl, HBr, HD⟩ := hrel
              have b3 := (B2.out.below HBr.out).at 3 rfl; have b4 := (B2.out.below HBr.out).at 4 rfl; have lB := (B2.out.below HBr.out).1
              have HBY := Lib.hid (HBX.out.trans (HBr.out.mono HBX.out.size))
              by_cases hlt : i + 1 < j
              · have hlt' : (i : Int) + 1 < (j : Int) := by omega
                have hi0 : (0 : Int) ≤ (i : Int) + 1 := by omega
                have hi1 : (0 : Int) ≤ (i : Int) := by omega
                have hi2 : (i : Int) < (j : Int) := by omega
                rcases G3.out.below HBr.out with h0 | ⟨b, q, rfl, hg⟩
                · omega
                have lt := hg.lt
                obtain ⟨x0, x1, x2, x3, x4⟩ := hg.six (i + 1) hlt
                obtain ⟨y0, y1, y2, y3, y4⟩ := hg.six i (by omega)
                clear hg
                by_cases hx : (T (i + 1)).at_ ≤ (T i).at_
                · obtain rfl : c = 1 := by
                    rcases HK3.out with ⟨_, h⟩ | ⟨h, _⟩
                    · exact h
                    · have := h i hlt; omega
                  clear HK3 HD
                  go_wp2
                  go_region
                  go_wp2
                  go_ret
                  exact ⟨rfl, HBY.out.drew⟩
                · have HD' : Hid (∀ k, k < i + 1 → (T k).at_ < (T (k + 1)).at_) := Lib.hid fun k hk => by
                    rcases Nat.lt_succ_iff_lt_or_eq.mp hk with h1 | h1
                    · exact HD.out k h1
                    · subst h1; omega
                  clear HD
                  go_wp2
                  go_region
                  go_wp2
                  exact ⟨⟨i + 1, .inr (by omega), by go_num, Lib.hid HBr.out.drew, HD'⟩, by simp [intOf]; omega⟩
              · have hlt' : ¬ (i : Int) + 1 < (j : Int) := by omega
                rcases HK3.out with ⟨h, _⟩ | ⟨hr, hk⟩
                · exact absurd (fun k hk => HD.out k (by omega)) h
                have HK4 := Lib.hid hk
                have B3 := Lib.hid (B2.out.below HBr.out); have P4 := Lib.hid (P3.out.below HBr.out); have G4 := Lib.hid (G3.out.below HBr.out)
                clear HK3 HD hk b3 hlt B2 P3 G3 HBX
                obtain ⟨r, hr9⟩ : ∃ r : Bool, r = true ↔ MLead M S j T := by
                  by_cases h : MLead M S j T
                  · exact ⟨true, by simp [h]⟩
                  · exact ⟨false, by simp [h]⟩
                have HR := Lib.hid hr9
                clear hr9
                go_wp2_with fail
                refine (l5Leads_any w.heap.size te qu ha sa M kc S na j nc T r _ B3.out P4.out G4.out (by omega) (by omega) HND.out HR.out).mono ?_
                rintro e w3 ⟨rfl, hb⟩
                have HBZ := Lib.hid (thru0 HBY.out hb)
                have B4 := Lib.hid (B3.out.below hb); have P5 := Lib.hid (P4.out.below hb)
                clear hb b4 lB HBr B3 P4 G4 HBY
                cases r
                · obtain rfl : c = 4 := by
                    rcases HK4.out with ⟨_, h⟩ | ⟨h, _⟩
                    · exact h
                    · exact absurd (HR.out.2 h) (by simp)
                  clear HK4
                  go_wp2
                  go_ret
                  exact ⟨rfl, HBZ.out⟩
                · have hml : MLead M S j T := HR.out.1 rfl
                  rcases HK4.out with ⟨h, _⟩ | ⟨_, hk⟩
                  · exact absurd hml h
                  have HK5 := Lib.hid hk
                  clear HK4 hk hml HR
                  go_wp2
                  go_loopw [2, 7] (fun u p wr => ∃ i : Nat, i ≤ M ∧ p = .int .i64 (i : Int) ∧ Hid (Below w3.heap.size w3 wr) ∧ Hid (∀ k, k < i → (S k).nd = 0 ∨ ¬ (S k).g = 0)) (fun _ p _ => M - (intOf p).toNat)
                  case atStart => exact ⟨0, Nat.zero_le _, rfl, Below.refl _ _, Lib.hid (fun k hk => by omega)⟩
                  case round =>
                    obtain ⟨i, hi, rfl, HBr, HD⟩ := hrel
                    have b3 := (B4.out.below HBr.out).at 3 rfl; have lB := (B4.out.below HBr.out).1
                    have HBU := Lib.hid (HBZ.out.trans (HBr.out.mono HBZ.out.size))
                    by_cases hlt : i < M
                    · have hlt' : (i : Int) < (M : Int) := by omega
                      have hi0 : (0 : Int) ≤ (i : Int) := by omega
                      rcases P5.out.below HBr.out with h0 | ⟨b, q, rfl, hg⟩
                      · omega
                      have lt := hg.lt
                      obtain ⟨x0, x1⟩ := hg.two i hlt
                      clear hg
                      have HNX : Hid ((S i).nd = 0 ∨ ¬ (S i).g = 0 → ∀ k, k < i + 1 → (S k).nd = 0 ∨ ¬ (S k).g = 0) := Lib.hid fun h k hk => by
                        rcases Nat.lt_succ_iff_lt_or_eq.mp hk with h1 | h1
                        · exact HD.out k h1
                        · subst h1; exact h
                      by_cases hx : (S i).nd = 0
                      · have hx' : ((S i).nd != 0) = false := by simpa using hx
                        have HD' := Lib.hid (HNX.out (.inl hx))
                        clear hx HD HNX
                        go_wp2
                        exact ⟨⟨i + 1, by omega, by go_num, HBr, HD'⟩, by simp [intOf]; omega⟩
                      · have hx' : ((S i).nd != 0) = true := by simpa using hx
                        by_cases hy : (S i).g = 0
                        · obtain rfl : c = 8 := by
                            rcases HK5.out with ⟨_, h⟩ | ⟨h, _⟩
                            · exact h
                            · rcases h i hlt with h | h
                              · exact absurd h hx
                              · exact absurd hy h
                          have hy' : ((S i).g == 0) = true := by simpa using hy
                          clear hx hy HD HNX HK5
                          go_wp2
                          go_ret
                          exact ⟨rfl, HBU.out⟩
                        · have hy' : ((S i).g == 0) = false := by simpa using hy
                          have HD' := Lib.hid (HNX.out (.inr hy))
                          clear hx hy HD HNX
                          go_wp2
                          exact ⟨⟨i + 1, by omega, by go_num, HBr, HD'⟩, by simp [intOf]; omega⟩
                    · have hlt' : ¬ (i : Int) < (M : Int) := by omega
                      obtain rfl : c = 0 := by
                        rcases HK5.out with ⟨h, _⟩ | ⟨_, h⟩
                        · exact absurd (fun k hk => HD.out k (by omega)) h
                        · exact h
                      clear HK5 HD
                      go_wp2
                      go_ret
                      exact ⟨rfl, HBU.out⟩
end Go.Proofs.Ytbhjmomphajnnaa

namespace Go.Proofs.Ytbhjmomphajnnaa
open Go.RowKit
set_option linter.unusedVariables false

set_option maxRecDepth 100000 in
set_option maxHeartbeats 400000 in
theorem headOf_any (t : GM) (w : World) :
    Calls Try.prog 154 #[.agg #[.int .i64 t.at_, .int .i64 t.s, .int .i64 t.m, .int .i64 t.h, .slice t.a t.n t.c]] w fun e w' => e = .returned (.agg #[.int .i64 t.s, .int .i64 t.m, .int .i64 0, .int .i64 t.h]) ∧ Below w.heap.size w w' := by
  go_enter Try.func154, Try.ntmps154
  go_wp2
  refine bodyPost_ret (v := .agg #[.int .i64 t.s, .int .i64 t.m, .int .i64 0, .int .i64 t.h]) (by simp [results, Try.results154, go_sem]) rfl ⟨rfl, ?_⟩
  repeat (first | (with_reducible refine Below.setCell ?_ (by (try simp); (try omega)) _) | (with_reducible refine Below.alloc ?_ (by (try simp); (try omega)) _) | (with_reducible refine Below.drew ?_))
  exact Below.refl _ _

set_option maxRecDepth 100000 in
set_option maxHeartbeats 1600000 in
theorem nodeFault_any (t : GM) (c : Int) (w : World) (hs : Src w t.a t.n t.f) (hn : t.n ≤ 1048576) (hk : IsNode t c) :
    Calls Try.prog 87 #[.agg #[.int .i64 t.at_, .int .i64 t.s, .int .i64 t.m, .int .i64 t.h, .slice t.a t.n t.c]] w (RetInt w c) := by
  have S0 := Lib.hid hs; have HK := Lib.hid hk
  clear hs hk
  have X0 := Lib.hid (Blk.new_at (w := w) (cs := #[.int .i64 t.at_, .int .i64 t.s, .int .i64 t.m, .int .i64 t.h, .slice t.a t.n t.c]) (t := 149) w.heap.size rfl)
  by_cases h0 : 1 ≤ t.at_ ∧ t.at_ ≤ 9999
  · have H0 := Lib.hid h0
    clear h0
    obtain ⟨c0, hf⟩ := isHF_some t.s t.m 0 t.h
    have HF := Lib.hid hf
    clear hf
    go_enter Try.func87, Try.ntmps87
    go_wp2_with fail
    refine (isOut1 _ _ _ _ _ false (by simp) (.inl ⟨rfl, H0.out⟩)).mono ?_
    rintro e w1 ⟨rfl, hb⟩
    have HB1 := Lib.hid ((((Below.refl w.heap.size w).alloc (Nat.le_refl _) _).alloc (by simp) _).trans (hb.mono (by simp; try omega)))
    have X1 := Lib.hid ((X0.out.alloc _).below hb)
    have S1 := Lib.hid (((S0.out.alloc _).alloc _).below hb)
    clear hb X0 S0
    obtain ⟨x0, x1, x2, x3, x4, lX⟩ : w1.cell? ⟨w.heap.size, 0, none⟩ = some (.int .i64 t.at_) ∧ w1.cell? ⟨w.heap.size, 1, none⟩ = some (.int .i64 t.s) ∧ w1.cell? ⟨w.heap.size, 2, none⟩ = some (.int .i64 t.m) ∧ w1.cell? ⟨w.heap.size, 3, none⟩ = some (.int .i64 t.h) ∧ w1.cell? ⟨w.heap.size, 4, none⟩ = some (.slice t.a t.n t.c) ∧ w.heap.size < w1.heap.size := ⟨X1.out.at 0 rfl, X1.out.at 1 rfl, X1.out.at 2 rfl, X1.out.at 3 rfl, X1.out.at 4 rfl, X1.out.1⟩
    go_wp2_with fail
    refine (headOf_any t _).mono ?_
    rintro e w2 ⟨rfl, hb⟩
    have HB2 := Lib.hid (thru0 HB1.out hb)
    have X2 := Lib.hid (X1.out.below hb)
    have S2 := Lib.hid (S1.out.below hb)
    clear hb X1 S1 HB1 x0 x1 x2 x3 x4 lX
    go_wp2_with fail
    refine (implHF_any t.s t.m 0 t.h c0 _ HF.out).mono ?_
    rintro e w3 ⟨rfl, hb⟩
    have HB3 := Lib.hid (thru0 HB2.out hb)
    have X3 := Lib.hid (X2.out.below hb)
    have S3 := Lib.hid (S2.out.below hb)
    clear hb X2 S2 HB2
    by_cases h3 : c0 = 0
    · subst h3
      have HN : Hid (Neat t) := Lib.hid (by
        rcases HF.out with ⟨h, _⟩ | ⟨_, h⟩
        · exact ⟨H0.out, h⟩
        · omega)
      clear HF
      obtain ⟨x0, x1, x2, x3, x4, lX⟩ : w3.cell? ⟨w.heap.size, 0, none⟩ = some (.int .i64 t.at_) ∧ w3.cell? ⟨w.heap.size, 1, none⟩ = some (.int .i64 t.s) ∧ w3.cell? ⟨w.heap.size, 2, none⟩ = some (.int .i64 t.m) ∧ w3.cell? ⟨w.heap.size, 3, none⟩ = some (.int .i64 t.h) ∧ w3.cell? ⟨w.heap.size, 4, none⟩ = some (.slice t.a t.n t.c) ∧ w.heap.size < w3.heap.size := ⟨X3.out.at 0 rfl, X3.out.at 1 rfl, X3.out.at 2 rfl, X3.out.at 3 rfl, X3.out.at 4 rfl, X3.out.1⟩
      by_cases h4 : (t.n : Int) = t.s
      · have h4' : ((t.n : Int) != t.s) = false := by simpa using h4
        go_wp2
        clear x0 x1 x2 x3 x4 lX X3
        have H4 := Lib.hid h4
        clear h4 h4'
        obtain ⟨ta, hta⟩ : ∃ ta, t.a = ta := ⟨_, rfl⟩
        rw [hta] at S3 ⊢
        clear hta
        go_loopw [25] (fun p wr => ∃ i : Nat, i ≤ t.n ∧ p = .int .i64 (i : Int) ∧ Hid (Below w3.heap.size w3 wr) ∧ Hid (∀ k, k < i → Word (t.f k))) (fun p _ => t.n - (intOf p).toNat)
        case atStart => exact ⟨0, Nat.zero_le _, rfl, Below.refl _ _, Lib.hid (fun j hj => by omega)⟩
        case round =>
          obtain ⟨i, hi, rfl, HBr, HE⟩ := hrel
          by_cases hlt : i < t.n
          · obtain ⟨b1, o1, rfl, hb1, hc1⟩ := src_some (S3.out.below HBr.out) (by omega)
            have d1 := hc1 i hlt
            have hlt' : (i : Int) < (t.n : Int) := by omega
            have hls : (i : Int) < t.s := by have := H4.out; omega
            have hi0 : (0 : Int) ≤ (i : Int) := by omega
            have hz := HBr.out.size
            clear hc1
            by_cases hw : Word (t.f i)
            · have HW : Hid (-1000000000 ≤ t.f i ∧ t.f i ≤ 1000000000) := hw
              clear hw
              go_wp2_with (first | (go_at_call 101; (with_reducible refine (wordBound_any _ _).mono ?_); rintro e w4 ⟨rfl, hb2⟩; have HB4 := Lib.hid hb2; have hz4 := hb2.size; clear hb2) | (go_at_call 80; (with_reducible refine (isOut1 _ _ _ _ _ false (by simp) (.inl ⟨rfl, HW.out⟩)).mono ?_); rintro e w5 ⟨rfl, hb3⟩; have HB5 := Lib.hid hb3; have hz5 := hb3.size; clear hb3))
              have HB6 := Lib.hid (((HBr.out.trans (HB4.out.mono (by omega))).alloc (by omega) _).trans (HB5.out.mono (by simp; omega)))
              have HE' : Hid (∀ k, k < i + 1 → Word (t.f k)) := Lib.hid fun j hj => by
                rcases Nat.lt_succ_iff_lt_or_eq.mp hj with h | h
                · exact HE.out j h
                · subst h; exact HW.out
              go_roundw
              case rel => first | exact ⟨i + 1, by omega, by go_num, HB6, HE'⟩ | ((repeat apply Exists.intro); exact ⟨⟨i + 1, by omega, by go_num, HB6, HE'⟩, rfl⟩)
              case measure => simp [intOf]; omega
            · have HW : Hid (¬ (-1000000000 ≤ t.f i ∧ t.f i ≤ 1000000000)) := hw
              obtain rfl : c = 3 := by
                rcases HK.out with ⟨h, _⟩ | ⟨_, h, _⟩ | ⟨_, _, _, h⟩ | ⟨_, _, h, _⟩
                · exact absurd HN.out h
                · exact absurd H4.out h
                · exact h
                · exact absurd (h i hlt) hw
              clear hw HK
              go_wp2_with (first | (go_at_call 101; (with_reducible refine (wordBound_any _ _).mono ?_); rintro e w4 ⟨rfl, hb2⟩; have HB4 := Lib.hid hb2; have hz4 := hb2.size; clear hb2) | (go_at_call 80; (with_reducible refine (isOut1 _ _ _ _ _ true (by simp) (.inr ⟨rfl, HW.out⟩)).mono ?_); rintro e w5 ⟨rfl, hb3⟩; have HB5 := Lib.hid hb3; have hz5 := hb3.size; clear hb3))
              go_ret
              exact ⟨rfl, HB3.out.trans ((((HBr.out.trans (HB4.out.mono (by omega))).alloc (by omega) _).trans (HB5.out.mono (by simp; omega))).mono HB3.out.size)⟩
          · obtain rfl : c = 0 := by
              rcases HK.out with ⟨h, _⟩ | ⟨_, h, _⟩ | ⟨_, _, h, _⟩ | ⟨_, _, _, h⟩
              · exact absurd HN.out h
              · exact absurd H4.out h
              · exact absurd (fun k hk => HE.out k (by omega)) h
              · exact h
            have hls : ¬ (i : Int) < t.s := by have := H4.out; omega
            clear HK
            go_wp2
            go_ret
            exact ⟨rfl, HB3.out.trans (HBr.out.mono HB3.out.size)⟩
      · have h4' : ((t.n : Int) != t.s) = true := by simpa using h4
        obtain rfl : c = 2 := by
          rcases HK.out with ⟨h, _⟩ | ⟨_, _, h⟩ | ⟨_, h, _⟩ | ⟨_, h, _⟩
          · exact absurd HN.out h
          · exact h
          · exact absurd h h4
          · exact absurd h h4
        clear h4 HK
        go_wp2
        go_ret
        exact ⟨rfl, HB3.out⟩
    · have HC : Hid (c = 3) := Lib.hid (by
        have hno : ¬ Neat t := fun h => by
          rcases HF.out with ⟨_, h5⟩ | ⟨h5, _⟩
          · exact h3 h5
          · exact h5 h.2
        rcases HK.out with ⟨_, h⟩ | ⟨h, _⟩ | ⟨h, _⟩ | ⟨h, _⟩
        · exact h
        · exact absurd h hno
        · exact absurd h hno
        · exact absurd h hno)
      have h3' : (c0 != 0) = true := by simpa using h3
      obtain rfl := HC.out
      clear HK HF
      go_wp2
      go_ret
      exact ⟨rfl, HB3.out⟩
  · have H0 := Lib.hid h0
    obtain rfl : c = 3 := by
      have hno : ¬ Neat t := fun h => h0 h.1
      rcases HK.out with ⟨_, h⟩ | ⟨h, _⟩ | ⟨h, _⟩ | ⟨h, _⟩
      · exact h
      · exact absurd h hno
      · exact absurd h hno
      · exact absurd h hno
    clear h0 HK
    go_enter Try.func87, Try.ntmps87
    go_wp2_with fail
    refine (isOut1 _ _ _ _ _ true (by simp) (.inr ⟨rfl, H0.out⟩)).mono ?_
    rintro e w1 ⟨rfl, hb⟩
    have HB1 := Lib.hid ((((Below.refl w.heap.size w).alloc (Nat.le_refl _) _).alloc (by simp) _).trans (hb.mono (by simp; try omega)))
    have X1 := Lib.hid ((X0.out.alloc _).below hb)
    have S1 := Lib.hid (((S0.out.alloc _).alloc _).below hb)
    clear hb X0 S0
    go_wp2
    go_ret
    exact ⟨rfl, HB1.out⟩

set_option maxRecDepth 100000 in
set_option maxHeartbeats 800000 in
theorem rising_any (na : Option Addr) (K nc : Nat) (T : Nat → GM) (r : Bool) (w : World) (hg : NV w na K T) (hK : K ≤ 1048576) (hr : r = true ↔ MRise K T) :
    Calls Try.prog 88 #[.slice na K nc] w (RetBool w r) := by
  have G0 := Lib.hid hg; have HR := Lib.hid hr
  clear hg hr
  go_enter Try.func88, Try.ntmps88
  go_wp2
  go_loopw [3] (fun p wr => ∃ i : Nat, (i = 0 ∨ i < K) ∧ p = .int .i64 ((i : Int) + 1) ∧ Hid (Below w.heap.size w wr) ∧ Hid (∀ k, k < i → (T k).at_ < (T (k + 1)).at_)) (fun p _ => K + 1 - (intOf p).toNat)
  case atStart => exact ⟨0, .inl rfl, rfl, Below.refl _ _, Lib.hid (fun k hk => by omega)⟩
  case round =>
    obtain ⟨i, hi, rfl, HBr, HD⟩ := hrel
    by_cases hlt : i + 1 < K
    · have hlt' : (i : Int) + 1 < (K : Int) := by omega
      have hi0 : (0 : Int) ≤ (i : Int) + 1 := by omega
      have hi1 : (0 : Int) ≤ (i : Int) := by omega
      have hi2 : (i : Int) < (K : Int) := by omega
      rcases G0.out.below HBr.out with h0 | ⟨b, q, rfl, hg⟩
      · omega
      have lt := hg.lt
      obtain ⟨x0, x1, x2, x3, x4⟩ := hg.six (i + 1) hlt
      obtain ⟨y0, y1, y2, y3, y4⟩ := hg.six i (by omega)
      clear hg
      by_cases hx : (T (i + 1)).at_ ≤ (T i).at_
      · obtain rfl : r = false := by
          cases r
          · rfl
          · have := HR.out.1 rfl i hlt; omega
        clear HD
        go_wp2
        go_region
        go_wp2
        go_ret
        exact ⟨rfl, HBr.out.drew⟩
      · have HD' : Hid (∀ k, k < i + 1 → (T k).at_ < (T (k + 1)).at_) := Lib.hid fun k hk => by
          rcases Nat.lt_succ_iff_lt_or_eq.mp hk with h1 | h1
          · exact HD.out k h1
          · subst h1; omega
        clear HD
        have HB2 := Lib.hid HBr.out.drew
        go_wp2
        go_region
        go_wp2
        first | exact ⟨⟨i + 1, .inr (by omega), by go_num, HB2, HD'⟩, by simp [intOf]; omega⟩ | (go_roundw; (case rel => first | exact ⟨i + 1, .inr (by omega), by go_num, HB2, HD'⟩ | ((repeat apply Exists.intro); exact ⟨⟨i + 1, .inr (by omega), by go_num, HB2, HD'⟩, rfl⟩)); (case measure => simp [intOf]; omega))
    · have hlt' : ¬ (i : Int) + 1 < (K : Int) := by omega
      obtain rfl : r = true := HR.out.2 fun k hk => HD.out k (by omega)
      go_wp2
      go_ret
      exact ⟨rfl, HBr.out⟩
end Go.Proofs.Ytbhjmomphajnnaa

namespace Go.Proofs.Ytbhjmomphajnnaa
open Go.RowKit
set_option linter.unusedVariables false

theorem pv_get {w : World} {a : Option Addr} {N : Nat} {T : Nat → SL} (h : PV w a N T) {i : Nat} (hi : i < N) : ∃ b q, a = some ⟨b, q, none⟩ ∧ b < w.heap.size ∧ TwoG w b (q + i * 2) (T i) := by
  rcases h with h0 | ⟨b, q, ha, hg⟩
  · omega
  · exact ⟨b, q, ha, hg.lt, hg.two i hi⟩

theorem nv_get {w : World} {a : Option Addr} {N : Nat} {T : Nat → GM} (h : NV w a N T) {i : Nat} (hi : i < N) : ∃ b q, a = some ⟨b, q, none⟩ ∧ b < w.heap.size ∧ FivG w b (q + i * 5) (T i) ∧ Src w (T i).a (T i).n (T i).f := by
  rcases h with h0 | ⟨b, q, ha, hg⟩
  · omega
  · exact ⟨b, q, ha, hg.lt, hg.six i hi, hg.flds i hi⟩

set_option maxRecDepth 100000 in
set_option maxHeartbeats 1600000 in
theorem slotNodes_any (a : Option Addr) (M c : Nat) (S : Nat → SL) (w : World) (hg : PV w a M S) (hl : M ≤ 1000000) :
    Calls Try.prog 156 #[.slice a M c] w (RetInts w M (fun i => (S i).nd)) := by
  have G := Lib.hid hg
  obtain ⟨i0, hif, hz0, hz1, hz2⟩ := info_parts Try.info2
  clear hg
  go_enter Try.func156, Try.ntmps156
  go_wp2
  go_loopw [3, 8] (fun u p wr => ∃ i : Nat, i ≤ M ∧ p = .int .i64 (i : Int) ∧ Hid (Below w.heap.size w wr) ∧ Hid (wr.ownsRow w.heap.size 2 1 u i (nums i (fun i => (S i).nd)))) (fun _ p _ => M - (intOf p).toNat)
  case atStart => exact ⟨0, Nat.zero_le _, rfl, Below.refl _ _, World.ownsRow_nil _ _ _ _⟩
  case round =>
    obtain ⟨i, hi, rfl, HB_r, OW_r⟩ := hrel
    have hzr := HB_r.out.size
    by_cases hlt : i < M
    · have hlt' : (i : Int) < (M : Int) := by omega
      have hi0 : (0 : Int) ≤ (i : Int) := by omega
      obtain ⟨b, q, rfl, lb, s0, s1⟩ := pv_get (G.out.below HB_r.out) hlt
      have HAL : Hid (Below w.heap.size w (wr.alloc (.cells #[.int .i64 (S i).g, .int .i64 (S i).nd] 147))) := Lib.hid (HB_r.out.alloc hzr _)
      have OWA := Lib.hid (OW_r.out.alloc (.cells #[.int .i64 (S i).g, .int .i64 (S i).nd] 147))
      have HGE : Hid (∀ k, u3.ownBlock = some k → w.heap.size ≤ k) := Lib.hid (fun k hk => (OW_r.out.lt k hk).1)
      go_wp2_with (at_builtin; go_loud (refine wpList_append_lies _ rfl _ _ 24 rfl w.heap.size 2 i0 (.int .i64 0) 1 8 Try.underlying24 hif hz0 hz1 hz2 rfl (by decide) u3 i (nums i (fun i => (S i).nd)) rfl (OWA.out.alloc _) ⟨wr.heap.size + 1, 0, none⟩ 1 1 [.int .i64 (S i).nd] rfl rfl (news1b (wr.alloc (.cells #[.int .i64 (S i).g, .int .i64 (S i).nd] 147)) (S i).nd (wr.heap.size + 1) (by simp)) (by intro u hu; simp only [List.mem_cons, List.mem_nil_iff, or_false] at hu; subst hu; rfl) (by omega) (by unfold maxLen; omega) (by omega) (by simp; omega) (wr.heap.size + 1 + 1) (by simp) ?_); intro g9 cap9 w9 hown9 hgrow9 hat9 hlt9)
      have HB9 : Hid (Below w.heap.size w w9) := (HAL.out.alloc (by simp; omega) _).grown hgrow9 (by simp; omega) (fun k hk => HGE.out k hk)
      have OW9 : Hid (w9.ownsRow w.heap.size 2 1 (.slice (some ⟨g9, 0, none⟩) (i + 1) cap9) (i + 1) (nums (i + 1) (fun i => (S i).nd))) := Lib.hid (by rw [nums_succ]; exact hown9)
      clear hown9 hgrow9 hat9 s0 s1
      go_wp2
      go_roundw
      case rel => first | exact ⟨i + 1, by omega, by go_num, HB9, OW9⟩ | ((repeat apply Exists.intro); exact ⟨⟨i + 1, by omega, by go_num, HB9, OW9⟩, rfl⟩)
      case measure => simp [intOf]; omega
    · have hlt' : ¬ (i : Int) < (M : Int) := by omega
      obtain rfl : i = M := by omega
      have HRet := Lib.hid (retInts_of_row OW_r.out HB_r.out)
      go_wp2
      go_ret
      exact HRet.out

/-- The pointers among the first fields of a node. -/
def ptL (t : GM) (k : Nat) : List Int := (List.range k).filterMap fun (j : Nat) => if t.m / P2 (j : Int) % 2 = 1 then some (t.f j) else none

theorem ptL_yes {t : GM} {k : Nat} (h : t.m / P2 (k : Int) % 2 = 1) : ptL t (k + 1) = ptL t k ++ [t.f k] := by
  simp [ptL, List.range_succ, List.filterMap_append, h]

theorem ptL_no {t : GM} {k : Nat} (h : ¬ t.m / P2 (k : Int) % 2 = 1) : ptL t (k + 1) = ptL t k := by
  simp [ptL, List.range_succ, List.filterMap_append, h]

theorem ptL_len (t : GM) : ∀ k, (ptL t k).length ≤ k
  | 0 => Nat.zero_le _
  | k + 1 => by
    have := ptL_len t k
    by_cases h : t.m / P2 (k : Int) % 2 = 1
    · rw [ptL_yes h, List.length_append]; simp; omega
    · rw [ptL_no h]; omega

theorem mem_ptL {t : GM} {k : Nat} {v : Int} : v ∈ ptL t k ↔ ∃ j, j < k ∧ IsP t j ∧ v = t.f j := by
  simp only [ptL, List.mem_filterMap, List.mem_range, IsP]
  constructor
  · rintro ⟨j, hj, h⟩
    by_cases hp : t.m / P2 (j : Int) % 2 = 1
    · rw [if_pos hp] at h; injection h with h; exact ⟨j, hj, hp, h.symm⟩
    · rw [if_neg hp] at h; cases h
  · rintro ⟨j, hj, hp, rfl⟩
    exact ⟨j, hj, by rw [if_pos hp]⟩

set_option maxRecDepth 100000 in
set_option maxHeartbeats 1600000 in
theorem ptrsOf_x (x s m h : Int) (a : Option Addr) (n c : Nat) (f : Nat → Int) (P : Nat → List Int) (w : World) (hs : Src w a n f) (hok : HOk s m 0 h) (hsz : (n : Int) = s) (h0 : P 0 = []) (hyes : ∀ k : Nat, m / P2 (k : Int) % 2 = 1 → P (k + 1) = P k ++ [f k]) (hno : ∀ k : Nat, ¬ m / P2 (k : Int) % 2 = 1 → P (k + 1) = P k) (hle : ∀ k, (P k).length ≤ k) :
    Calls Try.prog 159 #[.agg #[.int .i64 x, .int .i64 s, .int .i64 m, .int .i64 h, .slice a n c]] w (RetInts w (P n).length (lf (P n))) := by
  have hn12 : n ≤ 12 := by have := hok.1.2; omega
  have HOK := Lib.hid hok; have HSZ := Lib.hid hsz; have S0 := Lib.hid hs; have HY := Lib.hid hyes; have HN := Lib.hid hno; have HL := Lib.hid hle; have HZ := Lib.hid h0
  clear hs hok hsz hyes hno hle h0
  obtain ⟨i0, hif, hz0, hz1, hz2⟩ := info_parts Try.info2
  have X1 := Lib.hid (Blk.new_at (w := w) (cs := #[.int .i64 x, .int .i64 s, .int .i64 m, .int .i64 h, .slice a n c]) (t := 149) w.heap.size rfl)
  have HB0 := Lib.hid ((Below.refl w.heap.size w).alloc (Nat.le_refl _) (.cells #[.int .i64 x, .int .i64 s, .int .i64 m, .int .i64 h, .slice a n c] 149))
  have S1 := Lib.hid (S0.out.alloc (.cells #[.int .i64 x, .int .i64 s, .int .i64 m, .int .i64 h, .slice a n c] 149))
  clear S0
  go_enter Try.func159, Try.ntmps159
  go_wp2
  generalize w.alloc (.cells #[.int .i64 x, .int .i64 s, .int .i64 m, .int .i64 h, .slice a n c] 149) = w0 at *
  go_loopw [3, 9] (fun u p wr => ∃ i : Nat, i ≤ n ∧ p = .int .i64 (i : Int) ∧ Hid (Below w0.heap.size w0 wr) ∧ Hid (wr.ownsRow w0.heap.size 2 1 u (P i).length (nums (P i).length (lf (P i))))) (fun _ p _ => n - (intOf p).toNat)
  case atStart => exact ⟨0, Nat.zero_le _, rfl, Below.refl _ _, Lib.hid (by rw [HZ.out]; exact World.ownsRow_nil _ _ _ _)⟩
  case round =>
    obtain ⟨i, hi, rfl, HBr, OW⟩ := hrel
    have hzr := HBr.out.size
    by_cases hlt : i < n
    · have hlt' : (i : Int) < (n : Int) := by omega
      have hls : (i : Int) < s := by have := HSZ.out; omega
      have hi0 : (0 : Int) ≤ (i : Int) := by omega
      obtain ⟨b1, o1, rfl, hb1, hc1⟩ := src_some (S1.out.below HBr.out) (by omega)
      have d1 := hc1 i hlt
      clear hc1
      have XR := Lib.hid (X1.out.below HBr.out)
      obtain ⟨x0, x1, x2, x3, x4, lX⟩ : wr.cell? ⟨w.heap.size, 0, none⟩ = some (.int .i64 x) ∧ wr.cell? ⟨w.heap.size, 1, none⟩ = some (.int .i64 s) ∧ wr.cell? ⟨w.heap.size, 2, none⟩ = some (.int .i64 m) ∧ wr.cell? ⟨w.heap.size, 3, none⟩ = some (.int .i64 h) ∧ wr.cell? ⟨w.heap.size, 4, none⟩ = some (.slice (some ⟨b1, o1, none⟩) n c) ∧ w.heap.size < wr.heap.size := ⟨XR.out.at 0 rfl, XR.out.at 1 rfl, XR.out.at 2 rfl, XR.out.at 3 rfl, XR.out.at 4 rfl, XR.out.1⟩
      have HGE : Hid (∀ k, u3.ownBlock = some k → w0.heap.size ≤ k) := Lib.hid (fun k hk => (OW.out.lt k hk).1)
      have hpl := HL.out i
      go_wp2_with fail
      refine (headOf_any ⟨x, s, m, 0, h, some ⟨b1, o1, none⟩, n, c, f⟩ _).mono ?_
      rintro e w2 ⟨rfl, hb⟩
      have HB2 := Lib.hid (thru0 HBr.out hb)
      have OW2 := Lib.hid (ownsRow_below OW.out hb)
      clear hb x0 x1 x2 x3 x4 lX XR OW
      go_wp2_with fail
      refine (implIP_in s m 0 h (i : Int) _ HOK.out ⟨hi0, by omega⟩).mono ?_
      rintro e w3 ⟨rfl, hb⟩
      have HB3 := Lib.hid (thru0 HB2.out hb)
      have OW3 := Lib.hid (ownsRow_below OW2.out hb)
      have hz3 := HB3.out.size
      clear hb OW2 HB2
      by_cases hp : m / P2 (i : Int) % 2 = 1
      · have hp' : (m / P2 (i : Int) % 2 == 1) = true := by simpa using hp
        have HPE := Lib.hid (HY.out i hp)
        clear hp
        go_wp2_with (at_builtin; go_loud (refine wpList_append_lies _ rfl _ _ 24 rfl w0.heap.size 2 i0 (.int .i64 0) 1 8 Try.underlying24 hif hz0 hz1 hz2 rfl (by decide) u3 (P i).length (nums (P i).length (lf (P i))) rfl (OW3.out.alloc _) ⟨w3.heap.size, 0, none⟩ 1 1 [.int .i64 (f i)] rfl rfl (news1 w3 (f i)) (by intro u hu; simp only [List.mem_cons, List.mem_nil_iff, or_false] at hu; subst hu; rfl) (by omega) (by unfold maxLen; omega) (by omega) (by simp; omega) (w3.heap.size + 1) (by simp) ?_); intro g9 cap9 w9 hown9 hgrow9 hat9 hlt9)
        have HB9 : Hid (Below w0.heap.size w0 w9) := Lib.hid ((HB3.out.alloc hz3 _).grown hgrow9 (by simp; omega) (fun k hk => HGE.out k hk))
        have OW9 : Hid (w9.ownsRow w0.heap.size 2 1 (.slice (some ⟨g9, 0, none⟩) ((P i).length + 1) cap9) (P (i + 1)).length (nums (P (i + 1)).length (lf (P (i + 1))))) := Lib.hid (by rw [HPE.out, show (P i ++ [f i]).length = (P i).length + 1 by simp, ← nums_snoc]; exact hown9)
        clear hown9 hgrow9 hat9 hp'
        go_wp2
        go_roundw
        case rel => first | exact ⟨i + 1, by omega, by go_num, HB9, OW9⟩ | ((repeat apply Exists.intro); exact ⟨⟨i + 1, by omega, by go_num, HB9, OW9⟩, rfl⟩)
        case measure => simp [intOf]; omega
      · have hp' : (m / P2 (i : Int) % 2 == 1) = false := by simpa using hp
        have OW4 : Hid (w3.ownsRow w0.heap.size 2 1 u3 (P (i + 1)).length (nums (P (i + 1)).length (lf (P (i + 1))))) := Lib.hid (by rw [HN.out i hp]; exact OW3.out)
        clear hp
        go_wp2
        go_roundw
        case rel => first | exact ⟨i + 1, by omega, by go_num, HB3, OW4⟩ | ((repeat apply Exists.intro); exact ⟨⟨i + 1, by omega, by go_num, HB3, OW4⟩, rfl⟩)
        case measure => simp [intOf]; omega
    · have hls : ¬ (i : Int) < s := by have := HSZ.out; omega
      have hlt' : ¬ (i : Int) < (n : Int) := by omega
      obtain rfl : i = n := by omega
      have HRet := Lib.hid (retInts_of_row OW.out HBr.out)
      go_wp2
      go_ret
      obtain ⟨a', c', he, ho, hb', q1, q2, q3⟩ := HRet.out
      exact ⟨a', c', he, ho.mono (by have := HB0.out.size; omega), HB0.out.trans (hb'.mono HB0.out.size), q1, q2, q3⟩

theorem ptrsOf_any (t : GM) (w : World) (hs : Src w t.a t.n t.f) (hk : IsNode t 0) :
    Calls Try.prog 159 #[.agg #[.int .i64 t.at_, .int .i64 t.s, .int .i64 t.m, .int .i64 t.h, .slice t.a t.n t.c]] w (RetInts w (ptL t t.n).length (lf (ptL t t.n))) := by
  obtain ⟨⟨_, hok⟩, hsz, _⟩ := isNode_zero hk
  exact ptrsOf_x t.at_ t.s t.m t.h t.a t.n t.c t.f (ptL t) w hs hok hsz rfl (fun k => ptL_yes) (fun k => ptL_no) (ptL_len t)
end Go.Proofs.Ytbhjmomphajnnaa

namespace Go.Proofs.Ytbhjmomphajnnaa
open Go.RowKit
set_option linter.unusedVariables false

/-- A node with a pointer that leads nowhere. -/
def Astray (K : Nat) (T : Nat → GM) (t : GM) : Prop := ∃ j, j < (ptL t t.n).length ∧ Stray K T (lf (ptL t t.n) j)

theorem astray_iff {K : Nat} {T : Nat → GM} {t : GM} : Astray K T t ↔ ∃ k, k < t.n ∧ IsP t k ∧ Stray K T (t.f k) := by
  constructor
  · rintro ⟨j, hj, h⟩
    obtain ⟨k, hk, hp, he⟩ := mem_ptL.1 (lf_mem hj)
    exact ⟨k, hk, hp, he ▸ h⟩
  · rintro ⟨k, hk, hp, h⟩
    obtain ⟨j, hj, he⟩ := List.getElem_of_mem (mem_ptL.2 ⟨k, hk, hp, rfl⟩ : t.f k ∈ ptL t t.n)
    exact ⟨j, hj, by rw [lf_at hj, he]; exact h⟩

theorem lead_iff {M : Nat} {S : Nat → SL} {K : Nat} {T : Nat → GM} : MLead M S K T ↔ (¬ ∃ i, i < M ∧ Stray K T (S i).nd) ∧ ¬ ∃ i, i < K ∧ Astray K T (T i) := by
  constructor
  · rintro ⟨h1, h2⟩
    refine ⟨fun ⟨i, hi, h0, h⟩ => ?_, fun ⟨i, hi, ha⟩ => ?_⟩
    · rcases h1 i hi with h3 | h3
      · exact h0 h3
      · exact h h3
    · obtain ⟨k, hk, hp, h0, h⟩ := astray_iff.1 ha
      rcases h2 i hi k hk hp with h3 | h3
      · exact h0 h3
      · exact h h3
  · rintro ⟨h1, h2⟩
    refine ⟨fun i hi => ?_, fun i hi k hk hp => ?_⟩
    · by_cases h0 : (S i).nd = 0
      · exact .inl h0
      · by_cases h : Has K T (S i).nd
        · exact .inr h
        · exact absurd ⟨i, hi, h0, h⟩ h1
    · by_cases h0 : (T i).f k = 0
      · exact .inl h0
      · by_cases h : Has K T ((T i).f k)
        · exact .inr h
        · exact absurd ⟨i, hi, astray_iff.2 ⟨k, hk, hp, h0, h⟩⟩ h2

/-- What the closure reads. -/
structure CapM (w : World) (g : Nat) (te qu ha : Int) (sa : Option Addr) (M kc : Nat) (na : Option Addr) (K nc : Nat) (T : Nat → GM) : Prop where
  blk : Blk w g [.int .i64 te, .int .i64 qu, .int .i64 ha, .slice sa M kc, .slice na K nc]
  nv : NV w na K T

theorem CapM.below {w w' : World} {g : Nat} {te qu ha : Int} {sa : Option Addr} {M kc : Nat} {na : Option Addr} {K nc : Nat} {T : Nat → GM} (h : CapM w g te qu ha sa M kc na K nc T) (hb : Below w.heap.size w w') : CapM w' g te qu ha sa M kc na K nc T := ⟨h.blk.below hb, h.nv.below hb⟩

theorem cap6 {w : World} {g b : Nat} {te qu ha x s m h : Int} {sa na a : Option Addr} {M kc K nc n c : Nat} (hC : Blk w g [.int .i64 te, .int .i64 qu, .int .i64 ha, .slice sa M kc, .slice na K nc]) (hX : Blk w b [.int .i64 x, .int .i64 s, .int .i64 m, .int .i64 h, .slice a n c]) : w.cell? ⟨g, 4, none⟩ = some (.slice na K nc) ∧ w.cell? ⟨b, 0, none⟩ = some (.int .i64 x) ∧ w.cell? ⟨b, 1, none⟩ = some (.int .i64 s) ∧ w.cell? ⟨b, 2, none⟩ = some (.int .i64 m) ∧ w.cell? ⟨b, 3, none⟩ = some (.int .i64 h) ∧ w.cell? ⟨b, 4, none⟩ = some (.slice a n c) := ⟨hC.at 4 rfl, hX.at 0 rfl, hX.at 1 rfl, hX.at 2 rfl, hX.at 3 rfl, hX.at 4 rfl⟩

set_option maxRecDepth 100000 in
set_option maxHeartbeats 1600000 in
theorem astray1_any (g : Nat) (te qu ha : Int) (sa : Option Addr) (M kc : Nat) (na : Option Addr) (K nc : Nat) (T : Nat → GM) (t : GM) (r : Bool) (w : World) (h : CapM w g te qu ha sa M kc na K nc T) (hK : K ≤ 1000) (hm : ∀ i j, i < j → j < K → (T i).at_ < (T j).at_) (hs : Src w t.a t.n t.f) (hk : IsNode t 0) (hr : r = true ↔ Astray K T t) :
    Calls Try.prog 158 #[.agg #[.int .i64 t.at_, .int .i64 t.s, .int .i64 t.m, .int .i64 t.h, .slice t.a t.n t.c], .pointer (some ⟨g, 0, none⟩)] w (RetBool w r) := by
  have C0 := Lib.hid h; have S0 := Lib.hid hs; have HK := Lib.hid hk
  have X1 := Lib.hid (Blk.new_at (w := w) (cs := #[.int .i64 t.at_, .int .i64 t.s, .int .i64 t.m, .int .i64 t.h, .slice t.a t.n t.c]) (t := 149) w.heap.size rfl)
  have HB0 := Lib.hid ((Below.refl w.heap.size w).alloc (Nat.le_refl _) (.cells #[.int .i64 t.at_, .int .i64 t.s, .int .i64 t.m, .int .i64 t.h, .slice t.a t.n t.c] 149))
  have hn12 : t.n ≤ 12 := by obtain ⟨⟨_, hok⟩, hsz, _⟩ := isNode_zero hk; have := hok.1.2; omega
  have hpl := ptL_len t t.n
  clear h hs hk
  go_enter Try.func158, Try.ntmps158
  go_wp2_with fail
  have C1 := Lib.hid (C0.out.below HB0.out); have S1 := Lib.hid (S0.out.below HB0.out)
  have lX := X1.out.1
  clear C0 S0
  generalize w.alloc (.cells #[.int .i64 t.at_, .int .i64 t.s, .int .i64 t.m, .int .i64 t.h, .slice t.a t.n t.c] 149) = w0 at *
  have C1d := Lib.hid (C1.out.below (Below.refl _ _).drew); have S1d := Lib.hid (S1.out.below (Below.refl _ _).drew); have X1d := Lib.hid X1.out.drew; have HB0d := Lib.hid HB0.out.drew
  go_region_held3 (fun w' => w'.cell? ⟨g, 4, none⟩ = some (.slice na K nc) ∧ w'.cell? ⟨w.heap.size, 0, none⟩ = some (.int .i64 t.at_) ∧ w'.cell? ⟨w.heap.size, 1, none⟩ = some (.int .i64 t.s) ∧ w'.cell? ⟨w.heap.size, 2, none⟩ = some (.int .i64 t.m) ∧ w'.cell? ⟨w.heap.size, 3, none⟩ = some (.int .i64 t.h) ∧ w'.cell? ⟨w.heap.size, 4, none⟩ = some (.slice t.a t.n t.c))
    (first | (with_reducible exact cap6 C1.out.blk X1.out) | (with_reducible exact cap6 C1d.out.blk X1d.out) | (with_reducible exact cap6 C2.out.blk X2.out) | (with_reducible exact cap6 C3.out.blk X3.out))
    (first | (go_at_call 159; refine (ptrsOf_any t _ S1d.out HK.out).mono ?_; rintro e w2 ⟨pa, pc, rfl, ho, hb, -, -, -⟩; have HB2 := Lib.hid (HB0d.out.trans (hb.mono HB0d.out.size)); have C2 := Lib.hid (C1d.out.below hb); have X2 := Lib.hid (X1d.out.below hb); have HO := Lib.hid ho.src; clear ho hb) | (go_at_call 155; refine (strayId_any na K nc T pa _ pc (lf (ptL t t.n)) r _ C2.out.nv (by omega) hm HO.out (by omega) hr).mono ?_; rintro e w3 ⟨rfl, hb⟩; have HB3 := Lib.hid (thru0 HB2.out hb); have C3 := Lib.hid (C2.out.below hb); have X3 := Lib.hid (X2.out.below hb); clear hb))
  go_wp2
  go_ret
  exact ⟨rfl, HB3.out⟩

/-- slices.IndexFunc over nodes with that closure. -/
def RetIn5 (W : World) (K : Nat) (T : Nat → GM) (e : Ending) (w' : World) : Prop :=
  Below W.heap.size W w' ∧ (((∀ j, j < K → ¬ Astray K T (T j)) ∧ e = .returned (.int .i64 (-1))) ∨ ∃ i : Nat, i < K ∧ Astray K T (T i) ∧ e = .returned (.int .i64 (i : Int)))

set_option maxRecDepth 100000 in
set_option maxHeartbeats 1600000 in
theorem indexN_any (g : Nat) (te qu ha : Int) (sa : Option Addr) (M kc : Nat) (na : Option Addr) (K nc : Nat) (T : Nat → GM) (w : World) (h : CapM w g te qu ha sa M kc na K nc T) (hK : K ≤ 1000) (hm : ∀ i j, i < j → j < K → (T i).at_ < (T j).at_) (hk : ∀ i, i < K → IsNode (T i) 0) :
    Calls Try.prog 208 #[.slice na K nc, .func (.func 158) #[] #[.pointer (some ⟨g, 0, none⟩)]] w (RetIn5 w K T) := by
  have HC := Lib.hid h; have HM := Lib.hid hm; have HK := Lib.hid hk
  have eg : ∀ args w, (callFunc 158 args).run Try.prog w = .ok (.enter 158 args) w := enters_of Try.func158 (by kernel_rfl) rfl
  clear h hm hk
  go_enter Try.func208, Try.ntmps208
  go_wp2
  go_loopw [8] (fun p wr => ∃ i : Nat, i ≤ K ∧ p = .int .i64 (i : Int) ∧ Hid (Below w.heap.size w wr) ∧ Hid (∀ j, j < i → ¬ Astray K T (T j))) (fun p _ => K - (intOf p).toNat)
  case atStart => exact ⟨0, Nat.zero_le _, rfl, Below.refl _ _, Lib.hid (fun j hj => by omega)⟩
  case round =>
    obtain ⟨i, hi, rfl, HBr, HD⟩ := hrel
    by_cases hlt : i < K
    · have hlt' : (i : Int) < (K : Int) := by omega
      have hi0 : (0 : Int) ≤ (i : Int) := by omega
      have HCR := Lib.hid (HC.out.below HBr.out)
      obtain ⟨b, q, rfl, lb, hsix, hsrc⟩ := nv_get HCR.out.nv hlt
      have SR := Lib.hid hsrc
      have HKI := Lib.hid (HK.out i hlt)
      clear hsrc
      obtain ⟨s0, s1, s2, s3, s4⟩ := hsix
      by_cases hin : Astray K T (T i)
      · have HF : Hid (∃ i' : Nat, i' < K ∧ Astray K T (T i') ∧ Ending.returned (.int .i64 (i : Int)) = Ending.returned (.int .i64 (i' : Int))) := Lib.hid ⟨i, hlt, hin, rfl⟩
        have HIN := Lib.hid (show true = true ↔ Astray K T (T i) by simp [hin])
        clear hin
        go_wp2_with (go_at_fn 158; refine (astray1_any g te qu ha sa M kc _ K nc T (T i) true _ HCR.out hK HM.out SR.out HKI.out HIN.out).mono ?_; rintro e w1 ⟨rfl, hb⟩; have HB1 := Lib.hid (thru0 HBr.out hb); clear hb)
        go_ret
        exact ⟨HB1.out, .inr HF.out⟩
      · have HD' : Hid (∀ j, j < i + 1 → ¬ Astray K T (T j)) := Lib.hid fun j hj => by
          rcases Nat.lt_succ_iff_lt_or_eq.mp hj with h1 | h1
          · exact HD.out j h1
          · subst h1; exact hin
        have HIN := Lib.hid (show false = true ↔ Astray K T (T i) by simp [hin])
        clear hin HD
        go_wp2_with (go_at_fn 158; refine (astray1_any g te qu ha sa M kc _ K nc T (T i) false _ HCR.out hK HM.out SR.out HKI.out HIN.out).mono ?_; rintro e w1 ⟨rfl, hb⟩; have HB1 := Lib.hid (thru0 HBr.out hb); clear hb)
        clear s0 s1 s2 s3 s4
        go_roundw
        case rel => first | exact ⟨i + 1, by omega, by go_num, HB1, HD'⟩ | ((repeat apply Exists.intro); exact ⟨⟨i + 1, by omega, by go_num, HB1, HD'⟩, rfl⟩)
        case measure => simp [intOf]; omega
    · have hlt' : ¬ (i : Int) < (K : Int) := by omega
      go_wp2
      go_ret
      exact ⟨HBr.out, .inl ⟨fun j hj => HD.out j (by omega), rfl⟩⟩

set_option maxRecDepth 100000 in
set_option maxHeartbeats 400000 in
theorem containsN_any (g : Nat) (te qu ha : Int) (sa : Option Addr) (M kc : Nat) (na : Option Addr) (K nc : Nat) (T : Nat → GM) (r : Bool) (w : World) (h : CapM w g te qu ha sa M kc na K nc T) (hK : K ≤ 1000) (hm : ∀ i j, i < j → j < K → (T i).at_ < (T j).at_) (hk : ∀ i, i < K → IsNode (T i) 0) (hr : r = true ↔ ∃ i, i < K ∧ Astray K T (T i)) :
    Calls Try.prog 157 #[.slice na K nc, .func (.func 158) #[] #[.pointer (some ⟨g, 0, none⟩)]] w (RetBool w r) := by
  have HR := Lib.hid hr
  clear hr
  go_enter Try.func157, Try.ntmps157
  go_wp2_with fail
  refine (indexN_any g te qu ha sa M kc na K nc T _ h hK hm hk).mono ?_
  rintro e w1 ⟨hb, hres⟩
  have HB1 := Lib.hid hb
  clear hb
  rcases hres with ⟨hno, rfl⟩ | ⟨i, hi, hin, rfl⟩
  · obtain rfl : r = false := by
      cases r
      · rfl
      · obtain ⟨i, hi, h⟩ := HR.out.1 rfl
        exact absurd h (hno i hi)
    go_wp2
    go_ret
    exact ⟨rfl, HB1.out⟩
  · obtain rfl : r = true := HR.out.2 ⟨i, hi, hin⟩
    have hi0 : (0 : Int) ≤ (i : Int) := by omega
    clear hin
    go_wp2
    go_ret
    exact ⟨rfl, HB1.out⟩
end Go.Proofs.Ytbhjmomphajnnaa

namespace Go.Proofs.Ytbhjmomphajnnaa
open Go.RowKit
set_option linter.unusedVariables false

theorem cap2 {w : World} {g : Nat} {te qu ha : Int} {sa na : Option Addr} {M kc K nc : Nat} (hC : Blk w g [.int .i64 te, .int .i64 qu, .int .i64 ha, .slice sa M kc, .slice na K nc]) : w.cell? ⟨g, 3, none⟩ = some (.slice sa M kc) ∧ w.cell? ⟨g, 4, none⟩ = some (.slice na K nc) := ⟨hC.at 3 rfl, hC.at 4 rfl⟩

set_option maxRecDepth 100000 in
set_option maxHeartbeats 3200000 in
theorem leadsAstray_any (te qu ha : Int) (sa : Option Addr) (M kc : Nat) (S : Nat → SL) (na : Option Addr) (K nc : Nat) (T : Nat → GM) (r : Bool) (w : World) (hp : PV w sa M S) (hg : NV w na K T) (hM : M ≤ 1000) (hK : K ≤ 1000) (hm : ∀ i j, i < j → j < K → (T i).at_ < (T j).at_) (hk : ∀ i, i < K → IsNode (T i) 0) (hr : r = true ↔ ¬ MLead M S K T) :
    Calls Try.prog 89 #[.agg #[.int .i64 te, .int .i64 qu, .int .i64 ha, .slice sa M kc, .slice na K nc]] w (RetBool w r) := by
  have X1 := Lib.hid (Blk.new_at (w := w) (cs := #[.int .i64 te, .int .i64 qu, .int .i64 ha, .slice sa M kc, .slice na K nc]) (t := 54) w.heap.size rfl)
  have HB0 := Lib.hid ((Below.refl w.heap.size w).alloc (Nat.le_refl _) (.cells #[.int .i64 te, .int .i64 qu, .int .i64 ha, .slice sa M kc, .slice na K nc] 54))
  have P1 := Lib.hid (hp.below HB0.out); have G1 := Lib.hid (hg.below HB0.out)
  have HR := Lib.hid hr
  clear hp hg hr
  by_cases h1 : ∃ i, i < M ∧ Stray K T (S i).nd
  · obtain rfl : r = true := HR.out.2 fun h => (lead_iff.1 h).1 h1
    have H1 := Lib.hid h1
    clear h1
    go_enter Try.func89, Try.ntmps89
    go_wp2_with fail
    generalize w.alloc (.cells #[.int .i64 te, .int .i64 qu, .int .i64 ha, .slice sa M kc, .slice na K nc] 54) = w0 at *
    have P1d := Lib.hid (P1.out.below (Below.refl _ _).drew); have G1d := Lib.hid (G1.out.below (Below.refl _ _).drew); have X1d := Lib.hid X1.out.drew; have HB0d := Lib.hid HB0.out.drew
    refine wp_region_held_drew (S := (fun w' => w'.cell? ⟨w.heap.size, 3, none⟩ = some (.slice sa M kc) ∧ w'.cell? ⟨w.heap.size, 4, none⟩ = some (.slice na K nc))) (by kernel_rfl) (cap2 X1d.out) (fun hHeld => ?_)
    refine wpAnyH_take (i := 0) (oi := { dst := some 3, op := Op.fieldAddr 54 (Operand.tmp 1) 4, type := 0, pos := "l05_graph.go:129", after := #[], guard := none }) (v := ?_) rfl (by kernel_rfl) (by kernel_rfl) (by kernel_rfl) (fun _ _ _ h => h) (Or.inl ⟨by rfl, ?_⟩) (by assumption) ?_
    rotate_left
    · intro w hSw; (try dsimp only at hSw); go_simp; (try with_reducible rfl)
    try simp only [Act.put, List.setIfInBounds_toArray, List.set_cons_zero, List.set_cons_succ]
    refine wpAnyH_take (i := 1) (oi := { dst := some 4, op := Op.load 52 (Operand.tmp 3), type := 52, pos := "l05_graph.go:129", after := #[{ on := 0, ground := Ground.data }], guard := none }) (v := ?_) rfl (by kernel_rfl) (by kernel_rfl) (by kernel_rfl) (fun _ _ _ h => h) (Or.inl ⟨by rfl, ?_⟩) (by assumption) ?_
    rotate_left
    · intro w hSw; (try dsimp only at hSw); go_simp; (try with_reducible rfl)
    try simp only [Act.put, List.setIfInBounds_toArray, List.set_cons_zero, List.set_cons_succ]
    refine wpAnyH_take (i := 2) (oi := { dst := some 5, op := Op.fieldAddr 54 (Operand.tmp 1) 3, type := 0, pos := "l05_graph.go:129", after := #[], guard := none }) (v := ?_) rfl (by kernel_rfl) (by kernel_rfl) (by kernel_rfl) (fun _ _ _ h => h) (Or.inl ⟨by rfl, ?_⟩) (by assumption) ?_
    rotate_left
    · intro w hSw; (try dsimp only at hSw); go_simp; (try with_reducible rfl)
    try simp only [Act.put, List.setIfInBounds_toArray, List.set_cons_zero, List.set_cons_succ]
    refine wpAnyH_take (i := 3) (oi := { dst := some 6, op := Op.load 51 (Operand.tmp 5), type := 51, pos := "l05_graph.go:129", after := #[{ on := 2, ground := Ground.data }], guard := none }) (v := ?_) rfl (by kernel_rfl) (by kernel_rfl) (by kernel_rfl) (fun _ _ _ h => h) (Or.inl ⟨by rfl, ?_⟩) (by assumption) ?_
    rotate_left
    · intro w hSw; (try dsimp only at hSw); go_simp; (try with_reducible rfl)
    try simp only [Act.put, List.setIfInBounds_toArray, List.set_cons_zero, List.set_cons_succ]
    refine wpAnyH_ready (rs := [4]) (by kernel_rfl) (by simp) ?_
    refine AllReadyH.cons (o := _) rfl (fun Kq hKq => ?_) AllReadyH.nil
    go_simp
    (go_at_call 156; refine (slotNodes_any sa M kc S _ P1d.out (by omega)).mono ?_; rintro e w2 ⟨pa, pc, rfl, ho, hb, -, -, -⟩; have HB2 := Lib.hid (HB0d.out.trans (hb.mono HB0d.out.size)); have X2 := Lib.hid (X1d.out.below hb); have G2 := Lib.hid (G1d.out.below hb); have HO := Lib.hid ho.src; clear ho hb)
    first | (refine hKq.out _ _ (cap2 X2.out) (fun hHeld => ?_)) | (go_wp2_with fail; refine hKq.out _ _ (cap2 X2.out) (fun hHeld => ?_))
    clear hKq Kq
    try simp only [Act.put, List.setIfInBounds_toArray, List.set_cons_zero, List.set_cons_succ]
    refine wpAnyH_ready (rs := [5]) (by kernel_rfl) (by simp) ?_
    refine AllReadyH.cons (o := _) rfl (fun Kq hKq => ?_) AllReadyH.nil
    go_simp
    (go_at_call 155; refine (strayId_any na K nc T pa _ pc (fun i => (S i).nd) true _ G2.out (by omega) hm HO.out (by omega) ⟨fun _ => H1.out, fun _ => rfl⟩).mono ?_; rintro e w3 ⟨rfl, hb⟩; have HB3 := Lib.hid (thru0 HB2.out hb); have X3 := Lib.hid (X2.out.below hb); have G3 := Lib.hid (G2.out.below hb); clear hb)
    first | (refine hKq.out _ _ (cap2 X3.out) (fun hHeld => ?_)) | (go_wp2_with fail; refine hKq.out _ _ (cap2 X3.out) (fun hHeld => ?_))
    clear hKq Kq
    try simp only [Act.put, List.setIfInBounds_toArray, List.set_cons_zero, List.set_cons_succ]
    refine wpAnyH_take (i := 6) (oi := { dst := some 9, op := Op.move (Operand.tmp 8), type := 4, pos := "l05_graph.go:129", after := #[{ on := 5, ground := Ground.data }, { on := 5, ground := Ground.chain }], guard := none }) (v := ?_) rfl (by kernel_rfl) (by kernel_rfl) (by kernel_rfl) (fun _ _ _ h => h) (Or.inl ⟨by rfl, ?_⟩) (by assumption) ?_
    rotate_left
    · intro w hSw; (try dsimp only at hSw); go_simp; (try with_reducible rfl)
    try simp only [Act.put, List.setIfInBounds_toArray, List.set_cons_zero, List.set_cons_succ]
    refine wpAnyH_take (i := 7) (oi := { dst := some 10, op := Op.fieldAddr 54 (Operand.tmp 1) 4, type := 0, pos := "l05_graph.go:129", after := #[{ on := 6, ground := Ground.guard }], guard := some (6, false) }) (v := _) rfl (by kernel_rfl) (by kernel_rfl) (by kernel_rfl) (fun _ _ _ h => h) (Or.inr ⟨by rfl, rfl⟩) (by assumption) ?_
    refine wpAnyH_take (i := 8) (oi := { dst := some 11, op := Op.load 52 (Operand.tmp 10), type := 52, pos := "l05_graph.go:129", after := #[{ on := 7, ground := Ground.data }, { on := 6, ground := Ground.guard }], guard := some (6, false) }) (v := _) rfl (by kernel_rfl) (by kernel_rfl) (by kernel_rfl) (fun _ _ _ h => h) (Or.inr ⟨by rfl, rfl⟩) (by assumption) ?_
    refine wpAnyH_take (i := 9) (oi := { dst := some 12, op := Op.makeFunc (Fn.func 158) #[] #[Operand.tmp 1], type := 246, pos := "l05_graph.go:129", after := #[{ on := 6, ground := Ground.guard }], guard := some (6, false) }) (v := _) rfl (by kernel_rfl) (by kernel_rfl) (by kernel_rfl) (fun _ _ _ h => h) (Or.inr ⟨by rfl, rfl⟩) (by assumption) ?_
    refine wpAnyH_ready (rs := [10]) (by kernel_rfl) (by simp) ?_
    refine AllReadyH.cons (o := _) rfl (fun Kq hKq => ?_) AllReadyH.nil
    go_simp
    refine hKq.out _ _ (cap2 X3.out) (fun hHeld => ?_)
    clear hKq Kq
    try simp only [Act.put, List.setIfInBounds_toArray, List.set_cons_zero, List.set_cons_succ]
    refine wpAnyH_take (i := 11) (oi := { dst := some 14, op := Op.pick (Operand.tmp 9) (Operand.const (Value.bool true)) (Operand.tmp 13), type := 4, pos := "l05_graph.go:129", after := #[{ on := 6, ground := Ground.data }, { on := 10, ground := Ground.data }], guard := none }) (v := ?_) rfl (by kernel_rfl) (by kernel_rfl) (by kernel_rfl) (fun _ _ _ h => h) (Or.inl ⟨by rfl, ?_⟩) (by assumption) ?_
    rotate_left
    · intro w hSw; (try dsimp only at hSw); go_simp; (try with_reducible rfl)
    try simp only [Act.put, List.setIfInBounds_toArray, List.set_cons_zero, List.set_cons_succ]
    refine wpAnyH_take (i := 12) (oi := { dst := some 2, op := Op.assign (Operand.tmp 14), type := 4, pos := "l05_graph.go:129", after := #[{ on := 11, ground := Ground.data }, { on := 10, ground := Ground.chain }, { on := 0, ground := Ground.phase }, { on := 1, ground := Ground.phase }, { on := 2, ground := Ground.phase }, { on := 3, ground := Ground.phase }, { on := 4, ground := Ground.phase }, { on := 5, ground := Ground.phase }, { on := 6, ground := Ground.phase }, { on := 7, ground := Ground.phase }, { on := 8, ground := Ground.phase }, { on := 9, ground := Ground.phase }, { on := 10, ground := Ground.phase }, { on := 11, ground := Ground.phase }], guard := none }) (v := ?_) rfl (by kernel_rfl) (by kernel_rfl) (by kernel_rfl) (fun _ _ _ h => h) (Or.inl ⟨by rfl, ?_⟩) (by assumption) ?_
    rotate_left
    · intro w hSw; (try dsimp only at hSw); go_simp; (try with_reducible rfl)
    try simp only [Act.put, List.setIfInBounds_toArray, List.set_cons_zero, List.set_cons_succ]
    refine wpAnyH_done (by kernel_rfl) ?_ _
    go_wp2
    go_ret
    exact ⟨rfl, HB3.out⟩
  · have H1f : Hid (false = true ↔ ∃ i, i < M ∧ Stray K T (S i).nd) := Lib.hid ⟨fun h => (by cases h), fun h => absurd h h1⟩
    have H2 : Hid (r = true ↔ ∃ i, i < K ∧ Astray K T (T i)) := Lib.hid (by
      rw [HR.out, lead_iff]
      constructor
      · intro h
        by_cases h2 : ∃ i, i < K ∧ Astray K T (T i)
        · exact h2
        · exact absurd ⟨h1, h2⟩ h
      · exact fun h2 h => h.2 h2)
    have HK := Lib.hid hk
    clear h1 hk
    go_enter Try.func89, Try.ntmps89
    go_wp2_with fail
    generalize w.alloc (.cells #[.int .i64 te, .int .i64 qu, .int .i64 ha, .slice sa M kc, .slice na K nc] 54) = w0 at *
    have P1d := Lib.hid (P1.out.below (Below.refl _ _).drew); have G1d := Lib.hid (G1.out.below (Below.refl _ _).drew); have X1d := Lib.hid X1.out.drew; have HB0d := Lib.hid HB0.out.drew
    go_region_held3 (fun w' => w'.cell? ⟨w.heap.size, 3, none⟩ = some (.slice sa M kc) ∧ w'.cell? ⟨w.heap.size, 4, none⟩ = some (.slice na K nc))
      (first | (with_reducible exact cap2 X1.out) | (with_reducible exact cap2 X1d.out) | (with_reducible exact cap2 X2.out) | (with_reducible exact cap2 X3.out) | (with_reducible exact cap2 X4.out))
      (first | (go_at_call 156; refine (slotNodes_any sa M kc S _ P1d.out (by omega)).mono ?_; rintro e w2 ⟨pa, pc, rfl, ho, hb, -, -, -⟩; have HB2 := Lib.hid (HB0d.out.trans (hb.mono HB0d.out.size)); have X2 := Lib.hid (X1d.out.below hb); have G2 := Lib.hid (G1d.out.below hb); have HO := Lib.hid ho.src; clear ho hb) | (go_at_call 155; refine (strayId_any na K nc T pa _ pc (fun i => (S i).nd) false _ G2.out (by omega) hm HO.out (by omega) H1f.out).mono ?_; rintro e w3 ⟨rfl, hb⟩; have HB3 := Lib.hid (thru0 HB2.out hb); have X3 := Lib.hid (X2.out.below hb); have G3 := Lib.hid (G2.out.below hb); clear hb) | (go_at_call 157; refine (containsN_any w.heap.size te qu ha sa M kc na K nc T r _ ⟨X3.out, G3.out⟩ hK hm HK.out H2.out).mono ?_; rintro e w4 ⟨rfl, hb⟩; have HB4 := Lib.hid (thru0 HB3.out hb); have X4 := Lib.hid (X3.out.below hb); clear hb))
    go_wp2
    go_ret
    exact ⟨rfl, HB4.out⟩

/-- A slot that was never given away, and leads to a node. -/
def Never (t : SL) : Prop := ¬ t.nd = 0 ∧ t.g = 0

set_option maxRecDepth 100000 in
set_option maxHeartbeats 400000 in
theorem never1_any (t : SL) (r : Bool) (w : World) (hr : r = true ↔ Never t) :
    Calls Try.prog 91 #[.agg #[.int .i64 t.g, .int .i64 t.nd]] w (RetBool w r) := by
  by_cases hx : t.nd = 0
  · obtain rfl : r = false := by
      cases r
      · rfl
      · exact absurd hx (hr.1 rfl).1
    have hx' : (t.nd != 0) = false := by simpa using hx
    clear hr hx
    go_enter Try.func91, Try.ntmps91
    go_wp2
    go_ret
    exact ⟨rfl, (Below.refl _ _).alloc (Nat.le_refl _) _⟩
  · have hx' : (t.nd != 0) = true := by simpa using hx
    by_cases hy : t.g = 0
    · obtain rfl : r = true := hr.2 ⟨hx, hy⟩
      have hy' : (t.g == 0) = true := by simpa using hy
      clear hr hx hy
      go_enter Try.func91, Try.ntmps91
      go_wp2
      go_ret
      exact ⟨rfl, (Below.refl _ _).alloc (Nat.le_refl _) _⟩
    · obtain rfl : r = false := by
        cases r
        · rfl
        · exact absurd (hr.1 rfl).2 hy
      have hy' : (t.g == 0) = false := by simpa using hy
      clear hr hx hy
      go_enter Try.func91, Try.ntmps91
      go_wp2
      go_ret
      exact ⟨rfl, (Below.refl _ _).alloc (Nat.le_refl _) _⟩

def RetIs (W : World) (M : Nat) (S : Nat → SL) (e : Ending) (w' : World) : Prop :=
  Below W.heap.size W w' ∧ (((∀ j, j < M → ¬ Never (S j)) ∧ e = .returned (.int .i64 (-1))) ∨ ∃ i : Nat, i < M ∧ Never (S i) ∧ e = .returned (.int .i64 (i : Int)))

set_option maxRecDepth 100000 in
set_option maxHeartbeats 1600000 in
theorem indexS_any (sa : Option Addr) (M kc : Nat) (S : Nat → SL) (w : World) (h : PV w sa M S) (hM : M ≤ 1000) :
    Calls Try.prog 160 #[.slice sa M kc, .func (.func 91) #[] #[]] w (RetIs w M S) := by
  have HC := Lib.hid h
  have eg : ∀ args w, (callFunc 91 args).run Try.prog w = .ok (.enter 91 args) w := enters_of Try.func91 (by kernel_rfl) rfl
  clear h
  go_enter Try.func160, Try.ntmps160
  go_wp2
  go_loopw [8] (fun p wr => ∃ i : Nat, i ≤ M ∧ p = .int .i64 (i : Int) ∧ Hid (Below w.heap.size w wr) ∧ Hid (∀ j, j < i → ¬ Never (S j))) (fun p _ => M - (intOf p).toNat)
  case atStart => exact ⟨0, Nat.zero_le _, rfl, Below.refl _ _, Lib.hid (fun j hj => by omega)⟩
  case round =>
    obtain ⟨i, hi, rfl, HBr, HD⟩ := hrel
    by_cases hlt : i < M
    · have hlt' : (i : Int) < (M : Int) := by omega
      have hi0 : (0 : Int) ≤ (i : Int) := by omega
      obtain ⟨b, q, rfl, lb, s0, s1⟩ := pv_get (HC.out.below HBr.out) hlt
      by_cases hin : Never (S i)
      · have HF : Hid (∃ i' : Nat, i' < M ∧ Never (S i') ∧ Ending.returned (.int .i64 (i : Int)) = Ending.returned (.int .i64 (i' : Int))) := Lib.hid ⟨i, hlt, hin, rfl⟩
        have HIN := Lib.hid (show true = true ↔ Never (S i) by simp [hin])
        clear hin
        go_wp2_with (go_at_fn 91; refine (never1_any (S i) true _ HIN.out).mono ?_; rintro e w1 ⟨rfl, hb⟩; have HB1 := Lib.hid (thru0 HBr.out hb); clear hb)
        go_ret
        exact ⟨HB1.out, .inr HF.out⟩
      · have HD' : Hid (∀ j, j < i + 1 → ¬ Never (S j)) := Lib.hid fun j hj => by
          rcases Nat.lt_succ_iff_lt_or_eq.mp hj with h1 | h1
          · exact HD.out j h1
          · subst h1; exact hin
        have HIN := Lib.hid (show false = true ↔ Never (S i) by simp [hin])
        clear hin HD
        go_wp2_with (go_at_fn 91; refine (never1_any (S i) false _ HIN.out).mono ?_; rintro e w1 ⟨rfl, hb⟩; have HB1 := Lib.hid (thru0 HBr.out hb); clear hb)
        clear s0 s1
        go_roundw
        case rel => first | exact ⟨i + 1, by omega, by go_num, HB1, HD'⟩ | ((repeat apply Exists.intro); exact ⟨⟨i + 1, by omega, by go_num, HB1, HD'⟩, rfl⟩)
        case measure => simp [intOf]; omega
    · have hlt' : ¬ (i : Int) < (M : Int) := by omega
      go_wp2
      go_ret
      exact ⟨HBr.out, .inl ⟨fun j hj => HD.out j (by omega), rfl⟩⟩

set_option maxRecDepth 100000 in
set_option maxHeartbeats 400000 in
theorem containsS_any (sa : Option Addr) (M kc : Nat) (S : Nat → SL) (r : Bool) (w : World) (h : PV w sa M S) (hM : M ≤ 1000) (hr : r = true ↔ ¬ MGive M S) :
    Calls Try.prog 90 #[.slice sa M kc, .func (.func 91) #[] #[]] w (RetBool w r) := by
  have HR := Lib.hid hr
  clear hr
  go_enter Try.func90, Try.ntmps90
  go_wp2_with fail
  refine (indexS_any sa M kc S _ h hM).mono ?_
  rintro e w1 ⟨hb, hres⟩
  have HB1 := Lib.hid hb
  clear hb
  rcases hres with ⟨hno, rfl⟩ | ⟨i, hi, hin, rfl⟩
  · obtain rfl : r = false := by
      cases r
      · rfl
      · refine absurd (fun i hi => ?_) (HR.out.1 rfl)
        have := hno i hi
        unfold Never at this
        by_cases h : (S i).nd = 0
        · exact .inl h
        · exact .inr fun h2 => this ⟨h, h2⟩
    go_wp2
    go_ret
    exact ⟨rfl, HB1.out⟩
  · obtain rfl : r = true := HR.out.2 fun h => by
      rcases h i hi with h | h
      · exact hin.1 h
      · exact h hin.2
    have hi0 : (0 : Int) ≤ (i : Int) := by omega
    clear hin
    go_wp2
    go_ret
    exact ⟨rfl, HB1.out⟩
end Go.Proofs.Ytbhjmomphajnnaa

namespace Go.Proofs.Ytbhjmomphajnnaa
open Go.RowKit
set_option linter.unusedVariables false

set_option maxRecDepth 100000 in
set_option maxHeartbeats 6400000 in
theorem implMF_any (te qu ha : Int) (sa : Option Addr) (M kc : Nat) (S : Nat → SL) (na : Option Addr) (K nc : Nat) (T : Nat → GM) (c : Int) (w : World)
    (hp : PV w sa M S) (hg : NV w na K T) (hM : M ≤ 1048576) (hK : K ≤ 1048576) (hn : ∀ i, i < K → (T i).n ≤ 1048576) (hk : IsMF te qu ha M S K T c) :
    Calls Try.prog 29 #[.agg #[.int .i64 te, .int .i64 qu, .int .i64 ha, .slice sa M kc, .slice na K nc]] w (RetInt w c) := by
  have X1 := Lib.hid (Blk.new_at (w := w) (cs := #[.int .i64 te, .int .i64 qu, .int .i64 ha, .slice sa M kc, .slice na K nc]) (t := 54) w.heap.size rfl)
  have HB0 := Lib.hid ((Below.refl w.heap.size w).alloc (Nat.le_refl _) (.cells #[.int .i64 te, .int .i64 qu, .int .i64 ha, .slice sa M kc, .slice na K nc] 54))
  have P1 := Lib.hid (hp.below HB0.out); have G1 := Lib.hid (hg.below HB0.out); have HN := Lib.hid hn
  clear hp hg hn
  rcases hk with ⟨h1, rfl⟩ | ⟨t0, hk⟩
  · have H1 := Lib.hid (show ¬ ((0 ≤ te ∧ te ≤ 3) ∧ (2 ≤ qu ∧ qu ≤ 200) ∧ (0 ≤ ha ∧ ha ≤ 99999)) from h1)
    clear h1
    go_enter Try.func29, Try.ntmps29
    go_wp2_with fail
    with_reducible refine (isOut3 _ _ _ _ _ _ _ _ _ _ _ true (by simp) (.inr ⟨rfl, H1.out⟩)).mono ?_
    rintro e w1 ⟨rfl, hb⟩
    have HB1 := Lib.hid (thru1 HB0.out hb)
    clear hb
    go_wp2
    go_ret
    exact ⟨rfl, HB1.out⟩
  have T0 := Lib.hid (show (0 ≤ te ∧ te ≤ 3) ∧ (2 ≤ qu ∧ qu ≤ 200) ∧ (0 ≤ ha ∧ ha ≤ 99999) from t0)
  have HK0 := Lib.hid hk
  clear t0 hk
  go_enter Try.func29, Try.ntmps29
  go_wp2_with fail
  with_reducible refine (isOut3 _ _ _ _ _ _ _ _ _ _ _ false (by simp) (.inl ⟨rfl, T0.out⟩)).mono ?_
  rintro e w1 ⟨rfl, hb⟩
  have HB1 := Lib.hid (thru1 HB0.out hb)
  have X2 := Lib.hid ((X1.out.alloc _).below hb); have P2' := Lib.hid ((P1.out.alloc _).below hb); have G2 := Lib.hid ((G1.out.alloc _).below hb)
  clear hb X1 P1 G1 HB0
  have c3 := X2.out.at 3 rfl; have c4 := X2.out.at 4 rfl; have lX := X2.out.1
  rcases HK0.out with ⟨h2, rfl⟩ | ⟨t2, hk⟩
  · have H2 := Lib.hid (show ¬ ((1 ≤ (M : Int) ∧ (M : Int) ≤ 8) ∧ (0 ≤ (K : Int) ∧ (K : Int) ≤ 150)) from h2)
    clear h2 HK0
    go_wp2_with fail
    with_reducible refine (isOut2 _ _ _ _ _ _ _ _ true (by simp) (.inr ⟨rfl, H2.out⟩)).mono ?_
    rintro e w2 ⟨rfl, hb⟩
    have HB2 := Lib.hid (thru1 HB1.out hb)
    clear hb
    go_wp2
    go_ret
    exact ⟨rfl, HB2.out⟩
  have T2 := Lib.hid (show (1 ≤ (M : Int) ∧ (M : Int) ≤ 8) ∧ (0 ≤ (K : Int) ∧ (K : Int) ≤ 150) from t2)
  have HK1 := Lib.hid hk
  clear t2 hk HK0
  go_wp2_with fail
  with_reducible refine (isOut2 _ _ _ _ _ _ _ _ false (by simp) (.inl ⟨rfl, T2.out⟩)).mono ?_
  rintro e w2 ⟨rfl, hb⟩
  have HB2 := Lib.hid (thru1 HB1.out hb)
  have X3 := Lib.hid ((X2.out.alloc _).below hb); have P3 := Lib.hid ((P2'.out.alloc _).below hb); have G3 := Lib.hid ((G2.out.alloc _).below hb)
  clear hb X2 P2' G2 HB1 c3 c4 lX
  have c3 := X3.out.at 3 rfl; have c4 := X3.out.at 4 rfl; have lX := X3.out.1
  have hM8 : M ≤ 8 := by have := T2.out; omega
  have hK150 : K ≤ 150 := by have := T2.out; omega
  go_wp2
  clear c3 c4 lX
  go_loopw [32] (fun p wr => ∃ i : Nat, i ≤ M ∧ p = .int .i64 (i : Int) ∧ Hid (Below w2.heap.size w2 wr) ∧ Hid (∀ j, j < i → (0 ≤ (S j).g ∧ (S j).g ≤ 99) ∧ (0 ≤ (S j).nd ∧ (S j).nd ≤ 9999))) (fun p _ => M - (intOf p).toNat)
  case atStart => exact ⟨0, Nat.zero_le _, rfl, Below.refl _ _, Lib.hid (fun j hj => by omega)⟩
  case round =>
    obtain ⟨i, hi, rfl, HBr, HD⟩ := hrel
    have hzr := HBr.out.size
    by_cases hlt : i < M
    · have hlt' : (i : Int) < (M : Int) := by omega
      have hi0 : (0 : Int) ≤ (i : Int) := by omega
      obtain ⟨b, q, rfl, lb, s0, s1⟩ := pv_get (P3.out.below HBr.out) hlt
      by_cases g1 : (0 ≤ (S i).g ∧ (S i).g ≤ 99) ∧ (0 ≤ (S i).nd ∧ (S i).nd ≤ 9999)
      · have HG := Lib.hid g1
        have HD' : Hid (∀ j, j < i + 1 → (0 ≤ (S j).g ∧ (S j).g ≤ 99) ∧ (0 ≤ (S j).nd ∧ (S j).nd ≤ 9999)) := Lib.hid fun j hj => by
          rcases Nat.lt_succ_iff_lt_or_eq.mp hj with h1 | h1
          · exact HD.out j h1
          · subst h1; exact g1
        clear g1 HD
        go_wp2_with fail
        with_reducible refine (isOut2 _ _ _ _ _ _ _ _ false (by simp) (.inl ⟨rfl, HG.out⟩)).mono ?_
        rintro e w3 ⟨rfl, hb⟩
        have HB3 : Hid (Below w2.heap.size w2 w3) := Lib.hid (((HBr.out.alloc hzr _).alloc (by simp; omega) _).trans (hb.mono (by simp; omega)))
        clear hb s0 s1
        go_wp2
        go_roundw
        case rel => first | exact ⟨i + 1, by omega, by go_num, HB3, HD'⟩ | ((repeat apply Exists.intro); exact ⟨⟨i + 1, by omega, by go_num, HB3, HD'⟩, rfl⟩)
        case measure => simp [intOf]; omega
      · have HG := Lib.hid g1
        obtain rfl : c = 3 := by
          rcases HK1.out with ⟨_, h⟩ | ⟨h, _⟩
          · exact h
          · exact absurd (h i hlt) g1
        clear g1 HD HK1
        go_wp2_with fail
        with_reducible refine (isOut2 _ _ _ _ _ _ _ _ true (by simp) (.inr ⟨rfl, HG.out⟩)).mono ?_
        rintro e w3 ⟨rfl, hb⟩
        have HB3 : Hid (Below w2.heap.size w2 w3) := Lib.hid (((HBr.out.alloc hzr _).alloc (by simp; omega) _).trans (hb.mono (by simp; omega)))
        clear hb s0 s1
        go_wp2
        go_ret
        exact ⟨rfl, HB2.out.trans (HB3.out.mono HB2.out.size)⟩
    · have hlt' : ¬ (i : Int) < (M : Int) := by omega
      rcases HK1.out with ⟨h, _⟩ | ⟨hms, hk⟩
      · exact absurd (fun j hj => HD.out j (by omega)) h
      have HK2 := Lib.hid hk
      have X4 := Lib.hid (X3.out.below HBr.out); have P4 := Lib.hid (P3.out.below HBr.out); have G4 := Lib.hid (G3.out.below HBr.out)
      have HB3 := Lib.hid (HB2.out.trans (HBr.out.mono HB2.out.size))
      have c3 := X4.out.at 3 rfl; have c4 := X4.out.at 4 rfl; have lX := X4.out.1
      clear HK1 HD hk X3 P3 G3
      go_wp2
      clear HBr hzr hlt' hlt c3 c4 lX HB2
      generalize wr = w3 at *
      go_loopw [48] (fun p wr => ∃ j : Nat, j ≤ K ∧ p = .int .i64 (j : Int) ∧ Hid (Below w3.heap.size w3 wr) ∧ Hid (∀ i, i < j → IsNode (T i) 0)) (fun p _ => K - (intOf p).toNat)
      case atStart => exact ⟨0, Nat.zero_le _, rfl, Below.refl _ _, Lib.hid (fun j hj => by omega)⟩
      case round =>
        obtain ⟨j, hj, rfl, HBr, HD⟩ := hrel
        have hzr := HBr.out.size
        by_cases hlt : j < K
        · have hlt' : (j : Int) < (K : Int) := by omega
          have hj0 : (0 : Int) ≤ (j : Int) := by omega
          obtain ⟨b, q, rfl, lb, hsix, hsrc⟩ := nv_get (G4.out.below HBr.out) hlt
          have SR := Lib.hid hsrc
          obtain ⟨s0, s1, s2, s3, s4⟩ := hsix
          obtain ⟨cj, hcj⟩ := isNode_some (T j)
          have HCJ := Lib.hid hcj
          clear hcj hsrc
          go_wp2_with fail
          refine (nodeFault_any (T j) cj _ (SR.out.alloc _) (HN.out j hlt) HCJ.out).mono ?_
          rintro e w4 ⟨rfl, hb⟩
          have HB4 := Lib.hid (thru1 HBr.out hb)
          clear hb s0 s1 s2 s3 s4
          by_cases h0 : cj = 0
          · subst h0
            have HD' : Hid (∀ i, i < j + 1 → IsNode (T i) 0) := Lib.hid fun i hi => by
              rcases Nat.lt_succ_iff_lt_or_eq.mp hi with h1 | h1
              · exact HD.out i h1
              · subst h1; exact HCJ.out
            clear HD
            go_wp2
            go_roundw
            case rel => first | exact ⟨j + 1, by omega, by go_num, HB4, HD'⟩ | ((repeat apply Exists.intro); exact ⟨⟨j + 1, by omega, by go_num, HB4, HD'⟩, rfl⟩)
            case measure => simp [intOf]; omega
          · have h0' : (cj != 0) = true := by simpa using h0
            obtain rfl : c = cj := by
              rcases HK2.out with ⟨h, _⟩ | ⟨h, _⟩
              · exact isNodes_hit h hlt HD.out HCJ.out h0
              · exact absurd (isNode_one HCJ.out (isNodes_zero h j hlt)) h0
            clear HD HK2
            go_wp2
            go_ret
            exact ⟨rfl, HB3.out.trans (HB4.out.mono HB3.out.size)⟩
        · have hlt' : ¬ (j : Int) < (K : Int) := by omega
          rcases HK2.out with ⟨h, h0⟩ | ⟨hnz, hk⟩
          · exact absurd (isNodes_all h fun i hi => HD.out i (by omega)) h0
          have HND := Lib.hid (isNodes_zero hnz)
          have HK3 := Lib.hid hk
          have X5 := Lib.hid (X4.out.below HBr.out); have P5 := Lib.hid (P4.out.below HBr.out); have G5 := Lib.hid (G4.out.below HBr.out)
          have HB4 := Lib.hid (HB3.out.trans (HBr.out.mono HB3.out.size))
          have c3 := X5.out.at 3 rfl; have c4 := X5.out.at 4 rfl; have lX := X5.out.1
          clear HK2 HD hk hnz X4 P4 G4 HBr hzr HB3
          obtain ⟨r, hr9⟩ : ∃ r : Bool, r = true ↔ MRise K T := by
            by_cases h : MRise K T
            · exact ⟨true, by simp [h]⟩
            · exact ⟨false, by simp [h]⟩
          have HR := Lib.hid hr9
          clear hr9
          go_wp2_with fail
          refine (rising_any na K nc T r _ G5.out hK HR.out).mono ?_
          rintro e w5 ⟨rfl, hb⟩
          have HB5 := Lib.hid (thru0 HB4.out hb)
          have X6 := Lib.hid (X5.out.below hb); have P6 := Lib.hid (P5.out.below hb); have G6 := Lib.hid (G5.out.below hb)
          clear hb X5 P5 G5 HB4 c3 c4 lX
          cases r
          · obtain rfl : c = 1 := by
              rcases HK3.out with ⟨_, h⟩ | ⟨h, _⟩
              · exact h
              · exact absurd (HR.out.2 h) (by simp)
            clear HK3
            go_wp2
            go_ret
            exact ⟨rfl, HB5.out⟩
          have hmr : MRise K T := HR.out.1 rfl
          have HM := Lib.hid (show ∀ i j, i < j → j < K → (T i).at_ < (T j).at_ from fun i j => rise_lt hmr j i)
          rcases HK3.out with ⟨h, _⟩ | ⟨_, hk⟩
          · exact absurd hmr h
          have HK4 := Lib.hid hk
          clear HK3 hk hmr HR
          have c0 := X6.out.at 0 rfl; have c1 := X6.out.at 1 rfl; have c2 := X6.out.at 2 rfl; have c3 := X6.out.at 3 rfl; have c4 := X6.out.at 4 rfl; have lX := X6.out.1
          obtain ⟨r, hr9⟩ : ∃ r : Bool, r = true ↔ ¬ MLead M S K T := by
            by_cases h : MLead M S K T
            · exact ⟨false, by simp [h]⟩
            · exact ⟨true, by simp [h]⟩
          have HR := Lib.hid hr9
          clear hr9
          go_wp2_with fail
          refine (leadsAstray_any te qu ha sa M kc S na K nc T r _ P6.out G6.out (by omega) (by omega) HM.out HND.out HR.out).mono ?_
          rintro e w6 ⟨rfl, hb⟩
          have HB6 := Lib.hid (thru0 HB5.out hb)
          have X7 := Lib.hid (X6.out.below hb); have P7 := Lib.hid (P6.out.below hb)
          clear hb X6 P6 G6 HB5 c0 c1 c2 c3 c4 lX
          cases r
          · have hml : MLead M S K T := by
              by_cases h : MLead M S K T
              · exact h
              · exact absurd (HR.out.2 h) (by simp)
            rcases HK4.out with ⟨h, _⟩ | ⟨_, hk⟩
            · exact absurd hml h
            have HK5 := Lib.hid hk
            clear HK4 hk hml HR
            have c3 := X7.out.at 3 rfl; have lX := X7.out.1
            obtain ⟨r, hr9⟩ : ∃ r : Bool, r = true ↔ ¬ MGive M S := by
              by_cases h : MGive M S
              · exact ⟨false, by simp [h]⟩
              · exact ⟨true, by simp [h]⟩
            have HR := Lib.hid hr9
            clear hr9
            go_wp2_with fail
            refine (containsS_any sa M kc S r _ P7.out (by omega) HR.out).mono ?_
            rintro e w7 ⟨rfl, hb⟩
            have HB7 := Lib.hid (thru0 HB6.out hb)
            clear hb c3 lX
            cases r
            · obtain rfl : c = 0 := by
                rcases HK5.out with ⟨h, _⟩ | ⟨_, h⟩
                · exact absurd (HR.out.2 h) (by simp)
                · exact h
              clear HK5
              go_wp2
              go_ret
              exact ⟨rfl, HB7.out⟩
            · obtain rfl : c = 8 := by
                rcases HK5.out with ⟨_, h⟩ | ⟨h, _⟩
                · exact h
                · exact absurd h (HR.out.1 rfl)
              clear HK5
              go_wp2
              go_ret
              exact ⟨rfl, HB7.out⟩
          · obtain rfl : c = 4 := by
              rcases HK4.out with ⟨_, h⟩ | ⟨h, _⟩
              · exact h
              · exact absurd h (HR.out.1 rfl)
            clear HK4
            go_wp2
            go_ret
            exact ⟨rfl, HB6.out⟩
end Go.Proofs.Ytbhjmomphajnnaa

namespace Go.Proofs.Ytbhjmomphajnnaa
open Go.ChangeShapes Go.WideShapes Go.ChangeAt Go.RowKit Go.Joins Go.Deep
set_option linter.unusedVariables false

instance : Inhabited SL := ⟨⟨0, 0⟩⟩
end Go.Proofs.Ytbhjmomphajnnaa

namespace Go.Proofs.Ytbhjmomphajnnaa
open Go.RowKit
set_option linter.unusedVariables false

/-- A row of slots that nothing was given of. -/
def zS : Nat → SL := fun _ => ⟨0, 0⟩

/-- How many slots are made. -/
def nSl (x : Int) : Nat := (min (max x 0) 9).toNat

theorem nSl_le (x : Int) : nSl x ≤ 9 := by unfold nSl; omega

/-- A new machine, or a code. -/
def RetNM (W : World) (c te qu : Int) (n : Nat) (e : Ending) (w' : World) : Prop :=
  ∃ sa kc, e = .returned (.agg #[.int .i64 c, .int .i64 te, .int .i64 qu, .int .i64 0, .slice sa n kc, .slice none 0 0]) ∧ PVO w' W.heap.size w'.heap.size sa n zS ∧ Below W.heap.size W w'

theorem lmax_is (x y z : Int) (w : World) (hz : z = if y < x then x else y) : Calls Try.prog 151 #[.int .i64 x, .int .i64 y] w fun e w' => e = .returned (.int .i64 z) ∧ w = w' := by
  by_cases h : y < x
  · rw [if_pos h] at hz
    subst hz
    go_enter Try.func151, Try.ntmps151
    go_wp2
    go_ret
    exact ⟨rfl, rfl⟩
  · rw [if_neg h] at hz
    subst hz
    go_enter Try.func151, Try.ntmps151
    go_wp2
    go_ret
    exact ⟨rfl, rfl⟩

theorem lmin_is (x y z : Int) (w : World) (hz : z = if x < y then x else y) : Calls Try.prog 150 #[.int .i64 x, .int .i64 y] w fun e w' => e = .returned (.int .i64 z) ∧ w = w' := by
  by_cases h : x < y
  · rw [if_pos h] at hz
    subst hz
    go_enter Try.func150, Try.ntmps150
    go_wp2
    go_ret
    exact ⟨rfl, rfl⟩
  · rw [if_neg h] at hz
    subst hz
    go_enter Try.func150, Try.ntmps150
    go_wp2
    go_ret
    exact ⟨rfl, rfl⟩

set_option maxRecDepth 100000 in
set_option maxHeartbeats 1600000 in
theorem l5New_any (te qu x : Int) (w : World) (hx : I64 x) :
    Calls Try.prog 85 #[.int .i64 te, .int .i64 qu, .int .i64 x] w fun e w' => ∃ sa kc, e = .returned (.agg #[.int .i64 te, .int .i64 qu, .int .i64 0, .slice sa (nSl x) kc, .slice none 0 0]) ∧ PVO w' w.heap.size w'.heap.size sa (nSl x) zS ∧ Below w.heap.size w w' := by
  obtain ⟨i0, hi, hz0, hz1, hz2⟩ := info_parts Try.infoSL
  obtain ⟨hx1, hx2⟩ := hx
  go_enter Try.func85, Try.ntmps85
  have hn9 := nSl_le x
  obtain ⟨N, hN⟩ : ∃ N, nSl x = N := ⟨_, rfl⟩
  obtain ⟨a1, ha1⟩ : ∃ a1, a1 = if 0 < x then x else 0 := ⟨_, rfl⟩
  have hNv : (N : Int) = if a1 < 9 then a1 else 9 := by
    rw [← hN, ha1]; unfold nSl; split <;> split <;> omega
  have HNV := Lib.hid hNv; have HA1 := Lib.hid ha1
  rw [hN] at hn9 ⊢
  clear hN hNv ha1
  have HB0 := Lib.hid ((Below.refl w.heap.size w).alloc (Nat.le_refl _) (.cells #[.int .i64 0, .int .i64 0, .int .i64 0, .slice none 0 0, .slice none 0 0] 54))
  have R_0 := Lib.hid (Blk.new_at (w := w) (cs := #[.int .i64 0, .int .i64 0, .int .i64 0, .slice none 0 0, .slice none 0 0]) (t := 54) w.heap.size rfl)
  go_wp2_with fail
  refine (lmax_is x 0 a1 _ HA1.out).mono ?_
  rintro e w' ⟨rfl, rfl⟩
  go_wp2_with fail
  refine (lmin_is a1 9 (N : Int) _ HNV.out).mono ?_
  rintro e w' ⟨rfl, rfl⟩
  generalize w.alloc (.cells #[.int .i64 0, .int .i64 0, .int .i64 0, .slice none 0 0, .slice none 0 0] 54) = w0 at *
  go_wp2_with (at_make; refine wpList_make_full _ rfl _ _ 51 rfl w0.heap.size 147 i0 (.agg #[.int .i64 0, .int .i64 0]) 2 Try.underlyingRSL hi hz0 hz1 .i64 .i64 N N N rfl rfl rfl rfl (by rw [hz2]; omega) (by unfold maxLen; omega) (Nat.le_refl _) ?_; intro w1 hown1 hgrow1; have hb1 : Below w0.heap.size w0 w1 := ((Below.refl _ _).grown hgrow1 (Nat.le_refl _) (by intro k hk; simp at hk)); have R_1 := Lib.hid (R_0.out.below hb1); have r0 := R_1.out.at 0 rfl; have f0 := R_1.out.free 0 rfl; have r1 := R_1.out.at 1 rfl; have f1 := R_1.out.free 1 rfl; have r2 := R_1.out.at 2 rfl; have f2 := R_1.out.free 2 rfl; have r3 := R_1.out.at 3 rfl; have f3 := R_1.out.free 3 rfl; have r4 := R_1.out.at 4 rfl; have f4 := R_1.out.free 4 rfl; have lR := R_1.out.1)
  have HB1 := Lib.hid (HB0.out.trans (hb1.mono HB0.out.size))
  have hpo : PVO w1 w0.heap.size w1.heap.size (some ⟨w0.heap.size, 0, none⟩) N zS := by
    rcases Nat.eq_zero_or_pos N with h0 | hp
    · exact .inl h0
    · exact .inr ⟨w0.heap.size, 0, rfl, pown_made (b := w0.heap.size) (lo := w0.heap.size) hown1 (Nat.le_refl _) hp⟩
  have HPO := Lib.hid hpo
  have z0 := R_0.out.1
  have z1 := hb1.size
  clear hown1 hgrow1 hb1 hpo
  refine bodyPost_ret (v := .agg #[.int .i64 te, .int .i64 qu, .int .i64 0, .slice (some ⟨w0.heap.size, 0, none⟩) N N, .slice none 0 0]) (by simp [results, Try.results85, go_sem, r0, r1, r2, r3, r4]) rfl ⟨_, N, rfl, ?_, ?_⟩
  · refine (PVO.keeps (lo' := w.heap.size) (hi' := w.heap.size + 1) HPO.out ?_ (.inr (by omega))).widen (by omega) (by simp)
    repeat (refine Keeps.trans ?_ (keeps_setCell (by (try simp); (try omega)) (by (try simp); (try omega)) _))
    exact Keeps.refl _ _ _
  · repeat (with_reducible refine Below.setCell ?_ (by (try simp); (try omega)) _)
    exact HB1.out

/-- What NewMachine answers. -/
def IsNM (te qu x c te' qu' : Int) (n' : Nat) : Prop := IsMF te qu 0 (nSl x) zS 0 (fun _ => gzero) c ∧ ((c = 0 ∧ te' = te ∧ qu' = qu ∧ n' = nSl x) ∨ (¬ c = 0 ∧ te' = 0 ∧ qu' = 0 ∧ n' = 0))

theorem isNM_some (te qu x : Int) : ∃ c te' qu' n', IsNM te qu x c te' qu' n' := by
  obtain ⟨c, hc⟩ := isMF_some te qu 0 (nSl x) zS 0 (fun _ => gzero)
  by_cases h : c = 0
  · exact ⟨c, te, qu, nSl x, hc, .inl ⟨h, rfl, rfl, rfl⟩⟩
  · exact ⟨c, 0, 0, 0, hc, .inr ⟨h, rfl, rfl, rfl⟩⟩

set_option maxRecDepth 100000 in
set_option maxHeartbeats 1600000 in
theorem specNM_any (te qu x c te' qu' : Int) (n' : Nat) (w : World) (hx : I64 x) (hk : IsNM te qu x c te' qu' n') :
    Calls Try.prog 28 #[.int .i64 te, .int .i64 qu, .int .i64 x] w (RetNM w c te' qu' n') := by
  obtain ⟨hc, hk⟩ := hk
  have HC := Lib.hid hc; have HK := Lib.hid hk
  have hn9 := nSl_le x
  obtain ⟨N, hN⟩ : ∃ N, nSl x = N := ⟨_, rfl⟩
  have HN := Lib.hid hN
  rw [hN] at hn9
  clear hc hk hN
  go_enter Try.func28, Try.ntmps28
  go_wp2_with fail
  refine (l5New_any te qu x _ hx).mono ?_
  rintro e w1 ⟨sa, kc, rfl, ho, hb⟩
  rw [HN.out] at ho ⊢
  have HB1 := Lib.hid (thru1 (Below.refl w.heap.size w) hb)
  have R_1 := Lib.hid ((Blk.new_at (w := w) (cs := #[.int .i64 0, .int .i64 0, .int .i64 0, .int .i64 0, .slice none 0 0, .slice none 0 0]) (t := 56) w.heap.size rfl).below hb)
  have hz1 : w.heap.size + 1 ≤ w1.heap.size := by have := R_1.out.1; omega
  have HP1 := Lib.hid (ho.widen (lo' := w.heap.size + 1) (by simp) (Nat.le_refl _))
  clear hb ho
  have HB2 := Lib.hid (HB1.out.alloc HB1.out.size (.cells #[.int .i64 te, .int .i64 qu, .int .i64 0, .slice sa N kc, .slice none 0 0] 54))
  have R_2 := Lib.hid (R_1.out.alloc (.cells #[.int .i64 te, .int .i64 qu, .int .i64 0, .slice sa N kc, .slice none 0 0] 54))
  have M_2 := Lib.hid (Blk.new_at (w := w1) (cs := #[.int .i64 te, .int .i64 qu, .int .i64 0, .slice sa N kc, .slice none 0 0]) (t := 54) w1.heap.size rfl)
  have HP2 := Lib.hid (HP1.out.alloc (.cells #[.int .i64 te, .int .i64 qu, .int .i64 0, .slice sa N kc, .slice none 0 0] 54))
  go_wp2_with fail
  generalize w1.alloc (.cells #[.int .i64 te, .int .i64 qu, .int .i64 0, .slice sa N kc, .slice none 0 0] 54) = w2 at *
  refine (specMF_any te qu 0 sa N kc zS none 0 0 (fun _ => gzero) c _ HP2.out.src (.inl rfl) (by omega) (by omega) (fun i hi => by omega) (by have := HC.out; rwa [HN.out] at this)).mono ?_
  rintro e w3 ⟨rfl, hb⟩
  have HB3 := Lib.hid (thru0 HB2.out hb); have R_3 := Lib.hid (R_2.out.below hb); have M_3 := Lib.hid (M_2.out.below hb)
  have HPO := Lib.hid (HP2.out.below hb)
  have hsz : w1.heap.size ≤ w3.heap.size := by have := M_3.out.1; omega
  clear hb R_1 R_2 M_2 HB1 HB2 HP1 HP2
  have hz3 : w.heap.size + 1 ≤ w3.heap.size := by have := R_3.out.1; omega
  have r0 := R_3.out.at 0 rfl; have fr0 := R_3.out.free 0 rfl; have r1 := R_3.out.at 1 rfl; have fr1 := R_3.out.free 1 rfl; have r2 := R_3.out.at 2 rfl; have fr2 := R_3.out.free 2 rfl; have r3 := R_3.out.at 3 rfl; have fr3 := R_3.out.free 3 rfl; have r4 := R_3.out.at 4 rfl; have fr4 := R_3.out.free 4 rfl; have r5 := R_3.out.at 5 rfl; have fr5 := R_3.out.free 5 rfl; have lr := R_3.out.1
  have m0 := M_3.out.at 0 rfl; have fm0 := M_3.out.free 0 rfl; have m1 := M_3.out.at 1 rfl; have fm1 := M_3.out.free 1 rfl; have m2 := M_3.out.at 2 rfl; have fm2 := M_3.out.free 2 rfl; have m3 := M_3.out.at 3 rfl; have fm3 := M_3.out.free 3 rfl; have m4 := M_3.out.at 4 rfl; have fm4 := M_3.out.free 4 rfl; have lm := M_3.out.1
  by_cases h0 : c = 0
  · obtain ⟨k1, k2, k3⟩ : te' = te ∧ qu' = qu ∧ n' = N := by
      rcases HK.out with ⟨_, k1, k2, k3⟩ | ⟨k, _⟩
      · exact ⟨k1, k2, k3.trans HN.out⟩
      · exact absurd h0 k
    subst k1 k2 k3 h0
    go_wp2
    refine bodyPost_ret (v := .agg #[.int .i64 0, .int .i64 te', .int .i64 qu', .int .i64 0, .slice sa n' kc, .slice none 0 0]) (by simp [results, Try.results28, go_sem, r0, r1, r2, r3, r4, r5]) rfl ⟨sa, kc, rfl, ?_, ?_⟩
    · refine (PVO.keeps (lo' := w.heap.size) (hi' := w.heap.size + 1) HPO.out ?_ (.inr (by omega))).widen (by omega) (by simp; try omega)
      repeat (first | (refine Keeps.trans ?_ (keeps_setCell (by (try simp); (try omega)) (by (try simp); (try omega)) _)) | (refine Keeps.trans ?_ (keeps_of_below ((Below.refl _ _).alloc (Nat.le_refl _) _) _ _)))
      exact Keeps.refl _ _ _
    · repeat (first | (with_reducible refine Below.setCell ?_ (by (try simp); (try omega)) _) | (with_reducible refine Below.alloc ?_ (by (try simp); (try omega)) _) | (with_reducible refine Below.drew ?_))
      exact HB3.out
  · obtain ⟨k1, k2, k3⟩ : te' = 0 ∧ qu' = 0 ∧ n' = 0 := by
      rcases HK.out with ⟨k, _⟩ | ⟨_, k1, k2, k3⟩
      · exact absurd k h0
      · exact ⟨k1, k2, k3⟩
    subst k1 k2 k3
    have h0' : (c != 0) = true := by simpa using h0
    clear h0
    go_wp2
    refine bodyPost_ret (v := .agg #[.int .i64 c, .int .i64 0, .int .i64 0, .int .i64 0, .slice none 0 0, .slice none 0 0]) (by simp [results, Try.results28, go_sem, r0, r1, r2, r3, r4, r5]) rfl ⟨none, 0, rfl, ?_, ?_⟩
    · exact .inl rfl
    · repeat (first | (with_reducible refine Below.setCell ?_ (by (try simp); (try omega)) _) | (with_reducible refine Below.alloc ?_ (by (try simp); (try omega)) _) | (with_reducible refine Below.drew ?_))
      exact HB3.out

set_option maxRecDepth 100000 in
set_option maxHeartbeats 1600000 in
theorem implNM_any (te qu x c te' qu' : Int) (n' : Nat) (w : World) (hx : I64 x) (hk : IsNM te qu x c te' qu' n') :
    Calls Try.prog 25 #[.int .i64 te, .int .i64 qu, .int .i64 x] w (RetNM w c te' qu' n') := by
  obtain ⟨i0, hi, hz0, hz1, hz2⟩ := info_parts Try.infoSL
  obtain ⟨hx1, hx2⟩ := hx
  go_enter Try.func25, Try.ntmps25
  obtain ⟨hc, hk⟩ := hk
  have HC := Lib.hid hc; have HK := Lib.hid hk
  have hn9 := nSl_le x
  obtain ⟨N, hN⟩ : ∃ N, nSl x = N := ⟨_, rfl⟩
  have HN := Lib.hid hN
  rw [hN] at hn9
  have hnv : min (max x 0) 9 = (N : Int) := by rw [← hN]; unfold nSl; omega
  clear hc hk hN
  have HB0 := Lib.hid ((Below.refl w.heap.size w).alloc (Nat.le_refl _) (.cells #[.int .i64 0, .int .i64 0, .int .i64 0, .int .i64 0, .slice none 0 0, .slice none 0 0] 56))
  have R_0 := Lib.hid (Blk.new_at (w := w) (cs := #[.int .i64 0, .int .i64 0, .int .i64 0, .int .i64 0, .slice none 0 0, .slice none 0 0]) (t := 56) w.heap.size rfl)
  have lR0 := R_0.out.1
  generalize hw0 : w.alloc (.cells #[.int .i64 0, .int .i64 0, .int .i64 0, .int .i64 0, .slice none 0 0, .slice none 0 0] 56) = w0 at *
  go_wp2_with (at_make; refine wpList_make_full _ rfl _ _ 51 rfl w0.heap.size 147 i0 (.agg #[.int .i64 0, .int .i64 0]) 2 Try.underlyingRSL hi hz0 hz1 .i64 .i64 N N N rfl rfl rfl rfl (by rw [hz2]; omega) (by unfold maxLen; omega) (Nat.le_refl _) ?_; intro w1 hown1 hgrow1)
  have hb1 : Below w0.heap.size w0 w1 := (Below.refl _ _).grown hgrow1 (Nat.le_refl _) (by intro k hk; simp at hk)
  have HB1 := Lib.hid (HB0.out.trans (hb1.mono HB0.out.size))
  have R_1 := Lib.hid (R_0.out.below hb1)
  have hpo : PVO w1 w0.heap.size w1.heap.size (some ⟨w0.heap.size, 0, none⟩) N zS := by
    rcases Nat.eq_zero_or_pos N with h0 | hp
    · exact .inl h0
    · exact .inr ⟨w0.heap.size, 0, rfl, pown_made (b := w0.heap.size) (lo := w0.heap.size) hown1 (Nat.le_refl _) hp⟩
  have hz1 : w0.heap.size ≤ w1.heap.size := hb1.size
  have HP1 := Lib.hid (hpo.widen (lo' := w.heap.size + 1) (by omega) (Nat.le_refl _))
  clear hown1 hgrow1 hb1 hpo
  have HB2 := Lib.hid (HB1.out.alloc HB1.out.size (.cells #[.int .i64 te, .int .i64 qu, .int .i64 0, .slice (some ⟨w0.heap.size, 0, none⟩) N N, .slice none 0 0] 54))
  have R_2 := Lib.hid (R_1.out.alloc (.cells #[.int .i64 te, .int .i64 qu, .int .i64 0, .slice (some ⟨w0.heap.size, 0, none⟩) N N, .slice none 0 0] 54))
  have M_2 := Lib.hid (Blk.new_at (w := w1) (cs := #[.int .i64 te, .int .i64 qu, .int .i64 0, .slice (some ⟨w0.heap.size, 0, none⟩) N N, .slice none 0 0]) (t := 54) w1.heap.size rfl)
  have HP2 := Lib.hid (HP1.out.alloc (.cells #[.int .i64 te, .int .i64 qu, .int .i64 0, .slice (some ⟨w0.heap.size, 0, none⟩) N N, .slice none 0 0] 54))
  generalize w1.alloc (.cells #[.int .i64 te, .int .i64 qu, .int .i64 0, .slice (some ⟨w0.heap.size, 0, none⟩) N N, .slice none 0 0] 54) = w2 at *
  generalize w0.heap.size = B0 at *
  refine (implMF_any te qu 0 (some ⟨B0, 0, none⟩) N N zS none 0 0 (fun _ => gzero) c _ HP2.out.src (.inl rfl) (by omega) (by omega) (fun i hi => by omega) (by have := HC.out; rwa [HN.out] at this)).mono ?_
  rintro e w3 ⟨rfl, hb⟩
  have HB3 := Lib.hid (thru0 HB2.out hb); have R_3 := Lib.hid (R_2.out.below hb); have M_3 := Lib.hid (M_2.out.below hb)
  have HPO := Lib.hid (HP2.out.below hb)
  have hsz : w1.heap.size ≤ w3.heap.size := by have := M_3.out.1; omega
  clear hb R_1 R_2 M_2 HB1 HB2 HP1 HP2 hnv
  have hz3 : w.heap.size + 1 ≤ w3.heap.size := by have := R_3.out.1; omega
  have r0 := R_3.out.at 0 rfl; have fr0 := R_3.out.free 0 rfl; have r1 := R_3.out.at 1 rfl; have fr1 := R_3.out.free 1 rfl; have r2 := R_3.out.at 2 rfl; have fr2 := R_3.out.free 2 rfl; have r3 := R_3.out.at 3 rfl; have fr3 := R_3.out.free 3 rfl; have r4 := R_3.out.at 4 rfl; have fr4 := R_3.out.free 4 rfl; have r5 := R_3.out.at 5 rfl; have fr5 := R_3.out.free 5 rfl; have lr := R_3.out.1
  have m0 := M_3.out.at 0 rfl; have fm0 := M_3.out.free 0 rfl; have m1 := M_3.out.at 1 rfl; have fm1 := M_3.out.free 1 rfl; have m2 := M_3.out.at 2 rfl; have fm2 := M_3.out.free 2 rfl; have m3 := M_3.out.at 3 rfl; have fm3 := M_3.out.free 3 rfl; have m4 := M_3.out.at 4 rfl; have fm4 := M_3.out.free 4 rfl; have lm := M_3.out.1
  by_cases h0 : c = 0
  · obtain ⟨k1, k2, k3⟩ : te' = te ∧ qu' = qu ∧ n' = N := by
      rcases HK.out with ⟨_, k1, k2, k3⟩ | ⟨k, _⟩
      · exact ⟨k1, k2, k3.trans HN.out⟩
      · exact absurd h0 k
    subst k1 k2 k3 h0
    go_wp2
    refine bodyPost_ret (v := .agg #[.int .i64 0, .int .i64 te', .int .i64 qu', .int .i64 0, .slice (some ⟨B0, 0, none⟩) n' n', .slice none 0 0]) (by simp [results, Try.results25, go_sem, r0, r1, r2, r3, r4, r5]) rfl ⟨(some ⟨B0, 0, none⟩), n', rfl, ?_, ?_⟩
    · refine (PVO.keeps (lo' := w.heap.size) (hi' := w.heap.size + 1) HPO.out ?_ (.inr (by omega))).widen (by omega) (by simp; try omega)
      repeat (first | (refine Keeps.trans ?_ (keeps_setCell (by (try simp); (try omega)) (by (try simp); (try omega)) _)) | (refine Keeps.trans ?_ (keeps_of_below ((Below.refl _ _).alloc (Nat.le_refl _) _) _ _)))
      exact Keeps.refl _ _ _
    · repeat (first | (with_reducible refine Below.setCell ?_ (by (try simp); (try omega)) _) | (with_reducible refine Below.alloc ?_ (by (try simp); (try omega)) _) | (with_reducible refine Below.drew ?_))
      exact HB3.out
  · obtain ⟨k1, k2, k3⟩ : te' = 0 ∧ qu' = 0 ∧ n' = 0 := by
      rcases HK.out with ⟨k, _⟩ | ⟨_, k1, k2, k3⟩
      · exact absurd k h0
      · exact ⟨k1, k2, k3⟩
    subst k1 k2 k3
    have h0' : (c != 0) = true := by simpa using h0
    clear h0
    go_wp2
    refine bodyPost_ret (v := .agg #[.int .i64 c, .int .i64 0, .int .i64 0, .int .i64 0, .slice none 0 0, .slice none 0 0]) (by simp [results, Try.results25, go_sem, r0, r1, r2, r3, r4, r5]) rfl ⟨none, 0, rfl, ?_, ?_⟩
    · exact .inl rfl
    · repeat (first | (with_reducible refine Below.setCell ?_ (by (try simp); (try omega)) _) | (with_reducible refine Below.alloc ?_ (by (try simp); (try omega)) _) | (with_reducible refine Below.drew ?_))
      exact HB3.out
end Go.Proofs.Ytbhjmomphajnnaa

namespace Go.Proofs.Ytbhjmomphajnnaa
open Go.RowKit
set_option linter.unusedVariables false

/-- The first place of a node of this number, or how many there are. -/
def ixN (T : Nat → GM) (x : Int) : Nat → Nat
  | 0 => 0
  | K + 1 => if ixN T x K < K then ixN T x K else if (T K).at_ = x then K else K + 1

theorem ixN_at {T : Nat → GM} {x : Int} : ∀ {K : Nat}, ixN T x K < K → (T (ixN T x K)).at_ = x
  | 0, h => absurd h (Nat.not_lt_zero _)
  | K + 1, h => by
    by_cases h1 : ixN T x K < K
    · rw [ixN, if_pos h1]; exact ixN_at h1
    · by_cases h2 : (T K).at_ = x
      · rw [ixN, if_neg h1, if_pos h2]; exact h2
      · rw [ixN, if_neg h1, if_neg h2] at h; omega

theorem ixN_has {T : Nat → GM} {x : Int} : ∀ {K : Nat}, Has K T x → ixN T x K < K
  | 0, ⟨j, hj, _⟩ => absurd hj (Nat.not_lt_zero _)
  | K + 1, ⟨j, hj, he⟩ => by
    by_cases h1 : ixN T x K < K
    · rw [ixN, if_pos h1]; omega
    · by_cases h2 : (T K).at_ = x
      · rw [ixN, if_neg h1, if_pos h2]; omega
      · rcases Nat.lt_succ_iff_lt_or_eq.mp hj with h | h
        · exact absurd (ixN_has ⟨j, h, he⟩) h1
        · subst h; exact absurd he h2

theorem ixN_eq {K : Nat} {T : Nat → GM} (hr : MRise K T) {i : Nat} (hi : i < K) {x : Int} (he : (T i).at_ = x) : ixN T x K = i := by
  have h1 := ixN_has (T := T) (x := x) (K := K) ⟨i, hi, he⟩
  have h2 := ixN_at h1
  rcases Nat.lt_trichotomy (ixN T x K) i with h | h | h
  · have := rise_lt hr i _ h hi; omega
  · exact h
  · have := rise_lt hr _ i h h1; omega

/-- What of a list is not 0. -/
def nz (l : List Int) : List Int := l.filter (fun x => decide (¬ x = 0))

theorem mem_nz {l : List Int} {x : Int} : x ∈ nz l ↔ x ∈ l ∧ ¬ x = 0 := by simp [nz]

def add1z (O : List Int) (p : Int) : List Int := if p = 0 then O else add1 O p

theorem addz_snoc (O l : List Int) (p : Int) : addNew O (nz (l ++ [p])) = add1z (addNew O (nz l)) p := by
  unfold nz
  rw [List.filter_append, addNew_append]
  by_cases h : p = 0
  · simp [add1z, h, addNew]
  · simp [add1z, h, addNew, add1]

theorem addz_take {l : List Int} {i : Nat} (h : i < l.length) (O : List Int) : addNew O (nz (l.take (i + 1))) = add1z (addNew O (nz (l.take i))) (lf l i) := by
  rw [List.take_succ_eq_append_getElem h, addz_snoc, lf_at h]

/-- The numbers of the slots' nodes. -/
def slotL (M : Nat) (S : Nat → SL) : List Int := (List.range M).map fun i => (S i).nd

theorem slotL_len (M : Nat) (S : Nat → SL) : (slotL M S).length = M := by simp [slotL]

theorem slotL_lf {M : Nat} {S : Nat → SL} {i : Nat} (h : i < M) : lf (slotL M S) i = (S i).nd := by
  rw [lf_at (by rw [slotL_len]; exact h)]; simp [slotL]

theorem mem_slotL {M : Nat} {S : Nat → SL} {x : Int} : x ∈ slotL M S ↔ ∃ i, i < M ∧ (S i).nd = x := by simp [slotL]

/-- The node of a number. -/
def nodeM (K : Nat) (T : Nat → GM) (x : Int) : GM := T (ixN T x K)

/-- Where the pointers of the node of a number lead. -/
def ptrM (K : Nat) (T : Nat → GM) (x : Int) : List Int := nz (ptL (nodeM K T x) (nodeM K T x).n)

def idsM (K : Nat) (T : Nat → GM) : List Int := (List.range K).map fun i => (T i).at_

theorem idsM_len (K : Nat) (T : Nat → GM) : (idsM K T).length = K := by simp [idsM]

theorem mem_idsM {K : Nat} {T : Nat → GM} {x : Int} : x ∈ idsM K T ↔ Has K T x := by simp [idsM, Has]

/-- What is reached from the slots. -/
def reachM (M : Nat) (S : Nat → SL) (K : Nat) (T : Nat → GM) : List Int := reachL (ptrM K T) K (nz (slotL M S))

theorem nodeM_at {K : Nat} {T : Nat → GM} {x : Int} (h : Has K T x) : (nodeM K T x).at_ = x ∧ ∃ i, i < K ∧ nodeM K T x = T i := ⟨ixN_at (ixN_has h), _, ixN_has h, rfl⟩

theorem ptrM_sub {M : Nat} {S : Nat → SL} {K : Nat} {T : Nat → GM} (h : MLead M S K T) : ∀ x ∈ idsM K T, ∀ y ∈ ptrM K T x, y ∈ idsM K T := fun x hx y hy => by
  obtain ⟨hy1, hy0⟩ := mem_nz.1 hy
  obtain ⟨_, i, hi, he⟩ := nodeM_at (mem_idsM.1 hx)
  rw [he] at hy1
  obtain ⟨k, hk, hp, rfl⟩ := mem_ptL.1 hy1
  exact mem_idsM.2 ((h.2 i hi k hk hp).resolve_left hy0)

theorem slotM_sub {M : Nat} {S : Nat → SL} {K : Nat} {T : Nat → GM} (h : MLead M S K T) : ∀ x ∈ nz (slotL M S), x ∈ idsM K T := fun x hx => by
  obtain ⟨h1, h0⟩ := mem_nz.1 hx
  obtain ⟨i, hi, rfl⟩ := mem_slotL.1 h1
  exact mem_idsM.2 ((h.1 i hi).resolve_left h0)

section

variable {M : Nat} {S : Nat → SL} {K : Nat} {T : Nat → GM} {i : Nat} {O : List Int}

theorem reachM_has (h : MLead M S K T) {x : Int} (hx : x ∈ reachM M S K T) : Has K T x := mem_idsM.1 (reachL_sub _ _ _ _ (ptrM_sub h) (slotM_sub h) x hx)

theorem reachM_nodup (M : Nat) (S : Nat → SL) (K : Nat) (T : Nat → GM) : (reachM M S K T).Nodup := reachL_nodup _ _ _

theorem reachM_len (h : MLead M S K T) : (reachM M S K T).length ≤ K := by
  have := nodup_length (reachM_nodup M S K T) (U := idsM K T) (fun x hx => mem_idsM.2 (reachM_has h hx))
  rwa [idsM_len] at this

/-- The scan: the places from i on are still to be looked at. -/
structure MC (M : Nat) (S : Nat → SL) (K : Nat) (T : Nat → GM) (i : Nat) (O : List Int) : Prop where
  nd : O.Nodup
  sub : ∀ p ∈ O, Has K T p
  le : i ≤ O.length
  all : reachM M S K T = scanF (ptrM K T) (K - i) i O

theorem mc_start (h : MLead M S K T) : MC M S K T 0 (addNew [] (nz (slotL M S))) :=
  ⟨nodup_addNew _ _ List.nodup_nil, fun p hp => mem_idsM.1 (addNew_sub (slotM_sub h) p hp), Nat.zero_le _, rfl⟩

theorem mc_len (h : MC M S K T i O) : O.length ≤ K := by
  have := nodup_length h.nd (U := idsM K T) (fun x hx => mem_idsM.2 (h.sub x hx))
  rwa [idsM_len] at this

theorem mc_step (hl : MLead M S K T) (h : MC M S K T i O) (hi : i < O.length) : MC M S K T (i + 1) (addNew O (ptrM K T (lf O i))) := by
  have hK := mc_len h
  refine ⟨nodup_addNew _ _ h.nd, fun p hp => ?_, ?_, ?_⟩
  · rcases (mem_addNew _ _ _).1 hp with h1 | h1
    · exact h.sub p h1
    · exact mem_idsM.1 (ptrM_sub hl _ (mem_idsM.2 (h.sub _ (lf_mem hi))) _ h1)
  · have := (addNew_prefix (ptrM K T (lf O i)) O).length_le
    omega
  · rw [h.all, show K - i = (K - (i + 1)) + 1 by omega, scanF, if_pos hi]
    rfl

theorem mc_done (h : MC M S K T i O) (hi : ¬ i < O.length) : reachM M S K T = O := by rw [h.all, scanF_stop hi]

/-- Within a node: the first pointers have been looked at. -/
theorem mc_in_sub (hl : MLead M S K T) (h : MC M S K T i O) (hi : i < O.length) (k : Nat) : ∀ p ∈ addNew O (nz ((ptL (nodeM K T (lf O i)) (nodeM K T (lf O i)).n).take k)), Has K T p := fun p hp => by
  rcases (mem_addNew _ _ _).1 hp with h1 | h1
  · exact h.sub p h1
  · refine mem_idsM.1 (ptrM_sub hl (lf O i) (mem_idsM.2 (h.sub _ (lf_mem hi))) p ?_)
    obtain ⟨h2, h3⟩ := mem_nz.1 h1
    exact mem_nz.2 ⟨List.mem_of_mem_take h2, h3⟩

theorem mc_in_len (hl : MLead M S K T) (h : MC M S K T i O) (hi : i < O.length) (k : Nat) : (addNew O (nz ((ptL (nodeM K T (lf O i)) (nodeM K T (lf O i)).n).take k))).length ≤ K := by
  have := nodup_length (nodup_addNew (nz ((ptL (nodeM K T (lf O i)) (nodeM K T (lf O i)).n).take k)) O h.nd) (U := idsM K T) (fun x hx => mem_idsM.2 (mc_in_sub hl h hi k x hx))
  rwa [idsM_len] at this

end

/-- The number of a node, from 1 on; 0: it is none. -/
def nmM (R : List Int) (x : Int) : Int := numI R x + 1

theorem tab_nmM (R : List Int) (x : Int) : (tab R (fun i => (i : Int) + 1) x).getD 0 = nmM R x := by
  unfold tab nmM numI
  cases numL R x <;> simp

theorem nmM_zero {R : List Int} {x : Int} (h : x ∉ R) : nmM R x = 0 := by
  unfold nmM numI
  rw [numL_none.2 h]; rfl
end Go.Proofs.Ytbhjmomphajnnaa

namespace Go.Proofs.Ytbhjmomphajnnaa
open Go.RowKit
set_option linter.unusedVariables false

/-- A node, and what stands for it. -/
def NIso (φ : Int → Int) (t t' : GM) : Prop := t'.s = t.s ∧ t'.m = t.m ∧ t'.h = t.h ∧ t'.n = t.n ∧ ∀ k, k < t.n → t'.f k = if t.m / P2 (k : Int) % 2 = 1 then φ (t.f k) else t.f k

/-- Two machines that are alike over some nodes, from which nothing else is reached. -/
structure MIso (U : List Int) (φ : Int → Int) (M : Nat) (S : Nat → SL) (K : Nat) (T : Nat → GM) (S' : Nat → SL) (K' : Nat) (T' : Nat → GM) : Prop where
  nd : U.Nodup
  z : φ 0 = 0
  u0 : (0 : Int) ∉ U
  nz : ∀ x ∈ U, ¬ φ x = 0
  inj : ∀ x ∈ U, ∀ y ∈ U, φ x = φ y → x = y
  has : ∀ x ∈ U, Has K T x
  has' : ∀ x ∈ U, Has K' T' (φ x)
  slots : ∀ i, i < M → (S i).nd = 0 ∨ (S i).nd ∈ U
  slot : ∀ i, i < M → (S' i).g = (S i).g ∧ (S' i).nd = φ (S i).nd
  node : ∀ x ∈ U, NIso φ (nodeM K T x) (nodeM K' T' (φ x))
  clo : ∀ x ∈ U, ∀ k, k < (nodeM K T x).n → IsP (nodeM K T x) k → (nodeM K T x).f k = 0 ∨ (nodeM K T x).f k ∈ U

theorem nz_map {φ : Int → Int} (hz : φ 0 = 0) {l : List Int} (h : ∀ x ∈ l, ¬ x = 0 → ¬ φ x = 0) : nz (l.map φ) = (nz l).map φ := by
  induction l with
  | nil => rfl
  | cons x l ih =>
    have ih := ih fun y hy => h y (List.mem_cons_of_mem _ hy)
    unfold nz at ih ⊢
    by_cases h0 : x = 0
    · subst h0
      rw [List.map_cons, List.filter_cons_of_neg (by simp [hz]), List.filter_cons_of_neg (by simp)]
      exact ih
    · have h1 := h x (List.mem_cons_self ..) h0
      rw [List.map_cons, List.filter_cons_of_pos (by simp [h1]), List.filter_cons_of_pos (by simp [h0]), List.map_cons, ih]

theorem ptL_map {φ : Int → Int} {t t' : GM} (hm : t'.m = t.m) {n : Nat} (hf : ∀ k, k < n → t'.f k = if t.m / P2 (k : Int) % 2 = 1 then φ (t.f k) else t.f k) : ∀ k, k ≤ n → ptL t' k = (ptL t k).map φ
  | 0, _ => rfl
  | k + 1, hk => by
    have ih := ptL_map hm hf k (by omega)
    by_cases hp : t.m / P2 (k : Int) % 2 = 1
    · rw [ptL_yes hp, ptL_yes (by rw [hm]; exact hp), ih, hf k (by omega), if_pos hp]; simp
    · rw [ptL_no hp, ptL_no (by rw [hm]; exact hp), ih]

section

variable {U : List Int} {φ : Int → Int} {M : Nat} {S S' : Nat → SL} {K K' : Nat} {T T' : Nat → GM}

theorem MIso.ptr (h : MIso U φ M S K T S' K' T') : ∀ x ∈ U, ptrM K' T' (φ x) = (ptrM K T x).map φ := fun x hx => by
  obtain ⟨h1, h2, h3, h4, h5⟩ := h.node x hx
  unfold ptrM
  rw [h4, ptL_map h2 h5 _ (Nat.le_refl _)]
  refine nz_map h.z fun y hy h0 => ?_
  obtain ⟨k, hk, hp, rfl⟩ := mem_ptL.1 hy
  exact h.nz _ ((h.clo x hx k hk hp).resolve_left h0)

theorem MIso.sub (h : MIso U φ M S K T S' K' T') : ∀ x ∈ U, ∀ y ∈ ptrM K T x, y ∈ U := fun x hx y hy => by
  obtain ⟨h1, h0⟩ := mem_nz.1 hy
  obtain ⟨k, hk, hp, rfl⟩ := mem_ptL.1 h1
  exact (h.clo x hx k hk hp).resolve_left h0

theorem MIso.root (h : MIso U φ M S K T S' K' T') : ∀ x ∈ Go.Proofs.Ytbhjmomphajnnaa.nz (slotL M S), x ∈ U := fun x hx => by
  obtain ⟨h1, h0⟩ := mem_nz.1 hx
  obtain ⟨i, hi, rfl⟩ := mem_slotL.1 h1
  exact (h.slots i hi).resolve_left h0

theorem MIso.roots (h : MIso U φ M S K T S' K' T') : Go.Proofs.Ytbhjmomphajnnaa.nz (slotL M S') = (Go.Proofs.Ytbhjmomphajnnaa.nz (slotL M S)).map φ := by
  have e : slotL M S' = (slotL M S).map φ := by
    unfold slotL
    rw [List.map_map]
    refine List.map_congr_left fun i hi => ?_
    exact (h.slot i (List.mem_range.mp hi)).2
  rw [e]
  refine nz_map h.z fun x hx h0 => ?_
  obtain ⟨i, hi, rfl⟩ := mem_slotL.1 hx
  exact h.nz _ ((h.slots i hi).resolve_left h0)

theorem MIso.lenK (h : MIso U φ M S K T S' K' T') : U.length ≤ K := by
  have := nodup_length h.nd (U := idsM K T) (fun x hx => mem_idsM.2 (h.has x hx))
  rwa [idsM_len] at this

theorem nodup_map_on {φ : Int → Int} {l : List Int} (hn : l.Nodup) (hi : ∀ x ∈ l, ∀ y ∈ l, φ x = φ y → x = y) : (l.map φ).Nodup := by
  induction l with
  | nil => simp
  | cons x l ih =>
    obtain ⟨h1, h2⟩ := List.nodup_cons.mp hn
    rw [List.map_cons, List.nodup_cons]
    refine ⟨fun hm => ?_, ih h2 fun a ha b hb => hi a (List.mem_cons_of_mem _ ha) b (List.mem_cons_of_mem _ hb)⟩
    obtain ⟨y, hy, he⟩ := List.mem_map.mp hm
    have := hi y (List.mem_cons_of_mem _ hy) x (List.mem_cons_self ..) he
    subst this
    exact h1 hy

theorem MIso.lenK' (h : MIso U φ M S K T S' K' T') : U.length ≤ K' := by
  have := nodup_length (nodup_map_on h.nd h.inj) (U := idsM K' T') (fun x hx => by
    obtain ⟨y, hy, rfl⟩ := List.mem_map.mp hx
    exact mem_idsM.2 (h.has' y hy))
  rwa [idsM_len, List.length_map] at this

theorem MIso.reachU (h : MIso U φ M S K T S' K' T') : ∀ x ∈ reachM M S K T, x ∈ U := reachL_sub _ _ _ _ h.sub h.root

theorem MIso.reach (h : MIso U φ M S K T S' K' T') : reachM M S' K' T' = (reachM M S K T).map φ := by
  have e1 : reachM M S' K' T' = reachL (ptrM K' T') K (Go.Proofs.Ytbhjmomphajnnaa.nz (slotL M S')) := by
    unfold reachM reachL
    refine scanF_fuel _ (U.map φ) (fun x hx y hy => ?_) _ _ _ _ (nodup_addNew _ _ List.nodup_nil) (addNew_sub fun x hx => ?_) ?_ ?_
    · obtain ⟨z, hz, rfl⟩ := List.mem_map.mp hx
      rw [h.ptr z hz] at hy
      obtain ⟨v, hv, rfl⟩ := List.mem_map.mp hy
      exact List.mem_map_of_mem (h.sub z hz v hv)
    · rw [h.roots] at hx
      obtain ⟨v, hv, rfl⟩ := List.mem_map.mp hx
      exact List.mem_map_of_mem (h.root v hv)
    · rw [List.length_map]; have := h.lenK'; omega
    · rw [List.length_map]; have := h.lenK; omega
  rw [e1, h.roots]
  exact reachL_map (ptrM K T) (ptrM K' T') φ K U _ h.sub h.inj h.ptr h.root

theorem MIso.num (h : MIso U φ M S K T S' K' T') {x : Int} (hx : x = 0 ∨ x ∈ U) : nmM (reachM M S' K' T') (φ x) = nmM (reachM M S K T) x := by
  have hR := h.reachU
  have hn := reachM_nodup M S K T
  rw [h.reach]
  generalize reachM M S K T = R at *
  by_cases hm : x ∈ R
  · unfold nmM numI
    rw [numL_map φ hn (nodup_map_on hn fun a ha b hb => h.inj a (hR a ha) b (hR b hb)) hm]
  · rw [nmM_zero hm, nmM_zero]
    intro hc
    obtain ⟨y, hy, he⟩ := List.mem_map.mp hc
    rcases hx with rfl | hx
    · rw [h.z] at he; exact h.nz y (hR y hy) he
    · have := h.inj y (hR y hy) x hx he
      subst this
      exact hm hy

end

theorem nmM_in {R : List Int} {x : Int} (h : x ∈ R) : ∃ j, j < R.length ∧ nmM R x = (j : Int) + 1 ∧ lf R j = x := by
  obtain ⟨j, h1, h2, h3⟩ := numL_some h
  exact ⟨j, h2, by unfold nmM numI; rw [h1], h3⟩
end Go.Proofs.Ytbhjmomphajnnaa

namespace Go.Proofs.Ytbhjmomphajnnaa
open Go.RowKit
set_option linter.unusedVariables false

section

variable {U : List Int} {φ : Int → Int} {M : Nat} {S S' : Nat → SL} {K K' : Nat} {T T' : Nat → GM}

end

/-- A machine that can be tidied. -/
structure MWk (M : Nat) (S : Nat → SL) (K : Nat) (T : Nat → GM) : Prop where
  node : ∀ i, i < K → 1 ≤ (T i).at_ ∧ HOk (T i).s (T i).m 0 (T i).h ∧ ((T i).n : Int) = (T i).s
  rise : MRise K T
  lead : MLead M S K T

theorem MOk.wk {te qu ha : Int} {M : Nat} {S : Nat → SL} {K : Nat} {T : Nat → GM} (h : MOk te qu ha M S K T) : MWk M S K T :=
  ⟨fun i hi => ⟨(isNode_zero (h.node i hi)).1.1.1, (isNode_zero (h.node i hi)).1.2, (isNode_zero (h.node i hi)).2.1⟩, h.rise, h.lead⟩

section

variable {M : Nat} {S : Nat → SL} {K : Nat} {T : Nat → GM}

end

/-- How many words all that is reached has. -/
def wordsM (K : Nat) (T : Nat → GM) : List Int → Int
  | [] => 0
  | x :: xs => (nodeM K T x).s + 2 + wordsM K T xs

theorem wordsM_append (K : Nat) (T : Nat → GM) (xs ys : List Int) : wordsM K T (xs ++ ys) = wordsM K T xs + wordsM K T ys := by
  induction xs with
  | nil => simp [wordsM]
  | cons x xs ih => simp only [List.cons_append, wordsM, ih]; omega

theorem wordsM_take {K : Nat} {T : Nat → GM} {l : List Int} {i : Nat} (h : i < l.length) : wordsM K T (l.take (i + 1)) = wordsM K T (l.take i) + ((nodeM K T (lf l i)).s + 2) := by
  rw [List.take_succ_eq_append_getElem h, wordsM_append, lf_at h]
  simp [wordsM]

def usedM (M : Nat) (S : Nat → SL) (K : Nat) (T : Nat → GM) : Int := wordsM K T (reachM M S K T)
end Go.Proofs.Ytbhjmomphajnnaa

namespace Go.Proofs.Ytbhjmomphajnnaa
open Go.RowKit
set_option linter.unusedVariables false

instance (t : GM) (k : Nat) : Decidable (IsP t k) := inferInstanceAs (Decidable (_ = _))

/-- What an op turns of a machine. -/
structure MS where
  ha : Int
  S : Nat → SL
  K : Nat
  T : Nat → GM

/-- The slot of a handle. -/
def HSl (te : Int) (M : Nat) (S : Nat → SL) (x : Int) : Prop := (0 ≤ x ∧ 1 ≤ x / 32 ∧ x / 32 ≤ 99) ∧ x % 4 = te ∧ x / 4 % 8 < (M : Int) ∧ ¬ (S (x / 4 % 8).toNat).nd = 0 ∧ (S (x / 4 % 8).toNat).g = x / 32

instance (te : Int) (M : Nat) (S : Nat → SL) (x : Int) : Decidable (HSl te M S x) := inferInstanceAs (Decidable (_ ∧ _))

def slN (x : Int) : Nat := (x / 4 % 8).toNat

/-- The first slot that can be given, or how many there are. -/
def CanG (s : SL) : Prop := s.nd = 0 ∧ s.g < 99

instance (s : SL) : Decidable (CanG s) := inferInstanceAs (Decidable (_ ∧ _))

def freeS (S : Nat → SL) : Nat → Nat
  | 0 => 0
  | M + 1 => if freeS S M < M then freeS S M else if CanG (S M) then M else M + 1

theorem freeS_congr {S S' : Nat → SL} : ∀ {M : Nat}, (∀ i, i < M → (CanG (S' i) ↔ CanG (S i))) → freeS S' M = freeS S M
  | 0, _ => rfl
  | M + 1, h => by
    rw [freeS, freeS, freeS_congr fun i hi => h i (by omega)]
    by_cases h1 : freeS S M < M
    · rw [if_pos h1, if_pos h1]
    · rw [if_neg h1, if_neg h1]
      by_cases h2 : CanG (S M)
      · rw [if_pos h2, if_pos ((h M (by omega)).2 h2)]
      · rw [if_neg h2, if_neg fun h3 => h2 ((h M (by omega)).1 h3)]

section

variable {U : List Int} {φ : Int → Int} {M : Nat} {m m' : MS} {te qu : Int}

theorem MIso.zero_iff {S S' : Nat → SL} {K K' : Nat} {T T' : Nat → GM} (h : MIso U φ M S K T S' K' T') {i : Nat} (hi : i < M) : (S' i).nd = 0 ↔ (S i).nd = 0 := by
  rw [(h.slot i hi).2]
  rcases h.slots i hi with h1 | h1
  · rw [h1, h.z]
  · have h2 := h.nz _ h1
    have h3 : ¬ (S i).nd = 0 := fun e => h.u0 (e ▸ h1)
    exact ⟨fun e => absurd e h2, fun e => absurd e h3⟩

theorem MIso.hsl {S S' : Nat → SL} {K K' : Nat} {T T' : Nat → GM} (h : MIso U φ M S K T S' K' T') (x : Int) : HSl te M S' x ↔ HSl te M S x := by
  have hlt : x / 4 % 8 < (M : Int) → (x / 4 % 8).toNat < M := fun h => by omega
  unfold HSl
  constructor
  · rintro ⟨h1, h2, h3, h4, h5⟩
    exact ⟨h1, h2, h3, fun e => h4 ((h.zero_iff (hlt h3)).2 e), by rw [← (h.slot _ (hlt h3)).1]; exact h5⟩
  · rintro ⟨h1, h2, h3, h4, h5⟩
    exact ⟨h1, h2, h3, fun e => h4 ((h.zero_iff (hlt h3)).1 e), by rw [(h.slot _ (hlt h3)).1]; exact h5⟩

theorem HSl.lt {S : Nat → SL} {x : Int} (h : HSl te M S x) : slN x < M := by have := h.2.2.1; unfold slN; omega

theorem MIso.free {S S' : Nat → SL} {K K' : Nat} {T T' : Nat → GM} (h : MIso U φ M S K T S' K' T') : freeS S' M = freeS S M :=
  freeS_congr fun i hi => by unfold CanG; rw [h.zero_iff hi, (h.slot i hi).1]

end
end Go.Proofs.Ytbhjmomphajnnaa

namespace Go.Proofs.Ytbhjmomphajnnaa
open Go.RowKit
set_option linter.unusedVariables false

/-- What is told beside a code. -/
def outU (M : Nat) (S : Nat → SL) (K : Nat) (T : Nat → GM) (c : Int) : Int := if c = 0 then usedM M S K T else 0

section

variable {te qu ha : Int} {M : Nat} {S : Nat → SL} {K : Nat} {T U : Nat → GM} {c : Int}

end

theorem isNodes_one {T : Nat → GM} {K : Nat} {c c' : Int} (h : IsNodes T K c) (h' : IsNodes T K c') : c = c' := by
  rcases h with ⟨rfl, h⟩ | ⟨hc, i, hi, h1, h2⟩
  · exact (isNodes_all h' h).symm
  · exact (isNodes_hit h' hi h1 h2 hc).symm

theorem isMF_one {te qu ha : Int} {M : Nat} {S : Nat → SL} {K : Nat} {T : Nat → GM} {c c' : Int} (h : IsMF te qu ha M S K T c) (h' : IsMF te qu ha M S K T c') : c = c' := by
  rcases h with ⟨a, rfl⟩ | ⟨a, h⟩ <;> rcases h' with ⟨b, rfl⟩ | ⟨b, h'⟩
  · rfl
  · exact absurd b a
  · exact absurd a b
  rcases h with ⟨a, rfl⟩ | ⟨a, h⟩ <;> rcases h' with ⟨b, rfl⟩ | ⟨b, h'⟩
  · rfl
  · exact absurd b a
  · exact absurd a b
  rcases h with ⟨a, rfl⟩ | ⟨a, h⟩ <;> rcases h' with ⟨b, rfl⟩ | ⟨b, h'⟩
  · rfl
  · exact absurd b a
  · exact absurd a b
  rcases h with ⟨a, a'⟩ | ⟨a, h⟩ <;> rcases h' with ⟨b, b'⟩ | ⟨b, h'⟩
  · exact isNodes_one a b
  · exact absurd (isNodes_one a b) a'
  · exact absurd (isNodes_one b a) b'
  rcases h with ⟨a, rfl⟩ | ⟨a, h⟩ <;> rcases h' with ⟨b, rfl⟩ | ⟨b, h'⟩
  · rfl
  · exact absurd b a
  · exact absurd a b
  rcases h with ⟨a, rfl⟩ | ⟨a, h⟩ <;> rcases h' with ⟨b, rfl⟩ | ⟨b, h'⟩
  · rfl
  · exact absurd b a
  · exact absurd a b
  rcases h with ⟨a, rfl⟩ | ⟨a, rfl⟩ <;> rcases h' with ⟨b, rfl⟩ | ⟨b, rfl⟩
  · rfl
  · exact absurd b a
  · exact absurd a b
  · rfl
end Go.Proofs.Ytbhjmomphajnnaa

namespace Go.Proofs.Ytbhjmomphajnnaa
open Go.RowKit
set_option linter.unusedVariables false

/-- The cells of a machine, from a place of a block on. -/
structure MAt (w : World) (g o : Nat) (te qu ha : Int) (sa : Option Addr) (M kc : Nat) (na : Option Addr) (K nc : Nat) : Prop where
  lt : g < w.heap.size
  c0 : w.cell? ⟨g, o, none⟩ = some (.int .i64 te)
  c1 : w.cell? ⟨g, o + 1, none⟩ = some (.int .i64 qu)
  c2 : w.cell? ⟨g, o + 2, none⟩ = some (.int .i64 ha)
  c3 : w.cell? ⟨g, o + 3, none⟩ = some (.slice sa M kc)
  c4 : w.cell? ⟨g, o + 4, none⟩ = some (.slice na K nc)

section

variable {w w' : World} {g o : Nat} {te qu ha : Int} {sa : Option Addr} {M kc : Nat} {na : Option Addr} {K nc : Nat}

theorem MAt.below (h : MAt w g o te qu ha sa M kc na K nc) (hb : Below w.heap.size w w') : MAt w' g o te qu ha sa M kc na K nc :=
  ⟨Nat.lt_of_lt_of_le h.lt hb.size, (hb.cell (p := ⟨g, o, none⟩) h.lt).trans h.c0, (hb.cell (p := ⟨g, o + 1, none⟩) h.lt).trans h.c1, (hb.cell (p := ⟨g, o + 2, none⟩) h.lt).trans h.c2, (hb.cell (p := ⟨g, o + 3, none⟩) h.lt).trans h.c3, (hb.cell (p := ⟨g, o + 4, none⟩) h.lt).trans h.c4⟩

end

/-- A node whose numbers are right, of any number. -/
def Nd (t : GM) : Prop := HOk t.s t.m 0 t.h ∧ (t.n : Int) = t.s

theorem MWk.nd {M : Nat} {S : Nat → SL} {K : Nat} {T : Nat → GM} (h : MWk M S K T) : ∀ i, i < K → Nd (T i) := fun i hi => (h.node i hi).2

theorem add1z_zero (O : List Int) : add1z O 0 = O := if_pos rfl

theorem add1z_in {O : List Int} {p : Int} (h0 : ¬ p = 0) (h : p ∈ O) : add1z O p = O := by rw [add1z, if_neg h0, add1, if_pos h]

theorem add1z_new {O : List Int} {p : Int} (h0 : ¬ p = 0) (h : p ∉ O) : add1z O p = O ++ [p] := by rw [add1z, if_neg h0, add1, if_neg h]
end Go.Proofs.Ytbhjmomphajnnaa

namespace Go.Proofs.Ytbhjmomphajnnaa
open Go.RowKit Go.Maps
set_option linter.unusedVariables false

/-- A pointer to a node of a row. -/
def ptrV (na : Option Addr) (i : Nat) : Value := match na with | some ⟨b, q, s⟩ => .pointer (some ⟨b, q + i * 5, s⟩) | none => .pointer none

def ptrS (na : Option Addr) (K : Nat) (T : Nat → GM) (O : List Int) : List Value := O.map fun x => ptrV na (ixN T x K)

def nv1 : Nat → Int := fun i => (i : Int) + 1

theorem ptrS_snoc (na : Option Addr) (K : Nat) (T : Nat → GM) (O : List Int) (x : Int) : ptrS na K T (O ++ [x]) = ptrS na K T O ++ [ptrV na (ixN T x K)] := by simp [ptrS]

/-- What is reached so far, as the program has it: in the block rb, with the map mb and the row v. -/
structure RN (w : World) (base rb mb : Nat) (v : Value) (na : Option Addr) (K : Nat) (T : Nat → GM) (O : List Int) : Prop where
  blk : Blk w rb [v, .map (some mb)]
  hrb : base ≤ rb
  hmb : base ≤ mb
  hne : mb ≠ rb
  vr : v.ownBlock ≠ some rb
  vm : v.ownBlock ≠ some mb
  row : w.ownsRow base 159 1 v O.length (ptrS na K T O)
  map : MapT w mb O.length O nv1

section

variable {w w' : World} {base rb mb : Nat} {v : Value} {na : Option Addr} {K : Nat} {T : Nat → GM} {O : List Int}

theorem RN.below (h : RN w base rb mb v na K T O) (hb : Below w.heap.size w w') : RN w' base rb mb v na K T O :=
  ⟨h.blk.below hb, h.hrb, h.hmb, h.hne, h.vr, h.vm, ownsRow_below h.row hb, h.map.below hb⟩

end

/-- What adding leaves as it was. -/
def AddQ (w w' : World) (rb mb : Nat) (v v' : Value) : Prop := (∀ k, k < w.heap.size → k ≠ rb → k ≠ mb → v.ownBlock ≠ some k → w'.heap[k]? = w.heap[k]?) ∧ (v'.ownBlock = v.ownBlock ∨ ∀ k, v'.ownBlock = some k → w.heap.size ≤ k)

theorem Try.infoPN : (Try.prog.info? 159).map (fun i => (i.zero, i.size, i.bytes)) = some (some (.pointer none), 1, 8) := by kernel_rfl

theorem Try.underlyingPN : Try.prog.underlying 155 = some (.slice 159) := by kernel_rfl

theorem newsP (w : World) (x : Value) : ∀ (j : Nat) (u : Value), ([x] : List Value)[j]? = some u → (w.alloc (.cells #[x] 159)).cell? ((⟨w.heap.size, 0, none⟩ : Addr).add j) = some u := fun j u hu => by
  match j, hu with
  | 0, hu => exact (Blk.new w #[x] 159).at 0 hu
  | j + 1, hu => simp at hu

theorem nmM_pos {R : List Int} {x : Int} (h : x ∈ R) : (nmM R x != 0) = true := by
  obtain ⟨j, _, e, _⟩ := nmM_in h
  rw [e]; simp; omega

set_option maxRecDepth 100000 in
set_option maxHeartbeats 1600000 in
theorem addN_nil (base rb mb : Nat) (v : Value) (na : Option Addr) (K : Nat) (T : Nat → GM) (O : List Int) (w : World) (h : RN w base rb mb v na K T O) (hz : base ≤ w.heap.size) :
    Calls Try.prog 161 #[.pointer (some ⟨rb, 0, none⟩), .pointer none] w fun e w' => e = .returned (.tuple #[]) ∧ Below base w w' ∧ w.heap.size ≤ w'.heap.size ∧ AddQ w w' rb mb v v ∧ RN w' base rb mb v na K T O := by
  have H := Lib.hid h
  have lB := h.blk.1; have cB0 := h.blk.at 0 rfl; have cB1 := h.blk.at 1 rfl
  clear h
  go_enter Try.func161, Try.ntmps161
  go_wp2_with fail
  go_quiet (fail)
  go_wp2
  refine bodyPost_ret (v := .tuple #[]) (by simp [results, Try.results161, go_sem]) rfl ?_
  have hb := below_drewN (Below.refl w.heap.size w)
  exact ⟨rfl, (hb _).mono hz, (hb _).size, ⟨fun k h1 h2 h3 h4 => (hb _).block k h1, .inl rfl⟩, H.out.below (hb _)⟩

set_option maxRecDepth 100000 in
set_option maxHeartbeats 1600000 in
theorem addN_old (base rb mb : Nat) (v : Value) (b q : Nat) (K : Nat) (T : Nat → GM) (O : List Int) (i : Nat) (t : GM) (w : World) (h : RN w base rb mb v (some ⟨b, q, none⟩) K T O) (hz : base ≤ w.heap.size) (ht : FivG w b (q + i * 5) t) (hl : b < w.heap.size) (hp : -1000000000 ≤ t.at_ ∧ t.at_ ≤ 1000000000) (hin : t.at_ ∈ O) :
    Calls Try.prog 161 #[.pointer (some ⟨rb, 0, none⟩), .pointer (some ⟨b, q + i * 5, none⟩)] w fun e w' => e = .returned (.tuple #[]) ∧ Below base w w' ∧ w.heap.size ≤ w'.heap.size ∧ AddQ w w' rb mb v v ∧ RN w' base rb mb v (some ⟨b, q, none⟩) K T O := by
  have H := Lib.hid h
  have lB := h.blk.1; have cB0 := h.blk.at 0 rfl; have cB1 := h.blk.at 1 rfl
  obtain ⟨x0, x1, x2, x3, x4⟩ := ht
  have hlk := fun q => (h.map.drewN q).look hp
  have hnv : nv1 = fun i : Nat => (i : Int) + 1 := rfl
  have e1 : (tab O nv1 t.at_).getD 0 = nmM O t.at_ := by rw [hnv]; exact tab_nmM O t.at_
  rw [e1] at hlk
  have hne := nmM_pos hin
  generalize nmM O t.at_ = nm at *
  clear h e1 hnv
  go_enter Try.func161, Try.ntmps161
  go_wp2_with fail
  go_quiet (fail)
  clear hlk
  go_wp2
  refine bodyPost_ret (v := .tuple #[]) (by simp [results, Try.results161, go_sem]) rfl ?_
  have hb := below_drewN (Below.refl w.heap.size w)
  exact ⟨rfl, (hb _).mono hz, (hb _).size, ⟨fun k h1 h2 h3 h4 => (hb _).block k h1, .inl rfl⟩, H.out.below (hb _)⟩

set_option maxRecDepth 100000 in
set_option maxHeartbeats 3200000 in
theorem addN_new (base rb mb : Nat) (v : Value) (b q : Nat) (K : Nat) (T : Nat → GM) (O : List Int) (i : Nat) (t : GM) (w : World) (h : RN w base rb mb v (some ⟨b, q, none⟩) K T O) (hz : base ≤ w.heap.size) (ht : FivG w b (q + i * 5) t) (hl : b < base) (hp : -1000000000 ≤ t.at_ ∧ t.at_ ≤ 1000000000) (hin : t.at_ ∉ O) (hix : ixN T t.at_ K = i) (ho : O.length ≤ 400) :
    Calls Try.prog 161 #[.pointer (some ⟨rb, 0, none⟩), .pointer (some ⟨b, q + i * 5, none⟩)] w fun e w' => e = .returned (.tuple #[]) ∧ Below base w w' ∧ w.heap.size ≤ w'.heap.size ∧ ∃ v', AddQ w w' rb mb v v' ∧ RN w' base rb mb v' (some ⟨b, q, none⟩) K T (O ++ [t.at_]) := by
  have H := Lib.hid h
  have B0 := Lib.hid h.blk
  have M0 := Lib.hid h.map
  have hrbl : rb < w.heap.size := h.blk.1
  have hmbl : mb < w.heap.size := h.map.lt
  have hr1 := h.hrb; have hm1 := h.hmb; have hne := h.hne
  have lB := h.blk.1; have cB0 := h.blk.at 0 rfl; have cB1 := h.blk.at 1 rfl
  have HT := Lib.hid ht
  have HP := Lib.hid hp; have HIN := Lib.hid hin; have HIX := Lib.hid hix
  obtain ⟨x0, x1, x2, x3, x4⟩ := ht
  have hlk := fun q => (h.map.drewN q).look hp
  have hnv : nv1 = fun i : Nat => (i : Int) + 1 := rfl
  have e1 : (tab O nv1 t.at_).getD 0 = 0 := by rw [hnv]; exact (tab_nmM O t.at_).trans (nmM_zero hin)
  rw [e1] at hlk
  obtain ⟨j0, hif, hj0, hj1, hj2⟩ := info_parts Try.infoPN
  obtain ⟨av, kv, rfl⟩ : ∃ av kv, v = .slice av O.length kv := by
    obtain ⟨a, c, e, _⟩ := row_shape h.row
    exact ⟨a, c, e⟩
  clear h e1 hnv hp hin hix
  go_enter Try.func161, Try.ntmps161
  go_wp2_with fail
  go_quiet (fail)
  clear hlk
  have HB1 := Lib.hid (below_drewN (Below.refl w.heap.size w) nq)
  have B1 := Lib.hid (B0.out.below (drewN_below w nq)); have M1 := Lib.hid (M0.out.drewN nq)
  have OW1 := Lib.hid (ownsRow_below H.out.row (drewN_below w nq))
  have z1 : w.heap.size = (w.drewN nq).heap.size := by simp
  have T1 := Lib.hid (HT.out.below (drewN_below w nq) (by omega))
  clear x0 x1 x2 x3 x4 lB cB0 cB1 B0 M0
  generalize w.drewN nq = w1 at *
  have lB := B1.out.1; have cB0 := B1.out.at 0 rfl; have fB0 := B1.out.free 0 rfl; have cB1 := B1.out.at 1 rfl
  go_wp2_with (at_builtin; go_loud (refine wpList_append_lies _ rfl _ _ 155 rfl base 159 j0 _ 1 8 Try.underlyingPN hif hj0 hj1 hj2 rfl (by decide) (.slice av O.length kv) O.length (ptrS (some ⟨b, q, none⟩) K T O) rfl (OW1.out.alloc _) ⟨w1.heap.size, 0, none⟩ 1 1 [.pointer (some ⟨b, q + i * 5, none⟩)] rfl rfl (newsP w1 _) (by intro u hu; simp only [List.mem_cons, List.mem_nil_iff, or_false] at hu; subst hu; rfl) (by omega) (by unfold maxLen; omega) (by omega) (by simp; omega) (w1.heap.size + 1) (by simp) ?_); intro g9 cap9 w9 hown9 hgrow9 hat9 hlt9; have T9 := Lib.hid (blk_grown (B1.out.alloc _) hgrow9 H.out.vr); have l9 := T9.out.1; have d90 := T9.out.at 0 rfl; have e90 := T9.out.free 0 rfl; have d91 := T9.out.at 1 rfl)
  have HB9 : Hid (Below base w w9) := Lib.hid (((HB1.out.mono hz).alloc (by omega) _).grown hgrow9 (by simp; omega) (fun k hk => (OW1.out.lt k hk).1))
  have hz9 : w.heap.size ≤ w9.heap.size := by have := hgrow9.size; simp at this; omega
  have hg9r : g9 ≠ rb := by
    rcases hat9 with he | he
    · intro e; exact H.out.vr (by rw [he, e])
    · omega
  have hg9m : g9 ≠ mb := by
    rcases hat9 with he | he
    · intro e; exact H.out.vm (by rw [he, e])
    · omega
  have HQ9 : Hid (∀ k, k < w.heap.size → (Value.slice av O.length kv).ownBlock ≠ some k → w9.heap[k]? = w.heap[k]?) := Lib.hid (fun k hk hv => by
    have e1 := HB1.out.block k hk
    have e2 := ((Below.refl w1.heap.size w1).alloc (Nat.le_refl _) (.cells #[.pointer (some ⟨b, q + i * 5, none⟩)] 159)).block k (by omega)
    have e3 := hgrow9.block k (by simp; omega) (fun e => hv e.symm)
    exact e3.trans (e2.trans e1))
  have HG9 : Hid ((Value.slice (some ⟨g9, 0, none⟩) (O.length + 1) cap9).ownBlock = (Value.slice av O.length kv).ownBlock ∨ ∀ k, (Value.slice (some ⟨g9, 0, none⟩) (O.length + 1) cap9).ownBlock = some k → w.heap.size ≤ k) := Lib.hid (by
    rcases hat9 with he | he
    · exact .inl he.symm
    · refine .inr fun k hk => ?_
      have : g9 = k := by simpa [Value.ownBlock] using hk
      omega)
  have M9 := Lib.hid ((M1.out.alloc (.cells #[.pointer (some ⟨b, q + i * 5, none⟩)] 159)).grown hgrow9 H.out.vm)
  have OW9 := Lib.hid hown9
  clear hown9 hgrow9 hat9 lB cB0 fB0 cB1 B1 M1 OW1 HB1 T1 z1
  go_wp2_with fail
  have BA := Lib.hid (T9.out.set 0 (by simp) (.slice (some ⟨g9, 0, none⟩) (O.length + 1) cap9))
  have OWA := Lib.hid (ownsRow_setCell_other (a := ⟨rb, 0, none⟩) OW9.out (fun e => hg9r (by simpa [Value.ownBlock] using e)) (.slice (some ⟨g9, 0, none⟩) (O.length + 1) cap9))
  have MA := Lib.hid (M9.out.set (p := ⟨rb, 0, none⟩) hne (.slice (some ⟨g9, 0, none⟩) (O.length + 1) cap9))
  have HBA : Hid (Below base w (w9.setCell ⟨rb, 0, none⟩ (.slice (some ⟨g9, 0, none⟩) (O.length + 1) cap9))) := Lib.hid (HB9.out.setCell hr1 _)
  have zA : w.heap.size ≤ (w9.setCell ⟨rb, 0, none⟩ (.slice (some ⟨g9, 0, none⟩) (O.length + 1) cap9)).heap.size := by simpa using hz9
  have HQA : Hid (∀ k, k < w.heap.size → k ≠ rb → (Value.slice av O.length kv).ownBlock ≠ some k → (w9.setCell ⟨rb, 0, none⟩ (.slice (some ⟨g9, 0, none⟩) (O.length + 1) cap9)).heap[k]? = w.heap[k]?) := Lib.hid (fun k hk hr hv => (Below.heap_setCell _ _ _ k hr).trans (HQ9.out k hk hv))
  clear T9 l9 d90 e90 d91 OW9 M9 HB9 HQ9
  generalize w9.setCell ⟨rb, 0, none⟩ (.slice (some ⟨g9, 0, none⟩) (O.length + 1) cap9) = wA at *
  have TA := HT.out.block (HBA.out.block b hl)
  have lBA := BA.out.1; have cA0 := BA.out.at 0 rfl; have cA1 := BA.out.at 1 rfl
  have hlA : b < wA.heap.size := by omega
  obtain ⟨y0, y1, y2, y3, y4⟩ := TA
  go_still_tail 13, (by kernel_rfl)
  change wpList _ _ _ _ _ wA.drew
  clear lBA cA0 cA1 y0 y1 y2 y3 y4 hlA
  have B2 := Lib.hid BA.out.drew; have M2 := Lib.hid MA.out.drew
  have OW2 : Hid (wA.drew.ownsRow base 159 1 (.slice (some ⟨g9, 0, none⟩) (O.length + 1) cap9) (O.length + 1) (ptrS (some ⟨b, q, none⟩) K T O ++ [.pointer (some ⟨b, q + i * 5, none⟩)])) := Lib.hid (ownsRow_below OWA.out (Below.refl _ _).drew)
  have HB2 := Lib.hid HBA.out.drew
  have z2 : w.heap.size ≤ wA.drew.heap.size := by simpa using zA
  have HQ2 : Hid (∀ k, k < w.heap.size → k ≠ rb → (Value.slice av O.length kv).ownBlock ≠ some k → wA.drew.heap[k]? = w.heap[k]?) := Lib.hid (fun k hk hr hv => HQA.out k hk hr hv)
  clear BA MA OWA HBA zA HQA
  generalize wA.drew = w2 at *
  have en : nv1 O.length = (O.length : Int) + 1 := rfl
  obtain ⟨w3, hr3, hm3, hg3⟩ := M2.out.update (by unfold maxLen; omega) HP.out (by rw [en]; constructor <;> omega) HIN.out
  rw [en] at hr3
  have HB3 : Hid (Below base w w3) := Lib.hid (HB2.out.grown hg3 (by omega) (fun k hk => by cases hk; exact hm1))
  have hz3 : w.heap.size ≤ w3.heap.size := by have := hg3.size; omega
  have B3 := Lib.hid (blk_grown B2.out hg3 (by simp; omega))
  have M3 := Lib.hid hm3
  have OW3 := Lib.hid (OW2.out.kept hg3 (.inr (fun e => hg9m (by simpa [Value.ownBlock] using e))))
  have HQ3 : Hid (AddQ w w3 rb mb (.slice av O.length kv) (.slice (some ⟨g9, 0, none⟩) (O.length + 1) cap9)) := Lib.hid ⟨fun k hk hr hm hv => (hg3.block k (by omega) (by simp; omega)).trans (HQ2.out k hk hr hv), HG9.out⟩
  clear B2 M2 OW2 HB2 hm3 hg3 en HQ2 HG9
  go_wp2
  refine bodyPost_end (v := .tuple #[]) (by simp [results, Try.results161, go_sem]) rfl ?_
  refine ⟨rfl, HB3.out, hz3, .slice (some ⟨g9, 0, none⟩) (O.length + 1) cap9, HQ3.out, B3.out, hr1, hm1, hne, fun e => hg9r (by simpa [Value.ownBlock] using e), fun e => hg9m (by simpa [Value.ownBlock] using e), ?_, ?_⟩
  · rw [ptrS_snoc, HIX.out, List.length_append]
    exact OW3.out
  · rw [List.length_append]
    exact M3.out

/-- What nodeWith answers is added. -/
theorem addN_any (base rb mb : Nat) (v : Value) (na : Option Addr) (K : Nat) (T : Nat → GM) (O : List Int) (y : Int) (pv : Value) (w : World) (h : RN w base rb mb v na K T O) (hz : base ≤ w.heap.size)
    (hp : (y = 0 ∧ pv = .pointer none) ∨ ∃ i b q, i < K ∧ (T i).at_ = y ∧ na = some ⟨b, q, none⟩ ∧ b < base ∧ pv = .pointer (some ⟨b, q + i * 5, none⟩)) (hg : NV w na K T) (hr : MRise K T) (hi : ∀ i, i < K → 1 ≤ (T i).at_ ∧ (T i).at_ ≤ 9999) (ho : O.length ≤ 400) :
    Calls Try.prog 161 #[.pointer (some ⟨rb, 0, none⟩), pv] w fun e w' => e = .returned (.tuple #[]) ∧ Below base w w' ∧ w.heap.size ≤ w'.heap.size ∧ ∃ v', AddQ w w' rb mb v v' ∧ RN w' base rb mb v' na K T (add1z O y) := by
  rcases hp with ⟨rfl, rfl⟩ | ⟨i, b, q, hiK, rfl, rfl, hb, rfl⟩
  · refine (addN_nil base rb mb v na K T O w h hz).mono ?_
    rintro e w' ⟨h1, h2, h3, h5, h4⟩
    exact ⟨h1, h2, h3, v, h5, by rw [add1z_zero]; exact h4⟩
  · have hid := hi i hiK
    obtain ⟨b', q', e, lb, hf, _⟩ := nv_get hg hiK
    simp only [Option.some.injEq, Addr.mk.injEq, and_true] at e
    obtain ⟨rfl, rfl⟩ := e
    by_cases hin : (T i).at_ ∈ O
    · refine (addN_old base rb mb v b q K T O i (T i) w h hz hf lb (by omega) hin).mono ?_
      rintro e w' ⟨h1, h2, h3, h5, h4⟩
      exact ⟨h1, h2, h3, v, h5, by rw [add1z_in (by omega) hin]; exact h4⟩
    · refine (addN_new base rb mb v b q K T O i (T i) w h hz hf hb (by omega) hin (ixN_eq hr hiK rfl) ho).mono ?_
      rintro e w' ⟨h1, h2, h3, v', h5, h4⟩
      exact ⟨h1, h2, h3, v', h5, by rw [add1z_new (by omega) hin]; exact h4⟩
end Go.Proofs.Ytbhjmomphajnnaa

namespace Go.Proofs.Ytbhjmomphajnnaa
open Go.RowKit Go.Maps
set_option linter.unusedVariables false

/-- A row of pointers to the nodes of a list. -/
def PR (w : World) (na : Option Addr) (K : Nat) (T : Nat → GM) (ra : Option Addr) (R : List Int) : Prop :=
  R.length = 0 ∨ ∃ rb ro, ra = some ⟨rb, ro, none⟩ ∧ rb < w.heap.size ∧ ∀ i, i < R.length → w.cell? ⟨rb, ro + i, none⟩ = some (ptrV na (ixN T (lf R i) K))

theorem PR.below {w w' : World} {na : Option Addr} {K : Nat} {T : Nat → GM} {ra : Option Addr} {R : List Int} (h : PR w na K T ra R) (hb : Below w.heap.size w w') : PR w' na K T ra R := by
  rcases h with h | ⟨rb, ro, e, hl, hc⟩
  · exact .inl h
  · exact .inr ⟨rb, ro, e, Nat.lt_of_lt_of_le hl hb.size, fun i hi => (hb.cell (p := ⟨rb, ro + i, none⟩) hl).trans (hc i hi)⟩

theorem pr_of_row {w : World} {base : Nat} {v : Value} {na : Option Addr} {K : Nat} {T : Nat → GM} {O : List Int} (h : w.ownsRow base 159 1 v O.length (ptrS na K T O)) : ∃ a c, v = .slice a O.length c ∧ PR w na K T a O := by
  obtain ⟨a, c, rfl, _⟩ := row_shape h
  refine ⟨a, c, rfl, ?_⟩
  rcases Nat.eq_zero_or_pos O.length with h0 | hp
  · exact .inl h0
  · obtain ⟨g, cap, e, hb, hlt⟩ := h.form hp
    simp only [Value.slice.injEq] at e
    obtain ⟨rfl, -, rfl⟩ := e
    refine .inr ⟨g, 0, rfl, hlt, fun i hi => ?_⟩
    have hc := h.cellAt i (by omega)
    rw [show (ptrS na K T O)[i]? = some (ptrV na (ixN T (lf O i) K)) by unfold ptrS; rw [List.getElem?_map, List.getElem?_eq_getElem hi, lf_at hi]; rfl] at hc
    simpa using hc

/-- What is reached, as the program has it. -/
def RetRP (W : World) (na : Option Addr) (K : Nat) (T : Nat → GM) (R : List Int) (e : Ending) (w' : World) : Prop :=
  ∃ ra rc mb, e = .returned (.agg #[.slice ra R.length rc, .map (some mb)]) ∧ PR w' na K T ra R ∧ MapT w' mb R.length R nv1 ∧ Below W.heap.size W w' ∧ W.heap.size ≤ mb

theorem nw_in {W : World} {na : Option Addr} {K : Nat} {T : Nat → GM} {y : Int} {e : Ending} {w' : World} {base : Nat} (h : RetNW W na K T y e w') (hb : ∀ b q, na = some ⟨b, q, none⟩ → 0 < K → b < base) (hy : y = 0 ∨ Has K T y) (hi : ∀ i, i < K → 1 ≤ (T i).at_ ∧ (T i).at_ ≤ 9999) :
    Below W.heap.size W w' ∧ ∃ pv, e = .returned pv ∧ ((y = 0 ∧ pv = .pointer none) ∨ ∃ i b q, i < K ∧ (T i).at_ = y ∧ na = some ⟨b, q, none⟩ ∧ b < base ∧ pv = .pointer (some ⟨b, q + i * 5, none⟩)) := by
  obtain ⟨h1, ⟨i, b, q, h2, h3, h4, h5⟩ | ⟨h2, h3⟩⟩ := h
  · exact ⟨h1, _, h5, .inr ⟨i, b, q, h2, h3, h4, hb b q h4 (by omega), rfl⟩⟩
  · rcases hy with rfl | hy
    · exact ⟨h1, _, h3, .inl ⟨rfl, rfl⟩⟩
    · exact absurd hy h2

/-- A row that adding leaves as it is. -/
def Apart (w : World) (a : Option Addr) (n rb mb : Nat) (v : Value) : Prop := n = 0 ∨ ∃ b o, a = some ⟨b, o, none⟩ ∧ b ≠ rb ∧ b ≠ mb ∧ v.ownBlock ≠ some b ∧ b < w.heap.size

theorem Apart.size {w w' : World} {a : Option Addr} {n rb mb : Nat} {v : Value} (h : Apart w a n rb mb v) (hz : w.heap.size ≤ w'.heap.size) : Apart w' a n rb mb v := by
  rcases h with h | ⟨b, o, h1, h2, h3, h4, h5⟩
  · exact .inl h
  · exact .inr ⟨b, o, h1, h2, h3, h4, by omega⟩

theorem Apart.addq {w w' : World} {a : Option Addr} {n rb mb : Nat} {v v' : Value} (h : Apart w a n rb mb v) (hq : AddQ w w' rb mb v v') (hz : w.heap.size ≤ w'.heap.size) : Apart w' a n rb mb v' := by
  rcases h with h | ⟨b, o, h1, h2, h3, h4, h5⟩
  · exact .inl h
  · refine .inr ⟨b, o, h1, h2, h3, fun e => ?_, by omega⟩
    rcases hq.2 with e2 | e2
    · exact h4 (e2 ▸ e)
    · have := e2 b e; omega

theorem src_addq {w w' : World} {a : Option Addr} {n rb mb : Nat} {f : Nat → Int} {v v' : Value} (hs : Src w a n f) (h : Apart w a n rb mb v) (hq : AddQ w w' rb mb v v') (hz : w.heap.size ≤ w'.heap.size) : Src w' a n f := by
  rcases hs with h0 | ⟨b, o, e, hl, hc⟩
  · exact .inl h0
  · rcases h with h0 | ⟨b', o', e', h2, h3, h4, h5⟩
    · exact .inl h0
    · rw [e] at e'
      simp only [Option.some.injEq, Addr.mk.injEq, and_true] at e'
      obtain ⟨rfl, rfl⟩ := e'
      exact .inr ⟨b, o, e, by omega, fun i hi => (World.cell?_of_block (w := w) (a := ⟨b, o + i, none⟩) (hq.1 b hl h2 h3 h4)).trans (hc i hi)⟩

theorem apart_new {w : World} {B n rb mb : Nat} {a : Option Addr} {f : Nat → Int} {v : Value} (h : Own w B a n f) (hr : rb < B) (hm : mb < B) (hv : ∀ k, v.ownBlock = some k → k < B) : Apart w a n rb mb v := by
  rcases h with h0 | ⟨b, o, e, hB, hl, hc⟩
  · exact .inl h0
  · exact .inr ⟨b, o, e, by omega, by omega, fun e => by have := hv b e; omega, hl⟩

theorem RN.blocks {w : World} {base rb mb : Nat} {v : Value} {na : Option Addr} {K : Nat} {T : Nat → GM} {O : List Int} (h : RN w base rb mb v na K T O) : ∀ k, v.ownBlock = some k → k < w.heap.size := fun k hk => (h.row.lt k hk).2

theorem mc_take_len {M : Nat} {S : Nat → SL} {K : Nat} {T : Nat → GM} (hl : MLead M S K T) (i : Nat) : (addNew [] (nz ((slotL M S).take i))).length ≤ K := by
  have hs : ∀ p ∈ addNew [] (nz ((slotL M S).take i)), Has K T p := fun p hp => by
    rcases (mem_addNew _ _ _).1 hp with h1 | h1
    · cases h1
    · obtain ⟨h2, h3⟩ := mem_nz.1 h1
      exact mem_idsM.1 (slotM_sub hl p (mem_nz.2 ⟨List.mem_of_mem_take h2, h3⟩))
  have := nodup_length (nodup_addNew (nz ((slotL M S).take i)) [] List.nodup_nil) (U := idsM K T) (fun x hx => mem_idsM.2 (hs x hx))
  rwa [idsM_len] at this

theorem ptL_has {M : Nat} {S : Nat → SL} {K : Nat} {T : Nat → GM} (hl : MLead M S K T) {i : Nat} (hi : i < K) {y : Int} (hy : y ∈ ptL (T i) (T i).n) : y = 0 ∨ Has K T y := by
  obtain ⟨k, hk, hp, rfl⟩ := mem_ptL.1 hy
  exact hl.2 i hi k hk hp

set_option maxRecDepth 100000 in
set_option maxHeartbeats 3200000 in
theorem reachFS_any (te qu ha : Int) (sa : Option Addr) (M kc : Nat) (S : Nat → SL) (na : Option Addr) (K nc : Nat) (T : Nat → GM) (w : World)
    (hp : PV w sa M S) (hg : NV w na K T) (hok : MOk te qu ha M S K T) :
    Calls Try.prog 92 #[.agg #[.int .i64 te, .int .i64 qu, .int .i64 ha, .slice sa M kc, .slice na K nc]] w (RetRP w na K T (reachM M S K T)) := by
  have P := Lib.hid hp; have G := Lib.hid hg
  have HL := Lib.hid hok.lead; have HRI := Lib.hid hok.rise
  have hM : M ≤ 8 := by have := hok.len.1.2; omega
  have hK : K ≤ 150 := by have := hok.len.2.2; omega
  have HID : Hid (∀ i, i < K → 1 ≤ (T i).at_ ∧ (T i).at_ ≤ 9999) := Lib.hid (fun i hi => (isNode_zero (hok.node i hi)).1.1)
  have HM : Hid (∀ i j, i < j → j < K → (T i).at_ < (T j).at_) := Lib.hid (fun i j h1 h2 => rise_lt hok.rise j i h1 h2)
  have HND : Hid (∀ i, i < K → IsNode (T i) 0) := Lib.hid hok.node
  have HNB : Hid (∀ b q, na = some ⟨b, q, none⟩ → 0 < K → b < w.heap.size + 1 + 1) := Lib.hid (fun b q e h0 => by
    rcases hg with h | ⟨b', q', e', h⟩
    · omega
    · rw [e] at e'
      simp only [Option.some.injEq, Addr.mk.injEq, and_true] at e'
      have := h.lt; omega)
  have hmk := @run_makeMap Try.prog
  clear hp hg hok
  have A_0 := Lib.hid ((Blk.new_at (w := w) (cs := #[.int .i64 te, .int .i64 qu, .int .i64 ha, .slice sa M kc, .slice na K nc]) (t := 54) w.heap.size rfl).alloc (.cells #[.slice none 0 0, .map none] 157))
  have D_0 := Lib.hid (Blk.new_at (w := w.alloc (.cells #[.int .i64 te, .int .i64 qu, .int .i64 ha, .slice sa M kc, .slice na K nc] 54)) (cs := #[.slice none 0 0, .map none]) (t := 157) (w.heap.size + 1) (by simp))
  have HB0 := Lib.hid (((Below.refl w.heap.size w).alloc (Nat.le_refl _) (.cells #[.int .i64 te, .int .i64 qu, .int .i64 ha, .slice sa M kc, .slice na K nc] 54)).alloc (by simp) (.cells #[.slice none 0 0, .map none] 157))
  have zW : ((w.alloc (.cells #[.int .i64 te, .int .i64 qu, .int .i64 ha, .slice sa M kc, .slice na K nc] 54)).alloc (.cells #[.slice none 0 0, .map none] 157)).heap.size = w.heap.size + 1 + 1 := by simp
  go_enter Try.func92, Try.ntmps92
  go_wp2_with fail
  generalize (w.alloc (.cells #[.int .i64 te, .int .i64 qu, .int .i64 ha, .slice sa M kc, .slice na K nc] 54)).alloc (.cells #[.slice none 0 0, .map none] 157) = W0 at *
  have HM1 := Lib.hid ((MapT.made W0 nv1).alloc (.cells #[.slice none 0 0, .map (some (w.heap.size + 1 + 1))] 157))
  rw [zW] at HM1
  have B1 := Lib.hid (Blk.new_at (w := W0.alloc (.map #[] 0)) (cs := #[.slice none 0 0, .map (some (w.heap.size + 1 + 1))]) (t := 157) (w.heap.size + 1 + 1 + 1) (by simp [zW]))
  have HB3 : Hid (Below (w.heap.size + 1 + 1) W0 ((W0.alloc (.map #[] 0)).alloc (.cells #[.slice none 0 0, .map (some (w.heap.size + 1 + 1))] 157))) := Lib.hid (((Below.refl _ _).alloc (by omega) _).alloc (by simp; omega) _)
  have z3 : ((W0.alloc (.map #[] 0)).alloc (.cells #[.slice none 0 0, .map (some (w.heap.size + 1 + 1))] 157)).heap.size = w.heap.size + 1 + 1 + 1 + 1 := by simp [zW]
  generalize (W0.alloc (.map #[] 0)).alloc (.cells #[.slice none 0 0, .map (some (w.heap.size + 1 + 1))] 157) = W3 at *
  generalize hrb : w.heap.size + 1 + 1 + 1 = rb at *
  generalize hmb : w.heap.size + 1 + 1 = mb at *
  have RS0 : Hid (RN W3 mb rb mb (.slice none 0 0) na K T []) := Lib.hid
    ⟨B1.out, by omega, Nat.le_refl _, by omega, by simp [Value.ownBlock], by simp [Value.ownBlock], World.ownsRow_nil _ _ _ _, HM1.out⟩
  have HBW : Hid (∀ wr, Below mb W0 wr → Below w.heap.size w wr) := Lib.hid (fun wr hb => HB0.out.trans (hb.mono (by omega)))
  clear HM1 B1
  refine (slotNodes_any sa M kc S _ (P.out.below (HBW.out _ HB3.out)) (by omega)).mono ?_
  rintro e w1 ⟨xa, xc, rfl, ho, hb, -, -, -⟩
  have HB4 := Lib.hid (HB3.out.trans (hb.mono (by omega)))
  have RS1 := Lib.hid (RS0.out.below hb)
  have AP1 := Lib.hid (apart_new (rb := rb) (mb := mb) (v := .slice none 0 0) ho (by omega) (by omega) (fun k hk => by simp [Value.ownBlock] at hk))
  have XS1 := Lib.hid ho.src
  clear hb ho RS0 HB3
  go_wp2
  go_loopw [15] (fun p wr => ∃ (i : Nat) (v : Value), i ≤ M ∧ p = .int .i64 (i : Int) ∧ Hid (Below mb W0 wr) ∧ Hid (RN wr mb rb mb v na K T (addNew [] (nz ((slotL M S).take i)))) ∧ Hid (Src wr xa M (fun i => (S i).nd)) ∧ Hid (Apart wr xa M rb mb v)) (fun p _ => M - (intOf p).toNat)
  case atStart => exact ⟨0, _, Nat.zero_le _, rfl, HB4, RS1, XS1, AP1⟩
  case round =>
    clear HB4 RS1 XS1 AP1
    obtain ⟨i, v, hi, rfl, HB_r, RS_r, XS_r, AP_r⟩ := hrel
    have hzr : mb ≤ wr.heap.size := by have := RS_r.out.map.lt; omega
    by_cases hlt : i < M
    · have hlt' : (i : Int) < (M : Int) := by omega
      have hi0 : (0 : Int) ≤ (i : Int) := by omega
      obtain ⟨xb, xo, rfl, hxb, hxc⟩ := src_some XS_r.out (by omega)
      have c0 := hxc i hlt
      have A_r := Lib.hid (blk_under A_0.out HB_r.out (by omega))
      have a4 := A_r.out.at 4 rfl; have lA := A_r.out.1
      have HSN := Lib.hid (addz_take (l := slotL M S) (i := i) (by rw [slotL_len]; exact hlt) [])
      obtain ⟨y, hy⟩ : ∃ y, (S i).nd = y := ⟨_, rfl⟩
      have HY : Hid (lf (slotL M S) i = y) := Lib.hid (by rw [slotL_lf hlt, hy])
      have HYH : Hid (y = 0 ∨ Has K T y) := Lib.hid (by rw [← hy]; exact HL.out.1 i hlt)
      have hol := mc_take_len HL.out i
      simp only [hy] at c0
      clear hxc hy A_r
      go_wp2_with fail
      refine (nodeWith_any na K nc T y _ (G.out.below (HBW.out _ HB_r.out)) (by omega) HM.out).mono ?_
      rintro e w4 hnw
      obtain ⟨hb, pv, rfl, hpv⟩ := nw_in hnw HNB.out HYH.out HID.out
      have HPV := Lib.hid hpv
      have HB5 := Lib.hid (HB_r.out.trans (hb.mono hzr))
      have RS5 := Lib.hid (RS_r.out.below hb)
      have XS5 := Lib.hid (XS_r.out.below hb)
      have AP5 := Lib.hid (AP_r.out.size hb.size)
      have z5 : mb ≤ w4.heap.size := by have := hb.size; omega
      clear hb hnw hpv c0 a4 lA hxb HB_r RS_r XS_r AP_r
      go_wp2_with fail
      refine (addN_any mb rb mb v na K T _ y pv _ RS5.out z5 HPV.out (G.out.below (HBW.out _ HB5.out)) HRI.out HID.out (by omega)).mono ?_
      rintro e w6 ⟨rfl, hb, hz, v', hq, hrs⟩
      have HB6 := Lib.hid (HB5.out.trans hb)
      have RS6 : Hid (RN w6 mb rb mb v' na K T (addNew [] (nz ((slotL M S).take (i + 1))))) := Lib.hid (by rw [HSN.out, HY.out]; exact hrs)
      have XS6 := Lib.hid (src_addq XS5.out AP5.out hq hz)
      have AP6 := Lib.hid (AP5.out.addq hq hz)
      clear hb hrs hq HB5 RS5 XS5 AP5 HPV
      go_wp2
      go_roundw
      case rel => first | exact ⟨i + 1, v', by omega, by go_num, HB6, RS6, XS6, AP6⟩ | ((repeat apply Exists.intro); exact ⟨⟨i + 1, v', by omega, by go_num, HB6, RS6, XS6, AP6⟩, rfl⟩)
      case measure => simp [intOf]; omega
    · have hlt' : ¬ (i : Int) < (M : Int) := by omega
      obtain rfl : i = M := by omega
      have HMC : Hid (MC i S K T 0 (addNew [] (nz (slotL i S)))) := Lib.hid (mc_start HL.out)
      have RS2 : Hid (RN wr mb rb mb v na K T (addNew [] (nz (slotL i S)))) := Lib.hid (by
        have e := RS_r.out
        rw [List.take_of_length_le (by rw [slotL_len]; exact Nat.le_refl _)] at e
        exact e)
      clear RS_r XS_r AP_r hzr
      generalize addNew [] (nz (slotL i S)) = O at *
      go_wp2
      go_loopw [6] (fun p wr => ∃ (n : Nat) (v : Value) (O : List Int), n ≤ K ∧ p = .int .i64 (n : Int) ∧ Hid (Below mb W0 wr) ∧ Hid (RN wr mb rb mb v na K T O) ∧ Hid (MC i S K T n O)) (fun p _ => K - (intOf p).toNat)
      case atStart => exact ⟨0, v, O, Nat.zero_le _, rfl, HB_r, RS2, HMC⟩
      case round =>
        clear HB_r RS2 HMC
        obtain ⟨n, v, O, hnK, rfl, HB_r, RS_r, HMC⟩ := hrel
        have hzr : mb ≤ wr.heap.size := by have := RS_r.out.map.lt; omega
        have hoK : O.length ≤ K := mc_len HMC.out
        obtain ⟨av, kv, rfl, hpr⟩ := pr_of_row RS_r.out.row
        have lB := RS_r.out.blk.1; have cB0 := RS_r.out.blk.at 0 rfl; have cB1 := RS_r.out.blk.at 1 rfl
        by_cases hno : n < O.length
        · have hno' : (n : Int) < (O.length : Int) := by omega
          have hn0 : (0 : Int) ≤ (n : Int) := by omega
          have hhas := HMC.out.sub _ (lf_mem hno)
          have HSTEP := Lib.hid (mc_step HL.out HMC.out hno)
          have HPRE := Lib.hid (fun k => mc_in_len HL.out HMC.out hno k)
          rcases hpr with h0 | ⟨ab, ao, rfl, hab, hac⟩
          · omega
          have d0 := hac n hno
          obtain ⟨y, hy⟩ : ∃ y, lf O n = y := ⟨_, rfl⟩
          rw [hy] at d0 hhas HSTEP HPRE
          have hix := ixN_has hhas
          have HT : Hid (nodeM K T y = T (ixN T y K)) := Lib.hid rfl
          unfold ptrM at HSTEP
          rw [HT.out] at HSTEP HPRE
          obtain ⟨x, hx⟩ : ∃ x, ixN T y K = x := ⟨_, rfl⟩
          rw [hx] at hix d0 HSTEP HPRE
          obtain ⟨b, q, rfl, lb, ⟨x0, x1, x2, x3, x4⟩, hsr⟩ := nv_get (G.out.below (HBW.out _ HB_r.out)) hix
          have HSR := Lib.hid hsr
          have HNX := Lib.hid (HND.out x hix)
          have HPH := Lib.hid (fun y hy => ptL_has (y := y) HL.out hix hy)
          have d0' : wr.cell? ⟨ab, ao + n, none⟩ = some (.pointer (some ⟨b, q + x * 5, none⟩)) := d0
          obtain ⟨t, ht⟩ : ∃ t, T x = t := ⟨_, rfl⟩
          rw [ht] at x0 x1 x2 x3 x4 HSR HNX HPH HSTEP HPRE
          have hpl := ptL_len t t.n
          have ht12 : t.n ≤ 12 := by have := (isNode_zero HNX.out).1.2.1.2; have := (isNode_zero HNX.out).2.1; omega
          clear hac hy hhas HT hx hsr d0 ht HMC
          go_wp2_with fail
          refine (ptrsOf_any t _ HSR.out HNX.out).mono ?_
          rintro e w5 ⟨ya, yc, rfl, ho, hb, -, -, -⟩
          have HB5 := Lib.hid (HB_r.out.trans (hb.mono hzr))
          have RS5 := Lib.hid (RS_r.out.below hb)
          have YS5 := Lib.hid ho.src
          have AP5 := Lib.hid (apart_new (rb := rb) (mb := mb) ho (by have := RS_r.out.blk.1; omega) RS_r.out.map.lt RS_r.out.blocks)
          clear hb ho lB cB0 cB1 hab d0' x0 x1 x2 x3 x4 lb HB_r RS_r hzr HSR
          generalize hP : ptL t t.n = Pl at *
          have HP := Lib.hid hP
          clear hP
          go_wp2
          go_loopw [41] (fun p wr => ∃ (k : Nat) (v : Value) (Q : List Int), k ≤ Pl.length ∧ p = .int .i64 (k : Int) ∧ Hid (Below mb W0 wr) ∧ Hid (RN wr mb rb mb v (some ⟨b, q, none⟩) K T Q) ∧ Hid (Q = addNew O (nz (Pl.take k))) ∧ Hid (Src wr ya Pl.length (lf Pl)) ∧ Hid (Apart wr ya Pl.length rb mb v)) (fun p _ => Pl.length - (intOf p).toNat)
          case atStart => exact ⟨0, _, O, Nat.zero_le _, rfl, HB5, RS5, Lib.hid rfl, YS5, AP5⟩
          case round =>
            clear HB5 RS5 YS5 AP5
            obtain ⟨k, v, Q, hk, rfl, HB_r, RS_r, HQ, YS_r, AP_r⟩ := hrel
            have hzr : mb ≤ wr.heap.size := by have := RS_r.out.map.lt; omega
            have hqK : Q.length ≤ K := by rw [HQ.out]; exact HPRE.out k
            by_cases hkl : k < Pl.length
            · have hkl' : (k : Int) < (Pl.length : Int) := by omega
              have hk0 : (0 : Int) ≤ (k : Int) := by omega
              obtain ⟨yb, yo, rfl, hyb, hyc⟩ := src_some YS_r.out (by omega)
              have c0 := hyc k hkl
              have A_r := Lib.hid (blk_under A_0.out HB_r.out (by omega))
              have a4 := A_r.out.at 4 rfl; have lA := A_r.out.1
              have HSN := Lib.hid (addz_take hkl O)
              obtain ⟨z, hz⟩ : ∃ z, lf Pl k = z := ⟨_, rfl⟩
              have HZH : Hid (z = 0 ∨ Has K T z) := Lib.hid (by rw [← hz]; exact HPH.out _ (lf_mem hkl))
              rw [hz] at c0 HSN
              clear hyc hz A_r
              go_wp2_with fail
              refine (nodeWith_any (some ⟨b, q, none⟩) K nc T z _ (G.out.below (HBW.out _ HB_r.out)) (by omega) HM.out).mono ?_
              rintro e w4 hnw
              obtain ⟨hb, pv, rfl, hpv⟩ := nw_in hnw HNB.out HZH.out HID.out
              have HPV := Lib.hid hpv
              have HB5 := Lib.hid (HB_r.out.trans (hb.mono hzr))
              have RS5 := Lib.hid (RS_r.out.below hb)
              have YS5 := Lib.hid (YS_r.out.below hb)
              have AP5 := Lib.hid (AP_r.out.size hb.size)
              have z5 : mb ≤ w4.heap.size := by have := hb.size; omega
              clear hb hnw hpv c0 a4 lA hyb HB_r RS_r YS_r AP_r
              go_wp2_with fail
              refine (addN_any mb rb mb v (some ⟨b, q, none⟩) K T _ z pv _ RS5.out z5 HPV.out (G.out.below (HBW.out _ HB5.out)) HRI.out HID.out (by omega)).mono ?_
              rintro e w6 ⟨rfl, hb, hz, v', hq, hrs⟩
              have HB6 := Lib.hid (HB5.out.trans hb)
              have HQ6 : Hid (add1z Q z = addNew O (nz (Pl.take (k + 1)))) := Lib.hid (by rw [HSN.out, ← HQ.out])
              have RS6 := Lib.hid hrs
              have YS6 := Lib.hid (src_addq YS5.out AP5.out hq hz)
              have AP6 := Lib.hid (AP5.out.addq hq hz)
              clear hb hrs hq HB5 RS5 YS5 AP5 HPV HQ HSN
              go_wp2
              go_roundw
              case rel => first | exact ⟨k + 1, v', add1z Q z, by omega, by go_num, HB6, RS6, HQ6, YS6, AP6⟩ | ((repeat apply Exists.intro); exact ⟨⟨k + 1, v', add1z Q z, by omega, by go_num, HB6, RS6, HQ6, YS6, AP6⟩, rfl⟩)
              case measure => simp [intOf]; omega
            · have hkl' : ¬ (k : Int) < (Pl.length : Int) := by omega
              have HMC' : Hid (MC i S K T (n + 1) Q) := Lib.hid (by
                rw [HQ.out, List.take_of_length_le (by omega)]
                exact HSTEP.out)
              clear YS_r AP_r HQ
              go_wp2
              go_roundw
              case rel => first | exact ⟨n + 1, v, Q, by omega, by go_num, HB_r, RS_r, HMC'⟩ | ((repeat apply Exists.intro); exact ⟨⟨n + 1, v, Q, by omega, by go_num, HB_r, RS_r, HMC'⟩, rfl⟩)
              case measure => simp [intOf]; omega
        · have hno' : ¬ (n : Int) < (O.length : Int) := by omega
          have HE := Lib.hid (mc_done HMC.out hno)
          have D_r := Lib.hid (blk_under D_0.out HB_r.out (by omega))
          have e0 := D_r.out.at 0 rfl; have e1 := D_r.out.at 1 rfl; have g0 := D_r.out.free 0 rfl; have g1 := D_r.out.free 1 rfl; have lD := D_r.out.1
          clear hpr HMC
          go_wp2
          refine bodyPost_ret (v := .agg #[.slice av O.length kv, .map (some mb)]) (by simp [results, Try.results92, go_sem, e0, e1]) rfl ?_
          rw [HE.out]
          have hrow := row_set (row_set RS_r.out.row (p := ⟨w.heap.size + 1, 0, none⟩) (by show w.heap.size + 1 < mb; omega) (.slice av O.length kv)) (p := ⟨w.heap.size + 1, 1, none⟩) (by show w.heap.size + 1 < mb; omega) (.map (some mb))
          obtain ⟨a', c', e', hpr⟩ := pr_of_row hrow
          simp only [Value.slice.injEq] at e'
          obtain ⟨rfl, -, rfl⟩ := e'
          refine ⟨av, kv, mb, rfl, hpr, (RS_r.out.map.set (by show mb ≠ w.heap.size + 1; omega) _).set (by show mb ≠ w.heap.size + 1; omega) _, ?_, by omega⟩
          repeat (with_reducible refine Below.setCell ?_ (by (try simp); (try omega)) _)
          exact HBW.out _ HB_r.out
end Go.Proofs.Ytbhjmomphajnnaa

namespace Go.Proofs.Ytbhjmomphajnnaa
open Go.RowKit
set_option linter.unusedVariables false

theorem fld_nr0 (x y : Value) (w : World) : (Instr.field 157 (.agg #[x, y]) 0).run Try.prog w = .ok x w := by kernel_rfl

theorem pr_get {w : World} {na : Option Addr} {K : Nat} {T : Nat → GM} {ra : Option Addr} {R : List Int} (h : PR w na K T ra R) (hg : NV w na K T) {i : Nat} (hi : i < R.length) (hh : Has K T (lf R i)) : ∃ rb ro b q x, ra = some ⟨rb, ro, none⟩ ∧ na = some ⟨b, q, none⟩ ∧ x < K ∧ (T x).at_ = lf R i ∧ nodeM K T (lf R i) = T x ∧ w.cell? ⟨rb, ro + i, none⟩ = some (.pointer (some ⟨b, q + x * 5, none⟩)) ∧ rb < w.heap.size ∧ b < w.heap.size ∧ FivG w b (q + x * 5) (T x) ∧ Src w (T x).a (T x).n (T x).f := by
  have hx := ixN_has hh
  rcases h with h0 | ⟨rb, ro, rfl, hl, hc⟩
  · omega
  · obtain ⟨b, q, rfl, lb, hf, hs⟩ := nv_get hg hx
    exact ⟨rb, ro, b, q, _, rfl, rfl, hx, ixN_at hx, rfl, hc i hi, hl, lb, hf, hs⟩

set_option maxRecDepth 100000 in
set_option maxHeartbeats 3200000 in
theorem implUB_is (te qu ha : Int) (sa : Option Addr) (M kc : Nat) (S : Nat → SL) (na : Option Addr) (K nc : Nat) (T : Nat → GM) (c v : Int) (w : World)
    (hp : PV w sa M S) (hg : NV w na K T) (hM : M ≤ 1048576) (hK : K ≤ 1048576) (hn : ∀ i, i < K → (T i).n ≤ 1048576) (hk : IsMF te qu ha M S K T c) (hv : outU M S K T c = v) :
    Calls Try.prog 30 #[.agg #[.int .i64 te, .int .i64 qu, .int .i64 ha, .slice sa M kc, .slice na K nc]] w (RetPair w c v) := by
  have P0 := Lib.hid hp; have G0 := Lib.hid hg; have HN := Lib.hid hn; have HK := Lib.hid hk; have HV := Lib.hid hv
  have HB0 := Lib.hid (((Below.refl w.heap.size w).alloc (Nat.le_refl _) (.cells #[.int .i64 te, .int .i64 qu, .int .i64 ha, .slice sa M kc, .slice na K nc] 54)).alloc (by simp) (.cells #[.int .i64 0, .int .i64 0] 38))
  have A_0 := Lib.hid ((Blk.new_at (w := w) (cs := #[.int .i64 te, .int .i64 qu, .int .i64 ha, .slice sa M kc, .slice na K nc]) (t := 54) w.heap.size rfl).alloc (.cells #[.int .i64 0, .int .i64 0] 38))
  have R_0 := Lib.hid (Blk.new_at (w := w.alloc (.cells #[.int .i64 te, .int .i64 qu, .int .i64 ha, .slice sa M kc, .slice na K nc] 54)) (cs := #[.int .i64 0, .int .i64 0]) (t := 38) (w.heap.size + 1) (by simp))
  clear hp hg hn hk hv
  go_enter Try.func30, Try.ntmps30
  go_wp2_with fail
  refine (implMF_any te qu ha sa M kc S na K nc T c _ (P0.out.below HB0.out) (G0.out.below HB0.out) hM hK HN.out HK.out).mono ?_
  rintro e w1 ⟨rfl, hb⟩
  have HB1 := Lib.hid (thru0 HB0.out hb)
  have A_1 := Lib.hid (A_0.out.below hb); have R_1 := Lib.hid (R_0.out.below hb)
  have z1 : w.heap.size + 2 ≤ w1.heap.size := by have := R_1.out.1; omega
  clear hb A_0 R_0 HB0
  by_cases h0 : c = 0
  · subst h0
    have HOK := Lib.hid (isMF_zero HK.out)
    have a0 := A_1.out.at 0 rfl; have a1 := A_1.out.at 1 rfl; have a2 := A_1.out.at 2 rfl; have a3 := A_1.out.at 3 rfl; have a4 := A_1.out.at 4 rfl; have lA := A_1.out.1
    go_wp2_with fail
    refine (reachFS_any te qu ha sa M kc S na K nc T _ (P0.out.below HB1.out) (G0.out.below HB1.out) HOK.out).mono ?_
    rintro e w2 ⟨ra, rc, mb, rfl, hpr, -, hb, -⟩
    have HB2 := Lib.hid (thru0 HB1.out hb)
    have R_2 := Lib.hid (R_1.out.below hb)
    have HPR := Lib.hid hpr
    have G2 := Lib.hid (G0.out.below HB2.out)
    have HHAS : Hid (∀ x ∈ reachM M S K T, Has K T x) := Lib.hid (fun x hx => reachM_has HOK.out.lead hx)
    have HW := Lib.hid HOK.out.wk
    have HU : Hid (v = wordsM K T (reachM M S K T)) := Lib.hid HV.out.symm
    have hrl : (reachM M S K T).length ≤ 150 := by have := reachM_len HOK.out.lead; have := HOK.out.len.2.2; omega
    clear hb hpr A_1 R_1 HB1 a0 a1 a2 a3 a4 lA HV HOK HK
    generalize reachM M S K T = R at *
    have hf0 := fld_nr0 (.slice ra R.length rc) (.map (some mb)) w2
    go_wp2
    clear hf0
    go_loop [4, 17] (fun u p => ∃ (i : Nat), i ≤ R.length ∧ p = .int .i64 (i : Int) ∧ u = .int .i64 (wordsM K T (R.take i)) ∧ (0 ≤ wordsM K T (R.take i) ∧ wordsM K T (R.take i) ≤ 14 * (i : Int))) (fun _ p => R.length - (intOf p).toNat)
    case atStart => exact ⟨0, Nat.zero_le _, rfl, rfl, by simp [wordsM]⟩
    case round =>
      obtain ⟨i, hi, rfl, rfl, hw0, hw1⟩ := hrel
      by_cases hlt : i < R.length
      · have hlt' : (i : Int) < (R.length : Int) := by omega
        have hi0 : (0 : Int) ≤ (i : Int) := by omega
        have hhas := HHAS.out _ (lf_mem hlt)
        have hwt := wordsM_take (K := K) (T := T) hlt
        obtain ⟨rb, ro, b, q, x, rfl, rfl, hxK, hxa, hnx, d0, lr, lb, ⟨x0, x1, x2, x3, x4⟩, -⟩ := pr_get HPR.out G2.out hlt hhas
        rw [hnx] at hwt
        have hs0 := (HW.out.node x hxK).2.1.1
        have HWT := Lib.hid hwt
        generalize T x = t at *
        generalize wordsM K T (R.take i) = u0 at *
        clear hhas hxa hnx hwt x0 x2 x3 x4
        go_wp2
        go_round
        case rel => first | exact ⟨i + 1, by omega, by go_num, by rw [HWT.out], by rw [HWT.out]; omega, by rw [HWT.out]; omega⟩ | ((repeat apply Exists.intro); exact ⟨⟨i + 1, by omega, by go_num, by rw [HWT.out], by rw [HWT.out]; omega, by rw [HWT.out]; omega⟩, rfl⟩)
        case measure => simp [intOf]; omega
      · have hlt' : ¬ (i : Int) < (R.length : Int) := by omega
        obtain rfl : i = R.length := by omega
        have r0 := R_2.out.at 0 rfl; have f0 := R_2.out.free 0 rfl; have r1 := R_2.out.at 1 rfl; have f1 := R_2.out.free 1 rfl; have lR := R_2.out.1
        go_wp2
        refine bodyPost_ret (v := .agg #[.int .i64 0, .int .i64 (wordsM K T R)]) (by simp [results, Try.results30, go_sem, r0, r1]) rfl ⟨by rw [HU.out], ?_⟩
        repeat (first | (with_reducible refine Below.setCell ?_ (by (try simp); (try omega)) _) | (with_reducible refine Below.alloc ?_ (by (try simp); (try omega)) _) | (with_reducible refine Below.drew ?_))
        exact HB2.out
  · have h0' : (c != 0) = true := by simpa using h0
    have HE : Hid (v = 0) := Lib.hid (by rw [← HV.out]; exact if_neg h0)
    clear h0
    have r0 := R_1.out.at 0 rfl; have f0 := R_1.out.free 0 rfl; have r1 := R_1.out.at 1 rfl; have f1 := R_1.out.free 1 rfl; have lR := R_1.out.1
    go_wp2
    refine bodyPost_ret (v := .agg #[.int .i64 c, .int .i64 0]) (by simp [results, Try.results30, go_sem, r0, r1]) rfl ⟨by rw [HE.out], ?_⟩
    repeat (first | (with_reducible refine Below.setCell ?_ (by (try simp); (try omega)) _) | (with_reducible refine Below.alloc ?_ (by (try simp); (try omega)) _) | (with_reducible refine Below.drew ?_))
    exact HB1.out
end Go.Proofs.Ytbhjmomphajnnaa

namespace Go.Proofs.Ytbhjmomphajnnaa
open Go.RowKit
set_option linter.unusedVariables false

/-- What SlotOf answers. -/
def IsSlo (te qu ha : Int) (M : Nat) (S : Nat → SL) (K : Nat) (T : Nat → GM) (x c v : Int) : Prop :=
  (IsMF te qu ha M S K T c ∧ ¬ c = 0 ∧ v = 0) ∨ (IsMF te qu ha M S K T 0 ∧ ((HSl te M S x ∧ c = 0 ∧ v = (slN x : Int)) ∨ (¬ HSl te M S x ∧ c = 6 ∧ v = 0)))
end Go.Proofs.Ytbhjmomphajnnaa

namespace Go.Proofs.Ytbhjmomphajnnaa
open Go.RowKit Go.Maps
set_option linter.unusedVariables false

theorem Try.rowHa : 42 < Try.prog.types.size := of_decide_eq_true (by kernel_rfl)

theorem Try.wideHa : (match Try.prog.underlying 42 with | some (.array _ _) | some (.struct _) => true | _ => false) = true := by kernel_rfl

set_option maxRecDepth 100000 in
theorem keyHa : Keyed Try.prog 42 := Keyed.of_law (deep_law_laid Try.laidOut (m := 2) (by omega) Try.rowHa (by kernel_rfl) Try.wideHa)

theorem Try.underlyingMH : Try.prog.underlying 160 = some (.map 42 159) := by kernel_rfl

theorem zeroPN (w : World) : (zeroValue 159).run Try.prog w = .ok (.pointer none) w := by kernel_rfl

theorem Try.keyTypeHa : Try.prog.keyType 42 = true := by kernel_rfl

theorem Try.cellsHa : Try.prog.cellsOf 42 = 3 := by kernel_rfl

def haV (a b d : Int) : Value := .agg #[.int .i64 a, .int .i64 b, .int .i64 d]

theorem keyLits_int (n : Nat) (a : Int) (h : I64 a) : Try.prog.keyLits (n + 1) 2 [.int .i64 a] = some [.int .i64 a] := by
  unfold Program.keyLits
  rw [Try.underlyingI]
  simp [WalkArith.wf_i64 h]

def haF (n : String) (o : Nat) : Field := { name := n, type := 2, offset := o, embedded := false, tag := "", pkgPath := "", byteOffset := 8 * o }

theorem Try.underHa : Try.prog.underlying 42 = some (.struct #[haF "Tenant" 0, haF "Slot" 1, haF "Gen" 2]) := by kernel_rfl

theorem Try.cellsI64 : Try.prog.cellsOf 2 = 1 := by kernel_rfl

theorem keyOf_ha (a b d : Int) (ha : I64 a) (hb : I64 b) (hd : I64 d) : ∃ kl, keyOf Try.prog 42 (haV a b d) = some kl := by
  have hu := Try.underHa
  have hs : ∃ n, Try.prog.types.size = n + 1 := ⟨Try.prog.types.size - 1, by have := Try.rowHa; omega⟩
  obtain ⟨n, hn⟩ := hs
  unfold keyOf
  rw [hu]
  simp only [Try.keyTypeHa, Bool.true_and]
  have hf : (haV a b d).formed Try.prog 42 = true := by
    unfold haV Value.formed
    simp only [hu, Try.cellsHa]
    rfl
  rw [if_pos hf, hn]
  have hc : (haV a b d).cells.toList = [.int .i64 a, .int .i64 b, .int .i64 d] := rfl
  rw [hc]
  unfold Program.keyLits
  rw [hu]
  simp only [Try.cellsHa, haF]
  simp [Try.cellsI64, keyLits_int n _ ha, keyLits_int n _ hb, keyLits_int n _ hd]

/-- How an element is told: whether it points at anything. -/
def ptrR (v : Value) : Option (DataW Unit × List MemPlace) := match v with | .pointer p => some (.lit (.bool p.isSome), []) | _ => none

/-- A slot that leads to a node by a handle of its own. -/
def Leads (te : Int) (S : Nat → SL) (i : Nat) (a b d : Int) : Prop := a = te ∧ ∃ j : Nat, j < i ∧ b = (j : Int) ∧ d = (S j).g ∧ ¬ (S j).nd = 0

/-- A map of handles: of the first slots. -/
def MapH (w : World) (b n : Nat) (te : Int) (S : Nat → SL) (i : Nat) : Prop :=
  ∃ D : DataW Unit, w.ownsMap Try.prog 42 ptrR b n D ∧ ∀ a c d kl, keyOf Try.prog 42 (haV a c d) = some kl → ∃ r : Bool, D.atKey kl (.lit (.bool false)) = .lit (.bool r) ∧ (r = true ↔ Leads te S i a c d)

theorem MapH.lt {w : World} {b n : Nat} {te : Int} {S : Nat → SL} {i : Nat} (h : MapH w b n te S i) : b < w.heap.size := by obtain ⟨D, h1, _⟩ := h; exact h1.lt

theorem MapH.block {w w' : World} {b n : Nat} {te : Int} {S : Nat → SL} {i : Nat} (h : MapH w b n te S i) (hb : w'.heap[b]? = w.heap[b]?) : MapH w' b n te S i := by
  obtain ⟨D, ⟨es, clock, h1, h2⟩, h3⟩ := h
  exact ⟨D, ⟨es, clock, hb.trans h1, h2⟩, h3⟩

theorem MapH.below {w w' : World} {b n : Nat} {te : Int} {S : Nat → SL} {i : Nat} (h : MapH w b n te S i) (hb : Below w.heap.size w w') : MapH w' b n te S i := h.block (hb.block b h.lt)

theorem MapH.made (w : World) (te : Int) (S : Nat → SL) : MapH (w.alloc (.map #[] 0)) w.heap.size 0 te S 0 :=
  ⟨.map [], World.ownsMap_made _ _ _ _, fun a c d kl _ => ⟨false, rfl, by simp [Leads]⟩⟩

theorem MapH.skip {w : World} {b n : Nat} {te : Int} {S : Nat → SL} {i : Nat} (h : MapH w b n te S i) (h0 : (S i).nd = 0) : MapH w b n te S (i + 1) := by
  obtain ⟨D, h1, h2⟩ := h
  refine ⟨D, h1, fun a c d kl hk => ?_⟩
  obtain ⟨r, h3, h4⟩ := h2 a c d kl hk
  refine ⟨r, h3, h4.trans ?_⟩
  unfold Leads
  constructor
  · rintro ⟨ha, j, hj, hr⟩; exact ⟨ha, j, by omega, hr⟩
  · rintro ⟨ha, j, hj, h5, h6, h7⟩
    rcases Nat.lt_succ_iff_lt_or_eq.mp hj with h | h
    · exact ⟨ha, j, h, h5, h6, h7⟩
    · subst h; exact absurd h0 h7

theorem MapH.look {w : World} {b n : Nat} {te : Int} {S : Nat → SL} {i : Nat} (h : MapH w b n te S i) {a c d : Int} (ha : I64 a) (hc : I64 c) (hd : I64 d) : ∃ p : Option Addr, (Instr.lookup 160 (.map (some b)) (haV a c d) false).run Try.prog w = .ok (.pointer p) w ∧ (p.isSome = true ↔ Leads te S i a c d) := by
  obtain ⟨D, h1, h2⟩ := h
  obtain ⟨kl, hk⟩ := keyOf_ha a c d ha hc hd
  obtain ⟨v, ps, hr, hv⟩ := h1.lookup keyHa Try.underlyingMH (zeroPN w) (zd := .lit (.bool false)) (zp := []) rfl hk
  obtain ⟨r, h3, h4⟩ := h2 a c d kl hk
  rw [h3] at hv
  unfold ptrR at hv
  split at hv
  · rename_i p
    simp only [Option.some.injEq, Prod.mk.injEq, DataW.lit.injEq, Lit.bool.injEq] at hv
    exact ⟨p, hr, by rw [hv.1]; exact h4⟩
  · cases hv

theorem MapH.update {w : World} {b n : Nat} {te : Int} {S : Nat → SL} {i : Nat} (h : MapH w b n te S i) (hn : n < maxLen) (hte : I64 te) (hi : (i : Int) ≤ 1000) (hg : I64 (S i).g) (h0 : ¬ (S i).nd = 0) (p : Addr) :
    ∃ w', (Instr.mapUpdate 160 (.map (some b)) (haV te (i : Int) (S i).g) (.pointer (some p))).run Try.prog w = .ok () w' ∧ MapH w' b (n + 1) te S (i + 1) ∧ w.grownBy w' (some b) := by
  obtain ⟨D, h1, h2⟩ := h
  obtain ⟨kl, hk⟩ := keyOf_ha te (i : Int) (S i).g hte ⟨by omega, by omega⟩ hg
  obtain ⟨w', hr, h3, h4⟩ := h1.update keyHa Try.underlyingMH hn hk (val := .pointer (some p)) (d := .lit (.bool true)) (ps := []) rfl
  refine ⟨w', hr, ⟨_, h3, fun a c d kl' hk' => ?_⟩, h4⟩
  have hkk : WideAt.IsKeyLit kl := keyHa.key hk
  by_cases e : kl' = kl
  · subst e
    have e2 := keyHa.inj hk hk'
    have e3 : te = a ∧ (i : Int) = c ∧ (S i).g = d := by unfold haV at e2; simpa using e2
    refine ⟨true, Maps.atKey_put_same h1.isMap hkk _ _, ⟨fun _ => ⟨e3.1.symm, i, Nat.lt_succ_self i, e3.2.1.symm, e3.2.2.symm, h0⟩, fun _ => rfl⟩⟩
  · obtain ⟨r, h5, h6⟩ := h2 a c d kl' hk'
    refine ⟨r, by rw [Maps.atKey_put_other e]; exact h5, h6.trans ?_⟩
    unfold Leads
    constructor
    · rintro ⟨ha, j, hj, hr⟩; exact ⟨ha, j, by omega, hr⟩
    · rintro ⟨ha, j, hj, h7, h8, h9⟩
      rcases Nat.lt_succ_iff_lt_or_eq.mp hj with hl | hl
      · exact ⟨ha, j, hl, h7, h8, h9⟩
      · subst hl
        subst ha h7 h8
        rw [hk] at hk'
        cases hk'
        exact absurd rfl e
end Go.Proofs.Ytbhjmomphajnnaa

