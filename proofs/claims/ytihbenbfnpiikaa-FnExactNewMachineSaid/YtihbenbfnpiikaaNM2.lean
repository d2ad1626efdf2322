/- Texts merged: M3 to V8. -/
import Derived.Test.YtihbenbfnpiikaaNM1
namespace Go.Proofs.Ytihbenbfnpiikaa
open Go.RowKit
set_option linter.unusedVariables false

/-- The first place of the node of this number, or -1. -/
def IsFd (N : Nat) (T : Nat → GM) (x v : Int) : Prop := (∃ i : Nat, i < N ∧ (T i).at_ = x ∧ (∀ j, j < i → ¬ (T j).at_ = x) ∧ v = (i : Int)) ∨ (¬ Has N T x ∧ v = -1)

theorem isFd_some (N : Nat) (T : Nat → GM) (x : Int) : ∃ v, IsFd N T x v := by
  induction N with
  | zero => exact ⟨-1, .inr ⟨fun ⟨j, hj, _⟩ => by omega, rfl⟩⟩
  | succ N ih =>
    obtain ⟨v, ⟨i, hi, h1, h2, rfl⟩ | ⟨hno, rfl⟩⟩ := ih
    · exact ⟨(i : Int), .inl ⟨i, by omega, h1, h2, rfl⟩⟩
    · by_cases h : (T N).at_ = x
      · exact ⟨(N : Int), .inl ⟨N, by omega, h, fun j hj he => hno ⟨j, hj, he⟩, rfl⟩⟩
      · refine ⟨-1, .inr ⟨fun ⟨j, hj, he⟩ => ?_, rfl⟩⟩
        rcases Nat.lt_succ_iff_lt_or_eq.mp hj with h1 | h1
        · exact hno ⟨j, h1, he⟩
        · subst h1; exact h he

theorem isFd_has {N : Nat} {T : Nat → GM} {x v : Int} (h : IsFd N T x v) : (0 ≤ v ∧ Has N T x) ∨ (v = -1 ∧ ¬ Has N T x) := by
  rcases h with ⟨i, hi, h1, _, rfl⟩ | ⟨h1, rfl⟩
  · exact .inl ⟨by omega, i, hi, h1⟩
  · exact .inr ⟨rfl, h1⟩

theorem isFd_first {N i : Nat} {T : Nat → GM} {x v : Int} (h : IsFd N T x v) (hi : i < N) (hx : (T i).at_ = x) (hf : ∀ j, j < i → ¬ (T j).at_ = x) : v = (i : Int) := by
  rcases h with ⟨k, hk, h1, h2, rfl⟩ | ⟨h1, _⟩
  · rcases Nat.lt_trichotomy i k with h | rfl | h
    · exact absurd hx (h2 i h)
    · rfl
    · exact absurd h1 (hf k h)
  · exact absurd ⟨i, hi, hx⟩ h1

theorem isFd_none {N : Nat} {T : Nat → GM} {x v : Int} (h : IsFd N T x v) (hf : ∀ j, j < N → ¬ (T j).at_ = x) : v = -1 := by
  rcases h with ⟨k, hk, h1, h2, rfl⟩ | ⟨_, rfl⟩
  · exact absurd h1 (hf k hk)
  · rfl

set_option maxRecDepth 100000 in
set_option maxHeartbeats 1600000 in
theorem l5Find_any (a : Option Addr) (N k : Nat) (T : Nat → GM) (x v : Int) (w : World) (hg : NV w a N T) (hN : N ≤ 1048576) (hv : IsFd N T x v) :
    Calls Try.prog 170 #[.slice a N k, .int .i64 x] w fun e w' => e = .returned (.int .i64 v) ∧ w = w' := by
  have G := Lib.hid hg; have HV := Lib.hid hv
  clear hg hv
  go_enter Try.func170, Try.ntmps170
  go_wp2
  go_loop [5] (fun p => ∃ i : Nat, i ≤ N ∧ p = .int .i64 (i : Int) ∧ Hid (∀ j, j < i → ¬ (T j).at_ = x)) (fun p => N - (intOf p).toNat)
  case atStart => exact ⟨0, Nat.zero_le _, rfl, Lib.hid (fun j hj => by omega)⟩
  case round =>
    obtain ⟨i, hi, rfl, HD⟩ := hrel
    by_cases hlt : i < N
    · have hlt' : (i : Int) < (N : Int) := by omega
      have hi0 : (0 : Int) ≤ (i : Int) := by omega
      rcases G.out with h0 | ⟨b, q, rfl, hg⟩
      · omega
      have lt := hg.lt
      obtain ⟨x0, x1, x2, x3, x4⟩ := hg.six i hlt
      clear hg
      by_cases hx : (T i).at_ = x
      · have hx' : ((T i).at_ == x) = true := by simpa using hx
        obtain rfl : v = (i : Int) := isFd_first HV.out hlt hx HD.out
        clear hx
        go_wp2
        go_ret
        exact ⟨rfl, rfl⟩
      · have hx' : ((T i).at_ == x) = false := by simpa using hx
        have HD' : Hid (∀ j, j < i + 1 → ¬ (T j).at_ = x) := Lib.hid fun j hj => by
          rcases Nat.lt_succ_iff_lt_or_eq.mp hj with h1 | h1
          · exact HD.out j h1
          · subst h1; exact hx
        clear hx HD
        go_wp2
        go_round
        case rel => first | exact ⟨i + 1, by omega, by go_num, HD'⟩ | ((repeat apply Exists.intro); exact ⟨⟨i + 1, by omega, by go_num, HD'⟩, rfl⟩)
        case measure => simp [intOf]; omega
    · have hlt' : ¬ (i : Int) < (N : Int) := by omega
      obtain rfl : v = -1 := isFd_none HV.out fun j hj => HD.out j (by omega)
      go_wp2
      go_ret
      exact ⟨rfl, rfl⟩

set_option maxRecDepth 100000 in
set_option maxHeartbeats 3200000 in
theorem l5Leads_any (g : Nat) (te qu ha : Int) (sa : Option Addr) (M kc : Nat) (S : Nat → SL) (na : Option Addr) (K nc : Nat) (T : Nat → GM) (r : Bool) (w : World)
    (hB : Blk w g [.int .i64 te, .int .i64 qu, .int .i64 ha, .slice sa M kc, .slice na K nc]) (hp : PV w sa M S) (hg : NV w na K T) (hM : M ≤ 1000) (hK : K ≤ 1000) (hn : ∀ i, i < K → IsNode (T i) 0) (hr : r = true ↔ MLead M S K T) :
    Calls Try.prog 109 #[.pointer (some ⟨g, 0, none⟩)] w (RetBool w r) := by
  have B := Lib.hid hB; have P := Lib.hid hp; have G := Lib.hid hg; have HN := Lib.hid hn; have HR := Lib.hid hr
  clear hB hp hg hn hr
  go_enter Try.func109, Try.ntmps109
  go_wp2
  go_loopw [2, 3] (fun u p wr => ∃ i : Nat, i ≤ M ∧ p = .int .i64 (i : Int) ∧ Hid (Below w.heap.size w wr) ∧ Hid (∀ j, j < i → (S j).nd = 0 ∨ Has K T (S j).nd)) (fun _ p _ => M - (intOf p).toNat)
  case atStart => exact ⟨0, Nat.zero_le _, rfl, Below.refl _ _, Lib.hid (fun j hj => by omega)⟩
  case round =>
    obtain ⟨i, hi, rfl, HBr, HD⟩ := hrel
    have b3 := (B.out.below HBr.out).at 3 rfl; have b4 := (B.out.below HBr.out).at 4 rfl; have lB := (B.out.below HBr.out).1
    by_cases hlt : i < M
    · have hlt' : (i : Int) < (M : Int) := by omega
      have hi0 : (0 : Int) ≤ (i : Int) := by omega
      rcases P.out.below HBr.out with h0 | ⟨b, q, rfl, hg⟩
      · omega
      have lt := hg.lt
      obtain ⟨x0, x1⟩ := hg.two i hlt
      clear hg
      have HNX : Hid ((S i).nd = 0 ∨ Has K T (S i).nd → ∀ j, j < i + 1 → (S j).nd = 0 ∨ Has K T (S j).nd) := Lib.hid fun h j hj => by
        rcases Nat.lt_succ_iff_lt_or_eq.mp hj with h1 | h1
        · exact HD.out j h1
        · subst h1; exact h
      have HNO : Hid (¬ ((S i).nd = 0 ∨ Has K T (S i).nd) → r = false) := Lib.hid fun h => by
        cases hq : r
        · rfl
        · exact absurd ((HR.out.1 hq).1 i hlt) h
      by_cases hx : (S i).nd = 0
      · have hx' : ((S i).nd != 0) = false := by simpa using hx
        have HD' := Lib.hid (HNX.out (.inl hx))
        clear hx HD HNX HNO
        go_wp2_with fail
        go_quiet (fail)
        go_wp2
        exact ⟨⟨i + 1, by omega, by go_num, Lib.hid (below_drewN HBr.out _), HD'⟩, by simp [intOf]; omega⟩
      · have hx' : ((S i).nd != 0) = true := by simpa using hx
        have HX := Lib.hid hx
        obtain ⟨v, hv⟩ := isFd_some K T (S i).nd
        have HV := Lib.hid hv
        have G1 := Lib.hid (G.out.below HBr.out)
        rcases isFd_has hv with ⟨h0, hh⟩ | ⟨h0, hh⟩
        · have HD' := Lib.hid (HNX.out (.inr hh))
          have hv0 : ¬ v < 0 := by omega
          clear hx HD HNX HNO hv hh
          go_wp2_with fail
          go_quiet (exact Calls.quiet_of_same (Calls.mono (l5Find_any na K nc T (S i).nd v _ (G1.out.below (drewN_below _ _)) (show K ≤ 1048576 by omega) HV.out) fun _ _ h => ⟨h.1, h.2.symm⟩))
          go_wp2
          exact ⟨⟨i + 1, by omega, by go_num, Lib.hid (below_drewN HBr.out _), HD'⟩, by simp [intOf]; omega⟩
        · obtain rfl := HNO.out (fun h => h.elim hx hh)
          have hv0 : v < 0 := by omega
          clear hx HD HNX HNO hv hh
          go_wp2_with fail
          go_quiet (first | exact Calls.quiet_of_same (Calls.mono (l5Find_any na K nc T (S i).nd v _ (G1.out.below (drewN_below _ _)) (show K ≤ 1048576 by omega) HV.out) fun _ _ h => ⟨h.1, h.2.symm⟩))
          go_wp2
          go_ret
          exact ⟨rfl, below_drewN HBr.out _⟩
    · have hlt' : ¬ (i : Int) < (M : Int) := by omega
      obtain rfl : i = M := by omega
      have HS := Lib.hid (show ∀ j, j < i → (S j).nd = 0 ∨ Has K T (S j).nd from HD.out)
      have HB0 := HBr
      clear HD HBr
      go_wp2
      go_loopw [2, 4] (fun u p wr => ∃ j : Nat, j ≤ K ∧ p = .int .i64 (j : Int) ∧ Hid (Below w.heap.size w wr) ∧ Hid (∀ i, i < j → ∀ k, k < (T i).n → IsP (T i) k → (T i).f k = 0 ∨ Has K T ((T i).f k))) (fun _ p _ => K - (intOf p).toNat)
      case atStart => exact ⟨0, Nat.zero_le _, rfl, HB0, Lib.hid (fun j hj => by omega)⟩
      case round =>
        obtain ⟨j, hj, rfl, HBr, HD⟩ := hrel
        have b3 := (B.out.below HBr.out).at 3 rfl; have b4 := (B.out.below HBr.out).at 4 rfl; have lB := (B.out.below HBr.out).1
        by_cases hlt : j < K
        · have hlt' : (j : Int) < (K : Int) := by omega
          have hj0 : (0 : Int) ≤ (j : Int) := by omega
          rcases G.out.below HBr.out with h0 | ⟨b, q, rfl, hg⟩
          · omega
          have lt := hg.lt
          have six := hg.six j hlt
          have FV := Lib.hid six
          have SR := Lib.hid (hg.flds j hlt)
          clear hg six
          have HNI := Lib.hid (isNode_zero (HN.out j hlt))
          obtain ⟨t, ht⟩ : ∃ t, T j = t := ⟨_, rfl⟩
          rw [ht] at HNI
          have FV' : Hid (FivG wr b (q + j * 5) t) := Lib.hid (by rw [← ht]; exact FV.out)
          have SR' : Hid (Src wr t.a t.n t.f) := Lib.hid (by rw [← ht]; exact SR.out)
          have HT := Lib.hid ht
          have HRF : Hid (r = true → ∀ k, k < t.n → IsP t k → t.f k = 0 ∨ Has K T (t.f k)) := Lib.hid (by rw [← ht]; exact fun h => (HR.out.1 h).2 j hlt)
          have HDN : Hid ((∀ k, k < t.n → IsP t k → t.f k = 0 ∨ Has K T (t.f k)) → ∀ i, i < j + 1 → ∀ k, k < (T i).n → IsP (T i) k → (T i).f k = 0 ∨ Has K T ((T i).f k)) := Lib.hid (by
            rw [← ht]
            intro h i hi
            rcases Nat.lt_succ_iff_lt_or_eq.mp hi with h1 | h1
            · exact HD.out i h1
            · subst h1; exact h)
          clear ht FV SR HD
          go_wp2_with fail
          refine (l5Head_any b (q + j * 5) t _ FV'.out lt).mono ?_
          rintro e w1 ⟨rfl, hb⟩
          have HB1 := Lib.hid (thru0 HBr.out hb)
          have F1 := Lib.hid ((FV'.out.below hb lt).below ((Below.refl _ _).alloc (Nat.le_refl _) (.cells #[.int .i64 t.s, .int .i64 t.m, .int .i64 0, .int .i64 t.h] 101)) (by have := hb.size; omega))
          have S1 := Lib.hid ((SR'.out.below hb).alloc (.cells #[.int .i64 t.s, .int .i64 t.m, .int .i64 0, .int .i64 t.h] 101))
          have HB2 : Hid (Below w.heap.size w (w1.alloc (.cells #[.int .i64 t.s, .int .i64 t.m, .int .i64 0, .int .i64 t.h] 101))) := Lib.hid (HB1.out.alloc HB1.out.size _)
          have K1 := Lib.hid (Blk.new_at (w := w1) (cs := #[.int .i64 t.s, .int .i64 t.m, .int .i64 0, .int .i64 t.h]) (t := 101) w1.heap.size rfl)
          have lb1 : b < w1.heap.size := by have := hb.size; omega
          clear hb b3 b4 lB lt FV' SR' HB1 HBr
          obtain ⟨ta, hta⟩ : ∃ ta, t.a = ta := ⟨_, rfl⟩
          have HTA := Lib.hid hta
          rw [hta] at S1
          clear hta
          have hsz : (t.n : Int) = t.s := HNI.out.2.1
          have hs12 : t.s ≤ 12 := HNI.out.1.2.1.2
          have HM : Hid (0 ≤ t.m ∧ t.m ≤ 4095) := Lib.hid (by have h1 := HNI.out.1.2.2.1; have h2 := P2_le hs12; omega)
          have HSZ := Lib.hid hsz
          clear hsz
          go_wp2
          go_loopw [2, 7] (fun u p wr => ∃ k : Nat, k ≤ t.n ∧ p = .int .i64 (k : Int) ∧ Hid (Below w.heap.size w wr) ∧ Hid (FivG wr b (q + j * 5) t) ∧ Hid (Src wr ta t.n t.f) ∧ Hid (Blk wr w1.heap.size [.int .i64 t.s, .int .i64 t.m, .int .i64 0, .int .i64 t.h]) ∧ Hid (∀ i, i < k → IsP t i → t.f i = 0 ∨ Has K T (t.f i)) ∧ w1.heap.size < wr.heap.size) (fun _ p _ => t.n - (intOf p).toNat)
          case atStart => exact ⟨0, Nat.zero_le _, rfl, HB2, F1, S1, K1, Lib.hid (fun i hi => by omega), by simp⟩
          case round =>
            obtain ⟨k, hk, rfl, HBr, XR, SR, BK, HP, l1q⟩ := hrel
            have lr : b < wr.heap.size := by omega
            obtain ⟨x0, x1, x2, x3, x4⟩ := XR.out
            rw [HTA.out] at x4
            have b4 := (B.out.below HBr.out).at 4 rfl; have lB := (B.out.below HBr.out).1
            have z1 := BK.out.at 1 rfl
            have hk0 : (0 : Int) ≤ (k : Int) := by omega
            by_cases hkn : k < t.n
            · have hks : (k : Int) < t.s := by have := HSZ.out; omega
              have hkn' : (k : Int) < (t.n : Int) := by omega
              rcases SR.out with h0 | ⟨b', o', rfl, hb', hc'⟩
              · omega
              have hck := hc' k hkn
              have HPN : Hid ((IsP t k → t.f k = 0 ∨ Has K T (t.f k)) → ∀ i, i < k + 1 → IsP t i → t.f i = 0 ∨ Has K T (t.f i)) := Lib.hid fun h i hi => by
                rcases Nat.lt_succ_iff_lt_or_eq.mp hi with h1 | h1
                · exact HP.out i h1
                · subst h1; exact h
              have G1 := Lib.hid (G.out.below HBr.out)
              rcases (show IsP t k ∨ t.m / P2 (k : Int) % 2 = 0 by unfold IsP; omega) with hd | hd
              · have HD1 := Lib.hid hd
                unfold IsP at hd
                by_cases hx : t.f k = 0
                · have hx' : (t.f k != 0) = false := by simpa using hx
                  have HP' := Lib.hid (HPN.out fun _ => .inl hx)
                  clear hx HPN HP
                  go_wp2_with fail
                  go_quiet (first | exact Calls.quiet_of (l2Pointer_at w1.heap.size 0 k t.m true _ (((drewN_below wr _).cell (p := ⟨w1.heap.size, 0 + 1, none⟩) l1q).trans z1) HM.out (by omega) (by rw [hd]; rfl)))
                  clear hd
                  go_wp2
                  first | (exact ⟨⟨k + 1, by omega, by go_num, Lib.hid (below_drewN HBr.out _), Lib.hid (XR.out.below (drewN_below _ _) lr), Lib.hid (SR.out.below (drewN_below _ _)), Lib.hid (BK.out.below (drewN_below _ _)), HP', by have := (drewN_below wr nq).size; omega⟩, by simp [intOf]; omega⟩)
                · have hx' : (t.f k != 0) = true := by simpa using hx
                  obtain ⟨v, hv⟩ := isFd_some K T (t.f k)
                  have HV := Lib.hid hv
                  rcases isFd_has hv with ⟨h0, hh⟩ | ⟨h0, hh⟩
                  · have HP' := Lib.hid (HPN.out fun _ => .inr hh)
                    have hv0 : ¬ v < 0 := by omega
                    clear hx HPN HP hv hh
                    go_wp2_with fail
                    go_quiet (first | exact Calls.quiet_of (l2Pointer_at w1.heap.size 0 k t.m true _ (((drewN_below wr _).cell (p := ⟨w1.heap.size, 0 + 1, none⟩) l1q).trans z1) HM.out (by omega) (by rw [hd]; rfl)) | exact Calls.quiet_of_same (Calls.mono (l5Find_any _ K nc T (t.f k) v _ (G1.out.below (drewN_below _ _)) (show K ≤ 1048576 by omega) HV.out) fun _ _ h => ⟨h.1, h.2.symm⟩))
                    clear hd
                    go_wp2
                    first | (exact ⟨⟨k + 1, by omega, by go_num, Lib.hid (below_drewN HBr.out _), Lib.hid (XR.out.below (drewN_below _ _) lr), Lib.hid (SR.out.below (drewN_below _ _)), Lib.hid (BK.out.below (drewN_below _ _)), HP', by have := (drewN_below wr nq).size; omega⟩, by simp [intOf]; omega⟩)
                  · have hrf : Hid (r = false) := Lib.hid (by
                      cases hq : r
                      · rfl
                      · exact absurd (HRF.out hq k hkn HD1.out) (fun h => h.elim hx hh))
                    have hv0 : v < 0 := by omega
                    clear hx HPN HP hv hh
                    go_wp2_with fail
                    go_quiet (first | exact Calls.quiet_of (l2Pointer_at w1.heap.size 0 k t.m true _ (((drewN_below wr _).cell (p := ⟨w1.heap.size, 0 + 1, none⟩) l1q).trans z1) HM.out (by omega) (by rw [hd]; rfl)) | exact Calls.quiet_of_same (Calls.mono (l5Find_any _ K nc T (t.f k) v _ (G1.out.below (drewN_below _ _)) (show K ≤ 1048576 by omega) HV.out) fun _ _ h => ⟨h.1, h.2.symm⟩))
                    clear hd
                    go_wp2
                    go_ret
                    exact ⟨by rw [hrf.out]; rfl, below_drewN HBr.out _⟩
              · have HP' := Lib.hid (HPN.out fun h => by unfold IsP at h; omega)
                clear HPN HP
                go_wp2_with fail
                go_quiet (first | exact Calls.quiet_of (l2Pointer_at w1.heap.size 0 k t.m false _ (((drewN_below wr _).cell (p := ⟨w1.heap.size, 0 + 1, none⟩) l1q).trans z1) HM.out (by omega) (by rw [hd]; rfl)))
                clear hd
                go_wp2
                first | (exact ⟨⟨k + 1, by omega, by go_num, Lib.hid (below_drewN HBr.out _), Lib.hid (XR.out.below (drewN_below _ _) lr), Lib.hid (SR.out.below (drewN_below _ _)), Lib.hid (BK.out.below (drewN_below _ _)), HP', by have := (drewN_below wr nq).size; omega⟩, by simp [intOf]; omega⟩)
            · have hks : ¬ (k : Int) < t.s := by have := HSZ.out; omega
              have HD' := Lib.hid (HDN.out (fun i hi => HP.out i (by omega)))
              clear HP z1 x0 x2 x3 x4
              go_wp2
              exact ⟨⟨j + 1, by omega, by go_num, HBr, HD'⟩, by simp [intOf]; omega⟩
        · have hlt' : ¬ (j : Int) < (K : Int) := by omega
          have hrt : Hid (r = true) := Lib.hid (HR.out.2 ⟨HS.out, fun i hi => HD.out i (by omega)⟩)
          go_wp2
          go_ret
          exact ⟨by rw [hrt.out]; rfl, HBr.out⟩
end Go.Proofs.Ytihbenbfnpiikaa

namespace Go.Proofs.Ytihbenbfnpiikaa
open Go.RowKit
set_option linter.unusedVariables false

set_option maxRecDepth 100000 in
theorem nw1_any (t : GM) (at_ : Int) (w : World) : Calls Try.prog 204 #[.agg #[.int .i64 t.at_, .int .i64 t.s, .int .i64 t.m, .int .i64 t.h, .slice t.a t.n t.c], .int .i64 at_] w (fun e w' => e = .returned (.int .i64 (sgn t.at_ at_)) ∧ Below w.heap.size w w') := by
  go_enter Try.func204, Try.ntmps204
  go_wp2_with (go_at_call 205; refine (compare_any t.at_ at_ _).mono ?_; rintro e w1 ⟨rfl, hb1⟩)
  go_ret
  exact ⟨rfl, ((Below.refl _ _).alloc (Nat.le_refl _) _).trans (hb1.mono (by simp))⟩

set_option maxRecDepth 100000 in
set_option maxHeartbeats 1600000 in
theorem bsn_any (a : Option Addr) (N k : Nat) (T : Nat → GM) (at_ : Int) (w : World) (hg : NV w a N T) (hN : N ≤ 1048576) (hm : ∀ i j, i < j → j < N → (T i).at_ < (T j).at_) :
    Calls Try.prog 203 #[.slice a N k, .int .i64 at_, .func (.func 204) #[] #[]] w (fun e w' => ∃ i : Nat, i ≤ N ∧ Cut T N at_ i i ∧ e = .returned (.tuple #[.int .i64 (i : Int), .bool (decide (i < N ∧ (T i).at_ = at_))]) ∧ Below w.heap.size w w') := by
  have G := Lib.hid hg; have HM := Lib.hid hm
  clear hg hm
  have eg : ∀ args w, (callFunc 204 args).run Try.prog w = .ok (.enter 204 args) w := enters_of Try.func204 (by kernel_rfl) rfl
  go_enter Try.func203, Try.ntmps203
  go_wp2
  go_loopw [9, 10] (fun p r wr => ∃ lo hi : Nat, p = .int .i64 (lo : Int) ∧ r = .int .i64 (hi : Int) ∧ lo ≤ hi ∧ hi ≤ N ∧ Hid (Cut T N at_ lo hi) ∧ Hid (Below w.heap.size w wr)) (fun p r _ => (intOf r).toNat - (intOf p).toNat)
  case atStart => exact ⟨0, N, rfl, rfl, Nat.zero_le _, Nat.le_refl _, ⟨fun j hj => by omega, fun j h1 h2 => by omega⟩, Below.refl _ _⟩
  case round =>
    obtain ⟨lo, hi, rfl, rfl, hlh, hin, HC, HBr⟩ := hrel
    by_cases hlt : lo < hi
    · have hlt' : (lo : Int) < (hi : Int) := by omega
      obtain ⟨b, q, rfl, gs⟩ : ∃ b q, a = some ⟨b, q, none⟩ ∧ NSrc w b q N T := by
        rcases G.out with h0 | h
        · omega
        · exact h
      have fiv := (gs.six ((lo + hi) / 2) (by omega)).below HBr.out gs.lt
      have HS := Lib.hid fiv
      clear fiv gs
      obtain ⟨s0, s1, s2, s3, s4⟩ := HS.out
      by_cases hx : (T ((lo + hi) / 2)).at_ < at_
      · have hs : sgn (T ((lo + hi) / 2)).at_ at_ < 0 := by unfold sgn; rw [if_pos hx]; omega
        have C1 : Hid (Cut T N at_ ((lo + hi) / 2 + 1) hi) := Lib.hid ⟨fun j hj => by
          rcases Nat.lt_or_ge j ((lo + hi) / 2) with h | h
          · exact Int.lt_trans (HM.out j _ h (by omega)) hx
          · rw [show j = (lo + hi) / 2 by omega]; exact hx, HC.out.2⟩
        clear hx HC
        go_wp2_with (go_at_fn 204; refine (nw1_any (T _) at_ _).mono ?_; rintro e w1 ⟨rfl, hb1⟩)
        clear hs s0 s1 s2 s3 s4 HS
        have HB1 := Lib.hid (HBr.out.trans ((Below.refl _ _).trans (hb1.mono HBr.out.size)))
        clear hb1
        go_roundw
        case measure => simp [intOf]; omega
        case rel => exact ⟨(lo + hi) / 2 + 1, hi, by go_num, rfl, by omega, hin, C1, HB1⟩
      · have hs : ¬ sgn (T ((lo + hi) / 2)).at_ at_ < 0 := by unfold sgn; rw [if_neg hx]; split <;> omega
        have C1 : Hid (Cut T N at_ lo ((lo + hi) / 2)) := Lib.hid ⟨HC.out.1, fun j h1 h2 => by
          rcases Nat.lt_or_ge ((lo + hi) / 2) j with h | h
          · exact Int.le_of_lt (Int.lt_of_le_of_lt (by omega) (HM.out _ j h h2))
          · rw [show j = (lo + hi) / 2 by omega]; omega⟩
        clear hx HC
        go_wp2_with (go_at_fn 204; refine (nw1_any (T _) at_ _).mono ?_; rintro e w1 ⟨rfl, hb1⟩)
        clear hs s0 s1 s2 s3 s4 HS
        have HB1 := Lib.hid (HBr.out.trans ((Below.refl _ _).trans (hb1.mono HBr.out.size)))
        clear hb1
        go_roundw
        case measure => simp [intOf]; omega
        case rel => exact ⟨lo, (lo + hi) / 2, rfl, by go_num, by omega, by omega, C1, HB1⟩
    · obtain rfl : hi = lo := by omega
      have hlt' : ¬ (hi : Int) < (hi : Int) := by omega
      by_cases hn : hi < N
      · have hn' : (hi : Int) < (N : Int) := by omega
        obtain ⟨b, q, rfl, gs⟩ : ∃ b q, a = some ⟨b, q, none⟩ ∧ NSrc w b q N T := by
          rcases G.out with h0 | h
          · omega
          · exact h
        have fiv := (gs.six hi hn).below HBr.out gs.lt
        have HS := Lib.hid fiv
        clear fiv gs
        obtain ⟨s0, s1, s2, s3, s4⟩ := HS.out
        obtain ⟨t, ht⟩ : ∃ t, T hi = t := ⟨_, rfl⟩
        rw [ht] at s0 s1 s2 s3 s4
        have HT := Lib.hid ht
        clear ht HS
        have hd : Hid ((sgn t.at_ at_ == 0) = decide (hi < N ∧ (T hi).at_ = at_)) := Lib.hid (by
          rw [HT.out]
          by_cases hx : t.at_ = at_
          · have : sgn t.at_ at_ = 0 := by unfold sgn; rw [if_neg (by omega), if_neg (by omega)]
            rw [this, decide_eq_true ⟨hn, hx⟩]; rfl
          · have : ¬ sgn t.at_ at_ = 0 := by unfold sgn; split; omega; split <;> omega
            rw [decide_eq_false (fun h => hx h.2)]; simpa using this)
        go_wp2_with (go_at_fn 204; refine (nw1_any t at_ _).mono ?_; rintro e w1 ⟨rfl, hb1⟩)
        have HB1 := Lib.hid (HBr.out.trans ((Below.refl _ _).trans (hb1.mono HBr.out.size)))
        go_ret2
        exact ⟨hi, hin, HC.out, by rw [← hd.out]; rfl, HB1.out⟩
      · have hn' : ¬ (hi : Int) < (N : Int) := by omega
        have hd : Hid (false = decide (hi < N ∧ (T hi).at_ = at_)) := Lib.hid (decide_eq_false (fun h => hn h.1)).symm
        go_wp2
        go_ret2
        refine ⟨hi, hin, HC.out, ?_, HBr.out⟩
        rw [decide_eq_false hn]; rfl
end Go.Proofs.Ytihbenbfnpiikaa

namespace Go.Proofs.Ytihbenbfnpiikaa
open Go.RowKit
set_option linter.unusedVariables false

/-- A pointer to the node of this number, or none. -/
def RetNW (W : World) (a : Option Addr) (N : Nat) (T : Nat → GM) (x : Int) (e : Ending) (w' : World) : Prop :=
  Below W.heap.size W w' ∧ ((∃ i b q, i < N ∧ (T i).at_ = x ∧ a = some ⟨b, q, none⟩ ∧ e = .returned (.pointer (some ⟨b, q + i * 5, none⟩))) ∨ (¬ Has N T x ∧ e = .returned (.pointer none)))

set_option maxRecDepth 100000 in
set_option maxHeartbeats 1600000 in
theorem nodeWith_any (a : Option Addr) (N k : Nat) (T : Nat → GM) (x : Int) (w : World) (hg : NV w a N T) (hN : N ≤ 1048576) (hm : ∀ i j, i < j → j < N → (T i).at_ < (T j).at_) :
    Calls Try.prog 164 #[.slice a N k, .int .i64 x] w (RetNW w a N T x) := by
  have G := Lib.hid hg; have HM := Lib.hid hm
  clear hg hm
  go_enter Try.func164, Try.ntmps164
  go_wp2_with fail
  refine (bsn_any a N k T x _ G.out hN HM.out).mono ?_
  rintro e w1 ⟨i, hi, hc, rfl, hb⟩
  have HB1 := Lib.hid (thru0 (Below.refl _ _) hb)
  have G1 := Lib.hid (G.out.below hb)
  clear hb
  have HC := Lib.hid hc
  clear hc
  by_cases hx : i < N ∧ (T i).at_ = x
  · rw [decide_eq_true hx]
    obtain ⟨b, q, rfl, gs⟩ : ∃ b q, a = some ⟨b, q, none⟩ ∧ NSrc w1 b q N T := by
      rcases G1.out with h0 | h
      · omega
      · exact h
    have HS := Lib.hid (gs.six i hx.1)
    clear gs
    have hi' : (i : Int) < (N : Int) := by omega
    have hi0 : (0 : Int) ≤ (i : Int) := by omega
    obtain ⟨s0, s1, s2, s3, s4⟩ := HS.out
    have HX := Lib.hid hx
    clear hx
    go_wp2
    go_ret
    exact ⟨HB1.out, .inl ⟨i, b, q, HX.out.1, HX.out.2, rfl, rfl⟩⟩
  · rw [decide_eq_false hx]
    have HP : Hid (¬ Has N T x) := Lib.hid (fun ⟨j, hj, he⟩ => by
      rcases Nat.lt_or_ge j i with h | h
      · have := HC.out.1 j h; omega
      · have h2 := HC.out.2 i (Nat.le_refl _) (by omega)
        rcases Nat.lt_or_ge i j with h3 | h3
        · have := HM.out i j h3 hj; omega
        · exact hx ⟨by omega, by rw [show i = j by omega]; exact he⟩)
    clear hx HC
    go_wp2
    go_ret
    exact ⟨HB1.out, .inr ⟨HP.out, rfl⟩⟩

/-- A number that leads nowhere. -/
def Stray (N : Nat) (T : Nat → GM) (x : Int) : Prop := ¬ x = 0 ∧ ¬ Has N T x

/-- What the closure reads. -/
structure CapN (w : World) (rb : Nat) (a : Option Addr) (N k : Nat) (T : Nat → GM) : Prop where
  blk : Blk w rb [.slice a N k]
  nv : NV w a N T

theorem CapN.below {w w' : World} {rb N k : Nat} {a : Option Addr} {T : Nat → GM} (h : CapN w rb a N k T) (hb : Below w.heap.size w w') : CapN w' rb a N k T := ⟨h.blk.below hb, h.nv.below hb⟩

set_option maxRecDepth 100000 in
set_option maxHeartbeats 800000 in
theorem stray1_any (rb : Nat) (a : Option Addr) (N k : Nat) (T : Nat → GM) (x : Int) (r : Bool) (w : World) (h : CapN w rb a N k T) (hN : N ≤ 1048576) (hm : ∀ i j, i < j → j < N → (T i).at_ < (T j).at_) (hr : r = true ↔ Stray N T x) :
    Calls Try.prog 201 #[.int .i64 x, .pointer (some ⟨rb, 0, none⟩)] w (RetBool w r) := by
  have H := Lib.hid h; have HM := Lib.hid hm; have HR := Lib.hid hr
  clear h hm hr
  have c0 := H.out.blk.at 0 rfl; have l0 := H.out.blk.1
  by_cases hx : x = 0
  · obtain rfl : r = false := by
      cases r
      · rfl
      · exact absurd hx (HR.out.1 rfl).1
    subst hx
    go_enter Try.func201, Try.ntmps201
    go_wp2
    go_ret
    exact ⟨rfl, Below.refl _ _⟩
  · have hx' : (x != 0) = true := by simpa using hx
    go_enter Try.func201, Try.ntmps201
    go_wp2_with fail
    refine (nodeWith_any a N k T x _ H.out.nv hN HM.out).mono ?_
    rintro e w1 ⟨hb, hres⟩
    have HB1 := Lib.hid hb
    clear hb
    rcases hres with ⟨i, b, q, hi, he, rfl, rfl⟩ | ⟨hno, rfl⟩
    · obtain rfl : r = false := by
        cases r
        · rfl
        · exact absurd ⟨i, hi, he⟩ (HR.out.1 rfl).2
      go_wp2
      go_ret
      exact ⟨rfl, HB1.out⟩
    · obtain rfl : r = true := HR.out.2 ⟨hx, hno⟩
      go_wp2
      go_ret
      exact ⟨rfl, HB1.out⟩

/-- slices.IndexFunc over numbers with that closure: the first that leads nowhere. -/
def RetIx (W : World) (n : Nat) (f : Nat → Int) (N : Nat) (T : Nat → GM) (e : Ending) (w' : World) : Prop :=
  Below W.heap.size W w' ∧ (((∀ j, j < n → ¬ Stray N T (f j)) ∧ e = .returned (.int .i64 (-1))) ∨ ∃ i : Nat, i < n ∧ Stray N T (f i) ∧ e = .returned (.int .i64 (i : Int)))

set_option maxRecDepth 100000 in
set_option maxHeartbeats 1600000 in
theorem index64_any (ia : Option Addr) (n c : Nat) (f : Nat → Int) (rb : Nat) (a : Option Addr) (N k : Nat) (T : Nat → GM) (w : World) (hs : Src w ia n f) (hn : n ≤ 1048576) (hc : CapN w rb a N k T) (hN : N ≤ 1048576) (hm : ∀ i j, i < j → j < N → (T i).at_ < (T j).at_) :
    Calls Try.prog 217 #[.slice ia n c, .func (.func 201) #[] #[.pointer (some ⟨rb, 0, none⟩)]] w (RetIx w n f N T) := by
  have S0 := Lib.hid hs; have HC := Lib.hid hc; have HM := Lib.hid hm
  have eg : ∀ args w, (callFunc 201 args).run Try.prog w = .ok (.enter 201 args) w := enters_of Try.func201 (by kernel_rfl) rfl
  clear hs hc hm
  go_enter Try.func217, Try.ntmps217
  go_wp2
  go_loopw [8] (fun p wr => ∃ i : Nat, i ≤ n ∧ p = .int .i64 (i : Int) ∧ Hid (Below w.heap.size w wr) ∧ Hid (∀ j, j < i → ¬ Stray N T (f j))) (fun p _ => n - (intOf p).toNat)
  case atStart => exact ⟨0, Nat.zero_le _, rfl, Below.refl _ _, Lib.hid (fun j hj => by omega)⟩
  case round =>
    obtain ⟨i, hi, rfl, HBr, HD⟩ := hrel
    by_cases hlt : i < n
    · have hlt' : (i : Int) < (n : Int) := by omega
      have hi0 : (0 : Int) ≤ (i : Int) := by omega
      rcases S0.out.below HBr.out with h0 | ⟨b, o, rfl, lb, hc⟩
      · omega
      have hci := hc i hlt
      have HCR := Lib.hid (HC.out.below HBr.out)
      clear hc
      by_cases hin : Stray N T (f i)
      · have HF : Hid (∃ i' : Nat, i' < n ∧ Stray N T (f i') ∧ Ending.returned (.int .i64 (i : Int)) = Ending.returned (.int .i64 (i' : Int))) := Lib.hid ⟨i, hlt, hin, rfl⟩
        have HIN := Lib.hid (show true = true ↔ Stray N T (f i) by simp [hin])
        clear hin
        go_wp2_with (go_at_fn 201; refine (stray1_any rb a N k T (f i) true _ HCR.out hN HM.out HIN.out).mono ?_; rintro e w1 ⟨rfl, hb⟩; have HB1 := Lib.hid (thru0 HBr.out hb); clear hb)
        go_ret
        exact ⟨HB1.out, .inr HF.out⟩
      · have HD' : Hid (∀ j, j < i + 1 → ¬ Stray N T (f j)) := Lib.hid fun j hj => by
          rcases Nat.lt_succ_iff_lt_or_eq.mp hj with h1 | h1
          · exact HD.out j h1
          · subst h1; exact hin
        have HIN := Lib.hid (show false = true ↔ Stray N T (f i) by simp [hin])
        clear hin HD
        go_wp2_with (go_at_fn 201; refine (stray1_any rb a N k T (f i) false _ HCR.out hN HM.out HIN.out).mono ?_; rintro e w1 ⟨rfl, hb⟩; have HB1 := Lib.hid (thru0 HBr.out hb); clear hb)
        clear hci
        go_roundw
        case rel => first | exact ⟨i + 1, by omega, by go_num, HB1, HD'⟩ | ((repeat apply Exists.intro); exact ⟨⟨i + 1, by omega, by go_num, HB1, HD'⟩, rfl⟩)
        case measure => simp [intOf]; omega
    · have hlt' : ¬ (i : Int) < (n : Int) := by omega
      go_wp2
      go_ret
      exact ⟨HBr.out, .inl ⟨fun j hj => HD.out j (by omega), rfl⟩⟩

set_option maxRecDepth 100000 in
set_option maxHeartbeats 400000 in
theorem contains64_any (ia : Option Addr) (n c : Nat) (f : Nat → Int) (rb : Nat) (a : Option Addr) (N k : Nat) (T : Nat → GM) (r : Bool) (w : World) (hs : Src w ia n f) (hn : n ≤ 1048576) (hc : CapN w rb a N k T) (hN : N ≤ 1048576) (hm : ∀ i j, i < j → j < N → (T i).at_ < (T j).at_) (hr : r = true ↔ ∃ i, i < n ∧ Stray N T (f i)) :
    Calls Try.prog 200 #[.slice ia n c, .func (.func 201) #[] #[.pointer (some ⟨rb, 0, none⟩)]] w (RetBool w r) := by
  have HR := Lib.hid hr
  clear hr
  go_enter Try.func200, Try.ntmps200
  go_wp2_with fail
  refine (index64_any ia n c f rb a N k T _ hs hn hc hN hm).mono ?_
  rintro e w1 ⟨hb, hres⟩
  have HB1 := Lib.hid hb
  clear hb
  rcases hres with ⟨hno, rfl⟩ | ⟨i, hi, hin, rfl⟩
  · obtain rfl : r = false := by
      cases r
      · rfl
      · obtain ⟨i, hi, h⟩ := HR.out.1 rfl
        exact absurd h (hno i hi)
    go_wp2
    go_ret
    exact ⟨rfl, HB1.out⟩
  · obtain rfl : r = true := HR.out.2 ⟨i, hi, hin⟩
    have hi0 : (0 : Int) ≤ (i : Int) := by omega
    clear hin
    go_wp2
    go_ret
    exact ⟨rfl, HB1.out⟩

set_option maxRecDepth 100000 in
set_option maxHeartbeats 400000 in
theorem strayId_any (a : Option Addr) (N k : Nat) (T : Nat → GM) (ia : Option Addr) (n c : Nat) (f : Nat → Int) (r : Bool) (w : World) (hg : NV w a N T) (hN : N ≤ 1048576) (hm : ∀ i j, i < j → j < N → (T i).at_ < (T j).at_) (hs : Src w ia n f) (hn : n ≤ 1048576) (hr : r = true ↔ ∃ i, i < n ∧ Stray N T (f i)) :
    Calls Try.prog 157 #[.slice a N k, .slice ia n c] w (RetBool w r) := by
  have G0 := Lib.hid hg; have S0 := Lib.hid hs
  have X0 := Lib.hid (Blk.new_at (w := w) (cs := #[.slice a N k]) (t := 54) w.heap.size rfl)
  clear hg hs
  go_enter Try.func157, Try.ntmps157
  go_wp2_with fail
  refine (contains64_any ia n c f w.heap.size a N k T r _ (S0.out.alloc _) hn ⟨X0.out, G0.out.alloc _⟩ hN hm hr).mono ?_
  rintro e w1 ⟨rfl, hb⟩
  have HB1 := Lib.hid (thru1 (Below.refl _ _) hb)
  clear hb
  go_wp2
  go_ret
  exact ⟨rfl, HB1.out⟩
end Go.Proofs.Ytihbenbfnpiikaa

namespace Go.Proofs.Ytihbenbfnpiikaa
open Go.RowKit
set_option linter.unusedVariables false

set_option maxRecDepth 100000 in
set_option maxHeartbeats 6400000 in
theorem specMF_any (te qu ha : Int) (sa : Option Addr) (M kc : Nat) (S : Nat → SL) (na : Option Addr) (K nc : Nat) (T : Nat → GM) (c : Int) (w : World)
    (hp : PV w sa M S) (hg : NV w na K T) (hM : M ≤ 1048576) (hK : K ≤ 1048576) (hn : ∀ i, i < K → (T i).n ≤ 1048576) (hk : IsMF te qu ha M S K T c) :
    Calls Try.prog 44 #[.agg #[.int .i64 te, .int .i64 qu, .int .i64 ha, .slice sa M kc, .slice na K nc]] w (RetInt w c) := by
  have P0 := Lib.hid hp; have G0 := Lib.hid hg; have HN := Lib.hid hn
  clear hp hg hn
  rcases hk with ⟨h1, rfl⟩ | ⟨⟨⟨t1, t2⟩, ⟨t3, t4⟩, t5, t6⟩, hk⟩
  · by_cases g1 : 0 ≤ te ∧ te ≤ 3
    · by_cases g2 : 2 ≤ qu ∧ qu ≤ 200
      · have g3 : ¬ (0 ≤ ha ∧ ha ≤ 99999) := fun h => h1 ⟨g1, g2, h⟩
        go_enter Try.func44, Try.ntmps44
        go_wp2_with fail
        refine (l1In_yes te 0 3 _ g1.1 g1.2).mono ?_
        rintro e w' ⟨rfl, rfl⟩
        go_wp2_with fail
        refine (l1In_yes qu 2 200 _ g2.1 g2.2).mono ?_
        rintro e w' ⟨rfl, rfl⟩
        go_wp2_with fail
        refine (l1In_no ha 0 99999 _ g3).mono ?_
        rintro e w' ⟨rfl, rfl⟩
        go_wp2
        go_ret
        exact ⟨rfl, (Below.refl _ _).alloc (Nat.le_refl _) _⟩
      · go_enter Try.func44, Try.ntmps44
        go_wp2_with fail
        refine (l1In_yes te 0 3 _ g1.1 g1.2).mono ?_
        rintro e w' ⟨rfl, rfl⟩
        go_wp2_with fail
        refine (l1In_no qu 2 200 _ g2).mono ?_
        rintro e w' ⟨rfl, rfl⟩
        go_wp2
        go_ret
        exact ⟨rfl, (Below.refl _ _).alloc (Nat.le_refl _) _⟩
    · go_enter Try.func44, Try.ntmps44
      go_wp2_with fail
      refine (l1In_no te 0 3 _ g1).mono ?_
      rintro e w' ⟨rfl, rfl⟩
      go_wp2
      go_ret
      exact ⟨rfl, (Below.refl _ _).alloc (Nat.le_refl _) _⟩
  · have HK0 := Lib.hid hk
    clear hk
    go_enter Try.func44, Try.ntmps44
    go_wp2_with fail
    refine (l1In_yes te 0 3 _ t1 t2).mono ?_
    rintro e w' ⟨rfl, rfl⟩
    go_wp2_with fail
    refine (l1In_yes qu 2 200 _ t3 t4).mono ?_
    rintro e w' ⟨rfl, rfl⟩
    go_wp2_with fail
    refine (l1In_yes ha 0 99999 _ t5 t6).mono ?_
    rintro e w' ⟨rfl, rfl⟩
    have HB := Lib.hid ((Below.refl w.heap.size w).alloc (Nat.le_refl _) (.cells #[.int .i64 te, .int .i64 qu, .int .i64 ha, .slice sa M kc, .slice na K nc] 56))
    have B0 := Lib.hid (Blk.new_at (w := w) (cs := #[.int .i64 te, .int .i64 qu, .int .i64 ha, .slice sa M kc, .slice na K nc]) (t := 56) w.heap.size rfl)
    have P1 := Lib.hid (P0.out.alloc (.cells #[.int .i64 te, .int .i64 qu, .int .i64 ha, .slice sa M kc, .slice na K nc] 56))
    have G1 := Lib.hid (G0.out.alloc (.cells #[.int .i64 te, .int .i64 qu, .int .i64 ha, .slice sa M kc, .slice na K nc] 56))
    clear P0 G0
    have HW0 := Lib.hid ((Below.refl w.heap.size w).alloc (Nat.le_refl _) (.cells #[.int .i64 te, .int .i64 qu, .int .i64 ha, .slice sa M kc, .slice na K nc] 56))
    generalize w.alloc (.cells #[.int .i64 te, .int .i64 qu, .int .i64 ha, .slice sa M kc, .slice na K nc] 56) = w0 at *
    obtain ⟨b3, b4, lB⟩ := (show w0.cell? ⟨w.heap.size, 3, none⟩ = some (.slice sa M kc) ∧ w0.cell? ⟨w.heap.size, 4, none⟩ = some (.slice na K nc) ∧ w.heap.size < w0.heap.size from ⟨B0.out.at 3 rfl, B0.out.at 4 rfl, B0.out.1⟩)
    by_cases q1 : (M : Int) < 1
    · obtain rfl : c = 2 := by
        rcases HK0.out with ⟨_, h⟩ | ⟨⟨⟨m1, _⟩, _⟩, _⟩
        · exact h
        · omega
      go_wp2
      go_ret
      exact ⟨rfl, HB.out⟩
    by_cases q2 : 8 < (M : Int)
    · obtain rfl : c = 2 := by
        rcases HK0.out with ⟨_, h⟩ | ⟨⟨⟨_, m1⟩, _⟩, _⟩
        · exact h
        · omega
      go_wp2
      go_ret
      exact ⟨rfl, HB.out⟩
    by_cases q3 : 150 < (K : Int)
    · obtain rfl : c = 2 := by
        rcases HK0.out with ⟨_, h⟩ | ⟨⟨_, _, m1⟩, _⟩
        · exact h
        · omega
      go_wp2
      go_ret
      exact ⟨rfl, HB.out⟩
    rcases HK0.out with ⟨h2, _⟩ | ⟨_, hk⟩
    · exact absurd ⟨⟨by omega, by omega⟩, by omega, by omega⟩ h2
    have HK1 := Lib.hid hk
    clear hk HK0
    go_wp2
    clear b3 b4 lB q1
    go_loopw [2, 3] (fun u p wr => ∃ i : Nat, i ≤ M ∧ p = .int .i64 (i : Int) ∧ Hid (Below w0.heap.size w0 wr) ∧ Hid (∀ j, j < i → (0 ≤ (S j).g ∧ (S j).g ≤ 99) ∧ (0 ≤ (S j).nd ∧ (S j).nd ≤ 9999))) (fun _ p _ => M - (intOf p).toNat)
    case atStart => exact ⟨0, Nat.zero_le _, rfl, Below.refl _ _, Lib.hid (fun j hj => by omega)⟩
    case round =>
      obtain ⟨i, hi, rfl, HBr, HD⟩ := hrel
      have b3 := (B0.out.below HBr.out).at 3 rfl; have b4 := (B0.out.below HBr.out).at 4 rfl; have lB := (B0.out.below HBr.out).1
      by_cases hlt : i < M
      · have hlt' : (i : Int) < (M : Int) := by omega
        have hi0 : (0 : Int) ≤ (i : Int) := by omega
        rcases P1.out.below HBr.out with h0 | ⟨b, q, rfl, hg⟩
        · omega
        have lt := hg.lt
        obtain ⟨x0, x1⟩ := hg.two i hlt
        clear hg
        have HBW := Lib.hid (HW0.out.trans (HBr.out.mono HW0.out.size))
        by_cases g1 : 0 ≤ (S i).g ∧ (S i).g ≤ 99
        · by_cases g2 : 0 ≤ (S i).nd ∧ (S i).nd ≤ 9999
          · have HD' : Hid (∀ j, j < i + 1 → (0 ≤ (S j).g ∧ (S j).g ≤ 99) ∧ (0 ≤ (S j).nd ∧ (S j).nd ≤ 9999)) := Lib.hid fun j hj => by
              rcases Nat.lt_succ_iff_lt_or_eq.mp hj with h1 | h1
              · exact HD.out j h1
              · subst h1; exact ⟨g1, g2⟩
            clear HD
            go_wp2_with fail
            refine (l1In_yes (S i).g 0 99 _ g1.1 g1.2).mono ?_
            rintro e w' ⟨rfl, rfl⟩
            go_wp2_with fail
            refine (l1In_yes (S i).nd 0 9999 _ g2.1 g2.2).mono ?_
            rintro e w' ⟨rfl, rfl⟩
            go_wp2
            exact ⟨⟨i + 1, by omega, by go_num, HBr, HD'⟩, by simp [intOf]; omega⟩
          · obtain rfl : c = 3 := by
              rcases HK1.out with ⟨_, h⟩ | ⟨h, _⟩
              · exact h
              · exact absurd (h i hlt).2 g2
            clear HD HK1
            go_wp2_with fail
            refine (l1In_yes (S i).g 0 99 _ g1.1 g1.2).mono ?_
            rintro e w' ⟨rfl, rfl⟩
            go_wp2_with fail
            refine (l1In_no (S i).nd 0 9999 _ g2).mono ?_
            rintro e w' ⟨rfl, rfl⟩
            go_wp2
            go_ret
            exact ⟨rfl, HBW.out⟩
        · obtain rfl : c = 3 := by
            rcases HK1.out with ⟨_, h⟩ | ⟨h, _⟩
            · exact h
            · exact absurd (h i hlt).1 g1
          clear HD HK1
          go_wp2_with fail
          refine (l1In_no (S i).g 0 99 _ g1).mono ?_
          rintro e w' ⟨rfl, rfl⟩
          go_wp2
          go_ret
          exact ⟨rfl, HBW.out⟩
      · have hlt' : ¬ (i : Int) < (M : Int) := by omega
        rcases HK1.out with ⟨h, _⟩ | ⟨hms, hk⟩
        · exact absurd (fun j hj => HD.out j (by omega)) h
        have HK2 := Lib.hid hk
        have B1 := Lib.hid (B0.out.below HBr.out); have P2' := Lib.hid (P1.out.below HBr.out); have G2 := Lib.hid (G1.out.below HBr.out)
        have HBW := Lib.hid (HW0.out.trans (HBr.out.mono HW0.out.size))
        go_wp2
        clear HK1 HD hk b3 b4 lB HBr hlt' hlt B0 P1 G1 HW0 HB
        generalize wr = w1 at *
        go_loopw [2, 4] (fun u p wr => ∃ j : Nat, j ≤ K ∧ p = .int .i64 (j : Int) ∧ Hid (Below w1.heap.size w1 wr) ∧ Hid (∀ i, i < j → IsNode (T i) 0)) (fun _ p _ => K - (intOf p).toNat)
        case atStart => exact ⟨0, Nat.zero_le _, rfl, Below.refl _ _, Lib.hid (fun j hj => by omega)⟩
        case round =>
          obtain ⟨j, hj, rfl, HBr, HD⟩ := hrel
          have b3 := (B1.out.below HBr.out).at 3 rfl; have b4 := (B1.out.below HBr.out).at 4 rfl; have lB := (B1.out.below HBr.out).1
          have HBX := Lib.hid (HBW.out.trans (HBr.out.mono HBW.out.size))
          by_cases hlt : j < K
          · have hlt' : (j : Int) < (K : Int) := by omega
            have hj0 : (0 : Int) ≤ (j : Int) := by omega
            rcases G2.out.below HBr.out with h0 | ⟨b, q, rfl, hg⟩
            · omega
            have lt := hg.lt
            have FV := Lib.hid (hg.six j hlt)
            have SR := Lib.hid (hg.flds j hlt)
            clear hg
            obtain ⟨cj, hcj⟩ := isNode_some (T j)
            have HCJ := Lib.hid hcj
            clear hcj
            go_wp2_with fail
            refine (l5Node_any b (q + j * 5) (T j) cj _ FV.out lt SR.out (HN.out j hlt) HCJ.out).mono ?_
            rintro e w2 ⟨rfl, hb⟩
            have HB2 := Lib.hid (thru0 HBr.out hb)
            have HB3 := Lib.hid (thru0 HBX.out hb)
            clear hb
            by_cases h0 : cj = 0
            · subst h0
              have HD' : Hid (∀ i, i < j + 1 → IsNode (T i) 0) := Lib.hid fun i hi => by
                rcases Nat.lt_succ_iff_lt_or_eq.mp hi with h1 | h1
                · exact HD.out i h1
                · subst h1; exact HCJ.out
              clear HD b3 b4 lB
              go_wp2
              exact ⟨⟨j + 1, by omega, by go_num, HB2, HD'⟩, by simp [intOf]; omega⟩
            · have h0' : (cj != 0) = true := by simpa using h0
              obtain rfl : c = cj := by
                rcases HK2.out with ⟨h, _⟩ | ⟨h, _⟩
                · exact isNodes_hit h hlt HD.out HCJ.out h0
                · exact absurd (isNode_one HCJ.out (isNodes_zero h j hlt)) h0
              clear HD HK2 b3 b4 lB
              go_wp2
              go_ret
              exact ⟨rfl, HB3.out⟩
          · have hlt' : ¬ (j : Int) < (K : Int) := by omega
            obtain rfl : j = K := by omega
            rcases HK2.out with ⟨h, h0⟩ | ⟨_, hk⟩
            · exact absurd (isNodes_all h fun i hi => HD.out i hi) h0
            have HK3 := Lib.hid hk
            have HND := Lib.hid (show ∀ i, i < j → IsNode (T i) 0 from HD.out)
            have B2 := Lib.hid (B1.out.below HBr.out); have P3 := Lib.hid (P2'.out.below HBr.out); have G3 := Lib.hid (G2.out.below HBr.out)
            go_wp2
            clear HK2 HD hk b3 b4 lB HBr hlt' hlt B1 P2' G2 HBW
            generalize wr = w2 at *
            go_loopw [2, 6] (fun u p wr => ∃ i : Nat, (i = 0 ∨ i < j) ∧ p = .int .i64 ((i : Int) + 1) ∧ Hid (Below w2.heap.size w2 wr) ∧ Hid (∀ k, k < i → (T k).at_ < (T (k + 1)).at_)) (fun _ p _ => j + 1 - (intOf p).toNat)
            case atStart => exact ⟨0, .inl rfl, rfl, Below.refl _ _, Lib.hid (fun k hk => by omega)⟩
            case round =>
              obtain ⟨i, hi, rfl, HBr, HD⟩ := hrel
              have b3 := (B2.out.below HBr.out).at 3 rfl; have b4 := (B2.out.below HBr.out).at 4 rfl; have lB := (B2.out.below HBr.out).1
              have HBY := Lib.hid (HBX.out.trans (HBr.out.mono HBX.out.size))
              by_cases hlt : i + 1 < j
              · have hlt' : (i : Int) + 1 < (j : Int) := by omega
                have hi0 : (0 : Int) ≤ (i : Int) + 1 := by omega
                have hi1 : (0 : Int) ≤ (i : Int) := by omega
                have hi2 : (i : Int) < (j : Int) := by omega
                rcases G3.out.below HBr.out with h0 | ⟨b, q, rfl, hg⟩
                · omega
                have lt := hg.lt
                obtain ⟨x0, x1, x2, x3, x4⟩ := hg.six (i + 1) hlt
                obtain ⟨y0, y1, y2, y3, y4⟩ := hg.six i (by omega)
                clear hg
                by_cases hx : (T (i + 1)).at_ ≤ (T i).at_
                · obtain rfl : c = 1 := by
                    rcases HK3.out with ⟨_, h⟩ | ⟨h, _⟩
                    · exact h
                    · have := h i hlt; omega
                  clear HK3 HD
                  go_wp2
                  go_region
                  go_wp2
                  go_ret
                  exact ⟨rfl, HBY.out.drew⟩
                · have HD' : Hid (∀ k, k < i + 1 → (T k).at_ < (T (k + 1)).at_) := Lib.hid fun k hk => by
                    rcases Nat.lt_succ_iff_lt_or_eq.mp hk with h1 | h1
                    · exact HD.out k h1
                    · subst h1; omega
                  clear HD
                  go_wp2
                  go_region
                  go_wp2
                  exact ⟨⟨i + 1, .inr (by omega), by go_num, Lib.hid HBr.out.drew, HD'⟩, by simp [intOf]; omega⟩
              · have hlt' : ¬ (i : Int) + 1 < (j : Int) := by omega
                rcases HK3.out with ⟨h, _⟩ | ⟨hr, hk⟩
                · exact absurd (fun k hk => HD.out k (by omega)) h
                have HK4 := Lib.hid hk
                have B3 := Lib.hid (B2.out.below HBr.out); have P4 := Lib.hid (P3.out.below HBr.out); have G4 := Lib.hid (G3.out.below HBr.out)
                clear HK3 HD hk b3 hlt B2 P3 G3 HBX
                obtain ⟨r, hr9⟩ : ∃ r : Bool, r = true ↔ MLead M S j T := by
                  by_cases h : MLead M S j T
                  · exact ⟨true, by simp [h]⟩
                  · exact ⟨false, by simp [h]⟩
                have HR := Lib.hid hr9
                clear hr9
                go_wp2_with fail
                refine (l5Leads_any w.heap.size te qu ha sa M kc S na j nc T r _ B3.out P4.out G4.out (by omega) (by omega) HND.out HR.out).mono ?_
                rintro e w3 ⟨rfl, hb⟩
                have HBZ := Lib.hid (thru0 HBY.out hb)
                have B4 := Lib.hid (B3.out.below hb); have P5 := Lib.hid (P4.out.below hb)
                clear hb b4 lB HBr B3 P4 G4 HBY
                cases r
                · obtain rfl : c = 4 := by
                    rcases HK4.out with ⟨_, h⟩ | ⟨h, _⟩
                    · exact h
                    · exact absurd (HR.out.2 h) (by simp)
                  clear HK4
                  go_wp2
                  go_ret
                  exact ⟨rfl, HBZ.out⟩
                · have hml : MLead M S j T := HR.out.1 rfl
                  rcases HK4.out with ⟨h, _⟩ | ⟨_, hk⟩
                  · exact absurd hml h
                  have HK5 := Lib.hid hk
                  clear HK4 hk hml HR
                  go_wp2
                  go_loopw [2, 7] (fun u p wr => ∃ i : Nat, i ≤ M ∧ p = .int .i64 (i : Int) ∧ Hid (Below w3.heap.size w3 wr) ∧ Hid (∀ k, k < i → (S k).nd = 0 ∨ ¬ (S k).g = 0)) (fun _ p _ => M - (intOf p).toNat)
                  case atStart => exact ⟨0, Nat.zero_le _, rfl, Below.refl _ _, Lib.hid (fun k hk => by omega)⟩
                  case round =>
                    obtain ⟨i, hi, rfl, HBr, HD⟩ := hrel
                    have b3 := (B4.out.below HBr.out).at 3 rfl; have lB := (B4.out.below HBr.out).1
                    have HBU := Lib.hid (HBZ.out.trans (HBr.out.mono HBZ.out.size))
                    by_cases hlt : i < M
                    · have hlt' : (i : Int) < (M : Int) := by omega
                      have hi0 : (0 : Int) ≤ (i : Int) := by omega
                      rcases P5.out.below HBr.out with h0 | ⟨b, q, rfl, hg⟩
                      · omega
                      have lt := hg.lt
                      obtain ⟨x0, x1⟩ := hg.two i hlt
                      clear hg
                      have HNX : Hid ((S i).nd = 0 ∨ ¬ (S i).g = 0 → ∀ k, k < i + 1 → (S k).nd = 0 ∨ ¬ (S k).g = 0) := Lib.hid fun h k hk => by
                        rcases Nat.lt_succ_iff_lt_or_eq.mp hk with h1 | h1
                        · exact HD.out k h1
                        · subst h1; exact h
                      by_cases hx : (S i).nd = 0
                      · have hx' : ((S i).nd != 0) = false := by simpa using hx
                        have HD' := Lib.hid (HNX.out (.inl hx))
                        clear hx HD HNX
                        go_wp2
                        exact ⟨⟨i + 1, by omega, by go_num, HBr, HD'⟩, by simp [intOf]; omega⟩
                      · have hx' : ((S i).nd != 0) = true := by simpa using hx
                        by_cases hy : (S i).g = 0
                        · obtain rfl : c = 8 := by
                            rcases HK5.out with ⟨_, h⟩ | ⟨h, _⟩
                            · exact h
                            · rcases h i hlt with h | h
                              · exact absurd h hx
                              · exact absurd hy h
                          have hy' : ((S i).g == 0) = true := by simpa using hy
                          clear hx hy HD HNX HK5
                          go_wp2
                          go_ret
                          exact ⟨rfl, HBU.out⟩
                        · have hy' : ((S i).g == 0) = false := by simpa using hy
                          have HD' := Lib.hid (HNX.out (.inr hy))
                          clear hx hy HD HNX
                          go_wp2
                          exact ⟨⟨i + 1, by omega, by go_num, HBr, HD'⟩, by simp [intOf]; omega⟩
                    · have hlt' : ¬ (i : Int) < (M : Int) := by omega
                      obtain rfl : c = 0 := by
                        rcases HK5.out with ⟨h, _⟩ | ⟨_, h⟩
                        · exact absurd (fun k hk => HD.out k (by omega)) h
                        · exact h
                      clear HK5 HD
                      go_wp2
                      go_ret
                      exact ⟨rfl, HBU.out⟩
end Go.Proofs.Ytihbenbfnpiikaa

namespace Go.Proofs.Ytihbenbfnpiikaa
open Go.RowKit
set_option linter.unusedVariables false

set_option maxRecDepth 100000 in
set_option maxHeartbeats 400000 in
theorem headOf_any (t : GM) (w : World) :
    Calls Try.prog 115 #[.agg #[.int .i64 t.at_, .int .i64 t.s, .int .i64 t.m, .int .i64 t.h, .slice t.a t.n t.c]] w fun e w' => e = .returned (.agg #[.int .i64 t.s, .int .i64 t.m, .int .i64 0, .int .i64 t.h]) ∧ Below w.heap.size w w' := by
  go_enter Try.func115, Try.ntmps115
  go_wp2
  refine bodyPost_ret (v := .agg #[.int .i64 t.s, .int .i64 t.m, .int .i64 0, .int .i64 t.h]) (by simp [results, Try.results115, go_sem]) rfl ⟨rfl, ?_⟩
  repeat (first | (with_reducible refine Below.setCell ?_ (by (try simp); (try omega)) _) | (with_reducible refine Below.alloc ?_ (by (try simp); (try omega)) _) | (with_reducible refine Below.drew ?_))
  exact Below.refl _ _

set_option maxRecDepth 100000 in
set_option maxHeartbeats 1600000 in
theorem nodeFault_any (t : GM) (c : Int) (w : World) (hs : Src w t.a t.n t.f) (hn : t.n ≤ 1048576) (hk : IsNode t c) :
    Calls Try.prog 96 #[.agg #[.int .i64 t.at_, .int .i64 t.s, .int .i64 t.m, .int .i64 t.h, .slice t.a t.n t.c]] w (RetInt w c) := by
  have S0 := Lib.hid hs; have HK := Lib.hid hk
  clear hs hk
  have X0 := Lib.hid (Blk.new_at (w := w) (cs := #[.int .i64 t.at_, .int .i64 t.s, .int .i64 t.m, .int .i64 t.h, .slice t.a t.n t.c]) (t := 142) w.heap.size rfl)
  by_cases h0 : 1 ≤ t.at_ ∧ t.at_ ≤ 9999
  · have H0 := Lib.hid h0
    clear h0
    obtain ⟨c0, hf⟩ := isHF_some t.s t.m 0 t.h
    have HF := Lib.hid hf
    clear hf
    go_enter Try.func96, Try.ntmps96
    go_wp2_with fail
    refine (isOut1 _ _ _ _ _ false (by simp) (.inl ⟨rfl, H0.out⟩)).mono ?_
    rintro e w1 ⟨rfl, hb⟩
    have HB1 := Lib.hid ((((Below.refl w.heap.size w).alloc (Nat.le_refl _) _).alloc (by simp) _).trans (hb.mono (by simp; try omega)))
    have X1 := Lib.hid ((X0.out.alloc _).below hb)
    have S1 := Lib.hid (((S0.out.alloc _).alloc _).below hb)
    clear hb X0 S0
    obtain ⟨x0, x1, x2, x3, x4, lX⟩ : w1.cell? ⟨w.heap.size, 0, none⟩ = some (.int .i64 t.at_) ∧ w1.cell? ⟨w.heap.size, 1, none⟩ = some (.int .i64 t.s) ∧ w1.cell? ⟨w.heap.size, 2, none⟩ = some (.int .i64 t.m) ∧ w1.cell? ⟨w.heap.size, 3, none⟩ = some (.int .i64 t.h) ∧ w1.cell? ⟨w.heap.size, 4, none⟩ = some (.slice t.a t.n t.c) ∧ w.heap.size < w1.heap.size := ⟨X1.out.at 0 rfl, X1.out.at 1 rfl, X1.out.at 2 rfl, X1.out.at 3 rfl, X1.out.at 4 rfl, X1.out.1⟩
    go_wp2_with fail
    refine (headOf_any t _).mono ?_
    rintro e w2 ⟨rfl, hb⟩
    have HB2 := Lib.hid (thru0 HB1.out hb)
    have X2 := Lib.hid (X1.out.below hb)
    have S2 := Lib.hid (S1.out.below hb)
    clear hb X1 S1 HB1 x0 x1 x2 x3 x4 lX
    go_wp2_with fail
    refine (implHF_any t.s t.m 0 t.h c0 _ HF.out).mono ?_
    rintro e w3 ⟨rfl, hb⟩
    have HB3 := Lib.hid (thru0 HB2.out hb)
    have X3 := Lib.hid (X2.out.below hb)
    have S3 := Lib.hid (S2.out.below hb)
    clear hb X2 S2 HB2
    by_cases h3 : c0 = 0
    · subst h3
      have HN : Hid (Neat t) := Lib.hid (by
        rcases HF.out with ⟨h, _⟩ | ⟨_, h⟩
        · exact ⟨H0.out, h⟩
        · omega)
      clear HF
      obtain ⟨x0, x1, x2, x3, x4, lX⟩ : w3.cell? ⟨w.heap.size, 0, none⟩ = some (.int .i64 t.at_) ∧ w3.cell? ⟨w.heap.size, 1, none⟩ = some (.int .i64 t.s) ∧ w3.cell? ⟨w.heap.size, 2, none⟩ = some (.int .i64 t.m) ∧ w3.cell? ⟨w.heap.size, 3, none⟩ = some (.int .i64 t.h) ∧ w3.cell? ⟨w.heap.size, 4, none⟩ = some (.slice t.a t.n t.c) ∧ w.heap.size < w3.heap.size := ⟨X3.out.at 0 rfl, X3.out.at 1 rfl, X3.out.at 2 rfl, X3.out.at 3 rfl, X3.out.at 4 rfl, X3.out.1⟩
      by_cases h4 : (t.n : Int) = t.s
      · have h4' : ((t.n : Int) != t.s) = false := by simpa using h4
        go_wp2
        clear x0 x1 x2 x3 x4 lX X3
        have H4 := Lib.hid h4
        clear h4 h4'
        obtain ⟨ta, hta⟩ : ∃ ta, t.a = ta := ⟨_, rfl⟩
        rw [hta] at S3 ⊢
        clear hta
        go_loopw [25] (fun p wr => ∃ i : Nat, i ≤ t.n ∧ p = .int .i64 (i : Int) ∧ Hid (Below w3.heap.size w3 wr) ∧ Hid (∀ k, k < i → Word (t.f k))) (fun p _ => t.n - (intOf p).toNat)
        case atStart => exact ⟨0, Nat.zero_le _, rfl, Below.refl _ _, Lib.hid (fun j hj => by omega)⟩
        case round =>
          obtain ⟨i, hi, rfl, HBr, HE⟩ := hrel
          by_cases hlt : i < t.n
          · obtain ⟨b1, o1, rfl, hb1, hc1⟩ := src_some (S3.out.below HBr.out) (by omega)
            have d1 := hc1 i hlt
            have hlt' : (i : Int) < (t.n : Int) := by omega
            have hls : (i : Int) < t.s := by have := H4.out; omega
            have hi0 : (0 : Int) ≤ (i : Int) := by omega
            have hz := HBr.out.size
            clear hc1
            by_cases hw : Word (t.f i)
            · have HW : Hid (-1000000000 ≤ t.f i ∧ t.f i ≤ 1000000000) := hw
              clear hw
              go_wp2_with (first | (go_at_call 156; (with_reducible refine (wordBound_any _ _).mono ?_); rintro e w4 ⟨rfl, hb2⟩; have HB4 := Lib.hid hb2; have hz4 := hb2.size; clear hb2) | (go_at_call 91; (with_reducible refine (isOut1 _ _ _ _ _ false (by simp) (.inl ⟨rfl, HW.out⟩)).mono ?_); rintro e w5 ⟨rfl, hb3⟩; have HB5 := Lib.hid hb3; have hz5 := hb3.size; clear hb3))
              have HB6 := Lib.hid (((HBr.out.trans (HB4.out.mono (by omega))).alloc (by omega) _).trans (HB5.out.mono (by simp; omega)))
              have HE' : Hid (∀ k, k < i + 1 → Word (t.f k)) := Lib.hid fun j hj => by
                rcases Nat.lt_succ_iff_lt_or_eq.mp hj with h | h
                · exact HE.out j h
                · subst h; exact HW.out
              go_roundw
              case rel => first | exact ⟨i + 1, by omega, by go_num, HB6, HE'⟩ | ((repeat apply Exists.intro); exact ⟨⟨i + 1, by omega, by go_num, HB6, HE'⟩, rfl⟩)
              case measure => simp [intOf]; omega
            · have HW : Hid (¬ (-1000000000 ≤ t.f i ∧ t.f i ≤ 1000000000)) := hw
              obtain rfl : c = 3 := by
                rcases HK.out with ⟨h, _⟩ | ⟨_, h, _⟩ | ⟨_, _, _, h⟩ | ⟨_, _, h, _⟩
                · exact absurd HN.out h
                · exact absurd H4.out h
                · exact h
                · exact absurd (h i hlt) hw
              clear hw HK
              go_wp2_with (first | (go_at_call 156; (with_reducible refine (wordBound_any _ _).mono ?_); rintro e w4 ⟨rfl, hb2⟩; have HB4 := Lib.hid hb2; have hz4 := hb2.size; clear hb2) | (go_at_call 91; (with_reducible refine (isOut1 _ _ _ _ _ true (by simp) (.inr ⟨rfl, HW.out⟩)).mono ?_); rintro e w5 ⟨rfl, hb3⟩; have HB5 := Lib.hid hb3; have hz5 := hb3.size; clear hb3))
              go_ret
              exact ⟨rfl, HB3.out.trans ((((HBr.out.trans (HB4.out.mono (by omega))).alloc (by omega) _).trans (HB5.out.mono (by simp; omega))).mono HB3.out.size)⟩
          · obtain rfl : c = 0 := by
              rcases HK.out with ⟨h, _⟩ | ⟨_, h, _⟩ | ⟨_, _, h, _⟩ | ⟨_, _, _, h⟩
              · exact absurd HN.out h
              · exact absurd H4.out h
              · exact absurd (fun k hk => HE.out k (by omega)) h
              · exact h
            have hls : ¬ (i : Int) < t.s := by have := H4.out; omega
            clear HK
            go_wp2
            go_ret
            exact ⟨rfl, HB3.out.trans (HBr.out.mono HB3.out.size)⟩
      · have h4' : ((t.n : Int) != t.s) = true := by simpa using h4
        obtain rfl : c = 2 := by
          rcases HK.out with ⟨h, _⟩ | ⟨_, _, h⟩ | ⟨_, h, _⟩ | ⟨_, h, _⟩
          · exact absurd HN.out h
          · exact h
          · exact absurd h h4
          · exact absurd h h4
        clear h4 HK
        go_wp2
        go_ret
        exact ⟨rfl, HB3.out⟩
    · have HC : Hid (c = 3) := Lib.hid (by
        have hno : ¬ Neat t := fun h => by
          rcases HF.out with ⟨_, h5⟩ | ⟨h5, _⟩
          · exact h3 h5
          · exact h5 h.2
        rcases HK.out with ⟨_, h⟩ | ⟨h, _⟩ | ⟨h, _⟩ | ⟨h, _⟩
        · exact h
        · exact absurd h hno
        · exact absurd h hno
        · exact absurd h hno)
      have h3' : (c0 != 0) = true := by simpa using h3
      obtain rfl := HC.out
      clear HK HF
      go_wp2
      go_ret
      exact ⟨rfl, HB3.out⟩
  · have H0 := Lib.hid h0
    obtain rfl : c = 3 := by
      have hno : ¬ Neat t := fun h => h0 h.1
      rcases HK.out with ⟨_, h⟩ | ⟨h, _⟩ | ⟨h, _⟩ | ⟨h, _⟩
      · exact h
      · exact absurd h hno
      · exact absurd h hno
      · exact absurd h hno
    clear h0 HK
    go_enter Try.func96, Try.ntmps96
    go_wp2_with fail
    refine (isOut1 _ _ _ _ _ true (by simp) (.inr ⟨rfl, H0.out⟩)).mono ?_
    rintro e w1 ⟨rfl, hb⟩
    have HB1 := Lib.hid ((((Below.refl w.heap.size w).alloc (Nat.le_refl _) _).alloc (by simp) _).trans (hb.mono (by simp; try omega)))
    have X1 := Lib.hid ((X0.out.alloc _).below hb)
    have S1 := Lib.hid (((S0.out.alloc _).alloc _).below hb)
    clear hb X0 S0
    go_wp2
    go_ret
    exact ⟨rfl, HB1.out⟩

set_option maxRecDepth 100000 in
set_option maxHeartbeats 800000 in
theorem rising_any (na : Option Addr) (K nc : Nat) (T : Nat → GM) (r : Bool) (w : World) (hg : NV w na K T) (hK : K ≤ 1048576) (hr : r = true ↔ MRise K T) :
    Calls Try.prog 97 #[.slice na K nc] w (RetBool w r) := by
  have G0 := Lib.hid hg; have HR := Lib.hid hr
  clear hg hr
  go_enter Try.func97, Try.ntmps97
  go_wp2
  go_loopw [3] (fun p wr => ∃ i : Nat, (i = 0 ∨ i < K) ∧ p = .int .i64 ((i : Int) + 1) ∧ Hid (Below w.heap.size w wr) ∧ Hid (∀ k, k < i → (T k).at_ < (T (k + 1)).at_)) (fun p _ => K + 1 - (intOf p).toNat)
  case atStart => exact ⟨0, .inl rfl, rfl, Below.refl _ _, Lib.hid (fun k hk => by omega)⟩
  case round =>
    obtain ⟨i, hi, rfl, HBr, HD⟩ := hrel
    by_cases hlt : i + 1 < K
    · have hlt' : (i : Int) + 1 < (K : Int) := by omega
      have hi0 : (0 : Int) ≤ (i : Int) + 1 := by omega
      have hi1 : (0 : Int) ≤ (i : Int) := by omega
      have hi2 : (i : Int) < (K : Int) := by omega
      rcases G0.out.below HBr.out with h0 | ⟨b, q, rfl, hg⟩
      · omega
      have lt := hg.lt
      obtain ⟨x0, x1, x2, x3, x4⟩ := hg.six (i + 1) hlt
      obtain ⟨y0, y1, y2, y3, y4⟩ := hg.six i (by omega)
      clear hg
      by_cases hx : (T (i + 1)).at_ ≤ (T i).at_
      · obtain rfl : r = false := by
          cases r
          · rfl
          · have := HR.out.1 rfl i hlt; omega
        clear HD
        go_wp2
        go_region
        go_wp2
        go_ret
        exact ⟨rfl, HBr.out.drew⟩
      · have HD' : Hid (∀ k, k < i + 1 → (T k).at_ < (T (k + 1)).at_) := Lib.hid fun k hk => by
          rcases Nat.lt_succ_iff_lt_or_eq.mp hk with h1 | h1
          · exact HD.out k h1
          · subst h1; omega
        clear HD
        have HB2 := Lib.hid HBr.out.drew
        go_wp2
        go_region
        go_wp2
        first | exact ⟨⟨i + 1, .inr (by omega), by go_num, HB2, HD'⟩, by simp [intOf]; omega⟩ | (go_roundw; (case rel => first | exact ⟨i + 1, .inr (by omega), by go_num, HB2, HD'⟩ | ((repeat apply Exists.intro); exact ⟨⟨i + 1, .inr (by omega), by go_num, HB2, HD'⟩, rfl⟩)); (case measure => simp [intOf]; omega))
    · have hlt' : ¬ (i : Int) + 1 < (K : Int) := by omega
      obtain rfl : r = true := HR.out.2 fun k hk => HD.out k (by omega)
      go_wp2
      go_ret
      exact ⟨rfl, HBr.out⟩
end Go.Proofs.Ytihbenbfnpiikaa

namespace Go.Proofs.Ytihbenbfnpiikaa
open Go.RowKit
set_option linter.unusedVariables false

theorem pv_get {w : World} {a : Option Addr} {N : Nat} {T : Nat → SL} (h : PV w a N T) {i : Nat} (hi : i < N) : ∃ b q, a = some ⟨b, q, none⟩ ∧ b < w.heap.size ∧ TwoG w b (q + i * 2) (T i) := by
  rcases h with h0 | ⟨b, q, ha, hg⟩
  · omega
  · exact ⟨b, q, ha, hg.lt, hg.two i hi⟩

theorem nv_get {w : World} {a : Option Addr} {N : Nat} {T : Nat → GM} (h : NV w a N T) {i : Nat} (hi : i < N) : ∃ b q, a = some ⟨b, q, none⟩ ∧ b < w.heap.size ∧ FivG w b (q + i * 5) (T i) ∧ Src w (T i).a (T i).n (T i).f := by
  rcases h with h0 | ⟨b, q, ha, hg⟩
  · omega
  · exact ⟨b, q, ha, hg.lt, hg.six i hi, hg.flds i hi⟩

set_option maxRecDepth 100000 in
set_option maxHeartbeats 1600000 in
theorem slotNodes_any (a : Option Addr) (M c : Nat) (S : Nat → SL) (w : World) (hg : PV w a M S) (hl : M ≤ 1000000) :
    Calls Try.prog 158 #[.slice a M c] w (RetInts w M (fun i => (S i).nd)) := by
  have G := Lib.hid hg
  obtain ⟨i0, hif, hz0, hz1, hz2⟩ := info_parts Try.info2
  clear hg
  go_enter Try.func158, Try.ntmps158
  go_wp2
  go_loopw [3, 8] (fun u p wr => ∃ i : Nat, i ≤ M ∧ p = .int .i64 (i : Int) ∧ Hid (Below w.heap.size w wr) ∧ Hid (wr.ownsRow w.heap.size 2 1 u i (nums i (fun i => (S i).nd)))) (fun _ p _ => M - (intOf p).toNat)
  case atStart => exact ⟨0, Nat.zero_le _, rfl, Below.refl _ _, World.ownsRow_nil _ _ _ _⟩
  case round =>
    obtain ⟨i, hi, rfl, HB_r, OW_r⟩ := hrel
    have hzr := HB_r.out.size
    by_cases hlt : i < M
    · have hlt' : (i : Int) < (M : Int) := by omega
      have hi0 : (0 : Int) ≤ (i : Int) := by omega
      obtain ⟨b, q, rfl, lb, s0, s1⟩ := pv_get (G.out.below HB_r.out) hlt
      have HAL : Hid (Below w.heap.size w (wr.alloc (.cells #[.int .i64 (S i).g, .int .i64 (S i).nd] 140))) := Lib.hid (HB_r.out.alloc hzr _)
      have OWA := Lib.hid (OW_r.out.alloc (.cells #[.int .i64 (S i).g, .int .i64 (S i).nd] 140))
      have HGE : Hid (∀ k, u3.ownBlock = some k → w.heap.size ≤ k) := Lib.hid (fun k hk => (OW_r.out.lt k hk).1)
      go_wp2_with (at_builtin; go_loud (refine wpList_append_lies _ rfl _ _ 24 rfl w.heap.size 2 i0 (.int .i64 0) 1 8 Try.underlying24 hif hz0 hz1 hz2 rfl (by decide) u3 i (nums i (fun i => (S i).nd)) rfl (OWA.out.alloc _) ⟨wr.heap.size + 1, 0, none⟩ 1 1 [.int .i64 (S i).nd] rfl rfl (news1b (wr.alloc (.cells #[.int .i64 (S i).g, .int .i64 (S i).nd] 140)) (S i).nd (wr.heap.size + 1) (by simp)) (by intro u hu; simp only [List.mem_cons, List.mem_nil_iff, or_false] at hu; subst hu; rfl) (by omega) (by unfold maxLen; omega) (by omega) (by simp; omega) (wr.heap.size + 1 + 1) (by simp) ?_); intro g9 cap9 w9 hown9 hgrow9 hat9 hlt9)
      have HB9 : Hid (Below w.heap.size w w9) := (HAL.out.alloc (by simp; omega) _).grown hgrow9 (by simp; omega) (fun k hk => HGE.out k hk)
      have OW9 : Hid (w9.ownsRow w.heap.size 2 1 (.slice (some ⟨g9, 0, none⟩) (i + 1) cap9) (i + 1) (nums (i + 1) (fun i => (S i).nd))) := Lib.hid (by rw [nums_succ]; exact hown9)
      clear hown9 hgrow9 hat9 s0 s1
      go_wp2
      go_roundw
      case rel => first | exact ⟨i + 1, by omega, by go_num, HB9, OW9⟩ | ((repeat apply Exists.intro); exact ⟨⟨i + 1, by omega, by go_num, HB9, OW9⟩, rfl⟩)
      case measure => simp [intOf]; omega
    · have hlt' : ¬ (i : Int) < (M : Int) := by omega
      obtain rfl : i = M := by omega
      have HRet := Lib.hid (retInts_of_row OW_r.out HB_r.out)
      go_wp2
      go_ret
      exact HRet.out

/-- The pointers among the first fields of a node. -/
def ptL (t : GM) (k : Nat) : List Int := (List.range k).filterMap fun (j : Nat) => if t.m / P2 (j : Int) % 2 = 1 then some (t.f j) else none

theorem ptL_yes {t : GM} {k : Nat} (h : t.m / P2 (k : Int) % 2 = 1) : ptL t (k + 1) = ptL t k ++ [t.f k] := by
  simp [ptL, List.range_succ, List.filterMap_append, h]

theorem ptL_no {t : GM} {k : Nat} (h : ¬ t.m / P2 (k : Int) % 2 = 1) : ptL t (k + 1) = ptL t k := by
  simp [ptL, List.range_succ, List.filterMap_append, h]

theorem ptL_len (t : GM) : ∀ k, (ptL t k).length ≤ k
  | 0 => Nat.zero_le _
  | k + 1 => by
    have := ptL_len t k
    by_cases h : t.m / P2 (k : Int) % 2 = 1
    · rw [ptL_yes h, List.length_append]; simp; omega
    · rw [ptL_no h]; omega

theorem mem_ptL {t : GM} {k : Nat} {v : Int} : v ∈ ptL t k ↔ ∃ j, j < k ∧ IsP t j ∧ v = t.f j := by
  simp only [ptL, List.mem_filterMap, List.mem_range, IsP]
  constructor
  · rintro ⟨j, hj, h⟩
    by_cases hp : t.m / P2 (j : Int) % 2 = 1
    · rw [if_pos hp] at h; injection h with h; exact ⟨j, hj, hp, h.symm⟩
    · rw [if_neg hp] at h; cases h
  · rintro ⟨j, hj, hp, rfl⟩
    exact ⟨j, hj, by rw [if_pos hp]⟩

set_option maxRecDepth 100000 in
set_option maxHeartbeats 1600000 in
theorem ptrsOf_x (x s m h : Int) (a : Option Addr) (n c : Nat) (f : Nat → Int) (P : Nat → List Int) (w : World) (hs : Src w a n f) (hok : HOk s m 0 h) (hsz : (n : Int) = s) (h0 : P 0 = []) (hyes : ∀ k : Nat, m / P2 (k : Int) % 2 = 1 → P (k + 1) = P k ++ [f k]) (hno : ∀ k : Nat, ¬ m / P2 (k : Int) % 2 = 1 → P (k + 1) = P k) (hle : ∀ k, (P k).length ≤ k) :
    Calls Try.prog 161 #[.agg #[.int .i64 x, .int .i64 s, .int .i64 m, .int .i64 h, .slice a n c]] w (RetInts w (P n).length (lf (P n))) := by
  have hn12 : n ≤ 12 := by have := hok.1.2; omega
  have HOK := Lib.hid hok; have HSZ := Lib.hid hsz; have S0 := Lib.hid hs; have HY := Lib.hid hyes; have HN := Lib.hid hno; have HL := Lib.hid hle; have HZ := Lib.hid h0
  clear hs hok hsz hyes hno hle h0
  obtain ⟨i0, hif, hz0, hz1, hz2⟩ := info_parts Try.info2
  have X1 := Lib.hid (Blk.new_at (w := w) (cs := #[.int .i64 x, .int .i64 s, .int .i64 m, .int .i64 h, .slice a n c]) (t := 142) w.heap.size rfl)
  have HB0 := Lib.hid ((Below.refl w.heap.size w).alloc (Nat.le_refl _) (.cells #[.int .i64 x, .int .i64 s, .int .i64 m, .int .i64 h, .slice a n c] 142))
  have S1 := Lib.hid (S0.out.alloc (.cells #[.int .i64 x, .int .i64 s, .int .i64 m, .int .i64 h, .slice a n c] 142))
  clear S0
  go_enter Try.func161, Try.ntmps161
  go_wp2
  generalize w.alloc (.cells #[.int .i64 x, .int .i64 s, .int .i64 m, .int .i64 h, .slice a n c] 142) = w0 at *
  go_loopw [3, 9] (fun u p wr => ∃ i : Nat, i ≤ n ∧ p = .int .i64 (i : Int) ∧ Hid (Below w0.heap.size w0 wr) ∧ Hid (wr.ownsRow w0.heap.size 2 1 u (P i).length (nums (P i).length (lf (P i))))) (fun _ p _ => n - (intOf p).toNat)
  case atStart => exact ⟨0, Nat.zero_le _, rfl, Below.refl _ _, Lib.hid (by rw [HZ.out]; exact World.ownsRow_nil _ _ _ _)⟩
  case round =>
    obtain ⟨i, hi, rfl, HBr, OW⟩ := hrel
    have hzr := HBr.out.size
    by_cases hlt : i < n
    · have hlt' : (i : Int) < (n : Int) := by omega
      have hls : (i : Int) < s := by have := HSZ.out; omega
      have hi0 : (0 : Int) ≤ (i : Int) := by omega
      obtain ⟨b1, o1, rfl, hb1, hc1⟩ := src_some (S1.out.below HBr.out) (by omega)
      have d1 := hc1 i hlt
      clear hc1
      have XR := Lib.hid (X1.out.below HBr.out)
      obtain ⟨x0, x1, x2, x3, x4, lX⟩ : wr.cell? ⟨w.heap.size, 0, none⟩ = some (.int .i64 x) ∧ wr.cell? ⟨w.heap.size, 1, none⟩ = some (.int .i64 s) ∧ wr.cell? ⟨w.heap.size, 2, none⟩ = some (.int .i64 m) ∧ wr.cell? ⟨w.heap.size, 3, none⟩ = some (.int .i64 h) ∧ wr.cell? ⟨w.heap.size, 4, none⟩ = some (.slice (some ⟨b1, o1, none⟩) n c) ∧ w.heap.size < wr.heap.size := ⟨XR.out.at 0 rfl, XR.out.at 1 rfl, XR.out.at 2 rfl, XR.out.at 3 rfl, XR.out.at 4 rfl, XR.out.1⟩
      have HGE : Hid (∀ k, u3.ownBlock = some k → w0.heap.size ≤ k) := Lib.hid (fun k hk => (OW.out.lt k hk).1)
      have hpl := HL.out i
      go_wp2_with fail
      refine (headOf_any ⟨x, s, m, 0, h, some ⟨b1, o1, none⟩, n, c, f⟩ _).mono ?_
      rintro e w2 ⟨rfl, hb⟩
      have HB2 := Lib.hid (thru0 HBr.out hb)
      have OW2 := Lib.hid (ownsRow_below OW.out hb)
      clear hb x0 x1 x2 x3 x4 lX XR OW
      go_wp2_with fail
      refine (implIP_in s m 0 h (i : Int) _ HOK.out ⟨hi0, by omega⟩).mono ?_
      rintro e w3 ⟨rfl, hb⟩
      have HB3 := Lib.hid (thru0 HB2.out hb)
      have OW3 := Lib.hid (ownsRow_below OW2.out hb)
      have hz3 := HB3.out.size
      clear hb OW2 HB2
      by_cases hp : m / P2 (i : Int) % 2 = 1
      · have hp' : (m / P2 (i : Int) % 2 == 1) = true := by simpa using hp
        have HPE := Lib.hid (HY.out i hp)
        clear hp
        go_wp2_with (at_builtin; go_loud (refine wpList_append_lies _ rfl _ _ 24 rfl w0.heap.size 2 i0 (.int .i64 0) 1 8 Try.underlying24 hif hz0 hz1 hz2 rfl (by decide) u3 (P i).length (nums (P i).length (lf (P i))) rfl (OW3.out.alloc _) ⟨w3.heap.size, 0, none⟩ 1 1 [.int .i64 (f i)] rfl rfl (news1 w3 (f i)) (by intro u hu; simp only [List.mem_cons, List.mem_nil_iff, or_false] at hu; subst hu; rfl) (by omega) (by unfold maxLen; omega) (by omega) (by simp; omega) (w3.heap.size + 1) (by simp) ?_); intro g9 cap9 w9 hown9 hgrow9 hat9 hlt9)
        have HB9 : Hid (Below w0.heap.size w0 w9) := Lib.hid ((HB3.out.alloc hz3 _).grown hgrow9 (by simp; omega) (fun k hk => HGE.out k hk))
        have OW9 : Hid (w9.ownsRow w0.heap.size 2 1 (.slice (some ⟨g9, 0, none⟩) ((P i).length + 1) cap9) (P (i + 1)).length (nums (P (i + 1)).length (lf (P (i + 1))))) := Lib.hid (by rw [HPE.out, show (P i ++ [f i]).length = (P i).length + 1 by simp, ← nums_snoc]; exact hown9)
        clear hown9 hgrow9 hat9 hp'
        go_wp2
        go_roundw
        case rel => first | exact ⟨i + 1, by omega, by go_num, HB9, OW9⟩ | ((repeat apply Exists.intro); exact ⟨⟨i + 1, by omega, by go_num, HB9, OW9⟩, rfl⟩)
        case measure => simp [intOf]; omega
      · have hp' : (m / P2 (i : Int) % 2 == 1) = false := by simpa using hp
        have OW4 : Hid (w3.ownsRow w0.heap.size 2 1 u3 (P (i + 1)).length (nums (P (i + 1)).length (lf (P (i + 1))))) := Lib.hid (by rw [HN.out i hp]; exact OW3.out)
        clear hp
        go_wp2
        go_roundw
        case rel => first | exact ⟨i + 1, by omega, by go_num, HB3, OW4⟩ | ((repeat apply Exists.intro); exact ⟨⟨i + 1, by omega, by go_num, HB3, OW4⟩, rfl⟩)
        case measure => simp [intOf]; omega
    · have hls : ¬ (i : Int) < s := by have := HSZ.out; omega
      have hlt' : ¬ (i : Int) < (n : Int) := by omega
      obtain rfl : i = n := by omega
      have HRet := Lib.hid (retInts_of_row OW.out HBr.out)
      go_wp2
      go_ret
      obtain ⟨a', c', he, ho, hb', q1, q2, q3⟩ := HRet.out
      exact ⟨a', c', he, ho.mono (by have := HB0.out.size; omega), HB0.out.trans (hb'.mono HB0.out.size), q1, q2, q3⟩

theorem ptrsOf_any (t : GM) (w : World) (hs : Src w t.a t.n t.f) (hk : IsNode t 0) :
    Calls Try.prog 161 #[.agg #[.int .i64 t.at_, .int .i64 t.s, .int .i64 t.m, .int .i64 t.h, .slice t.a t.n t.c]] w (RetInts w (ptL t t.n).length (lf (ptL t t.n))) := by
  obtain ⟨⟨_, hok⟩, hsz, _⟩ := isNode_zero hk
  exact ptrsOf_x t.at_ t.s t.m t.h t.a t.n t.c t.f (ptL t) w hs hok hsz rfl (fun k => ptL_yes) (fun k => ptL_no) (ptL_len t)
end Go.Proofs.Ytihbenbfnpiikaa

namespace Go.Proofs.Ytihbenbfnpiikaa
open Go.RowKit
set_option linter.unusedVariables false

/-- A node with a pointer that leads nowhere. -/
def Astray (K : Nat) (T : Nat → GM) (t : GM) : Prop := ∃ j, j < (ptL t t.n).length ∧ Stray K T (lf (ptL t t.n) j)

theorem astray_iff {K : Nat} {T : Nat → GM} {t : GM} : Astray K T t ↔ ∃ k, k < t.n ∧ IsP t k ∧ Stray K T (t.f k) := by
  constructor
  · rintro ⟨j, hj, h⟩
    obtain ⟨k, hk, hp, he⟩ := mem_ptL.1 (lf_mem hj)
    exact ⟨k, hk, hp, he ▸ h⟩
  · rintro ⟨k, hk, hp, h⟩
    obtain ⟨j, hj, he⟩ := List.getElem_of_mem (mem_ptL.2 ⟨k, hk, hp, rfl⟩ : t.f k ∈ ptL t t.n)
    exact ⟨j, hj, by rw [lf_at hj, he]; exact h⟩

theorem lead_iff {M : Nat} {S : Nat → SL} {K : Nat} {T : Nat → GM} : MLead M S K T ↔ (¬ ∃ i, i < M ∧ Stray K T (S i).nd) ∧ ¬ ∃ i, i < K ∧ Astray K T (T i) := by
  constructor
  · rintro ⟨h1, h2⟩
    refine ⟨fun ⟨i, hi, h0, h⟩ => ?_, fun ⟨i, hi, ha⟩ => ?_⟩
    · rcases h1 i hi with h3 | h3
      · exact h0 h3
      · exact h h3
    · obtain ⟨k, hk, hp, h0, h⟩ := astray_iff.1 ha
      rcases h2 i hi k hk hp with h3 | h3
      · exact h0 h3
      · exact h h3
  · rintro ⟨h1, h2⟩
    refine ⟨fun i hi => ?_, fun i hi k hk hp => ?_⟩
    · by_cases h0 : (S i).nd = 0
      · exact .inl h0
      · by_cases h : Has K T (S i).nd
        · exact .inr h
        · exact absurd ⟨i, hi, h0, h⟩ h1
    · by_cases h0 : (T i).f k = 0
      · exact .inl h0
      · by_cases h : Has K T ((T i).f k)
        · exact .inr h
        · exact absurd ⟨i, hi, astray_iff.2 ⟨k, hk, hp, h0, h⟩⟩ h2

/-- What the closure reads. -/
structure CapM (w : World) (g : Nat) (te qu ha : Int) (sa : Option Addr) (M kc : Nat) (na : Option Addr) (K nc : Nat) (T : Nat → GM) : Prop where
  blk : Blk w g [.int .i64 te, .int .i64 qu, .int .i64 ha, .slice sa M kc, .slice na K nc]
  nv : NV w na K T

theorem CapM.below {w w' : World} {g : Nat} {te qu ha : Int} {sa : Option Addr} {M kc : Nat} {na : Option Addr} {K nc : Nat} {T : Nat → GM} (h : CapM w g te qu ha sa M kc na K nc T) (hb : Below w.heap.size w w') : CapM w' g te qu ha sa M kc na K nc T := ⟨h.blk.below hb, h.nv.below hb⟩

theorem cap6 {w : World} {g b : Nat} {te qu ha x s m h : Int} {sa na a : Option Addr} {M kc K nc n c : Nat} (hC : Blk w g [.int .i64 te, .int .i64 qu, .int .i64 ha, .slice sa M kc, .slice na K nc]) (hX : Blk w b [.int .i64 x, .int .i64 s, .int .i64 m, .int .i64 h, .slice a n c]) : w.cell? ⟨g, 4, none⟩ = some (.slice na K nc) ∧ w.cell? ⟨b, 0, none⟩ = some (.int .i64 x) ∧ w.cell? ⟨b, 1, none⟩ = some (.int .i64 s) ∧ w.cell? ⟨b, 2, none⟩ = some (.int .i64 m) ∧ w.cell? ⟨b, 3, none⟩ = some (.int .i64 h) ∧ w.cell? ⟨b, 4, none⟩ = some (.slice a n c) := ⟨hC.at 4 rfl, hX.at 0 rfl, hX.at 1 rfl, hX.at 2 rfl, hX.at 3 rfl, hX.at 4 rfl⟩

set_option maxRecDepth 100000 in
set_option maxHeartbeats 1600000 in
theorem astray1_any (g : Nat) (te qu ha : Int) (sa : Option Addr) (M kc : Nat) (na : Option Addr) (K nc : Nat) (T : Nat → GM) (t : GM) (r : Bool) (w : World) (h : CapM w g te qu ha sa M kc na K nc T) (hK : K ≤ 1000) (hm : ∀ i j, i < j → j < K → (T i).at_ < (T j).at_) (hs : Src w t.a t.n t.f) (hk : IsNode t 0) (hr : r = true ↔ Astray K T t) :
    Calls Try.prog 160 #[.agg #[.int .i64 t.at_, .int .i64 t.s, .int .i64 t.m, .int .i64 t.h, .slice t.a t.n t.c], .pointer (some ⟨g, 0, none⟩)] w (RetBool w r) := by
  have C0 := Lib.hid h; have S0 := Lib.hid hs; have HK := Lib.hid hk
  have X1 := Lib.hid (Blk.new_at (w := w) (cs := #[.int .i64 t.at_, .int .i64 t.s, .int .i64 t.m, .int .i64 t.h, .slice t.a t.n t.c]) (t := 142) w.heap.size rfl)
  have HB0 := Lib.hid ((Below.refl w.heap.size w).alloc (Nat.le_refl _) (.cells #[.int .i64 t.at_, .int .i64 t.s, .int .i64 t.m, .int .i64 t.h, .slice t.a t.n t.c] 142))
  have hn12 : t.n ≤ 12 := by obtain ⟨⟨_, hok⟩, hsz, _⟩ := isNode_zero hk; have := hok.1.2; omega
  have hpl := ptL_len t t.n
  clear h hs hk
  go_enter Try.func160, Try.ntmps160
  go_wp2_with fail
  have C1 := Lib.hid (C0.out.below HB0.out); have S1 := Lib.hid (S0.out.below HB0.out)
  have lX := X1.out.1
  clear C0 S0
  generalize w.alloc (.cells #[.int .i64 t.at_, .int .i64 t.s, .int .i64 t.m, .int .i64 t.h, .slice t.a t.n t.c] 142) = w0 at *
  have C1d := Lib.hid (C1.out.below (Below.refl _ _).drew); have S1d := Lib.hid (S1.out.below (Below.refl _ _).drew); have X1d := Lib.hid X1.out.drew; have HB0d := Lib.hid HB0.out.drew
  go_region_held3 (fun w' => w'.cell? ⟨g, 4, none⟩ = some (.slice na K nc) ∧ w'.cell? ⟨w.heap.size, 0, none⟩ = some (.int .i64 t.at_) ∧ w'.cell? ⟨w.heap.size, 1, none⟩ = some (.int .i64 t.s) ∧ w'.cell? ⟨w.heap.size, 2, none⟩ = some (.int .i64 t.m) ∧ w'.cell? ⟨w.heap.size, 3, none⟩ = some (.int .i64 t.h) ∧ w'.cell? ⟨w.heap.size, 4, none⟩ = some (.slice t.a t.n t.c))
    (first | (with_reducible exact cap6 C1.out.blk X1.out) | (with_reducible exact cap6 C1d.out.blk X1d.out) | (with_reducible exact cap6 C2.out.blk X2.out) | (with_reducible exact cap6 C3.out.blk X3.out))
    (first | (go_at_call 161; refine (ptrsOf_any t _ S1d.out HK.out).mono ?_; rintro e w2 ⟨pa, pc, rfl, ho, hb, -, -, -⟩; have HB2 := Lib.hid (HB0d.out.trans (hb.mono HB0d.out.size)); have C2 := Lib.hid (C1d.out.below hb); have X2 := Lib.hid (X1d.out.below hb); have HO := Lib.hid ho.src; clear ho hb) | (go_at_call 157; refine (strayId_any na K nc T pa _ pc (lf (ptL t t.n)) r _ C2.out.nv (by omega) hm HO.out (by omega) hr).mono ?_; rintro e w3 ⟨rfl, hb⟩; have HB3 := Lib.hid (thru0 HB2.out hb); have C3 := Lib.hid (C2.out.below hb); have X3 := Lib.hid (X2.out.below hb); clear hb))
  go_wp2
  go_ret
  exact ⟨rfl, HB3.out⟩

/-- slices.IndexFunc over nodes with that closure. -/
def RetIn5 (W : World) (K : Nat) (T : Nat → GM) (e : Ending) (w' : World) : Prop :=
  Below W.heap.size W w' ∧ (((∀ j, j < K → ¬ Astray K T (T j)) ∧ e = .returned (.int .i64 (-1))) ∨ ∃ i : Nat, i < K ∧ Astray K T (T i) ∧ e = .returned (.int .i64 (i : Int)))

set_option maxRecDepth 100000 in
set_option maxHeartbeats 1600000 in
theorem indexN_any (g : Nat) (te qu ha : Int) (sa : Option Addr) (M kc : Nat) (na : Option Addr) (K nc : Nat) (T : Nat → GM) (w : World) (h : CapM w g te qu ha sa M kc na K nc T) (hK : K ≤ 1000) (hm : ∀ i j, i < j → j < K → (T i).at_ < (T j).at_) (hk : ∀ i, i < K → IsNode (T i) 0) :
    Calls Try.prog 202 #[.slice na K nc, .func (.func 160) #[] #[.pointer (some ⟨g, 0, none⟩)]] w (RetIn5 w K T) := by
  have HC := Lib.hid h; have HM := Lib.hid hm; have HK := Lib.hid hk
  have eg : ∀ args w, (callFunc 160 args).run Try.prog w = .ok (.enter 160 args) w := enters_of Try.func160 (by kernel_rfl) rfl
  clear h hm hk
  go_enter Try.func202, Try.ntmps202
  go_wp2
  go_loopw [8] (fun p wr => ∃ i : Nat, i ≤ K ∧ p = .int .i64 (i : Int) ∧ Hid (Below w.heap.size w wr) ∧ Hid (∀ j, j < i → ¬ Astray K T (T j))) (fun p _ => K - (intOf p).toNat)
  case atStart => exact ⟨0, Nat.zero_le _, rfl, Below.refl _ _, Lib.hid (fun j hj => by omega)⟩
  case round =>
    obtain ⟨i, hi, rfl, HBr, HD⟩ := hrel
    by_cases hlt : i < K
    · have hlt' : (i : Int) < (K : Int) := by omega
      have hi0 : (0 : Int) ≤ (i : Int) := by omega
      have HCR := Lib.hid (HC.out.below HBr.out)
      obtain ⟨b, q, rfl, lb, hsix, hsrc⟩ := nv_get HCR.out.nv hlt
      have SR := Lib.hid hsrc
      have HKI := Lib.hid (HK.out i hlt)
      clear hsrc
      obtain ⟨s0, s1, s2, s3, s4⟩ := hsix
      by_cases hin : Astray K T (T i)
      · have HF : Hid (∃ i' : Nat, i' < K ∧ Astray K T (T i') ∧ Ending.returned (.int .i64 (i : Int)) = Ending.returned (.int .i64 (i' : Int))) := Lib.hid ⟨i, hlt, hin, rfl⟩
        have HIN := Lib.hid (show true = true ↔ Astray K T (T i) by simp [hin])
        clear hin
        go_wp2_with (go_at_fn 160; refine (astray1_any g te qu ha sa M kc _ K nc T (T i) true _ HCR.out hK HM.out SR.out HKI.out HIN.out).mono ?_; rintro e w1 ⟨rfl, hb⟩; have HB1 := Lib.hid (thru0 HBr.out hb); clear hb)
        go_ret
        exact ⟨HB1.out, .inr HF.out⟩
      · have HD' : Hid (∀ j, j < i + 1 → ¬ Astray K T (T j)) := Lib.hid fun j hj => by
          rcases Nat.lt_succ_iff_lt_or_eq.mp hj with h1 | h1
          · exact HD.out j h1
          · subst h1; exact hin
        have HIN := Lib.hid (show false = true ↔ Astray K T (T i) by simp [hin])
        clear hin HD
        go_wp2_with (go_at_fn 160; refine (astray1_any g te qu ha sa M kc _ K nc T (T i) false _ HCR.out hK HM.out SR.out HKI.out HIN.out).mono ?_; rintro e w1 ⟨rfl, hb⟩; have HB1 := Lib.hid (thru0 HBr.out hb); clear hb)
        clear s0 s1 s2 s3 s4
        go_roundw
        case rel => first | exact ⟨i + 1, by omega, by go_num, HB1, HD'⟩ | ((repeat apply Exists.intro); exact ⟨⟨i + 1, by omega, by go_num, HB1, HD'⟩, rfl⟩)
        case measure => simp [intOf]; omega
    · have hlt' : ¬ (i : Int) < (K : Int) := by omega
      go_wp2
      go_ret
      exact ⟨HBr.out, .inl ⟨fun j hj => HD.out j (by omega), rfl⟩⟩

set_option maxRecDepth 100000 in
set_option maxHeartbeats 400000 in
theorem containsN_any (g : Nat) (te qu ha : Int) (sa : Option Addr) (M kc : Nat) (na : Option Addr) (K nc : Nat) (T : Nat → GM) (r : Bool) (w : World) (h : CapM w g te qu ha sa M kc na K nc T) (hK : K ≤ 1000) (hm : ∀ i j, i < j → j < K → (T i).at_ < (T j).at_) (hk : ∀ i, i < K → IsNode (T i) 0) (hr : r = true ↔ ∃ i, i < K ∧ Astray K T (T i)) :
    Calls Try.prog 159 #[.slice na K nc, .func (.func 160) #[] #[.pointer (some ⟨g, 0, none⟩)]] w (RetBool w r) := by
  have HR := Lib.hid hr
  clear hr
  go_enter Try.func159, Try.ntmps159
  go_wp2_with fail
  refine (indexN_any g te qu ha sa M kc na K nc T _ h hK hm hk).mono ?_
  rintro e w1 ⟨hb, hres⟩
  have HB1 := Lib.hid hb
  clear hb
  rcases hres with ⟨hno, rfl⟩ | ⟨i, hi, hin, rfl⟩
  · obtain rfl : r = false := by
      cases r
      · rfl
      · obtain ⟨i, hi, h⟩ := HR.out.1 rfl
        exact absurd h (hno i hi)
    go_wp2
    go_ret
    exact ⟨rfl, HB1.out⟩
  · obtain rfl : r = true := HR.out.2 ⟨i, hi, hin⟩
    have hi0 : (0 : Int) ≤ (i : Int) := by omega
    clear hin
    go_wp2
    go_ret
    exact ⟨rfl, HB1.out⟩
end Go.Proofs.Ytihbenbfnpiikaa

namespace Go.Proofs.Ytihbenbfnpiikaa
open Go.RowKit
set_option linter.unusedVariables false

theorem cap2 {w : World} {g : Nat} {te qu ha : Int} {sa na : Option Addr} {M kc K nc : Nat} (hC : Blk w g [.int .i64 te, .int .i64 qu, .int .i64 ha, .slice sa M kc, .slice na K nc]) : w.cell? ⟨g, 3, none⟩ = some (.slice sa M kc) ∧ w.cell? ⟨g, 4, none⟩ = some (.slice na K nc) := ⟨hC.at 3 rfl, hC.at 4 rfl⟩

set_option maxRecDepth 100000 in
set_option maxHeartbeats 3200000 in
theorem leadsAstray_any (te qu ha : Int) (sa : Option Addr) (M kc : Nat) (S : Nat → SL) (na : Option Addr) (K nc : Nat) (T : Nat → GM) (r : Bool) (w : World) (hp : PV w sa M S) (hg : NV w na K T) (hM : M ≤ 1000) (hK : K ≤ 1000) (hm : ∀ i j, i < j → j < K → (T i).at_ < (T j).at_) (hk : ∀ i, i < K → IsNode (T i) 0) (hr : r = true ↔ ¬ MLead M S K T) :
    Calls Try.prog 98 #[.agg #[.int .i64 te, .int .i64 qu, .int .i64 ha, .slice sa M kc, .slice na K nc]] w (RetBool w r) := by
  have X1 := Lib.hid (Blk.new_at (w := w) (cs := #[.int .i64 te, .int .i64 qu, .int .i64 ha, .slice sa M kc, .slice na K nc]) (t := 56) w.heap.size rfl)
  have HB0 := Lib.hid ((Below.refl w.heap.size w).alloc (Nat.le_refl _) (.cells #[.int .i64 te, .int .i64 qu, .int .i64 ha, .slice sa M kc, .slice na K nc] 56))
  have P1 := Lib.hid (hp.below HB0.out); have G1 := Lib.hid (hg.below HB0.out)
  have HR := Lib.hid hr
  clear hp hg hr
  by_cases h1 : ∃ i, i < M ∧ Stray K T (S i).nd
  · obtain rfl : r = true := HR.out.2 fun h => (lead_iff.1 h).1 h1
    have H1 := Lib.hid h1
    clear h1
    go_enter Try.func98, Try.ntmps98
    go_wp2_with fail
    generalize w.alloc (.cells #[.int .i64 te, .int .i64 qu, .int .i64 ha, .slice sa M kc, .slice na K nc] 56) = w0 at *
    have P1d := Lib.hid (P1.out.below (Below.refl _ _).drew); have G1d := Lib.hid (G1.out.below (Below.refl _ _).drew); have X1d := Lib.hid X1.out.drew; have HB0d := Lib.hid HB0.out.drew
    refine wp_region_held_drew (S := (fun w' => w'.cell? ⟨w.heap.size, 3, none⟩ = some (.slice sa M kc) ∧ w'.cell? ⟨w.heap.size, 4, none⟩ = some (.slice na K nc))) (by kernel_rfl) (cap2 X1d.out) (fun hHeld => ?_)
    refine wpAnyH_take (i := 0) (oi := { dst := some 3, op := Op.fieldAddr 56 (Operand.tmp 1) 4, type := 0, pos := "l05_graph.go:129", after := #[], guard := none }) (v := ?_) rfl (by kernel_rfl) (by kernel_rfl) (by kernel_rfl) (fun _ _ _ h => h) (Or.inl ⟨by rfl, ?_⟩) (by assumption) ?_
    rotate_left
    · intro w hSw; (try dsimp only at hSw); go_simp; (try with_reducible rfl)
    try simp only [Act.put, List.setIfInBounds_toArray, List.set_cons_zero, List.set_cons_succ]
    refine wpAnyH_take (i := 1) (oi := { dst := some 4, op := Op.load 54 (Operand.tmp 3), type := 54, pos := "l05_graph.go:129", after := #[{ on := 0, ground := Ground.data }], guard := none }) (v := ?_) rfl (by kernel_rfl) (by kernel_rfl) (by kernel_rfl) (fun _ _ _ h => h) (Or.inl ⟨by rfl, ?_⟩) (by assumption) ?_
    rotate_left
    · intro w hSw; (try dsimp only at hSw); go_simp; (try with_reducible rfl)
    try simp only [Act.put, List.setIfInBounds_toArray, List.set_cons_zero, List.set_cons_succ]
    refine wpAnyH_take (i := 2) (oi := { dst := some 5, op := Op.fieldAddr 56 (Operand.tmp 1) 3, type := 0, pos := "l05_graph.go:129", after := #[], guard := none }) (v := ?_) rfl (by kernel_rfl) (by kernel_rfl) (by kernel_rfl) (fun _ _ _ h => h) (Or.inl ⟨by rfl, ?_⟩) (by assumption) ?_
    rotate_left
    · intro w hSw; (try dsimp only at hSw); go_simp; (try with_reducible rfl)
    try simp only [Act.put, List.setIfInBounds_toArray, List.set_cons_zero, List.set_cons_succ]
    refine wpAnyH_take (i := 3) (oi := { dst := some 6, op := Op.load 53 (Operand.tmp 5), type := 53, pos := "l05_graph.go:129", after := #[{ on := 2, ground := Ground.data }], guard := none }) (v := ?_) rfl (by kernel_rfl) (by kernel_rfl) (by kernel_rfl) (fun _ _ _ h => h) (Or.inl ⟨by rfl, ?_⟩) (by assumption) ?_
    rotate_left
    · intro w hSw; (try dsimp only at hSw); go_simp; (try with_reducible rfl)
    try simp only [Act.put, List.setIfInBounds_toArray, List.set_cons_zero, List.set_cons_succ]
    refine wpAnyH_ready (rs := [4]) (by kernel_rfl) (by simp) ?_
    refine AllReadyH.cons (o := _) rfl (fun Kq hKq => ?_) AllReadyH.nil
    go_simp
    (go_at_call 158; refine (slotNodes_any sa M kc S _ P1d.out (by omega)).mono ?_; rintro e w2 ⟨pa, pc, rfl, ho, hb, -, -, -⟩; have HB2 := Lib.hid (HB0d.out.trans (hb.mono HB0d.out.size)); have X2 := Lib.hid (X1d.out.below hb); have G2 := Lib.hid (G1d.out.below hb); have HO := Lib.hid ho.src; clear ho hb)
    first | (refine hKq.out _ _ (cap2 X2.out) (fun hHeld => ?_)) | (go_wp2_with fail; refine hKq.out _ _ (cap2 X2.out) (fun hHeld => ?_))
    clear hKq Kq
    try simp only [Act.put, List.setIfInBounds_toArray, List.set_cons_zero, List.set_cons_succ]
    refine wpAnyH_ready (rs := [5]) (by kernel_rfl) (by simp) ?_
    refine AllReadyH.cons (o := _) rfl (fun Kq hKq => ?_) AllReadyH.nil
    go_simp
    (go_at_call 157; refine (strayId_any na K nc T pa _ pc (fun i => (S i).nd) true _ G2.out (by omega) hm HO.out (by omega) ⟨fun _ => H1.out, fun _ => rfl⟩).mono ?_; rintro e w3 ⟨rfl, hb⟩; have HB3 := Lib.hid (thru0 HB2.out hb); have X3 := Lib.hid (X2.out.below hb); have G3 := Lib.hid (G2.out.below hb); clear hb)
    first | (refine hKq.out _ _ (cap2 X3.out) (fun hHeld => ?_)) | (go_wp2_with fail; refine hKq.out _ _ (cap2 X3.out) (fun hHeld => ?_))
    clear hKq Kq
    try simp only [Act.put, List.setIfInBounds_toArray, List.set_cons_zero, List.set_cons_succ]
    refine wpAnyH_take (i := 6) (oi := { dst := some 9, op := Op.move (Operand.tmp 8), type := 4, pos := "l05_graph.go:129", after := #[{ on := 5, ground := Ground.data }, { on := 5, ground := Ground.chain }], guard := none }) (v := ?_) rfl (by kernel_rfl) (by kernel_rfl) (by kernel_rfl) (fun _ _ _ h => h) (Or.inl ⟨by rfl, ?_⟩) (by assumption) ?_
    rotate_left
    · intro w hSw; (try dsimp only at hSw); go_simp; (try with_reducible rfl)
    try simp only [Act.put, List.setIfInBounds_toArray, List.set_cons_zero, List.set_cons_succ]
    refine wpAnyH_take (i := 7) (oi := { dst := some 10, op := Op.fieldAddr 56 (Operand.tmp 1) 4, type := 0, pos := "l05_graph.go:129", after := #[{ on := 6, ground := Ground.guard }], guard := some (6, false) }) (v := _) rfl (by kernel_rfl) (by kernel_rfl) (by kernel_rfl) (fun _ _ _ h => h) (Or.inr ⟨by rfl, rfl⟩) (by assumption) ?_
    refine wpAnyH_take (i := 8) (oi := { dst := some 11, op := Op.load 54 (Operand.tmp 10), type := 54, pos := "l05_graph.go:129", after := #[{ on := 7, ground := Ground.data }, { on := 6, ground := Ground.guard }], guard := some (6, false) }) (v := _) rfl (by kernel_rfl) (by kernel_rfl) (by kernel_rfl) (fun _ _ _ h => h) (Or.inr ⟨by rfl, rfl⟩) (by assumption) ?_
    refine wpAnyH_take (i := 9) (oi := { dst := some 12, op := Op.makeFunc (Fn.func 160) #[] #[Operand.tmp 1], type := 218, pos := "l05_graph.go:129", after := #[{ on := 6, ground := Ground.guard }], guard := some (6, false) }) (v := _) rfl (by kernel_rfl) (by kernel_rfl) (by kernel_rfl) (fun _ _ _ h => h) (Or.inr ⟨by rfl, rfl⟩) (by assumption) ?_
    refine wpAnyH_ready (rs := [10]) (by kernel_rfl) (by simp) ?_
    refine AllReadyH.cons (o := _) rfl (fun Kq hKq => ?_) AllReadyH.nil
    go_simp
    refine hKq.out _ _ (cap2 X3.out) (fun hHeld => ?_)
    clear hKq Kq
    try simp only [Act.put, List.setIfInBounds_toArray, List.set_cons_zero, List.set_cons_succ]
    refine wpAnyH_take (i := 11) (oi := { dst := some 14, op := Op.pick (Operand.tmp 9) (Operand.const (Value.bool true)) (Operand.tmp 13), type := 4, pos := "l05_graph.go:129", after := #[{ on := 6, ground := Ground.data }, { on := 10, ground := Ground.data }], guard := none }) (v := ?_) rfl (by kernel_rfl) (by kernel_rfl) (by kernel_rfl) (fun _ _ _ h => h) (Or.inl ⟨by rfl, ?_⟩) (by assumption) ?_
    rotate_left
    · intro w hSw; (try dsimp only at hSw); go_simp; (try with_reducible rfl)
    try simp only [Act.put, List.setIfInBounds_toArray, List.set_cons_zero, List.set_cons_succ]
    refine wpAnyH_take (i := 12) (oi := { dst := some 2, op := Op.assign (Operand.tmp 14), type := 4, pos := "l05_graph.go:129", after := #[{ on := 11, ground := Ground.data }, { on := 10, ground := Ground.chain }, { on := 0, ground := Ground.phase }, { on := 1, ground := Ground.phase }, { on := 2, ground := Ground.phase }, { on := 3, ground := Ground.phase }, { on := 4, ground := Ground.phase }, { on := 5, ground := Ground.phase }, { on := 6, ground := Ground.phase }, { on := 7, ground := Ground.phase }, { on := 8, ground := Ground.phase }, { on := 9, ground := Ground.phase }, { on := 10, ground := Ground.phase }, { on := 11, ground := Ground.phase }], guard := none }) (v := ?_) rfl (by kernel_rfl) (by kernel_rfl) (by kernel_rfl) (fun _ _ _ h => h) (Or.inl ⟨by rfl, ?_⟩) (by assumption) ?_
    rotate_left
    · intro w hSw; (try dsimp only at hSw); go_simp; (try with_reducible rfl)
    try simp only [Act.put, List.setIfInBounds_toArray, List.set_cons_zero, List.set_cons_succ]
    refine wpAnyH_done (by kernel_rfl) ?_ _
    go_wp2
    go_ret
    exact ⟨rfl, HB3.out⟩
  · have H1f : Hid (false = true ↔ ∃ i, i < M ∧ Stray K T (S i).nd) := Lib.hid ⟨fun h => (by cases h), fun h => absurd h h1⟩
    have H2 : Hid (r = true ↔ ∃ i, i < K ∧ Astray K T (T i)) := Lib.hid (by
      rw [HR.out, lead_iff]
      constructor
      · intro h
        by_cases h2 : ∃ i, i < K ∧ Astray K T (T i)
        · exact h2
        · exact absurd ⟨h1, h2⟩ h
      · exact fun h2 h => h.2 h2)
    have HK := Lib.hid hk
    clear h1 hk
    go_enter Try.func98, Try.ntmps98
    go_wp2_with fail
    generalize w.alloc (.cells #[.int .i64 te, .int .i64 qu, .int .i64 ha, .slice sa M kc, .slice na K nc] 56) = w0 at *
    have P1d := Lib.hid (P1.out.below (Below.refl _ _).drew); have G1d := Lib.hid (G1.out.below (Below.refl _ _).drew); have X1d := Lib.hid X1.out.drew; have HB0d := Lib.hid HB0.out.drew
    go_region_held3 (fun w' => w'.cell? ⟨w.heap.size, 3, none⟩ = some (.slice sa M kc) ∧ w'.cell? ⟨w.heap.size, 4, none⟩ = some (.slice na K nc))
      (first | (with_reducible exact cap2 X1.out) | (with_reducible exact cap2 X1d.out) | (with_reducible exact cap2 X2.out) | (with_reducible exact cap2 X3.out) | (with_reducible exact cap2 X4.out))
      (first | (go_at_call 158; refine (slotNodes_any sa M kc S _ P1d.out (by omega)).mono ?_; rintro e w2 ⟨pa, pc, rfl, ho, hb, -, -, -⟩; have HB2 := Lib.hid (HB0d.out.trans (hb.mono HB0d.out.size)); have X2 := Lib.hid (X1d.out.below hb); have G2 := Lib.hid (G1d.out.below hb); have HO := Lib.hid ho.src; clear ho hb) | (go_at_call 157; refine (strayId_any na K nc T pa _ pc (fun i => (S i).nd) false _ G2.out (by omega) hm HO.out (by omega) H1f.out).mono ?_; rintro e w3 ⟨rfl, hb⟩; have HB3 := Lib.hid (thru0 HB2.out hb); have X3 := Lib.hid (X2.out.below hb); have G3 := Lib.hid (G2.out.below hb); clear hb) | (go_at_call 159; refine (containsN_any w.heap.size te qu ha sa M kc na K nc T r _ ⟨X3.out, G3.out⟩ hK hm HK.out H2.out).mono ?_; rintro e w4 ⟨rfl, hb⟩; have HB4 := Lib.hid (thru0 HB3.out hb); have X4 := Lib.hid (X3.out.below hb); clear hb))
    go_wp2
    go_ret
    exact ⟨rfl, HB4.out⟩

/-- A slot that was never given away, and leads to a node. -/
def Never (t : SL) : Prop := ¬ t.nd = 0 ∧ t.g = 0

set_option maxRecDepth 100000 in
set_option maxHeartbeats 400000 in
theorem never1_any (t : SL) (r : Bool) (w : World) (hr : r = true ↔ Never t) :
    Calls Try.prog 100 #[.agg #[.int .i64 t.g, .int .i64 t.nd]] w (RetBool w r) := by
  by_cases hx : t.nd = 0
  · obtain rfl : r = false := by
      cases r
      · rfl
      · exact absurd hx (hr.1 rfl).1
    have hx' : (t.nd != 0) = false := by simpa using hx
    clear hr hx
    go_enter Try.func100, Try.ntmps100
    go_wp2
    go_ret
    exact ⟨rfl, (Below.refl _ _).alloc (Nat.le_refl _) _⟩
  · have hx' : (t.nd != 0) = true := by simpa using hx
    by_cases hy : t.g = 0
    · obtain rfl : r = true := hr.2 ⟨hx, hy⟩
      have hy' : (t.g == 0) = true := by simpa using hy
      clear hr hx hy
      go_enter Try.func100, Try.ntmps100
      go_wp2
      go_ret
      exact ⟨rfl, (Below.refl _ _).alloc (Nat.le_refl _) _⟩
    · obtain rfl : r = false := by
        cases r
        · rfl
        · exact absurd (hr.1 rfl).2 hy
      have hy' : (t.g == 0) = false := by simpa using hy
      clear hr hx hy
      go_enter Try.func100, Try.ntmps100
      go_wp2
      go_ret
      exact ⟨rfl, (Below.refl _ _).alloc (Nat.le_refl _) _⟩

def RetIs (W : World) (M : Nat) (S : Nat → SL) (e : Ending) (w' : World) : Prop :=
  Below W.heap.size W w' ∧ (((∀ j, j < M → ¬ Never (S j)) ∧ e = .returned (.int .i64 (-1))) ∨ ∃ i : Nat, i < M ∧ Never (S i) ∧ e = .returned (.int .i64 (i : Int)))

set_option maxRecDepth 100000 in
set_option maxHeartbeats 1600000 in
theorem indexS_any (sa : Option Addr) (M kc : Nat) (S : Nat → SL) (w : World) (h : PV w sa M S) (hM : M ≤ 1000) :
    Calls Try.prog 162 #[.slice sa M kc, .func (.func 100) #[] #[]] w (RetIs w M S) := by
  have HC := Lib.hid h
  have eg : ∀ args w, (callFunc 100 args).run Try.prog w = .ok (.enter 100 args) w := enters_of Try.func100 (by kernel_rfl) rfl
  clear h
  go_enter Try.func162, Try.ntmps162
  go_wp2
  go_loopw [8] (fun p wr => ∃ i : Nat, i ≤ M ∧ p = .int .i64 (i : Int) ∧ Hid (Below w.heap.size w wr) ∧ Hid (∀ j, j < i → ¬ Never (S j))) (fun p _ => M - (intOf p).toNat)
  case atStart => exact ⟨0, Nat.zero_le _, rfl, Below.refl _ _, Lib.hid (fun j hj => by omega)⟩
  case round =>
    obtain ⟨i, hi, rfl, HBr, HD⟩ := hrel
    by_cases hlt : i < M
    · have hlt' : (i : Int) < (M : Int) := by omega
      have hi0 : (0 : Int) ≤ (i : Int) := by omega
      obtain ⟨b, q, rfl, lb, s0, s1⟩ := pv_get (HC.out.below HBr.out) hlt
      by_cases hin : Never (S i)
      · have HF : Hid (∃ i' : Nat, i' < M ∧ Never (S i') ∧ Ending.returned (.int .i64 (i : Int)) = Ending.returned (.int .i64 (i' : Int))) := Lib.hid ⟨i, hlt, hin, rfl⟩
        have HIN := Lib.hid (show true = true ↔ Never (S i) by simp [hin])
        clear hin
        go_wp2_with (go_at_fn 100; refine (never1_any (S i) true _ HIN.out).mono ?_; rintro e w1 ⟨rfl, hb⟩; have HB1 := Lib.hid (thru0 HBr.out hb); clear hb)
        go_ret
        exact ⟨HB1.out, .inr HF.out⟩
      · have HD' : Hid (∀ j, j < i + 1 → ¬ Never (S j)) := Lib.hid fun j hj => by
          rcases Nat.lt_succ_iff_lt_or_eq.mp hj with h1 | h1
          · exact HD.out j h1
          · subst h1; exact hin
        have HIN := Lib.hid (show false = true ↔ Never (S i) by simp [hin])
        clear hin HD
        go_wp2_with (go_at_fn 100; refine (never1_any (S i) false _ HIN.out).mono ?_; rintro e w1 ⟨rfl, hb⟩; have HB1 := Lib.hid (thru0 HBr.out hb); clear hb)
        clear s0 s1
        go_roundw
        case rel => first | exact ⟨i + 1, by omega, by go_num, HB1, HD'⟩ | ((repeat apply Exists.intro); exact ⟨⟨i + 1, by omega, by go_num, HB1, HD'⟩, rfl⟩)
        case measure => simp [intOf]; omega
    · have hlt' : ¬ (i : Int) < (M : Int) := by omega
      go_wp2
      go_ret
      exact ⟨HBr.out, .inl ⟨fun j hj => HD.out j (by omega), rfl⟩⟩

set_option maxRecDepth 100000 in
set_option maxHeartbeats 400000 in
theorem containsS_any (sa : Option Addr) (M kc : Nat) (S : Nat → SL) (r : Bool) (w : World) (h : PV w sa M S) (hM : M ≤ 1000) (hr : r = true ↔ ¬ MGive M S) :
    Calls Try.prog 99 #[.slice sa M kc, .func (.func 100) #[] #[]] w (RetBool w r) := by
  have HR := Lib.hid hr
  clear hr
  go_enter Try.func99, Try.ntmps99
  go_wp2_with fail
  refine (indexS_any sa M kc S _ h hM).mono ?_
  rintro e w1 ⟨hb, hres⟩
  have HB1 := Lib.hid hb
  clear hb
  rcases hres with ⟨hno, rfl⟩ | ⟨i, hi, hin, rfl⟩
  · obtain rfl : r = false := by
      cases r
      · rfl
      · refine absurd (fun i hi => ?_) (HR.out.1 rfl)
        have := hno i hi
        unfold Never at this
        by_cases h : (S i).nd = 0
        · exact .inl h
        · exact .inr fun h2 => this ⟨h, h2⟩
    go_wp2
    go_ret
    exact ⟨rfl, HB1.out⟩
  · obtain rfl : r = true := HR.out.2 fun h => by
      rcases h i hi with h | h
      · exact hin.1 h
      · exact h hin.2
    have hi0 : (0 : Int) ≤ (i : Int) := by omega
    clear hin
    go_wp2
    go_ret
    exact ⟨rfl, HB1.out⟩
end Go.Proofs.Ytihbenbfnpiikaa

namespace Go.Proofs.Ytihbenbfnpiikaa
open Go.RowKit
set_option linter.unusedVariables false

set_option maxRecDepth 100000 in
set_option maxHeartbeats 6400000 in
theorem implMF_any (te qu ha : Int) (sa : Option Addr) (M kc : Nat) (S : Nat → SL) (na : Option Addr) (K nc : Nat) (T : Nat → GM) (c : Int) (w : World)
    (hp : PV w sa M S) (hg : NV w na K T) (hM : M ≤ 1048576) (hK : K ≤ 1048576) (hn : ∀ i, i < K → (T i).n ≤ 1048576) (hk : IsMF te qu ha M S K T c) :
    Calls Try.prog 37 #[.agg #[.int .i64 te, .int .i64 qu, .int .i64 ha, .slice sa M kc, .slice na K nc]] w (RetInt w c) := by
  have X1 := Lib.hid (Blk.new_at (w := w) (cs := #[.int .i64 te, .int .i64 qu, .int .i64 ha, .slice sa M kc, .slice na K nc]) (t := 56) w.heap.size rfl)
  have HB0 := Lib.hid ((Below.refl w.heap.size w).alloc (Nat.le_refl _) (.cells #[.int .i64 te, .int .i64 qu, .int .i64 ha, .slice sa M kc, .slice na K nc] 56))
  have P1 := Lib.hid (hp.below HB0.out); have G1 := Lib.hid (hg.below HB0.out); have HN := Lib.hid hn
  clear hp hg hn
  rcases hk with ⟨h1, rfl⟩ | ⟨t0, hk⟩
  · have H1 := Lib.hid (show ¬ ((0 ≤ te ∧ te ≤ 3) ∧ (2 ≤ qu ∧ qu ≤ 200) ∧ (0 ≤ ha ∧ ha ≤ 99999)) from h1)
    clear h1
    go_enter Try.func37, Try.ntmps37
    go_wp2_with fail
    with_reducible refine (isOut3 _ _ _ _ _ _ _ _ _ _ _ true (by simp) (.inr ⟨rfl, H1.out⟩)).mono ?_
    rintro e w1 ⟨rfl, hb⟩
    have HB1 := Lib.hid (thru1 HB0.out hb)
    clear hb
    go_wp2
    go_ret
    exact ⟨rfl, HB1.out⟩
  have T0 := Lib.hid (show (0 ≤ te ∧ te ≤ 3) ∧ (2 ≤ qu ∧ qu ≤ 200) ∧ (0 ≤ ha ∧ ha ≤ 99999) from t0)
  have HK0 := Lib.hid hk
  clear t0 hk
  go_enter Try.func37, Try.ntmps37
  go_wp2_with fail
  with_reducible refine (isOut3 _ _ _ _ _ _ _ _ _ _ _ false (by simp) (.inl ⟨rfl, T0.out⟩)).mono ?_
  rintro e w1 ⟨rfl, hb⟩
  have HB1 := Lib.hid (thru1 HB0.out hb)
  have X2 := Lib.hid ((X1.out.alloc _).below hb); have P2' := Lib.hid ((P1.out.alloc _).below hb); have G2 := Lib.hid ((G1.out.alloc _).below hb)
  clear hb X1 P1 G1 HB0
  have c3 := X2.out.at 3 rfl; have c4 := X2.out.at 4 rfl; have lX := X2.out.1
  rcases HK0.out with ⟨h2, rfl⟩ | ⟨t2, hk⟩
  · have H2 := Lib.hid (show ¬ ((1 ≤ (M : Int) ∧ (M : Int) ≤ 8) ∧ (0 ≤ (K : Int) ∧ (K : Int) ≤ 150)) from h2)
    clear h2 HK0
    go_wp2_with fail
    with_reducible refine (isOut2 _ _ _ _ _ _ _ _ true (by simp) (.inr ⟨rfl, H2.out⟩)).mono ?_
    rintro e w2 ⟨rfl, hb⟩
    have HB2 := Lib.hid (thru1 HB1.out hb)
    clear hb
    go_wp2
    go_ret
    exact ⟨rfl, HB2.out⟩
  have T2 := Lib.hid (show (1 ≤ (M : Int) ∧ (M : Int) ≤ 8) ∧ (0 ≤ (K : Int) ∧ (K : Int) ≤ 150) from t2)
  have HK1 := Lib.hid hk
  clear t2 hk HK0
  go_wp2_with fail
  with_reducible refine (isOut2 _ _ _ _ _ _ _ _ false (by simp) (.inl ⟨rfl, T2.out⟩)).mono ?_
  rintro e w2 ⟨rfl, hb⟩
  have HB2 := Lib.hid (thru1 HB1.out hb)
  have X3 := Lib.hid ((X2.out.alloc _).below hb); have P3 := Lib.hid ((P2'.out.alloc _).below hb); have G3 := Lib.hid ((G2.out.alloc _).below hb)
  clear hb X2 P2' G2 HB1 c3 c4 lX
  have c3 := X3.out.at 3 rfl; have c4 := X3.out.at 4 rfl; have lX := X3.out.1
  have hM8 : M ≤ 8 := by have := T2.out; omega
  have hK150 : K ≤ 150 := by have := T2.out; omega
  go_wp2
  clear c3 c4 lX
  go_loopw [32] (fun p wr => ∃ i : Nat, i ≤ M ∧ p = .int .i64 (i : Int) ∧ Hid (Below w2.heap.size w2 wr) ∧ Hid (∀ j, j < i → (0 ≤ (S j).g ∧ (S j).g ≤ 99) ∧ (0 ≤ (S j).nd ∧ (S j).nd ≤ 9999))) (fun p _ => M - (intOf p).toNat)
  case atStart => exact ⟨0, Nat.zero_le _, rfl, Below.refl _ _, Lib.hid (fun j hj => by omega)⟩
  case round =>
    obtain ⟨i, hi, rfl, HBr, HD⟩ := hrel
    have hzr := HBr.out.size
    by_cases hlt : i < M
    · have hlt' : (i : Int) < (M : Int) := by omega
      have hi0 : (0 : Int) ≤ (i : Int) := by omega
      obtain ⟨b, q, rfl, lb, s0, s1⟩ := pv_get (P3.out.below HBr.out) hlt
      by_cases g1 : (0 ≤ (S i).g ∧ (S i).g ≤ 99) ∧ (0 ≤ (S i).nd ∧ (S i).nd ≤ 9999)
      · have HG := Lib.hid g1
        have HD' : Hid (∀ j, j < i + 1 → (0 ≤ (S j).g ∧ (S j).g ≤ 99) ∧ (0 ≤ (S j).nd ∧ (S j).nd ≤ 9999)) := Lib.hid fun j hj => by
          rcases Nat.lt_succ_iff_lt_or_eq.mp hj with h1 | h1
          · exact HD.out j h1
          · subst h1; exact g1
        clear g1 HD
        go_wp2_with fail
        with_reducible refine (isOut2 _ _ _ _ _ _ _ _ false (by simp) (.inl ⟨rfl, HG.out⟩)).mono ?_
        rintro e w3 ⟨rfl, hb⟩
        have HB3 : Hid (Below w2.heap.size w2 w3) := Lib.hid (((HBr.out.alloc hzr _).alloc (by simp; omega) _).trans (hb.mono (by simp; omega)))
        clear hb s0 s1
        go_wp2
        go_roundw
        case rel => first | exact ⟨i + 1, by omega, by go_num, HB3, HD'⟩ | ((repeat apply Exists.intro); exact ⟨⟨i + 1, by omega, by go_num, HB3, HD'⟩, rfl⟩)
        case measure => simp [intOf]; omega
      · have HG := Lib.hid g1
        obtain rfl : c = 3 := by
          rcases HK1.out with ⟨_, h⟩ | ⟨h, _⟩
          · exact h
          · exact absurd (h i hlt) g1
        clear g1 HD HK1
        go_wp2_with fail
        with_reducible refine (isOut2 _ _ _ _ _ _ _ _ true (by simp) (.inr ⟨rfl, HG.out⟩)).mono ?_
        rintro e w3 ⟨rfl, hb⟩
        have HB3 : Hid (Below w2.heap.size w2 w3) := Lib.hid (((HBr.out.alloc hzr _).alloc (by simp; omega) _).trans (hb.mono (by simp; omega)))
        clear hb s0 s1
        go_wp2
        go_ret
        exact ⟨rfl, HB2.out.trans (HB3.out.mono HB2.out.size)⟩
    · have hlt' : ¬ (i : Int) < (M : Int) := by omega
      rcases HK1.out with ⟨h, _⟩ | ⟨hms, hk⟩
      · exact absurd (fun j hj => HD.out j (by omega)) h
      have HK2 := Lib.hid hk
      have X4 := Lib.hid (X3.out.below HBr.out); have P4 := Lib.hid (P3.out.below HBr.out); have G4 := Lib.hid (G3.out.below HBr.out)
      have HB3 := Lib.hid (HB2.out.trans (HBr.out.mono HB2.out.size))
      have c3 := X4.out.at 3 rfl; have c4 := X4.out.at 4 rfl; have lX := X4.out.1
      clear HK1 HD hk X3 P3 G3
      go_wp2
      clear HBr hzr hlt' hlt c3 c4 lX HB2
      generalize wr = w3 at *
      go_loopw [48] (fun p wr => ∃ j : Nat, j ≤ K ∧ p = .int .i64 (j : Int) ∧ Hid (Below w3.heap.size w3 wr) ∧ Hid (∀ i, i < j → IsNode (T i) 0)) (fun p _ => K - (intOf p).toNat)
      case atStart => exact ⟨0, Nat.zero_le _, rfl, Below.refl _ _, Lib.hid (fun j hj => by omega)⟩
      case round =>
        obtain ⟨j, hj, rfl, HBr, HD⟩ := hrel
        have hzr := HBr.out.size
        by_cases hlt : j < K
        · have hlt' : (j : Int) < (K : Int) := by omega
          have hj0 : (0 : Int) ≤ (j : Int) := by omega
          obtain ⟨b, q, rfl, lb, hsix, hsrc⟩ := nv_get (G4.out.below HBr.out) hlt
          have SR := Lib.hid hsrc
          obtain ⟨s0, s1, s2, s3, s4⟩ := hsix
          obtain ⟨cj, hcj⟩ := isNode_some (T j)
          have HCJ := Lib.hid hcj
          clear hcj hsrc
          go_wp2_with fail
          refine (nodeFault_any (T j) cj _ (SR.out.alloc _) (HN.out j hlt) HCJ.out).mono ?_
          rintro e w4 ⟨rfl, hb⟩
          have HB4 := Lib.hid (thru1 HBr.out hb)
          clear hb s0 s1 s2 s3 s4
          by_cases h0 : cj = 0
          · subst h0
            have HD' : Hid (∀ i, i < j + 1 → IsNode (T i) 0) := Lib.hid fun i hi => by
              rcases Nat.lt_succ_iff_lt_or_eq.mp hi with h1 | h1
              · exact HD.out i h1
              · subst h1; exact HCJ.out
            clear HD
            go_wp2
            go_roundw
            case rel => first | exact ⟨j + 1, by omega, by go_num, HB4, HD'⟩ | ((repeat apply Exists.intro); exact ⟨⟨j + 1, by omega, by go_num, HB4, HD'⟩, rfl⟩)
            case measure => simp [intOf]; omega
          · have h0' : (cj != 0) = true := by simpa using h0
            obtain rfl : c = cj := by
              rcases HK2.out with ⟨h, _⟩ | ⟨h, _⟩
              · exact isNodes_hit h hlt HD.out HCJ.out h0
              · exact absurd (isNode_one HCJ.out (isNodes_zero h j hlt)) h0
            clear HD HK2
            go_wp2
            go_ret
            exact ⟨rfl, HB3.out.trans (HB4.out.mono HB3.out.size)⟩
        · have hlt' : ¬ (j : Int) < (K : Int) := by omega
          rcases HK2.out with ⟨h, h0⟩ | ⟨hnz, hk⟩
          · exact absurd (isNodes_all h fun i hi => HD.out i (by omega)) h0
          have HND := Lib.hid (isNodes_zero hnz)
          have HK3 := Lib.hid hk
          have X5 := Lib.hid (X4.out.below HBr.out); have P5 := Lib.hid (P4.out.below HBr.out); have G5 := Lib.hid (G4.out.below HBr.out)
          have HB4 := Lib.hid (HB3.out.trans (HBr.out.mono HB3.out.size))
          have c3 := X5.out.at 3 rfl; have c4 := X5.out.at 4 rfl; have lX := X5.out.1
          clear HK2 HD hk hnz X4 P4 G4 HBr hzr HB3
          obtain ⟨r, hr9⟩ : ∃ r : Bool, r = true ↔ MRise K T := by
            by_cases h : MRise K T
            · exact ⟨true, by simp [h]⟩
            · exact ⟨false, by simp [h]⟩
          have HR := Lib.hid hr9
          clear hr9
          go_wp2_with fail
          refine (rising_any na K nc T r _ G5.out hK HR.out).mono ?_
          rintro e w5 ⟨rfl, hb⟩
          have HB5 := Lib.hid (thru0 HB4.out hb)
          have X6 := Lib.hid (X5.out.below hb); have P6 := Lib.hid (P5.out.below hb); have G6 := Lib.hid (G5.out.below hb)
          clear hb X5 P5 G5 HB4 c3 c4 lX
          cases r
          · obtain rfl : c = 1 := by
              rcases HK3.out with ⟨_, h⟩ | ⟨h, _⟩
              · exact h
              · exact absurd (HR.out.2 h) (by simp)
            clear HK3
            go_wp2
            go_ret
            exact ⟨rfl, HB5.out⟩
          have hmr : MRise K T := HR.out.1 rfl
          have HM := Lib.hid (show ∀ i j, i < j → j < K → (T i).at_ < (T j).at_ from fun i j => rise_lt hmr j i)
          rcases HK3.out with ⟨h, _⟩ | ⟨_, hk⟩
          · exact absurd hmr h
          have HK4 := Lib.hid hk
          clear HK3 hk hmr HR
          have c0 := X6.out.at 0 rfl; have c1 := X6.out.at 1 rfl; have c2 := X6.out.at 2 rfl; have c3 := X6.out.at 3 rfl; have c4 := X6.out.at 4 rfl; have lX := X6.out.1
          obtain ⟨r, hr9⟩ : ∃ r : Bool, r = true ↔ ¬ MLead M S K T := by
            by_cases h : MLead M S K T
            · exact ⟨false, by simp [h]⟩
            · exact ⟨true, by simp [h]⟩
          have HR := Lib.hid hr9
          clear hr9
          go_wp2_with fail
          refine (leadsAstray_any te qu ha sa M kc S na K nc T r _ P6.out G6.out (by omega) (by omega) HM.out HND.out HR.out).mono ?_
          rintro e w6 ⟨rfl, hb⟩
          have HB6 := Lib.hid (thru0 HB5.out hb)
          have X7 := Lib.hid (X6.out.below hb); have P7 := Lib.hid (P6.out.below hb)
          clear hb X6 P6 G6 HB5 c0 c1 c2 c3 c4 lX
          cases r
          · have hml : MLead M S K T := by
              by_cases h : MLead M S K T
              · exact h
              · exact absurd (HR.out.2 h) (by simp)
            rcases HK4.out with ⟨h, _⟩ | ⟨_, hk⟩
            · exact absurd hml h
            have HK5 := Lib.hid hk
            clear HK4 hk hml HR
            have c3 := X7.out.at 3 rfl; have lX := X7.out.1
            obtain ⟨r, hr9⟩ : ∃ r : Bool, r = true ↔ ¬ MGive M S := by
              by_cases h : MGive M S
              · exact ⟨false, by simp [h]⟩
              · exact ⟨true, by simp [h]⟩
            have HR := Lib.hid hr9
            clear hr9
            go_wp2_with fail
            refine (containsS_any sa M kc S r _ P7.out (by omega) HR.out).mono ?_
            rintro e w7 ⟨rfl, hb⟩
            have HB7 := Lib.hid (thru0 HB6.out hb)
            clear hb c3 lX
            cases r
            · obtain rfl : c = 0 := by
                rcases HK5.out with ⟨h, _⟩ | ⟨_, h⟩
                · exact absurd (HR.out.2 h) (by simp)
                · exact h
              clear HK5
              go_wp2
              go_ret
              exact ⟨rfl, HB7.out⟩
            · obtain rfl : c = 8 := by
                rcases HK5.out with ⟨_, h⟩ | ⟨h, _⟩
                · exact h
                · exact absurd h (HR.out.1 rfl)
              clear HK5
              go_wp2
              go_ret
              exact ⟨rfl, HB7.out⟩
          · obtain rfl : c = 4 := by
              rcases HK4.out with ⟨_, h⟩ | ⟨h, _⟩
              · exact h
              · exact absurd h (HR.out.1 rfl)
            clear HK4
            go_wp2
            go_ret
            exact ⟨rfl, HB6.out⟩
end Go.Proofs.Ytihbenbfnpiikaa

namespace Go.Proofs.Ytihbenbfnpiikaa
open Go.ChangeShapes Go.WideShapes Go.ChangeAt Go.RowKit Go.Joins Go.Deep
set_option linter.unusedVariables false

instance : Inhabited SL := ⟨⟨0, 0⟩⟩
end Go.Proofs.Ytihbenbfnpiikaa

namespace Go.Proofs.Ytihbenbfnpiikaa
open Go.RowKit
set_option linter.unusedVariables false

set_option maxRecDepth 100000 in
set_option maxHeartbeats 800000 in
theorem eqMachine_same (te qu ha : Int) (sa sa' : Option Addr) (M kc kc' : Nat) (S : Nat → SL) (na na' : Option Addr) (K nc nc' : Nat) (T U : Nat → GM) (w : World) (hp : PV w sa M S) (hg : NV w na K T) (hp' : PV w sa' M S) (hg' : NV w na' K U) (hs : ∀ i, i < K → GSame (T i) (U i)) (hM : M ≤ 1048576) (hK : K ≤ 1048576) (hn : ∀ i, i < K → (T i).n ≤ 1048576) :
    Calls Try.prog 54 #[.agg #[.int .i64 te, .int .i64 qu, .int .i64 ha, .slice sa M kc, .slice na K nc], .agg #[.int .i64 te, .int .i64 qu, .int .i64 ha, .slice sa' M kc', .slice na' K nc']] w (RetBool w true) := by
  have P0 := Lib.hid hp; have P1 := Lib.hid hp'; have G0 := Lib.hid hg; have G1 := Lib.hid hg'; have HS := Lib.hid hs; have HN := Lib.hid hn
  have HB0 := Lib.hid (((Below.refl w.heap.size w).alloc (Nat.le_refl _) (.cells #[.int .i64 te, .int .i64 qu, .int .i64 ha, .slice sa M kc, .slice na K nc] 56)).alloc (by simp) (.cells #[.int .i64 te, .int .i64 qu, .int .i64 ha, .slice sa' M kc', .slice na' K nc'] 56))
  have A_0 := Lib.hid ((Blk.new_at (w := w) (cs := #[.int .i64 te, .int .i64 qu, .int .i64 ha, .slice sa M kc, .slice na K nc]) (t := 56) w.heap.size rfl).alloc (.cells #[.int .i64 te, .int .i64 qu, .int .i64 ha, .slice sa' M kc', .slice na' K nc'] 56))
  have A_1 := Lib.hid (Blk.new_at (w := w.alloc (.cells #[.int .i64 te, .int .i64 qu, .int .i64 ha, .slice sa M kc, .slice na K nc] 56)) (cs := #[.int .i64 te, .int .i64 qu, .int .i64 ha, .slice sa' M kc', .slice na' K nc']) (t := 56) (w.heap.size + 1) (by simp))
  clear hp hp' hg hg' hs hn
  go_enter Try.func54, Try.ntmps54
  go_wp2_with fail
  refine (eqSlotS_same sa sa' M kc kc' S S _ ((P0.out.alloc _).alloc _) ((P1.out.alloc _).alloc _) (fun _ _ => rfl) hM).mono ?_
  rintro e w1 ⟨rfl, hb⟩
  have HB1 := Lib.hid (HB0.out.trans (hb.mono HB0.out.size))
  have B_0 := Lib.hid (A_0.out.below hb); have B_1 := Lib.hid (A_1.out.below hb)
  clear hb A_0 A_1
  have c0 := B_0.out.at 4 rfl; have c1 := B_1.out.at 4 rfl; have l0 := B_0.out.1; have l1 := B_1.out.1
  go_wp2_with fail
  refine (eqNV_same na na' K nc nc' T U _ (G0.out.below HB1.out) (G1.out.below HB1.out) HS.out hK HN.out).mono ?_
  rintro e w2 ⟨rfl, hb⟩
  have HB2 := Lib.hid (thru0 HB1.out hb)
  clear hb
  go_wp2
  go_ret
  exact ⟨rfl, HB2.out⟩
end Go.Proofs.Ytihbenbfnpiikaa

namespace Go.Proofs.Ytihbenbfnpiikaa
open Go.RowKit
set_option linter.unusedVariables false

/-- A row of slots that nothing was given of. -/
def zS : Nat → SL := fun _ => ⟨0, 0⟩

/-- How many slots are made. -/
def nSl (x : Int) : Nat := (min (max x 0) 9).toNat

theorem nSl_le (x : Int) : nSl x ≤ 9 := by unfold nSl; omega

/-- A new machine, or a code. -/
def RetNM (W : World) (c te qu : Int) (n : Nat) (e : Ending) (w' : World) : Prop :=
  ∃ sa kc, e = .returned (.agg #[.int .i64 c, .int .i64 te, .int .i64 qu, .int .i64 0, .slice sa n kc, .slice none 0 0]) ∧ PVO w' W.heap.size w'.heap.size sa n zS ∧ Below W.heap.size W w'

theorem lmax_is (x y z : Int) (w : World) (hz : z = if y < x then x else y) : Calls Try.prog 155 #[.int .i64 x, .int .i64 y] w fun e w' => e = .returned (.int .i64 z) ∧ w = w' := by
  by_cases h : y < x
  · rw [if_pos h] at hz
    subst hz
    go_enter Try.func155, Try.ntmps155
    go_wp2
    go_ret
    exact ⟨rfl, rfl⟩
  · rw [if_neg h] at hz
    subst hz
    go_enter Try.func155, Try.ntmps155
    go_wp2
    go_ret
    exact ⟨rfl, rfl⟩

theorem lmin_is (x y z : Int) (w : World) (hz : z = if x < y then x else y) : Calls Try.prog 154 #[.int .i64 x, .int .i64 y] w fun e w' => e = .returned (.int .i64 z) ∧ w = w' := by
  by_cases h : x < y
  · rw [if_pos h] at hz
    subst hz
    go_enter Try.func154, Try.ntmps154
    go_wp2
    go_ret
    exact ⟨rfl, rfl⟩
  · rw [if_neg h] at hz
    subst hz
    go_enter Try.func154, Try.ntmps154
    go_wp2
    go_ret
    exact ⟨rfl, rfl⟩

set_option maxRecDepth 100000 in
set_option maxHeartbeats 1600000 in
theorem l5New_any (te qu x : Int) (w : World) (hx : I64 x) :
    Calls Try.prog 95 #[.int .i64 te, .int .i64 qu, .int .i64 x] w fun e w' => ∃ sa kc, e = .returned (.agg #[.int .i64 te, .int .i64 qu, .int .i64 0, .slice sa (nSl x) kc, .slice none 0 0]) ∧ PVO w' w.heap.size w'.heap.size sa (nSl x) zS ∧ Below w.heap.size w w' := by
  obtain ⟨i0, hi, hz0, hz1, hz2⟩ := info_parts Try.infoSL
  obtain ⟨hx1, hx2⟩ := hx
  go_enter Try.func95, Try.ntmps95
  have hn9 := nSl_le x
  obtain ⟨N, hN⟩ : ∃ N, nSl x = N := ⟨_, rfl⟩
  obtain ⟨a1, ha1⟩ : ∃ a1, a1 = if 0 < x then x else 0 := ⟨_, rfl⟩
  have hNv : (N : Int) = if a1 < 9 then a1 else 9 := by
    rw [← hN, ha1]; unfold nSl; split <;> split <;> omega
  have HNV := Lib.hid hNv; have HA1 := Lib.hid ha1
  rw [hN] at hn9 ⊢
  clear hN hNv ha1
  have HB0 := Lib.hid ((Below.refl w.heap.size w).alloc (Nat.le_refl _) (.cells #[.int .i64 0, .int .i64 0, .int .i64 0, .slice none 0 0, .slice none 0 0] 56))
  have R_0 := Lib.hid (Blk.new_at (w := w) (cs := #[.int .i64 0, .int .i64 0, .int .i64 0, .slice none 0 0, .slice none 0 0]) (t := 56) w.heap.size rfl)
  go_wp2_with fail
  refine (lmax_is x 0 a1 _ HA1.out).mono ?_
  rintro e w' ⟨rfl, rfl⟩
  go_wp2_with fail
  refine (lmin_is a1 9 (N : Int) _ HNV.out).mono ?_
  rintro e w' ⟨rfl, rfl⟩
  generalize w.alloc (.cells #[.int .i64 0, .int .i64 0, .int .i64 0, .slice none 0 0, .slice none 0 0] 56) = w0 at *
  go_wp2_with (at_make; refine wpList_make_full _ rfl _ _ 53 rfl w0.heap.size 140 i0 (.agg #[.int .i64 0, .int .i64 0]) 2 Try.underlyingRSL hi hz0 hz1 .i64 .i64 N N N rfl rfl rfl rfl (by rw [hz2]; omega) (by unfold maxLen; omega) (Nat.le_refl _) ?_; intro w1 hown1 hgrow1; have hb1 : Below w0.heap.size w0 w1 := ((Below.refl _ _).grown hgrow1 (Nat.le_refl _) (by intro k hk; simp at hk)); have R_1 := Lib.hid (R_0.out.below hb1); have r0 := R_1.out.at 0 rfl; have f0 := R_1.out.free 0 rfl; have r1 := R_1.out.at 1 rfl; have f1 := R_1.out.free 1 rfl; have r2 := R_1.out.at 2 rfl; have f2 := R_1.out.free 2 rfl; have r3 := R_1.out.at 3 rfl; have f3 := R_1.out.free 3 rfl; have r4 := R_1.out.at 4 rfl; have f4 := R_1.out.free 4 rfl; have lR := R_1.out.1)
  have HB1 := Lib.hid (HB0.out.trans (hb1.mono HB0.out.size))
  have hpo : PVO w1 w0.heap.size w1.heap.size (some ⟨w0.heap.size, 0, none⟩) N zS := by
    rcases Nat.eq_zero_or_pos N with h0 | hp
    · exact .inl h0
    · exact .inr ⟨w0.heap.size, 0, rfl, pown_made (b := w0.heap.size) (lo := w0.heap.size) hown1 (Nat.le_refl _) hp⟩
  have HPO := Lib.hid hpo
  have z0 := R_0.out.1
  have z1 := hb1.size
  clear hown1 hgrow1 hb1 hpo
  refine bodyPost_ret (v := .agg #[.int .i64 te, .int .i64 qu, .int .i64 0, .slice (some ⟨w0.heap.size, 0, none⟩) N N, .slice none 0 0]) (by simp [results, Try.results95, go_sem, r0, r1, r2, r3, r4]) rfl ⟨_, N, rfl, ?_, ?_⟩
  · refine (PVO.keeps (lo' := w.heap.size) (hi' := w.heap.size + 1) HPO.out ?_ (.inr (by omega))).widen (by omega) (by simp)
    repeat (refine Keeps.trans ?_ (keeps_setCell (by (try simp); (try omega)) (by (try simp); (try omega)) _))
    exact Keeps.refl _ _ _
  · repeat (with_reducible refine Below.setCell ?_ (by (try simp); (try omega)) _)
    exact HB1.out

/-- What NewMachine answers. -/
def IsNM (te qu x c te' qu' : Int) (n' : Nat) : Prop := IsMF te qu 0 (nSl x) zS 0 (fun _ => gzero) c ∧ ((c = 0 ∧ te' = te ∧ qu' = qu ∧ n' = nSl x) ∨ (¬ c = 0 ∧ te' = 0 ∧ qu' = 0 ∧ n' = 0))

theorem isNM_some (te qu x : Int) : ∃ c te' qu' n', IsNM te qu x c te' qu' n' := by
  obtain ⟨c, hc⟩ := isMF_some te qu 0 (nSl x) zS 0 (fun _ => gzero)
  by_cases h : c = 0
  · exact ⟨c, te, qu, nSl x, hc, .inl ⟨h, rfl, rfl, rfl⟩⟩
  · exact ⟨c, 0, 0, 0, hc, .inr ⟨h, rfl, rfl, rfl⟩⟩

set_option maxRecDepth 100000 in
set_option maxHeartbeats 1600000 in
theorem specNM_any (te qu x c te' qu' : Int) (n' : Nat) (w : World) (hx : I64 x) (hk : IsNM te qu x c te' qu' n') :
    Calls Try.prog 36 #[.int .i64 te, .int .i64 qu, .int .i64 x] w (RetNM w c te' qu' n') := by
  obtain ⟨hc, hk⟩ := hk
  have HC := Lib.hid hc; have HK := Lib.hid hk
  have hn9 := nSl_le x
  obtain ⟨N, hN⟩ : ∃ N, nSl x = N := ⟨_, rfl⟩
  have HN := Lib.hid hN
  rw [hN] at hn9
  clear hc hk hN
  go_enter Try.func36, Try.ntmps36
  go_wp2_with fail
  refine (l5New_any te qu x _ hx).mono ?_
  rintro e w1 ⟨sa, kc, rfl, ho, hb⟩
  rw [HN.out] at ho ⊢
  have HB1 := Lib.hid (thru1 (Below.refl w.heap.size w) hb)
  have R_1 := Lib.hid ((Blk.new_at (w := w) (cs := #[.int .i64 0, .int .i64 0, .int .i64 0, .int .i64 0, .slice none 0 0, .slice none 0 0]) (t := 58) w.heap.size rfl).below hb)
  have hz1 : w.heap.size + 1 ≤ w1.heap.size := by have := R_1.out.1; omega
  have HP1 := Lib.hid (ho.widen (lo' := w.heap.size + 1) (by simp) (Nat.le_refl _))
  clear hb ho
  have HB2 := Lib.hid (HB1.out.alloc HB1.out.size (.cells #[.int .i64 te, .int .i64 qu, .int .i64 0, .slice sa N kc, .slice none 0 0] 56))
  have R_2 := Lib.hid (R_1.out.alloc (.cells #[.int .i64 te, .int .i64 qu, .int .i64 0, .slice sa N kc, .slice none 0 0] 56))
  have M_2 := Lib.hid (Blk.new_at (w := w1) (cs := #[.int .i64 te, .int .i64 qu, .int .i64 0, .slice sa N kc, .slice none 0 0]) (t := 56) w1.heap.size rfl)
  have HP2 := Lib.hid (HP1.out.alloc (.cells #[.int .i64 te, .int .i64 qu, .int .i64 0, .slice sa N kc, .slice none 0 0] 56))
  go_wp2_with fail
  generalize w1.alloc (.cells #[.int .i64 te, .int .i64 qu, .int .i64 0, .slice sa N kc, .slice none 0 0] 56) = w2 at *
  refine (specMF_any te qu 0 sa N kc zS none 0 0 (fun _ => gzero) c _ HP2.out.src (.inl rfl) (by omega) (by omega) (fun i hi => by omega) (by have := HC.out; rwa [HN.out] at this)).mono ?_
  rintro e w3 ⟨rfl, hb⟩
  have HB3 := Lib.hid (thru0 HB2.out hb); have R_3 := Lib.hid (R_2.out.below hb); have M_3 := Lib.hid (M_2.out.below hb)
  have HPO := Lib.hid (HP2.out.below hb)
  have hsz : w1.heap.size ≤ w3.heap.size := by have := M_3.out.1; omega
  clear hb R_1 R_2 M_2 HB1 HB2 HP1 HP2
  have hz3 : w.heap.size + 1 ≤ w3.heap.size := by have := R_3.out.1; omega
  have r0 := R_3.out.at 0 rfl; have fr0 := R_3.out.free 0 rfl; have r1 := R_3.out.at 1 rfl; have fr1 := R_3.out.free 1 rfl; have r2 := R_3.out.at 2 rfl; have fr2 := R_3.out.free 2 rfl; have r3 := R_3.out.at 3 rfl; have fr3 := R_3.out.free 3 rfl; have r4 := R_3.out.at 4 rfl; have fr4 := R_3.out.free 4 rfl; have r5 := R_3.out.at 5 rfl; have fr5 := R_3.out.free 5 rfl; have lr := R_3.out.1
  have m0 := M_3.out.at 0 rfl; have fm0 := M_3.out.free 0 rfl; have m1 := M_3.out.at 1 rfl; have fm1 := M_3.out.free 1 rfl; have m2 := M_3.out.at 2 rfl; have fm2 := M_3.out.free 2 rfl; have m3 := M_3.out.at 3 rfl; have fm3 := M_3.out.free 3 rfl; have m4 := M_3.out.at 4 rfl; have fm4 := M_3.out.free 4 rfl; have lm := M_3.out.1
  by_cases h0 : c = 0
  · obtain ⟨k1, k2, k3⟩ : te' = te ∧ qu' = qu ∧ n' = N := by
      rcases HK.out with ⟨_, k1, k2, k3⟩ | ⟨k, _⟩
      · exact ⟨k1, k2, k3.trans HN.out⟩
      · exact absurd h0 k
    subst k1 k2 k3 h0
    go_wp2
    refine bodyPost_ret (v := .agg #[.int .i64 0, .int .i64 te', .int .i64 qu', .int .i64 0, .slice sa n' kc, .slice none 0 0]) (by simp [results, Try.results36, go_sem, r0, r1, r2, r3, r4, r5]) rfl ⟨sa, kc, rfl, ?_, ?_⟩
    · refine (PVO.keeps (lo' := w.heap.size) (hi' := w.heap.size + 1) HPO.out ?_ (.inr (by omega))).widen (by omega) (by simp; try omega)
      repeat (first | (refine Keeps.trans ?_ (keeps_setCell (by (try simp); (try omega)) (by (try simp); (try omega)) _)) | (refine Keeps.trans ?_ (keeps_of_below ((Below.refl _ _).alloc (Nat.le_refl _) _) _ _)))
      exact Keeps.refl _ _ _
    · repeat (first | (with_reducible refine Below.setCell ?_ (by (try simp); (try omega)) _) | (with_reducible refine Below.alloc ?_ (by (try simp); (try omega)) _) | (with_reducible refine Below.drew ?_))
      exact HB3.out
  · obtain ⟨k1, k2, k3⟩ : te' = 0 ∧ qu' = 0 ∧ n' = 0 := by
      rcases HK.out with ⟨k, _⟩ | ⟨_, k1, k2, k3⟩
      · exact absurd k h0
      · exact ⟨k1, k2, k3⟩
    subst k1 k2 k3
    have h0' : (c != 0) = true := by simpa using h0
    clear h0
    go_wp2
    refine bodyPost_ret (v := .agg #[.int .i64 c, .int .i64 0, .int .i64 0, .int .i64 0, .slice none 0 0, .slice none 0 0]) (by simp [results, Try.results36, go_sem, r0, r1, r2, r3, r4, r5]) rfl ⟨none, 0, rfl, ?_, ?_⟩
    · exact .inl rfl
    · repeat (first | (with_reducible refine Below.setCell ?_ (by (try simp); (try omega)) _) | (with_reducible refine Below.alloc ?_ (by (try simp); (try omega)) _) | (with_reducible refine Below.drew ?_))
      exact HB3.out

set_option maxRecDepth 100000 in
set_option maxHeartbeats 1600000 in
theorem implNM_any (te qu x c te' qu' : Int) (n' : Nat) (w : World) (hx : I64 x) (hk : IsNM te qu x c te' qu' n') :
    Calls Try.prog 33 #[.int .i64 te, .int .i64 qu, .int .i64 x] w (RetNM w c te' qu' n') := by
  obtain ⟨i0, hi, hz0, hz1, hz2⟩ := info_parts Try.infoSL
  obtain ⟨hx1, hx2⟩ := hx
  go_enter Try.func33, Try.ntmps33
  obtain ⟨hc, hk⟩ := hk
  have HC := Lib.hid hc; have HK := Lib.hid hk
  have hn9 := nSl_le x
  obtain ⟨N, hN⟩ : ∃ N, nSl x = N := ⟨_, rfl⟩
  have HN := Lib.hid hN
  rw [hN] at hn9
  have hnv : min (max x 0) 9 = (N : Int) := by rw [← hN]; unfold nSl; omega
  clear hc hk hN
  have HB0 := Lib.hid ((Below.refl w.heap.size w).alloc (Nat.le_refl _) (.cells #[.int .i64 0, .int .i64 0, .int .i64 0, .int .i64 0, .slice none 0 0, .slice none 0 0] 58))
  have R_0 := Lib.hid (Blk.new_at (w := w) (cs := #[.int .i64 0, .int .i64 0, .int .i64 0, .int .i64 0, .slice none 0 0, .slice none 0 0]) (t := 58) w.heap.size rfl)
  have lR0 := R_0.out.1
  generalize hw0 : w.alloc (.cells #[.int .i64 0, .int .i64 0, .int .i64 0, .int .i64 0, .slice none 0 0, .slice none 0 0] 58) = w0 at *
  go_wp2_with (at_make; refine wpList_make_full _ rfl _ _ 53 rfl w0.heap.size 140 i0 (.agg #[.int .i64 0, .int .i64 0]) 2 Try.underlyingRSL hi hz0 hz1 .i64 .i64 N N N rfl rfl rfl rfl (by rw [hz2]; omega) (by unfold maxLen; omega) (Nat.le_refl _) ?_; intro w1 hown1 hgrow1)
  have hb1 : Below w0.heap.size w0 w1 := (Below.refl _ _).grown hgrow1 (Nat.le_refl _) (by intro k hk; simp at hk)
  have HB1 := Lib.hid (HB0.out.trans (hb1.mono HB0.out.size))
  have R_1 := Lib.hid (R_0.out.below hb1)
  have hpo : PVO w1 w0.heap.size w1.heap.size (some ⟨w0.heap.size, 0, none⟩) N zS := by
    rcases Nat.eq_zero_or_pos N with h0 | hp
    · exact .inl h0
    · exact .inr ⟨w0.heap.size, 0, rfl, pown_made (b := w0.heap.size) (lo := w0.heap.size) hown1 (Nat.le_refl _) hp⟩
  have hz1 : w0.heap.size ≤ w1.heap.size := hb1.size
  have HP1 := Lib.hid (hpo.widen (lo' := w.heap.size + 1) (by omega) (Nat.le_refl _))
  clear hown1 hgrow1 hb1 hpo
  have HB2 := Lib.hid (HB1.out.alloc HB1.out.size (.cells #[.int .i64 te, .int .i64 qu, .int .i64 0, .slice (some ⟨w0.heap.size, 0, none⟩) N N, .slice none 0 0] 56))
  have R_2 := Lib.hid (R_1.out.alloc (.cells #[.int .i64 te, .int .i64 qu, .int .i64 0, .slice (some ⟨w0.heap.size, 0, none⟩) N N, .slice none 0 0] 56))
  have M_2 := Lib.hid (Blk.new_at (w := w1) (cs := #[.int .i64 te, .int .i64 qu, .int .i64 0, .slice (some ⟨w0.heap.size, 0, none⟩) N N, .slice none 0 0]) (t := 56) w1.heap.size rfl)
  have HP2 := Lib.hid (HP1.out.alloc (.cells #[.int .i64 te, .int .i64 qu, .int .i64 0, .slice (some ⟨w0.heap.size, 0, none⟩) N N, .slice none 0 0] 56))
  generalize w1.alloc (.cells #[.int .i64 te, .int .i64 qu, .int .i64 0, .slice (some ⟨w0.heap.size, 0, none⟩) N N, .slice none 0 0] 56) = w2 at *
  generalize w0.heap.size = B0 at *
  refine (implMF_any te qu 0 (some ⟨B0, 0, none⟩) N N zS none 0 0 (fun _ => gzero) c _ HP2.out.src (.inl rfl) (by omega) (by omega) (fun i hi => by omega) (by have := HC.out; rwa [HN.out] at this)).mono ?_
  rintro e w3 ⟨rfl, hb⟩
  have HB3 := Lib.hid (thru0 HB2.out hb); have R_3 := Lib.hid (R_2.out.below hb); have M_3 := Lib.hid (M_2.out.below hb)
  have HPO := Lib.hid (HP2.out.below hb)
  have hsz : w1.heap.size ≤ w3.heap.size := by have := M_3.out.1; omega
  clear hb R_1 R_2 M_2 HB1 HB2 HP1 HP2 hnv
  have hz3 : w.heap.size + 1 ≤ w3.heap.size := by have := R_3.out.1; omega
  have r0 := R_3.out.at 0 rfl; have fr0 := R_3.out.free 0 rfl; have r1 := R_3.out.at 1 rfl; have fr1 := R_3.out.free 1 rfl; have r2 := R_3.out.at 2 rfl; have fr2 := R_3.out.free 2 rfl; have r3 := R_3.out.at 3 rfl; have fr3 := R_3.out.free 3 rfl; have r4 := R_3.out.at 4 rfl; have fr4 := R_3.out.free 4 rfl; have r5 := R_3.out.at 5 rfl; have fr5 := R_3.out.free 5 rfl; have lr := R_3.out.1
  have m0 := M_3.out.at 0 rfl; have fm0 := M_3.out.free 0 rfl; have m1 := M_3.out.at 1 rfl; have fm1 := M_3.out.free 1 rfl; have m2 := M_3.out.at 2 rfl; have fm2 := M_3.out.free 2 rfl; have m3 := M_3.out.at 3 rfl; have fm3 := M_3.out.free 3 rfl; have m4 := M_3.out.at 4 rfl; have fm4 := M_3.out.free 4 rfl; have lm := M_3.out.1
  by_cases h0 : c = 0
  · obtain ⟨k1, k2, k3⟩ : te' = te ∧ qu' = qu ∧ n' = N := by
      rcases HK.out with ⟨_, k1, k2, k3⟩ | ⟨k, _⟩
      · exact ⟨k1, k2, k3.trans HN.out⟩
      · exact absurd h0 k
    subst k1 k2 k3 h0
    go_wp2
    refine bodyPost_ret (v := .agg #[.int .i64 0, .int .i64 te', .int .i64 qu', .int .i64 0, .slice (some ⟨B0, 0, none⟩) n' n', .slice none 0 0]) (by simp [results, Try.results33, go_sem, r0, r1, r2, r3, r4, r5]) rfl ⟨(some ⟨B0, 0, none⟩), n', rfl, ?_, ?_⟩
    · refine (PVO.keeps (lo' := w.heap.size) (hi' := w.heap.size + 1) HPO.out ?_ (.inr (by omega))).widen (by omega) (by simp; try omega)
      repeat (first | (refine Keeps.trans ?_ (keeps_setCell (by (try simp); (try omega)) (by (try simp); (try omega)) _)) | (refine Keeps.trans ?_ (keeps_of_below ((Below.refl _ _).alloc (Nat.le_refl _) _) _ _)))
      exact Keeps.refl _ _ _
    · repeat (first | (with_reducible refine Below.setCell ?_ (by (try simp); (try omega)) _) | (with_reducible refine Below.alloc ?_ (by (try simp); (try omega)) _) | (with_reducible refine Below.drew ?_))
      exact HB3.out
  · obtain ⟨k1, k2, k3⟩ : te' = 0 ∧ qu' = 0 ∧ n' = 0 := by
      rcases HK.out with ⟨k, _⟩ | ⟨_, k1, k2, k3⟩
      · exact absurd k h0
      · exact ⟨k1, k2, k3⟩
    subst k1 k2 k3
    have h0' : (c != 0) = true := by simpa using h0
    clear h0
    go_wp2
    refine bodyPost_ret (v := .agg #[.int .i64 c, .int .i64 0, .int .i64 0, .int .i64 0, .slice none 0 0, .slice none 0 0]) (by simp [results, Try.results33, go_sem, r0, r1, r2, r3, r4, r5]) rfl ⟨none, 0, rfl, ?_, ?_⟩
    · exact .inl rfl
    · repeat (first | (with_reducible refine Below.setCell ?_ (by (try simp); (try omega)) _) | (with_reducible refine Below.alloc ?_ (by (try simp); (try omega)) _) | (with_reducible refine Below.drew ?_))
      exact HB3.out
end Go.Proofs.Ytihbenbfnpiikaa

namespace Go.Proofs.Ytihbenbfnpiikaa
open Go.RowKit
set_option linter.unusedVariables false

/-- A machine is marked. -/
def RetMkM (W : World) (lo mid hi : Nat) (sa : Option Addr) (M : Nat) (na : Option Addr) (K : Nat) (T : Nat → GM) (k : Int) (e : Ending) (w' : World) : Prop :=
  e = .returned (.int .i64 (k + 2 * (M : Int) + (noff T K : Int))) ∧ PVO w' lo mid sa M (smkd k) ∧ NVO w' mid hi na K (nmkd T (k + 2 * (M : Int))) ∧ Keeps W w' lo hi

set_option maxRecDepth 100000 in
set_option maxHeartbeats 800000 in
theorem markMach_any (te qu ha : Int) (sa : Option Addr) (M kc : Nat) (S : Nat → SL) (na : Option Addr) (K nc : Nat) (T : Nat → GM) (lo mid hi : Nat) (k : Int) (w : World) (hp : PVO w lo mid sa M S) (hg : NVO w mid hi na K T) (h1 : lo ≤ mid) (h2 : mid ≤ hi) (h3 : hi ≤ w.heap.size) (hk0 : 0 ≤ k) (hk1 : k + 2 * (M : Int) + (noff T K : Int) ≤ 1048576) :
    Calls Try.prog 60 #[.agg #[.int .i64 te, .int .i64 qu, .int .i64 ha, .slice sa M kc, .slice na K nc], .int .i64 k] w (RetMkM w lo mid hi sa M na K T k) := by
  have P0 := Lib.hid hp; have G0 := Lib.hid hg
  have hn0 : (0 : Int) ≤ (noff T K : Int) := by omega
  clear hp hg
  go_enter Try.func60, Try.ntmps60
  have A_0 := Lib.hid (Blk.new_at (w := w) (cs := #[.int .i64 te, .int .i64 qu, .int .i64 ha, .slice sa M kc, .slice na K nc]) (t := 56) w.heap.size rfl)
  have HB0 := Lib.hid ((Below.refl w.heap.size w).alloc (Nat.le_refl _) (.cells #[.int .i64 te, .int .i64 qu, .int .i64 ha, .slice sa M kc, .slice na K nc] 56))
  have P1 := Lib.hid (P0.out.below HB0.out); have G1 := Lib.hid (G0.out.below HB0.out)
  have HK0 := Lib.hid (keeps_of_below HB0.out lo hi)
  go_wp2_with fail
  refine (markSlotS_any sa lo mid M kc S k _ P1.out hk0 (by omega)).mono ?_
  rintro e w1 ⟨rfl, hp, hk⟩
  have P2 := Lib.hid hp; have HK1 := Lib.hid (HK0.out.trans (hk.widen (Nat.le_refl _) h2))
  have A_1 := Lib.hid (A_0.out.keeps hk (.inr (by omega)))
  have G2 := Lib.hid (G1.out.keeps hk (.inr (Nat.le_refl _)))
  clear hp hk P0 P1 G0 G1 A_0 HK0
  have c4 := A_1.out.at 4 rfl; have lA := A_1.out.1
  go_wp2_with fail
  refine (markNV_any mid hi K nc na T (k + 2 * (M : Int)) _ G2.out (by omega) hk1).mono ?_
  rintro e w2 ⟨rfl, hg, hk⟩
  have G3 := Lib.hid hg; have P3 := Lib.hid (P2.out.keeps hk (.inl (Nat.le_refl _))); have HK2 := Lib.hid (HK1.out.trans (hk.widen h1 (Nat.le_refl _)))
  clear hg hk G2 P2 HK1 c4 lA A_1
  go_wp2
  go_ret
  exact ⟨rfl, P3.out, G3.out, HK2.out⟩

set_option maxRecDepth 100000 in
set_option maxHeartbeats 400000 in
theorem markMR_any (c : Int) (te qu ha : Int) (sa : Option Addr) (M kc : Nat) (S : Nat → SL) (na : Option Addr) (K nc : Nat) (T : Nat → GM) (lo mid hi : Nat) (k : Int) (w : World) (hp : PVO w lo mid sa M S) (hg : NVO w mid hi na K T) (h1 : lo ≤ mid) (h2 : mid ≤ hi) (h3 : hi ≤ w.heap.size) (hk0 : 0 ≤ k) (hk1 : k + 2 * (M : Int) + (noff T K : Int) ≤ 1048576) :
    Calls Try.prog 56 #[.agg #[.int .i64 c, .int .i64 te, .int .i64 qu, .int .i64 ha, .slice sa M kc, .slice na K nc], .int .i64 k] w (RetMkM w lo mid hi sa M na K T k) := by
  have P0 := Lib.hid hp; have G0 := Lib.hid hg
  clear hp hg
  have HB0 := Lib.hid ((Below.refl w.heap.size w).alloc (Nat.le_refl _) (.cells #[.int .i64 c, .int .i64 te, .int .i64 qu, .int .i64 ha, .slice sa M kc, .slice na K nc] 58))
  have hsz := HB0.out.size
  go_enter Try.func56, Try.ntmps56
  go_wp2_with fail
  refine (markMach_any te qu ha sa M kc S na K nc T lo mid hi k _ (P0.out.below HB0.out) (G0.out.below HB0.out) h1 h2 (by omega) hk0 hk1).mono ?_
  rintro e w1 ⟨rfl, hp, hg, hk⟩
  have P1 := Lib.hid hp; have G1 := Lib.hid hg; have HK1 := Lib.hid ((keeps_of_below HB0.out lo hi).trans hk)
  clear hp hg hk
  go_wp2
  go_ret
  exact ⟨rfl, P1.out, G1.out, HK1.out⟩

set_option maxRecDepth 100000 in
set_option maxHeartbeats 800000 in
theorem heldMach_any (te qu ha : Int) (sa : Option Addr) (M kc : Nat) (S : Nat → SL) (na : Option Addr) (K nc : Nat) (T : Nat → GM) (k : Int) (w : World) (hp : PV w sa M (smkd k)) (hg : NV w na K (nmkd T (k + 2 * (M : Int)))) (hk0 : 0 ≤ k) (hk1 : k + 2 * (M : Int) + (noff T K : Int) ≤ 1048576) :
    Calls Try.prog 123 #[.agg #[.int .i64 te, .int .i64 qu, .int .i64 ha, .slice sa M kc, .slice na K nc], .int .i64 k] w (RetInt w (k + 2 * (M : Int) + (noff T K : Int))) := by
  have P0 := Lib.hid hp; have G0 := Lib.hid hg
  have hn0 : (0 : Int) ≤ (noff T K : Int) := by omega
  have q1 : ¬ k + 2 * (M : Int) < 0 := by omega
  have q2 : ¬ k + 2 * (M : Int) + (noff T K : Int) < 0 := by omega
  clear hp hg
  have A_0 := Lib.hid (Blk.new_at (w := w) (cs := #[.int .i64 te, .int .i64 qu, .int .i64 ha, .slice sa M kc, .slice na K nc]) (t := 56) w.heap.size rfl)
  have HB0 := Lib.hid ((Below.refl w.heap.size w).alloc (Nat.le_refl _) (.cells #[.int .i64 te, .int .i64 qu, .int .i64 ha, .slice sa M kc, .slice na K nc] 56))
  go_enter Try.func123, Try.ntmps123
  go_wp2_with fail
  refine (heldSlotS_any sa M kc k _ (P0.out.below HB0.out) hk0 (by omega)).mono ?_
  rintro e w1 ⟨rfl, rfl⟩
  have c4 := A_0.out.at 4 rfl; have lA := A_0.out.1
  go_wp2_with fail
  refine (heldNV_any K nc na T (k + 2 * (M : Int)) _ (G0.out.below HB0.out) (by omega) hk1).mono ?_
  rintro e w2 ⟨rfl, rfl⟩
  go_wp2
  go_ret
  exact ⟨rfl, HB0.out⟩

set_option maxRecDepth 100000 in
set_option maxHeartbeats 400000 in
theorem heldMR_any (c : Int) (te qu ha : Int) (sa : Option Addr) (M kc : Nat) (S : Nat → SL) (na : Option Addr) (K nc : Nat) (T : Nat → GM) (k : Int) (w : World) (hp : PV w sa M (smkd k)) (hg : NV w na K (nmkd T (k + 2 * (M : Int)))) (hk0 : 0 ≤ k) (hk1 : k + 2 * (M : Int) + (noff T K : Int) ≤ 1048576) :
    Calls Try.prog 57 #[.agg #[.int .i64 c, .int .i64 te, .int .i64 qu, .int .i64 ha, .slice sa M kc, .slice na K nc], .int .i64 k] w (RetInt w (k + 2 * (M : Int) + (noff T K : Int))) := by
  have P0 := Lib.hid hp; have G0 := Lib.hid hg
  have q2 : ¬ k + 2 * (M : Int) + (noff T K : Int) < 0 := by omega
  clear hp hg
  have HB0 := Lib.hid ((Below.refl w.heap.size w).alloc (Nat.le_refl _) (.cells #[.int .i64 c, .int .i64 te, .int .i64 qu, .int .i64 ha, .slice sa M kc, .slice na K nc] 58))
  go_enter Try.func57, Try.ntmps57
  go_wp2_with fail
  refine (heldMach_any te qu ha sa M kc S na K nc T k _ (P0.out.below HB0.out) (G0.out.below HB0.out) hk0 hk1).mono ?_
  rintro e w1 ⟨rfl, hb⟩
  have HB1 := Lib.hid (HB0.out.trans (hb.mono HB0.out.size))
  clear hb
  go_wp2
  go_ret
  exact ⟨rfl, HB1.out⟩

set_option maxRecDepth 100000 in
set_option maxHeartbeats 400000 in
theorem eqMR_same (c : Int) (te qu ha : Int) (sa sa' : Option Addr) (M kc kc' : Nat) (S : Nat → SL) (na na' : Option Addr) (K nc nc' : Nat) (T U : Nat → GM) (w : World) (hp : PV w sa M S) (hg : NV w na K T) (hp' : PV w sa' M S) (hg' : NV w na' K U) (hs : ∀ i, i < K → GSame (T i) (U i)) (hM : M ≤ 1048576) (hK : K ≤ 1048576) (hn : ∀ i, i < K → (T i).n ≤ 1048576) :
    Calls Try.prog 55 #[.agg #[.int .i64 c, .int .i64 te, .int .i64 qu, .int .i64 ha, .slice sa M kc, .slice na K nc], .agg #[.int .i64 c, .int .i64 te, .int .i64 qu, .int .i64 ha, .slice sa' M kc', .slice na' K nc']] w (RetBool w true) := by
  have P0 := Lib.hid hp; have P1 := Lib.hid hp'; have G0 := Lib.hid hg; have G1 := Lib.hid hg'; have HS := Lib.hid hs; have HN := Lib.hid hn
  have HB0 := Lib.hid (((Below.refl w.heap.size w).alloc (Nat.le_refl _) (.cells #[.int .i64 c, .int .i64 te, .int .i64 qu, .int .i64 ha, .slice sa M kc, .slice na K nc] 58)).alloc (by simp) (.cells #[.int .i64 c, .int .i64 te, .int .i64 qu, .int .i64 ha, .slice sa' M kc', .slice na' K nc'] 58))
  clear hp hp' hg hg' hs hn
  go_enter Try.func55, Try.ntmps55
  go_wp2_with fail
  refine (eqMachine_same te qu ha sa sa' M kc kc' S na na' K nc nc' T U _ ((P0.out.alloc _).alloc _) ((G0.out.alloc _).alloc _) ((P1.out.alloc _).alloc _) ((G1.out.alloc _).alloc _) HS.out hM hK HN.out).mono ?_
  rintro e w1 ⟨rfl, hb⟩
  have HB1 := Lib.hid (HB0.out.trans (hb.mono HB0.out.size))
  clear hb
  go_wp2
  go_ret
  exact ⟨rfl, HB1.out⟩
end Go.Proofs.Ytihbenbfnpiikaa

namespace Go.Proofs.Ytihbenbfnpiikaa
open Go.RowKit
set_option linter.unusedVariables false

theorem isNM_small {te qu x c te' qu' : Int} {n' : Nat} (h : IsNM te qu x c te' qu' n') : n' ≤ 9 := by
  have := nSl_le x
  rcases h.2 with ⟨_, _, _, h⟩ | ⟨_, _, _, h⟩ <;> omega

set_option maxRecDepth 100000 in
set_option maxHeartbeats 3200000 in
theorem e10_any (te qu x : Int) (w : World) (h1_ : I64 te) (h2_ : I64 qu) (hx : I64 x) :
    Calls Try.prog 10 #[.int .i64 te, .int .i64 qu, .int .i64 x] w (RetBool w true) := by
  obtain ⟨c, te', qu', n', hk⟩ := isNM_some te qu x
  have hn := isNM_small hk
  have HK := Lib.hid hk; have HX := Lib.hid hx
  have hno : noff (fun _ => gzero) 0 = 0 := rfl
  clear hk hx
  go_enter Try.func10, Try.ntmps10
  go_wp2_with fail
  refine (specNM_any te qu x c te' qu' n' _ HX.out HK.out).mono ?_
  rintro e w1 ⟨s1, k1, rfl, ho, hb⟩
  have HB1 := Lib.hid (thru0 (Below.refl w.heap.size w) hb)
  have z1 := HB1.out.size
  have P1 := Lib.hid ho
  clear hb ho
  have HB2 := Lib.hid (HB1.out.alloc z1 (.cells #[.int .i64 c, .int .i64 te', .int .i64 qu', .int .i64 0, .slice s1 n' k1, .slice none 0 0] 58))
  have W_2 := Lib.hid (Blk.new_at (w := w1) (cs := #[.int .i64 c, .int .i64 te', .int .i64 qu', .int .i64 0, .slice s1 n' k1, .slice none 0 0]) (t := 58) w1.heap.size rfl)
  have P2 := Lib.hid (P1.out.alloc (.cells #[.int .i64 c, .int .i64 te', .int .i64 qu', .int .i64 0, .slice s1 n' k1, .slice none 0 0] 58))
  go_wp2_with fail
  generalize hw2 : w1.alloc (.cells #[.int .i64 c, .int .i64 te', .int .i64 qu', .int .i64 0, .slice s1 n' k1, .slice none 0 0] 58) = w2 at *
  have z2 : w1.heap.size + 1 ≤ w2.heap.size := by have := W_2.out.1; omega
  clear hw2 HB1 P1
  refine (implNM_any te qu x c te' qu' n' _ HX.out HK.out).mono ?_
  rintro e w3 ⟨s3, k3, rfl, ho, hb⟩
  have HB3 := Lib.hid (thru0 HB2.out hb)
  have z3 : w2.heap.size ≤ w3.heap.size := hb.size
  have W_3 := Lib.hid (W_2.out.below hb); have P3 := Lib.hid (P2.out.below hb); have Q3 := Lib.hid ho
  clear hb ho W_2 P2 HB2
  have HB4 := Lib.hid (HB3.out.alloc HB3.out.size (.cells #[.int .i64 c, .int .i64 te', .int .i64 qu', .int .i64 0, .slice s3 n' k3, .slice none 0 0] 58))
  have G_4 := Lib.hid (Blk.new_at (w := w3) (cs := #[.int .i64 c, .int .i64 te', .int .i64 qu', .int .i64 0, .slice s3 n' k3, .slice none 0 0]) (t := 58) w3.heap.size rfl)
  have W_4 := Lib.hid (W_3.out.alloc (.cells #[.int .i64 c, .int .i64 te', .int .i64 qu', .int .i64 0, .slice s3 n' k3, .slice none 0 0] 58)); have P4 := Lib.hid (P3.out.alloc (.cells #[.int .i64 c, .int .i64 te', .int .i64 qu', .int .i64 0, .slice s3 n' k3, .slice none 0 0] 58)); have Q4 := Lib.hid (Q3.out.alloc (.cells #[.int .i64 c, .int .i64 te', .int .i64 qu', .int .i64 0, .slice s3 n' k3, .slice none 0 0] 58))
  have d0 := W_3.out.at 0 rfl; have d1 := W_3.out.at 1 rfl; have d2 := W_3.out.at 2 rfl; have d3 := W_3.out.at 3 rfl; have d4 := W_3.out.at 4 rfl; have d5 := W_3.out.at 5 rfl; have ld := W_3.out.1
  go_wp2_with fail
  clear d0 d1 d2 d3 d4 d5 ld W_3 P3 Q3 HB3
  generalize hw4 : w3.alloc (.cells #[.int .i64 c, .int .i64 te', .int .i64 qu', .int .i64 0, .slice s3 n' k3, .slice none 0 0] 58) = w4 at *
  have z4 : w3.heap.size + 1 ≤ w4.heap.size := by have := G_4.out.1; omega
  clear hw4
  refine (eqMR_same c te' qu' 0 s3 s1 n' k3 k1 zS none none 0 0 0 (fun _ => gzero) (fun _ => gzero) _ Q4.out.src (.inl rfl) P4.out.src (.inl rfl) (fun i hi => by omega) (by omega) (by omega) (fun i hi => by omega)).mono ?_
  rintro e w5 ⟨rfl, hb⟩
  have HB5 := Lib.hid (thru0 HB4.out hb)
  have z5 : w4.heap.size ≤ w5.heap.size := hb.size
  have G_5 := Lib.hid (G_4.out.below hb); have W_5 := Lib.hid (W_4.out.below hb); have P5 := Lib.hid (P4.out.below hb); have Q5 := Lib.hid (Q4.out.below hb)
  clear hb G_4 W_4 P4 Q4 HB4
  obtain ⟨kk, hkk⟩ : ∃ kk, kk = 1 + 2 * (n' : Int) + (noff (fun _ => gzero) 0 : Int) := ⟨_, rfl⟩
  have hk1 : 1 + 2 * (n' : Int) + (noff (fun _ => gzero) 0 : Int) ≤ 1048576 := by rw [hno]; omega
  have hk0 : ¬ kk < 0 := by omega
  have HKK := Lib.hid hkk; have HK1 := Lib.hid hk1
  clear hkk hk1 hno
  have g0 := G_5.out.at 0 rfl; have g1 := G_5.out.at 1 rfl; have g2 := G_5.out.at 2 rfl; have g3 := G_5.out.at 3 rfl; have g4 := G_5.out.at 4 rfl; have g5 := G_5.out.at 5 rfl; have lg := G_5.out.1
  go_wp2_with fail
  refine (markMR_any c te' qu' 0 s3 n' k3 zS none 0 0 (fun _ => gzero) w2.heap.size w3.heap.size w3.heap.size 1 _ Q5.out (.inl rfl) (by omega) (Nat.le_refl _) (by omega) (by omega) HK1.out).mono ?_
  rintro e w6 ⟨rfl, hp, _, hk⟩
  rw [← HKK.out]
  have HB6 := Lib.hid (HB5.out.trans (hk.below (by omega) HB5.out.size))
  have z6 : w5.heap.size ≤ w6.heap.size := hk.size
  have G_6 := Lib.hid (G_5.out.keeps hk (.inr (Nat.le_refl _))); have W_6 := Lib.hid (W_5.out.keeps hk (.inl (by omega))); have P6 := Lib.hid (P5.out.keeps hk (.inl (by omega))); have Q6 := Lib.hid hp
  clear hk hp g0 g1 g2 g3 g4 g5 lg G_5 W_5 P5 Q5 HB5
  have g0 := G_6.out.at 0 rfl; have g1 := G_6.out.at 1 rfl; have g2 := G_6.out.at 2 rfl; have g3 := G_6.out.at 3 rfl; have g4 := G_6.out.at 4 rfl; have g5 := G_6.out.at 5 rfl; have lg := G_6.out.1
  go_wp2_with fail
  refine (heldMR_any c te' qu' 0 s3 n' k3 zS none 0 0 (fun _ => gzero) 1 _ Q6.out.src (.inl rfl) (by omega) HK1.out).mono ?_
  rintro e w7 ⟨rfl, hb⟩
  rw [← HKK.out]
  have HB7 := Lib.hid (thru0 HB6.out hb)
  have z7 : w6.heap.size ≤ w7.heap.size := hb.size
  have G_7 := Lib.hid (G_6.out.below hb); have W_7 := Lib.hid (W_6.out.below hb); have P7 := Lib.hid (P6.out.below hb); have Q7 := Lib.hid (Q6.out.below hb)
  clear hb g0 g1 g2 g3 g4 g5 lg G_6 W_6 P6 Q6 HB6
  go_wp2_with fail
  refine (implNM_any te qu x c te' qu' n' _ HX.out HK.out).mono ?_
  rintro e w8 ⟨s8, k8, rfl, ho, hb⟩
  have HB8 := Lib.hid (thru0 HB7.out hb)
  have G_8 := Lib.hid (G_7.out.below hb); have W_8 := Lib.hid (W_7.out.below hb); have P8 := Lib.hid (P7.out.below hb); have Q8 := Lib.hid (Q7.out.below hb); have R8 := Lib.hid ho
  clear hb ho G_7 W_7 P7 Q7 HB7
  have d0 := W_8.out.at 0 rfl; have d1 := W_8.out.at 1 rfl; have d2 := W_8.out.at 2 rfl; have d3 := W_8.out.at 3 rfl; have d4 := W_8.out.at 4 rfl; have d5 := W_8.out.at 5 rfl; have ld := W_8.out.1
  have HB9 := Lib.hid (HB8.out.alloc HB8.out.size (.cells #[.int .i64 c, .int .i64 te', .int .i64 qu', .int .i64 0, .slice s8 n' k8, .slice none 0 0] 58))
  have G_9 := Lib.hid (G_8.out.alloc (.cells #[.int .i64 c, .int .i64 te', .int .i64 qu', .int .i64 0, .slice s8 n' k8, .slice none 0 0] 58))
  have P9 := Lib.hid (P8.out.alloc (.cells #[.int .i64 c, .int .i64 te', .int .i64 qu', .int .i64 0, .slice s8 n' k8, .slice none 0 0] 58)); have Q9 := Lib.hid (Q8.out.alloc (.cells #[.int .i64 c, .int .i64 te', .int .i64 qu', .int .i64 0, .slice s8 n' k8, .slice none 0 0] 58)); have R9 := Lib.hid (R8.out.alloc (.cells #[.int .i64 c, .int .i64 te', .int .i64 qu', .int .i64 0, .slice s8 n' k8, .slice none 0 0] 58))
  go_wp2_with fail
  clear d0 d1 d2 d3 d4 d5 ld G_8 W_8 P8 Q8 R8 HB8
  generalize hw9 : w8.alloc (.cells #[.int .i64 c, .int .i64 te', .int .i64 qu', .int .i64 0, .slice s8 n' k8, .slice none 0 0] 58) = w9 at *
  clear hw9
  refine (eqMR_same c te' qu' 0 s8 s1 n' k8 k1 zS none none 0 0 0 (fun _ => gzero) (fun _ => gzero) _ R9.out.src (.inl rfl) P9.out.src (.inl rfl) (fun i hi => by omega) (by omega) (by omega) (fun i hi => by omega)).mono ?_
  rintro e w10 ⟨rfl, hb⟩
  have HB10 := Lib.hid (thru0 HB9.out hb)
  have G_10 := Lib.hid (G_9.out.below hb); have Q10 := Lib.hid (Q9.out.below hb)
  clear hb G_9 P9 Q9 R9 HB9
  have g0 := G_10.out.at 0 rfl; have g1 := G_10.out.at 1 rfl; have g2 := G_10.out.at 2 rfl; have g3 := G_10.out.at 3 rfl; have g4 := G_10.out.at 4 rfl; have g5 := G_10.out.at 5 rfl; have lg := G_10.out.1
  go_wp2_with fail
  refine (heldMR_any c te' qu' 0 s3 n' k3 zS none 0 0 (fun _ => gzero) 1 _ Q10.out.src (.inl rfl) (by omega) HK1.out).mono ?_
  rintro e w11 ⟨rfl, hb⟩
  rw [← HKK.out]
  have HB11 := Lib.hid (thru0 HB10.out hb)
  clear hb g0 g1 g2 g3 g4 g5 lg G_10 Q10 HB10
  go_wp2
  go_ret
  exact ⟨rfl, HB11.out⟩
end Go.Proofs.Ytihbenbfnpiikaa

