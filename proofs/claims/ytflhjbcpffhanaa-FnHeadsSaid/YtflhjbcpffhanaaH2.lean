/- HeadFault. -/
import Derived.Test.YtflhjbcpffhanaaH1
namespace Go.Proofs.Ytflhjbcpffhanaa
open Go.RowKit
set_option linter.unusedVariables false

theorem b3_blk {V : World} {B o : Nat} {cs : List Value} {v l g : Int} (hB : Blk V B cs) (h1 : cs[o]? = some (.int .i64 v)) (h2 : cs[o + 1]? = some (.int .i64 l)) (h3 : cs[o + 2]? = some (.int .i64 g)) : B3 V B o v l g :=
  ⟨hB.at o h1, hB.at (o + 1) h2, hB.at (o + 2) h3⟩
/-- isOutside, of three bounds in a block that is known. -/
theorem isOut3b (B : Nat) (V : World) (v0 l0 g0 v1 l1 g1 v2 l2 g2 : Int) (r : Bool) (hB : Blk V B [.int .i64 v0, .int .i64 l0, .int .i64 g0, .int .i64 v1, .int .i64 l1, .int .i64 g1, .int .i64 v2, .int .i64 l2, .int .i64 g2])
    (hr : (r = false ∧ (l0 ≤ v0 ∧ v0 ≤ g0) ∧ (l1 ≤ v1 ∧ v1 ≤ g1) ∧ (l2 ≤ v2 ∧ v2 ≤ g2)) ∨ (r = true ∧ ¬ ((l0 ≤ v0 ∧ v0 ≤ g0) ∧ (l1 ≤ v1 ∧ v1 ≤ g1) ∧ (l2 ≤ v2 ∧ v2 ≤ g2)))) :
    Calls Try.prog 47 #[.slice (some ⟨B, 0, none⟩) 3 3] V (RetBool V r) := by
  have hB3 : ∀ i, i < 3 → B3 V B (i * 3) (pick3 v0 v1 v2 i) (pick3 l0 l1 l2 i) (pick3 g0 g1 g2 i) := by
    intro i hi
    match i, hi with
    | 0, _ => exact b3_blk hB rfl rfl rfl
    | 1, _ => exact b3_blk hB rfl rfl rfl
    | 2, _ => exact b3_blk hB rfl rfl rfl
  rcases hr with ⟨rfl, hr⟩ | ⟨rfl, hr⟩
  · refine isOut_no B 3 _ _ _ _ (by omega) hB.1 hB3 (fun i hi => ?_)
    match i, hi with
    | 0, _ => exact hr.1
    | 1, _ => exact hr.2.1
    | 2, _ => exact hr.2.2
  · refine isOut_yes B 3 _ _ _ _ (by omega) hB.1 hB3 ?_
    by_cases h0 : l0 ≤ v0 ∧ v0 ≤ g0
    · by_cases h1 : l1 ≤ v1 ∧ v1 ≤ g1
      · exact ⟨2, by omega, fun h2 => hr ⟨h0, h1, h2⟩⟩
      · exact ⟨1, by omega, h1⟩
    · exact ⟨0, by omega, h0⟩
/-- What a head is. -/
def HOk (s m o h : Int) : Prop := (0 ≤ s ∧ s ≤ 12) ∧ (0 ≤ m ∧ m ≤ P2 s - 1) ∧ (0 ≤ o ∧ o ≤ 3) ∧ (0 ≤ h ∧ h ≤ 99999)
def IsHF (s m o h k : Int) : Prop := (HOk s m o h ∧ k = 0) ∨ (¬ HOk s m o h ∧ k = 3)
theorem isHF_some (s m o h : Int) : ∃ k, IsHF s m o h k := by
  by_cases x : HOk s m o h
  · exact ⟨0, .inl ⟨x, rfl⟩⟩
  · exact ⟨3, .inr ⟨x, rfl⟩⟩

set_option maxHeartbeats 400000 in
theorem implHF_size (s m o h : Int) (w : World) (h0 : ¬ (0 ≤ s ∧ s ≤ 12)) :
    Calls Try.prog 26 #[.agg #[.int .i64 s, .int .i64 m, .int .i64 o, .int .i64 h]] w (RetInt w 3) := by
  have H0 := Lib.hid h0
  clear h0
  go_enter Try.func26, Try.ntmps26
  go_wp2_with (go_at_call 47; (with_reducible refine (isOut1 _ _ _ _ _ true (by simp) (.inr ⟨rfl, H0.out⟩)).mono ?_); rintro e w1 ⟨rfl, hb⟩; obtain ⟨hc, hf⟩ := bcell hb; have HB := Lib.hid hb; have hz := hb.size; clear hb)
  go_ret
  exact ⟨rfl, (((Below.refl _ _).alloc (Nat.le_refl _) _).alloc (by simp) _).trans (HB.out.mono (by simp; try omega))⟩

set_option maxHeartbeats 800000 in
theorem implHF_rest (s m o h : Int) (r : Bool) (k : Int) (w : World) (h0 : 0 ≤ s ∧ s ≤ 12)
    (hr : (r = false ∧ (0 ≤ m ∧ m ≤ P2 s - 1) ∧ (0 ≤ o ∧ o ≤ 3) ∧ (0 ≤ h ∧ h ≤ 99999)) ∨ (r = true ∧ ¬ ((0 ≤ m ∧ m ≤ P2 s - 1) ∧ (0 ≤ o ∧ o ≤ 3) ∧ (0 ≤ h ∧ h ≤ 99999)))) (hk : k = if r then 3 else 0) :
    Calls Try.prog 26 #[.agg #[.int .i64 s, .int .i64 m, .int .i64 o, .int .i64 h]] w (RetInt w k) := by
  have H0 := Lib.hid h0
  have p1 := P2_pos s
  have p2 := P2_le h0.2
  have hwr : IntKind.i64.wrap (IntKind.i64.wrap (P2 s) - 1) = P2 s - 1 := by
    rw [IntWalk.i64_in (P2 s) (by omega), IntWalk.i64_in _ (by omega)]
  have HR : Hid ((r = false ∧ (0 ≤ m ∧ m ≤ IntKind.i64.wrap (IntKind.i64.wrap (P2 s) - 1)) ∧ (0 ≤ o ∧ o ≤ 3) ∧ (0 ≤ h ∧ h ≤ 99999)) ∨ (r = true ∧ ¬ ((0 ≤ m ∧ m ≤ IntKind.i64.wrap (IntKind.i64.wrap (P2 s) - 1)) ∧ (0 ≤ o ∧ o ≤ 3) ∧ (0 ≤ h ∧ h ≤ 99999)))) := by rw [hwr]; exact hr
  have HK := Lib.hid hk
  obtain ⟨q1, q2⟩ := h0
  have hmin : min s.toNat 64 = s.toNat := by omega
  have hpow : (2 : Int) ^ s.toNat = P2 s := rfl
  clear hr hk hwr
  go_enter Try.func26, Try.ntmps26
  go_wp2_with (go_at_call 47; (with_reducible refine (isOut1 _ _ _ _ _ false (by simp) (.inl ⟨rfl, H0.out⟩)).mono ?_); rintro e w1 ⟨rfl, hb⟩; have HB : Hid (Below w.heap.size w w1) := (((Below.refl _ _).alloc (Nat.le_refl _) _).alloc (by simp) _).trans (hb.mono (by simp; try omega)); have HH : Hid (Blk w1 w.heap.size [.int .i64 s, .int .i64 m, .int .i64 o, .int .i64 h]) := ((Blk.new_at (w.heap.size) rfl).alloc _).below hb; clear hb)
  have lH := HH.out.1
  have HHd := Lib.hid HH.out.drew
  have HBz : w.heap.size ≤ w1.heap.size := HB.out.size
  go_region_held3 (fun w' => w'.cell? ⟨w.heap.size, 0, none⟩ = some (.int .i64 s) ∧ w'.cell? ⟨w.heap.size, 1, none⟩ = some (.int .i64 m) ∧ w'.cell? ⟨w.heap.size, 2, none⟩ = some (.int .i64 o) ∧ w'.cell? ⟨w.heap.size, 3, none⟩ = some (.int .i64 h))
    (first | (with_reducible exact ⟨(HH.out).at 0 rfl, (HH.out).at 1 rfl, (HH.out).at 2 rfl, (HH.out).at 3 rfl⟩) | (with_reducible exact ⟨(HHd.out).at 0 rfl, (HHd.out).at 1 rfl, (HHd.out).at 2 rfl, (HHd.out).at 3 rfl⟩) | (with_reducible exact ⟨((HH.out.alloc _).drew).at 0 rfl, ((HH.out.alloc _).drew).at 1 rfl, ((HH.out.alloc _).drew).at 2 rfl, ((HH.out.alloc _).drew).at 3 rfl⟩) | (with_reducible exact ⟨(HH2.out).at 0 rfl, (HH2.out).at 1 rfl, (HH2.out).at 2 rfl, (HH2.out).at 3 rfl⟩))
    (first | (go_at_call 47; (with_reducible refine (isOut3b _ _ _ _ _ _ _ _ _ _ _ r (Blk.new_at (w1.heap.size) rfl).drew HR.out).mono ?_); rintro e w2 ⟨rfl, hb⟩; have HB2 : Hid (Below w.heap.size w w2) := ((HB.out.alloc HBz _).drew).trans (hb.mono (by simp; omega)); have HH2 := Lib.hid (((HH.out.alloc _).drew).below hb); clear hb))
  cases r
  · have hk : k = 0 := HK.out
    subst hk
    go_wp2
    go_ret
    exact ⟨rfl, HB2.out⟩
  · have hk : k = 3 := HK.out
    subst hk
    go_wp2
    go_ret
    exact ⟨rfl, HB2.out⟩
theorem implHF_any (s m o h k : Int) (w : World) (hk : IsHF s m o h k) : Calls Try.prog 26 #[.agg #[.int .i64 s, .int .i64 m, .int .i64 o, .int .i64 h]] w (RetInt w k) := by
  by_cases h0 : 0 ≤ s ∧ s ≤ 12
  · rcases hk with ⟨⟨_, h1⟩, rfl⟩ | ⟨h1, rfl⟩
    · exact implHF_rest s m o h false 0 w h0 (.inl ⟨rfl, h1⟩) rfl
    · exact implHF_rest s m o h true 3 w h0 (.inr ⟨rfl, fun x => h1 ⟨h0, x⟩⟩) rfl
  · rcases hk with ⟨⟨h1, _⟩, _⟩ | ⟨_, rfl⟩
    · exact absurd h1 h0
    · exact implHF_size s m o h w h0


set_option maxHeartbeats 800000 in
theorem specHF_s (s m o h : Int) (w : World) (hs : ¬ (0 ≤ s ∧ s ≤ 12)) : Calls Try.prog 29 #[.agg #[.int .i64 s, .int .i64 m, .int .i64 o, .int .i64 h]] w (RetInt w 3) := by
  go_enter Try.func29, Try.ntmps29
  go_wp2_with fail
  go_quiet (first | (with_reducible exact Calls.quiet_of_same (Calls.mono (l1In_no s 0 12 _ hs) fun _ _ hh => ⟨hh.1, hh.2.symm⟩)))
  go_wp2
  go_ret
  exact ⟨rfl, below_drewN ((Below.refl _ _).alloc (Nat.le_refl _) _) _⟩


set_option maxHeartbeats 800000 in
theorem specHF_m (S : Nat) (m o h : Int) (w : World) (hS : S ≤ 12) (hm : ¬ (0 ≤ m ∧ m ≤ P2 S - 1)) : Calls Try.prog 29 #[.agg #[.int .i64 (S : Int), .int .i64 m, .int .i64 o, .int .i64 h]] w (RetInt w 3) := by
  have p1 := P2_pos (S : Int)
  have p2 := P2_le (s := (S : Int)) (by omega)
  have hwr : IntKind.i64.wrap (P2 (S : Int) - 1) = P2 S - 1 := IntWalk.i64_in _ (by omega)
  go_enter Try.func29, Try.ntmps29
  go_wp2_with fail
  go_quiet (first | (with_reducible exact Calls.quiet_of_same (Calls.mono (l1In_yes (S : Int) 0 12 _ (by omega) (by omega)) fun _ _ hh => ⟨hh.1, hh.2.symm⟩)) | (with_reducible exact Calls.quiet_of_same (Calls.mono (l1In_no m 0 (P2 (S : Int) - 1) _ hm) fun _ _ hh => ⟨hh.1, hh.2.symm⟩)) | (with_reducible exact Calls.quiet_of_same (Calls.mono (power_any S _ hS) fun _ _ hh => ⟨hh.1, hh.2.symm⟩)))
  go_wp2
  go_ret
  exact ⟨rfl, below_drewN ((Below.refl _ _).alloc (Nat.le_refl _) _) _⟩


set_option maxHeartbeats 800000 in
theorem specHF_o (S : Nat) (m o h : Int) (w : World) (hS : S ≤ 12) (hm : 0 ≤ m ∧ m ≤ P2 S - 1) (ho : ¬ (0 ≤ o ∧ o ≤ 3)) : Calls Try.prog 29 #[.agg #[.int .i64 (S : Int), .int .i64 m, .int .i64 o, .int .i64 h]] w (RetInt w 3) := by
  have p1 := P2_pos (S : Int)
  have p2 := P2_le (s := (S : Int)) (by omega)
  have hwr : IntKind.i64.wrap (P2 (S : Int) - 1) = P2 S - 1 := IntWalk.i64_in _ (by omega)
  go_enter Try.func29, Try.ntmps29
  go_wp2_with fail
  go_quiet (first | (with_reducible exact Calls.quiet_of_same (Calls.mono (l1In_yes (S : Int) 0 12 _ (by omega) (by omega)) fun _ _ hh => ⟨hh.1, hh.2.symm⟩)) | (with_reducible exact Calls.quiet_of_same (Calls.mono (l1In_yes m 0 (P2 (S : Int) - 1) _ hm.1 hm.2) fun _ _ hh => ⟨hh.1, hh.2.symm⟩)) | (with_reducible exact Calls.quiet_of_same (Calls.mono (l1In_no o 0 3 _ ho) fun _ _ hh => ⟨hh.1, hh.2.symm⟩)) | (with_reducible exact Calls.quiet_of_same (Calls.mono (power_any S _ hS) fun _ _ hh => ⟨hh.1, hh.2.symm⟩)))
  go_wp2
  go_ret
  exact ⟨rfl, below_drewN ((Below.refl _ _).alloc (Nat.le_refl _) _) _⟩


set_option maxHeartbeats 800000 in
theorem specHF_h (S : Nat) (m o h : Int) (w : World) (hS : S ≤ 12) (hm : 0 ≤ m ∧ m ≤ P2 S - 1) (ho : 0 ≤ o ∧ o ≤ 3) (hh : ¬ (0 ≤ h ∧ h ≤ 99999)) : Calls Try.prog 29 #[.agg #[.int .i64 (S : Int), .int .i64 m, .int .i64 o, .int .i64 h]] w (RetInt w 3) := by
  have p1 := P2_pos (S : Int)
  have p2 := P2_le (s := (S : Int)) (by omega)
  have hwr : IntKind.i64.wrap (P2 (S : Int) - 1) = P2 S - 1 := IntWalk.i64_in _ (by omega)
  go_enter Try.func29, Try.ntmps29
  go_wp2_with fail
  go_quiet (first | (with_reducible exact Calls.quiet_of_same (Calls.mono (l1In_yes (S : Int) 0 12 _ (by omega) (by omega)) fun _ _ hh => ⟨hh.1, hh.2.symm⟩)) | (with_reducible exact Calls.quiet_of_same (Calls.mono (l1In_yes m 0 (P2 (S : Int) - 1) _ hm.1 hm.2) fun _ _ hh => ⟨hh.1, hh.2.symm⟩)) | (with_reducible exact Calls.quiet_of_same (Calls.mono (l1In_yes o 0 3 _ ho.1 ho.2) fun _ _ hh => ⟨hh.1, hh.2.symm⟩)) | (with_reducible exact Calls.quiet_of_same (Calls.mono (l1In_no h 0 99999 _ hh) fun _ _ hh => ⟨hh.1, hh.2.symm⟩)) | (with_reducible exact Calls.quiet_of_same (Calls.mono (power_any S _ hS) fun _ _ hh => ⟨hh.1, hh.2.symm⟩)))
  go_wp2
  go_ret
  exact ⟨rfl, below_drewN ((Below.refl _ _).alloc (Nat.le_refl _) _) _⟩


set_option maxHeartbeats 800000 in
theorem specHF_ok (S : Nat) (m o h : Int) (w : World) (hS : S ≤ 12) (hm : 0 ≤ m ∧ m ≤ P2 S - 1) (ho : 0 ≤ o ∧ o ≤ 3) (hh : 0 ≤ h ∧ h ≤ 99999) : Calls Try.prog 29 #[.agg #[.int .i64 (S : Int), .int .i64 m, .int .i64 o, .int .i64 h]] w (RetInt w 0) := by
  have p1 := P2_pos (S : Int)
  have p2 := P2_le (s := (S : Int)) (by omega)
  have hwr : IntKind.i64.wrap (P2 (S : Int) - 1) = P2 S - 1 := IntWalk.i64_in _ (by omega)
  go_enter Try.func29, Try.ntmps29
  go_wp2_with fail
  go_quiet (first | (with_reducible exact Calls.quiet_of_same (Calls.mono (l1In_yes (S : Int) 0 12 _ (by omega) (by omega)) fun _ _ hh => ⟨hh.1, hh.2.symm⟩)) | (with_reducible exact Calls.quiet_of_same (Calls.mono (l1In_yes m 0 (P2 (S : Int) - 1) _ hm.1 hm.2) fun _ _ hh => ⟨hh.1, hh.2.symm⟩)) | (with_reducible exact Calls.quiet_of_same (Calls.mono (l1In_yes o 0 3 _ ho.1 ho.2) fun _ _ hh => ⟨hh.1, hh.2.symm⟩)) | (with_reducible exact Calls.quiet_of_same (Calls.mono (l1In_yes h 0 99999 _ hh.1 hh.2) fun _ _ hh => ⟨hh.1, hh.2.symm⟩)) | (with_reducible exact Calls.quiet_of_same (Calls.mono (power_any S _ hS) fun _ _ hh => ⟨hh.1, hh.2.symm⟩)))
  go_wp2
  go_ret
  exact ⟨rfl, below_drewN ((Below.refl _ _).alloc (Nat.le_refl _) _) _⟩


theorem specHF_any (s m o h k : Int) (w : World) (hk : IsHF s m o h k) : Calls Try.prog 29 #[.agg #[.int .i64 s, .int .i64 m, .int .i64 o, .int .i64 h]] w (RetInt w k) := by
  by_cases h0 : 0 ≤ s ∧ s ≤ 12
  · obtain ⟨S, rfl⟩ : ∃ S : Nat, s = S := ⟨s.toNat, by omega⟩
    have hS : S ≤ 12 := by omega
    rcases hk with ⟨⟨_, h1, h2, h3⟩, rfl⟩ | ⟨hn, rfl⟩
    · exact specHF_ok S m o h w hS h1 h2 h3
    · by_cases h1 : 0 ≤ m ∧ m ≤ P2 S - 1
      · by_cases h2 : 0 ≤ o ∧ o ≤ 3
        · exact specHF_h S m o h w hS h1 h2 (fun h3 => hn ⟨h0, h1, h2, h3⟩)
        · exact specHF_o S m o h w hS h1 h2
      · exact specHF_m S m o h w hS h1
  · rcases hk with ⟨⟨h1, _⟩, _⟩ | ⟨_, rfl⟩
    · exact absurd h1 h0
    · exact specHF_s s m o h w h0

end Go.Proofs.Ytflhjbcpffhanaa
