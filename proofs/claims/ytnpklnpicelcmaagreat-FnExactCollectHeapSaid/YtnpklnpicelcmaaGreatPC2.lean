/- Texts merged: K2 to Q9b. -/
import Derived.Test.YtnpklnpicelcmaaGreatPC1
import Derived.Deep.Slices
import Derived.Deep.LoopGhost
import Derived.Shelf.Abstract
import Derived.RangeFuncNested
import Derived.RangeFuncBound
import Derived.RangeFuncCalls
import Derived.RangeFuncLeaves
import Derived.Shelf.RegionOpen
import Derived.OwnWalkIn
import Derived.TacticsInMore
import Derived.LoopNIn
import Derived.LoopIn
import Derived.Maps.OwnIn
import Derived.Maps.AppendAt
namespace Go.Proofs.YtnpklnpicelcmaaGreat
open Go.RowKit
set_option linter.unusedVariables false

/-- What l3Objects answers: nothing, or the objects in memory of the call's own. -/
def RetObs (W : World) (f : Nat → Int) (r : Option (List Ob)) (e : Ending) (w' : World) : Prop :=
  Below W.heap.size W w' ∧ ((r = none ∧ e = .returned (.tuple #[.slice none 0 0, .bool false])) ∨
    ∃ v M, r = some (M.map OM.x) ∧ e = .returned (.tuple #[v, .bool true]) ∧ w'.ownsRow W.heap.size 102 6 v M.length (rowCells M) ∧ Flds w' W.heap.size f v M)

theorem l1Base_eq (X : Int) (b : Nat) (h ac bu : Int) (a : Option Addr) (n c : Nat) (w : World) (hX : baseI ac h = X) (hB : Blk w b [.int .i64 h, .slice a n c, .int .i64 ac, .int .i64 bu]) (h1 : 8 ≤ h) (h2 : h ≤ 200) (h3 : 0 ≤ ac) (h4 : ac ≤ 1) :
    Calls Tryz.prog 71 #[.pointer (some ⟨b, 0, none⟩)] w (RetInt w X) := by
  subst hX
  exact l1Base_any b h ac bu a n c w hB h1 h2 h3 h4

theorem ownBlock_lt {w : World} {base e size n : Nat} {v : Value} {xs : List Value} (h : w.ownsRow base e size v n xs) {g : Nat} (hg : v.ownBlock = some g) : g < w.heap.size := by
  rcases h.2 with ⟨rfl, _⟩ | ⟨g', cap, cur, rfl, _, hg', _⟩
  · simp [Value.ownBlock] at hg
  · simp only [Value.ownBlock, Option.some.injEq] at hg
    subst hg
    rcases Nat.lt_or_ge g' w.heap.size with hlt | hge
    · exact hlt
    · rw [Array.getElem?_eq_none hge] at hg'; cases hg'

theorem Tryz.info102 : (Tryz.prog.info? 102).map (fun i => (i.zero, i.size, i.bytes)) = some (some (.agg #[.int .i64 0, .int .i64 0, .int .i64 0, .int .i64 0, .int .i64 0, .slice none 0 0]), 6, 64) := by kernel_rfl

theorem src_w0 {w : World} {ab ao n : Nat} {f : Nat → Int} (h : Src w (some ⟨ab, ao, none⟩) n f) (i : Nat) (hi : i < n) : w.cell? ⟨ab, ao + i, none⟩ = some (.int .i64 (f i)) := h.at i hi

theorem src_w1 {w : World} {ab ao n : Nat} {f : Nat → Int} (h : Src w (some ⟨ab, ao, none⟩) n f) (i : Nat) (hi : i + 1 < n) : w.cell? ⟨ab, ao + (i + 1), none⟩ = some (.int .i64 (f (i + 1))) := h.at (i + 1) hi

theorem src_sub {w : World} {ab ao n m d : Nat} {f : Nat → Int} (h : Src w (some ⟨ab, ao, none⟩) n f) (hd : d + m ≤ n) : Src w (some ⟨ab, ao + d, none⟩) m (fun k => f (d + k)) := by
  rcases h with h | ⟨b', o', he, hb, hc⟩
  · exact .inl (by omega)
  · cases he
    exact .inr ⟨ab, ao + d, rfl, hb, fun i hi => by have := hc (d + i) (by omega); rw [Nat.add_assoc]; exact this⟩

theorem ownBlock_ge {w : World} {base e size n : Nat} {v : Value} {xs : List Value} (h : w.ownsRow base e size v n xs) {g : Nat} (hg : v.ownBlock = some g) : base ≤ g := by
  rcases h.2 with ⟨rfl, _⟩ | ⟨g', cap, cur, rfl, hb, _⟩
  · simp [Value.ownBlock] at hg
  · simp only [Value.ownBlock, Option.some.injEq] at hg
    omega

/-- One object more. -/
theorem flds_append {w0 w1 w2 : World} {lo : Nat} {f : Nat → Int} {v : Value} {M : List OM} {g2 n2 cap2 : Nat} (x : Ob) (g c : Nat) (h : Flds w0 lo f v M) (hb : Below w0.heap.size w0 w1) (hg : w1.grownBy w2 v.ownBlock)
    (hat : v.ownBlock = some g2 ∨ g2 = w1.heap.size) (hgl : w0.heap.size ≤ g) (hgu : g < w1.heap.size) (hlo : lo ≤ w0.heap.size) (hv : ∀ k, v.ownBlock = some k → k < w0.heap.size)
    (hc : ∀ k, k < x.s.toNat → w1.cell? ⟨g, k, none⟩ = some (.int .i64 (f (x.at_.toNat + 2 + k))) ∧ w1.frozen? ⟨g, k, none⟩ = false) :
    Flds w2 lo f (.slice (some ⟨g2, 0, none⟩) n2 cap2) (M ++ [⟨x, g, c⟩]) := by
  have hz := hb.size
  refine ⟨fun t ht => ?_, ?_⟩
  · rcases List.mem_append.mp ht with ht | ht
    · obtain ⟨a1, a2, a3, a4⟩ := h.1 t ht
      refine ⟨a1, Nat.lt_of_lt_of_le (Nat.lt_of_lt_of_le a2 hz) hg.size, ?_, fun k hk => ?_⟩
      · intro he
        simp only [Value.ownBlock, Option.some.injEq] at he
        rcases hat with hat | hat
        · exact a3 (by rw [hat, he])
        · omega
      · obtain ⟨b1, b2⟩ := a4 k hk
        have e1 := hg.cell_far ⟨t.g, k, none⟩ (Nat.lt_of_lt_of_le a2 hz) a3
        have e2 := hg.frozen_far ⟨t.g, k, none⟩ (Nat.lt_of_lt_of_le a2 hz) a3
        exact ⟨e1.trans ((hb.cell (p := ⟨t.g, k, none⟩) a2).trans b1), e2.trans ((hb.frozen (p := ⟨t.g, k, none⟩) a2).trans b2)⟩
    · simp only [List.mem_singleton] at ht
      subst ht
      have hne : some g ≠ v.ownBlock := fun he => by have := hv g he.symm; omega
      refine ⟨Nat.le_trans hlo hgl, Nat.lt_of_lt_of_le hgu hg.size, ?_, fun k hk => ?_⟩
      · intro he
        simp only [Value.ownBlock, Option.some.injEq] at he
        rcases hat with hat | hat
        · exact hne (by rw [hat, he])
        · omega
      · obtain ⟨b1, b2⟩ := hc k hk
        exact ⟨(hg.cell_far ⟨g, k, none⟩ hgu hne).trans b1, (hg.frozen_far ⟨g, k, none⟩ hgu hne).trans b2⟩
  · rw [List.pairwise_append]
    refine ⟨h.2, by simp, fun t ht u hu => ?_⟩
    simp only [List.mem_singleton] at hu
    subst hu
    exact Nat.lt_of_lt_of_le (h.1 t ht).2.1 hgl

set_option maxRecDepth 100000 in
set_option maxHeartbeats 6400000 in
theorem l3Objects_any (b P U : Nat) (h ac : Int) (ab ao n c : Nat) (f : Nat → Int) (w : World) (hB : Blk w b [.int .i64 h, .slice (some ⟨ab, ao, none⟩) n c, .int .i64 ac, .int .i64 (U : Int)]) (hs : Src w (some ⟨ab, ao, none⟩) n f) (h1 : 8 ≤ h) (h2 : h ≤ 200) (h3 : 0 ≤ ac) (h4 : ac ≤ 1) (hP : baseI ac h = (P : Int)) (hU : P + U ≤ n) (hn : n ≤ 400) (hcn : n ≤ c) (hcm : c ≤ maxLen) (hf : ∀ i, i < n → f i ≤ 9223372036854775807) :
    Calls Tryz.prog 38 #[.pointer (some ⟨b, 0, none⟩)] w (RetObs w f (parse f (P + U) P)) := by
  have HB0 := Lib.hid hB
  have HS0 := Lib.hid hs
  have lb := hB.1
  have HF := Lib.hid hf
  have HCM := Lib.hid hcm
  clear hB hs hf hcm
  go_enter Tryz.func38, Tryz.ntmps38
  go_wp2_with fail
  have HBa : Hid (Below w.heap.size w (w.alloc (.cells #[] 102))) := (Below.refl _ _).alloc (Nat.le_refl _) _
  have OWa : Hid ((w.alloc (.cells #[] 102)).ownsRow w.heap.size 102 6 (.slice (some ⟨w.heap.size, 0, none⟩) 0 0) 0 []) := World.ownsRow_lit w #[] 0 (Nat.le_refl _) (by simp [maxLen]) rfl
  have za : w.heap.size + 1 ≤ (w.alloc (.cells #[] 102)).heap.size := by simp
  generalize w.alloc (.cells #[] 102) = wa at *
  have BA_a := Lib.hid (HB0.out.below HBa.out)
  have BA_d := Lib.hid BA_a.out.drew
  have HBd := Lib.hid HBa.out.drew
  have hza := HBa.out.size
  have OWd := Lib.hid (ownsRow_below OWa.out (Below.refl _ _).drew)
  have hw : IntKind.i64.wrap ((P : Int) + (U : Int)) = ((P + U : Nat) : Int) := by rw [IntWalk.i64_in _ (by omega)]; omega
  go_region_held3 (fun w' => w'.cell? ⟨b, 0, none⟩ = some (.int .i64 h) ∧ w'.cell? ⟨b, 1, none⟩ = some (.slice (some ⟨ab, ao, none⟩) n c) ∧ w'.cell? ⟨b, 2, none⟩ = some (.int .i64 ac) ∧ w'.cell? ⟨b, 3, none⟩ = some (.int .i64 (U : Int)))
    (first | (with_reducible exact ⟨(BA_a.out).at 0 rfl, (BA_a.out).at 1 rfl, (BA_a.out).at 2 rfl, (BA_a.out).at 3 rfl⟩) | (with_reducible exact ⟨(BA_d.out).at 0 rfl, (BA_d.out).at 1 rfl, (BA_d.out).at 2 rfl, (BA_d.out).at 3 rfl⟩) | (with_reducible exact ⟨(BA_1.out).at 0 rfl, (BA_1.out).at 1 rfl, (BA_1.out).at 2 rfl, (BA_1.out).at 3 rfl⟩))
    (first | (go_at_call 71; refine (l1Base_eq (P : Int) b h ac (U : Int) (some ⟨ab, ao, none⟩) n c _ hP BA_d.out h1 h2 h3 h4).mono ?_; rintro e w1 ⟨rfl, hb⟩; have HB1 := Lib.hid (HBd.out.trans (hb.mono (by simpa using hza))); have BA_1 := Lib.hid (BA_d.out.below hb); have OW1 := Lib.hid (ownsRow_below OWd.out hb); clear hb))
  clear HBa OWa BA_a BA_d HBd OWd
  go_wp2_with fail
  refine (l1Base_eq (P : Int) b h ac (U : Int) (some ⟨ab, ao, none⟩) n c _ hP BA_1.out h1 h2 h3 h4).mono ?_
  rintro e w2 ⟨rfl, hb⟩
  have hz1 := HB1.out.size
  have HB2 := Lib.hid (HB1.out.trans (hb.mono hz1))
  have OW2 := Lib.hid (ownsRow_below OW1.out hb)
  clear hb HB1 OW1 BA_1
  have z2 := HB2.out.size
  have z3 : w.heap.size + 1 ≤ w2.heap.size := ownBlock_lt OW2.out rfl
  go_wp2
  go_loopw [4, 6] (fun v q wr => ∃ (i : Nat) (M : List OM), i ≤ P + U ∧ q = .int .i64 (i : Int) ∧ Hid (Below w.heap.size w wr) ∧ w.heap.size + 1 ≤ wr.heap.size ∧ Hid (wr.ownsRow w.heap.size 102 6 v M.length (rowCells M)) ∧ Hid (Flds wr w.heap.size f v M) ∧ Hid (parse f (P + U) P = (parse f (P + U) i).map (M.map OM.x ++ ·)) ∧ M.length + M.length ≤ i) (fun _ q _ => P + U - (intOf q).toNat)
  case atStart => exact ⟨P, [], by omega, rfl, HB2, z3, OW2, ⟨(by intro t ht; cases ht), List.Pairwise.nil⟩, Lib.hid (by simp), by simp⟩
  case round =>
    obtain ⟨i, M, hi, rfl, HB_r, zr, OW_r, FL_r, HPA, hml⟩ := hrel
    clear HB2 OW2 z2 z3
    have BA_r := Lib.hid (HB0.out.below HB_r.out)
    have hzr := HB_r.out.size
    by_cases hlt : i < P + U
    · have hlt' : (i : Int) < ((P + U : Nat) : Int) := by omega
      by_cases h2e : i + 2 ≤ P + U
      · have h2e' : ¬ ((P + U : Nat) : Int) < (i : Int) + 2 := by omega
        have hi0 : (0 : Int) ≤ (i : Int) := by omega
        have hi1 : (i : Int) < (n : Int) := by omega
        have hi2 : (i : Int) + 1 < (n : Int) := by omega
        have hi3 : (0 : Int) ≤ (i : Int) + 1 := by omega
        have ht1 : ((i : Int) + 1).toNat = i + 1 := by omega
        have hwi : IntKind.i64.wrap ((i : Int) + 1) = (i : Int) + 1 := IntWalk.i64_in _ (by omega)
        go_wp2_with fail
        have SA_r := Lib.hid (HS0.out.below HB_r.out)
        have BA_d := Lib.hid BA_r.out.drew
        have SA_d := Lib.hid SA_r.out.drew
        obtain ⟨hab, hac⟩ : ab < wr.heap.size ∧ True := ⟨by rcases SA_r.out with h0 | ⟨b', o', he, hb', _⟩; omega; cases he; exact hb', trivial⟩
        have lbr : b < wr.heap.size := by omega
        have HFi := Lib.hid (HF.out i (by omega))
        by_cases hro : ROk (f i) (f (i + 1))
        · have HRO := Lib.hid hro
          have hs12 := hro.2.1
          obtain ⟨sN, hS⟩ : ∃ sN : Nat, f i / 2 % 16 = (sN : Int) := ⟨(f i / 2 % 16).toNat, by omega⟩
          have hsz : szOf f i = sN := by unfold szOf; omega
          have hs13 : sN ≤ 12 := by omega
          have HS0' := Lib.hid hS
          clear hS hs12
          go_region_held3 (fun w' => w'.cell? ⟨b, 1, none⟩ = some (.slice (some ⟨ab, ao, none⟩) n c) ∧ w'.cell? ⟨ab, ao + i, none⟩ = some (.int .i64 (f i)) ∧ w'.cell? ⟨ab, ao + (i + 1), none⟩ = some (.int .i64 (f (i + 1))))
            (first | (with_reducible exact ⟨(BA_r.out).at 1 rfl, src_w0 (SA_r.out) i (by omega), src_w1 (SA_r.out) i (by omega)⟩) | (with_reducible exact ⟨(BA_d.out).at 1 rfl, src_w0 (SA_d.out) i (by omega), src_w1 (SA_d.out) i (by omega)⟩) | (with_reducible exact ⟨((BA_r.out.alloc _).drew).at 1 rfl, src_w0 ((SA_r.out.alloc _).drew) i (by omega), src_w1 ((SA_r.out.alloc _).drew) i (by omega)⟩) | (with_reducible exact ⟨(BA_5.out).at 1 rfl, src_w0 (SA_5.out) i (by omega), src_w1 (SA_5.out) i (by omega)⟩) | (with_reducible exact ⟨(BA_5.out.alloc _).at 1 rfl, src_w0 (SA_5.out.alloc _) i (by omega), src_w1 (SA_5.out.alloc _) i (by omega)⟩) | (exact ⟨(((((BA_5.out.other (by (try simp); (try omega)) _).other (by (try simp); (try omega)) _).other (by (try simp); (try omega)) _).other (by (try simp); (try omega)) _)).at 1 rfl, src_w0 (src_other (src_other (src_other (src_other SA_5.out (by (try simp); (try omega)) _) (by (try simp); (try omega)) _) (by (try simp); (try omega)) _) (by (try simp); (try omega)) _) i (by omega), src_w1 (src_other (src_other (src_other (src_other SA_5.out (by (try simp); (try omega)) _) (by (try simp); (try omega)) _) (by (try simp); (try omega)) _) (by (try simp); (try omega)) _) i (by omega)⟩))
            (first | (go_at_call 72; refine (l2Read_yes (f i) (f (i + 1)) _ HFi.out HRO.out).mono ?_; rintro e w5 ⟨s1, m1, o1, h5, rfl, hb, hv⟩; obtain ⟨rfl, rfl, rfl, rfl⟩ := hv (by trivial); have HB5 := Lib.hid (thru0 (below_ext (Below.refl wr.heap.size wr).drew (by first | exact .inl rfl | exact ext_drew _ _ | exact .inr ⟨_, rfl⟩)) hb); have SA_5 := Lib.hid ((SA_d.out.ext (by first | exact .inl rfl | exact ext_drew _ _ | exact .inr ⟨_, rfl⟩)).below hb); have BA_5 := Lib.hid ((BA_d.out.ext (by first | exact .inl rfl | exact ext_drew _ _ | exact .inr ⟨_, rfl⟩)).below hb); have z5 : wr.heap.size ≤ w5.heap.size := (by have := hb.size; simp at this; omega); (first | (have T5 := Lib.hid ((Blk.new_at (w := wr) (cs := #[.int .i64 0, .int .i64 0, .int .i64 0, .int .i64 0]) (t := 100) (wr.heap.size) rfl).drew.below hb)) | skip); clear hb; (first | (have lT := T5.out.1; have cT0 := T5.out.at 0 rfl; have fT0 := T5.out.free 0 rfl; have cT1 := T5.out.at 1 rfl; have fT1 := T5.out.free 1 rfl; have cT2 := T5.out.at 2 rfl; have fT2 := T5.out.free 2 rfl; have cT3 := T5.out.at 3 rfl; have fT3 := T5.out.free 3 rfl) | skip)))
          all_goals have hS := HS0'.out
          · refine then_named (fun w6 => Hid (Below wr.heap.size wr w6) ∧ Hid (Blk w6 (w5.heap.size) [.int .i64 (f i / 2 % 16), .int .i64 (f i / 32 % 4096), .int .i64 (f i / 131072), .int .i64 (f (i + 1))])) ⟨HB5.out.alloc HB5.out.size _, Blk.new_at _ rfl⟩ (fun w6 hF => ?_)
            obtain ⟨HB6, T6⟩ := hF
            clear HB5 SA_5 BA_5 SA_d BA_d
            rw [hS] at T6
            have z6 := HB6.out.size
            have lT6 := T6.out.1
            by_cases hfit : i + 2 + sN ≤ P + U
            · have hft : ¬ (P : Int) + (U : Int) < (i : Int) + ((sN : Int) + 2) := by omega
              go_wp2_with fail
              refine (l2Words_any _ (sN : Int) _ _ _ _ T6.out ⟨by omega, by omega⟩).mono ?_
              rintro e w' ⟨rfl, rfl⟩
              go_wp2_with fail
              refine (l2Words_any _ (sN : Int) _ _ _ _ T6.out ⟨by omega, by omega⟩).mono ?_
              rintro e w' ⟨rfl, rfl⟩
              go_wp2_with fail
              have BA6 := Lib.hid (BA_r.out.below HB6.out)
              have SA6 := Lib.hid (SA_r.out.below HB6.out)
              have OW6 := Lib.hid (ownsRow_below OW_r.out HB6.out)
              have FL6 := Lib.hid (FL_r.out.below HB6.out)
              have HB7 := Lib.hid (HB_r.out.trans (HB6.out.mono hzr))
              have hz7 := HB7.out.size
              have cB1 := BA6.out.at 1 rfl
              have cT0 := T6.out.at 0 rfl; have cT1 := T6.out.at 1 rfl; have cT2 := T6.out.at 2 rfl; have cT3 := T6.out.at 3 rfl
              have lb6 : b < w6.heap.size := by omega
              have hwj : IntKind.i64.wrap ((i : Int) + 2) = (i : Int) + 2 := IntWalk.i64_in _ (by omega)
              have hl0 : (0 : Int) ≤ (i : Int) + 2 := by omega
              have hl1 : (i : Int) + 2 ≤ (i : Int) + ((sN : Int) + 2) := by omega
              have hl2 : (i : Int) + ((sN : Int) + 2) ≤ (c : Int) := by omega
              have hl3 : ¬ (c : Int) < (i : Int) + ((sN : Int) + 2) := by omega
              have hl4 : ¬ (i : Int) + ((sN : Int) + 2) < (i : Int) + 2 := by omega
              have hl5 : ((i : Int) + 2).toNat = i + 2 := by omega
              have hl6 : ((i : Int) + ((sN : Int) + 2)).toNat = i + (sN + 2) := by omega
              have hl7 : i + (sN + 2) - (i + 2) = sN := by omega
              obtain ⟨ad, hif, hsrc⟩ : ∃ ad, (if c = i + 2 then some (⟨ab, ao, none⟩ : Addr) else some ⟨ab, ao + (i + 2), none⟩) = some ad ∧ Hid (Src w6 (some ad) sN (fun k => f (i + 2 + k))) := by
                by_cases hc2 : c = i + 2
                · exact ⟨_, by rw [if_pos hc2], Lib.hid (.inl (by omega))⟩
                · exact ⟨_, by rw [if_neg hc2], Lib.hid (src_sub SA6.out (by omega))⟩
              obtain ⟨j0, hj, hj0, hj1, hj2⟩ := info_parts Tryz.info102
              have hv4 : Hid (∀ k, Value.ownBlock u4 = some k → k < w6.heap.size) := Lib.hid (fun k hk => ownBlock_lt OW6.out hk)
              have hv5 : Hid (∀ k, Value.ownBlock u4 = some k → w.heap.size ≤ k) := Lib.hid (fun k hk => ownBlock_ge OW6.out hk)
              go_region_law (first | (go_simp; go_at_call 74; refine (l1Ints_all ad sN _ (fun k => f (i + 2 + k)) _ hsrc.out.drew (by omega)).mono ?_; rintro e w8 ⟨g, cap, rfl, hg1, hg2, hcl, hb, hca1, hca2⟩; have hg3 : w6.heap.size ≤ g := (by simpa using hg1); have HB8 := Lib.hid (thru0 (Below.refl w6.heap.size w6).drew hb); have z8 : w6.heap.size ≤ w8.heap.size := (by have := hb.size; simpa using this); have OW8 := Lib.hid (ownsRow_below OW6.out HB8.out); have HC8 := Lib.hid hcl; have T8 := Lib.hid (T6.out.below HB8.out); have dT0 := T8.out.at 0 rfl; have dT1 := T8.out.at 1 rfl; have dT2 := T8.out.at 2 rfl; have dT3 := T8.out.at 3 rfl; clear hb hcl hg1) | (refine step_append_lies _ rfl (.tmp 58) (.tmp 71) 78 rfl w.heap.size 102 j0 _ 6 64 Tryz.underlying78 hj hj0 hj1 hj2 rfl (by decide) u4 M.length (rowCells M) rfl (ownsRow_below OW8.out ((Below.refl _ _).alloc (Nat.le_refl _) _)) ⟨w8.heap.size, 0, none⟩ 1 1 [.int .i64 (i : Int), .int .i64 (sN : Int), .int .i64 (f i / 32 % 4096), .int .i64 (f i / 131072), .int .i64 (f (i + 1)), .slice (some ⟨g, 0, none⟩) sN cap] rfl rfl (fun j u hu => (by have := (Blk.new_at (w := w8) (cs := #[.int .i64 (i : Int), .int .i64 (sN : Int), .int .i64 (f i / 32 % 4096), .int .i64 (f i / 131072), .int .i64 (f (i + 1)), .slice (some ⟨g, 0, none⟩) sN cap]) (t := 102) (w8.heap.size) rfl).at j hu; rcases j with _ | j <;> simpa [Addr.add] using this)) (by intro u hu; simp only [List.mem_cons, List.mem_nil_iff, or_false] at hu; rcases hu with rfl | rfl | rfl | rfl | rfl | rfl <;> rfl) (by omega) (by unfold maxLen; omega) (by omega) (by simp; omega) (w8.heap.size + 1) (by simp) ?_; intro g2 cap2 w9 hown hgrow hat hlt9))
              all_goals have HB9 : Hid (Below w.heap.size w w9) := ((HB7.out.trans (HB8.out.mono hz7)).alloc (by omega) _).grown hgrow (by simp; omega) (fun k hk => hv5.out k hk)
              all_goals have z9 : w.heap.size + 1 ≤ w9.heap.size := by have := hgrow.size; simp at this; omega
              all_goals have heq : OM.cells ⟨objAt f i, g, cap⟩ = [.int .i64 (i : Int), .int .i64 (sN : Int), .int .i64 (f i / 32 % 4096), .int .i64 (f i / 131072), .int .i64 (f (i + 1)), .slice (some ⟨g, 0, none⟩) sN cap] := by simp [OM.cells, objAt, hS]
              all_goals have OW9 : Hid (w9.ownsRow w.heap.size 102 6 (.slice (some ⟨g2, 0, none⟩) (M.length + 1) cap2) (M ++ [(⟨objAt f i, g, cap⟩ : OM)]).length (rowCells (M ++ [(⟨objAt f i, g, cap⟩ : OM)]))) := Lib.hid (by have e : (M ++ [(⟨objAt f i, g, cap⟩ : OM)]).length = M.length + 1 := (by simp); rw [e, rowCells_snoc, heq]; exact hown)
              all_goals have FL9 : Hid (Flds w9 w.heap.size f (.slice (some ⟨g2, 0, none⟩) (M.length + 1) cap2) (M ++ [(⟨objAt f i, g, cap⟩ : OM)])) := Lib.hid (flds_append (objAt f i) g cap FL6.out (HB8.out.alloc HB8.out.size _) hgrow (by simpa using hat) hg3 (by simp; omega) hz7 hv4.out (fun k hk => by have hk' : k < sN := (by have : (objAt f i).s.toNat = sN := (by simp [objAt, hS]); omega); have hal := (Below.refl w8.heap.size w8).alloc (Nat.le_refl _) (.cells #[.int .i64 (i : Int), .int .i64 (sN : Int), .int .i64 (f i / 32 % 4096), .int .i64 (f i / 131072), .int .i64 (f (i + 1)), .slice (some ⟨g, 0, none⟩) sN cap] 102); exact ⟨(hal.cell (p := ⟨g, k, none⟩) hg2).trans (HC8.out k hk').1, (hal.frozen (p := ⟨g, k, none⟩) hg2).trans (HC8.out k hk').2⟩))
              all_goals have HPA9 : Hid (parse f (P + U) P = (parse f (P + U) (i + 2 + sN)).map ((M ++ [(⟨objAt f i, g, cap⟩ : OM)]).map OM.x ++ ·)) := Lib.hid (by have hg := parse_step HPA.out hlt ⟨by omega, hro, by rw [hsz]; omega⟩; rw [hsz] at hg; rw [List.map_append]; exact hg)
              all_goals clear hown hgrow hat HB8 OW8 HC8 T8 BA6 SA6 OW6 FL6 hsrc hv4 hv5 hif HPA FL_r OW_r
              all_goals go_wp2
              all_goals go_roundw
              all_goals first | exact ⟨i + 2 + sN, M ++ [⟨objAt f i, g, cap⟩], by omega, by congr 1; omega, HB9, z9, OW9, FL9, HPA9, by simp; omega⟩ | ((repeat apply Exists.intro); exact ⟨⟨i + 2 + sN, M ++ [⟨objAt f i, g, cap⟩], by omega, by congr 1; omega, HB9, z9, OW9, FL9, HPA9, by simp; omega⟩, rfl⟩) | (simp [intOf]; omega)
            · have hft : (P : Int) + (U : Int) < (i : Int) + ((sN : Int) + 2) := by omega
              have HPN : Hid (parse f (P + U) P = none) := Lib.hid (by rw [HPA.out, parse_bad hlt (fun hg => hfit (by have := hg.2.2; rw [hsz] at this; exact this))]; rfl)
              have HB7 := Lib.hid (HB_r.out.trans (HB6.out.mono hzr))
              go_wp2_with fail
              refine (l2Words_any _ (sN : Int) _ _ _ _ T6.out ⟨by omega, by omega⟩).mono ?_
              rintro e w' ⟨rfl, rfl⟩
              go_wp2
              exact bodyPost_ret (v := .tuple #[.slice none 0 0, .bool false]) (by simp [results, Tryz.results38, go_sem]) rfl ⟨HB7.out, .inl ⟨HPN.out, rfl⟩⟩
          · refine then_named (fun w6 => Hid (Below wr.heap.size wr w6) ∧ Hid (Blk w6 (wr.heap.size) [.int .i64 (f i / 2 % 16), .int .i64 (f i / 32 % 4096), .int .i64 (f i / 131072), .int .i64 (f (i + 1))])) ⟨((((HB5.out.setCell (by (try simp); (try omega)) _).setCell (by (try simp); (try omega)) _).setCell (by (try simp); (try omega)) _).setCell (by (try simp); (try omega)) _), ((((T5.out.set 0 (by simp) _).set 1 (by simp) _).set 2 (by simp) _).set 3 (by simp) _)⟩ (fun w6 hF => ?_)
            obtain ⟨HB6, T6⟩ := hF
            clear HB5 SA_5 BA_5 SA_d BA_d T5 lT cT0 fT0 cT1 fT1 cT2 fT2 cT3 fT3
            rw [hS] at T6
            have z6 := HB6.out.size
            have lT6 := T6.out.1
            by_cases hfit : i + 2 + sN ≤ P + U
            · have hft : ¬ (P : Int) + (U : Int) < (i : Int) + ((sN : Int) + 2) := by omega
              go_wp2_with fail
              refine (l2Words_any _ (sN : Int) _ _ _ _ T6.out ⟨by omega, by omega⟩).mono ?_
              rintro e w' ⟨rfl, rfl⟩
              go_wp2_with fail
              refine (l2Words_any _ (sN : Int) _ _ _ _ T6.out ⟨by omega, by omega⟩).mono ?_
              rintro e w' ⟨rfl, rfl⟩
              go_wp2_with fail
              have BA6 := Lib.hid (BA_r.out.below HB6.out)
              have SA6 := Lib.hid (SA_r.out.below HB6.out)
              have OW6 := Lib.hid (ownsRow_below OW_r.out HB6.out)
              have FL6 := Lib.hid (FL_r.out.below HB6.out)
              have HB7 := Lib.hid (HB_r.out.trans (HB6.out.mono hzr))
              have hz7 := HB7.out.size
              have cB1 := BA6.out.at 1 rfl
              have cT0 := T6.out.at 0 rfl; have cT1 := T6.out.at 1 rfl; have cT2 := T6.out.at 2 rfl; have cT3 := T6.out.at 3 rfl
              have lb6 : b < w6.heap.size := by omega
              have hwj : IntKind.i64.wrap ((i : Int) + 2) = (i : Int) + 2 := IntWalk.i64_in _ (by omega)
              have hl0 : (0 : Int) ≤ (i : Int) + 2 := by omega
              have hl1 : (i : Int) + 2 ≤ (i : Int) + ((sN : Int) + 2) := by omega
              have hl2 : (i : Int) + ((sN : Int) + 2) ≤ (c : Int) := by omega
              have hl3 : ¬ (c : Int) < (i : Int) + ((sN : Int) + 2) := by omega
              have hl4 : ¬ (i : Int) + ((sN : Int) + 2) < (i : Int) + 2 := by omega
              have hl5 : ((i : Int) + 2).toNat = i + 2 := by omega
              have hl6 : ((i : Int) + ((sN : Int) + 2)).toNat = i + (sN + 2) := by omega
              have hl7 : i + (sN + 2) - (i + 2) = sN := by omega
              obtain ⟨ad, hif, hsrc⟩ : ∃ ad, (if c = i + 2 then some (⟨ab, ao, none⟩ : Addr) else some ⟨ab, ao + (i + 2), none⟩) = some ad ∧ Hid (Src w6 (some ad) sN (fun k => f (i + 2 + k))) := by
                by_cases hc2 : c = i + 2
                · exact ⟨_, by rw [if_pos hc2], Lib.hid (.inl (by omega))⟩
                · exact ⟨_, by rw [if_neg hc2], Lib.hid (src_sub SA6.out (by omega))⟩
              obtain ⟨j0, hj, hj0, hj1, hj2⟩ := info_parts Tryz.info102
              have hv4 : Hid (∀ k, Value.ownBlock u4 = some k → k < w6.heap.size) := Lib.hid (fun k hk => ownBlock_lt OW6.out hk)
              have hv5 : Hid (∀ k, Value.ownBlock u4 = some k → w.heap.size ≤ k) := Lib.hid (fun k hk => ownBlock_ge OW6.out hk)
              go_region_law (first | (go_simp; go_at_call 74; refine (l1Ints_all ad sN _ (fun k => f (i + 2 + k)) _ hsrc.out.drew (by omega)).mono ?_; rintro e w8 ⟨g, cap, rfl, hg1, hg2, hcl, hb, hca1, hca2⟩; have hg3 : w6.heap.size ≤ g := (by simpa using hg1); have HB8 := Lib.hid (thru0 (Below.refl w6.heap.size w6).drew hb); have z8 : w6.heap.size ≤ w8.heap.size := (by have := hb.size; simpa using this); have OW8 := Lib.hid (ownsRow_below OW6.out HB8.out); have HC8 := Lib.hid hcl; have T8 := Lib.hid (T6.out.below HB8.out); have dT0 := T8.out.at 0 rfl; have dT1 := T8.out.at 1 rfl; have dT2 := T8.out.at 2 rfl; have dT3 := T8.out.at 3 rfl; clear hb hcl hg1) | (refine step_append_lies _ rfl (.tmp 58) (.tmp 71) 78 rfl w.heap.size 102 j0 _ 6 64 Tryz.underlying78 hj hj0 hj1 hj2 rfl (by decide) u4 M.length (rowCells M) rfl (ownsRow_below OW8.out ((Below.refl _ _).alloc (Nat.le_refl _) _)) ⟨w8.heap.size, 0, none⟩ 1 1 [.int .i64 (i : Int), .int .i64 (sN : Int), .int .i64 (f i / 32 % 4096), .int .i64 (f i / 131072), .int .i64 (f (i + 1)), .slice (some ⟨g, 0, none⟩) sN cap] rfl rfl (fun j u hu => (by have := (Blk.new_at (w := w8) (cs := #[.int .i64 (i : Int), .int .i64 (sN : Int), .int .i64 (f i / 32 % 4096), .int .i64 (f i / 131072), .int .i64 (f (i + 1)), .slice (some ⟨g, 0, none⟩) sN cap]) (t := 102) (w8.heap.size) rfl).at j hu; rcases j with _ | j <;> simpa [Addr.add] using this)) (by intro u hu; simp only [List.mem_cons, List.mem_nil_iff, or_false] at hu; rcases hu with rfl | rfl | rfl | rfl | rfl | rfl <;> rfl) (by omega) (by unfold maxLen; omega) (by omega) (by simp; omega) (w8.heap.size + 1) (by simp) ?_; intro g2 cap2 w9 hown hgrow hat hlt9))
              all_goals have HB9 : Hid (Below w.heap.size w w9) := ((HB7.out.trans (HB8.out.mono hz7)).alloc (by omega) _).grown hgrow (by simp; omega) (fun k hk => hv5.out k hk)
              all_goals have z9 : w.heap.size + 1 ≤ w9.heap.size := by have := hgrow.size; simp at this; omega
              all_goals have heq : OM.cells ⟨objAt f i, g, cap⟩ = [.int .i64 (i : Int), .int .i64 (sN : Int), .int .i64 (f i / 32 % 4096), .int .i64 (f i / 131072), .int .i64 (f (i + 1)), .slice (some ⟨g, 0, none⟩) sN cap] := by simp [OM.cells, objAt, hS]
              all_goals have OW9 : Hid (w9.ownsRow w.heap.size 102 6 (.slice (some ⟨g2, 0, none⟩) (M.length + 1) cap2) (M ++ [(⟨objAt f i, g, cap⟩ : OM)]).length (rowCells (M ++ [(⟨objAt f i, g, cap⟩ : OM)]))) := Lib.hid (by have e : (M ++ [(⟨objAt f i, g, cap⟩ : OM)]).length = M.length + 1 := (by simp); rw [e, rowCells_snoc, heq]; exact hown)
              all_goals have FL9 : Hid (Flds w9 w.heap.size f (.slice (some ⟨g2, 0, none⟩) (M.length + 1) cap2) (M ++ [(⟨objAt f i, g, cap⟩ : OM)])) := Lib.hid (flds_append (objAt f i) g cap FL6.out (HB8.out.alloc HB8.out.size _) hgrow (by simpa using hat) hg3 (by simp; omega) hz7 hv4.out (fun k hk => by have hk' : k < sN := (by have : (objAt f i).s.toNat = sN := (by simp [objAt, hS]); omega); have hal := (Below.refl w8.heap.size w8).alloc (Nat.le_refl _) (.cells #[.int .i64 (i : Int), .int .i64 (sN : Int), .int .i64 (f i / 32 % 4096), .int .i64 (f i / 131072), .int .i64 (f (i + 1)), .slice (some ⟨g, 0, none⟩) sN cap] 102); exact ⟨(hal.cell (p := ⟨g, k, none⟩) hg2).trans (HC8.out k hk').1, (hal.frozen (p := ⟨g, k, none⟩) hg2).trans (HC8.out k hk').2⟩))
              all_goals have HPA9 : Hid (parse f (P + U) P = (parse f (P + U) (i + 2 + sN)).map ((M ++ [(⟨objAt f i, g, cap⟩ : OM)]).map OM.x ++ ·)) := Lib.hid (by have hg := parse_step HPA.out hlt ⟨by omega, hro, by rw [hsz]; omega⟩; rw [hsz] at hg; rw [List.map_append]; exact hg)
              all_goals clear hown hgrow hat HB8 OW8 HC8 T8 BA6 SA6 OW6 FL6 hsrc hv4 hv5 hif HPA FL_r OW_r
              all_goals go_wp2
              all_goals go_roundw
              all_goals first | exact ⟨i + 2 + sN, M ++ [⟨objAt f i, g, cap⟩], by omega, by congr 1; omega, HB9, z9, OW9, FL9, HPA9, by simp; omega⟩ | ((repeat apply Exists.intro); exact ⟨⟨i + 2 + sN, M ++ [⟨objAt f i, g, cap⟩], by omega, by congr 1; omega, HB9, z9, OW9, FL9, HPA9, by simp; omega⟩, rfl⟩) | (simp [intOf]; omega)
            · have hft : (P : Int) + (U : Int) < (i : Int) + ((sN : Int) + 2) := by omega
              have HPN : Hid (parse f (P + U) P = none) := Lib.hid (by rw [HPA.out, parse_bad hlt (fun hg => hfit (by have := hg.2.2; rw [hsz] at this; exact this))]; rfl)
              have HB7 := Lib.hid (HB_r.out.trans (HB6.out.mono hzr))
              go_wp2_with fail
              refine (l2Words_any _ (sN : Int) _ _ _ _ T6.out ⟨by omega, by omega⟩).mono ?_
              rintro e w' ⟨rfl, rfl⟩
              go_wp2
              exact bodyPost_ret (v := .tuple #[.slice none 0 0, .bool false]) (by simp [results, Tryz.results38, go_sem]) rfl ⟨HB7.out, .inl ⟨HPN.out, rfl⟩⟩
        · have HRO := Lib.hid hro
          have hpn0 : Hid (parse f (P + U) P = none) := Lib.hid (by rw [HPA.out, parse_bad hlt (fun hg => hro hg.2.1)]; rfl)
          go_region_held3 (fun w' => w'.cell? ⟨b, 1, none⟩ = some (.slice (some ⟨ab, ao, none⟩) n c) ∧ w'.cell? ⟨ab, ao + i, none⟩ = some (.int .i64 (f i)) ∧ w'.cell? ⟨ab, ao + (i + 1), none⟩ = some (.int .i64 (f (i + 1))))
            (first | (with_reducible exact ⟨(BA_r.out).at 1 rfl, src_w0 (SA_r.out) i (by omega), src_w1 (SA_r.out) i (by omega)⟩) | (with_reducible exact ⟨(BA_d.out).at 1 rfl, src_w0 (SA_d.out) i (by omega), src_w1 (SA_d.out) i (by omega)⟩) | (with_reducible exact ⟨((BA_r.out.alloc _).drew).at 1 rfl, src_w0 ((SA_r.out.alloc _).drew) i (by omega), src_w1 ((SA_r.out.alloc _).drew) i (by omega)⟩) | (with_reducible exact ⟨(BA_5.out).at 1 rfl, src_w0 (SA_5.out) i (by omega), src_w1 (SA_5.out) i (by omega)⟩) | (with_reducible exact ⟨(BA_5.out.alloc _).at 1 rfl, src_w0 (SA_5.out.alloc _) i (by omega), src_w1 (SA_5.out.alloc _) i (by omega)⟩) | (exact ⟨(((((BA_5.out.other (by (try simp); (try omega)) _).other (by (try simp); (try omega)) _).other (by (try simp); (try omega)) _).other (by (try simp); (try omega)) _)).at 1 rfl, src_w0 (src_other (src_other (src_other (src_other SA_5.out (by (try simp); (try omega)) _) (by (try simp); (try omega)) _) (by (try simp); (try omega)) _) (by (try simp); (try omega)) _) i (by omega), src_w1 (src_other (src_other (src_other (src_other SA_5.out (by (try simp); (try omega)) _) (by (try simp); (try omega)) _) (by (try simp); (try omega)) _) (by (try simp); (try omega)) _) i (by omega)⟩))
            (first | (go_at_call 72; refine (l2Read_no (f i) (f (i + 1)) _ HFi.out HRO.out).mono ?_; rintro e w5 ⟨s1, m1, o1, h5, rfl, hb, hv⟩; clear hv; have HB5 := Lib.hid (thru0 (below_ext (Below.refl wr.heap.size wr).drew (by first | exact .inl rfl | exact ext_drew _ _ | exact .inr ⟨_, rfl⟩)) hb); have SA_5 := Lib.hid ((SA_d.out.ext (by first | exact .inl rfl | exact ext_drew _ _ | exact .inr ⟨_, rfl⟩)).below hb); have BA_5 := Lib.hid ((BA_d.out.ext (by first | exact .inl rfl | exact ext_drew _ _ | exact .inr ⟨_, rfl⟩)).below hb); have z5 : wr.heap.size ≤ w5.heap.size := (by have := hb.size; simp at this; omega); (first | (have T5 := Lib.hid ((Blk.new_at (w := wr) (cs := #[.int .i64 0, .int .i64 0, .int .i64 0, .int .i64 0]) (t := 100) (wr.heap.size) rfl).drew.below hb)) | skip); clear hb; (first | (have lT := T5.out.1; have cT0 := T5.out.at 0 rfl; have fT0 := T5.out.free 0 rfl; have cT1 := T5.out.at 1 rfl; have fT1 := T5.out.free 1 rfl; have cT2 := T5.out.at 2 rfl; have fT2 := T5.out.free 2 rfl; have cT3 := T5.out.at 3 rfl; have fT3 := T5.out.free 3 rfl) | skip)))
          · refine then_named (fun w6 => Hid (Below wr.heap.size wr w6) ∧ Hid (Blk w6 (w5.heap.size) [.int .i64 s1, .int .i64 m1, .int .i64 o1, .int .i64 h5])) ⟨HB5.out.alloc HB5.out.size _, Blk.new_at _ rfl⟩ (fun w6 hF => ?_)
            obtain ⟨HB6, T6⟩ := hF
            clear HB5 SA_5 BA_5 SA_d BA_d
            have hpn := hpn0.out
            have HB7 := Lib.hid (HB_r.out.trans (HB6.out.mono hzr))
            have HPN := Lib.hid hpn
            clear hpn
            go_wp2
            exact bodyPost_ret (v := .tuple #[.slice none 0 0, .bool false]) (by simp [results, Tryz.results38, go_sem]) rfl ⟨HB7.out, .inl ⟨HPN.out, rfl⟩⟩
          · refine then_named (fun w6 => Hid (Below wr.heap.size wr w6) ∧ Hid (Blk w6 (wr.heap.size) [.int .i64 s1, .int .i64 m1, .int .i64 o1, .int .i64 h5])) ⟨((((HB5.out.setCell (by (try simp); (try omega)) _).setCell (by (try simp); (try omega)) _).setCell (by (try simp); (try omega)) _).setCell (by (try simp); (try omega)) _), ((((T5.out.set 0 (by simp) _).set 1 (by simp) _).set 2 (by simp) _).set 3 (by simp) _)⟩ (fun w6 hF => ?_)
            obtain ⟨HB6, T6⟩ := hF
            clear HB5 SA_5 BA_5 SA_d BA_d T5 lT cT0 fT0 cT1 fT1 cT2 fT2 cT3 fT3
            have hpn := hpn0.out
            have HB7 := Lib.hid (HB_r.out.trans (HB6.out.mono hzr))
            have HPN := Lib.hid hpn
            clear hpn
            go_wp2
            exact bodyPost_ret (v := .tuple #[.slice none 0 0, .bool false]) (by simp [results, Tryz.results38, go_sem]) rfl ⟨HB7.out, .inl ⟨HPN.out, rfl⟩⟩
      · have h2e' : ((P + U : Nat) : Int) < (i : Int) + 2 := by omega
        have hpn : Hid (parse f (P + U) P = none) := Lib.hid (by rw [HPA.out, parse_bad hlt (fun hg => h2e (by have := hg.1; omega))]; rfl)
        go_wp2
        exact bodyPost_ret (v := .tuple #[.slice none 0 0, .bool false]) (by simp [results, Tryz.results38, go_sem]) rfl ⟨HB_r.out, .inl ⟨hpn.out, rfl⟩⟩
    · have hlt' : ¬ (i : Int) < ((P + U : Nat) : Int) := by omega
      have hpn : Hid (parse f (P + U) P = some (M.map OM.x)) := Lib.hid (by rw [HPA.out, parse_stop hlt]; simp)
      go_wp2
      exact bodyPost_ret (v := .tuple #[u4, .bool true]) (by simp [results, Tryz.results38, go_sem]) rfl ⟨HB_r.out, .inr ⟨_, M, hpn.out, rfl, OW_r.out, FL_r.out⟩⟩
end Go.Proofs.YtnpklnpicelcmaaGreat

namespace Go.Proofs.YtnpklnpicelcmaaGreat
open Go.RowKit
set_option linter.unusedVariables false

theorem rowCells_get : ∀ (M : List OM) (i : Nat) (t : OM), M[i]? = some t → ∀ j, j < 6 → (rowCells M)[i * 6 + j]? = t.cells[j]?
  | [], i, t, h, j, hj => by simp at h
  | u :: M, 0, t, h, j, hj => by
    simp only [List.getElem?_cons_zero, Option.some.injEq] at h
    subst h
    simp only [rowCells, List.flatMap_cons, Nat.zero_mul, Nat.zero_add]
    rw [List.getElem?_append_left (by simp [OM.cells]; omega)]
  | u :: M, i + 1, t, h, j, hj => by
    have ih := rowCells_get M i t (by simpa using h) j hj
    simp only [rowCells, List.flatMap_cons] at ih ⊢
    rw [List.getElem?_append_right (by simp [OM.cells]; omega)]
    have e : (i + 1) * 6 + j - u.cells.length = i * 6 + j := by simp [OM.cells]; omega
    rw [e]; exact ih

/-- What a row of objects holds at a place. -/
def ObAt (w : World) (gb i : Nat) (t : OM) : Prop := ∀ j u, t.cells[j]? = some u → w.cell? ⟨gb, i * 6 + j, none⟩ = some u

theorem row_form {w : World} {base : Nat} {v : Value} {M : List OM} (h : w.ownsRow base 102 6 v M.length (rowCells M)) (h0 : 0 < M.length) :
    ∃ gb cap, v = .slice (some ⟨gb, 0, none⟩) M.length cap ∧ base ≤ gb ∧ gb < w.heap.size ∧ ∀ i t, M[i]? = some t → ObAt w gb i t := by
  obtain ⟨gb, cap, rfl, hb, hlt⟩ := h.form h0
  refine ⟨gb, cap, rfl, hb, hlt, fun i t ht j u hu => ?_⟩
  have hi : i < M.length := (List.getElem?_eq_some_iff.mp ht).1
  have hj : j < 6 := by
    have := (List.getElem?_eq_some_iff.mp hu).1
    simpa [OM.cells] using this
  have hc := h.cellAt (i * 6 + j) (by omega)
  rw [rowCells_get M i t ht j hj, hu] at hc
  simpa using hc

theorem row_nil {w : World} {base : Nat} {v : Value} {M : List OM} (h : w.ownsRow base 102 6 v M.length (rowCells M)) : ∃ a cap, v = .slice a M.length cap := by
  rcases h.2 with ⟨h1, h2⟩ | ⟨g, cap, cur, h1, _⟩
  · exact ⟨none, 0, by rw [h1, h2]⟩
  · exact ⟨_, cap, h1⟩

/-- The fields of an object in memory. -/
theorem Flds.src {w : World} {lo : Nat} {f : Nat → Int} {v : Value} {M : List OM} (h : Flds w lo f v M) {t : OM} (ht : t ∈ M) : Src w (some ⟨t.g, 0, none⟩) t.x.s.toNat (fun k => f (t.x.at_.toNat + 2 + k)) := by
  obtain ⟨_, a2, _, a4⟩ := h.1 t ht
  exact .inr ⟨t.g, 0, rfl, a2, fun k hk => by rw [Nat.zero_add]; exact (a4 k hk).1⟩

theorem ObAt.below {w w' : World} {gb i : Nat} {t : OM} (h : ObAt w gb i t) (hb : Below w.heap.size w w') (hg : gb < w.heap.size) : ObAt w' gb i t := fun j u hu => (hb.cell (p := ⟨gb, i * 6 + j, none⟩) hg).trans (h j u hu)

/-- The six cells of an object, written out. -/
def Six (w : World) (gb o : Nat) (x : Ob) (g c : Nat) : Prop := w.cell? ⟨gb, o, none⟩ = some (.int .i64 x.at_) ∧ w.cell? ⟨gb, o + 1, none⟩ = some (.int .i64 x.s) ∧ w.cell? ⟨gb, o + 2, none⟩ = some (.int .i64 x.m) ∧ w.cell? ⟨gb, o + 3, none⟩ = some (.int .i64 x.o) ∧ w.cell? ⟨gb, o + 4, none⟩ = some (.int .i64 x.h) ∧ w.cell? ⟨gb, o + 5, none⟩ = some (.slice (some ⟨g, 0, none⟩) x.s.toNat c)

theorem ObAt.six {w : World} {gb i : Nat} {t : OM} (h : ObAt w gb i t) : Six w gb (i * 6) t.x t.g t.c :=
  ⟨h 0 _ rfl, h 1 _ rfl, h 2 _ rfl, h 3 _ rfl, h 4 _ rfl, h 5 _ rfl⟩

theorem Six.below {w w' : World} {gb o : Nat} {x : Ob} {g c : Nat} (h : Six w gb o x g c) (hb : Below w.heap.size w w') (hg : gb < w.heap.size) : Six w' gb o x g c :=
  ⟨(hb.cell (p := ⟨gb, o, none⟩) hg).trans h.1, (hb.cell (p := ⟨gb, o + 1, none⟩) hg).trans h.2.1, (hb.cell (p := ⟨gb, o + 2, none⟩) hg).trans h.2.2.1, (hb.cell (p := ⟨gb, o + 3, none⟩) hg).trans h.2.2.2.1, (hb.cell (p := ⟨gb, o + 4, none⟩) hg).trans h.2.2.2.2.1, (hb.cell (p := ⟨gb, o + 5, none⟩) hg).trans h.2.2.2.2.2⟩
end Go.Proofs.YtnpklnpicelcmaaGreat

namespace Go.Proofs.YtnpklnpicelcmaaGreat
open Go.RowKit
set_option linter.unusedVariables false

/-- A code and objects come back, in memory of the call's own. -/
def RetOR (W : World) (f : Nat → Int) (co : Int) (L : List Ob) (e : Ending) (w' : World) : Prop :=
  ∃ v M, e = .returned (.agg #[.int .i64 co, v]) ∧ M.map OM.x = L ∧ w'.ownsRow W.heap.size 102 6 v M.length (rowCells M) ∧ Flds w' W.heap.size f v M ∧ Below W.heap.size W w'

/-- What ObjectsIn answers. -/
def IsOI (h : Int) (n : Nat) (f : Nat → Int) (ac bu co : Int) (L : List Ob) : Prop :=
  (∃ k, IsFault h n f ac bu k ∧ ¬ k = 0 ∧ co = k ∧ L = []) ∨
  (IsFault h n f ac bu 0 ∧ parse f ((baseI ac h).toNat + bu.toNat) (baseI ac h).toNat = none ∧ co = 1 ∧ L = []) ∨
  (IsFault h n f ac bu 0 ∧ parse f ((baseI ac h).toNat + bu.toNat) (baseI ac h).toNat = some L ∧ co = 0)

theorem isOI_some (h : Int) (n : Nat) (f : Nat → Int) (ac bu : Int) : ∃ co L, IsOI h n f ac bu co L := by
  obtain ⟨k, hk⟩ := isFault_some h n f ac bu
  by_cases h0 : k = 0
  · subst h0
    cases hp : parse f ((baseI ac h).toNat + bu.toNat) (baseI ac h).toNat with
    | none => exact ⟨1, [], .inr (.inl ⟨hk, hp, rfl, rfl⟩)⟩
    | some L => exact ⟨0, L, .inr (.inr ⟨hk, hp, rfl⟩)⟩
  · exact ⟨k, [], .inl ⟨k, hk, h0, rfl, rfl⟩⟩

theorem ownsRow_mono {w : World} {base base' e size n : Nat} {v : Value} {xs : List Value} (h : w.ownsRow base e size v n xs) (hb : base' ≤ base) : w.ownsRow base' e size v n xs := by
  refine ⟨h.1, ?_⟩
  rcases h.2 with h0 | ⟨g, cap, cur, h1, h2, h3⟩
  · exact .inl h0
  · exact .inr ⟨g, cap, cur, h1, by omega, h3⟩

theorem ownsRow_other {w : World} {base e size n : Nat} {v : Value} {xs : List Value} (h : w.ownsRow base e size v n xs) {p : Addr} (hp : p.block < base) (u : Value) : (w.setCell p u).ownsRow base e size v n xs := by
  refine ⟨h.1, ?_⟩
  rcases h.2 with h0 | ⟨g, cap, cur, h1, h2, h3, h4⟩
  · exact .inl h0
  · exact .inr ⟨g, cap, cur, h1, h2, (Below.heap_setCell w p u g (by omega)).trans h3, h4⟩

theorem Flds.mono {w : World} {lo lo' : Nat} {f : Nat → Int} {v : Value} {M : List OM} (h : Flds w lo f v M) (hl : lo' ≤ lo) : Flds w lo' f v M :=
  ⟨fun t ht => by obtain ⟨a1, a2⟩ := h.1 t ht; exact ⟨Nat.le_trans hl a1, a2⟩, h.2⟩

theorem Flds.other {w : World} {lo : Nat} {f : Nat → Int} {v : Value} {M : List OM} (h : Flds w lo f v M) {p : Addr} (hp : p.block < lo) (u : Value) : Flds (w.setCell p u) lo f v M :=
  ⟨fun t ht => by
    obtain ⟨a1, a2, a3, a4⟩ := h.1 t ht
    have e : (w.setCell p u).heap[t.g]? = w.heap[t.g]? := Below.heap_setCell w p u t.g (by omega)
    exact ⟨a1, by simpa using a2, a3, fun k hk => ⟨(World.cell?_of_block (w := w) (a := ⟨t.g, k, none⟩) e).trans (a4 k hk).1, (World.frozen?_of_block (w := w) (a := ⟨t.g, k, none⟩) e).trans (a4 k hk).2⟩⟩, h.2⟩

theorem flds_nil (w : World) (lo : Nat) (f : Nat → Int) (v : Value) : Flds w lo f v [] := ⟨fun t ht => (by cases ht), List.Pairwise.nil⟩

theorem retOR_err {W w' : World} {f : Nat → Int} {co : Int} (hb : Below W.heap.size W w') : RetOR W f co [] (.returned (.agg #[.int .i64 co, .slice none 0 0])) w' :=
  ⟨.slice none 0 0, [], rfl, rfl, ⟨rfl, .inl ⟨rfl, rfl⟩⟩, flds_nil _ _ _ _, hb⟩

/-- No object of an arena has more than twelve fields. -/
theorem parse_sizes {f : Nat → Int} {e : Nat} : ∀ (d a : Nat) (L : List Ob), e - a ≤ d → parse f e a = some L → ∀ x ∈ L, 0 ≤ x.s ∧ x.s ≤ 12
  | 0, a, L, hd, hp, x, hx => by
    rw [parse_stop (by omega)] at hp
    cases hp; cases hx
  | d + 1, a, L, hd, hp, x, hx => by
    by_cases h : a < e
    · by_cases hg : Good f e a
      · rw [parse_good h hg] at hp
        obtain ⟨L', hp', rfl⟩ := Option.map_eq_some_iff.mp hp
        rcases List.mem_cons.mp hx with rfl | hx
        · have := good_size hg; exact ⟨this.1, this.2.1⟩
        · exact parse_sizes d _ L' (by omega) hp' x hx
      · rw [parse_bad h hg] at hp; cases hp
    · rw [parse_stop h] at hp
      cases hp; cases hx

theorem parse_length {f : Nat → Int} {e : Nat} : ∀ (d a : Nat) (L : List Ob), e - a ≤ d → parse f e a = some L → L.length ≤ e - a
  | 0, a, L, hd, hp => by
    rw [parse_stop (by omega)] at hp
    cases hp; simp
  | d + 1, a, L, hd, hp => by
    by_cases h : a < e
    · by_cases hg : Good f e a
      · rw [parse_good h hg] at hp
        obtain ⟨L', hp', rfl⟩ := Option.map_eq_some_iff.mp hp
        have ih := parse_length d _ L' (by omega) hp'
        simp only [List.length_cons]; omega
      · rw [parse_bad h hg] at hp; cases hp
    · rw [parse_stop h] at hp
      cases hp; simp

set_option maxHeartbeats 800000 in
theorem specOI_fault (h ac bu : Int) (a : Option Addr) (n c : Nat) (f : Nat → Int) (k : Int) (w : World) (hs : Src w a n f) (hcn : n ≤ c) (hcm : c ≤ maxLen) (hk : IsFault h n f ac bu k) (h0 : ¬ k = 0) :
    Calls Tryz.prog 69 #[.agg #[.int .i64 h, .slice a n c, .int .i64 ac, .int .i64 bu]] w (RetOR w f k []) := by
  have hd : (k != 0) = true := by simpa using h0
  have HS := Lib.hid hs
  have HK := Lib.hid hk
  clear hs hk
  go_enter Tryz.func69, Tryz.ntmps69
  go_wp2_with fail
  refine (specFault_any _ _ _ _ _ _ f k _ ((HS.out.alloc _).alloc _) HK.out).mono ?_
  rintro e w1 ⟨rfl, hb⟩
  have HB1 : Hid (Below w.heap.size w w1) := thru2 (Below.refl _ _) hb
  have z1 : w.heap.size + 2 ≤ w1.heap.size := by have := hb.size; simp at this; omega
  have HS_1 := Lib.hid (((HS.out.alloc _).alloc _).below hb)
  have H_1 := Lib.hid (((Blk.new_at (w.heap.size) (by simp)).alloc _).below hb)
  have R_1 := Lib.hid ((Blk.new_at (w.heap.size + 1) (by simp)).below hb)
  clear hb HS
  have lR := R_1.out.1
  have cR0 := R_1.out.at 0 rfl
  have cR1 := R_1.out.at 1 rfl
  have fR0 := R_1.out.free 0 rfl
  have fR1 := R_1.out.free 1 rfl
  go_wp2
  have hz := HB1.out.size
  refine bodyPost_ret (v := .agg #[.int .i64 k, .slice none 0 0]) (by simp [results, Tryz.results69, go_sem, cR0, cR1]) rfl (retOR_err ?_)
  repeat (with_reducible refine Below.setCell ?_ (by (try simp); (try omega)) _)
  exact HB1.out

set_option maxHeartbeats 1600000 in
theorem specOI_none (h ac : Int) (P U : Nat) (ab ao n c : Nat) (f : Nat → Int) (L : List Ob) (w : World) (hs : Src w (some ⟨ab, ao, none⟩) n f) (hcn : n ≤ c) (hcm : c ≤ maxLen) (hk : IsFault h n f ac (U : Int) 0) (hP : baseI ac h = (P : Int)) (hp : parse f (P + U) P = none) :
    Calls Tryz.prog 69 #[.agg #[.int .i64 h, .slice (some ⟨ab, ao, none⟩) n c, .int .i64 ac, .int .i64 (U : Int)]] w (RetOR w f 1 []) := by
  obtain ⟨⟨⟨g1, g2⟩, ⟨g3, g4⟩, g5, g6⟩, gn, gw⟩ := isFault_ok hk
  have HWD : Hid (∀ i, i < n → f i ≤ 9223372036854775807) := Lib.hid (fun i hi => by have := gw i hi; unfold Word at this; omega)
  have hPU : P + U ≤ n := by rcases (by omega : ac = 0 ∨ ac = 1) with rfl | rfl <;> simp [baseI] at hP <;> omega
  have hn4 : n ≤ 400 := by omega
  clear gn gw
  have HS := Lib.hid hs
  have HK := Lib.hid hk
  have HPP := Lib.hid hp
  have HCM := Lib.hid hcm
  clear hs hk hp hcm
  go_enter Tryz.func69, Tryz.ntmps69
  go_wp2_with fail
  refine (specFault_any _ _ _ _ _ _ f 0 _ ((HS.out.alloc _).alloc _) HK.out).mono ?_
  rintro e w1 ⟨rfl, hb⟩
  have HB1 : Hid (Below w.heap.size w w1) := thru2 (Below.refl _ _) hb
  have z1 : w.heap.size + 2 ≤ w1.heap.size := by have := hb.size; simp at this; omega
  have HS_1 := Lib.hid (((HS.out.alloc _).alloc _).below hb)
  have H_1 := Lib.hid (((Blk.new_at (w.heap.size) (by simp)).alloc _).below hb)
  have R_1 := Lib.hid ((Blk.new_at (w.heap.size + 1) (by simp)).below hb)
  clear hb HS
  go_wp2_with fail
  refine (l3Objects_any (w.heap.size) P U h ac ab ao n c f _ H_1.out HS_1.out g1 g2 g3 g4 hP hPU hn4 hcn HCM.out HWD.out).mono ?_
  rintro e w2 ⟨hb, hr⟩
  rw [HPP.out] at hr
  have HB2 := Lib.hid (thru0 HB1.out hb)
  have R_2 := Lib.hid (R_1.out.below hb)
  have hz12 : w1.heap.size ≤ w2.heap.size := hb.size
  clear hb R_1 H_1 HS_1
  obtain ⟨_, rfl⟩ | ⟨v, M, hx, _⟩ := hr
  case inr => cases hx
  have cR0 := R_2.out.at 0 rfl; have cR1 := R_2.out.at 1 rfl; have fR0 := R_2.out.free 0 rfl; have fR1 := R_2.out.free 1 rfl; have lR := R_2.out.1
  go_wp2
  have hz := HB2.out.size
  refine bodyPost_ret (v := .agg #[.int .i64 1, .slice none 0 0]) (by simp [results, Tryz.results69, go_sem, cR0, cR1]) rfl (retOR_err ?_)
  repeat (with_reducible refine Below.setCell ?_ (by (try simp); (try omega)) _)
  exact HB2.out

set_option maxHeartbeats 1600000 in
theorem specOI_some (h ac : Int) (P U : Nat) (ab ao n c : Nat) (f : Nat → Int) (L : List Ob) (w : World) (hs : Src w (some ⟨ab, ao, none⟩) n f) (hcn : n ≤ c) (hcm : c ≤ maxLen) (hk : IsFault h n f ac (U : Int) 0) (hP : baseI ac h = (P : Int)) (hp : parse f (P + U) P = some L) :
    Calls Tryz.prog 69 #[.agg #[.int .i64 h, .slice (some ⟨ab, ao, none⟩) n c, .int .i64 ac, .int .i64 (U : Int)]] w (RetOR w f 0 L) := by
  obtain ⟨⟨⟨g1, g2⟩, ⟨g3, g4⟩, g5, g6⟩, gn, gw⟩ := isFault_ok hk
  have HWD : Hid (∀ i, i < n → f i ≤ 9223372036854775807) := Lib.hid (fun i hi => by have := gw i hi; unfold Word at this; omega)
  have hPU : P + U ≤ n := by rcases (by omega : ac = 0 ∨ ac = 1) with rfl | rfl <;> simp [baseI] at hP <;> omega
  have hn4 : n ≤ 400 := by omega
  clear gn gw
  have HS := Lib.hid hs
  have HK := Lib.hid hk
  have HPP := Lib.hid hp
  have HCM := Lib.hid hcm
  clear hs hk hp hcm
  go_enter Tryz.func69, Tryz.ntmps69
  go_wp2_with fail
  refine (specFault_any _ _ _ _ _ _ f 0 _ ((HS.out.alloc _).alloc _) HK.out).mono ?_
  rintro e w1 ⟨rfl, hb⟩
  have HB1 : Hid (Below w.heap.size w w1) := thru2 (Below.refl _ _) hb
  have z1 : w.heap.size + 2 ≤ w1.heap.size := by have := hb.size; simp at this; omega
  have HS_1 := Lib.hid (((HS.out.alloc _).alloc _).below hb)
  have H_1 := Lib.hid (((Blk.new_at (w.heap.size) (by simp)).alloc _).below hb)
  have R_1 := Lib.hid ((Blk.new_at (w.heap.size + 1) (by simp)).below hb)
  clear hb HS
  go_wp2_with fail
  refine (l3Objects_any (w.heap.size) P U h ac ab ao n c f _ H_1.out HS_1.out g1 g2 g3 g4 hP hPU hn4 hcn HCM.out HWD.out).mono ?_
  rintro e w2 ⟨hb, hr⟩
  rw [HPP.out] at hr
  have HB2 := Lib.hid (thru0 HB1.out hb)
  have R_2 := Lib.hid (R_1.out.below hb)
  have hz12 : w1.heap.size ≤ w2.heap.size := hb.size
  clear hb R_1 H_1 HS_1
  obtain ⟨hx, _⟩ | ⟨v, M, hx, rfl, hown, hfl⟩ := hr
  case inl => cases hx
  simp only [Option.some.injEq] at hx
  subst hx
  have OW2 := Lib.hid hown
  have FL2 := Lib.hid hfl
  clear hown hfl HPP
  obtain ⟨av, kv, hv⟩ := row_nil OW2.out
  have HV := Lib.hid hv
  clear hv
  have cR0 := R_2.out.at 0 rfl; have cR1 := R_2.out.at 1 rfl; have fR0 := R_2.out.free 0 rfl; have fR1 := R_2.out.free 1 rfl; have lR := R_2.out.1
  have hz := HB2.out.size
  have hv0 := HV.out
  generalize hm : M.length = mm at hv0
  subst hv0
  go_wp2
  refine bodyPost_ret (v := .agg #[.int .i64 0, .slice av mm kv]) (by simp [results, Tryz.results69, go_sem, cR0, cR1]) rfl ⟨.slice av mm kv, M, rfl, rfl, ?_, ?_, ?_⟩
  · refine ownsRow_mono (base := w1.heap.size) ?_ (by omega)
    repeat (with_reducible refine ownsRow_other ?_ (by (try simp); (try omega)) _)
    exact OW2.out
  · refine Flds.mono (lo := w1.heap.size) ?_ (by omega)
    repeat (with_reducible refine Flds.other ?_ (by (try simp); (try omega)) _)
    exact FL2.out
  · repeat (with_reducible refine Below.setCell ?_ (by (try simp); (try omega)) _)
    exact HB2.out

theorem specOI_any (h ac bu : Int) (a : Option Addr) (n c : Nat) (f : Nat → Int) (co : Int) (L : List Ob) (w : World) (hs : Src w a n f) (hcn : n ≤ c) (hcm : c ≤ maxLen) (hk : IsOI h n f ac bu co L) : Calls Tryz.prog 69 #[.agg #[.int .i64 h, .slice a n c, .int .i64 ac, .int .i64 bu]] w (RetOR w f co L) := by
  rcases hk with ⟨k, h1, h2, rfl, rfl⟩ | ⟨h1, h2, rfl, rfl⟩ | ⟨h1, h2, rfl⟩
  · exact specOI_fault h ac bu a n c f co w hs hcn hcm h1 h2
  · obtain ⟨⟨⟨g1, g2⟩, ⟨g3, g4⟩, g5, g6⟩, gn, gw⟩ := isFault_ok h1
    have hb := baseI_bd (ac := ac) g1
    obtain ⟨P, hP⟩ : ∃ P : Nat, baseI ac h = (P : Int) := ⟨(baseI ac h).toNat, by omega⟩
    obtain ⟨U, rfl⟩ : ∃ U : Nat, bu = (U : Int) := ⟨bu.toNat, by omega⟩
    obtain ⟨ab, ao, rfl, hab, hac⟩ := src_some hs (by omega)
    rw [hP, Int.toNat_natCast, Int.toNat_natCast] at h2
    exact specOI_none h ac P U ab ao n c f [] w hs hcn hcm h1 hP h2
  · obtain ⟨⟨⟨g1, g2⟩, ⟨g3, g4⟩, g5, g6⟩, gn, gw⟩ := isFault_ok h1
    have hb := baseI_bd (ac := ac) g1
    obtain ⟨P, hP⟩ : ∃ P : Nat, baseI ac h = (P : Int) := ⟨(baseI ac h).toNat, by omega⟩
    obtain ⟨U, rfl⟩ : ∃ U : Nat, bu = (U : Int) := ⟨bu.toNat, by omega⟩
    obtain ⟨ab, ao, rfl, hab, hac⟩ := src_some hs (by omega)
    rw [hP, Int.toNat_natCast, Int.toNat_natCast] at h2
    exact specOI_some h ac P U ab ao n c f L w hs hcn hcm h1 hP h2
end Go.Proofs.YtnpklnpicelcmaaGreat

namespace Go.Proofs.YtnpklnpicelcmaaGreat
open Go.RowKit
set_option linter.unusedVariables false

/-- The object at a place. -/
def findO (L : List Ob) (a : Int) : Option Ob := L.find? (fun x => x.at_ == a)

theorem findO_drop {L : List Ob} {a : Int} {i : Nat} {x : Ob} (hx : L[i]? = some x) : findO (L.drop i) a = if x.at_ == a then some x else findO (L.drop (i + 1)) a := by
  obtain ⟨hi, he⟩ := List.getElem?_eq_some_iff.mp hx
  rw [List.drop_eq_getElem_cons hi, he, findO, List.find?_cons]
  split <;> simp_all [findO]

/-- A pointer of an owner leads to an object of its own, or nowhere. -/
def leadsB (L : List Ob) (owner value : Int) : Bool := if value = 0 then true else match findO L (value - 1) with | some x => x.o == owner | none => false

def RetFind (W : World) (L : List Ob) (a : Int) (e : Ending) (w' : World) : Prop :=
  W = w' ∧ ((findO L a = none ∧ e = .returned (.int .i64 (-1))) ∨ ∃ (i : Nat) (x : Ob), findO L a = some x ∧ L[i]? = some x ∧ e = .returned (.int .i64 (i : Int)))

set_option maxRecDepth 100000 in
set_option maxHeartbeats 800000 in
theorem l3Find_any (v : Value) (M : List OM) (base : Nat) (a : Int) (w : World) (h : w.ownsRow base 102 6 v M.length (rowCells M)) (hl : M.length ≤ 400) :
    Calls Tryz.prog 82 #[v, .int .i64 a] w (RetFind w (M.map OM.x) a) := by
  have H := Lib.hid h
  obtain ⟨a1, k1, rfl⟩ := row_nil h
  clear h
  go_enter Tryz.func82, Tryz.ntmps82
  go_wp2
  go_loop [5] (fun p => ∃ i : Nat, i ≤ M.length ∧ p = .int .i64 (i : Int) ∧ Hid (findO (M.map OM.x) a = findO ((M.map OM.x).drop i) a)) (fun p => M.length - (intOf p).toNat)
  case atStart => exact ⟨0, Nat.zero_le _, rfl, Lib.hid (by simp)⟩
  case round =>
    obtain ⟨i, hi, rfl, HD⟩ := hrel
    by_cases hlt : i < M.length
    · have hlt' : (i : Int) < (M.length : Int) := by omega
      have hi0 : (0 : Int) ≤ (i : Int) := by omega
      obtain ⟨g1, c1, e1, _, l1, o1⟩ := row_form H.out (by omega)
      simp only [Value.slice.injEq] at e1
      obtain ⟨rfl, -, rfl⟩ := e1
      have ht := (o1 i M[i] (List.getElem?_eq_getElem hlt)).six
      have hx : (M.map OM.x)[i]? = some M[i].x := by simp [hlt]
      have hd := findO_drop (a := a) hx
      generalize M[i] = t at *
      have x0 := ht.1
      have HT := Lib.hid ht; have HX := Lib.hid hx; have HDD := Lib.hid hd
      clear o1 ht hx hd
      by_cases hat : t.x.at_ = a
      · have hb : (t.x.at_ == a) = true := by simpa using hat
        go_wp2
        go_ret
        exact ⟨rfl, .inr ⟨i, t.x, by rw [HD.out, HDD.out, if_pos hb], HX.out, rfl⟩⟩
      · have hb : (t.x.at_ == a) = false := by simpa using hat
        go_wp2
        go_round
        case rel => exact ⟨i + 1, by omega, by go_num, Lib.hid (by rw [HD.out, HDD.out, hb]; rfl)⟩
        case measure => simp [intOf]; omega
    · have hlt' : ¬ (i : Int) < (M.length : Int) := by omega
      go_wp2
      go_ret
      exact ⟨rfl, .inl ⟨by rw [HD.out, List.drop_eq_nil_of_le (by simp; omega)]; rfl, rfl⟩⟩

set_option maxRecDepth 100000 in
set_option maxHeartbeats 800000 in
theorem l3Leads_any (v : Value) (M : List OM) (base : Nat) (owner value : Int) (w : World) (h : w.ownsRow base 102 6 v M.length (rowCells M)) (hl : M.length ≤ 400) (hv : -1000000000 ≤ value ∧ value ≤ 1000000000) :
    Calls Tryz.prog 103 #[v, .int .i64 owner, .int .i64 value] w fun e w' => e = .returned (.bool (leadsB (M.map OM.x) owner value)) ∧ w = w' := by
  have H := Lib.hid h
  obtain ⟨hv1, hv2⟩ := hv
  obtain ⟨a1, k1, rfl⟩ := row_nil h
  clear h
  by_cases h0 : value = 0
  · have hb : (value == 0) = true := by simpa using h0
    have hr : leadsB (M.map OM.x) owner value = true := by simp [leadsB, h0]
    have HR := Lib.hid hr
    clear hr
    go_enter Tryz.func103, Tryz.ntmps103
    go_wp2
    go_ret
    exact ⟨by rw [HR.out]; rfl, rfl⟩
  · have hb : (value == 0) = false := by simpa using h0
    go_enter Tryz.func103, Tryz.ntmps103
    go_wp2_with fail
    refine (l3Find_any _ M base (value - 1) _ H.out hl).mono ?_
    rintro e w' ⟨rfl, hf⟩
    rcases hf with ⟨hf, rfl⟩ | ⟨i, x, hf, hx, rfl⟩
    · have hr : leadsB (M.map OM.x) owner value = false := by simp [leadsB, h0, hf]
      have HR := Lib.hid hr
      clear hr hf
      go_wp2
      go_ret
      exact ⟨by rw [HR.out]; rfl, rfl⟩
    · have hr : leadsB (M.map OM.x) owner value = (x.o == owner) := by simp [leadsB, h0, hf]
      have HR := Lib.hid hr
      have hlt : i < M.length := by have := (List.getElem?_eq_some_iff.mp hx).1; simpa using this
      have hlt' : (i : Int) < (M.length : Int) := by omega
      have hi0 : (0 : Int) ≤ (i : Int) := by omega
      obtain ⟨g1, c1, e1, _, l1, o1⟩ := row_form H.out (by omega)
      simp only [Value.slice.injEq] at e1
      obtain ⟨rfl, -, rfl⟩ := e1
      have ht := (o1 i M[i] (List.getElem?_eq_getElem hlt)).six
      have hx' : M[i].x = x := by simpa [hlt] using hx
      rw [hx'] at ht
      have x3 := ht.2.2.2.1
      clear hr hf hx hx' ht o1
      go_wp2
      go_ret
      exact ⟨by rw [HR.out]; rfl, rfl⟩
end Go.Proofs.YtnpklnpicelcmaaGreat

namespace Go.Proofs.YtnpklnpicelcmaaGreat
open Go.RowKit
set_option linter.unusedVariables false

/-- All pointers lead where they may. -/
def Points (f : Nat → Int) (L : List Ob) : Prop := ∀ x ∈ L, ∀ k : Nat, (k : Int) < x.s → x.m / P2 k % 2 = 1 → leadsB L x.o (f (x.at_.toNat + 2 + k)) = true

/-- What is not taken is nothing. -/
def Rest (f : Nat → Int) (n P U : Nat) : Prop := ∀ i, i < n → ¬ (P ≤ i ∧ i < P + U) → f i = 0

def IsShape (f : Nat → Int) (n P U : Nat) (L : List Ob) (r : Bool) : Prop := (Points f L ∧ Rest f n P U ∧ r = true) ∨ (¬ (Points f L ∧ Rest f n P U) ∧ r = false)

set_option maxHeartbeats 800000 in
theorem l2Pointer_at (b off I : Nat) (m : Int) (r : Bool) (w : World) (c1 : w.cell? ⟨b, off + 1, none⟩ = some (.int .i64 m)) (hm : 0 ≤ m ∧ m ≤ 4095) (hI : I ≤ 12) (hr : r = (m / P2 I % 2 == 1)) :
    Calls Tryz.prog 83 #[.pointer (some ⟨b, off, none⟩), .int .i64 (I : Int)] w fun e w' => e = .returned (.bool r) ∧ ∃ q, w' = w.drewN q := by
  subst hr
  obtain ⟨m1, m2⟩ := hm
  have p1 := P2_pos (I : Int)
  have p2 := P2_le (s := (I : Int)) (by omega)
  have hne : ¬ P2 (I : Int) = 0 := by omega
  have hq : m.tdiv (P2 I) = m / P2 I := Int.tdiv_eq_ediv_of_nonneg m1
  have g1 : 0 ≤ m / P2 I := Int.ediv_nonneg m1 (by omega)
  have g2 : m / P2 I ≤ m := Int.ediv_le_self _ m1
  have hr : (m / P2 I).tmod 2 = m / P2 I % 2 := Int.tmod_eq_emod_of_nonneg g1
  go_enter Tryz.func83, Tryz.ntmps83
  go_wp2
  go_quiet (with_reducible exact Calls.quiet_of_same (Calls.mono (power_any I _ hI) fun _ _ hh => ⟨hh.1, hh.2.symm⟩))
  go_wp2
  go_ret
  exact ⟨rfl, _, rfl⟩

theorem drewN_below (w : World) (q : Nat) : Below w.heap.size w (w.drewN q) := below_drewN (Below.refl _ _) q

set_option maxRecDepth 100000 in
set_option maxHeartbeats 3200000 in
theorem l3Shape_any (b P U : Nat) (h ac : Int) (ab ao n c : Nat) (f : Nat → Int) (v : Value) (M : List OM) (base lo : Nat) (r : Bool) (w : World) (hB : Blk w b [.int .i64 h, .slice (some ⟨ab, ao, none⟩) n c, .int .i64 ac, .int .i64 (U : Int)]) (hs : Src w (some ⟨ab, ao, none⟩) n f) (h1 : 8 ≤ h) (h2 : h ≤ 200) (h3 : 0 ≤ ac) (h4 : ac ≤ 1) (hP : baseI ac h = (P : Int)) (hn : (n : Int) = 2 * h) (hU : P + U ≤ n)
    (how : w.ownsRow base 102 6 v M.length (rowCells M)) (hfl : Flds w lo f v M) (hl : M.length ≤ 400) (hok : ∀ t ∈ M, (0 ≤ t.x.s ∧ t.x.s ≤ 12) ∧ (0 ≤ t.x.m ∧ t.x.m ≤ 4095) ∧ ∀ k, k < t.x.s.toNat → -1000000000 ≤ f (t.x.at_.toNat + 2 + k) ∧ f (t.x.at_.toNat + 2 + k) ≤ 1000000000) (hr : IsShape f n P U (M.map OM.x) r) :
    Calls Tryz.prog 70 #[.pointer (some ⟨b, 0, none⟩), v] w (RetBool w r) := by
  have H := Lib.hid how; have FL := Lib.hid hfl; have HOK := Lib.hid hok; have HR := Lib.hid hr; have HB0 := Lib.hid hB; have HS0 := Lib.hid hs; have HN := Lib.hid hn
  have lb := hB.1
  obtain ⟨a1, k1, rfl⟩ := row_nil how
  clear how hfl hok hr hB hs hn
  go_enter Tryz.func70, Tryz.ntmps70
  go_wp2
  go_loopw [5] (fun p wr => ∃ i : Nat, i ≤ M.length ∧ p = .int .i64 (i : Int) ∧ Hid (Below w.heap.size w wr) ∧ Hid (∀ j x, j < i → (M.map OM.x)[j]? = some x → ∀ k : Nat, (k : Int) < x.s → x.m / P2 k % 2 = 1 → leadsB (M.map OM.x) x.o (f (x.at_.toNat + 2 + k)) = true)) (fun p _ => M.length - (intOf p).toNat)
  case atStart => exact ⟨0, Nat.zero_le _, rfl, Below.refl _ _, Lib.hid (fun j x hj => by omega)⟩
  case round =>
    obtain ⟨i, hi, rfl, HBr, HPT⟩ := hrel
    by_cases hlt : i < M.length
    · have hlt' : (i : Int) < (M.length : Int) := by omega
      have hi0 : (0 : Int) ≤ (i : Int) := by omega
      obtain ⟨g1, c1, e1, _, l1, o1⟩ := row_form H.out (by omega)
      simp only [Value.slice.injEq] at e1
      obtain ⟨rfl, -, rfl⟩ := e1
      have ht := (o1 i M[i] (List.getElem?_eq_getElem hlt)).six
      have hx : (M.map OM.x)[i]? = some M[i].x := by simp [hlt]
      have hs := FL.out.1 M[i] (List.getElem_mem hlt)
      have hk := HOK.out M[i] (List.getElem_mem hlt)
      generalize M[i] = t at *
      obtain ⟨⟨s0, s1⟩, hm, hwd⟩ := hk
      obtain ⟨_, lg, _, hfc⟩ := hs
      have HX := Lib.hid hx; have HWD := Lib.hid hwd; have HFC := Lib.hid hfc; have HT := Lib.hid ht
      clear o1 hx hwd hfc ht
      have z0 := HBr.out.size
      go_wp2
      go_loopw [7] (fun p wq => ∃ k : Nat, (k : Int) ≤ t.x.s ∧ p = .int .i64 (k : Int) ∧ Hid (Below w.heap.size w wq) ∧ Hid (∀ k' : Nat, k' < k → t.x.m / P2 k' % 2 = 1 → leadsB (M.map OM.x) t.x.o (f (t.x.at_.toNat + 2 + k')) = true)) (fun p _ => t.x.s.toNat - (intOf p).toNat)
      case atStart => exact ⟨0, by omega, rfl, HBr, Lib.hid (fun k' hk' => by omega)⟩
      case round =>
        obtain ⟨k, hk, rfl, HBq, HPK⟩ := hrel
        have T1 := Lib.hid (HT.out.below HBq.out l1)
        have zq := HBq.out.size
        have x1 := T1.out.2.1
        by_cases hks : (k : Int) < t.x.s
        · have hk0 : (0 : Int) ≤ (k : Int) := by omega
          have hkt : k < t.x.s.toNat := by omega
          have hkn : (k : Int) < (t.x.s.toNat : Int) := by omega
          have x2 := T1.out.2.2.1; have x3 := T1.out.2.2.2.1; have x5 := T1.out.2.2.2.2.2
          have fk := (HBq.out.cell (p := ⟨t.g, k, none⟩) lg).trans (HFC.out k hkt).1
          have hwk := HWD.out k hkt
          have l1q : g1 < wr.heap.size := by omega
          have HQ9 := Lib.hid (fun q => below_drewN HBq.out q)
          have hdd : t.x.m / P2 k % 2 = 1 ∨ t.x.m / P2 k % 2 = 0 := by omega
          rcases hdd with hd | hd
          · cases hle : leadsB (M.map OM.x) t.x.o (f (t.x.at_.toNat + 2 + k))
            · have hrf : Hid (r = false) := Lib.hid (by
                rcases HR.out with ⟨hp, _, _⟩ | ⟨_, hp⟩
                · have := hp t.x (List.mem_of_getElem? HX.out) k hks hd
                  rw [hle] at this; cases this
                · exact hp)
              go_wp2_with fail
              go_quiet (first | exact Calls.quiet_of (l2Pointer_at g1 (i * 6 + 1) k t.x.m true _ (((drewN_below wr _).cell (p := ⟨g1, i * 6 + 1 + 1, none⟩) l1q).trans x2) hm (by omega) (by rw [hd]; rfl)) | exact Calls.quiet_of_same (Calls.mono (l3Leads_any _ M base t.x.o (f (t.x.at_.toNat + 2 + k)) _ (ownsRow_below (ownsRow_below H.out HBq.out) (drewN_below wr _)) hl hwk) fun _ _ hh => ⟨by rw [hh.1, hle], hh.2.symm⟩))
              go_wp2
              go_ret
              exact ⟨by rw [hrf.out]; rfl, HQ9.out _⟩
            · have HLE := Lib.hid hle
              go_wp2_with fail
              go_quiet (first | exact Calls.quiet_of (l2Pointer_at g1 (i * 6 + 1) k t.x.m true _ (((drewN_below wr _).cell (p := ⟨g1, i * 6 + 1 + 1, none⟩) l1q).trans x2) hm (by omega) (by rw [hd]; rfl)) | exact Calls.quiet_of_same (Calls.mono (l3Leads_any _ M base t.x.o (f (t.x.at_.toNat + 2 + k)) _ (ownsRow_below (ownsRow_below H.out HBq.out) (drewN_below wr _)) hl hwk) fun _ _ hh => ⟨by rw [hh.1, hle], hh.2.symm⟩))
              have HDD := Lib.hid hd
              clear hle hd
              go_wp2
              go_roundw
              case rel => first | exact ⟨k + 1, by omega, by go_num, HQ9.out _, Lib.hid (fun k' hk' hb' => by rcases Nat.lt_succ_iff_lt_or_eq.mp hk' with h' | h'; exact HPK.out k' h' hb'; subst h'; exact HLE.out)⟩ | ((repeat apply Exists.intro); exact ⟨⟨k + 1, by omega, by go_num, HQ9.out _, Lib.hid (fun k' hk' hb' => by rcases Nat.lt_succ_iff_lt_or_eq.mp hk' with h' | h'; exact HPK.out k' h' hb'; subst h'; exact HLE.out)⟩, rfl⟩)
              case measure => simp [intOf]; omega
          · have hle : True := trivial
            go_wp2_with fail
            go_quiet (first | exact Calls.quiet_of (l2Pointer_at g1 (i * 6 + 1) k t.x.m false _ (((drewN_below wr _).cell (p := ⟨g1, i * 6 + 1 + 1, none⟩) l1q).trans x2) hm (by omega) (by rw [hd]; rfl)))
            have HDD := Lib.hid hd
            clear hd
            go_wp2
            go_roundw
            case rel => first | exact ⟨k + 1, by omega, by go_num, HQ9.out _, Lib.hid (fun k' hk' hb' => by rcases Nat.lt_succ_iff_lt_or_eq.mp hk' with h' | h'; exact HPK.out k' h' hb'; subst h'; have := HDD.out; omega)⟩ | ((repeat apply Exists.intro); exact ⟨⟨k + 1, by omega, by go_num, HQ9.out _, Lib.hid (fun k' hk' hb' => by rcases Nat.lt_succ_iff_lt_or_eq.mp hk' with h' | h'; exact HPK.out k' h' hb'; subst h'; have := HDD.out; omega)⟩, rfl⟩)
            case measure => simp [intOf]; omega
        · go_wp2
          go_roundw
          case rel => first | exact ⟨i + 1, by omega, by go_num, HBq, Lib.hid (fun j x hj hx k' hk' hb' => by rcases Nat.lt_succ_iff_lt_or_eq.mp hj with h' | h'; exact HPT.out j x h' hx k' hk' hb'; subst h'; rw [HX.out] at hx; cases hx; exact HPK.out k' (by omega) hb')⟩ | ((repeat apply Exists.intro); exact ⟨⟨i + 1, by omega, by go_num, HBq, Lib.hid (fun j x hj hx k' hk' hb' => by rcases Nat.lt_succ_iff_lt_or_eq.mp hj with h' | h'; exact HPT.out j x h' hx k' hk' hb'; subst h'; rw [HX.out] at hx; cases hx; exact HPK.out k' (by omega) hb')⟩, rfl⟩)
          case measure => simp [intOf]; omega
    · have HPS : Hid (Points f (M.map OM.x)) := Lib.hid (fun x hx k hk hb => by
        obtain ⟨j, hj, rfl⟩ := List.getElem_of_mem hx
        have hj' : j < M.length := by simpa using hj
        exact HPT.out j _ (by omega) (List.getElem?_eq_getElem hj) k hk hb)
      have hlt' : ¬ (i : Int) < (M.length : Int) := by omega
      have BA := Lib.hid (HB0.out.below HBr.out)
      have zr := HBr.out.size
      go_wp2_with fail
      refine (l1Base_eq (P : Int) b h ac (U : Int) (some ⟨ab, ao, none⟩) n c _ hP BA.out h1 h2 h3 h4).mono ?_
      rintro e w2 ⟨rfl, hb⟩
      have HB2 := Lib.hid (HBr.out.trans (hb.mono zr))
      clear hb BA HBr zr HPT
      have hnn := HN.out
      have hPUn : (P : Int) + (U : Int) ≤ 400 := by omega
      clear hnn
      go_wp2
      go_loopw [9] (fun p wr => ∃ j : Nat, j ≤ n ∧ p = .int .i64 (j : Int) ∧ Hid (Below w.heap.size w wr) ∧ Hid (∀ k, k < j → ¬ (P ≤ k ∧ k < P + U) → f k = 0)) (fun p _ => n - (intOf p).toNat)
      case atStart => exact ⟨0, Nat.zero_le _, rfl, HB2, Lib.hid (fun k hk => by omega)⟩
      case round =>
        obtain ⟨j, hj, rfl, HBr, HRS⟩ := hrel
        clear HB2
        have BA := Lib.hid (HB0.out.below HBr.out)
        have SA := Lib.hid (HS0.out.below HBr.out)
        have zr := HBr.out.size
        have lbr : b < wr.heap.size := by omega
        have b0 := BA.out.at 0 rfl; have b1 := BA.out.at 1 rfl; have b3 := BA.out.at 3 rfl
        by_cases hjn : j < n
        · have hjn' : (j : Int) < 2 * h := by have := HN.out; omega
          have hj0 : (0 : Int) ≤ (j : Int) := by omega
          have hjn2 : (j : Int) < (n : Int) := by omega
          by_cases hin : P ≤ j ∧ j < P + U
          · have HI := Lib.hid hin
            go_wp2_with fail
            refine (l1In_yes (j : Int) (P : Int) ((P : Int) + (U : Int) - 1) _ (by have := HI.out; omega) (by have := HI.out; omega)).mono ?_
            rintro e w' ⟨rfl, rfl⟩
            go_wp2
            go_roundw
            case rel => first | exact ⟨j + 1, by omega, by go_num, HBr, Lib.hid (fun k hk hb => by rcases Nat.lt_succ_iff_lt_or_eq.mp hk with h' | h'; exact HRS.out k h' hb; subst h'; exact absurd HI.out hb)⟩ | ((repeat apply Exists.intro); exact ⟨⟨j + 1, by omega, by go_num, HBr, Lib.hid (fun k hk hb => by rcases Nat.lt_succ_iff_lt_or_eq.mp hk with h' | h'; exact HRS.out k h' hb; subst h'; exact absurd HI.out hb)⟩, rfl⟩)
            case measure => simp [intOf]; omega
          · have HI := Lib.hid hin
            have fj := SA.out.at j hjn
            by_cases hfz : f j = 0
            · have hd : (f j != 0) = false := by simpa using hfz
              have HZ := Lib.hid hfz
              clear hfz hin
              go_wp2_with fail
              refine (l1In_no (j : Int) (P : Int) ((P : Int) + (U : Int) - 1) _ (fun x => HI.out ⟨by omega, by omega⟩)).mono ?_
              rintro e w' ⟨rfl, rfl⟩
              go_wp2
              go_roundw
              case rel => first | exact ⟨j + 1, by omega, by go_num, HBr, Lib.hid (fun k hk hb => by rcases Nat.lt_succ_iff_lt_or_eq.mp hk with h' | h'; exact HRS.out k h' hb; subst h'; exact HZ.out)⟩ | ((repeat apply Exists.intro); exact ⟨⟨j + 1, by omega, by go_num, HBr, Lib.hid (fun k hk hb => by rcases Nat.lt_succ_iff_lt_or_eq.mp hk with h' | h'; exact HRS.out k h' hb; subst h'; exact HZ.out)⟩, rfl⟩)
              case measure => simp [intOf]; omega
            · have hd : (f j != 0) = true := by simpa using hfz
              have hrf : Hid (r = false) := Lib.hid (by
                rcases HR.out with ⟨_, hp, _⟩ | ⟨_, hp⟩
                · exact absurd (hp j hjn hin) hfz
                · exact hp)
              clear hfz hin
              go_wp2_with fail
              refine (l1In_no (j : Int) (P : Int) ((P : Int) + (U : Int) - 1) _ (fun x => HI.out ⟨by omega, by omega⟩)).mono ?_
              rintro e w' ⟨rfl, rfl⟩
              go_wp2
              go_ret
              exact ⟨by rw [hrf.out]; rfl, HBr.out⟩
        · have hjn' : ¬ (j : Int) < 2 * h := by have := HN.out; omega
          have hrt : Hid (r = true) := Lib.hid (by
            rcases HR.out with ⟨_, _, hp⟩ | ⟨hp, _⟩
            · exact hp
            · exact absurd ⟨HPS.out, fun k hk hb => HRS.out k (by omega) hb⟩ hp)
          go_wp2
          go_ret
          exact ⟨by rw [hrt.out]; rfl, HBr.out⟩
end Go.Proofs.YtnpklnpicelcmaaGreat

namespace Go.Proofs.YtnpklnpicelcmaaGreat
open Go.RowKit
set_option linter.unusedVariables false

/-- Every object that is told stands somewhere. -/
theorem parse_all {f : Nat → Int} {e : Nat} : ∀ (d a : Nat) (L : List Ob), e - a ≤ d → parse f e a = some L → ∀ x ∈ L, ∃ a', x = objAt f a' ∧ Good f e a'
  | 0, a, L, hd, hp, x, hx => by
    rw [parse_stop (by omega)] at hp
    cases hp; cases hx
  | d + 1, a, L, hd, hp, x, hx => by
    by_cases h : a < e
    · by_cases hg : Good f e a
      · rw [parse_good h hg] at hp
        obtain ⟨L', hp', rfl⟩ := Option.map_eq_some_iff.mp hp
        rcases List.mem_cons.mp hx with rfl | hx
        · exact ⟨a, rfl, hg⟩
        · exact parse_all d _ L' (by omega) hp' x hx
      · rw [parse_bad h hg] at hp; cases hp
    · rw [parse_stop h] at hp
      cases hp; cases hx

/-- What is known of each object of a right arena. -/
theorem parse_ok {f : Nat → Int} {n e a : Nat} {L : List Ob} (hp : parse f e a = some L) (he : e ≤ n) (hw : ∀ i, i < n → Word (f i)) : ∀ x ∈ L, (0 ≤ x.s ∧ x.s ≤ 12) ∧ (0 ≤ x.m ∧ x.m ≤ 4095) ∧ (0 ≤ x.o ∧ x.o ≤ 3) ∧ (0 ≤ x.at_ ∧ x.at_.toNat + 2 + x.s.toNat ≤ e) ∧ ∀ k, k < x.s.toNat → -1000000000 ≤ f (x.at_.toNat + 2 + k) ∧ f (x.at_.toNat + 2 + k) ≤ 1000000000 := fun x hx => by
  obtain ⟨a', rfl, hg⟩ := parse_all (e - a) a L (Nat.le_refl _) hp x hx
  have h1 := hg.2.1.2
  have h2 := P2_le h1.1.2
  have h3 := hg.2.2
  have h4 := h1.2.1
  have h5 := h1.2.2.1
  have h6 := h1.1
  have e1 : (objAt f a').at_.toNat = a' := by simp [objAt]
  have e2 : (objAt f a').s.toNat = szOf f a' := rfl
  refine ⟨h1.1, ⟨h4.1, ?_⟩, h5, ⟨by simp [objAt], by rw [e1, e2]; exact h3⟩, fun k hk => ?_⟩
  · have : (objAt f a').m = f a' / 32 % 4096 := rfl
    rw [this]; omega
  · rw [e1]
    rw [e2] at hk
    exact hw _ (by omega)

/-- What ShapeFault answers. -/
def IsSF (h : Int) (n : Nat) (f : Nat → Int) (ac bu k : Int) : Prop :=
  (∃ L, IsOI h n f ac bu k L ∧ ¬ k = 0) ∨ (∃ L, IsOI h n f ac bu 0 L ∧ IsShape f n (baseI ac h).toNat bu.toNat L false ∧ k = 8) ∨ (∃ L, IsOI h n f ac bu 0 L ∧ IsShape f n (baseI ac h).toNat bu.toNat L true ∧ k = 0)

theorem isShape_some (f : Nat → Int) (n P U : Nat) (L : List Ob) : ∃ r, IsShape f n P U L r := by
  by_cases x : Points f L ∧ Rest f n P U
  · exact ⟨true, .inl ⟨x.1, x.2, rfl⟩⟩
  · exact ⟨false, .inr ⟨x, rfl⟩⟩

theorem isSF_some (h : Int) (n : Nat) (f : Nat → Int) (ac bu : Int) : ∃ k, IsSF h n f ac bu k := by
  obtain ⟨co, L, ho⟩ := isOI_some h n f ac bu
  by_cases h0 : co = 0
  · subst h0
    obtain ⟨r, hr⟩ := isShape_some f n (baseI ac h).toNat bu.toNat L
    cases r
    · exact ⟨8, .inr (.inl ⟨L, ho, hr, rfl⟩)⟩
    · exact ⟨0, .inr (.inr ⟨L, ho, hr, rfl⟩)⟩
  · exact ⟨co, .inl ⟨L, ho, h0⟩⟩

theorem isOI_zero {h : Int} {n : Nat} {f : Nat → Int} {ac bu : Int} {L : List Ob} (ho : IsOI h n f ac bu 0 L) : IsFault h n f ac bu 0 ∧ parse f ((baseI ac h).toNat + bu.toNat) (baseI ac h).toNat = some L := by
  rcases ho with ⟨k, _, h2, h3, _⟩ | ⟨_, _, h3, _⟩ | ⟨h1, h2, _⟩
  · exact absurd h3.symm h2
  · cases h3
  · exact ⟨h1, h2⟩

set_option maxHeartbeats 800000 in
theorem specSF_code (h ac bu : Int) (a : Option Addr) (n c : Nat) (f : Nat → Int) (co : Int) (L : List Ob) (w : World) (hs : Src w a n f) (hcn : n ≤ c) (hcm : c ≤ maxLen) (ho : IsOI h n f ac bu co L) (h0 : ¬ co = 0) :
    Calls Tryz.prog 37 #[.agg #[.int .i64 h, .slice a n c, .int .i64 ac, .int .i64 bu]] w (RetInt w co) := by
  have hd : (co != 0) = true := by simpa using h0
  have HCM := Lib.hid hcm
  clear hcm
  have HS := Lib.hid hs
  have HO := Lib.hid ho
  clear hs ho
  go_enter Tryz.func37, Tryz.ntmps37
  go_wp2_with fail
  refine (specOI_any h ac bu a n c f co L _ (HS.out.alloc _) hcn HCM.out HO.out).mono ?_
  rintro e w1 ⟨v, M, rfl, hM, how, hfl, hb⟩
  have HB1 := Lib.hid (thru1 (Below.refl _ _) hb)
  obtain ⟨av, kv, hv⟩ := row_nil how
  subst hv
  clear how hfl hM hb
  go_wp2
  go_ret
  exact ⟨rfl, HB1.out.alloc HB1.out.size _⟩

set_option maxHeartbeats 1600000 in
theorem specSF_false (h ac : Int) (P U : Nat) (ab ao n c : Nat) (f : Nat → Int) (L : List Ob) (w : World) (hs : Src w (some ⟨ab, ao, none⟩) n f) (hcn : n ≤ c) (hcm : c ≤ maxLen) (ho : IsOI h n f ac (U : Int) 0 L) (hk : IsFault h n f ac (U : Int) 0) (hP : baseI ac h = (P : Int)) (hp : parse f (P + U) P = some L) (hr : IsShape f n P U L false) :
    Calls Tryz.prog 37 #[.agg #[.int .i64 h, .slice (some ⟨ab, ao, none⟩) n c, .int .i64 ac, .int .i64 (U : Int)]] w (RetInt w 8) := by
  obtain ⟨⟨⟨g1, g2⟩, ⟨g3, g4⟩, g5, g6⟩, gn, gw⟩ := isFault_ok hk
  have hPU : P + U ≤ n := by rcases (by omega : ac = 0 ∨ ac = 1) with rfl | rfl <;> simp [baseI] at hP <;> omega
  have HPO := Lib.hid (parse_ok hp hPU gw)
  have hln := parse_length (P + U - P) P L (Nat.le_refl _) hp
  have hl4 : L.length ≤ 400 := by omega
  have HGN := Lib.hid gn
  have HCM := Lib.hid hcm
  clear hcm gn gw hk hln
  have HS := Lib.hid hs
  have HO := Lib.hid ho
  have HR := Lib.hid hr
  clear hs ho hr
  go_enter Tryz.func37, Tryz.ntmps37
  go_wp2_with fail
  refine (specOI_any h ac (U : Int) _ n c f 0 L _ (HS.out.alloc _) hcn HCM.out HO.out).mono ?_
  rintro e w1 ⟨v, M, rfl, hM, how, hfl, hb⟩
  have A_1 := Lib.hid ((Blk.new_at (w := w) (cs := #[.int .i64 h, .slice (some ⟨ab, ao, none⟩) n c, .int .i64 ac, .int .i64 (U : Int)]) (t := 29) (w.heap.size) rfl).below hb)
  have S_1 := Lib.hid ((HS.out.alloc _).below hb)
  have HB1 := Lib.hid (thru1 (Below.refl _ _) hb)
  have OW1 := Lib.hid how
  have FL1 := Lib.hid hfl
  subst hM
  clear how hfl hb HS
  obtain ⟨av, kv, hv⟩ := row_nil OW1.out
  have HV := Lib.hid hv
  clear hv
  have hv0 := HV.out
  generalize hm : M.length = mm at hv0
  subst hv0
  go_wp2_with fail
  refine (l3Shape_any (w.heap.size) P U h ac ab ao n c f (.slice av mm kv) M _ _ false _ (A_1.out.alloc _) (S_1.out.alloc _) g1 g2 g3 g4 hP HGN.out hPU (ownsRow_below OW1.out ((Below.refl _ _).alloc (Nat.le_refl _) _)) (FL1.out.below ((Below.refl _ _).alloc (Nat.le_refl _) _)) (by have := hl4; simpa using this) (fun t ht => by have := HPO.out t.x (List.mem_map_of_mem ht); exact ⟨this.1, this.2.1, this.2.2.2.2⟩) HR.out).mono ?_
  rintro e w2 ⟨rfl, hb⟩
  have HB2 := Lib.hid (thru1 HB1.out hb)
  clear hb
  go_wp2
  go_ret
  exact ⟨rfl, HB2.out⟩

set_option maxHeartbeats 1600000 in
theorem specSF_true (h ac : Int) (P U : Nat) (ab ao n c : Nat) (f : Nat → Int) (L : List Ob) (w : World) (hs : Src w (some ⟨ab, ao, none⟩) n f) (hcn : n ≤ c) (hcm : c ≤ maxLen) (ho : IsOI h n f ac (U : Int) 0 L) (hk : IsFault h n f ac (U : Int) 0) (hP : baseI ac h = (P : Int)) (hp : parse f (P + U) P = some L) (hr : IsShape f n P U L true) :
    Calls Tryz.prog 37 #[.agg #[.int .i64 h, .slice (some ⟨ab, ao, none⟩) n c, .int .i64 ac, .int .i64 (U : Int)]] w (RetInt w 0) := by
  obtain ⟨⟨⟨g1, g2⟩, ⟨g3, g4⟩, g5, g6⟩, gn, gw⟩ := isFault_ok hk
  have hPU : P + U ≤ n := by rcases (by omega : ac = 0 ∨ ac = 1) with rfl | rfl <;> simp [baseI] at hP <;> omega
  have HPO := Lib.hid (parse_ok hp hPU gw)
  have hln := parse_length (P + U - P) P L (Nat.le_refl _) hp
  have hl4 : L.length ≤ 400 := by omega
  have HGN := Lib.hid gn
  have HCM := Lib.hid hcm
  clear hcm gn gw hk hln
  have HS := Lib.hid hs
  have HO := Lib.hid ho
  have HR := Lib.hid hr
  clear hs ho hr
  go_enter Tryz.func37, Tryz.ntmps37
  go_wp2_with fail
  refine (specOI_any h ac (U : Int) _ n c f 0 L _ (HS.out.alloc _) hcn HCM.out HO.out).mono ?_
  rintro e w1 ⟨v, M, rfl, hM, how, hfl, hb⟩
  have A_1 := Lib.hid ((Blk.new_at (w := w) (cs := #[.int .i64 h, .slice (some ⟨ab, ao, none⟩) n c, .int .i64 ac, .int .i64 (U : Int)]) (t := 29) (w.heap.size) rfl).below hb)
  have S_1 := Lib.hid ((HS.out.alloc _).below hb)
  have HB1 := Lib.hid (thru1 (Below.refl _ _) hb)
  have OW1 := Lib.hid how
  have FL1 := Lib.hid hfl
  subst hM
  clear how hfl hb HS
  obtain ⟨av, kv, hv⟩ := row_nil OW1.out
  have HV := Lib.hid hv
  clear hv
  have hv0 := HV.out
  generalize hm : M.length = mm at hv0
  subst hv0
  go_wp2_with fail
  refine (l3Shape_any (w.heap.size) P U h ac ab ao n c f (.slice av mm kv) M _ _ true _ (A_1.out.alloc _) (S_1.out.alloc _) g1 g2 g3 g4 hP HGN.out hPU (ownsRow_below OW1.out ((Below.refl _ _).alloc (Nat.le_refl _) _)) (FL1.out.below ((Below.refl _ _).alloc (Nat.le_refl _) _)) (by have := hl4; simpa using this) (fun t ht => by have := HPO.out t.x (List.mem_map_of_mem ht); exact ⟨this.1, this.2.1, this.2.2.2.2⟩) HR.out).mono ?_
  rintro e w2 ⟨rfl, hb⟩
  have HB2 := Lib.hid (thru1 HB1.out hb)
  clear hb
  go_wp2
  go_ret
  exact ⟨rfl, HB2.out⟩

theorem specSF_any (h ac bu : Int) (a : Option Addr) (n c : Nat) (f : Nat → Int) (k : Int) (w : World) (hs : Src w a n f) (hcn : n ≤ c) (hcm : c ≤ maxLen) (hk : IsSF h n f ac bu k) : Calls Tryz.prog 37 #[.agg #[.int .i64 h, .slice a n c, .int .i64 ac, .int .i64 bu]] w (RetInt w k) := by
  have key : ∀ L r, IsOI h n f ac bu 0 L → IsShape f n (baseI ac h).toNat bu.toNat L r → Calls Tryz.prog 37 #[.agg #[.int .i64 h, .slice a n c, .int .i64 ac, .int .i64 bu]] w (RetInt w (if r then 0 else 8)) := fun L r ho hr => by
    obtain ⟨h1, h2⟩ := isOI_zero ho
    obtain ⟨⟨⟨g1, g2⟩, ⟨g3, g4⟩, g5, g6⟩, gn, gw⟩ := isFault_ok h1
    have hb := baseI_bd (ac := ac) g1
    obtain ⟨P, hP⟩ : ∃ P : Nat, baseI ac h = (P : Int) := ⟨(baseI ac h).toNat, by omega⟩
    obtain ⟨U, rfl⟩ : ∃ U : Nat, bu = (U : Int) := ⟨bu.toNat, by omega⟩
    obtain ⟨ab, ao, rfl, hab, hac⟩ := src_some hs (by omega)
    rw [hP, Int.toNat_natCast, Int.toNat_natCast] at h2 hr
    cases r
    · exact specSF_false h ac P U ab ao n c f L w hs hcn hcm ho h1 hP h2 hr
    · exact specSF_true h ac P U ab ao n c f L w hs hcn hcm ho h1 hP h2 hr
  rcases hk with ⟨L, ho, h0⟩ | ⟨L, ho, hr, rfl⟩ | ⟨L, ho, hr, rfl⟩
  · exact specSF_code h ac bu a n c f k L w hs hcn hcm ho h0
  · exact key L false ho hr
  · exact key L true ho hr
end Go.Proofs.YtnpklnpicelcmaaGreat

namespace Go.Proofs.YtnpklnpicelcmaaGreat
open Go.RowKit
set_option linter.unusedVariables false

theorem isSF_zero {h : Int} {n : Nat} {f : Nat → Int} {ac bu : Int} (hk : IsSF h n f ac bu 0) : ∃ L, IsOI h n f ac bu 0 L := by
  rcases hk with ⟨L, _, h0⟩ | ⟨L, _, _, h0⟩ | ⟨L, ho, _⟩
  · exact absurd rfl h0
  · cases h0
  · exact ⟨L, ho⟩
end Go.Proofs.YtnpklnpicelcmaaGreat

namespace Go.Proofs.YtnpklnpicelcmaaGreat
open Go.RowKit
set_option linter.unusedVariables false

theorem blk_under {w w' : World} {B b : Nat} {cs : List Value} (h : Blk w b cs) (hb : Below B w w') (hB : b < B) : Blk w' b cs :=
  ⟨Nat.lt_of_lt_of_le h.1 hb.size, fun i u hu => ⟨(hb.cell (p := ⟨b, i, none⟩) hB).trans (h.2 i u hu).1, (hb.frozen (p := ⟨b, i, none⟩) hB).trans (h.2 i u hu).2⟩⟩

theorem own_put {w : World} {B g q n : Nat} {f : Nat → Int} (h : Own w B (some ⟨g, q, none⟩) n f) (k : Nat) (hk : k < n) (v : Int) : Own (w.setCell ⟨g, q + k, none⟩ (.int .i64 v)) B (some ⟨g, q, none⟩) n (upd f k v) := by
  exact ((h.into.stored k hk v).1).out

theorem own_get {w : World} {B g q n : Nat} {f : Nat → Int} (h : Own w B (some ⟨g, q, none⟩) n f) (hn : 0 < n) : g < w.heap.size ∧ ∀ k, k < n → w.cell? ⟨g, q + k, none⟩ = some (.int .i64 (f k)) ∧ w.frozen? ⟨g, q + k, none⟩ = false := by
  rcases h with h0 | ⟨b', o', he, _, hb', hc'⟩
  · omega
  · cases he
    exact ⟨hb', hc'⟩
end Go.Proofs.YtnpklnpicelcmaaGreat

namespace Go.Proofs.YtnpklnpicelcmaaGreat
open Go.RowKit
set_option linter.unusedVariables false

/-- An object in memory, whatever it holds. -/
structure GM where
  at_ : Int
  s : Int
  m : Int
  o : Int
  h : Int
  a : Option Addr
  n : Nat
  c : Nat
  f : Nat → Int

def GM.g (t : GM) : Nat := match t.a with | some p => p.block | none => 0

def SixG (w : World) (b o : Nat) (t : GM) : Prop := w.cell? ⟨b, o, none⟩ = some (.int .i64 t.at_) ∧ w.cell? ⟨b, o + 1, none⟩ = some (.int .i64 t.s) ∧ w.cell? ⟨b, o + 2, none⟩ = some (.int .i64 t.m) ∧ w.cell? ⟨b, o + 3, none⟩ = some (.int .i64 t.o) ∧ w.cell? ⟨b, o + 4, none⟩ = some (.int .i64 t.h) ∧ w.cell? ⟨b, o + 5, none⟩ = some (.slice t.a t.n t.c)

def SixF (w : World) (b o : Nat) : Prop := w.frozen? ⟨b, o, none⟩ = false ∧ w.frozen? ⟨b, o + 1, none⟩ = false ∧ w.frozen? ⟨b, o + 2, none⟩ = false ∧ w.frozen? ⟨b, o + 3, none⟩ = false ∧ w.frozen? ⟨b, o + 4, none⟩ = false ∧ w.frozen? ⟨b, o + 5, none⟩ = false

theorem SixG.block {w w' : World} {b o : Nat} {t : GM} (h : SixG w b o t) (e : w'.heap[b]? = w.heap[b]?) : SixG w' b o t :=
  ⟨(World.cell?_of_block (w := w) (a := ⟨b, o, none⟩) e).trans h.1, (World.cell?_of_block (w := w) (a := ⟨b, o + 1, none⟩) e).trans h.2.1, (World.cell?_of_block (w := w) (a := ⟨b, o + 2, none⟩) e).trans h.2.2.1, (World.cell?_of_block (w := w) (a := ⟨b, o + 3, none⟩) e).trans h.2.2.2.1, (World.cell?_of_block (w := w) (a := ⟨b, o + 4, none⟩) e).trans h.2.2.2.2.1, (World.cell?_of_block (w := w) (a := ⟨b, o + 5, none⟩) e).trans h.2.2.2.2.2⟩

theorem SixF.block {w w' : World} {b o : Nat} (h : SixF w b o) (e : w'.heap[b]? = w.heap[b]?) : SixF w' b o :=
  ⟨(World.frozen?_of_block (w := w) (a := ⟨b, o, none⟩) e).trans h.1, (World.frozen?_of_block (w := w) (a := ⟨b, o + 1, none⟩) e).trans h.2.1, (World.frozen?_of_block (w := w) (a := ⟨b, o + 2, none⟩) e).trans h.2.2.1, (World.frozen?_of_block (w := w) (a := ⟨b, o + 3, none⟩) e).trans h.2.2.2.1, (World.frozen?_of_block (w := w) (a := ⟨b, o + 4, none⟩) e).trans h.2.2.2.2.1, (World.frozen?_of_block (w := w) (a := ⟨b, o + 5, none⟩) e).trans h.2.2.2.2.2⟩

theorem SixG.below {w w' : World} {b o : Nat} {t : GM} (h : SixG w b o t) (hb : Below w.heap.size w w') (hl : b < w.heap.size) : SixG w' b o t := h.block (hb.block b hl)

theorem SixF.below {w w' : World} {b o : Nat} (h : SixF w b o) (hb : Below w.heap.size w w') (hl : b < w.heap.size) : SixF w' b o := h.block (hb.block b hl)

theorem SixG.keeps {w w' : World} {b o lo hi : Nat} {t : GM} (h : SixG w b o t) (hk : Keeps w w' lo hi) (hl : b < w.heap.size) (hd : b < lo ∨ hi ≤ b) : SixG w' b o t := h.block (hk.block b hl hd)

theorem SixF.keeps {w w' : World} {b o lo hi : Nat} (h : SixF w b o) (hk : Keeps w w' lo hi) (hl : b < w.heap.size) (hd : b < lo ∨ hi ≤ b) : SixF w' b o := h.block (hk.block b hl hd)

/-- A row of objects is read. -/
structure GSrc (w : World) (b q N : Nat) (T : Nat → GM) : Prop where
  lt : b < w.heap.size
  six : ∀ i, i < N → SixG w b (q + i * 6) (T i)
  flds : ∀ i, i < N → Src w (T i).a (T i).n (T i).f

/-- A row of objects of the call's own, in blocks from lo to hi. -/
structure GOwn (w : World) (lo hi b q N : Nat) (T : Nat → GM) : Prop where
  glo : lo ≤ b
  ghi : b < hi
  lt : b < w.heap.size
  six : ∀ i, i < N → SixG w b (q + i * 6) (T i)
  free : ∀ i, i < N → SixF w b (q + i * 6)
  flds : ∀ i, i < N → OwnIn w lo hi (T i).a (T i).n (T i).f
  off : ∀ i, i < N → (T i).n = 0 ∨ (T i).g ≠ b
  apart : ∀ i j, i < N → j < N → i ≠ j → (T i).n = 0 ∨ (T j).n = 0 ∨ (T i).g ≠ (T j).g

theorem GOwn.src {w : World} {lo hi b q N : Nat} {T : Nat → GM} (h : GOwn w lo hi b q N T) : GSrc w b q N T := ⟨h.lt, h.six, fun i hi => (h.flds i hi).src⟩

theorem GSrc.below {w w' : World} {b q N : Nat} {T : Nat → GM} (h : GSrc w b q N T) (hb : Below w.heap.size w w') : GSrc w' b q N T :=
  ⟨Nat.lt_of_lt_of_le h.lt hb.size, fun i hi => (h.six i hi).below hb h.lt, fun i hi => (h.flds i hi).below hb⟩

theorem GOwn.below {w w' : World} {lo hi b q N : Nat} {T : Nat → GM} (h : GOwn w lo hi b q N T) (hb : Below w.heap.size w w') : GOwn w' lo hi b q N T :=
  ⟨h.glo, h.ghi, Nat.lt_of_lt_of_le h.lt hb.size, fun i hi => (h.six i hi).below hb h.lt, fun i hi => (h.free i hi).below hb h.lt, fun i hi => (h.flds i hi).below hb, h.off, h.apart⟩

theorem GOwn.keeps {w w' : World} {lo hi lo' hi' b q N : Nat} {T : Nat → GM} (h : GOwn w lo hi b q N T) (hk : Keeps w w' lo' hi') (hd : hi ≤ lo' ∨ hi' ≤ lo) : GOwn w' lo hi b q N T := by
  have h1 := h.glo; have h2 := h.ghi
  exact ⟨h.glo, h.ghi, Nat.lt_of_lt_of_le h.lt hk.size, fun i hi => (h.six i hi).keeps hk h.lt (by omega), fun i hi => (h.free i hi).keeps hk h.lt (by omega), fun i hi => (h.flds i hi).keeps hk hd, h.off, h.apart⟩

theorem GSrc.keeps {w w' : World} {lo hi b q N : Nat} {T : Nat → GM} (h : GSrc w b q N T) (hk : Keeps w w' lo hi) (hd : b < lo ∨ hi ≤ b) (hf : ∀ i, i < N → (T i).n = 0 ∨ (T i).g < lo ∨ hi ≤ (T i).g) : GSrc w' b q N T := by
  refine ⟨Nat.lt_of_lt_of_le h.lt hk.size, fun i hi => (h.six i hi).keeps hk h.lt hd, fun i hi => ?_⟩
  rcases h.flds i hi with h0 | ⟨b', o', he, hl, hc⟩
  · exact .inl h0
  · rcases hf i hi with h0 | hf
    · exact .inl h0
    · have hg : (T i).g = b' := by simp [GM.g, he]
      have e := hk.block b' hl (by omega)
      exact .inr ⟨b', o', he, Nat.lt_of_lt_of_le hl hk.size, fun k hk' => (World.cell?_of_block (w := w) (a := ⟨b', o' + k, none⟩) e).trans (hc k hk')⟩

theorem GSrc.drew {w : World} {b q N : Nat} {T : Nat → GM} (h : GSrc w b q N T) : GSrc w.drew b q N T := h.below (Below.refl _ _).drew

theorem GSrc.alloc {w : World} {b q N : Nat} {T : Nat → GM} (h : GSrc w b q N T) (o : Obj) : GSrc (w.alloc o) b q N T := h.below ((Below.refl _ _).alloc (Nat.le_refl _) o)

theorem GOwn.drew {w : World} {lo hi b q N : Nat} {T : Nat → GM} (h : GOwn w lo hi b q N T) : GOwn w.drew lo hi b q N T := h.below (Below.refl _ _).drew

theorem GOwn.alloc {w : World} {lo hi b q N : Nat} {T : Nat → GM} (h : GOwn w lo hi b q N T) (o : Obj) : GOwn (w.alloc o) lo hi b q N T := h.below ((Below.refl _ _).alloc (Nat.le_refl _) o)

theorem GSrc.congr {w : World} {b q N : Nat} {T U : Nat → GM} (h : GSrc w b q N T) (e : ∀ i, i < N → T i = U i) : GSrc w b q N U :=
  ⟨h.lt, fun i hi => by rw [← e i hi]; exact h.six i hi, fun i hi => by rw [← e i hi]; exact h.flds i hi⟩

theorem GOwn.congr {w : World} {lo hi b q N : Nat} {T U : Nat → GM} (h : GOwn w lo hi b q N T) (e : ∀ i, i < N → T i = U i) : GOwn w lo hi b q N U :=
  ⟨h.glo, h.ghi, h.lt, fun i hi => by rw [← e i hi]; exact h.six i hi, h.free, fun i hi => by rw [← e i hi]; exact h.flds i hi, fun i hi => by rw [← e i hi]; exact h.off i hi, fun i j hi hj hij => by rw [← e i hi, ← e j hj]; exact h.apart i j hi hj hij⟩
end Go.Proofs.YtnpklnpicelcmaaGreat

namespace Go.Proofs.YtnpklnpicelcmaaGreat
open Go.RowKit
set_option linter.unusedVariables false

/-- Two objects hold the same. -/
def GSame (t u : GM) : Prop := t.at_ = u.at_ ∧ t.s = u.s ∧ t.m = u.m ∧ t.o = u.o ∧ t.h = u.h ∧ t.n = u.n ∧ ∀ k, k < t.n → t.f k = u.f k

def GV (w : World) (a : Option Addr) (N : Nat) (T : Nat → GM) : Prop := N = 0 ∨ ∃ b q, a = some ⟨b, q, none⟩ ∧ GSrc w b q N T

def GVO (w : World) (lo hi : Nat) (a : Option Addr) (N : Nat) (T : Nat → GM) : Prop := N = 0 ∨ ∃ b q, a = some ⟨b, q, none⟩ ∧ GOwn w lo hi b q N T

theorem GVO.src {w : World} {lo hi N : Nat} {a : Option Addr} {T : Nat → GM} (h : GVO w lo hi a N T) : GV w a N T := by
  rcases h with h0 | ⟨b, q, e, h⟩
  · exact .inl h0
  · exact .inr ⟨b, q, e, h.src⟩

theorem GV.below {w w' : World} {a : Option Addr} {N : Nat} {T : Nat → GM} (h : GV w a N T) (hb : Below w.heap.size w w') : GV w' a N T := by
  rcases h with h0 | ⟨b, q, e, h⟩
  · exact .inl h0
  · exact .inr ⟨b, q, e, h.below hb⟩

theorem GVO.below {w w' : World} {lo hi N : Nat} {a : Option Addr} {T : Nat → GM} (h : GVO w lo hi a N T) (hb : Below w.heap.size w w') : GVO w' lo hi a N T := by
  rcases h with h0 | ⟨b, q, e, h⟩
  · exact .inl h0
  · exact .inr ⟨b, q, e, h.below hb⟩

theorem GVO.keeps {w w' : World} {lo hi lo' hi' N : Nat} {a : Option Addr} {T : Nat → GM} (h : GVO w lo hi a N T) (hk : Keeps w w' lo' hi') (hd : hi ≤ lo' ∨ hi' ≤ lo) : GVO w' lo hi a N T := by
  rcases h with h0 | ⟨b, q, e, h⟩
  · exact .inl h0
  · exact .inr ⟨b, q, e, h.keeps hk hd⟩

theorem GV.drew {w : World} {a : Option Addr} {N : Nat} {T : Nat → GM} (h : GV w a N T) : GV w.drew a N T := h.below (Below.refl _ _).drew

theorem GV.alloc {w : World} {a : Option Addr} {N : Nat} {T : Nat → GM} (h : GV w a N T) (o : Obj) : GV (w.alloc o) a N T := h.below ((Below.refl _ _).alloc (Nat.le_refl _) o)

theorem GVO.drew {w : World} {lo hi N : Nat} {a : Option Addr} {T : Nat → GM} (h : GVO w lo hi a N T) : GVO w.drew lo hi a N T := h.below (Below.refl _ _).drew

theorem GVO.alloc {w : World} {lo hi N : Nat} {a : Option Addr} {T : Nat → GM} (h : GVO w lo hi a N T) (o : Obj) : GVO (w.alloc o) lo hi a N T := h.below ((Below.refl _ _).alloc (Nat.le_refl _) o)
end Go.Proofs.YtnpklnpicelcmaaGreat

namespace Go.Proofs.YtnpklnpicelcmaaGreat
open Go.RowKit
set_option linter.unusedVariables false

theorem made_get (z : Array Value) (m k : Nat) (hk : k < m) : (madeCells z m).toList[k]? = some z[k % z.size]! := by
  simp [madeCells, hk]

/-- The six cells of an object are written. -/
def sixW (w : World) (b o : Nat) (t : GM) : World := ((((((w.setCell ⟨b, o, none⟩ (.int .i64 t.at_)).setCell ⟨b, o + 1, none⟩ (.int .i64 t.s)).setCell ⟨b, o + 2, none⟩ (.int .i64 t.m)).setCell ⟨b, o + 3, none⟩ (.int .i64 t.o)).setCell ⟨b, o + 4, none⟩ (.int .i64 t.h)).setCell ⟨b, o + 5, none⟩ (.slice t.a t.n t.c))

theorem sixW_at {w : World} {b o : Nat} {t0 : GM} (h : SixG w b o t0) (t : GM) : SixG (sixW w b o t) b o t := by
  obtain ⟨x0, x1, x2, x3, x4, x5⟩ := h
  simp [sixW, SixG, x0, x1, x2, x3, x4, x5, World.cell?_setCell_other, World.cell?_setCell_same']

theorem sixW_other {w : World} {b o o' : Nat} {u : GM} (h : SixG w b o u) (hd : o + 6 ≤ o' ∨ o' + 6 ≤ o) (t : GM) : SixG (sixW w b o' t) b o u := by
  have g : ∀ x, x < 6 → ∀ y, y < 6 → (⟨b, o' + y, none⟩ : Addr) ≠ ⟨b, o + x, none⟩ := fun x hx y hy e => by simp at e; try omega
  have k : ∀ x, x < 6 → (sixW w b o' t).cell? ⟨b, o + x, none⟩ = w.cell? ⟨b, o + x, none⟩ := fun x hx => by
    unfold sixW
    rw [World.cell?_setCell_other _ _ _ _ (g x hx 5 (by omega)), World.cell?_setCell_other _ _ _ _ (g x hx 4 (by omega)), World.cell?_setCell_other _ _ _ _ (g x hx 3 (by omega)), World.cell?_setCell_other _ _ _ _ (g x hx 2 (by omega)), World.cell?_setCell_other _ _ _ _ (g x hx 1 (by omega)), World.cell?_setCell_other _ _ _ _ (show (⟨b, o', none⟩ : Addr) ≠ ⟨b, o + x, none⟩ from g x hx 0 (by omega))]
  exact ⟨(k 0 (by omega)).trans h.1, (k 1 (by omega)).trans h.2.1, (k 2 (by omega)).trans h.2.2.1, (k 3 (by omega)).trans h.2.2.2.1, (k 4 (by omega)).trans h.2.2.2.2.1, (k 5 (by omega)).trans h.2.2.2.2.2⟩

theorem sixW_frozen (w : World) (b o : Nat) (t : GM) (p : Addr) : (sixW w b o t).frozen? p = w.frozen? p := by simp [sixW, World.frozen?_setCell]

theorem sixW_keeps (w : World) (b o : Nat) (t : GM) : Keeps w (sixW w b o t) b (b + 1) := by
  unfold sixW
  refine Keeps.trans ?_ (keeps_setCell (p := ⟨b, o + 5, none⟩) (Nat.le_refl b) (Nat.lt_succ_self b) _)
  refine Keeps.trans ?_ (keeps_setCell (p := ⟨b, o + 4, none⟩) (Nat.le_refl b) (Nat.lt_succ_self b) _)
  refine Keeps.trans ?_ (keeps_setCell (p := ⟨b, o + 3, none⟩) (Nat.le_refl b) (Nat.lt_succ_self b) _)
  refine Keeps.trans ?_ (keeps_setCell (p := ⟨b, o + 2, none⟩) (Nat.le_refl b) (Nat.lt_succ_self b) _)
  refine Keeps.trans ?_ (keeps_setCell (p := ⟨b, o + 1, none⟩) (Nat.le_refl b) (Nat.lt_succ_self b) _)
  refine Keeps.trans ?_ (keeps_setCell (p := ⟨b, o, none⟩) (Nat.le_refl b) (Nat.lt_succ_self b) _)
  exact Keeps.refl _ _ _
end Go.Proofs.YtnpklnpicelcmaaGreat

namespace Go.Proofs.YtnpklnpicelcmaaGreat
open Go.RowKit
set_option linter.unusedVariables false

def obG (f : Nat → Int) (y : Ob) : GM := ⟨y.at_, y.s, y.m, y.o, y.h, none, y.s.toNat, 0, fun k => f (y.at_.toNat + 2 + k)⟩

def gzero : GM := ⟨0, 0, 0, 0, 0, none, 0, 0, fun _ => 0⟩

def xT (f : Nat → Int) (x : Option Ob) : GM := match x with | none => gzero | some y => obG f y

def obT (f : Nat → Int) (L : List Ob) (i : Nat) : GM := xT f L[i]?

theorem GSame.refl (t : GM) : GSame t t := ⟨rfl, rfl, rfl, rfl, rfl, rfl, fun _ _ => rfl⟩

/-- A row of objects comes back, with a code. -/
def RetORG (W : World) (f : Nat → Int) (co : Int) (L : List Ob) (e : Ending) (w' : World) : Prop :=
  ∃ a c T, e = .returned (.agg #[.int .i64 co, .slice a L.length c]) ∧ GVO w' W.heap.size w'.heap.size a L.length T ∧ (∀ i, i < L.length → GSame (T i) (obT f L i)) ∧ Below W.heap.size W w' ∧ L.length ≤ c ∧ c ≤ maxLen

theorem row_cap {w : World} {base e size n c : Nat} {a : Option Addr} {xs : List Value} (h : w.ownsRow base e size (.slice a n c) n xs) : n ≤ c ∧ c ≤ maxLen := by
  rcases h.2 with ⟨h1, h2⟩ | ⟨g, cap, cur, h1, _, _, h4, h5, _⟩
  · simp only [Value.slice.injEq] at h1
    obtain ⟨_, rfl, rfl⟩ := h1
    exact ⟨Nat.le_refl _, Nat.zero_le _⟩
  · simp only [Value.slice.injEq] at h1
    obtain ⟨_, _, rfl⟩ := h1
    exact ⟨h4, h5⟩

theorem gvo_mono {w : World} {lo lo' hi N : Nat} {a : Option Addr} {T : Nat → GM} (h : GVO w lo hi a N T) (hl : lo' ≤ lo) : GVO w lo' hi a N T := by
  rcases h with h0 | ⟨b, q, e, h⟩
  · exact .inl h0
  · exact .inr ⟨b, q, e, Nat.le_trans hl h.glo, h.ghi, h.lt, h.six, h.free, fun i hi => (h.flds i hi).widen hl (Nat.le_refl _), h.off, h.apart⟩

theorem isOI_small {h : Int} {n : Nat} {f : Nat → Int} {ac bu co : Int} {L : List Ob} (hk : IsOI h n f ac bu co L) : L.length ≤ 400 ∧ ∀ y ∈ L, 0 ≤ y.s ∧ y.s ≤ 12 := by
  rcases hk with ⟨_, _, _, _, rfl⟩ | ⟨_, _, _, rfl⟩ | ⟨h4, h5, _⟩
  · exact ⟨Nat.zero_le _, fun y hy => by cases hy⟩
  · exact ⟨Nat.zero_le _, fun y hy => by cases hy⟩
  · obtain ⟨⟨⟨g1, g2⟩, ⟨g3, g4⟩, g5, g6⟩, gn, _⟩ := isFault_ok h4
    have hl := parse_length _ _ L (Nat.le_refl _) h5
    have hb := baseI_bd (ac := ac) g1
    exact ⟨by omega, parse_sizes _ _ L (Nat.le_refl _) h5⟩

/-- What is owed of the program's function. -/
def ImplOI : Prop := ∀ (h ac bu : Int) (a : Option Addr) (n c : Nat) (f : Nat → Int) (co : Int) (L : List Ob) (w : World), Src w a n f → n ≤ c → c ≤ maxLen → IsOI h n f ac bu co L → Calls Tryz.prog 109 #[.agg #[.int .i64 h, .slice a n c, .int .i64 ac, .int .i64 bu]] w (RetORG w f co L)
end Go.Proofs.YtnpklnpicelcmaaGreat

namespace Go.Proofs.YtnpklnpicelcmaaGreat
open Go.RowKit
set_option linter.unusedVariables false

theorem keeps_under {w wr w' : World} {lo hi B : Nat} (h : Keeps w wr lo hi) (hb : Below B wr w') (hB : w.heap.size ≤ B) : Keeps w w' lo hi :=
  ⟨hb.os.trans h.os, hb.tape.trans h.tape, hb.output.trans h.output, Nat.le_trans h.size hb.size, fun k hk hd => (hb.block k (by omega)).trans (h.block k hk hd)⟩
end Go.Proofs.YtnpklnpicelcmaaGreat

namespace Go.Proofs.YtnpklnpicelcmaaGreat
open Go.RowKit
set_option linter.unusedVariables false

/-- The objects stand one behind the other. -/
theorem parse_from {f : Nat → Int} {e : Nat} : ∀ (d a : Nat) (L : List Ob), e - a ≤ d → parse f e a = some L → ∀ x ∈ L, a ≤ x.at_.toNat ∧ 0 ≤ x.at_
  | 0, a, L, hd, hp, x, hx => by
    rw [parse_stop (by omega)] at hp
    cases hp; cases hx
  | d + 1, a, L, hd, hp, x, hx => by
    by_cases h : a < e
    · by_cases hg : Good f e a
      · rw [parse_good h hg] at hp
        obtain ⟨L', hp', rfl⟩ := Option.map_eq_some_iff.mp hp
        rcases List.mem_cons.mp hx with rfl | hx
        · simp [objAt]
        · have := parse_from d _ L' (by omega) hp' x hx
          exact ⟨by omega, this.2⟩
      · rw [parse_bad h hg] at hp; cases hp
    · rw [parse_stop h] at hp
      cases hp; cases hx

theorem isSF_shape {h : Int} {n : Nat} {f : Nat → Int} {ac bu : Int} {L : List Ob} (hk : IsSF h n f ac bu 0) (ho : IsOI h n f ac bu 0 L) : Points f L ∧ Rest f n (baseI ac h).toNat bu.toNat := by
  rcases hk with ⟨_, _, h0⟩ | ⟨_, _, _, h0⟩ | ⟨L', ho', hs, _⟩
  · exact absurd rfl h0
  · cases h0
  · have e := (isOI_zero ho').2.symm.trans (isOI_zero ho).2
    cases e
    rcases hs with ⟨h1, h2, _⟩ | ⟨_, h0⟩
    · exact ⟨h1, h2⟩
    · cases h0
end Go.Proofs.YtnpklnpicelcmaaGreat

namespace Go.Proofs.YtnpklnpicelcmaaGreat
open Go.ChangeShapes Go.WideShapes Go.ChangeAt Go.RowKit Go.Joins Go.Deep
set_option linter.unusedVariables false

theorem Tryz.cellsO22 : Tryz.prog.cellsOf 22 = 1 := by kernel_rfl

theorem Tryz.cellsO2 : Tryz.prog.cellsOf 2 = 1 := by kernel_rfl

instance : Inhabited GM := ⟨gzero⟩

theorem add_none (b off i : Nat) : (⟨b, off, none⟩ : Addr).add i = ⟨b, off + i, none⟩ := by
  rcases i with _ | i <;> simp [Addr.add]

theorem src_ints {W : World} {x : Addr} {l : Nat} {zs : List Int} (hlz : l ≤ zs.length) (hcell : ∀ i, i < zs.length → W.cell? (x.add i) = some (.int .i64 (zs.getD i 0))) : Src W (some x) l (fun i => zs.getD i 0) := by
  by_cases h0 : l = 0
  · exact .inl h0
  · right
    obtain ⟨b, off, spot⟩ := x
    have hc := hcell 0 (by omega)
    have hspot : spot = none := by simpa [Addr.add] using World.cell?_spot hc
    subst hspot
    refine ⟨b, off, rfl, World.block_lt_of_cell? W _ (by simpa [Addr.add] using hc), fun i hi => ?_⟩
    have := hcell i (by omega)
    rwa [add_none] at this
end Go.Proofs.YtnpklnpicelcmaaGreat

namespace Go.Proofs.YtnpklnpicelcmaaGreat
open Go.RowKit
set_option linter.unusedVariables false

theorem isNaN_any (x : Int) (w : World) : Calls Tryz.prog 128 #[.int .i64 x] w (fun e w' => e = .returned (.bool false) ∧ Below w.heap.size w w') := by
  go_enter Tryz.func128, Tryz.ntmps128
  go_wp2
  go_ret
  exact ⟨rfl, Below.refl _ _⟩

def sgn (x y : Int) : Int := if x < y then -1 else if y < x then 1 else 0

set_option maxRecDepth 100000 in
theorem compare_any (x y : Int) (w : World) : Calls Tryz.prog 124 #[.int .i64 x, .int .i64 y] w (fun e w' => e = .returned (.int .i64 (sgn x y)) ∧ Below w.heap.size w w') := by
  have arm : ∀ (W0 : World), True := fun _ => trivial
  by_cases h1 : x < y
  · have hs : sgn x y = -1 := by unfold sgn; rw [if_pos h1]
    rw [hs]
    go_enter Tryz.func124, Tryz.ntmps124
    go_wp2_with (first | (go_at_call 128; refine (isNaN_any x _).mono ?_; rintro e w1 ⟨rfl, hb1⟩) | (go_at_call 128; refine (isNaN_any y _).mono ?_; rintro e w2 ⟨rfl, hb2⟩))
    go_ret
    exact ⟨rfl, hb1.trans (hb2.mono hb1.size)⟩
  · by_cases h2 : y < x
    · have hs : sgn x y = 1 := by unfold sgn; rw [if_neg h1, if_pos h2]
      rw [hs]
      go_enter Tryz.func124, Tryz.ntmps124
      go_wp2_with (first | (go_at_call 128; refine (isNaN_any x _).mono ?_; rintro e w1 ⟨rfl, hb1⟩) | (go_at_call 128; refine (isNaN_any y _).mono ?_; rintro e w2 ⟨rfl, hb2⟩))
      go_ret
      exact ⟨rfl, hb1.trans (hb2.mono hb1.size)⟩
    · have hs : sgn x y = 0 := by unfold sgn; rw [if_neg h1, if_neg h2]
      rw [hs]
      go_enter Tryz.func124, Tryz.ntmps124
      go_wp2_with (first | (go_at_call 128; refine (isNaN_any x _).mono ?_; rintro e w1 ⟨rfl, hb1⟩) | (go_at_call 128; refine (isNaN_any y _).mono ?_; rintro e w2 ⟨rfl, hb2⟩))
      go_ret
      exact ⟨rfl, hb1.trans (hb2.mono hb1.size)⟩

set_option maxRecDepth 100000 in
theorem fo1_any (t : GM) (at_ : Int) (w : World) : Calls Tryz.prog 123 #[.agg #[.int .i64 t.at_, .int .i64 t.s, .int .i64 t.m, .int .i64 t.o, .int .i64 t.h, .slice t.a t.n t.c], .int .i64 at_] w (fun e w' => e = .returned (.int .i64 (sgn t.at_ at_)) ∧ Below w.heap.size w w') := by
  go_enter Tryz.func123, Tryz.ntmps123
  go_wp2_with (go_at_call 124; refine (compare_any t.at_ at_ _).mono ?_; rintro e w1 ⟨rfl, hb1⟩)
  go_ret
  exact ⟨rfl, ((Below.refl _ _).alloc (Nat.le_refl _) _).trans (hb1.mono (by simp))⟩
end Go.Proofs.YtnpklnpicelcmaaGreat

namespace Go.Proofs.YtnpklnpicelcmaaGreat
open Go.RowKit
set_option linter.unusedVariables false

/-- The world stands in the first place where the row is no longer below. -/
def Cut (T : Nat → GM) (N : Nat) (x : Int) (lo hi : Nat) : Prop := (∀ j, j < lo → (T j).at_ < x) ∧ (∀ j, hi ≤ j → j < N → x ≤ (T j).at_)

set_option maxRecDepth 100000 in
set_option maxHeartbeats 1600000 in
theorem bs_any (a : Option Addr) (N k : Nat) (T : Nat → GM) (at_ : Int) (w : World) (hg : GV w a N T) (hN : N ≤ 1048576) (hm : ∀ i j, i < j → j < N → (T i).at_ < (T j).at_) :
    Calls Tryz.prog 122 #[.slice a N k, .int .i64 at_, .func (.func 123) #[] #[]] w (fun e w' => ∃ i : Nat, i ≤ N ∧ Cut T N at_ i i ∧ e = .returned (.tuple #[.int .i64 (i : Int), .bool (decide (i < N ∧ (T i).at_ = at_))]) ∧ Below w.heap.size w w') := by
  have G := Lib.hid hg; have HM := Lib.hid hm
  clear hg hm
  have eg : ∀ args w, (callFunc 123 args).run Tryz.prog w = .ok (.enter 123 args) w := enters_of Tryz.func123 (by kernel_rfl) rfl
  go_enter Tryz.func122, Tryz.ntmps122
  go_wp2
  go_loopw [9, 10] (fun p r wr => ∃ lo hi : Nat, p = .int .i64 (lo : Int) ∧ r = .int .i64 (hi : Int) ∧ lo ≤ hi ∧ hi ≤ N ∧ Hid (Cut T N at_ lo hi) ∧ Hid (Below w.heap.size w wr)) (fun p r _ => (intOf r).toNat - (intOf p).toNat)
  case atStart => exact ⟨0, N, rfl, rfl, Nat.zero_le _, Nat.le_refl _, ⟨fun j hj => by omega, fun j h1 h2 => by omega⟩, Below.refl _ _⟩
  case round =>
    obtain ⟨lo, hi, rfl, rfl, hlh, hin, HC, HBr⟩ := hrel
    by_cases hlt : lo < hi
    · have hlt' : (lo : Int) < (hi : Int) := by omega
      obtain ⟨b, q, rfl, gs⟩ : ∃ b q, a = some ⟨b, q, none⟩ ∧ GSrc w b q N T := by
        rcases G.out with h0 | h
        · omega
        · exact h
      have six := (gs.six ((lo + hi) / 2) (by omega)).below HBr.out gs.lt
      have HS := Lib.hid six
      clear six gs
      obtain ⟨s0, s1, s2, s3, s4, s5⟩ := HS.out
      by_cases hx : (T ((lo + hi) / 2)).at_ < at_
      · have hs : sgn (T ((lo + hi) / 2)).at_ at_ < 0 := by unfold sgn; rw [if_pos hx]; omega
        have C1 : Hid (Cut T N at_ ((lo + hi) / 2 + 1) hi) := Lib.hid ⟨fun j hj => by
          rcases Nat.lt_or_ge j ((lo + hi) / 2) with h | h
          · exact Int.lt_trans (HM.out j _ h (by omega)) hx
          · rw [show j = (lo + hi) / 2 by omega]; exact hx, HC.out.2⟩
        clear hx HC
        go_wp2_with (go_at_fn 123; refine (fo1_any (T _) at_ _).mono ?_; rintro e w1 ⟨rfl, hb1⟩)
        clear hs s0 s1 s2 s3 s4 s5 HS
        have HB1 := Lib.hid (HBr.out.trans ((Below.refl _ _).trans (hb1.mono HBr.out.size)))
        clear hb1
        go_roundw
        case measure => simp [intOf]; omega
        case rel => exact ⟨(lo + hi) / 2 + 1, hi, by go_num, rfl, by omega, hin, C1, HB1⟩
      · have hs : ¬ sgn (T ((lo + hi) / 2)).at_ at_ < 0 := by unfold sgn; rw [if_neg hx]; split <;> omega
        have C1 : Hid (Cut T N at_ lo ((lo + hi) / 2)) := Lib.hid ⟨HC.out.1, fun j h1 h2 => by
          rcases Nat.lt_or_ge ((lo + hi) / 2) j with h | h
          · exact Int.le_of_lt (Int.lt_of_le_of_lt (by omega) (HM.out _ j h h2))
          · rw [show j = (lo + hi) / 2 by omega]; omega⟩
        clear hx HC
        go_wp2_with (go_at_fn 123; refine (fo1_any (T _) at_ _).mono ?_; rintro e w1 ⟨rfl, hb1⟩)
        clear hs s0 s1 s2 s3 s4 s5 HS
        have HB1 := Lib.hid (HBr.out.trans ((Below.refl _ _).trans (hb1.mono HBr.out.size)))
        clear hb1
        go_roundw
        case measure => simp [intOf]; omega
        case rel => exact ⟨lo, (lo + hi) / 2, rfl, by go_num, by omega, by omega, C1, HB1⟩
    · obtain rfl : hi = lo := by omega
      have hlt' : ¬ (hi : Int) < (hi : Int) := by omega
      by_cases hn : hi < N
      · have hn' : (hi : Int) < (N : Int) := by omega
        obtain ⟨b, q, rfl, gs⟩ : ∃ b q, a = some ⟨b, q, none⟩ ∧ GSrc w b q N T := by
          rcases G.out with h0 | h
          · omega
          · exact h
        have six := (gs.six hi hn).below HBr.out gs.lt
        have HS := Lib.hid six
        clear six gs
        obtain ⟨s0, s1, s2, s3, s4, s5⟩ := HS.out
        obtain ⟨t, ht⟩ : ∃ t, T hi = t := ⟨_, rfl⟩
        rw [ht] at s0 s1 s2 s3 s4 s5
        have HT := Lib.hid ht
        clear ht HS
        have hd : Hid ((sgn t.at_ at_ == 0) = decide (hi < N ∧ (T hi).at_ = at_)) := Lib.hid (by
          rw [HT.out]
          by_cases hx : t.at_ = at_
          · have : sgn t.at_ at_ = 0 := by unfold sgn; rw [if_neg (by omega), if_neg (by omega)]
            rw [this, decide_eq_true ⟨hn, hx⟩]; rfl
          · have : ¬ sgn t.at_ at_ = 0 := by unfold sgn; split; omega; split <;> omega
            rw [decide_eq_false (fun h => hx h.2)]; simpa using this)
        go_wp2_with (go_at_fn 123; refine (fo1_any t at_ _).mono ?_; rintro e w1 ⟨rfl, hb1⟩)
        have HB1 := Lib.hid (HBr.out.trans ((Below.refl _ _).trans (hb1.mono HBr.out.size)))
        go_ret2
        exact ⟨hi, hin, HC.out, by rw [← hd.out]; rfl, HB1.out⟩
      · have hn' : ¬ (hi : Int) < (N : Int) := by omega
        have hd : Hid (false = decide (hi < N ∧ (T hi).at_ = at_)) := Lib.hid (decide_eq_false (fun h => hn h.1)).symm
        go_wp2
        go_ret2
        refine ⟨hi, hin, HC.out, ?_, HBr.out⟩
        rw [decide_eq_false hn]; rfl
end Go.Proofs.YtnpklnpicelcmaaGreat

namespace Go.Proofs.YtnpklnpicelcmaaGreat
open Go.RowKit
set_option linter.unusedVariables false

theorem seven_keeps (w : World) (B : Nat) (v0 v1 v2 v3 v4 v5 v6 : Value) : Keeps w (((((((w.setCell ⟨B, 0, none⟩ v0).setCell ⟨B, 1, none⟩ v1).setCell ⟨B, 2, none⟩ v2).setCell ⟨B, 3, none⟩ v3).setCell ⟨B, 4, none⟩ v4).setCell ⟨B, 5, none⟩ v5).setCell ⟨B, 6, none⟩ v6) B (B + 1) := by
  repeat (refine Keeps.trans ?_ (keeps_setCell (p := ⟨B, _, none⟩) (Nat.le_refl B) (Nat.lt_succ_self B) _))
  exact Keeps.refl _ _ _

theorem blk_seven {w : World} {b B : Nat} {cs : List Value} (h : Blk w b cs) (hne : b ≠ B) (v0 v1 v2 v3 v4 v5 v6 : Value) : Blk (((((((w.setCell ⟨B, 0, none⟩ v0).setCell ⟨B, 1, none⟩ v1).setCell ⟨B, 2, none⟩ v2).setCell ⟨B, 3, none⟩ v3).setCell ⟨B, 4, none⟩ v4).setCell ⟨B, 5, none⟩ v5).setCell ⟨B, 6, none⟩ v6) b cs := h.keeps (seven_keeps w B v0 v1 v2 v3 v4 v5 v6) (by omega)

theorem cells5 {w : World} {b : Nat} {v0 v1 v2 v3 v4 : Value} (h : Blk w b [v0, v1, v2, v3, v4]) : w.cell? ⟨b, 0, none⟩ = some v0 ∧ w.cell? ⟨b, 1, none⟩ = some v1 ∧ w.cell? ⟨b, 2, none⟩ = some v2 ∧ w.cell? ⟨b, 3, none⟩ = some v3 ∧ w.cell? ⟨b, 4, none⟩ = some v4 := ⟨h.at 0 rfl, h.at 1 rfl, h.at 2 rfl, h.at 3 rfl, h.at 4 rfl⟩

set_option maxRecDepth 100000 in
set_option maxHeartbeats 400000 in
theorem clone_all (ad : Addr) (n cap : Nat) (f : Nat → Int) (w : World) (hs : Src w (some ad) n f) (hn : n ≤ 1048576) :
    Calls Tryz.prog 57 #[.slice (some ad) n cap] w (RetInts w n f) := by
  rcases Nat.eq_zero_or_pos n with rfl | hp
  · obtain ⟨i0, hi, hz0, hz1, hz2⟩ := info_parts Tryz.info2
    have hnil := fun (w : World) (a : Option Addr) (n c : Nat) => Lib.run_eql_slice_nil (P := Tryz.prog) w 22 2 a n c 0 0 Tryz.underlying22
    go_enter Tryz.func57, Tryz.ntmps57
    go_wp2_with (at_builtin; refine wpList_append_own _ rfl _ _ 22 rfl w.heap.size 2 i0 (.int .i64 0) 1 8 Tryz.underlying22 hi hz0 hz1 hz2 rfl (by decide) _ 0 [] rfl (World.ownsRow_lit w #[] 0 (Nat.le_refl _) (by simp [maxLen]) rfl) ad 0 cap (nums 0 f) rfl (by simp [nums]) (by intro j u h; simp [nums] at h) (nums_one 0 f) (by unfold maxLen; omega) (by omega) (by simp) ?_; intro v' w1 hown hgrow _)
    go_ret
    exact retInts_of_row (e := 2) (by simpa using hown) (((Below.refl _ _).alloc (Nat.le_refl _) _).grown hgrow (by simp) (by intro k hk; cases hk; exact Nat.le_refl _))
  · exact clone_any (some ad) n cap f w hs hp hn

/-- The first object of a row of words comes back, or a code. -/
def RetFirst (W : World) (n : Nat) (f : Nat → Int) (e : Ending) (w' : World) : Prop :=
  Below W.heap.size W w' ∧ ((Good f n 0 ∧ ∃ a c, e = .returned (.agg #[.int .i64 0, .int .i64 0, .int .i64 (f 0 / 2 % 16), .int .i64 (f 0 / 32 % 4096), .int .i64 (f 0 / 131072), .int .i64 (f 1), .slice a (szOf f 0) c]) ∧ Own w' W.heap.size a (szOf f 0) (fun k => f (2 + k))) ∨
    (¬ Good f n 0 ∧ e = .returned (.agg #[.int .i64 1, .int .i64 0, .int .i64 0, .int .i64 0, .int .i64 0, .int .i64 0, .slice none 0 0])))

set_option maxRecDepth 100000 in
set_option maxHeartbeats 1600000 in
theorem implFirst_any (b off n c : Nat) (f : Nat → Int) (w : World) (hs : Src w (some ⟨b, off, none⟩) n f) (hn : n ≤ 1048576) (hnc : n ≤ c) (hcm : c ≤ maxLen) :
    Calls Tryz.prog 126 #[.slice (some ⟨b, off, none⟩) n c] w (RetFirst w n f) := by
  have S := Lib.hid hs
  clear hs
  by_cases h2 : n < 2
  · have h2' : (n : Int) < 2 := by omega
    have hb : Hid (¬ Good f n 0) := Lib.hid (fun h => by have := h.1; omega)
    go_enter Tryz.func126, Tryz.ntmps126
    go_wp2
    refine bodyPost_ret (v := .agg #[.int .i64 1, .int .i64 0, .int .i64 0, .int .i64 0, .int .i64 0, .int .i64 0, .slice none 0 0]) (by simp [results, Tryz.results126, go_sem]) rfl ⟨?_, .inr ⟨hb.out, rfl⟩⟩
    repeat (first | (with_reducible refine Below.setCell ?_ (by (try simp); (try omega)) _) | (with_reducible refine Below.alloc ?_ (by (try simp); (try omega)) _) | (with_reducible refine Below.drew ?_))
    exact Below.refl _ _
  · have h2' : ¬ (n : Int) < 2 := by omega
    have h22 : (2 : Int) ≤ (n : Int) := by omega
    have hnc' : (n : Int) ≤ (c : Int) := by omega
    have hc2 : 2 ≤ c := by omega
    have S2 : Hid (Src w (some ⟨b, off, none⟩) 2 f) := S.out.elim (fun h => .inl (by omega)) (fun ⟨b', o', h1, h3, h4⟩ => .inr ⟨b', o', h1, h3, fun i hi => h4 i (by omega)⟩)
    have HCM := Lib.hid hcm
    clear hcm
    by_cases hk : ROk (f 0) (f 1)
    · have hs12 := hk.2.1
      have HK := Lib.hid hk
      clear hk
      go_enter Tryz.func126, Tryz.ntmps126
      go_wp2_with fail

      refine (implRH_any (some ⟨b, off, none⟩) 2 c f 0 (f 0 / 2 % 16) (f 0 / 32 % 4096) (f 0 / 131072) (f 1) _ (S2.out.alloc _) (by omega) (.inr (.inl ⟨rfl, HK.out, rfl, rfl, rfl, rfl, rfl⟩))).mono ?_
      rintro e w1 ⟨rfl, hb⟩
      have HB1 := Lib.hid (thru1 (Below.refl _ _) hb)
      have R_1 := Lib.hid ((Blk.new_at (w := w) (cs := #[.int .i64 0, .int .i64 0, .int .i64 0, .int .i64 0, .int .i64 0, .int .i64 0, .slice none 0 0]) (t := 172) (w.heap.size) rfl).below hb)
      have S1 := Lib.hid ((S.out.alloc _).below hb)
      have z1 : w.heap.size + 1 ≤ w1.heap.size := by have := hb.size; simp at this; omega
      clear hb
      by_cases hfit : f 0 / 2 % 16 ≤ (n : Int) - 2
      · obtain ⟨s, hs⟩ : ∃ s : Nat, f 0 / 2 % 16 = (s : Int) := ⟨(f 0 / 2 % 16).toNat, by omega⟩
        have hsz : szOf f 0 = s := by unfold szOf; omega
        have hg : Hid (Good f n 0) := Lib.hid ⟨by omega, HK.out, by rw [hsz]; omega⟩
        rw [hs] at hs12 hfit ⊢
        have HSZ := Lib.hid hsz
        clear hsz
        obtain ⟨m, hm⟩ : ∃ m, f 0 / 32 % 4096 = m := ⟨_, rfl⟩
        obtain ⟨o, ho⟩ : ∃ o, f 0 / 131072 = o := ⟨_, rfl⟩
        rw [hm, ho]
        have HES := Lib.hid hs; have HEM := Lib.hid hm; have HEO := Lib.hid ho
        clear hs hm ho
        have X1 := Lib.hid (Blk.new_at (w := w1) (cs := #[.int .i64 0, .int .i64 (s : Int), .int .i64 m, .int .i64 o, .int .i64 (f 1)]) (t := 198) (w1.heap.size) rfl)
        have R1 := Lib.hid (R_1.out.alloc (.cells #[.int .i64 0, .int .i64 (s : Int), .int .i64 m, .int .i64 o, .int .i64 (f 1)] 198))
        have HBa := Lib.hid (HB1.out.alloc HB1.out.size (.cells #[.int .i64 0, .int .i64 (s : Int), .int .i64 m, .int .i64 o, .int .i64 (f 1)] 198))
        have S3 : Hid (Src (w1.alloc (.cells #[.int .i64 0, .int .i64 (s : Int), .int .i64 m, .int .i64 o, .int .i64 (f 1)] 198)) (some ⟨b, off + 2, none⟩) s (fun k => f (2 + k))) := (S1.out.alloc _).elim (fun h => .inl (by omega)) (fun ⟨b', o', h1, h3, h4⟩ => .inr ⟨b', o' + 2, by cases h1; rfl, h3, fun i hi => by rw [show o' + 2 + i = o' + (2 + i) by omega]; exact h4 (2 + i) (by omega)⟩)
        have X1d := Lib.hid X1.out.drew; have R1d := Lib.hid R1.out.drew; have S3d := Lib.hid S3.out.drew; have HBd := Lib.hid HBa.out.drew
        have zd' : Hid (w.heap.size + 2 ≤ (w1.alloc (.cells #[.int .i64 0, .int .i64 (s : Int), .int .i64 m, .int .i64 o, .int .i64 (f 1)] 198)).drew.heap.size) := Lib.hid (by simp [World.drew]; omega)
        have hne7 : w1.heap.size ≠ w.heap.size := by omega
        have hs0 : (0 : Int) ≤ (s : Int) := by omega
        have hle1 : (2 : Int) ≤ 2 + (s : Int) := by omega
        have hle2 : 2 + (s : Int) ≤ (c : Int) := by omega
        have hs9 : s ≤ 1048576 := by omega
        by_cases hc : c = 2
        · have hz0 : Hid (s = 0) := Lib.hid (by omega)
          have S4d : Hid (Src (w1.alloc (.cells #[.int .i64 0, .int .i64 (s : Int), .int .i64 m, .int .i64 o, .int .i64 (f 1)] 198)).drew (some ⟨b, off, none⟩) s (fun k => f (2 + k))) := Lib.hid (Or.inl hz0.out)
          subst hc
          have lR := R_1.out.1; have cR0 := R_1.out.at 0 rfl; have fR0 := R_1.out.free 0 rfl; have cR1 := R_1.out.at 1 rfl; have fR1 := R_1.out.free 1 rfl; have cR2 := R_1.out.at 2 rfl; have fR2 := R_1.out.free 2 rfl; have cR3 := R_1.out.at 3 rfl; have fR3 := R_1.out.free 3 rfl; have cR4 := R_1.out.at 4 rfl; have fR4 := R_1.out.free 4 rfl; have cR5 := R_1.out.at 5 rfl; have fR5 := R_1.out.free 5 rfl; have cR6 := R_1.out.at 6 rfl; have fR6 := R_1.out.free 6 rfl
          go_wp2_with fail
          clear lR cR0 fR0 cR1 fR1 cR2 fR2 cR3 fR3 cR4 fR4 cR5 fR5 cR6 fR6
          clear hle1 hle2 hfit hs12 hnc' hc2 h22 h2' h2 hn hnc S S2 S1 X1 R1 HBa S3 R_1 HB1 HCM HK hs0
          go_region_held3 (fun w' => w'.cell? ⟨w1.heap.size, 0, none⟩ = some (.int .i64 0) ∧ w'.cell? ⟨w1.heap.size, 1, none⟩ = some (.int .i64 (s : Int)) ∧ w'.cell? ⟨w1.heap.size, 2, none⟩ = some (.int .i64 m) ∧ w'.cell? ⟨w1.heap.size, 3, none⟩ = some (.int .i64 o) ∧ w'.cell? ⟨w1.heap.size, 4, none⟩ = some (.int .i64 (f 1)))
            (first | (with_reducible exact cells5 X1d.out) | (with_reducible exact cells5 X2.out) | (with_reducible exact cells5 (blk_seven X2.out hne7 _ _ _ _ _ _ _)))
            (first | (go_at_call 57; refine (clone_all ⟨b, off, none⟩ s _ (fun k => f (2 + k)) _ S4d.out hs9).mono ?_; rintro e w2 ⟨g, cg, rfl, ho, hb, _, _, _⟩; have HB2 := Lib.hid (HBd.out.trans (hb.mono HBd.out.size)); have X2 := Lib.hid (X1d.out.below hb); have R2 := Lib.hid (R1d.out.below hb); have z2 := hb.size; have HO := Lib.hid (ho.mono zd'.out); clear hb ho; have lR := R2.out.1; have cR0 := R2.out.at 0 rfl; have fR0 := R2.out.free 0 rfl; have cR1 := R2.out.at 1 rfl; have fR1 := R2.out.free 1 rfl; have cR2 := R2.out.at 2 rfl; have fR2 := R2.out.free 2 rfl; have cR3 := R2.out.at 3 rfl; have fR3 := R2.out.free 3 rfl; have cR4 := R2.out.at 4 rfl; have fR4 := R2.out.free 4 rfl; have cR5 := R2.out.at 5 rfl; have fR5 := R2.out.free 5 rfl; have cR6 := R2.out.at 6 rfl; have fR6 := R2.out.free 6 rfl))
          go_wp2
          refine bodyPost_ret (v := .agg #[.int .i64 0, .int .i64 0, .int .i64 (s : Int), .int .i64 m, .int .i64 o, .int .i64 (f 1), .slice g s cg]) (by simp [results, Tryz.results126, go_sem, cR0, cR1, cR2, cR3, cR4, cR5, cR6]) rfl ⟨?_, .inl ⟨hg.out, g, cg, by rw [HSZ.out, HES.out, HEM.out, HEO.out], ?_⟩⟩
          · repeat (first | (with_reducible refine Below.setCell ?_ (by (try simp); (try omega)) _) | (with_reducible refine Below.alloc ?_ (by (try simp); (try omega)) _) | (with_reducible refine Below.drew ?_))
            exact HB2.out
          · rw [HSZ.out]
            refine Own.mono (B := w.heap.size + 2) ?_ (by omega)
            repeat (first | (with_reducible refine Own.setCell ?_ (by (try simp); (try omega)) _) | (with_reducible refine Own.alloc ?_ _) | (with_reducible refine Own.drew ?_))
            exact HO.out
        · have lR := R_1.out.1; have cR0 := R_1.out.at 0 rfl; have fR0 := R_1.out.free 0 rfl; have cR1 := R_1.out.at 1 rfl; have fR1 := R_1.out.free 1 rfl; have cR2 := R_1.out.at 2 rfl; have fR2 := R_1.out.free 2 rfl; have cR3 := R_1.out.at 3 rfl; have fR3 := R_1.out.free 3 rfl; have cR4 := R_1.out.at 4 rfl; have fR4 := R_1.out.free 4 rfl; have cR5 := R_1.out.at 5 rfl; have fR5 := R_1.out.free 5 rfl; have cR6 := R_1.out.at 6 rfl; have fR6 := R_1.out.free 6 rfl
          go_wp2_with fail
          clear lR cR0 fR0 cR1 fR1 cR2 fR2 cR3 fR3 cR4 fR4 cR5 fR5 cR6 fR6
          clear hle1 hle2 hfit hs12 hnc' hc2 h22 h2' h2 hn hnc S S2 S1 X1 R1 HBa S3 R_1 HB1 HCM HK hs0
          go_region_held3 (fun w' => w'.cell? ⟨w1.heap.size, 0, none⟩ = some (.int .i64 0) ∧ w'.cell? ⟨w1.heap.size, 1, none⟩ = some (.int .i64 (s : Int)) ∧ w'.cell? ⟨w1.heap.size, 2, none⟩ = some (.int .i64 m) ∧ w'.cell? ⟨w1.heap.size, 3, none⟩ = some (.int .i64 o) ∧ w'.cell? ⟨w1.heap.size, 4, none⟩ = some (.int .i64 (f 1)))
            (first | (with_reducible exact cells5 X1d.out) | (with_reducible exact cells5 X2.out) | (with_reducible exact cells5 (blk_seven X2.out hne7 _ _ _ _ _ _ _)))
            (first | (go_at_call 57; refine (clone_all ⟨b, off + 2, none⟩ s _ (fun k => f (2 + k)) _ S3d.out hs9).mono ?_; rintro e w2 ⟨g, cg, rfl, ho, hb, _, _, _⟩; have HB2 := Lib.hid (HBd.out.trans (hb.mono HBd.out.size)); have X2 := Lib.hid (X1d.out.below hb); have R2 := Lib.hid (R1d.out.below hb); have z2 := hb.size; have HO := Lib.hid (ho.mono zd'.out); clear hb ho; have lR := R2.out.1; have cR0 := R2.out.at 0 rfl; have fR0 := R2.out.free 0 rfl; have cR1 := R2.out.at 1 rfl; have fR1 := R2.out.free 1 rfl; have cR2 := R2.out.at 2 rfl; have fR2 := R2.out.free 2 rfl; have cR3 := R2.out.at 3 rfl; have fR3 := R2.out.free 3 rfl; have cR4 := R2.out.at 4 rfl; have fR4 := R2.out.free 4 rfl; have cR5 := R2.out.at 5 rfl; have fR5 := R2.out.free 5 rfl; have cR6 := R2.out.at 6 rfl; have fR6 := R2.out.free 6 rfl))
          go_wp2
          refine bodyPost_ret (v := .agg #[.int .i64 0, .int .i64 0, .int .i64 (s : Int), .int .i64 m, .int .i64 o, .int .i64 (f 1), .slice g s cg]) (by simp [results, Tryz.results126, go_sem, cR0, cR1, cR2, cR3, cR4, cR5, cR6]) rfl ⟨?_, .inl ⟨hg.out, g, cg, by rw [HSZ.out, HES.out, HEM.out, HEO.out], ?_⟩⟩
          · repeat (first | (with_reducible refine Below.setCell ?_ (by (try simp); (try omega)) _) | (with_reducible refine Below.alloc ?_ (by (try simp); (try omega)) _) | (with_reducible refine Below.drew ?_))
            exact HB2.out
          · rw [HSZ.out]
            refine Own.mono (B := w.heap.size + 2) ?_ (by omega)
            repeat (first | (with_reducible refine Own.setCell ?_ (by (try simp); (try omega)) _) | (with_reducible refine Own.alloc ?_ _) | (with_reducible refine Own.drew ?_))
            exact HO.out
      · have hs12' := hs12
        have hb : Hid (¬ Good f n 0) := Lib.hid (fun h => by have h3 := h.2.2; unfold szOf at h3; omega)
        have hd : (n : Int) - 2 < f 0 / 2 % 16 := by omega
        have lR := R_1.out.1; have cR0 := R_1.out.at 0 rfl; have fR0 := R_1.out.free 0 rfl; have cR1 := R_1.out.at 1 rfl; have fR1 := R_1.out.free 1 rfl; have cR2 := R_1.out.at 2 rfl; have fR2 := R_1.out.free 2 rfl; have cR3 := R_1.out.at 3 rfl; have fR3 := R_1.out.free 3 rfl; have cR4 := R_1.out.at 4 rfl; have fR4 := R_1.out.free 4 rfl; have cR5 := R_1.out.at 5 rfl; have fR5 := R_1.out.free 5 rfl; have cR6 := R_1.out.at 6 rfl; have fR6 := R_1.out.free 6 rfl
        go_wp2
        refine bodyPost_ret (v := .agg #[.int .i64 1, .int .i64 0, .int .i64 0, .int .i64 0, .int .i64 0, .int .i64 0, .slice none 0 0]) (by simp [results, Tryz.results126, go_sem, lR, cR0, cR1, cR2, cR3, cR4, cR5, cR6]) rfl ⟨?_, .inr ⟨hb.out, rfl⟩⟩
        repeat (first | (with_reducible refine Below.setCell ?_ (by (try simp); (try omega)) _) | (with_reducible refine Below.alloc ?_ (by (try simp); (try omega)) _) | (with_reducible refine Below.drew ?_))
        exact HB1.out
    · have HK := Lib.hid hk
      clear hk
      have hb : Hid (¬ Good f n 0) := Lib.hid (fun h => HK.out h.2.1)
      go_enter Tryz.func126, Tryz.ntmps126
      go_wp2_with fail

      refine (implRH_any (some ⟨b, off, none⟩) 2 c f 1 0 0 0 0 _ (S2.out.alloc _) (by omega) (.inr (.inr ⟨rfl, HK.out, rfl, rfl, rfl, rfl, rfl⟩))).mono ?_
      rintro e w1 ⟨rfl, hb⟩
      have HB1 := Lib.hid (thru1 (Below.refl _ _) hb)
      have R_1 := Lib.hid ((Blk.new_at (w := w) (cs := #[.int .i64 0, .int .i64 0, .int .i64 0, .int .i64 0, .int .i64 0, .int .i64 0, .slice none 0 0]) (t := 172) (w.heap.size) rfl).below hb)
      have S1 := Lib.hid ((S.out.alloc _).below hb)
      have z1 : w.heap.size + 1 ≤ w1.heap.size := by have := hb.size; simp at this; omega
      clear hb
      have lR := R_1.out.1; have cR0 := R_1.out.at 0 rfl; have fR0 := R_1.out.free 0 rfl; have cR1 := R_1.out.at 1 rfl; have fR1 := R_1.out.free 1 rfl; have cR2 := R_1.out.at 2 rfl; have fR2 := R_1.out.free 2 rfl; have cR3 := R_1.out.at 3 rfl; have fR3 := R_1.out.free 3 rfl; have cR4 := R_1.out.at 4 rfl; have fR4 := R_1.out.free 4 rfl; have cR5 := R_1.out.at 5 rfl; have fR5 := R_1.out.free 5 rfl; have cR6 := R_1.out.at 6 rfl; have fR6 := R_1.out.free 6 rfl
      go_wp2
      refine bodyPost_ret (v := .agg #[.int .i64 1, .int .i64 0, .int .i64 0, .int .i64 0, .int .i64 0, .int .i64 0, .slice none 0 0]) (by simp [results, Tryz.results126, go_sem, lR, cR0, cR1, cR2, cR3, cR4, cR5, cR6]) rfl ⟨?_, .inr ⟨hb.out, rfl⟩⟩
      repeat (first | (with_reducible refine Below.setCell ?_ (by (try simp); (try omega)) _) | (with_reducible refine Below.alloc ?_ (by (try simp); (try omega)) _) | (with_reducible refine Below.drew ?_))
      exact HB1.out
end Go.Proofs.YtnpklnpicelcmaaGreat

namespace Go.Proofs.YtnpklnpicelcmaaGreat
open Go.RowKit
set_option linter.unusedVariables false

/-- An object is found in a row, or there is none. -/
def RetFound (W : World) (N : Nat) (T : Nat → GM) (x : Int) (e : Ending) (w' : World) : Prop :=
  Below W.heap.size W w' ∧ ((∃ i, i < N ∧ (T i).at_ = x ∧ e = .returned (.agg #[.int .i64 0, .int .i64 (T i).at_, .int .i64 (T i).s, .int .i64 (T i).m, .int .i64 (T i).o, .int .i64 (T i).h, .slice (T i).a (T i).n (T i).c])) ∨ ((∀ i, i < N → ¬ (T i).at_ = x) ∧ e = .returned (.agg #[.int .i64 4, .int .i64 0, .int .i64 0, .int .i64 0, .int .i64 0, .int .i64 0, .slice none 0 0])))

set_option maxRecDepth 100000 in
set_option maxHeartbeats 1600000 in
theorem find_any (a : Option Addr) (N k : Nat) (T : Nat → GM) (x : Int) (w : World) (hg : GV w a N T) (hN : N ≤ 1048576) (hm : ∀ i j, i < j → j < N → (T i).at_ < (T j).at_) :
    Calls Tryz.prog 113 #[.slice a N k, .int .i64 x] w (RetFound w N T x) := by
  have G := Lib.hid hg; have HM := Lib.hid hm
  clear hg hm
  go_enter Tryz.func113, Tryz.ntmps113
  go_wp2_with fail
  refine (bs_any a N k T x _ (G.out.alloc _) hN HM.out).mono ?_
  rintro e w1 ⟨i, hi, hc, rfl, hb⟩
  have HB1 := Lib.hid (thru1 (Below.refl _ _) hb)
  have R_1 := Lib.hid ((Blk.new_at (w := w) (cs := #[.int .i64 0, .int .i64 0, .int .i64 0, .int .i64 0, .int .i64 0, .int .i64 0, .slice none 0 0]) (t := 172) (w.heap.size) rfl).below hb)
  have G1 := Lib.hid ((G.out.alloc _).below hb)
  have z1 : w.heap.size + 1 ≤ w1.heap.size := by have := hb.size; simp at this; omega
  clear hb
  have HC := Lib.hid hc
  clear hc
  by_cases hx : i < N ∧ (T i).at_ = x
  · rw [decide_eq_true hx]
    obtain ⟨b, q, rfl, gs⟩ : ∃ b q, a = some ⟨b, q, none⟩ ∧ GSrc w1 b q N T := by
      rcases G1.out with h0 | h
      · omega
      · exact h
    have HS := Lib.hid (gs.six i hx.1)
    clear gs
    have hi' : (i : Int) < (N : Int) := by omega
    have hi0 : (0 : Int) ≤ (i : Int) := by omega
    obtain ⟨t, ht⟩ : ∃ t, T i = t := ⟨_, rfl⟩
    have HP : Hid (∃ i, i < N ∧ (T i).at_ = x ∧ Ending.returned (.agg #[.int .i64 0, .int .i64 t.at_, .int .i64 t.s, .int .i64 t.m, .int .i64 t.o, .int .i64 t.h, .slice t.a t.n t.c]) = Ending.returned (.agg #[.int .i64 0, .int .i64 (T i).at_, .int .i64 (T i).s, .int .i64 (T i).m, .int .i64 (T i).o, .int .i64 (T i).h, .slice (T i).a (T i).n (T i).c])) := Lib.hid ⟨i, hx.1, hx.2, by rw [ht]⟩
    have HS' : Hid (SixG w1 b (q + i * 6) t) := Lib.hid (by rw [← ht]; exact HS.out)
    clear HS hx ht HC
    obtain ⟨s0, s1, s2, s3, s4, s5⟩ := HS'.out
    have lR := R_1.out.1; have cR0 := R_1.out.at 0 rfl; have fR0 := R_1.out.free 0 rfl; have cR1 := R_1.out.at 1 rfl; have fR1 := R_1.out.free 1 rfl; have cR2 := R_1.out.at 2 rfl; have fR2 := R_1.out.free 2 rfl; have cR3 := R_1.out.at 3 rfl; have fR3 := R_1.out.free 3 rfl; have cR4 := R_1.out.at 4 rfl; have fR4 := R_1.out.free 4 rfl; have cR5 := R_1.out.at 5 rfl; have fR5 := R_1.out.free 5 rfl; have cR6 := R_1.out.at 6 rfl; have fR6 := R_1.out.free 6 rfl
    go_wp2
    refine bodyPost_ret (v := .agg #[.int .i64 0, .int .i64 t.at_, .int .i64 t.s, .int .i64 t.m, .int .i64 t.o, .int .i64 t.h, .slice t.a t.n t.c]) (by simp [results, Tryz.results113, go_sem, cR0, cR1, cR2, cR3, cR4, cR5, cR6]) rfl ⟨?_, .inl HP.out⟩
    repeat (first | (with_reducible refine Below.setCell ?_ (by (try simp); (try omega)) _) | (with_reducible refine Below.alloc ?_ (by (try simp); (try omega)) _) | (with_reducible refine Below.drew ?_))
    exact HB1.out
  · rw [decide_eq_false hx]
    have HP : Hid (∀ i, i < N → ¬ (T i).at_ = x) := Lib.hid (fun j hj he => by
      rcases Nat.lt_or_ge j i with h | h
      · have := HC.out.1 j h; omega
      · have h2 := HC.out.2 i (Nat.le_refl _) (by omega)
        rcases Nat.lt_or_ge i j with h3 | h3
        · have := HM.out i j h3 hj; omega
        · exact hx ⟨by omega, by rw [show i = j by omega]; exact he⟩)
    clear hx HC
    have lR := R_1.out.1; have cR0 := R_1.out.at 0 rfl; have fR0 := R_1.out.free 0 rfl; have cR1 := R_1.out.at 1 rfl; have fR1 := R_1.out.free 1 rfl; have cR2 := R_1.out.at 2 rfl; have fR2 := R_1.out.free 2 rfl; have cR3 := R_1.out.at 3 rfl; have fR3 := R_1.out.free 3 rfl; have cR4 := R_1.out.at 4 rfl; have fR4 := R_1.out.free 4 rfl; have cR5 := R_1.out.at 5 rfl; have fR5 := R_1.out.free 5 rfl; have cR6 := R_1.out.at 6 rfl; have fR6 := R_1.out.free 6 rfl
    go_wp2
    refine bodyPost_ret (v := .agg #[.int .i64 4, .int .i64 0, .int .i64 0, .int .i64 0, .int .i64 0, .int .i64 0, .slice none 0 0]) (by simp [results, Tryz.results113, go_sem, cR0, cR1, cR2, cR3, cR4, cR5, cR6]) rfl ⟨?_, .inr ⟨HP.out, rfl⟩⟩
    repeat (first | (with_reducible refine Below.setCell ?_ (by (try simp); (try omega)) _) | (with_reducible refine Below.alloc ?_ (by (try simp); (try omega)) _) | (with_reducible refine Below.drew ?_))
    exact HB1.out
end Go.Proofs.YtnpklnpicelcmaaGreat

namespace Go.Proofs.YtnpklnpicelcmaaGreat
open Go.RowKit
set_option linter.unusedVariables false

/-- A field as the program has it. -/
def fieldV (r : Bool) (v : Int) : Value := .iface (if r then 109 else 196) (.int .i64 v)

set_option maxRecDepth 100000 in
set_option maxHeartbeats 800000 in
theorem fieldOf_any (s m o h i v : Int) (r : Bool) (w : World) (hk : IsIP s m o h i r) : Calls Tryz.prog 121 #[.agg #[.int .i64 s, .int .i64 m, .int .i64 o, .int .i64 h], .int .i64 i, .int .i64 v] w (fun e w' => e = .returned (fieldV r v) ∧ Below w.heap.size w w') := by
  have HK := Lib.hid hk
  clear hk
  go_enter Tryz.func121, Tryz.ntmps121
  go_wp2_with fail
  refine (implIP_any s m o h i r _ HK.out).mono ?_
  rintro e w1 ⟨rfl, hb⟩
  have HB1 := Lib.hid (thru1 (Below.refl _ _) hb)
  clear hb
  cases r
  all_goals
    go_wp2
    go_ret
    exact ⟨rfl, HB1.out⟩

set_option maxRecDepth 100000 in
theorem place_any (v : Int) (w : World) (h1 : -1000000000 ≤ v) (h2 : v ≤ 1000000000) : Calls Tryz.prog 61 #[.int .i64 v] w (fun e w' => e = .returned (.int .i64 (v - 1)) ∧ Below w.heap.size w w') := by
  go_enter Tryz.func61, Tryz.ntmps61
  go_wp2
  go_ret
  exact ⟨rfl, Below.refl _ _⟩

set_option maxRecDepth 100000 in
theorem word_ptr (v : Int) (w : World) : Calls Tryz.prog 62 #[.int .i64 v] w (fun e w' => e = .returned (.int .i64 v) ∧ Below w.heap.size w w') := by
  go_enter Tryz.func62, Tryz.ntmps62
  go_wp2
  go_ret
  exact ⟨rfl, Below.refl _ _⟩

theorem as_ptr (v : Value) (w : World) : (Instr.typeAssert (.iface 109 v) 185 109 true).run Tryz.prog w = .ok (.tuple #[v, .bool true]) w := by kernel_rfl

theorem as_plain (v : Value) (w : World) : (Instr.typeAssert (.iface 196 v) 185 109 true).run Tryz.prog w = .ok (.tuple #[.int .i64 0, .bool false]) w := by kernel_rfl

set_option maxRecDepth 100000 in
set_option maxHeartbeats 800000 in
theorem may_plain (ob : Value) (owner v : Int) (w : World) : Calls Tryz.prog 120 #[ob, .int .i64 owner, .iface 196 (.int .i64 v)] w (RetBool w true) := by
  have ha := as_plain
  go_enter Tryz.func120, Tryz.ntmps120
  go_wp2
  go_ret
  exact ⟨rfl, Below.refl _ _⟩

/-- Whether a field of an object of this owner may be v. -/
def MayG (N : Nat) (T : Nat → GM) (owner v : Int) : Prop := v = 0 ∨ ∃ i, i < N ∧ (T i).at_ = v - 1 ∧ (T i).o = owner

set_option maxRecDepth 100000 in
set_option maxHeartbeats 1600000 in
theorem may_ptr (a : Option Addr) (N k : Nat) (T : Nat → GM) (owner v : Int) (r : Bool) (w : World) (hg : GV w a N T) (hN : N ≤ 1048576) (hm : ∀ i j, i < j → j < N → (T i).at_ < (T j).at_) (h1 : -1000000000 ≤ v) (h2 : v ≤ 1000000000) (hr : r = true ↔ MayG N T owner v) :
    Calls Tryz.prog 120 #[.slice a N k, .int .i64 owner, .iface 109 (.int .i64 v)] w (RetBool w r) := by
  have G := Lib.hid hg; have HM := Lib.hid hm; have HR := Lib.hid hr
  clear hg hm hr
  by_cases h0 : v = 0
  · obtain rfl : r = true := HR.out.2 (.inl h0)
    have ha := as_ptr
    go_enter Tryz.func120, Tryz.ntmps120
    go_wp2
    go_ret
    exact ⟨rfl, Below.refl _ _⟩
  · have hr0 : r = true ↔ ∃ i, i < N ∧ (T i).at_ = v - 1 ∧ (T i).o = owner := ⟨fun h => (HR.out.1 h).resolve_left h0, fun h => HR.out.2 (.inr h)⟩
    have HR0 := Lib.hid hr0
    clear hr0 HR
    have ha := as_ptr
    go_enter Tryz.func120, Tryz.ntmps120
    go_wp2_with (go_at_call 61; refine (place_any v _ h1 h2).mono ?_; rintro e w1 ⟨rfl, hb1⟩; have G1 := Lib.hid (G.out.below hb1); have HB1 := Lib.hid hb1; clear hb1)
    refine (find_any a N k T (v - 1) _ G1.out hN HM.out).mono ?_
    rintro e w2 ⟨hb, hc⟩
    have HB2 := Lib.hid (HB1.out.trans (hb.mono HB1.out.size))
    clear hb
    rcases hc with ⟨i, hi, hx, rfl⟩ | ⟨hx, rfl⟩
    · have hu : ∀ j, j < N → (T j).at_ = v - 1 → j = i := fun j hj hjx => by
        rcases Nat.lt_trichotomy i j with h | h | h
        · have := HM.out i j h hj; omega
        · exact h.symm
        · have := HM.out j i h hi; omega
      have HV : Hid (decide ((T i).o = owner) = r) := Lib.hid (by
        cases r with
        | true => obtain ⟨j, hj, hjx, ho⟩ := HR0.out.1 rfl; rw [← hu j hj hjx]; exact decide_eq_true ho
        | false => exact decide_eq_false fun h => by have := HR0.out.2 ⟨i, hi, hx, h⟩; cases this)
      clear hu
      go_wp2
      go_ret
      exact ⟨by rw [← HV.out]; (first | rfl | (simp; done) | (trace_state; fail)), HB2.out.alloc HB2.out.size _⟩
    · have hf : r = false := by
        cases r with
        | false => rfl
        | true => obtain ⟨j, hj, hjx, ho⟩ := HR0.out.1 rfl; exact absurd hjx (hx j hj)
      subst hf
      clear hx
      go_wp2
      go_ret
      exact ⟨rfl, HB2.out.alloc HB2.out.size _⟩
end Go.Proofs.YtnpklnpicelcmaaGreat

namespace Go.Proofs.YtnpklnpicelcmaaGreat
open Go.RowKit
set_option linter.unusedVariables false

/-- What heads and words the objects of a row have. -/
def Heads (N : Nat) (T : Nat → GM) : Prop := ∀ i, i < N → HOk (T i).s (T i).m (T i).o (T i).h ∧ (T i).n = (T i).s.toNat ∧ ∀ k, k < (T i).n → -1000000000 ≤ (T i).f k ∧ (T i).f k ≤ 1000000000

/-- Each pointer may be there. -/
def PtG (N : Nat) (T : Nat → GM) : Prop := ∀ i, i < N → ∀ k : Nat, k < (T i).n → (T i).m / P2 k % 2 = 1 → MayG N T (T i).o ((T i).f k)

theorem mid4 {w : World} {b : Nat} {v0 v1 v2 v3 v4 v5 : Value} (h : Blk w b [v0, v1, v2, v3, v4, v5]) : w.cell? ⟨b, 1, none⟩ = some v1 ∧ w.cell? ⟨b, 2, none⟩ = some v2 ∧ w.cell? ⟨b, 3, none⟩ = some v3 ∧ w.cell? ⟨b, 4, none⟩ = some v4 := ⟨h.at 1 rfl, h.at 2 rfl, h.at 3 rfl, h.at 4 rfl⟩

set_option maxRecDepth 100000 in
set_option maxHeartbeats 3200000 in
theorem stray_any (a : Option Addr) (N kk : Nat) (T : Nat → GM) (r : Bool) (w : World) (hg : GV w a N T) (hN : N ≤ 1048576) (hm : ∀ i j, i < j → j < N → (T i).at_ < (T j).at_) (hh : Heads N T) (hr : r = true ↔ ¬ PtG N T) :
    Calls Tryz.prog 110 #[.slice a N kk] w (RetBool w r) := by
  have G := Lib.hid hg; have HM := Lib.hid hm; have HH := Lib.hid hh; have HR := Lib.hid hr
  clear hg hm hh hr
  go_enter Tryz.func110, Tryz.ntmps110
  go_wp2
  go_loopw [9] (fun p wr => ∃ i : Nat, i ≤ N ∧ p = .int .i64 (i : Int) ∧ Hid (Below w.heap.size w wr) ∧ Hid (∀ j, j < i → ∀ k : Nat, k < (T j).n → (T j).m / P2 k % 2 = 1 → MayG N T (T j).o ((T j).f k))) (fun p _ => N - (intOf p).toNat)
  case atStart => exact ⟨0, Nat.zero_le _, rfl, Below.refl _ _, Lib.hid (fun j hj => by omega)⟩
  case round =>
    obtain ⟨i, hi, rfl, HBr, HPT⟩ := hrel
    by_cases hlt : i < N
    · have hlt' : (i : Int) < (N : Int) := by omega
      have hi0 : (0 : Int) ≤ (i : Int) := by omega
      obtain ⟨b, q, rfl, gs⟩ : ∃ b q, a = some ⟨b, q, none⟩ ∧ GSrc w b q N T := by
        rcases G.out with h0 | h
        · omega
        · exact h
      have six := (gs.six i hlt).below HBr.out gs.lt
      have src := (gs.flds i hlt).below HBr.out
      have hhd := HH.out i hlt
      have hpi : Hid (∀ r : Prop, (∀ k : Nat, k < (T i).n → (T i).m / P2 k % 2 = 1 → MayG N T (T i).o ((T i).f k)) → (∀ j, j < i + 1 → ∀ k : Nat, k < (T j).n → (T j).m / P2 k % 2 = 1 → MayG N T (T j).o ((T j).f k))) := Lib.hid (fun _ h j hj => by
        rcases Nat.lt_succ_iff_lt_or_eq.mp hj with h' | h'
        · exact HPT.out j h'
        · subst h'; exact h)
      have hbad : Hid (∀ k : Nat, k < (T i).n → (T i).m / P2 k % 2 = 1 → ¬ MayG N T (T i).o ((T i).f k) → r = true) := Lib.hid (fun k h1 h2 h3 => HR.out.2 fun hp => h3 (hp i hlt k h1 h2))
      obtain ⟨t, ht⟩ : ∃ t, T i = t := ⟨_, rfl⟩
      rw [ht] at six src hhd hpi hbad
      have HT := Lib.hid ht
      clear ht gs
      obtain ⟨hok, htn, hwd⟩ := hhd
      have ht12 : t.n ≤ 12 := by have := hok.1; omega
      have hst : t.s = (t.n : Int) := by have := hok.1; omega
      have HOK := Lib.hid hok; have HWD := Lib.hid hwd; have HS := Lib.hid six; have SR := Lib.hid src; have HTN := Lib.hid htn; have HST := Lib.hid hst
      clear hok hwd six src htn hst
      obtain ⟨s0, s1, s2, s3, s4, s5⟩ := HS.out
      obtain ⟨B, hB⟩ : ∃ B, wr.heap.size = B := ⟨_, rfl⟩
      have HX0 : Hid (Blk (wr.alloc (.cells #[.int .i64 t.at_, .int .i64 t.s, .int .i64 t.m, .int .i64 t.o, .int .i64 t.h, .slice t.a t.n t.c] 102)) B [.int .i64 t.at_, .int .i64 t.s, .int .i64 t.m, .int .i64 t.o, .int .i64 t.h, .slice t.a t.n t.c]) := Lib.hid (by rw [← hB]; exact Blk.new _ _ _)
      have HB0 := Lib.hid (HBr.out.alloc HBr.out.size (.cells #[.int .i64 t.at_, .int .i64 t.s, .int .i64 t.m, .int .i64 t.o, .int .i64 t.h, .slice t.a t.n t.c] 102))
      have SR0 := Lib.hid (SR.out.alloc (.cells #[.int .i64 t.at_, .int .i64 t.s, .int .i64 t.m, .int .i64 t.o, .int .i64 t.h, .slice t.a t.n t.c] 102))
      have hBw : w.heap.size ≤ B := by have := HBr.out.size; omega
      have HBE := Lib.hid hB
      clear hB SR HS
      go_wp2
      clear s0 s1 s2 s3 s4 s5
      rw [HBE.out]
      generalize wr.alloc (.cells #[.int .i64 t.at_, .int .i64 t.s, .int .i64 t.m, .int .i64 t.o, .int .i64 t.h, .slice t.a t.n t.c] 102) = W1 at *
      go_loopw [16] (fun p wq => ∃ k : Nat, k ≤ t.n ∧ p = .int .i64 (k : Int) ∧ Hid (Below w.heap.size w wq) ∧ Hid (Blk wq B [.int .i64 t.at_, .int .i64 t.s, .int .i64 t.m, .int .i64 t.o, .int .i64 t.h, .slice t.a t.n t.c]) ∧ Hid (Src wq t.a t.n t.f) ∧ Hid (∀ k' : Nat, k' < k → t.m / P2 k' % 2 = 1 → MayG N T t.o (t.f k'))) (fun p _ => t.n - (intOf p).toNat)
      case atStart => exact ⟨0, Nat.zero_le _, rfl, HB0, HX0, SR0, Lib.hid (fun k hk => by omega)⟩
      clear HB0 HX0 SR0 HBr
      case round =>
        obtain ⟨k, hk, rfl, HBq, X, SQ, HPK⟩ := hrel
        by_cases hks : k < t.n
        · have hks' : (k : Int) < (t.n : Int) := by omega
          have hk0 : (0 : Int) ≤ (k : Int) := by omega
          obtain ⟨hwk1, hwk2⟩ := HWD.out k hks
          have Xd := Lib.hid X.out.drew; have Gd := Lib.hid ((G.out.below HBq.out).drew); have HBd := Lib.hid HBq.out.drew
          obtain ⟨tb, tf, hta, ltb, cfk⟩ : ∃ tb tf, t.a = some ⟨tb, tf, none⟩ ∧ tb < wr.heap.size ∧ wr.cell? ⟨tb, tf + k, none⟩ = some (.int .i64 (t.f k)) := by
            rcases SQ.out with h0 | ⟨tb, tf, h1, h2, h3⟩
            · omega
            · exact ⟨tb, tf, h1, h2, h3 k hks⟩
          have HTA := Lib.hid hta
          have hkI : (0 : Int) ≤ (k : Int) ∧ (k : Int) ≤ t.s - 1 := by have := HST.out; omega
          by_cases hd : t.m / P2 k % 2 = 1
          · have HIP : Hid (IsIP t.s t.m t.o t.h (k : Int) true) := Lib.hid (.inl ⟨⟨HOK.out, hkI⟩, by rw [hd]; rfl⟩)
            have HD := Lib.hid hd
            clear hd hkI
            by_cases hmay : MayG N T t.o (t.f k)
            · have HMY := Lib.hid hmay
              clear hmay
              rw [hta] at X SQ Xd ⊢
              go_wp2_with fail
              go_region_held3 (fun w' => w'.cell? ⟨B, 1, none⟩ = some (.int .i64 t.s) ∧ w'.cell? ⟨B, 2, none⟩ = some (.int .i64 t.m) ∧ w'.cell? ⟨B, 3, none⟩ = some (.int .i64 t.o) ∧ w'.cell? ⟨B, 4, none⟩ = some (.int .i64 t.h))
                (first | (with_reducible exact mid4 X.out) | (with_reducible exact mid4 Xd.out) | (with_reducible exact mid4 X2.out) | (with_reducible exact mid4 X3.out))
                (first | (go_at_call 121; (refine (fieldOf_any t.s t.m t.o t.h (k : Int) (t.f k) true _ HIP.out).mono ?_; rintro e w2 ⟨rfl, hb⟩; have HB2 := Lib.hid (HBd.out.trans (hb.mono HBd.out.size)); have X2 := Lib.hid (Xd.out.below hb); have C2 := Lib.hid ((Below.refl wr.heap.size wr).drew.trans hb); have G2 := Lib.hid (Gd.out.below hb); clear hb)) | (go_at_call 120; refine (may_ptr (some ⟨b, q, none⟩) N kk T t.o (t.f k) true _ G2.out hN HM.out hwk1 hwk2 ⟨fun _ => HMY.out, fun _ => rfl⟩).mono ?_; rintro e w3 ⟨rfl, hb⟩; have HB3 := Lib.hid (HB2.out.trans (hb.mono HB2.out.size)); have X3 := Lib.hid (X2.out.below hb); have SQ3 := Lib.hid (SQ.out.below (C2.out.trans (hb.mono C2.out.size))); clear hb))
              go_wp2
              go_roundw
              case rel => exact ⟨k + 1, by omega, by go_num, HB3, X3, SQ3, Lib.hid (fun k' hk' hb' => by rcases Nat.lt_succ_iff_lt_or_eq.mp hk' with h' | h'; exact HPK.out k' h' hb'; subst h'; exact HMY.out)⟩
              case measure => simp [intOf]; omega
            · have HMAY : Hid (false = true ↔ MayG N T t.o (t.f k)) := Lib.hid ⟨fun h => (by cases h), fun h => absurd h hmay⟩
              have hrt := hbad.out k hks HD.out hmay
              subst hrt
              clear hmay
              rw [hta] at X SQ Xd ⊢
              go_wp2_with fail
              go_region_held3 (fun w' => w'.cell? ⟨B, 1, none⟩ = some (.int .i64 t.s) ∧ w'.cell? ⟨B, 2, none⟩ = some (.int .i64 t.m) ∧ w'.cell? ⟨B, 3, none⟩ = some (.int .i64 t.o) ∧ w'.cell? ⟨B, 4, none⟩ = some (.int .i64 t.h))
                (first | (with_reducible exact mid4 X.out) | (with_reducible exact mid4 Xd.out) | (with_reducible exact mid4 X2.out) | (with_reducible exact mid4 X3.out))
                (first | (go_at_call 121; (refine (fieldOf_any t.s t.m t.o t.h (k : Int) (t.f k) true _ HIP.out).mono ?_; rintro e w2 ⟨rfl, hb⟩; have HB2 := Lib.hid (HBd.out.trans (hb.mono HBd.out.size)); have X2 := Lib.hid (Xd.out.below hb); have C2 := Lib.hid ((Below.refl wr.heap.size wr).drew.trans hb); have G2 := Lib.hid (Gd.out.below hb); clear hb)) | (go_at_call 120; refine (may_ptr (some ⟨b, q, none⟩) N kk T t.o (t.f k) false _ G2.out hN HM.out hwk1 hwk2 HMAY.out).mono ?_; rintro e w3 ⟨rfl, hb⟩; have HB3 := Lib.hid (HB2.out.trans (hb.mono HB2.out.size)); have X3 := Lib.hid (X2.out.below hb); have SQ3 := Lib.hid (SQ.out.below (C2.out.trans (hb.mono C2.out.size))); clear hb))
              go_wp2
              go_ret
              exact ⟨rfl, HB3.out⟩
          · have HIP : Hid (IsIP t.s t.m t.o t.h (k : Int) false) := Lib.hid (.inl ⟨⟨HOK.out, hkI⟩, by symm; simpa using hd⟩)
            have HD := Lib.hid hd
            clear hd hkI
            rw [hta] at X SQ Xd ⊢
            go_wp2_with fail
            go_region_held3 (fun w' => w'.cell? ⟨B, 1, none⟩ = some (.int .i64 t.s) ∧ w'.cell? ⟨B, 2, none⟩ = some (.int .i64 t.m) ∧ w'.cell? ⟨B, 3, none⟩ = some (.int .i64 t.o) ∧ w'.cell? ⟨B, 4, none⟩ = some (.int .i64 t.h))
              (first | (with_reducible exact mid4 X.out) | (with_reducible exact mid4 Xd.out) | (with_reducible exact mid4 X2.out) | (with_reducible exact mid4 X3.out))
              (first | (go_at_call 121; (refine (fieldOf_any t.s t.m t.o t.h (k : Int) (t.f k) false _ HIP.out).mono ?_; rintro e w2 ⟨rfl, hb⟩; have HB2 := Lib.hid (HBd.out.trans (hb.mono HBd.out.size)); have X2 := Lib.hid (Xd.out.below hb); have C2 := Lib.hid ((Below.refl wr.heap.size wr).drew.trans hb); have G2 := Lib.hid (Gd.out.below hb); clear hb)) | (go_at_call 120; refine (may_plain _ t.o (t.f k) _).mono ?_; rintro e w3 ⟨rfl, hb⟩; have HB3 := Lib.hid (HB2.out.trans (hb.mono HB2.out.size)); have X3 := Lib.hid (X2.out.below hb); have SQ3 := Lib.hid (SQ.out.below (C2.out.trans (hb.mono C2.out.size))); clear hb))
            go_wp2
            go_roundw
            case rel => exact ⟨k + 1, by omega, by go_num, HB3, X3, SQ3, Lib.hid (fun k' hk' hb' => by rcases Nat.lt_succ_iff_lt_or_eq.mp hk' with h' | h'; exact HPK.out k' h' hb'; subst h'; exact absurd hb' HD.out)⟩
            case measure => simp [intOf]; omega
        · have hks' : ¬ (k : Int) < (t.n : Int) := by omega
          have hpi' := Lib.hid (hpi.out True (fun k' h1 h2 => HPK.out k' (by omega) h2))
          go_wp2
          go_roundw
          case rel => exact ⟨i + 1, by omega, by go_num, HBq, hpi'⟩
          case measure => simp [intOf]; omega
    · have hlt' : ¬ (i : Int) < (N : Int) := by omega
      have hrf : r = false := by
        cases r with
        | false => rfl
        | true => exact absurd (fun j hj => HPT.out j (by omega)) (HR.out.1 rfl)
      subst hrf
      go_wp2
      go_ret
      exact ⟨rfl, HBr.out⟩
end Go.Proofs.YtnpklnpicelcmaaGreat

namespace Go.Proofs.YtnpklnpicelcmaaGreat
open Go.RowKit
set_option linter.unusedVariables false

set_option maxRecDepth 100000 in
set_option maxHeartbeats 1600000 in
theorem strayw_any (h ac bu : Int) (a : Option Addr) (n c : Nat) (f : Nat → Int) (r : Bool) (w : World) (hs : Src w a n f) (hk : IsFault h n f ac bu 0) (hr : r = true ↔ ¬ Rest f n (baseI ac h).toNat bu.toNat) :
    Calls Tryz.prog 111 #[.agg #[.int .i64 h, .slice a n c, .int .i64 ac, .int .i64 bu]] w (RetBool w r) := by
  obtain ⟨⟨⟨g1, g2⟩, ⟨g3, g4⟩, g5, g6⟩, gn, gw⟩ := isFault_ok hk
  have hb0 : 0 ≤ baseI ac h ∧ baseI ac h ≤ h := by rcases (by omega : ac = 0 ∨ ac = 1) with rfl | rfl <;> simp [baseI] <;> omega
  obtain ⟨P, hP⟩ : ∃ P : Nat, baseI ac h = (P : Int) := ⟨(baseI ac h).toNat, by omega⟩
  obtain ⟨U, rfl⟩ : ∃ U : Nat, bu = (U : Int) := ⟨bu.toNat, by omega⟩
  rw [hP, Int.toNat_natCast, Int.toNat_natCast] at hr
  have hP2 : (P : Int) + (U : Int) ≤ 400 := by omega
  have hP3 : (P : Int) ≤ 200 := by omega
  have hU3 : (U : Int) ≤ 200 := by omega
  have hn4 : (n : Int) ≤ 400 := by omega
  have HS := Lib.hid hs; have HR := Lib.hid hr; have HP := Lib.hid hP
  clear hs hk hr hP gw g5 hb0
  go_enter Tryz.func111, Tryz.ntmps111
  go_wp2_with fail
  refine (baseOf_any h ac (U : Int) a n c _ g1 g2 g3 g4).mono ?_
  rintro e w1 ⟨rfl, hb⟩
  rw [HP.out]
  have HB1 := Lib.hid (thru1 (Below.refl _ _) hb)
  have A_1 := Lib.hid ((Blk.new_at (w := w) (cs := #[.int .i64 h, .slice a n c, .int .i64 ac, .int .i64 (U : Int)]) (t := 29) (w.heap.size) rfl).below hb)
  have S_1 := Lib.hid ((HS.out.alloc _).below hb)
  clear hb g1 g2 g3 g4 g6 gn
  have lA := A_1.out.1; have cA0 := A_1.out.at 0 rfl; have fA0 := A_1.out.free 0 rfl; have cA1 := A_1.out.at 1 rfl; have fA1 := A_1.out.free 1 rfl; have cA2 := A_1.out.at 2 rfl; have fA2 := A_1.out.free 2 rfl; have cA3 := A_1.out.at 3 rfl; have fA3 := A_1.out.free 3 rfl
  go_wp2
  clear lA cA0 fA0 cA1 fA1 cA2 fA2 cA3 fA3
  go_loopw [13] (fun p wr => ∃ j : Nat, j ≤ n ∧ p = .int .i64 (j : Int) ∧ Hid (Below w1.heap.size w1 wr) ∧ Hid (∀ k, k < j → ¬ (P ≤ k ∧ k < P + U) → f k = 0)) (fun p _ => n - (intOf p).toNat)
  case atStart => exact ⟨0, Nat.zero_le _, rfl, Below.refl _ _, Lib.hid (fun k hk => by omega)⟩
  case round =>
    obtain ⟨j, hj, rfl, HBq, HRS⟩ := hrel
    have HBr := Lib.hid (HB1.out.trans (HBq.out.mono HB1.out.size))
    by_cases hlt : j < n
    · have hlt' : (j : Int) < (n : Int) := by omega
      have hj0 : (0 : Int) ≤ (j : Int) := by omega
      have A_q := Lib.hid (A_1.out.below HBq.out)
      have cA3 := A_q.out.at 3 rfl
      have SQ := Lib.hid (S_1.out.below HBq.out)
      obtain ⟨tb, tf, rfl, ltb, cfk⟩ : ∃ tb tf, a = some ⟨tb, tf, none⟩ ∧ tb < wr.heap.size ∧ wr.cell? ⟨tb, tf + j, none⟩ = some (.int .i64 (f j)) := by
        rcases SQ.out with h0 | ⟨tb, tf, h1, h2, h3⟩
        · omega
        · exact ⟨tb, tf, h1, h2, h3 j hlt⟩
      have hPn : (0 : Int) ≤ (P : Int) := by omega
      have hUn : (0 : Int) ≤ (U : Int) := by omega
      by_cases h1 : (P : Int) ≤ (j : Int)
      · by_cases h2 : (j : Int) < (P : Int) + (U : Int)
        · have HIN := Lib.hid (show P ≤ j ∧ j < P + U by omega)
          go_wp2
          go_roundw
          case rel => exact ⟨j + 1, by omega, by go_num, HBq, Lib.hid (fun k hk hb => by rcases Nat.lt_succ_iff_lt_or_eq.mp hk with h' | h'; exact HRS.out k h' hb; subst h'; exact absurd HIN.out hb)⟩
          case measure => simp [intOf]; omega
        · have hni : ¬ (P ≤ j ∧ j < P + U) := by omega
          by_cases hz : f j = 0
          · have HZ := Lib.hid hz
            go_wp2
            go_roundw
            case rel => exact ⟨j + 1, by omega, by go_num, HBq, Lib.hid (fun k hk hb => by rcases Nat.lt_succ_iff_lt_or_eq.mp hk with h' | h'; exact HRS.out k h' hb; subst h'; exact HZ.out)⟩
            case measure => simp [intOf]; omega
          · have hrt : r = true := HR.out.2 (fun hp => hz (hp j hlt hni))
            subst hrt
            go_wp2
            go_ret
            exact ⟨rfl, HBr.out⟩
      · have hni : ¬ (P ≤ j ∧ j < P + U) := by omega
        by_cases hz : f j = 0
        · have HZ := Lib.hid hz
          go_wp2
          go_roundw
          case rel => exact ⟨j + 1, by omega, by go_num, HBq, Lib.hid (fun k hk hb => by rcases Nat.lt_succ_iff_lt_or_eq.mp hk with h' | h'; exact HRS.out k h' hb; subst h'; exact HZ.out)⟩
          case measure => simp [intOf]; omega
        · have hrt : r = true := HR.out.2 (fun hp => hz (hp j hlt hni))
          subst hrt
          go_wp2
          go_ret
          exact ⟨rfl, HBr.out⟩
    · have hlt' : ¬ (j : Int) < (n : Int) := by omega
      have hrf : r = false := by
        cases r with
        | false => rfl
        | true => exact absurd (fun k hk hb => HRS.out k (by omega) hb) (HR.out.1 rfl)
      subst hrf
      go_wp2
      go_ret
      exact ⟨rfl, HBr.out⟩
end Go.Proofs.YtnpklnpicelcmaaGreat

namespace Go.Proofs.YtnpklnpicelcmaaGreat
open Go.RowKit Go.Shelf
set_option linter.unusedVariables false
attribute [local go_sem] Oper.semAt_some

theorem walk_any (h ac bu : Int) (a : Option Addr) (n c : Nat) (w : World) : Calls Tryz.prog 119 #[.agg #[.int .i64 h, .slice a n c, .int .i64 ac, .int .i64 bu]] w (fun e w' => e = .returned (.func (.func 125) #[] #[.pointer (some ⟨w.heap.size, 0, none⟩)]) ∧ w' = w.alloc (.cells #[.int .i64 h, .slice a n c, .int .i64 ac, .int .i64 bu] 29)) := by
  go_enter Tryz.func119, Tryz.ntmps119
  go_wp2
  go_ret
  exact ⟨rfl, rfl⟩

theorem first_at (b off n c A e : Nat) (f : Nat → Int) (w : World) (hs : Src w (some ⟨b, off, none⟩) n f) (hA : A < e) (he : e ≤ n) (hn : n ≤ 1048576) (hnc : n ≤ c) (hcm : c ≤ maxLen) :
    Calls Tryz.prog 126 #[.slice (some ⟨b, off + A, none⟩) (e - A) (c - A)] w (fun en w' => Below w.heap.size w w' ∧ ((Good f e A ∧ ∃ ta tc, en = .returned (.agg #[.int .i64 0, .int .i64 0, .int .i64 (f A / 2 % 16), .int .i64 (f A / 32 % 4096), .int .i64 (f A / 131072), .int .i64 (f (A + 1)), .slice ta (szOf f A) tc]) ∧ Own w' w.heap.size ta (szOf f A) (fun k => f (A + 2 + k))) ∨ (¬ Good f e A ∧ en = .returned (.agg #[.int .i64 1, .int .i64 0, .int .i64 0, .int .i64 0, .int .i64 0, .int .i64 0, .slice none 0 0])))) := by
  have hs' : Src w (some ⟨b, off + A, none⟩) (e - A) (fun k => f (A + k)) := hs.elim (fun h => .inl (by omega)) (fun ⟨b', o', h1, h3, h4⟩ => .inr ⟨b', o' + A, by cases h1; rfl, h3, fun i hi => by rw [show o' + A + i = o' + (A + i) by omega]; exact h4 (A + i) (by omega)⟩)
  have hgood : Good (fun k => f (A + k)) (e - A) 0 ↔ Good f e A := by
    constructor
    · rintro ⟨h1, h2, h3⟩; exact ⟨by omega, h2, by have h3' : 0 + 2 + szOf f A ≤ e - A := h3; omega⟩
    · rintro ⟨h1, h2, h3⟩; exact ⟨by omega, h2, by show 0 + 2 + szOf f A ≤ e - A; omega⟩
  refine (implFirst_any b (off + A) (e - A) (c - A) (fun k => f (A + k)) w hs' (by omega) (by omega) (by omega)).mono ?_
  rintro en w' ⟨hb, hc⟩
  refine ⟨hb, ?_⟩
  rcases hc with ⟨h1, ta, tc, h2, h3⟩ | ⟨h1, h2⟩
  · exact .inl ⟨hgood.1 h1, ta, tc, h2, h3.congr fun i _ => by show f (A + (2 + i)) = f (A + 2 + i); rw [Nat.add_assoc]⟩
  · exact .inr ⟨fun h => h1 (hgood.2 h), h2⟩

/-- What has come, and what is told of it. -/
def Match (f : Nat → Int) (M : List GM) (L : List Ob) : Prop := M.length = L.length ∧ ∀ (i : Nat) (t : GM) (y : Ob), M[i]? = some t → L[i]? = some y → GSame t (obG f y)

theorem match_snoc {f : Nat → Int} {M : List GM} {L : List Ob} {t : GM} {y : Ob} (h : Match f M L) (ht : GSame t (obG f y)) : Match f (M ++ [t]) (L ++ [y]) := by
  refine ⟨by simp [h.1], fun i u v hu hv => ?_⟩
  rcases Nat.lt_or_ge i M.length with hi | hi
  · rw [List.getElem?_append_left hi] at hu
    rw [List.getElem?_append_left (by rw [← h.1]; exact hi)] at hv
    exact h.2 i u v hu hv
  · rw [List.getElem?_append_right hi] at hu
    rw [List.getElem?_append_right (by rw [← h.1]; exact hi), ← h.1] at hv
    rcases Nat.eq_zero_or_pos (i - M.length) with h0 | h0
    · rw [h0] at hu hv
      simp only [List.getElem?_cons_zero, Option.some.injEq] at hu hv
      subst hu; subst hv; exact ht
    · rw [List.getElem?_eq_none (by simp; omega)] at hu
      cases hu

/-- What a round keeps. -/
def Kept (n0 A1 : Nat) (W0 W1 W' : World) : Prop := Below n0 W1 W' ∧ W'.heap[A1]? = W1.heap[A1]? ∧ ∀ b, W0.heap.size ≤ b → b < W1.heap.size → W'.heap[b]? = W1.heap[b]?

theorem blk_block {w w' : World} {b : Nat} {cs : List Value} (h : Blk w b cs) (e : w'.heap[b]? = w.heap[b]?) : Blk w' b cs := by
  refine ⟨?_, fun i u hu => ?_⟩
  · have h1 : w.heap[b]? = some (w.heap[b]'h.1) := Array.getElem?_eq_getElem h.1
    rw [h1] at e
    exact (Array.getElem?_eq_some_iff.1 e).1
  · obtain ⟨h1, h2⟩ := h.2 i u hu
    exact ⟨(World.cell?_of_block (w := w) (a := ⟨b, i, none⟩) e).trans h1, (World.frozen?_of_block (w := w) (a := ⟨b, i, none⟩) e).trans h2⟩

set_option maxRecDepth 100000 in
set_option maxHeartbeats 1600000 in
theorem iter_in (m l A1 : Nat) (h ac : Int) (ab ao n c P U : Nat) (f : Nat → Int) (w W : World) (J : List GM → World → Prop) (Jx : World → Prop)
    (hJ : ∀ pre V V', J pre V → Below V.heap.size V V' → J pre V')
    (hgo : ∀ pre (t : GM) V0 V1, J pre V0 → pre.length < 400 → Below V0.heap.size V0 V1 → Own V1 V0.heap.size t.a t.n t.f → YieldAt Fence.wide (m - 1) Tryz.prog l #[.agg #[.int .i64 0, .int .i64 t.at_, .int .i64 t.s, .int .i64 t.m, .int .i64 t.o, .int .i64 t.h, .slice t.a t.n t.c]] V1 fun e V' => e = .returned (.bool true) ∧ J (pre ++ [t]) V' ∧ Kept w.heap.size A1 V0 V1 V')
    (hno : ∀ pre V0 V1, J pre V0 → Below V0.heap.size V0 V1 → YieldAt Fence.wide (m - 1) Tryz.prog l #[.agg #[.int .i64 1, .int .i64 0, .int .i64 0, .int .i64 0, .int .i64 0, .int .i64 0, .slice none 0 0]] V1 fun e V' => e = .returned (.bool false) ∧ Jx V')
    (hs : Src w (some ⟨ab, ao, none⟩) n f) (hW : Below w.heap.size w W) (hA : Blk W A1 [.int .i64 h, .slice (some ⟨ab, ao, none⟩) n c, .int .i64 ac, .int .i64 (U : Int)])
    (h1 : 8 ≤ h) (h2 : h ≤ 200) (h3 : 0 ≤ ac) (h4 : ac ≤ 1) (hP : baseI ac h = (P : Int)) (hn : (n : Int) = 2 * h) (hPU : P + U ≤ n) (hnc : n ≤ c) (hcm : c ≤ maxLen) (h0 : J [] W) :
    CallsIn Fence.wide m Tryz.prog 125 #[.func (.yield l) #[] #[], .pointer (some ⟨A1, 0, none⟩)] W fun e V' => (∃ v, e = .returned v) ∧
      ((∃ L xs, parse f (P + U) P = some L ∧ Match f xs L ∧ J xs V') ∨ (parse f (P + U) P = none ∧ Jx V')) := by
  have HS := Lib.hid hs; have HW := Lib.hid hW; have HA := Lib.hid hA; have HJ := Lib.hid hJ; have HGO := Lib.hid hgo; have HNO := Lib.hid hno; have H0 := Lib.hid h0; have HP := Lib.hid hP; have HCM := Lib.hid hcm
  obtain ⟨E, hE⟩ : ∃ E : Nat, P + U = E := ⟨_, rfl⟩
  rw [hE] at hPU ⊢
  have HE := Lib.hid hE
  have HEI : Hid ((P : Int) + (U : Int) = (E : Int)) := Lib.hid (by omega)
  have hPE : P ≤ E := by omega
  have hn4 : n ≤ 400 := by omega
  have hUb : (U : Int) ≤ 400 := by omega
  have hPb : (P : Int) ≤ 400 := by omega
  clear hs hW hA hJ hgo hno h0 hP hE hcm hn
  have cA := HA.out
  have lA := HA.out.1; have cA0 := HA.out.at 0 rfl; have fA0 := HA.out.free 0 rfl; have cA1 := HA.out.at 1 rfl; have fA1 := HA.out.free 1 rfl; have cA2 := HA.out.at 2 rfl; have fA2 := HA.out.free 2 rfl; have cA3 := HA.out.at 3 rfl; have fA3 := HA.out.free 3 rfl
  clear cA
  refine callsIn_of_wp Tryz.func125 rfl trivial ?_ rfl
  simp only [Tryz.ntmps125, List.size_toArray, List.length_cons, List.length_nil, Nat.reduceAdd, Nat.reduceSub, Array.replicate_succ, Array.replicate_zero, List.push_toArray, List.append_toArray, List.nil_append, List.cons_append]
  gi_wp2_with fail
  refine ⟨trivial, fun hx => (by simp [Fence.wide] at hx), (callsIn_wide.2 (baseOf_any h ac (U : Int) (some ⟨ab, ao, none⟩) n c _ h1 h2 h3 h4)).mono ?_⟩
  rintro e w1 ⟨rfl, hb⟩
  rw [HP.out]
  have HA1 := Lib.hid (HA.out.below hb); have HW1 := Lib.hid (HW.out.trans (hb.mono HW.out.size)); have H1 := Lib.hid (HJ.out _ _ _ H0.out hb)
  clear hb h1 h2 h3 h4 HA HW H0
  clear lA cA0 fA0 cA1 fA1 cA2 fA2 cA3 fA3
  have lA := HA1.out.1; have cA0 := HA1.out.at 0 rfl; have fA0 := HA1.out.free 0 rfl; have cA1 := HA1.out.at 1 rfl; have fA1 := HA1.out.free 1 rfl; have cA2 := HA1.out.at 2 rfl; have fA2 := HA1.out.free 2 rfl; have cA3 := HA1.out.at 3 rfl; have fA3 := HA1.out.free 3 rfl
  gi_wp2
  clear lA cA0 fA0 cA1 fA1 cA2 fA2 cA3 fA3
  rw [HEI.out]
  gi_loopw [3] (fun p wr => ∃ (pre : List GM) (L : List Ob) (A : Nat), p = .int .i64 (A : Int) ∧ P ≤ A ∧ A ≤ E ∧ 2 * pre.length ≤ A ∧ Hid (parse f E P = (parse f E A).map (L ++ ·)) ∧ Hid (Match f pre L) ∧ Hid (J pre wr) ∧ Hid (Blk wr A1 [.int .i64 h, .slice (some ⟨ab, ao, none⟩) n c, .int .i64 ac, .int .i64 (U : Int)]) ∧ Hid (Below w.heap.size w wr)) (fun p _ => E - (intOf p).toNat)
  case atStart => exact ⟨[], [], P, rfl, Nat.le_refl _, hPE, Nat.zero_le _, Lib.hid (by cases parse f E P <;> rfl), Lib.hid ⟨rfl, fun i t y ht => by cases ht⟩, H1, HA1, HW1⟩
  clear H1 HA1 HW1
  case round =>
    obtain ⟨pre, L, A, rfl, hPA, hAE, hlen, HPR, HMT, HJr, HAr, HWr⟩ := hrel
    have hA0 : (0 : Int) ≤ (A : Int) := by omega
    by_cases hlt : A < E
    · have hlt' : (A : Int) < (E : Int) := by omega
      have hle' : (A : Int) ≤ (E : Int) := by omega
      have hEc : (E : Int) ≤ (c : Int) := by omega
      have hcA : ¬ c = A := by omega
      have lA := HAr.out.1; have cA0 := HAr.out.at 0 rfl; have fA0 := HAr.out.free 0 rfl; have cA1 := HAr.out.at 1 rfl; have fA1 := HAr.out.free 1 rfl; have cA2 := HAr.out.at 2 rfl; have fA2 := HAr.out.free 2 rfl; have cA3 := HAr.out.at 3 rfl; have fA3 := HAr.out.free 3 rfl
      gi_wp2_with fail
      clear lA cA0 fA0 cA1 fA1 cA2 fA2 cA3 fA3
      refine ⟨trivial, fun hx => (by simp [Fence.wide] at hx), (callsIn_wide.2 (first_at ab ao n c A E f _ (HS.out.below HWr.out) hlt hPU (by omega) hnc HCM.out)).mono ?_⟩
      rintro en w2 ⟨hb, hc⟩
      have HBW := Lib.hid hb
      have HA2 := Lib.hid (HAr.out.below hb)
      have zr := hb.size
      clear hb hlt' hle' hEc hcA
      rcases hc with ⟨hgd, ta, tc, rfl, ho⟩ | ⟨hbd, rfl⟩
      · have HGD := Lib.hid hgd
        have HO := Lib.hid ho
        have hsz := good_size hgd
        have hsE : A + 2 + szOf f A ≤ E := hgd.2.2
        clear hgd ho
        have X0 := Lib.hid (Blk.new_at (w := w2) (cs := #[.int .i64 0, .int .i64 0, .int .i64 (f A / 2 % 16), .int .i64 (f A / 32 % 4096), .int .i64 (f A / 131072), .int .i64 (f (A + 1)), .slice ta (szOf f A) tc]) (t := 172) w2.heap.size rfl)
        have X1 : Hid (Blk (w2.alloc (.cells #[.int .i64 0, .int .i64 (A : Int), .int .i64 (f A / 2 % 16), .int .i64 (f A / 32 % 4096), .int .i64 (f A / 131072), .int .i64 (f (A + 1)), .slice ta (szOf f A) tc] 172)) w2.heap.size [.int .i64 0, .int .i64 (A : Int), .int .i64 (f A / 2 % 16), .int .i64 (f A / 32 % 4096), .int .i64 (f A / 131072), .int .i64 (f (A + 1)), .slice ta (szOf f A) tc]) := Lib.hid (Blk.new_at (w := w2) (cs := #[.int .i64 0, .int .i64 (A : Int), .int .i64 (f A / 2 % 16), .int .i64 (f A / 32 % 4096), .int .i64 (f A / 131072), .int .i64 (f (A + 1)), .slice ta (szOf f A) tc]) (t := 172) w2.heap.size rfl)
        have hz1 : (w2.alloc (.cells #[.int .i64 0, .int .i64 (A : Int), .int .i64 (f A / 2 % 16), .int .i64 (f A / 32 % 4096), .int .i64 (f A / 131072), .int .i64 (f (A + 1)), .slice ta (szOf f A) tc] 172)).heap.size = w2.heap.size + 1 := by simp
        have HZ1 := Lib.hid hz1
        clear hz1
        have HB2 : Hid (Below w2.heap.size w2 (w2.alloc (.cells #[.int .i64 0, .int .i64 (A : Int), .int .i64 (f A / 2 % 16), .int .i64 (f A / 32 % 4096), .int .i64 (f A / 131072), .int .i64 (f (A + 1)), .slice ta (szOf f A) tc] 172))) := Lib.hid ((Below.refl _ w2).alloc (Nat.le_refl _) _)
        have HA3 := Lib.hid (HA2.out.below HB2.out)
        have HBr : Hid (Below wr.heap.size wr (w2.alloc (.cells #[.int .i64 0, .int .i64 (A : Int), .int .i64 (f A / 2 % 16), .int .i64 (f A / 32 % 4096), .int .i64 (f A / 131072), .int .i64 (f (A + 1)), .slice ta (szOf f A) tc] 172))) := Lib.hid (HBW.out.trans (HB2.out.mono zr))
        obtain ⟨fn, tmps, assign, body, hy, hR⟩ := HGO.out pre ⟨(A : Int), f A / 2 % 16, f A / 32 % 4096, f A / 131072, f (A + 1), ta, szOf f A, tc, fun k => f (A + 2 + k)⟩ wr _ HJr.out (by omega) HBr.out (HO.out.below HB2.out)
        dsimp only at hy
        have lX := X0.out.1; have cX0 := X0.out.at 0 rfl; have fX0 := X0.out.free 0 rfl; have cX1 := X0.out.at 1 rfl; have fX1 := X0.out.free 1 rfl; have cX2 := X0.out.at 2 rfl; have fX2 := X0.out.free 2 rfl; have cX3 := X0.out.at 3 rfl; have fX3 := X0.out.free 3 rfl; have cX4 := X0.out.at 4 rfl; have fX4 := X0.out.free 4 rfl; have cX5 := X0.out.at 5 rfl; have fX5 := X0.out.free 5 rfl; have cX6 := X0.out.at 6 rfl; have fX6 := X0.out.free 6 rfl
        have lY := X1.out.1; have cY0 := X1.out.at 0 rfl; have fY0 := X1.out.free 0 rfl; have cY1 := X1.out.at 1 rfl; have fY1 := X1.out.free 1 rfl; have cY2 := X1.out.at 2 rfl; have fY2 := X1.out.free 2 rfl; have cY3 := X1.out.at 3 rfl; have fY3 := X1.out.free 3 rfl; have cY4 := X1.out.at 4 rfl; have fY4 := X1.out.free 4 rfl; have cY5 := X1.out.at 5 rfl; have fY5 := X1.out.free 5 rfl; have cY6 := X1.out.at 6 rfl; have fY6 := X1.out.free 6 rfl
        gi_wp2
        clear lX cX0 fX0 cX1 fX1 cX2 fX2 cX3 fX3 cX4 fX4 cX5 fX5 cX6 fX6
        clear lY cY0 fY0 cY1 fY1 cY2 fY2 cY3 fY3 cY4 fY4 cY5 fY5 cY6 fY6
        refine ⟨fun hx => (by simp [Fence.wide] at hx), hR.mono ?_⟩
        rintro e W3 ⟨rfl, hJ3, hk3⟩
        have X3 := Lib.hid (blk_block X1.out (hk3.2.2 w2.heap.size zr (by rw [HZ1.out]; omega)))
        have A3 := Lib.hid (blk_block HA3.out hk3.2.1)
        have W3B := Lib.hid (((HWr.out.trans (HBr.out.mono HWr.out.size))).trans hk3.1)
        have J3 := Lib.hid hJ3
        clear hy hR hJ3 hk3
        have lX := X3.out.1; have cX2 := X3.out.at 2 rfl
        have HPS := Lib.hid (parse_step HPR.out hlt HGD.out)
        have HM3 : Hid (Match f (pre ++ [⟨(A : Int), f A / 2 % 16, f A / 32 % 4096, f A / 131072, f (A + 1), ta, szOf f A, tc, fun k => f (A + 2 + k)⟩]) (L ++ [objAt f A])) := Lib.hid (match_snoc HMT.out ⟨rfl, rfl, rfl, rfl, rfl, rfl, fun _ _ => rfl⟩)
        obtain ⟨sz0, sz1, sz2⟩ := hsz
        have HSZ := Lib.hid sz2
        have hAb : (A : Int) ≤ 400 := by omega
        gi_wp2
        go_roundw
        case rel => exact ⟨_, _, A + 2 + szOf f A, by have := HSZ.out; go_num, by omega, hsE, by simp; omega, HPS, HM3, J3, A3, W3B⟩
        case measure => have := HSZ.out; simp [intOf]; omega
      · have HBD := Lib.hid hbd
        clear hbd
        have X0 := Lib.hid (Blk.new_at (w := w2) (cs := #[.int .i64 1, .int .i64 0, .int .i64 0, .int .i64 0, .int .i64 0, .int .i64 0, .slice none 0 0]) (t := 172) w2.heap.size rfl)
        have HBr : Hid (Below wr.heap.size wr (w2.alloc (.cells #[.int .i64 1, .int .i64 0, .int .i64 0, .int .i64 0, .int .i64 0, .int .i64 0, .slice none 0 0] 172))) := Lib.hid (HBW.out.alloc zr _)
        obtain ⟨fn, tmps, assign, body, hy, hR⟩ := HNO.out pre wr _ HJr.out HBr.out
        have lX := X0.out.1; have cX0 := X0.out.at 0 rfl; have fX0 := X0.out.free 0 rfl; have cX1 := X0.out.at 1 rfl; have fX1 := X0.out.free 1 rfl; have cX2 := X0.out.at 2 rfl; have fX2 := X0.out.free 2 rfl; have cX3 := X0.out.at 3 rfl; have fX3 := X0.out.free 3 rfl; have cX4 := X0.out.at 4 rfl; have fX4 := X0.out.free 4 rfl; have cX5 := X0.out.at 5 rfl; have fX5 := X0.out.free 5 rfl; have cX6 := X0.out.at 6 rfl; have fX6 := X0.out.free 6 rfl
        gi_wp2
        clear lX cX0 fX0 cX1 fX1 cX2 fX2 cX3 fX3 cX4 fX4 cX5 fX5 cX6 fX6
        refine ⟨fun hx => (by simp [Fence.wide] at hx), hR.mono ?_⟩
        rintro e W3 ⟨rfl, hJ3⟩
        have HN : Hid (parse f E P = none) := Lib.hid (by rw [HPR.out, parse_bad hlt HBD.out]; rfl)
        gi_wp2
        refine bodyPost_ret (results_none rfl _ _ _) rfl ?_
        exact ⟨⟨_, rfl⟩, .inr ⟨HN.out, hJ3⟩⟩
    · have hlt' : ¬ (A : Int) < (E : Int) := by omega
      have HN : Hid (parse f E P = some L) := Lib.hid (by rw [HPR.out, parse_stop hlt]; simp)
      gi_wp2
      go_end0
      exact ⟨⟨_, rfl⟩, .inl ⟨L, HN.out, pre, HMT.out, HJr.out⟩⟩
end Go.Proofs.YtnpklnpicelcmaaGreat

namespace Go.Proofs.YtnpklnpicelcmaaGreat
open Go.RowKit
set_option linter.unusedVariables false

def gcells (t : GM) : List Value := [.int .i64 t.at_, .int .i64 t.s, .int .i64 t.m, .int .i64 t.o, .int .i64 t.h, .slice t.a t.n t.c]

def rowG (M : List GM) : List Value := M.flatMap gcells

theorem rowG_snoc (M : List GM) (t : GM) : rowG (M ++ [t]) = rowG M ++ gcells t := by simp [rowG]

theorem rowG_get : ∀ (M : List GM) (i : Nat) (t : GM), M[i]? = some t → ∀ j, j < 6 → (rowG M)[i * 6 + j]? = (gcells t)[j]?
  | [], i, t, h, j, hj => by simp at h
  | u :: M, 0, t, h, j, hj => by
    simp only [List.getElem?_cons_zero, Option.some.injEq] at h
    subst h
    simp only [rowG, List.flatMap_cons, Nat.zero_mul, Nat.zero_add]
    rw [List.getElem?_append_left (by simp [gcells]; omega)]
  | u :: M, i + 1, t, h, j, hj => by
    have ih := rowG_get M i t (by simpa using h) j hj
    simp only [rowG, List.flatMap_cons] at ih ⊢
    rw [List.getElem?_append_right (by simp [gcells]; omega)]
    have e : (i + 1) * 6 + j - (gcells u).length = i * 6 + j := by simp [gcells]; omega
    rw [e]; exact ih

/-- Each object's fields are numbers of their own, later ones in later blocks. -/
def FldG (w : World) (lo : Nat) (v : Value) (M : List GM) : Prop :=
  (∀ t ∈ M, t.n = 0 ∨ (lo ≤ t.g ∧ t.g < w.heap.size ∧ some t.g ≠ v.ownBlock ∧ ∃ q, t.a = some ⟨t.g, q, none⟩ ∧ ∀ k, k < t.n → w.cell? ⟨t.g, q + k, none⟩ = some (.int .i64 (t.f k)) ∧ w.frozen? ⟨t.g, q + k, none⟩ = false)) ∧ M.Pairwise (fun t u => t.n = 0 ∨ u.n = 0 ∨ t.g < u.g)

theorem FldG.block {w w' : World} {lo : Nat} {v : Value} {M : List GM} (h : FldG w lo v M) (hz : w.heap.size ≤ w'.heap.size) (hb : ∀ b, lo ≤ b → b < w.heap.size → some b ≠ v.ownBlock → w'.heap[b]? = w.heap[b]?) : FldG w' lo v M :=
  ⟨fun t ht => by
    rcases h.1 t ht with h0 | ⟨h1, h2, h3, q, h4, h5⟩
    · exact .inl h0
    · have e := hb t.g h1 h2 h3
      exact .inr ⟨h1, Nat.lt_of_lt_of_le h2 hz, h3, q, h4, fun k hk => ⟨(World.cell?_of_block (w := w) (a := ⟨t.g, q + k, none⟩) e).trans (h5 k hk).1, (World.frozen?_of_block (w := w) (a := ⟨t.g, q + k, none⟩) e).trans (h5 k hk).2⟩⟩, h.2⟩

theorem FldG.below {w w' : World} {lo : Nat} {v : Value} {M : List GM} (h : FldG w lo v M) (hb : Below w.heap.size w w') : FldG w' lo v M := h.block hb.size fun b _ h2 _ => hb.block b h2

theorem FldG.snoc {w0 w1 w2 : World} {lo : Nat} {v v' : Value} {M : List GM} (t : GM) (h : FldG w0 lo v M) (hz : w0.heap.size ≤ w1.heap.size) (h01 : ∀ (b : Nat) (o : Obj), w0.heap[b]? = some o → o.isCells = true → w1.heap[b]? = some o) (hg : w1.grownBy w2 v.ownBlock)
    (hat : v'.ownBlock = v.ownBlock ∨ v'.ownBlock = some w1.heap.size) (hlo : lo ≤ w0.heap.size) (hv : ∀ k, v.ownBlock = some k → k < w0.heap.size) (ho : Own w1 w0.heap.size t.a t.n t.f) : FldG w2 lo v' (M ++ [t]) := by
  refine ⟨fun u hu => ?_, ?_⟩
  · rcases List.mem_append.mp hu with hu | hu
    · rcases Nat.eq_zero_or_pos u.n with hp | hp
      · exact .inl hp
      rcases h.1 u hu with h0 | ⟨h1, h2, h3, q, h4, h5⟩
      · exact .inl h0
      · obtain ⟨ob, hob, hcb⟩ := cells_of_cell (h5 0 hp).1
        have e := (hg.block u.g (Nat.lt_of_lt_of_le h2 hz) h3).trans ((h01 u.g ob hob hcb).trans hob.symm)
        refine .inr ⟨h1, Nat.lt_of_lt_of_le (Nat.lt_of_lt_of_le h2 hz) hg.size, ?_, q, h4, fun k hk => ⟨(World.cell?_of_block (w := w0) (a := ⟨u.g, q + k, none⟩) e).trans (h5 k hk).1, (World.frozen?_of_block (w := w0) (a := ⟨u.g, q + k, none⟩) e).trans (h5 k hk).2⟩⟩
        rcases hat with hat | hat
        · rw [hat]; exact h3
        · rw [hat]; intro he; simp only [Option.some.injEq] at he; omega
    · simp only [List.mem_singleton] at hu
      subst hu
      rcases ho with h0 | ⟨b, off, he, h1, h2, h3⟩
      · exact .inl h0
      · have hgb : u.g = b := by simp [GM.g, he]
        have hne : some b ≠ v.ownBlock := fun hx => by have := hv b hx.symm; omega
        have e := hg.block b h2 hne
        refine .inr ⟨by omega, by rw [hgb]; exact Nat.lt_of_lt_of_le h2 hg.size, ?_, off, by rw [hgb]; exact he, fun k hk => ?_⟩
        · rw [hgb]
          rcases hat with hat | hat
          · rw [hat]; exact hne
          · rw [hat]; intro hx; simp only [Option.some.injEq] at hx; omega
        · rw [hgb]
          exact ⟨(World.cell?_of_block (w := w1) (a := ⟨b, off + k, none⟩) e).trans (h3 k hk).1, (World.frozen?_of_block (w := w1) (a := ⟨b, off + k, none⟩) e).trans (h3 k hk).2⟩
  · rw [List.pairwise_append]
    refine ⟨h.2, by simp, fun u hu x hx => ?_⟩
    simp only [List.mem_singleton] at hx
    subst hx
    rcases h.1 u hu with h0 | ⟨_, h2, _⟩
    · exact .inl h0
    · rcases ho with h0 | ⟨b, off, he, h1, _⟩
      · exact .inr (.inl h0)
      · have hgb : x.g = b := by simp [GM.g, he]
        exact .inr (.inr (by omega))

def gT (M : List GM) (i : Nat) : GM := M[i]?.getD gzero

theorem gT_at {M : List GM} {i : Nat} {t : GM} (h : M[i]? = some t) : gT M i = t := by simp [gT, h]

theorem rowG_GVO {w : World} {base lo : Nat} {v : Value} {M : List GM} (h : w.ownsRow base 102 6 v M.length (rowG M)) (hf : FldG w lo v M) (hl : lo ≤ base) : ∃ a c, v = .slice a M.length c ∧ GVO w lo w.heap.size a M.length (gT M) := by
  rcases Nat.eq_zero_or_pos M.length with h0 | hp
  · rcases h.2 with ⟨h1, h2⟩ | ⟨g, cap, cur, h1, _⟩
    · exact ⟨none, 0, by rw [h1, h2], .inl h0⟩
    · exact ⟨_, cap, h1, .inl h0⟩
  · obtain ⟨gb, cap, rfl, hb, hlt⟩ := h.form hp
    refine ⟨_, cap, rfl, .inr ⟨gb, 0, rfl, ?_⟩⟩
    have hfr : ∀ k, k < M.length * 6 → w.frozen? ⟨gb, k, none⟩ = false := fun k hk => by
      have := h.frozenAt k
      simpa using this
    have hce : ∀ i t, M[i]? = some t → ∀ j u, (gcells t)[j]? = some u → w.cell? ⟨gb, i * 6 + j, none⟩ = some u := fun i t ht j u hu => by
      have hi : i < M.length := (List.getElem?_eq_some_iff.mp ht).1
      have hj : j < 6 := by
        have := (List.getElem?_eq_some_iff.mp hu).1
        simpa [gcells] using this
      have hc := h.cellAt (i * 6 + j) (by omega)
      rw [rowG_get M i t ht j hj, hu] at hc
      simpa using hc
    refine ⟨by omega, hlt, hlt, fun i hi => ?_, fun i hi => ?_, fun i hi => ?_, fun i hi => ?_, fun i j hi hj hij => ?_⟩
    · have ht := List.getElem?_eq_getElem hi
      rw [gT_at ht, Nat.zero_add]
      exact ⟨hce i _ ht 0 _ rfl, hce i _ ht 1 _ rfl, hce i _ ht 2 _ rfl, hce i _ ht 3 _ rfl, hce i _ ht 4 _ rfl, hce i _ ht 5 _ rfl⟩
    · rw [Nat.zero_add]
      exact ⟨hfr _ (by omega), hfr _ (by omega), hfr _ (by omega), hfr _ (by omega), hfr _ (by omega), hfr _ (by omega)⟩
    · have ht := List.getElem?_eq_getElem hi
      rw [gT_at ht]
      rcases hf.1 M[i] (List.getElem_mem hi) with h0 | ⟨h1, h2, _, q, h4, h5⟩
      · exact .inl h0
      · exact .inr ⟨_, q, h4, ⟨h1, h2⟩, h2, h5⟩
    · have ht := List.getElem?_eq_getElem hi
      rw [gT_at ht]
      rcases hf.1 M[i] (List.getElem_mem hi) with h0 | ⟨_, _, h3, _⟩
      · exact .inl h0
      · right
        intro he
        exact h3 (by rw [he]; rfl)
    · have hp := List.pairwise_iff_getElem.mp hf.2
      rw [gT_at (List.getElem?_eq_getElem hi), gT_at (List.getElem?_eq_getElem hj)]
      rcases Nat.lt_or_ge i j with hlt' | hge
      · rcases hp i j hi hj hlt' with h0 | h0 | h0
        · exact .inl h0
        · exact .inr (.inl h0)
        · exact .inr (.inr (by omega))
      · rcases hp j i hj hi (by omega) with h0 | h0 | h0
        · exact .inr (.inl h0)
        · exact .inl h0
        · exact .inr (.inr (by omega))

theorem match_same {f : Nat → Int} {M : List GM} {L : List Ob} (h : Match f M L) (i : Nat) (hi : i < L.length) : GSame (gT M i) (obT f L i) := by
  have h1 : i < M.length := by rw [h.1]; exact hi
  rw [gT_at (List.getElem?_eq_getElem h1)]
  have := h.2 i _ _ (List.getElem?_eq_getElem h1) (List.getElem?_eq_getElem hi)
  simpa [obT, List.getElem?_eq_getElem hi, xT] using this
end Go.Proofs.YtnpklnpicelcmaaGreat

namespace Go.Proofs.YtnpklnpicelcmaaGreat
open Go.RowKit Go.Shelf
set_option linter.unusedVariables false

/-- What lay below B, and what holds cells, is as it was. -/
structure Turn (B : Nat) (V V' : World) : Prop where
  os : V'.os = V.os
  tape : V'.tape = V.tape
  output : V'.output = V.output
  size : V.heap.size ≤ V'.heap.size
  same : ∀ (k : Nat) (o : Obj), V.heap[k]? = some o → (k < B ∨ o.isCells = true) → V'.heap[k]? = some o

theorem Turn.of_below {B : Nat} {V V' : World} (h : Below V.heap.size V V') : Turn B V V' :=
  ⟨h.os, h.tape, h.output, h.size, fun k o hk _ => (h.block k (Array.getElem?_eq_some_iff.1 hk).1).trans hk⟩

theorem Turn.trans {B : Nat} {V V' V'' : World} (h : Turn B V V') (h' : Turn B V' V'') : Turn B V V'' :=
  ⟨h'.os.trans h.os, h'.tape.trans h.tape, h'.output.trans h.output, Nat.le_trans h.size h'.size, fun k o hk hc => h'.same k o (h.same k o hk hc) hc⟩

theorem Turn.put {B : Nat} {V : World} {l : Nat} {o : Obj} (o' : Obj) (hl : B ≤ l) (h : V.heap[l]? = some o) (hc : o.isCells = false) : Turn B V (V.putObj l o') :=
  ⟨rfl, rfl, rfl, by simp, fun k x hk hx => by
    have hne : k ≠ l := fun e => by
      subst e
      rw [h] at hk
      cases hk
      rcases hx with hx | hx
      · omega
      · rw [hc] at hx; cases hx
    rw [World.putObj_heap_other hne]; exact hk⟩

theorem Turn.below {B n : Nat} {V V' : World} (h : Turn B V V') (hn : n ≤ B) (hz : n ≤ V.heap.size) : Below n V V' :=
  ⟨h.os, h.tape, h.output, h.size, fun k hk => by
    have hk' : V.heap[k]? = some (V.heap[k]'(by omega)) := Array.getElem?_eq_getElem (by omega)
    rw [hk']; exact h.same k _ hk' (.inl (by omega))⟩

theorem Turn.cell {B : Nat} {V V' : World} (h : Turn B V V') {p : Addr} {v : Value} (hc : V.cell? p = some v) : V'.cell? p = some v ∧ V'.frozen? p = V.frozen? p ∧ V'.heap[p.block]? = V.heap[p.block]? := by
  obtain ⟨o, ho, hcc⟩ := cells_of_cell hc
  have e : V'.heap[p.block]? = V.heap[p.block]? := (h.same _ o ho (.inr hcc)).trans ho.symm
  exact ⟨(World.cell?_of_block e).trans hc, World.frozen?_of_block e, e⟩

theorem Turn.blk {B : Nat} {V V' : World} (h : Turn B V V') {b : Nat} {cs : List Value} (hb : Blk V b cs) (hne : cs ≠ []) : Blk V' b cs := by
  cases cs with
  | nil => exact absurd rfl hne
  | cons u cs => exact blk_block hb (h.cell (hb.2 0 u rfl).1).2.2

theorem Turn.own {B : Nat} {V V' : World} (h : Turn B V V') {lo n : Nat} {a : Option Addr} {f : Nat → Int} (ho : Own V lo a n f) : Own V' lo a n f := by
  rcases ho with h0 | ⟨b, off, he, h1, h2, h3⟩
  · exact .inl h0
  · exact .inr ⟨b, off, he, h1, Nat.lt_of_lt_of_le h2 h.size, fun k hk => by
      obtain ⟨e1, e2, _⟩ := h.cell (h3 k hk).1
      exact ⟨e1, e2.trans (h3 k hk).2⟩⟩

theorem Turn.row {B : Nat} {V V' : World} (h : Turn B V V') {base e size n : Nat} {v : Value} {xs : List Value} (ho : V.ownsRow base e size v n xs) : V'.ownsRow base e size v n xs := by
  refine ⟨ho.1, ?_⟩
  rcases ho.2 with h0 | ⟨g, cap, cur, h1, h2, h3, h4⟩
  · exact .inl h0
  · exact .inr ⟨g, cap, cur, h1, h2, h.same g _ h3 (.inr rfl), h4⟩

theorem Turn.fld {B : Nat} {V V' : World} (h : Turn B V V') {lo : Nat} {v : Value} {M : List GM} (ho : FldG V lo v M) : FldG V' lo v M :=
  ⟨fun t ht => by
    rcases Nat.eq_zero_or_pos t.n with h0 | hp
    · exact .inl h0
    · rcases ho.1 t ht with h0 | ⟨h1, h2, h3, q, h4, h5⟩
      · exact .inl h0
      · exact .inr ⟨h1, Nat.lt_of_lt_of_le h2 h.size, h3, q, h4, fun k hk => by
          obtain ⟨e1, e2, _⟩ := h.cell (h5 k hk).1
          exact ⟨e1, e2.trans (h5 k hk).2⟩⟩, ho.2⟩

set_option maxHeartbeats 800000 in
/-- A loop over the iterator of objects: what each round owes, and what it is told. -/
theorem range_objs {n : Nat} {g : Operand} {p : Tmp} {assign body : Code} {Q : Exit → Act → World → Prop} {a : Act} {W0 : World} {gf : Nat} {lb : Array Value}
    (hg : a.eval g = .func (.func gf) #[] lb) (eg : ∀ args w, (callFunc gf args).run Tryz.prog w = .ok (.enter gf args) w)
    (S : List GM → Prop) (N : Prop) (I : List GM → World → Prop) (Ix : World → Prop) (n0 A1 : Nat) (hn0 : n0 ≤ W0.heap.size) (hA1 : A1 < W0.heap.size)
    (hI : ∀ s V V', I s V → Turn W0.heap.size V V' → I s V') (hIx : ∀ V V', Ix V → Turn W0.heap.size V V' → Ix V') (h0 : I [] W0)
    (hit : ∀ (l : Nat) (J : List GM → World → Prop) (Jx : World → Prop) (W1 : World), Below W0.heap.size W0 W1 → (∀ pre V V', J pre V → Below V.heap.size V V' → J pre V') →
      (∀ pre (t : GM) V0 V1, J pre V0 → pre.length < 400 → Below V0.heap.size V0 V1 → Own V1 V0.heap.size t.a t.n t.f → YieldAt Fence.wide (n - 1 - 1) Tryz.prog l #[.agg #[.int .i64 0, .int .i64 t.at_, .int .i64 t.s, .int .i64 t.m, .int .i64 t.o, .int .i64 t.h, .slice t.a t.n t.c]] V1 fun e V' => e = .returned (.bool true) ∧ J (pre ++ [t]) V' ∧ Kept n0 A1 V0 V1 V') →
      (∀ pre V0 V1, J pre V0 → Below V0.heap.size V0 V1 → YieldAt Fence.wide (n - 1 - 1) Tryz.prog l #[.agg #[.int .i64 1, .int .i64 0, .int .i64 0, .int .i64 0, .int .i64 0, .int .i64 0, .slice none 0 0]] V1 fun e V' => e = .returned (.bool false) ∧ Jx V') → J [] W1 →
      CallsIn Fence.wide (n - 1) Tryz.prog gf (#[.func (.yield l) #[] #[]] ++ lb) W1 fun e V' => (∃ v, e = .returned v) ∧ ((∃ xs, S xs ∧ J xs V') ∨ (N ∧ Jx V')))
    (a₁ : Value → Nat → Act)
    (hassign : ∀ (l : Nat) (c0 c1 c2 c3 c4 c5 : Int) (sa : Option Addr) (sn sc : Nat) (V1 : World) (K : Act → World → Prop), K (a₁ (.agg #[.int .i64 c0, .int .i64 c1, .int .i64 c2, .int .i64 c3, .int .i64 c4, .int .i64 c5, .slice sa sn sc]) V1.heap.size) (V1.alloc (.cells #[.int .i64 c0, .int .i64 c1, .int .i64 c2, .int .i64 c3, .int .i64 c4, .int .i64 c5, .slice sa sn sc] 172)) →
      assign.wpIn (Fence.wide.inRound l) (n - 1 - 1) Tryz.prog (Exit.then K (fun _ _ _ => False)) { tmps := a.tmps.setIfInBounds p (.agg #[.int .i64 c0, .int .i64 c1, .int .i64 c2, .int .i64 c3, .int .i64 c4, .int .i64 c5, .slice sa sn sc]), defers := [] } V1)
    (hgo : ∀ (l : Nat) (pre : List GM) (t : GM) (V0 V1 V2 : World), I pre V0 → pre.length < 400 → Turn W0.heap.size V0 V2 → V0.heap.size ≤ V1.heap.size → V2.heap.size = V1.heap.size + 1 → W0.heap.size ≤ V0.heap.size → Blk V2 V1.heap.size [.int .i64 0, .int .i64 t.at_, .int .i64 t.s, .int .i64 t.m, .int .i64 t.o, .int .i64 t.h, .slice t.a t.n t.c] → Own V2 V0.heap.size t.a t.n t.f →
      body.wpIn (Fence.wide.inRound l) (n - 1 - 1) Tryz.prog (fun ex _ V3 => ex = .normal ∧ KeepsOthers V2 V3 ∧ I (pre ++ [t]) V3 ∧ Kept n0 A1 V0 V2 V3) (a₁ (.agg #[.int .i64 0, .int .i64 t.at_, .int .i64 t.s, .int .i64 t.m, .int .i64 t.o, .int .i64 t.h, .slice t.a t.n t.c]) V1.heap.size) V2)
    (hno : ∀ (l : Nat) (pre : List GM) (V0 V1 V2 : World), I pre V0 → Turn W0.heap.size V0 V2 → V0.heap.size ≤ V1.heap.size → V2.heap.size = V1.heap.size + 1 → W0.heap.size ≤ V0.heap.size → Blk V2 V1.heap.size [.int .i64 1, .int .i64 0, .int .i64 0, .int .i64 0, .int .i64 0, .int .i64 0, .slice none 0 0] →
      body.wpIn (Fence.wide.inRound l) (n - 1 - 1) Tryz.prog (fun ex _ V3 => ex = .ret ∧ KeepsOthers V2 V3 ∧ Ix V3) (a₁ (.agg #[.int .i64 1, .int .i64 0, .int .i64 0, .int .i64 0, .int .i64 0, .int .i64 0, .slice none 0 0]) V1.heap.size) V2)
    (hdone : ∀ (D : Nat) (xs : List GM) (V : World), W0.heap.size ≤ D → S xs → I xs V → V.heap[D]? = some (.deferred (some [])) → Q .normal { a with defers := { target := .collected D, args := #[] } :: a.defers } V)
    (hstop : ∀ (D : Nat) (V : World), W0.heap.size ≤ D → N → Ix V → V.heap[D]? = some (.deferred (some [])) → Code.ret.wpIn Fence.wide n Tryz.prog Q { a with defers := { target := .collected D, args := #[] } :: a.defers } V) :
    (Code.rangeFunc g #[p] assign body).wpIn Fence.wide n Tryz.prog Q a W0 := by
  refine wpIn_rangeFunc ?_
  intro fn hfn
  obtain ⟨rec, hrec⟩ : ∃ rec : LoopState → Option Code → Loop, rec = fun st pe => { state := st, pending := pe, fn, tmps := a.tmps, params := #[p], assign, body, defers := W0.heap.size } := ⟨_, rfl⟩
  have hfold : ∀ v : Value, (#[p].zip #[v]).foldl (fun tmps (t, a) => tmps.setIfInBounds t a) a.tmps = a.tmps.setIfInBounds p v := fun v => by simp
  have hL1 : ((W0.alloc (.deferred (some []))).alloc (.loop (rec .ready none))).heap[W0.heap.size + 1]? = some (.loop (rec .ready none)) := by
    have := World.alloc_heap_new (W0.alloc (.deferred (some []))) (.loop (rec .ready none)); rwa [World.size_alloc] at this
  have hK1 : ((W0.alloc (.deferred (some []))).alloc (.loop (rec .ready none))).heap[W0.heap.size]? = some (.deferred (some [])) := (Below.heap_alloc _ _ _ (by simp)).trans (World.alloc_heap_new W0 _)
  have hB1 : Below W0.heap.size W0 ((W0.alloc (.deferred (some []))).alloc (.loop (rec .ready none))) := ((Below.refl _ W0).alloc (Nat.le_refl _) _).alloc (by simp) _
  refine ⟨W0.heap.size + 1, [{ target := .collected W0.heap.size, args := #[] }], (W0.alloc (.deferred (some []))).alloc (.loop (rec .ready none)), { target := .fn (.func gf) lb, args := #[.func (.yield (W0.heap.size + 1)) #[] #[]] }, (W0.alloc (.deferred (some []))).alloc (.loop (rec .ready none)), gf,
    #[.func (.yield (W0.heap.size + 1)) #[] #[]] ++ lb, (W0.alloc (.deferred (some []))).alloc (.loop (rec .ready none)), ?_, ?_, ?_, ?_, fun hx => (by simp [Fence.wide] at hx), ?_⟩
  · rw [hrec]; exact run_enterLoop_outer _ _ _ _ _
  · simp only [resolve, hg]
    simp [go_sem]
  · intro f' _; trivial
  · simp [invoke, go_sem, eg]
  refine (hit (W0.heap.size + 1)
    (fun pre V => I pre V ∧ V.heap[W0.heap.size + 1]? = some (.loop (rec .ready none)) ∧ V.heap[W0.heap.size]? = some (.deferred (some [])))
    (fun V => Ix V ∧ V.heap[W0.heap.size + 1]? = some (.loop (rec .done (some .ret))) ∧ V.heap[W0.heap.size]? = some (.deferred (some [])))
    _ hB1 (fun pre V V' hs hb => ⟨hI _ _ _ hs.1 (Turn.of_below hb), (hb.block _ (Array.getElem?_eq_some_iff.1 hs.2.1).1).trans hs.2.1, (hb.block _ (Array.getElem?_eq_some_iff.1 hs.2.2).1).trans hs.2.2⟩) ?_ ?_ ⟨hI _ _ _ h0 (Turn.of_below hB1), hL1, hK1⟩).mono ?_
  · rintro pre t V0 V1 ⟨hi, hl, hk⟩ hlen hb ho
    have hls := (Array.getElem?_eq_some_iff.1 hl).1
    have hz := hb.size
    have hz0 : W0.heap.size ≤ V0.heap.size := by omega
    have hl1 : V1.heap[W0.heap.size + 1]? = some (.loop (rec .ready none)) := (hb.block _ hls).trans hl
    have hk1 : V1.heap[W0.heap.size]? = some (.deferred (some [])) := (hb.block _ (by omega)).trans hk
    have hy := run_yield (P := Tryz.prog) (args := #[.agg #[.int .i64 0, .int .i64 t.at_, .int .i64 t.s, .int .i64 t.m, .int .i64 t.o, .int .i64 t.h, .slice t.a t.n t.c]]) hl1 (by rw [hrec]; rfl)
    rw [hrec] at hy
    refine ⟨fn, _, assign, body, hy, roundIn_of_wpIn hfn ?_⟩
    dsimp only
    rw [hfold]
    refine hassign (W0.heap.size + 1) 0 t.at_ t.s t.m t.o t.h t.a t.n t.c V1 _ ?_
    refine ⟨_, run_beginRound ((Below.heap_alloc _ _ _ (by omega)).trans hl1) (by rw [hrec]), ?_⟩
    have hla : (V1.alloc (.cells #[.int .i64 0, .int .i64 t.at_, .int .i64 t.s, .int .i64 t.m, .int .i64 t.o, .int .i64 t.h, .slice t.a t.n t.c] 172)).heap[W0.heap.size + 1]? = some (.loop (rec .ready none)) := (Below.heap_alloc _ _ _ (by omega)).trans hl1
    have hka : (V1.alloc (.cells #[.int .i64 0, .int .i64 t.at_, .int .i64 t.s, .int .i64 t.m, .int .i64 t.o, .int .i64 t.h, .slice t.a t.n t.c] 172)).heap[W0.heap.size]? = some (.deferred (some [])) := (Below.heap_alloc _ _ _ (by omega)).trans hk1
    have hT1 : Turn W0.heap.size (V1.alloc (.cells #[.int .i64 0, .int .i64 t.at_, .int .i64 t.s, .int .i64 t.m, .int .i64 t.o, .int .i64 t.h, .slice t.a t.n t.c] 172)) ((V1.alloc (.cells #[.int .i64 0, .int .i64 t.at_, .int .i64 t.s, .int .i64 t.m, .int .i64 t.o, .int .i64 t.h, .slice t.a t.n t.c] 172)).putObj (W0.heap.size + 1) (.loop { rec .ready none with state := .busy })) := Turn.put _ (by omega) hla rfl
    have hT12 : Turn W0.heap.size V1 ((V1.alloc (.cells #[.int .i64 0, .int .i64 t.at_, .int .i64 t.s, .int .i64 t.m, .int .i64 t.o, .int .i64 t.h, .slice t.a t.n t.c] 172)).putObj (W0.heap.size + 1) (.loop { rec .ready none with state := .busy })) := (Turn.of_below ((Below.refl _ V1).alloc (Nat.le_refl _) _)).trans hT1
    have hT : Turn W0.heap.size V0 ((V1.alloc (.cells #[.int .i64 0, .int .i64 t.at_, .int .i64 t.s, .int .i64 t.m, .int .i64 t.o, .int .i64 t.h, .slice t.a t.n t.c] 172)).putObj (W0.heap.size + 1) (.loop { rec .ready none with state := .busy })) := (Turn.of_below hb).trans hT12
    have hz2 : ((V1.alloc (.cells #[.int .i64 0, .int .i64 t.at_, .int .i64 t.s, .int .i64 t.m, .int .i64 t.o, .int .i64 t.h, .slice t.a t.n t.c] 172)).putObj (W0.heap.size + 1) (.loop { rec .ready none with state := .busy })).heap.size = V1.heap.size + 1 := by simp
    have hB2 : Blk ((V1.alloc (.cells #[.int .i64 0, .int .i64 t.at_, .int .i64 t.s, .int .i64 t.m, .int .i64 t.o, .int .i64 t.h, .slice t.a t.n t.c] 172)).putObj (W0.heap.size + 1) (.loop { rec .ready none with state := .busy })) V1.heap.size [.int .i64 0, .int .i64 t.at_, .int .i64 t.s, .int .i64 t.m, .int .i64 t.o, .int .i64 t.h, .slice t.a t.n t.c] := hT1.blk (Blk.new_at (w := V1) (cs := #[.int .i64 0, .int .i64 t.at_, .int .i64 t.s, .int .i64 t.m, .int .i64 t.o, .int .i64 t.h, .slice t.a t.n t.c]) (t := 172) V1.heap.size rfl) (by simp)
    have hl2 : ((V1.alloc (.cells #[.int .i64 0, .int .i64 t.at_, .int .i64 t.s, .int .i64 t.m, .int .i64 t.o, .int .i64 t.h, .slice t.a t.n t.c] 172)).putObj (W0.heap.size + 1) (.loop { rec .ready none with state := .busy })).heap[W0.heap.size + 1]? = some (.loop { rec .ready none with state := .busy }) := World.putObj_heap_same (Array.getElem?_eq_some_iff.1 hla).1
    have hk2 : ((V1.alloc (.cells #[.int .i64 0, .int .i64 t.at_, .int .i64 t.s, .int .i64 t.m, .int .i64 t.o, .int .i64 t.h, .slice t.a t.n t.c] 172)).putObj (W0.heap.size + 1) (.loop { rec .ready none with state := .busy })).heap[W0.heap.size]? = some (.deferred (some [])) := (World.putObj_heap_other (by omega)).trans hka
    refine wpIn_mono (hgo (W0.heap.size + 1) pre t V0 V1 _ hi hlen hT hb.size hz2 hz0 hB2 (hT1.own (ho.alloc _))) ?_
    rintro ex a3 V3 ⟨rfl, hko, hi3, hkp⟩
    have hl3 := hko.same _ _ hl2 rfl
    have hk3 := hko.same _ _ hk2 rfl
    have hT3 : Turn W0.heap.size V3 (V3.putObj (W0.heap.size + 1) (.loop (rec .ready none))) := Turn.put _ (by omega) hl3 rfl
    have hl3' := (Array.getElem?_eq_some_iff.1 hl3).1
    have hend : (Instr.endRound (W0.heap.size + 1) none).run Tryz.prog V3 = .ok (.bool true) (V3.putObj (W0.heap.size + 1) (.loop (rec .ready none))) := by
      have := run_endRound (P := Tryz.prog) none hl3
      rw [hrec] at this ⊢; exact this
    refine ⟨_, _, hend, rfl, ⟨hI _ _ _ hi3 hT3, World.putObj_heap_same hl3', (World.putObj_heap_other (by omega)).trans hk3⟩, ?_, ?_, fun b hb0 hb1 => ?_⟩
    · exact (hT12.below hn0 (by omega)).trans (hkp.1.trans (hT3.below hn0 (by have := hko.size; have := hT12.size; omega)))
    · have e1 : V1.heap[A1]? = some (V1.heap[A1]'(by omega)) := Array.getElem?_eq_getElem (by omega)
      have e2 := hT12.same A1 _ e1 (.inl hA1)
      have e3 := hkp.2.1.trans e2
      rw [e1]; exact hT3.same A1 _ e3 (.inl hA1)
    · refine (World.putObj_heap_other (by omega)).trans ((hkp.2.2 b hb0 (by rw [hz2]; omega)).trans ((World.putObj_heap_other (by omega)).trans (Below.heap_alloc _ _ _ hb1)))
  · rintro pre V0 V1 ⟨hi, hl, hk⟩ hb
    have hls := (Array.getElem?_eq_some_iff.1 hl).1
    have hz := hb.size
    have hz0 : W0.heap.size ≤ V0.heap.size := by omega
    have hl1 : V1.heap[W0.heap.size + 1]? = some (.loop (rec .ready none)) := (hb.block _ hls).trans hl
    have hk1 : V1.heap[W0.heap.size]? = some (.deferred (some [])) := (hb.block _ (by omega)).trans hk
    have hy := run_yield (P := Tryz.prog) (args := #[.agg #[.int .i64 1, .int .i64 0, .int .i64 0, .int .i64 0, .int .i64 0, .int .i64 0, .slice none 0 0]]) hl1 (by rw [hrec]; rfl)
    rw [hrec] at hy
    refine ⟨fn, _, assign, body, hy, roundIn_of_wpIn hfn ?_⟩
    dsimp only
    rw [hfold]
    refine hassign (W0.heap.size + 1) 1 0 0 0 0 0 none 0 0 V1 _ ?_
    refine ⟨_, run_beginRound ((Below.heap_alloc _ _ _ (by omega)).trans hl1) (by rw [hrec]), ?_⟩
    have hla : (V1.alloc (.cells #[.int .i64 1, .int .i64 0, .int .i64 0, .int .i64 0, .int .i64 0, .int .i64 0, .slice none 0 0] 172)).heap[W0.heap.size + 1]? = some (.loop (rec .ready none)) := (Below.heap_alloc _ _ _ (by omega)).trans hl1
    have hka : (V1.alloc (.cells #[.int .i64 1, .int .i64 0, .int .i64 0, .int .i64 0, .int .i64 0, .int .i64 0, .slice none 0 0] 172)).heap[W0.heap.size]? = some (.deferred (some [])) := (Below.heap_alloc _ _ _ (by omega)).trans hk1
    have hT1 : Turn W0.heap.size (V1.alloc (.cells #[.int .i64 1, .int .i64 0, .int .i64 0, .int .i64 0, .int .i64 0, .int .i64 0, .slice none 0 0] 172)) ((V1.alloc (.cells #[.int .i64 1, .int .i64 0, .int .i64 0, .int .i64 0, .int .i64 0, .int .i64 0, .slice none 0 0] 172)).putObj (W0.heap.size + 1) (.loop { rec .ready none with state := .busy })) := Turn.put _ (by omega) hla rfl
    have hT12 : Turn W0.heap.size V1 ((V1.alloc (.cells #[.int .i64 1, .int .i64 0, .int .i64 0, .int .i64 0, .int .i64 0, .int .i64 0, .slice none 0 0] 172)).putObj (W0.heap.size + 1) (.loop { rec .ready none with state := .busy })) := (Turn.of_below ((Below.refl _ V1).alloc (Nat.le_refl _) _)).trans hT1
    have hT : Turn W0.heap.size V0 ((V1.alloc (.cells #[.int .i64 1, .int .i64 0, .int .i64 0, .int .i64 0, .int .i64 0, .int .i64 0, .slice none 0 0] 172)).putObj (W0.heap.size + 1) (.loop { rec .ready none with state := .busy })) := (Turn.of_below hb).trans hT12
    have hz2 : ((V1.alloc (.cells #[.int .i64 1, .int .i64 0, .int .i64 0, .int .i64 0, .int .i64 0, .int .i64 0, .slice none 0 0] 172)).putObj (W0.heap.size + 1) (.loop { rec .ready none with state := .busy })).heap.size = V1.heap.size + 1 := by simp
    have hB2 : Blk ((V1.alloc (.cells #[.int .i64 1, .int .i64 0, .int .i64 0, .int .i64 0, .int .i64 0, .int .i64 0, .slice none 0 0] 172)).putObj (W0.heap.size + 1) (.loop { rec .ready none with state := .busy })) V1.heap.size [.int .i64 1, .int .i64 0, .int .i64 0, .int .i64 0, .int .i64 0, .int .i64 0, .slice none 0 0] := hT1.blk (Blk.new_at (w := V1) (cs := #[.int .i64 1, .int .i64 0, .int .i64 0, .int .i64 0, .int .i64 0, .int .i64 0, .slice none 0 0]) (t := 172) V1.heap.size rfl) (by simp)
    have hl2 : ((V1.alloc (.cells #[.int .i64 1, .int .i64 0, .int .i64 0, .int .i64 0, .int .i64 0, .int .i64 0, .slice none 0 0] 172)).putObj (W0.heap.size + 1) (.loop { rec .ready none with state := .busy })).heap[W0.heap.size + 1]? = some (.loop { rec .ready none with state := .busy }) := World.putObj_heap_same (Array.getElem?_eq_some_iff.1 hla).1
    have hk2 : ((V1.alloc (.cells #[.int .i64 1, .int .i64 0, .int .i64 0, .int .i64 0, .int .i64 0, .int .i64 0, .slice none 0 0] 172)).putObj (W0.heap.size + 1) (.loop { rec .ready none with state := .busy })).heap[W0.heap.size]? = some (.deferred (some [])) := (World.putObj_heap_other (by omega)).trans hka
    refine wpIn_mono (hno (W0.heap.size + 1) pre V0 V1 _ hi hT hb.size hz2 hz0 hB2) ?_
    rintro ex a3 V3 ⟨rfl, hko, hi3⟩
    have hl3 := hko.same _ _ hl2 rfl
    have hk3 := hko.same _ _ hk2 rfl
    have hT3 : Turn W0.heap.size V3 (V3.putObj (W0.heap.size + 1) (.loop (rec .done (some .ret)))) := Turn.put _ (by omega) hl3 rfl
    have hl3' := (Array.getElem?_eq_some_iff.1 hl3).1
    have hend : (Instr.endRound (W0.heap.size + 1) (some .ret)).run Tryz.prog V3 = .ok (.bool false) (V3.putObj (W0.heap.size + 1) (.loop (rec .done (some .ret)))) := by
      have := run_endRound (P := Tryz.prog) (some .ret) hl3
      rw [hrec] at this ⊢; exact this
    exact ⟨_, _, hend, rfl, hIx _ _ hi3 hT3, World.putObj_heap_same hl3', (World.putObj_heap_other (by omega)).trans hk3⟩
  · rintro e W2 ⟨⟨v, rfl⟩, (⟨xs, hS, hi, hl, hk⟩ | ⟨hN, hi, hl, hk⟩)⟩
    · exact ⟨none, _, by have := run_endLoop (P := Tryz.prog) hl (by rw [hrec]; simp); rw [hrec] at this; exact this, hdone _ xs _ (Nat.le_refl _) hS (hI _ _ _ hi (Turn.put _ (by omega) hl rfl)) ((World.putObj_heap_other (by omega)).trans hk)⟩
    · exact ⟨some .ret, _, by have := run_endLoop (P := Tryz.prog) hl (by rw [hrec]; simp); rw [hrec] at this; exact this, hstop _ _ (Nat.le_refl _) hN (hIx _ _ hi (Turn.put _ (by omega) hl rfl)) ((World.putObj_heap_other (by omega)).trans hk)⟩
end Go.Proofs.YtnpklnpicelcmaaGreat

