/- Texts merged: K2 to Q3. -/
import Derived.Test.YtlelgfkebcnepaaXPO1
import Derived.Deep.Slices
import Derived.Deep.LoopGhost
import Derived.Shelf.Abstract
namespace Go.Proofs.Ytlelgfkebcnepaa
open Go.RowKit
set_option linter.unusedVariables false

/-- What l3Objects answers: nothing, or the objects in memory of the call's own. -/
def RetObs (W : World) (f : Nat → Int) (r : Option (List Ob)) (e : Ending) (w' : World) : Prop :=
  Below W.heap.size W w' ∧ ((r = none ∧ e = .returned (.tuple #[.slice none 0 0, .bool false])) ∨
    ∃ v M, r = some (M.map OM.x) ∧ e = .returned (.tuple #[v, .bool true]) ∧ w'.ownsRow W.heap.size 42 6 v M.length (rowCells M) ∧ Flds w' W.heap.size f v M)

theorem l1Base_eq (X : Int) (b : Nat) (h ac bu : Int) (a : Option Addr) (n c : Nat) (w : World) (hX : baseI ac h = X) (hB : Blk w b [.int .i64 h, .slice a n c, .int .i64 ac, .int .i64 bu]) (h1 : 8 ≤ h) (h2 : h ≤ 200) (h3 : 0 ≤ ac) (h4 : ac ≤ 1) :
    Calls Try.prog 117 #[.pointer (some ⟨b, 0, none⟩)] w (RetInt w X) := by
  subst hX
  exact l1Base_any b h ac bu a n c w hB h1 h2 h3 h4

theorem ownBlock_lt {w : World} {base e size n : Nat} {v : Value} {xs : List Value} (h : w.ownsRow base e size v n xs) {g : Nat} (hg : v.ownBlock = some g) : g < w.heap.size := by
  rcases h.2 with ⟨rfl, _⟩ | ⟨g', cap, cur, rfl, _, hg', _⟩
  · simp [Value.ownBlock] at hg
  · simp only [Value.ownBlock, Option.some.injEq] at hg
    subst hg
    rcases Nat.lt_or_ge g' w.heap.size with hlt | hge
    · exact hlt
    · rw [Array.getElem?_eq_none hge] at hg'; cases hg'

theorem Try.info42 : (Try.prog.info? 42).map (fun i => (i.zero, i.size, i.bytes)) = some (some (.agg #[.int .i64 0, .int .i64 0, .int .i64 0, .int .i64 0, .int .i64 0, .slice none 0 0]), 6, 64) := by kernel_rfl

theorem src_w0 {w : World} {ab ao n : Nat} {f : Nat → Int} (h : Src w (some ⟨ab, ao, none⟩) n f) (i : Nat) (hi : i < n) : w.cell? ⟨ab, ao + i, none⟩ = some (.int .i64 (f i)) := h.at i hi

theorem src_w1 {w : World} {ab ao n : Nat} {f : Nat → Int} (h : Src w (some ⟨ab, ao, none⟩) n f) (i : Nat) (hi : i + 1 < n) : w.cell? ⟨ab, ao + (i + 1), none⟩ = some (.int .i64 (f (i + 1))) := h.at (i + 1) hi

theorem src_sub {w : World} {ab ao n m d : Nat} {f : Nat → Int} (h : Src w (some ⟨ab, ao, none⟩) n f) (hd : d + m ≤ n) : Src w (some ⟨ab, ao + d, none⟩) m (fun k => f (d + k)) := by
  rcases h with h | ⟨b', o', he, hb, hc⟩
  · exact .inl (by omega)
  · cases he
    exact .inr ⟨ab, ao + d, rfl, hb, fun i hi => by have := hc (d + i) (by omega); rw [Nat.add_assoc]; exact this⟩

theorem ownBlock_ge {w : World} {base e size n : Nat} {v : Value} {xs : List Value} (h : w.ownsRow base e size v n xs) {g : Nat} (hg : v.ownBlock = some g) : base ≤ g := by
  rcases h.2 with ⟨rfl, _⟩ | ⟨g', cap, cur, rfl, hb, _⟩
  · simp [Value.ownBlock] at hg
  · simp only [Value.ownBlock, Option.some.injEq] at hg
    omega

/-- One object more. -/
theorem flds_append {w0 w1 w2 : World} {lo : Nat} {f : Nat → Int} {v : Value} {M : List OM} {g2 n2 cap2 : Nat} (x : Ob) (g c : Nat) (h : Flds w0 lo f v M) (hb : Below w0.heap.size w0 w1) (hg : w1.grownBy w2 v.ownBlock)
    (hat : v.ownBlock = some g2 ∨ g2 = w1.heap.size) (hgl : w0.heap.size ≤ g) (hgu : g < w1.heap.size) (hlo : lo ≤ w0.heap.size) (hv : ∀ k, v.ownBlock = some k → k < w0.heap.size)
    (hc : ∀ k, k < x.s.toNat → w1.cell? ⟨g, k, none⟩ = some (.int .i64 (f (x.at_.toNat + 2 + k))) ∧ w1.frozen? ⟨g, k, none⟩ = false) :
    Flds w2 lo f (.slice (some ⟨g2, 0, none⟩) n2 cap2) (M ++ [⟨x, g, c⟩]) := by
  have hz := hb.size
  refine ⟨fun t ht => ?_, ?_⟩
  · rcases List.mem_append.mp ht with ht | ht
    · obtain ⟨a1, a2, a3, a4⟩ := h.1 t ht
      refine ⟨a1, Nat.lt_of_lt_of_le (Nat.lt_of_lt_of_le a2 hz) hg.size, ?_, fun k hk => ?_⟩
      · intro he
        simp only [Value.ownBlock, Option.some.injEq] at he
        rcases hat with hat | hat
        · exact a3 (by rw [hat, he])
        · omega
      · obtain ⟨b1, b2⟩ := a4 k hk
        have e1 := hg.cell_far ⟨t.g, k, none⟩ (Nat.lt_of_lt_of_le a2 hz) a3
        have e2 := hg.frozen_far ⟨t.g, k, none⟩ (Nat.lt_of_lt_of_le a2 hz) a3
        exact ⟨e1.trans ((hb.cell (p := ⟨t.g, k, none⟩) a2).trans b1), e2.trans ((hb.frozen (p := ⟨t.g, k, none⟩) a2).trans b2)⟩
    · simp only [List.mem_singleton] at ht
      subst ht
      have hne : some g ≠ v.ownBlock := fun he => by have := hv g he.symm; omega
      refine ⟨Nat.le_trans hlo hgl, Nat.lt_of_lt_of_le hgu hg.size, ?_, fun k hk => ?_⟩
      · intro he
        simp only [Value.ownBlock, Option.some.injEq] at he
        rcases hat with hat | hat
        · exact hne (by rw [hat, he])
        · omega
      · obtain ⟨b1, b2⟩ := hc k hk
        exact ⟨(hg.cell_far ⟨g, k, none⟩ hgu hne).trans b1, (hg.frozen_far ⟨g, k, none⟩ hgu hne).trans b2⟩
  · rw [List.pairwise_append]
    refine ⟨h.2, by simp, fun t ht u hu => ?_⟩
    simp only [List.mem_singleton] at hu
    subst hu
    exact Nat.lt_of_lt_of_le (h.1 t ht).2.1 hgl

set_option maxRecDepth 100000 in
set_option maxHeartbeats 6400000 in
theorem l3Objects_any (b P U : Nat) (h ac : Int) (ab ao n c : Nat) (f : Nat → Int) (w : World) (hB : Blk w b [.int .i64 h, .slice (some ⟨ab, ao, none⟩) n c, .int .i64 ac, .int .i64 (U : Int)]) (hs : Src w (some ⟨ab, ao, none⟩) n f) (h1 : 8 ≤ h) (h2 : h ≤ 200) (h3 : 0 ≤ ac) (h4 : ac ≤ 1) (hP : baseI ac h = (P : Int)) (hU : P + U ≤ n) (hn : n ≤ 400) (hcn : n ≤ c) (hcm : c ≤ maxLen) (hf : ∀ i, i < n → f i ≤ 9223372036854775807) :
    Calls Try.prog 69 #[.pointer (some ⟨b, 0, none⟩)] w (RetObs w f (parse f (P + U) P)) := by
  have HB0 := Lib.hid hB
  have HS0 := Lib.hid hs
  have lb := hB.1
  have HF := Lib.hid hf
  have HCM := Lib.hid hcm
  clear hB hs hf hcm
  go_enter Try.func69, Try.ntmps69
  go_wp2_with fail
  have HBa : Hid (Below w.heap.size w (w.alloc (.cells #[] 42))) := (Below.refl _ _).alloc (Nat.le_refl _) _
  have OWa : Hid ((w.alloc (.cells #[] 42)).ownsRow w.heap.size 42 6 (.slice (some ⟨w.heap.size, 0, none⟩) 0 0) 0 []) := World.ownsRow_lit w #[] 0 (Nat.le_refl _) (by simp [maxLen]) rfl
  have za : w.heap.size + 1 ≤ (w.alloc (.cells #[] 42)).heap.size := by simp
  generalize w.alloc (.cells #[] 42) = wa at *
  have BA_a := Lib.hid (HB0.out.below HBa.out)
  have BA_d := Lib.hid BA_a.out.drew
  have HBd := Lib.hid HBa.out.drew
  have hza := HBa.out.size
  have OWd := Lib.hid (ownsRow_below OWa.out (Below.refl _ _).drew)
  have hw : IntKind.i64.wrap ((P : Int) + (U : Int)) = ((P + U : Nat) : Int) := by rw [IntWalk.i64_in _ (by omega)]; omega
  go_region_held3 (fun w' => w'.cell? ⟨b, 0, none⟩ = some (.int .i64 h) ∧ w'.cell? ⟨b, 1, none⟩ = some (.slice (some ⟨ab, ao, none⟩) n c) ∧ w'.cell? ⟨b, 2, none⟩ = some (.int .i64 ac) ∧ w'.cell? ⟨b, 3, none⟩ = some (.int .i64 (U : Int)))
    (first | (with_reducible exact ⟨(BA_a.out).at 0 rfl, (BA_a.out).at 1 rfl, (BA_a.out).at 2 rfl, (BA_a.out).at 3 rfl⟩) | (with_reducible exact ⟨(BA_d.out).at 0 rfl, (BA_d.out).at 1 rfl, (BA_d.out).at 2 rfl, (BA_d.out).at 3 rfl⟩) | (with_reducible exact ⟨(BA_1.out).at 0 rfl, (BA_1.out).at 1 rfl, (BA_1.out).at 2 rfl, (BA_1.out).at 3 rfl⟩))
    (first | (go_at_call 117; refine (l1Base_eq (P : Int) b h ac (U : Int) (some ⟨ab, ao, none⟩) n c _ hP BA_d.out h1 h2 h3 h4).mono ?_; rintro e w1 ⟨rfl, hb⟩; have HB1 := Lib.hid (HBd.out.trans (hb.mono (by simpa using hza))); have BA_1 := Lib.hid (BA_d.out.below hb); have OW1 := Lib.hid (ownsRow_below OWd.out hb); clear hb))
  clear HBa OWa BA_a BA_d HBd OWd
  go_wp2_with fail
  refine (l1Base_eq (P : Int) b h ac (U : Int) (some ⟨ab, ao, none⟩) n c _ hP BA_1.out h1 h2 h3 h4).mono ?_
  rintro e w2 ⟨rfl, hb⟩
  have hz1 := HB1.out.size
  have HB2 := Lib.hid (HB1.out.trans (hb.mono hz1))
  have OW2 := Lib.hid (ownsRow_below OW1.out hb)
  clear hb HB1 OW1 BA_1
  have z2 := HB2.out.size
  have z3 : w.heap.size + 1 ≤ w2.heap.size := ownBlock_lt OW2.out rfl
  go_wp2
  go_loopw [4, 6] (fun v q wr => ∃ (i : Nat) (M : List OM), i ≤ P + U ∧ q = .int .i64 (i : Int) ∧ Hid (Below w.heap.size w wr) ∧ w.heap.size + 1 ≤ wr.heap.size ∧ Hid (wr.ownsRow w.heap.size 42 6 v M.length (rowCells M)) ∧ Hid (Flds wr w.heap.size f v M) ∧ Hid (parse f (P + U) P = (parse f (P + U) i).map (M.map OM.x ++ ·)) ∧ M.length + M.length ≤ i) (fun _ q _ => P + U - (intOf q).toNat)
  case atStart => exact ⟨P, [], by omega, rfl, HB2, z3, OW2, ⟨(by intro t ht; cases ht), List.Pairwise.nil⟩, Lib.hid (by simp), by simp⟩
  case round =>
    obtain ⟨i, M, hi, rfl, HB_r, zr, OW_r, FL_r, HPA, hml⟩ := hrel
    clear HB2 OW2 z2 z3
    have BA_r := Lib.hid (HB0.out.below HB_r.out)
    have hzr := HB_r.out.size
    by_cases hlt : i < P + U
    · have hlt' : (i : Int) < ((P + U : Nat) : Int) := by omega
      by_cases h2e : i + 2 ≤ P + U
      · have h2e' : ¬ ((P + U : Nat) : Int) < (i : Int) + 2 := by omega
        have hi0 : (0 : Int) ≤ (i : Int) := by omega
        have hi1 : (i : Int) < (n : Int) := by omega
        have hi2 : (i : Int) + 1 < (n : Int) := by omega
        have hi3 : (0 : Int) ≤ (i : Int) + 1 := by omega
        have ht1 : ((i : Int) + 1).toNat = i + 1 := by omega
        have hwi : IntKind.i64.wrap ((i : Int) + 1) = (i : Int) + 1 := IntWalk.i64_in _ (by omega)
        go_wp2_with fail
        have SA_r := Lib.hid (HS0.out.below HB_r.out)
        have BA_d := Lib.hid BA_r.out.drew
        have SA_d := Lib.hid SA_r.out.drew
        obtain ⟨hab, hac⟩ : ab < wr.heap.size ∧ True := ⟨by rcases SA_r.out with h0 | ⟨b', o', he, hb', _⟩; omega; cases he; exact hb', trivial⟩
        have lbr : b < wr.heap.size := by omega
        have HFi := Lib.hid (HF.out i (by omega))
        by_cases hro : ROk (f i) (f (i + 1))
        · have HRO := Lib.hid hro
          have hs12 := hro.2.1
          obtain ⟨sN, hS⟩ : ∃ sN : Nat, f i / 2 % 16 = (sN : Int) := ⟨(f i / 2 % 16).toNat, by omega⟩
          have hsz : szOf f i = sN := by unfold szOf; omega
          have hs13 : sN ≤ 12 := by omega
          have HS0' := Lib.hid hS
          clear hS hs12
          go_region_held3 (fun w' => w'.cell? ⟨b, 1, none⟩ = some (.slice (some ⟨ab, ao, none⟩) n c) ∧ w'.cell? ⟨ab, ao + i, none⟩ = some (.int .i64 (f i)) ∧ w'.cell? ⟨ab, ao + (i + 1), none⟩ = some (.int .i64 (f (i + 1))))
            (first | (with_reducible exact ⟨(BA_r.out).at 1 rfl, src_w0 (SA_r.out) i (by omega), src_w1 (SA_r.out) i (by omega)⟩) | (with_reducible exact ⟨(BA_d.out).at 1 rfl, src_w0 (SA_d.out) i (by omega), src_w1 (SA_d.out) i (by omega)⟩) | (with_reducible exact ⟨((BA_r.out.alloc _).drew).at 1 rfl, src_w0 ((SA_r.out.alloc _).drew) i (by omega), src_w1 ((SA_r.out.alloc _).drew) i (by omega)⟩) | (with_reducible exact ⟨(BA_5.out).at 1 rfl, src_w0 (SA_5.out) i (by omega), src_w1 (SA_5.out) i (by omega)⟩) | (with_reducible exact ⟨(BA_5.out.alloc _).at 1 rfl, src_w0 (SA_5.out.alloc _) i (by omega), src_w1 (SA_5.out.alloc _) i (by omega)⟩) | (exact ⟨(((((BA_5.out.other (by (try simp); (try omega)) _).other (by (try simp); (try omega)) _).other (by (try simp); (try omega)) _).other (by (try simp); (try omega)) _)).at 1 rfl, src_w0 (src_other (src_other (src_other (src_other SA_5.out (by (try simp); (try omega)) _) (by (try simp); (try omega)) _) (by (try simp); (try omega)) _) (by (try simp); (try omega)) _) i (by omega), src_w1 (src_other (src_other (src_other (src_other SA_5.out (by (try simp); (try omega)) _) (by (try simp); (try omega)) _) (by (try simp); (try omega)) _) (by (try simp); (try omega)) _) i (by omega)⟩))
            (first | (go_at_call 119; refine (l2Read_yes (f i) (f (i + 1)) _ HFi.out HRO.out).mono ?_; rintro e w5 ⟨s1, m1, o1, h5, rfl, hb, hv⟩; obtain ⟨rfl, rfl, rfl, rfl⟩ := hv (by trivial); have HB5 := Lib.hid (thru0 (below_ext (Below.refl wr.heap.size wr).drew (by first | exact .inl rfl | exact ext_drew _ _ | exact .inr ⟨_, rfl⟩)) hb); have SA_5 := Lib.hid ((SA_d.out.ext (by first | exact .inl rfl | exact ext_drew _ _ | exact .inr ⟨_, rfl⟩)).below hb); have BA_5 := Lib.hid ((BA_d.out.ext (by first | exact .inl rfl | exact ext_drew _ _ | exact .inr ⟨_, rfl⟩)).below hb); have z5 : wr.heap.size ≤ w5.heap.size := (by have := hb.size; simp at this; omega); (first | (have T5 := Lib.hid ((Blk.new_at (w := wr) (cs := #[.int .i64 0, .int .i64 0, .int .i64 0, .int .i64 0]) (t := 28) (wr.heap.size) rfl).drew.below hb)) | skip); clear hb; (first | (have lT := T5.out.1; have cT0 := T5.out.at 0 rfl; have fT0 := T5.out.free 0 rfl; have cT1 := T5.out.at 1 rfl; have fT1 := T5.out.free 1 rfl; have cT2 := T5.out.at 2 rfl; have fT2 := T5.out.free 2 rfl; have cT3 := T5.out.at 3 rfl; have fT3 := T5.out.free 3 rfl) | skip)))
          all_goals have hS := HS0'.out
          · refine then_named (fun w6 => Hid (Below wr.heap.size wr w6) ∧ Hid (Blk w6 (w5.heap.size) [.int .i64 (f i / 2 % 16), .int .i64 (f i / 32 % 4096), .int .i64 (f i / 131072), .int .i64 (f (i + 1))])) ⟨HB5.out.alloc HB5.out.size _, Blk.new_at _ rfl⟩ (fun w6 hF => ?_)
            obtain ⟨HB6, T6⟩ := hF
            clear HB5 SA_5 BA_5 SA_d BA_d
            rw [hS] at T6
            have z6 := HB6.out.size
            have lT6 := T6.out.1
            by_cases hfit : i + 2 + sN ≤ P + U
            · have hft : ¬ (P : Int) + (U : Int) < (i : Int) + ((sN : Int) + 2) := by omega
              go_wp2_with fail
              refine (l2Words_any _ (sN : Int) _ _ _ _ T6.out ⟨by omega, by omega⟩).mono ?_
              rintro e w' ⟨rfl, rfl⟩
              go_wp2_with fail
              refine (l2Words_any _ (sN : Int) _ _ _ _ T6.out ⟨by omega, by omega⟩).mono ?_
              rintro e w' ⟨rfl, rfl⟩
              go_wp2_with fail
              have BA6 := Lib.hid (BA_r.out.below HB6.out)
              have SA6 := Lib.hid (SA_r.out.below HB6.out)
              have OW6 := Lib.hid (ownsRow_below OW_r.out HB6.out)
              have FL6 := Lib.hid (FL_r.out.below HB6.out)
              have HB7 := Lib.hid (HB_r.out.trans (HB6.out.mono hzr))
              have hz7 := HB7.out.size
              have cB1 := BA6.out.at 1 rfl
              have cT0 := T6.out.at 0 rfl; have cT1 := T6.out.at 1 rfl; have cT2 := T6.out.at 2 rfl; have cT3 := T6.out.at 3 rfl
              have lb6 : b < w6.heap.size := by omega
              have hwj : IntKind.i64.wrap ((i : Int) + 2) = (i : Int) + 2 := IntWalk.i64_in _ (by omega)
              have hl0 : (0 : Int) ≤ (i : Int) + 2 := by omega
              have hl1 : (i : Int) + 2 ≤ (i : Int) + ((sN : Int) + 2) := by omega
              have hl2 : (i : Int) + ((sN : Int) + 2) ≤ (c : Int) := by omega
              have hl3 : ¬ (c : Int) < (i : Int) + ((sN : Int) + 2) := by omega
              have hl4 : ¬ (i : Int) + ((sN : Int) + 2) < (i : Int) + 2 := by omega
              have hl5 : ((i : Int) + 2).toNat = i + 2 := by omega
              have hl6 : ((i : Int) + ((sN : Int) + 2)).toNat = i + (sN + 2) := by omega
              have hl7 : i + (sN + 2) - (i + 2) = sN := by omega
              obtain ⟨ad, hif, hsrc⟩ : ∃ ad, (if c = i + 2 then some (⟨ab, ao, none⟩ : Addr) else some ⟨ab, ao + (i + 2), none⟩) = some ad ∧ Hid (Src w6 (some ad) sN (fun k => f (i + 2 + k))) := by
                by_cases hc2 : c = i + 2
                · exact ⟨_, by rw [if_pos hc2], Lib.hid (.inl (by omega))⟩
                · exact ⟨_, by rw [if_neg hc2], Lib.hid (src_sub SA6.out (by omega))⟩
              obtain ⟨j0, hj, hj0, hj1, hj2⟩ := info_parts Try.info42
              have hv4 : Hid (∀ k, Value.ownBlock u4 = some k → k < w6.heap.size) := Lib.hid (fun k hk => ownBlock_lt OW6.out hk)
              have hv5 : Hid (∀ k, Value.ownBlock u4 = some k → w.heap.size ≤ k) := Lib.hid (fun k hk => ownBlock_ge OW6.out hk)
              go_region_law (first | (go_simp; go_at_call 116; refine (l1Ints_all ad sN _ (fun k => f (i + 2 + k)) _ hsrc.out.drew (by omega)).mono ?_; rintro e w8 ⟨g, cap, rfl, hg1, hg2, hcl, hb, hca1, hca2⟩; have hg3 : w6.heap.size ≤ g := (by simpa using hg1); have HB8 := Lib.hid (thru0 (Below.refl w6.heap.size w6).drew hb); have z8 : w6.heap.size ≤ w8.heap.size := (by have := hb.size; simpa using this); have OW8 := Lib.hid (ownsRow_below OW6.out HB8.out); have HC8 := Lib.hid hcl; have T8 := Lib.hid (T6.out.below HB8.out); have dT0 := T8.out.at 0 rfl; have dT1 := T8.out.at 1 rfl; have dT2 := T8.out.at 2 rfl; have dT3 := T8.out.at 3 rfl; clear hb hcl hg1) | (refine step_append_lies _ rfl (.tmp 58) (.tmp 71) 35 rfl w.heap.size 42 j0 _ 6 64 Try.underlying35 hj hj0 hj1 hj2 rfl (by decide) u4 M.length (rowCells M) rfl (ownsRow_below OW8.out ((Below.refl _ _).alloc (Nat.le_refl _) _)) ⟨w8.heap.size, 0, none⟩ 1 1 [.int .i64 (i : Int), .int .i64 (sN : Int), .int .i64 (f i / 32 % 4096), .int .i64 (f i / 131072), .int .i64 (f (i + 1)), .slice (some ⟨g, 0, none⟩) sN cap] rfl rfl (fun j u hu => (by have := (Blk.new_at (w := w8) (cs := #[.int .i64 (i : Int), .int .i64 (sN : Int), .int .i64 (f i / 32 % 4096), .int .i64 (f i / 131072), .int .i64 (f (i + 1)), .slice (some ⟨g, 0, none⟩) sN cap]) (t := 42) (w8.heap.size) rfl).at j hu; rcases j with _ | j <;> simpa [Addr.add] using this)) (by intro u hu; simp only [List.mem_cons, List.mem_nil_iff, or_false] at hu; rcases hu with rfl | rfl | rfl | rfl | rfl | rfl <;> rfl) (by omega) (by unfold maxLen; omega) (by omega) (by simp; omega) (w8.heap.size + 1) (by simp) ?_; intro g2 cap2 w9 hown hgrow hat hlt9))
              all_goals have HB9 : Hid (Below w.heap.size w w9) := ((HB7.out.trans (HB8.out.mono hz7)).alloc (by omega) _).grown hgrow (by simp; omega) (fun k hk => hv5.out k hk)
              all_goals have z9 : w.heap.size + 1 ≤ w9.heap.size := by have := hgrow.size; simp at this; omega
              all_goals have heq : OM.cells ⟨objAt f i, g, cap⟩ = [.int .i64 (i : Int), .int .i64 (sN : Int), .int .i64 (f i / 32 % 4096), .int .i64 (f i / 131072), .int .i64 (f (i + 1)), .slice (some ⟨g, 0, none⟩) sN cap] := by simp [OM.cells, objAt, hS]
              all_goals have OW9 : Hid (w9.ownsRow w.heap.size 42 6 (.slice (some ⟨g2, 0, none⟩) (M.length + 1) cap2) (M ++ [(⟨objAt f i, g, cap⟩ : OM)]).length (rowCells (M ++ [(⟨objAt f i, g, cap⟩ : OM)]))) := Lib.hid (by have e : (M ++ [(⟨objAt f i, g, cap⟩ : OM)]).length = M.length + 1 := (by simp); rw [e, rowCells_snoc, heq]; exact hown)
              all_goals have FL9 : Hid (Flds w9 w.heap.size f (.slice (some ⟨g2, 0, none⟩) (M.length + 1) cap2) (M ++ [(⟨objAt f i, g, cap⟩ : OM)])) := Lib.hid (flds_append (objAt f i) g cap FL6.out (HB8.out.alloc HB8.out.size _) hgrow (by simpa using hat) hg3 (by simp; omega) hz7 hv4.out (fun k hk => by have hk' : k < sN := (by have : (objAt f i).s.toNat = sN := (by simp [objAt, hS]); omega); have hal := (Below.refl w8.heap.size w8).alloc (Nat.le_refl _) (.cells #[.int .i64 (i : Int), .int .i64 (sN : Int), .int .i64 (f i / 32 % 4096), .int .i64 (f i / 131072), .int .i64 (f (i + 1)), .slice (some ⟨g, 0, none⟩) sN cap] 42); exact ⟨(hal.cell (p := ⟨g, k, none⟩) hg2).trans (HC8.out k hk').1, (hal.frozen (p := ⟨g, k, none⟩) hg2).trans (HC8.out k hk').2⟩))
              all_goals have HPA9 : Hid (parse f (P + U) P = (parse f (P + U) (i + 2 + sN)).map ((M ++ [(⟨objAt f i, g, cap⟩ : OM)]).map OM.x ++ ·)) := Lib.hid (by have hg := parse_step HPA.out hlt ⟨by omega, hro, by rw [hsz]; omega⟩; rw [hsz] at hg; rw [List.map_append]; exact hg)
              all_goals clear hown hgrow hat HB8 OW8 HC8 T8 BA6 SA6 OW6 FL6 hsrc hv4 hv5 hif HPA FL_r OW_r
              all_goals go_wp2
              all_goals go_roundw
              all_goals first | exact ⟨i + 2 + sN, M ++ [⟨objAt f i, g, cap⟩], by omega, by congr 1; omega, HB9, z9, OW9, FL9, HPA9, by simp; omega⟩ | ((repeat apply Exists.intro); exact ⟨⟨i + 2 + sN, M ++ [⟨objAt f i, g, cap⟩], by omega, by congr 1; omega, HB9, z9, OW9, FL9, HPA9, by simp; omega⟩, rfl⟩) | (simp [intOf]; omega)
            · have hft : (P : Int) + (U : Int) < (i : Int) + ((sN : Int) + 2) := by omega
              have HPN : Hid (parse f (P + U) P = none) := Lib.hid (by rw [HPA.out, parse_bad hlt (fun hg => hfit (by have := hg.2.2; rw [hsz] at this; exact this))]; rfl)
              have HB7 := Lib.hid (HB_r.out.trans (HB6.out.mono hzr))
              go_wp2_with fail
              refine (l2Words_any _ (sN : Int) _ _ _ _ T6.out ⟨by omega, by omega⟩).mono ?_
              rintro e w' ⟨rfl, rfl⟩
              go_wp2
              exact bodyPost_ret (v := .tuple #[.slice none 0 0, .bool false]) (by simp [results, Try.results69, go_sem]) rfl ⟨HB7.out, .inl ⟨HPN.out, rfl⟩⟩
          · refine then_named (fun w6 => Hid (Below wr.heap.size wr w6) ∧ Hid (Blk w6 (wr.heap.size) [.int .i64 (f i / 2 % 16), .int .i64 (f i / 32 % 4096), .int .i64 (f i / 131072), .int .i64 (f (i + 1))])) ⟨((((HB5.out.setCell (by (try simp); (try omega)) _).setCell (by (try simp); (try omega)) _).setCell (by (try simp); (try omega)) _).setCell (by (try simp); (try omega)) _), ((((T5.out.set 0 (by simp) _).set 1 (by simp) _).set 2 (by simp) _).set 3 (by simp) _)⟩ (fun w6 hF => ?_)
            obtain ⟨HB6, T6⟩ := hF
            clear HB5 SA_5 BA_5 SA_d BA_d T5 lT cT0 fT0 cT1 fT1 cT2 fT2 cT3 fT3
            rw [hS] at T6
            have z6 := HB6.out.size
            have lT6 := T6.out.1
            by_cases hfit : i + 2 + sN ≤ P + U
            · have hft : ¬ (P : Int) + (U : Int) < (i : Int) + ((sN : Int) + 2) := by omega
              go_wp2_with fail
              refine (l2Words_any _ (sN : Int) _ _ _ _ T6.out ⟨by omega, by omega⟩).mono ?_
              rintro e w' ⟨rfl, rfl⟩
              go_wp2_with fail
              refine (l2Words_any _ (sN : Int) _ _ _ _ T6.out ⟨by omega, by omega⟩).mono ?_
              rintro e w' ⟨rfl, rfl⟩
              go_wp2_with fail
              have BA6 := Lib.hid (BA_r.out.below HB6.out)
              have SA6 := Lib.hid (SA_r.out.below HB6.out)
              have OW6 := Lib.hid (ownsRow_below OW_r.out HB6.out)
              have FL6 := Lib.hid (FL_r.out.below HB6.out)
              have HB7 := Lib.hid (HB_r.out.trans (HB6.out.mono hzr))
              have hz7 := HB7.out.size
              have cB1 := BA6.out.at 1 rfl
              have cT0 := T6.out.at 0 rfl; have cT1 := T6.out.at 1 rfl; have cT2 := T6.out.at 2 rfl; have cT3 := T6.out.at 3 rfl
              have lb6 : b < w6.heap.size := by omega
              have hwj : IntKind.i64.wrap ((i : Int) + 2) = (i : Int) + 2 := IntWalk.i64_in _ (by omega)
              have hl0 : (0 : Int) ≤ (i : Int) + 2 := by omega
              have hl1 : (i : Int) + 2 ≤ (i : Int) + ((sN : Int) + 2) := by omega
              have hl2 : (i : Int) + ((sN : Int) + 2) ≤ (c : Int) := by omega
              have hl3 : ¬ (c : Int) < (i : Int) + ((sN : Int) + 2) := by omega
              have hl4 : ¬ (i : Int) + ((sN : Int) + 2) < (i : Int) + 2 := by omega
              have hl5 : ((i : Int) + 2).toNat = i + 2 := by omega
              have hl6 : ((i : Int) + ((sN : Int) + 2)).toNat = i + (sN + 2) := by omega
              have hl7 : i + (sN + 2) - (i + 2) = sN := by omega
              obtain ⟨ad, hif, hsrc⟩ : ∃ ad, (if c = i + 2 then some (⟨ab, ao, none⟩ : Addr) else some ⟨ab, ao + (i + 2), none⟩) = some ad ∧ Hid (Src w6 (some ad) sN (fun k => f (i + 2 + k))) := by
                by_cases hc2 : c = i + 2
                · exact ⟨_, by rw [if_pos hc2], Lib.hid (.inl (by omega))⟩
                · exact ⟨_, by rw [if_neg hc2], Lib.hid (src_sub SA6.out (by omega))⟩
              obtain ⟨j0, hj, hj0, hj1, hj2⟩ := info_parts Try.info42
              have hv4 : Hid (∀ k, Value.ownBlock u4 = some k → k < w6.heap.size) := Lib.hid (fun k hk => ownBlock_lt OW6.out hk)
              have hv5 : Hid (∀ k, Value.ownBlock u4 = some k → w.heap.size ≤ k) := Lib.hid (fun k hk => ownBlock_ge OW6.out hk)
              go_region_law (first | (go_simp; go_at_call 116; refine (l1Ints_all ad sN _ (fun k => f (i + 2 + k)) _ hsrc.out.drew (by omega)).mono ?_; rintro e w8 ⟨g, cap, rfl, hg1, hg2, hcl, hb, hca1, hca2⟩; have hg3 : w6.heap.size ≤ g := (by simpa using hg1); have HB8 := Lib.hid (thru0 (Below.refl w6.heap.size w6).drew hb); have z8 : w6.heap.size ≤ w8.heap.size := (by have := hb.size; simpa using this); have OW8 := Lib.hid (ownsRow_below OW6.out HB8.out); have HC8 := Lib.hid hcl; have T8 := Lib.hid (T6.out.below HB8.out); have dT0 := T8.out.at 0 rfl; have dT1 := T8.out.at 1 rfl; have dT2 := T8.out.at 2 rfl; have dT3 := T8.out.at 3 rfl; clear hb hcl hg1) | (refine step_append_lies _ rfl (.tmp 58) (.tmp 71) 35 rfl w.heap.size 42 j0 _ 6 64 Try.underlying35 hj hj0 hj1 hj2 rfl (by decide) u4 M.length (rowCells M) rfl (ownsRow_below OW8.out ((Below.refl _ _).alloc (Nat.le_refl _) _)) ⟨w8.heap.size, 0, none⟩ 1 1 [.int .i64 (i : Int), .int .i64 (sN : Int), .int .i64 (f i / 32 % 4096), .int .i64 (f i / 131072), .int .i64 (f (i + 1)), .slice (some ⟨g, 0, none⟩) sN cap] rfl rfl (fun j u hu => (by have := (Blk.new_at (w := w8) (cs := #[.int .i64 (i : Int), .int .i64 (sN : Int), .int .i64 (f i / 32 % 4096), .int .i64 (f i / 131072), .int .i64 (f (i + 1)), .slice (some ⟨g, 0, none⟩) sN cap]) (t := 42) (w8.heap.size) rfl).at j hu; rcases j with _ | j <;> simpa [Addr.add] using this)) (by intro u hu; simp only [List.mem_cons, List.mem_nil_iff, or_false] at hu; rcases hu with rfl | rfl | rfl | rfl | rfl | rfl <;> rfl) (by omega) (by unfold maxLen; omega) (by omega) (by simp; omega) (w8.heap.size + 1) (by simp) ?_; intro g2 cap2 w9 hown hgrow hat hlt9))
              all_goals have HB9 : Hid (Below w.heap.size w w9) := ((HB7.out.trans (HB8.out.mono hz7)).alloc (by omega) _).grown hgrow (by simp; omega) (fun k hk => hv5.out k hk)
              all_goals have z9 : w.heap.size + 1 ≤ w9.heap.size := by have := hgrow.size; simp at this; omega
              all_goals have heq : OM.cells ⟨objAt f i, g, cap⟩ = [.int .i64 (i : Int), .int .i64 (sN : Int), .int .i64 (f i / 32 % 4096), .int .i64 (f i / 131072), .int .i64 (f (i + 1)), .slice (some ⟨g, 0, none⟩) sN cap] := by simp [OM.cells, objAt, hS]
              all_goals have OW9 : Hid (w9.ownsRow w.heap.size 42 6 (.slice (some ⟨g2, 0, none⟩) (M.length + 1) cap2) (M ++ [(⟨objAt f i, g, cap⟩ : OM)]).length (rowCells (M ++ [(⟨objAt f i, g, cap⟩ : OM)]))) := Lib.hid (by have e : (M ++ [(⟨objAt f i, g, cap⟩ : OM)]).length = M.length + 1 := (by simp); rw [e, rowCells_snoc, heq]; exact hown)
              all_goals have FL9 : Hid (Flds w9 w.heap.size f (.slice (some ⟨g2, 0, none⟩) (M.length + 1) cap2) (M ++ [(⟨objAt f i, g, cap⟩ : OM)])) := Lib.hid (flds_append (objAt f i) g cap FL6.out (HB8.out.alloc HB8.out.size _) hgrow (by simpa using hat) hg3 (by simp; omega) hz7 hv4.out (fun k hk => by have hk' : k < sN := (by have : (objAt f i).s.toNat = sN := (by simp [objAt, hS]); omega); have hal := (Below.refl w8.heap.size w8).alloc (Nat.le_refl _) (.cells #[.int .i64 (i : Int), .int .i64 (sN : Int), .int .i64 (f i / 32 % 4096), .int .i64 (f i / 131072), .int .i64 (f (i + 1)), .slice (some ⟨g, 0, none⟩) sN cap] 42); exact ⟨(hal.cell (p := ⟨g, k, none⟩) hg2).trans (HC8.out k hk').1, (hal.frozen (p := ⟨g, k, none⟩) hg2).trans (HC8.out k hk').2⟩))
              all_goals have HPA9 : Hid (parse f (P + U) P = (parse f (P + U) (i + 2 + sN)).map ((M ++ [(⟨objAt f i, g, cap⟩ : OM)]).map OM.x ++ ·)) := Lib.hid (by have hg := parse_step HPA.out hlt ⟨by omega, hro, by rw [hsz]; omega⟩; rw [hsz] at hg; rw [List.map_append]; exact hg)
              all_goals clear hown hgrow hat HB8 OW8 HC8 T8 BA6 SA6 OW6 FL6 hsrc hv4 hv5 hif HPA FL_r OW_r
              all_goals go_wp2
              all_goals go_roundw
              all_goals first | exact ⟨i + 2 + sN, M ++ [⟨objAt f i, g, cap⟩], by omega, by congr 1; omega, HB9, z9, OW9, FL9, HPA9, by simp; omega⟩ | ((repeat apply Exists.intro); exact ⟨⟨i + 2 + sN, M ++ [⟨objAt f i, g, cap⟩], by omega, by congr 1; omega, HB9, z9, OW9, FL9, HPA9, by simp; omega⟩, rfl⟩) | (simp [intOf]; omega)
            · have hft : (P : Int) + (U : Int) < (i : Int) + ((sN : Int) + 2) := by omega
              have HPN : Hid (parse f (P + U) P = none) := Lib.hid (by rw [HPA.out, parse_bad hlt (fun hg => hfit (by have := hg.2.2; rw [hsz] at this; exact this))]; rfl)
              have HB7 := Lib.hid (HB_r.out.trans (HB6.out.mono hzr))
              go_wp2_with fail
              refine (l2Words_any _ (sN : Int) _ _ _ _ T6.out ⟨by omega, by omega⟩).mono ?_
              rintro e w' ⟨rfl, rfl⟩
              go_wp2
              exact bodyPost_ret (v := .tuple #[.slice none 0 0, .bool false]) (by simp [results, Try.results69, go_sem]) rfl ⟨HB7.out, .inl ⟨HPN.out, rfl⟩⟩
        · have HRO := Lib.hid hro
          have hpn0 : Hid (parse f (P + U) P = none) := Lib.hid (by rw [HPA.out, parse_bad hlt (fun hg => hro hg.2.1)]; rfl)
          go_region_held3 (fun w' => w'.cell? ⟨b, 1, none⟩ = some (.slice (some ⟨ab, ao, none⟩) n c) ∧ w'.cell? ⟨ab, ao + i, none⟩ = some (.int .i64 (f i)) ∧ w'.cell? ⟨ab, ao + (i + 1), none⟩ = some (.int .i64 (f (i + 1))))
            (first | (with_reducible exact ⟨(BA_r.out).at 1 rfl, src_w0 (SA_r.out) i (by omega), src_w1 (SA_r.out) i (by omega)⟩) | (with_reducible exact ⟨(BA_d.out).at 1 rfl, src_w0 (SA_d.out) i (by omega), src_w1 (SA_d.out) i (by omega)⟩) | (with_reducible exact ⟨((BA_r.out.alloc _).drew).at 1 rfl, src_w0 ((SA_r.out.alloc _).drew) i (by omega), src_w1 ((SA_r.out.alloc _).drew) i (by omega)⟩) | (with_reducible exact ⟨(BA_5.out).at 1 rfl, src_w0 (SA_5.out) i (by omega), src_w1 (SA_5.out) i (by omega)⟩) | (with_reducible exact ⟨(BA_5.out.alloc _).at 1 rfl, src_w0 (SA_5.out.alloc _) i (by omega), src_w1 (SA_5.out.alloc _) i (by omega)⟩) | (exact ⟨(((((BA_5.out.other (by (try simp); (try omega)) _).other (by (try simp); (try omega)) _).other (by (try simp); (try omega)) _).other (by (try simp); (try omega)) _)).at 1 rfl, src_w0 (src_other (src_other (src_other (src_other SA_5.out (by (try simp); (try omega)) _) (by (try simp); (try omega)) _) (by (try simp); (try omega)) _) (by (try simp); (try omega)) _) i (by omega), src_w1 (src_other (src_other (src_other (src_other SA_5.out (by (try simp); (try omega)) _) (by (try simp); (try omega)) _) (by (try simp); (try omega)) _) (by (try simp); (try omega)) _) i (by omega)⟩))
            (first | (go_at_call 119; refine (l2Read_no (f i) (f (i + 1)) _ HFi.out HRO.out).mono ?_; rintro e w5 ⟨s1, m1, o1, h5, rfl, hb, hv⟩; clear hv; have HB5 := Lib.hid (thru0 (below_ext (Below.refl wr.heap.size wr).drew (by first | exact .inl rfl | exact ext_drew _ _ | exact .inr ⟨_, rfl⟩)) hb); have SA_5 := Lib.hid ((SA_d.out.ext (by first | exact .inl rfl | exact ext_drew _ _ | exact .inr ⟨_, rfl⟩)).below hb); have BA_5 := Lib.hid ((BA_d.out.ext (by first | exact .inl rfl | exact ext_drew _ _ | exact .inr ⟨_, rfl⟩)).below hb); have z5 : wr.heap.size ≤ w5.heap.size := (by have := hb.size; simp at this; omega); (first | (have T5 := Lib.hid ((Blk.new_at (w := wr) (cs := #[.int .i64 0, .int .i64 0, .int .i64 0, .int .i64 0]) (t := 28) (wr.heap.size) rfl).drew.below hb)) | skip); clear hb; (first | (have lT := T5.out.1; have cT0 := T5.out.at 0 rfl; have fT0 := T5.out.free 0 rfl; have cT1 := T5.out.at 1 rfl; have fT1 := T5.out.free 1 rfl; have cT2 := T5.out.at 2 rfl; have fT2 := T5.out.free 2 rfl; have cT3 := T5.out.at 3 rfl; have fT3 := T5.out.free 3 rfl) | skip)))
          · refine then_named (fun w6 => Hid (Below wr.heap.size wr w6) ∧ Hid (Blk w6 (w5.heap.size) [.int .i64 s1, .int .i64 m1, .int .i64 o1, .int .i64 h5])) ⟨HB5.out.alloc HB5.out.size _, Blk.new_at _ rfl⟩ (fun w6 hF => ?_)
            obtain ⟨HB6, T6⟩ := hF
            clear HB5 SA_5 BA_5 SA_d BA_d
            have hpn := hpn0.out
            have HB7 := Lib.hid (HB_r.out.trans (HB6.out.mono hzr))
            have HPN := Lib.hid hpn
            clear hpn
            go_wp2
            exact bodyPost_ret (v := .tuple #[.slice none 0 0, .bool false]) (by simp [results, Try.results69, go_sem]) rfl ⟨HB7.out, .inl ⟨HPN.out, rfl⟩⟩
          · refine then_named (fun w6 => Hid (Below wr.heap.size wr w6) ∧ Hid (Blk w6 (wr.heap.size) [.int .i64 s1, .int .i64 m1, .int .i64 o1, .int .i64 h5])) ⟨((((HB5.out.setCell (by (try simp); (try omega)) _).setCell (by (try simp); (try omega)) _).setCell (by (try simp); (try omega)) _).setCell (by (try simp); (try omega)) _), ((((T5.out.set 0 (by simp) _).set 1 (by simp) _).set 2 (by simp) _).set 3 (by simp) _)⟩ (fun w6 hF => ?_)
            obtain ⟨HB6, T6⟩ := hF
            clear HB5 SA_5 BA_5 SA_d BA_d T5 lT cT0 fT0 cT1 fT1 cT2 fT2 cT3 fT3
            have hpn := hpn0.out
            have HB7 := Lib.hid (HB_r.out.trans (HB6.out.mono hzr))
            have HPN := Lib.hid hpn
            clear hpn
            go_wp2
            exact bodyPost_ret (v := .tuple #[.slice none 0 0, .bool false]) (by simp [results, Try.results69, go_sem]) rfl ⟨HB7.out, .inl ⟨HPN.out, rfl⟩⟩
      · have h2e' : ((P + U : Nat) : Int) < (i : Int) + 2 := by omega
        have hpn : Hid (parse f (P + U) P = none) := Lib.hid (by rw [HPA.out, parse_bad hlt (fun hg => h2e (by have := hg.1; omega))]; rfl)
        go_wp2
        exact bodyPost_ret (v := .tuple #[.slice none 0 0, .bool false]) (by simp [results, Try.results69, go_sem]) rfl ⟨HB_r.out, .inl ⟨hpn.out, rfl⟩⟩
    · have hlt' : ¬ (i : Int) < ((P + U : Nat) : Int) := by omega
      have hpn : Hid (parse f (P + U) P = some (M.map OM.x)) := Lib.hid (by rw [HPA.out, parse_stop hlt]; simp)
      go_wp2
      exact bodyPost_ret (v := .tuple #[u4, .bool true]) (by simp [results, Try.results69, go_sem]) rfl ⟨HB_r.out, .inr ⟨_, M, hpn.out, rfl, OW_r.out, FL_r.out⟩⟩
end Go.Proofs.Ytlelgfkebcnepaa

namespace Go.Proofs.Ytlelgfkebcnepaa
open Go.RowKit
set_option linter.unusedVariables false

theorem rowCells_get : ∀ (M : List OM) (i : Nat) (t : OM), M[i]? = some t → ∀ j, j < 6 → (rowCells M)[i * 6 + j]? = t.cells[j]?
  | [], i, t, h, j, hj => by simp at h
  | u :: M, 0, t, h, j, hj => by
    simp only [List.getElem?_cons_zero, Option.some.injEq] at h
    subst h
    simp only [rowCells, List.flatMap_cons, Nat.zero_mul, Nat.zero_add]
    rw [List.getElem?_append_left (by simp [OM.cells]; omega)]
  | u :: M, i + 1, t, h, j, hj => by
    have ih := rowCells_get M i t (by simpa using h) j hj
    simp only [rowCells, List.flatMap_cons] at ih ⊢
    rw [List.getElem?_append_right (by simp [OM.cells]; omega)]
    have e : (i + 1) * 6 + j - u.cells.length = i * 6 + j := by simp [OM.cells]; omega
    rw [e]; exact ih

/-- What a row of objects holds at a place. -/
def ObAt (w : World) (gb i : Nat) (t : OM) : Prop := ∀ j u, t.cells[j]? = some u → w.cell? ⟨gb, i * 6 + j, none⟩ = some u

theorem row_form {w : World} {base : Nat} {v : Value} {M : List OM} (h : w.ownsRow base 42 6 v M.length (rowCells M)) (h0 : 0 < M.length) :
    ∃ gb cap, v = .slice (some ⟨gb, 0, none⟩) M.length cap ∧ base ≤ gb ∧ gb < w.heap.size ∧ ∀ i t, M[i]? = some t → ObAt w gb i t := by
  obtain ⟨gb, cap, rfl, hb, hlt⟩ := h.form h0
  refine ⟨gb, cap, rfl, hb, hlt, fun i t ht j u hu => ?_⟩
  have hi : i < M.length := (List.getElem?_eq_some_iff.mp ht).1
  have hj : j < 6 := by
    have := (List.getElem?_eq_some_iff.mp hu).1
    simpa [OM.cells] using this
  have hc := h.cellAt (i * 6 + j) (by omega)
  rw [rowCells_get M i t ht j hj, hu] at hc
  simpa using hc

theorem row_nil {w : World} {base : Nat} {v : Value} {M : List OM} (h : w.ownsRow base 42 6 v M.length (rowCells M)) : ∃ a cap, v = .slice a M.length cap := by
  rcases h.2 with ⟨h1, h2⟩ | ⟨g, cap, cur, h1, _⟩
  · exact ⟨none, 0, by rw [h1, h2]⟩
  · exact ⟨_, cap, h1⟩

/-- The fields of an object in memory. -/
theorem Flds.src {w : World} {lo : Nat} {f : Nat → Int} {v : Value} {M : List OM} (h : Flds w lo f v M) {t : OM} (ht : t ∈ M) : Src w (some ⟨t.g, 0, none⟩) t.x.s.toNat (fun k => f (t.x.at_.toNat + 2 + k)) := by
  obtain ⟨_, a2, _, a4⟩ := h.1 t ht
  exact .inr ⟨t.g, 0, rfl, a2, fun k hk => by rw [Nat.zero_add]; exact (a4 k hk).1⟩

theorem ObAt.below {w w' : World} {gb i : Nat} {t : OM} (h : ObAt w gb i t) (hb : Below w.heap.size w w') (hg : gb < w.heap.size) : ObAt w' gb i t := fun j u hu => (hb.cell (p := ⟨gb, i * 6 + j, none⟩) hg).trans (h j u hu)

/-- The six cells of an object, written out. -/
def Six (w : World) (gb o : Nat) (x : Ob) (g c : Nat) : Prop := w.cell? ⟨gb, o, none⟩ = some (.int .i64 x.at_) ∧ w.cell? ⟨gb, o + 1, none⟩ = some (.int .i64 x.s) ∧ w.cell? ⟨gb, o + 2, none⟩ = some (.int .i64 x.m) ∧ w.cell? ⟨gb, o + 3, none⟩ = some (.int .i64 x.o) ∧ w.cell? ⟨gb, o + 4, none⟩ = some (.int .i64 x.h) ∧ w.cell? ⟨gb, o + 5, none⟩ = some (.slice (some ⟨g, 0, none⟩) x.s.toNat c)

theorem ObAt.six {w : World} {gb i : Nat} {t : OM} (h : ObAt w gb i t) : Six w gb (i * 6) t.x t.g t.c :=
  ⟨h 0 _ rfl, h 1 _ rfl, h 2 _ rfl, h 3 _ rfl, h 4 _ rfl, h 5 _ rfl⟩

theorem Six.below {w w' : World} {gb o : Nat} {x : Ob} {g c : Nat} (h : Six w gb o x g c) (hb : Below w.heap.size w w') (hg : gb < w.heap.size) : Six w' gb o x g c :=
  ⟨(hb.cell (p := ⟨gb, o, none⟩) hg).trans h.1, (hb.cell (p := ⟨gb, o + 1, none⟩) hg).trans h.2.1, (hb.cell (p := ⟨gb, o + 2, none⟩) hg).trans h.2.2.1, (hb.cell (p := ⟨gb, o + 3, none⟩) hg).trans h.2.2.2.1, (hb.cell (p := ⟨gb, o + 4, none⟩) hg).trans h.2.2.2.2.1, (hb.cell (p := ⟨gb, o + 5, none⟩) hg).trans h.2.2.2.2.2⟩
end Go.Proofs.Ytlelgfkebcnepaa

namespace Go.Proofs.Ytlelgfkebcnepaa
open Go.RowKit
set_option linter.unusedVariables false

/-- A code and objects come back, in memory of the call's own. -/
def RetOR (W : World) (f : Nat → Int) (co : Int) (L : List Ob) (e : Ending) (w' : World) : Prop :=
  ∃ v M, e = .returned (.agg #[.int .i64 co, v]) ∧ M.map OM.x = L ∧ w'.ownsRow W.heap.size 42 6 v M.length (rowCells M) ∧ Flds w' W.heap.size f v M ∧ Below W.heap.size W w'

/-- What ObjectsIn answers. -/
def IsOI (h : Int) (n : Nat) (f : Nat → Int) (ac bu co : Int) (L : List Ob) : Prop :=
  (∃ k, IsFault h n f ac bu k ∧ ¬ k = 0 ∧ co = k ∧ L = []) ∨
  (IsFault h n f ac bu 0 ∧ parse f ((baseI ac h).toNat + bu.toNat) (baseI ac h).toNat = none ∧ co = 1 ∧ L = []) ∨
  (IsFault h n f ac bu 0 ∧ parse f ((baseI ac h).toNat + bu.toNat) (baseI ac h).toNat = some L ∧ co = 0)

theorem isOI_some (h : Int) (n : Nat) (f : Nat → Int) (ac bu : Int) : ∃ co L, IsOI h n f ac bu co L := by
  obtain ⟨k, hk⟩ := isFault_some h n f ac bu
  by_cases h0 : k = 0
  · subst h0
    cases hp : parse f ((baseI ac h).toNat + bu.toNat) (baseI ac h).toNat with
    | none => exact ⟨1, [], .inr (.inl ⟨hk, hp, rfl, rfl⟩)⟩
    | some L => exact ⟨0, L, .inr (.inr ⟨hk, hp, rfl⟩)⟩
  · exact ⟨k, [], .inl ⟨k, hk, h0, rfl, rfl⟩⟩

theorem ownsRow_mono {w : World} {base base' e size n : Nat} {v : Value} {xs : List Value} (h : w.ownsRow base e size v n xs) (hb : base' ≤ base) : w.ownsRow base' e size v n xs := by
  refine ⟨h.1, ?_⟩
  rcases h.2 with h0 | ⟨g, cap, cur, h1, h2, h3⟩
  · exact .inl h0
  · exact .inr ⟨g, cap, cur, h1, by omega, h3⟩

theorem ownsRow_other {w : World} {base e size n : Nat} {v : Value} {xs : List Value} (h : w.ownsRow base e size v n xs) {p : Addr} (hp : p.block < base) (u : Value) : (w.setCell p u).ownsRow base e size v n xs := by
  refine ⟨h.1, ?_⟩
  rcases h.2 with h0 | ⟨g, cap, cur, h1, h2, h3, h4⟩
  · exact .inl h0
  · exact .inr ⟨g, cap, cur, h1, h2, (Below.heap_setCell w p u g (by omega)).trans h3, h4⟩

theorem Flds.mono {w : World} {lo lo' : Nat} {f : Nat → Int} {v : Value} {M : List OM} (h : Flds w lo f v M) (hl : lo' ≤ lo) : Flds w lo' f v M :=
  ⟨fun t ht => by obtain ⟨a1, a2⟩ := h.1 t ht; exact ⟨Nat.le_trans hl a1, a2⟩, h.2⟩

theorem Flds.other {w : World} {lo : Nat} {f : Nat → Int} {v : Value} {M : List OM} (h : Flds w lo f v M) {p : Addr} (hp : p.block < lo) (u : Value) : Flds (w.setCell p u) lo f v M :=
  ⟨fun t ht => by
    obtain ⟨a1, a2, a3, a4⟩ := h.1 t ht
    have e : (w.setCell p u).heap[t.g]? = w.heap[t.g]? := Below.heap_setCell w p u t.g (by omega)
    exact ⟨a1, by simpa using a2, a3, fun k hk => ⟨(World.cell?_of_block (w := w) (a := ⟨t.g, k, none⟩) e).trans (a4 k hk).1, (World.frozen?_of_block (w := w) (a := ⟨t.g, k, none⟩) e).trans (a4 k hk).2⟩⟩, h.2⟩

theorem flds_nil (w : World) (lo : Nat) (f : Nat → Int) (v : Value) : Flds w lo f v [] := ⟨fun t ht => (by cases ht), List.Pairwise.nil⟩

theorem retOR_err {W w' : World} {f : Nat → Int} {co : Int} (hb : Below W.heap.size W w') : RetOR W f co [] (.returned (.agg #[.int .i64 co, .slice none 0 0])) w' :=
  ⟨.slice none 0 0, [], rfl, rfl, ⟨rfl, .inl ⟨rfl, rfl⟩⟩, flds_nil _ _ _ _, hb⟩

/-- No object of an arena has more than twelve fields. -/
theorem parse_sizes {f : Nat → Int} {e : Nat} : ∀ (d a : Nat) (L : List Ob), e - a ≤ d → parse f e a = some L → ∀ x ∈ L, 0 ≤ x.s ∧ x.s ≤ 12
  | 0, a, L, hd, hp, x, hx => by
    rw [parse_stop (by omega)] at hp
    cases hp; cases hx
  | d + 1, a, L, hd, hp, x, hx => by
    by_cases h : a < e
    · by_cases hg : Good f e a
      · rw [parse_good h hg] at hp
        obtain ⟨L', hp', rfl⟩ := Option.map_eq_some_iff.mp hp
        rcases List.mem_cons.mp hx with rfl | hx
        · have := good_size hg; exact ⟨this.1, this.2.1⟩
        · exact parse_sizes d _ L' (by omega) hp' x hx
      · rw [parse_bad h hg] at hp; cases hp
    · rw [parse_stop h] at hp
      cases hp; cases hx

theorem parse_length {f : Nat → Int} {e : Nat} : ∀ (d a : Nat) (L : List Ob), e - a ≤ d → parse f e a = some L → L.length ≤ e - a
  | 0, a, L, hd, hp => by
    rw [parse_stop (by omega)] at hp
    cases hp; simp
  | d + 1, a, L, hd, hp => by
    by_cases h : a < e
    · by_cases hg : Good f e a
      · rw [parse_good h hg] at hp
        obtain ⟨L', hp', rfl⟩ := Option.map_eq_some_iff.mp hp
        have ih := parse_length d _ L' (by omega) hp'
        simp only [List.length_cons]; omega
      · rw [parse_bad h hg] at hp; cases hp
    · rw [parse_stop h] at hp
      cases hp; simp

set_option maxHeartbeats 800000 in
theorem specOI_fault (h ac bu : Int) (a : Option Addr) (n c : Nat) (f : Nat → Int) (k : Int) (w : World) (hs : Src w a n f) (hcn : n ≤ c) (hcm : c ≤ maxLen) (hk : IsFault h n f ac bu k) (h0 : ¬ k = 0) :
    Calls Try.prog 20 #[.agg #[.int .i64 h, .slice a n c, .int .i64 ac, .int .i64 bu]] w (RetOR w f k []) := by
  have hd : (k != 0) = true := by simpa using h0
  have HS := Lib.hid hs
  have HK := Lib.hid hk
  clear hs hk
  go_enter Try.func20, Try.ntmps20
  go_wp2_with fail
  refine (specFault_any _ _ _ _ _ _ f k _ ((HS.out.alloc _).alloc _) HK.out).mono ?_
  rintro e w1 ⟨rfl, hb⟩
  have HB1 : Hid (Below w.heap.size w w1) := thru2 (Below.refl _ _) hb
  have z1 : w.heap.size + 2 ≤ w1.heap.size := by have := hb.size; simp at this; omega
  have HS_1 := Lib.hid (((HS.out.alloc _).alloc _).below hb)
  have H_1 := Lib.hid (((Blk.new_at (w.heap.size) (by simp)).alloc _).below hb)
  have R_1 := Lib.hid ((Blk.new_at (w.heap.size + 1) (by simp)).below hb)
  clear hb HS
  have lR := R_1.out.1
  have cR0 := R_1.out.at 0 rfl
  have cR1 := R_1.out.at 1 rfl
  have fR0 := R_1.out.free 0 rfl
  have fR1 := R_1.out.free 1 rfl
  go_wp2
  have hz := HB1.out.size
  refine bodyPost_ret (v := .agg #[.int .i64 k, .slice none 0 0]) (by simp [results, Try.results20, go_sem, cR0, cR1]) rfl (retOR_err ?_)
  repeat (with_reducible refine Below.setCell ?_ (by (try simp); (try omega)) _)
  exact HB1.out

set_option maxHeartbeats 1600000 in
theorem specOI_none (h ac : Int) (P U : Nat) (ab ao n c : Nat) (f : Nat → Int) (L : List Ob) (w : World) (hs : Src w (some ⟨ab, ao, none⟩) n f) (hcn : n ≤ c) (hcm : c ≤ maxLen) (hk : IsFault h n f ac (U : Int) 0) (hP : baseI ac h = (P : Int)) (hp : parse f (P + U) P = none) :
    Calls Try.prog 20 #[.agg #[.int .i64 h, .slice (some ⟨ab, ao, none⟩) n c, .int .i64 ac, .int .i64 (U : Int)]] w (RetOR w f 1 []) := by
  obtain ⟨⟨⟨g1, g2⟩, ⟨g3, g4⟩, g5, g6⟩, gn, gw⟩ := isFault_ok hk
  have HWD : Hid (∀ i, i < n → f i ≤ 9223372036854775807) := Lib.hid (fun i hi => by have := gw i hi; unfold Word at this; omega)
  have hPU : P + U ≤ n := by rcases (by omega : ac = 0 ∨ ac = 1) with rfl | rfl <;> simp [baseI] at hP <;> omega
  have hn4 : n ≤ 400 := by omega
  clear gn gw
  have HS := Lib.hid hs
  have HK := Lib.hid hk
  have HPP := Lib.hid hp
  have HCM := Lib.hid hcm
  clear hs hk hp hcm
  go_enter Try.func20, Try.ntmps20
  go_wp2_with fail
  refine (specFault_any _ _ _ _ _ _ f 0 _ ((HS.out.alloc _).alloc _) HK.out).mono ?_
  rintro e w1 ⟨rfl, hb⟩
  have HB1 : Hid (Below w.heap.size w w1) := thru2 (Below.refl _ _) hb
  have z1 : w.heap.size + 2 ≤ w1.heap.size := by have := hb.size; simp at this; omega
  have HS_1 := Lib.hid (((HS.out.alloc _).alloc _).below hb)
  have H_1 := Lib.hid (((Blk.new_at (w.heap.size) (by simp)).alloc _).below hb)
  have R_1 := Lib.hid ((Blk.new_at (w.heap.size + 1) (by simp)).below hb)
  clear hb HS
  go_wp2_with fail
  refine (l3Objects_any (w.heap.size) P U h ac ab ao n c f _ H_1.out HS_1.out g1 g2 g3 g4 hP hPU hn4 hcn HCM.out HWD.out).mono ?_
  rintro e w2 ⟨hb, hr⟩
  rw [HPP.out] at hr
  have HB2 := Lib.hid (thru0 HB1.out hb)
  have R_2 := Lib.hid (R_1.out.below hb)
  have hz12 : w1.heap.size ≤ w2.heap.size := hb.size
  clear hb R_1 H_1 HS_1
  obtain ⟨_, rfl⟩ | ⟨v, M, hx, _⟩ := hr
  case inr => cases hx
  have cR0 := R_2.out.at 0 rfl; have cR1 := R_2.out.at 1 rfl; have fR0 := R_2.out.free 0 rfl; have fR1 := R_2.out.free 1 rfl; have lR := R_2.out.1
  go_wp2
  have hz := HB2.out.size
  refine bodyPost_ret (v := .agg #[.int .i64 1, .slice none 0 0]) (by simp [results, Try.results20, go_sem, cR0, cR1]) rfl (retOR_err ?_)
  repeat (with_reducible refine Below.setCell ?_ (by (try simp); (try omega)) _)
  exact HB2.out

set_option maxHeartbeats 1600000 in
theorem specOI_some (h ac : Int) (P U : Nat) (ab ao n c : Nat) (f : Nat → Int) (L : List Ob) (w : World) (hs : Src w (some ⟨ab, ao, none⟩) n f) (hcn : n ≤ c) (hcm : c ≤ maxLen) (hk : IsFault h n f ac (U : Int) 0) (hP : baseI ac h = (P : Int)) (hp : parse f (P + U) P = some L) :
    Calls Try.prog 20 #[.agg #[.int .i64 h, .slice (some ⟨ab, ao, none⟩) n c, .int .i64 ac, .int .i64 (U : Int)]] w (RetOR w f 0 L) := by
  obtain ⟨⟨⟨g1, g2⟩, ⟨g3, g4⟩, g5, g6⟩, gn, gw⟩ := isFault_ok hk
  have HWD : Hid (∀ i, i < n → f i ≤ 9223372036854775807) := Lib.hid (fun i hi => by have := gw i hi; unfold Word at this; omega)
  have hPU : P + U ≤ n := by rcases (by omega : ac = 0 ∨ ac = 1) with rfl | rfl <;> simp [baseI] at hP <;> omega
  have hn4 : n ≤ 400 := by omega
  clear gn gw
  have HS := Lib.hid hs
  have HK := Lib.hid hk
  have HPP := Lib.hid hp
  have HCM := Lib.hid hcm
  clear hs hk hp hcm
  go_enter Try.func20, Try.ntmps20
  go_wp2_with fail
  refine (specFault_any _ _ _ _ _ _ f 0 _ ((HS.out.alloc _).alloc _) HK.out).mono ?_
  rintro e w1 ⟨rfl, hb⟩
  have HB1 : Hid (Below w.heap.size w w1) := thru2 (Below.refl _ _) hb
  have z1 : w.heap.size + 2 ≤ w1.heap.size := by have := hb.size; simp at this; omega
  have HS_1 := Lib.hid (((HS.out.alloc _).alloc _).below hb)
  have H_1 := Lib.hid (((Blk.new_at (w.heap.size) (by simp)).alloc _).below hb)
  have R_1 := Lib.hid ((Blk.new_at (w.heap.size + 1) (by simp)).below hb)
  clear hb HS
  go_wp2_with fail
  refine (l3Objects_any (w.heap.size) P U h ac ab ao n c f _ H_1.out HS_1.out g1 g2 g3 g4 hP hPU hn4 hcn HCM.out HWD.out).mono ?_
  rintro e w2 ⟨hb, hr⟩
  rw [HPP.out] at hr
  have HB2 := Lib.hid (thru0 HB1.out hb)
  have R_2 := Lib.hid (R_1.out.below hb)
  have hz12 : w1.heap.size ≤ w2.heap.size := hb.size
  clear hb R_1 H_1 HS_1
  obtain ⟨hx, _⟩ | ⟨v, M, hx, rfl, hown, hfl⟩ := hr
  case inl => cases hx
  simp only [Option.some.injEq] at hx
  subst hx
  have OW2 := Lib.hid hown
  have FL2 := Lib.hid hfl
  clear hown hfl HPP
  obtain ⟨av, kv, hv⟩ := row_nil OW2.out
  have HV := Lib.hid hv
  clear hv
  have cR0 := R_2.out.at 0 rfl; have cR1 := R_2.out.at 1 rfl; have fR0 := R_2.out.free 0 rfl; have fR1 := R_2.out.free 1 rfl; have lR := R_2.out.1
  have hz := HB2.out.size
  have hv0 := HV.out
  generalize hm : M.length = mm at hv0
  subst hv0
  go_wp2
  refine bodyPost_ret (v := .agg #[.int .i64 0, .slice av mm kv]) (by simp [results, Try.results20, go_sem, cR0, cR1]) rfl ⟨.slice av mm kv, M, rfl, rfl, ?_, ?_, ?_⟩
  · refine ownsRow_mono (base := w1.heap.size) ?_ (by omega)
    repeat (with_reducible refine ownsRow_other ?_ (by (try simp); (try omega)) _)
    exact OW2.out
  · refine Flds.mono (lo := w1.heap.size) ?_ (by omega)
    repeat (with_reducible refine Flds.other ?_ (by (try simp); (try omega)) _)
    exact FL2.out
  · repeat (with_reducible refine Below.setCell ?_ (by (try simp); (try omega)) _)
    exact HB2.out

theorem specOI_any (h ac bu : Int) (a : Option Addr) (n c : Nat) (f : Nat → Int) (co : Int) (L : List Ob) (w : World) (hs : Src w a n f) (hcn : n ≤ c) (hcm : c ≤ maxLen) (hk : IsOI h n f ac bu co L) : Calls Try.prog 20 #[.agg #[.int .i64 h, .slice a n c, .int .i64 ac, .int .i64 bu]] w (RetOR w f co L) := by
  rcases hk with ⟨k, h1, h2, rfl, rfl⟩ | ⟨h1, h2, rfl, rfl⟩ | ⟨h1, h2, rfl⟩
  · exact specOI_fault h ac bu a n c f co w hs hcn hcm h1 h2
  · obtain ⟨⟨⟨g1, g2⟩, ⟨g3, g4⟩, g5, g6⟩, gn, gw⟩ := isFault_ok h1
    have hb := baseI_bd (ac := ac) g1
    obtain ⟨P, hP⟩ : ∃ P : Nat, baseI ac h = (P : Int) := ⟨(baseI ac h).toNat, by omega⟩
    obtain ⟨U, rfl⟩ : ∃ U : Nat, bu = (U : Int) := ⟨bu.toNat, by omega⟩
    obtain ⟨ab, ao, rfl, hab, hac⟩ := src_some hs (by omega)
    rw [hP, Int.toNat_natCast, Int.toNat_natCast] at h2
    exact specOI_none h ac P U ab ao n c f [] w hs hcn hcm h1 hP h2
  · obtain ⟨⟨⟨g1, g2⟩, ⟨g3, g4⟩, g5, g6⟩, gn, gw⟩ := isFault_ok h1
    have hb := baseI_bd (ac := ac) g1
    obtain ⟨P, hP⟩ : ∃ P : Nat, baseI ac h = (P : Int) := ⟨(baseI ac h).toNat, by omega⟩
    obtain ⟨U, rfl⟩ : ∃ U : Nat, bu = (U : Int) := ⟨bu.toNat, by omega⟩
    obtain ⟨ab, ao, rfl, hab, hac⟩ := src_some hs (by omega)
    rw [hP, Int.toNat_natCast, Int.toNat_natCast] at h2
    exact specOI_some h ac P U ab ao n c f L w hs hcn hcm h1 hP h2
end Go.Proofs.Ytlelgfkebcnepaa

namespace Go.Proofs.Ytlelgfkebcnepaa
open Go.RowKit
set_option linter.unusedVariables false

/-- The object at a place. -/
def findO (L : List Ob) (a : Int) : Option Ob := L.find? (fun x => x.at_ == a)

theorem findO_drop {L : List Ob} {a : Int} {i : Nat} {x : Ob} (hx : L[i]? = some x) : findO (L.drop i) a = if x.at_ == a then some x else findO (L.drop (i + 1)) a := by
  obtain ⟨hi, he⟩ := List.getElem?_eq_some_iff.mp hx
  rw [List.drop_eq_getElem_cons hi, he, findO, List.find?_cons]
  split <;> simp_all [findO]

/-- A pointer of an owner leads to an object of its own, or nowhere. -/
def leadsB (L : List Ob) (owner value : Int) : Bool := if value = 0 then true else match findO L (value - 1) with | some x => x.o == owner | none => false

def RetFind (W : World) (L : List Ob) (a : Int) (e : Ending) (w' : World) : Prop :=
  W = w' ∧ ((findO L a = none ∧ e = .returned (.int .i64 (-1))) ∨ ∃ (i : Nat) (x : Ob), findO L a = some x ∧ L[i]? = some x ∧ e = .returned (.int .i64 (i : Int)))

set_option maxRecDepth 100000 in
set_option maxHeartbeats 800000 in
theorem l3Find_any (v : Value) (M : List OM) (base : Nat) (a : Int) (w : World) (h : w.ownsRow base 42 6 v M.length (rowCells M)) (hl : M.length ≤ 400) :
    Calls Try.prog 120 #[v, .int .i64 a] w (RetFind w (M.map OM.x) a) := by
  have H := Lib.hid h
  obtain ⟨a1, k1, rfl⟩ := row_nil h
  clear h
  go_enter Try.func120, Try.ntmps120
  go_wp2
  go_loop [5] (fun p => ∃ i : Nat, i ≤ M.length ∧ p = .int .i64 (i : Int) ∧ Hid (findO (M.map OM.x) a = findO ((M.map OM.x).drop i) a)) (fun p => M.length - (intOf p).toNat)
  case atStart => exact ⟨0, Nat.zero_le _, rfl, Lib.hid (by simp)⟩
  case round =>
    obtain ⟨i, hi, rfl, HD⟩ := hrel
    by_cases hlt : i < M.length
    · have hlt' : (i : Int) < (M.length : Int) := by omega
      have hi0 : (0 : Int) ≤ (i : Int) := by omega
      obtain ⟨g1, c1, e1, _, l1, o1⟩ := row_form H.out (by omega)
      simp only [Value.slice.injEq] at e1
      obtain ⟨rfl, -, rfl⟩ := e1
      have ht := (o1 i M[i] (List.getElem?_eq_getElem hlt)).six
      have hx : (M.map OM.x)[i]? = some M[i].x := by simp [hlt]
      have hd := findO_drop (a := a) hx
      generalize M[i] = t at *
      have x0 := ht.1
      have HT := Lib.hid ht; have HX := Lib.hid hx; have HDD := Lib.hid hd
      clear o1 ht hx hd
      by_cases hat : t.x.at_ = a
      · have hb : (t.x.at_ == a) = true := by simpa using hat
        go_wp2
        go_ret
        exact ⟨rfl, .inr ⟨i, t.x, by rw [HD.out, HDD.out, if_pos hb], HX.out, rfl⟩⟩
      · have hb : (t.x.at_ == a) = false := by simpa using hat
        go_wp2
        go_round
        case rel => exact ⟨i + 1, by omega, by go_num, Lib.hid (by rw [HD.out, HDD.out, hb]; rfl)⟩
        case measure => simp [intOf]; omega
    · have hlt' : ¬ (i : Int) < (M.length : Int) := by omega
      go_wp2
      go_ret
      exact ⟨rfl, .inl ⟨by rw [HD.out, List.drop_eq_nil_of_le (by simp; omega)]; rfl, rfl⟩⟩

set_option maxRecDepth 100000 in
set_option maxHeartbeats 800000 in
theorem l3Leads_any (v : Value) (M : List OM) (base : Nat) (owner value : Int) (w : World) (h : w.ownsRow base 42 6 v M.length (rowCells M)) (hl : M.length ≤ 400) (hv : -1000000000 ≤ value ∧ value ≤ 1000000000) :
    Calls Try.prog 85 #[v, .int .i64 owner, .int .i64 value] w fun e w' => e = .returned (.bool (leadsB (M.map OM.x) owner value)) ∧ w = w' := by
  have H := Lib.hid h
  obtain ⟨hv1, hv2⟩ := hv
  obtain ⟨a1, k1, rfl⟩ := row_nil h
  clear h
  by_cases h0 : value = 0
  · have hb : (value == 0) = true := by simpa using h0
    have hr : leadsB (M.map OM.x) owner value = true := by simp [leadsB, h0]
    have HR := Lib.hid hr
    clear hr
    go_enter Try.func85, Try.ntmps85
    go_wp2
    go_ret
    exact ⟨by rw [HR.out]; rfl, rfl⟩
  · have hb : (value == 0) = false := by simpa using h0
    go_enter Try.func85, Try.ntmps85
    go_wp2_with fail
    refine (l3Find_any _ M base (value - 1) _ H.out hl).mono ?_
    rintro e w' ⟨rfl, hf⟩
    rcases hf with ⟨hf, rfl⟩ | ⟨i, x, hf, hx, rfl⟩
    · have hr : leadsB (M.map OM.x) owner value = false := by simp [leadsB, h0, hf]
      have HR := Lib.hid hr
      clear hr hf
      go_wp2
      go_ret
      exact ⟨by rw [HR.out]; rfl, rfl⟩
    · have hr : leadsB (M.map OM.x) owner value = (x.o == owner) := by simp [leadsB, h0, hf]
      have HR := Lib.hid hr
      have hlt : i < M.length := by have := (List.getElem?_eq_some_iff.mp hx).1; simpa using this
      have hlt' : (i : Int) < (M.length : Int) := by omega
      have hi0 : (0 : Int) ≤ (i : Int) := by omega
      obtain ⟨g1, c1, e1, _, l1, o1⟩ := row_form H.out (by omega)
      simp only [Value.slice.injEq] at e1
      obtain ⟨rfl, -, rfl⟩ := e1
      have ht := (o1 i M[i] (List.getElem?_eq_getElem hlt)).six
      have hx' : M[i].x = x := by simpa [hlt] using hx
      rw [hx'] at ht
      have x3 := ht.2.2.2.1
      clear hr hf hx hx' ht o1
      go_wp2
      go_ret
      exact ⟨by rw [HR.out]; rfl, rfl⟩
end Go.Proofs.Ytlelgfkebcnepaa

namespace Go.Proofs.Ytlelgfkebcnepaa
open Go.RowKit
set_option linter.unusedVariables false

/-- All pointers lead where they may. -/
def Points (f : Nat → Int) (L : List Ob) : Prop := ∀ x ∈ L, ∀ k : Nat, (k : Int) < x.s → x.m / P2 k % 2 = 1 → leadsB L x.o (f (x.at_.toNat + 2 + k)) = true

/-- What is not taken is nothing. -/
def Rest (f : Nat → Int) (n P U : Nat) : Prop := ∀ i, i < n → ¬ (P ≤ i ∧ i < P + U) → f i = 0

def IsShape (f : Nat → Int) (n P U : Nat) (L : List Ob) (r : Bool) : Prop := (Points f L ∧ Rest f n P U ∧ r = true) ∨ (¬ (Points f L ∧ Rest f n P U) ∧ r = false)

set_option maxHeartbeats 800000 in
theorem l2Pointer_at (b off I : Nat) (m : Int) (r : Bool) (w : World) (c1 : w.cell? ⟨b, off + 1, none⟩ = some (.int .i64 m)) (hm : 0 ≤ m ∧ m ≤ 4095) (hI : I ≤ 12) (hr : r = (m / P2 I % 2 == 1)) :
    Calls Try.prog 84 #[.pointer (some ⟨b, off, none⟩), .int .i64 (I : Int)] w fun e w' => e = .returned (.bool r) ∧ ∃ q, w' = w.drewN q := by
  subst hr
  obtain ⟨m1, m2⟩ := hm
  have p1 := P2_pos (I : Int)
  have p2 := P2_le (s := (I : Int)) (by omega)
  have hne : ¬ P2 (I : Int) = 0 := by omega
  have hq : m.tdiv (P2 I) = m / P2 I := Int.tdiv_eq_ediv_of_nonneg m1
  have g1 : 0 ≤ m / P2 I := Int.ediv_nonneg m1 (by omega)
  have g2 : m / P2 I ≤ m := Int.ediv_le_self _ m1
  have hr : (m / P2 I).tmod 2 = m / P2 I % 2 := Int.tmod_eq_emod_of_nonneg g1
  go_enter Try.func84, Try.ntmps84
  go_wp2
  go_quiet (with_reducible exact Calls.quiet_of_same (Calls.mono (power_any I _ hI) fun _ _ hh => ⟨hh.1, hh.2.symm⟩))
  go_wp2
  go_ret
  exact ⟨rfl, _, rfl⟩

theorem drewN_below (w : World) (q : Nat) : Below w.heap.size w (w.drewN q) := below_drewN (Below.refl _ _) q

set_option maxRecDepth 100000 in
set_option maxHeartbeats 3200000 in
theorem l3Shape_any (b P U : Nat) (h ac : Int) (ab ao n c : Nat) (f : Nat → Int) (v : Value) (M : List OM) (base lo : Nat) (r : Bool) (w : World) (hB : Blk w b [.int .i64 h, .slice (some ⟨ab, ao, none⟩) n c, .int .i64 ac, .int .i64 (U : Int)]) (hs : Src w (some ⟨ab, ao, none⟩) n f) (h1 : 8 ≤ h) (h2 : h ≤ 200) (h3 : 0 ≤ ac) (h4 : ac ≤ 1) (hP : baseI ac h = (P : Int)) (hn : (n : Int) = 2 * h) (hU : P + U ≤ n)
    (how : w.ownsRow base 42 6 v M.length (rowCells M)) (hfl : Flds w lo f v M) (hl : M.length ≤ 400) (hok : ∀ t ∈ M, (0 ≤ t.x.s ∧ t.x.s ≤ 12) ∧ (0 ≤ t.x.m ∧ t.x.m ≤ 4095) ∧ ∀ k, k < t.x.s.toNat → -1000000000 ≤ f (t.x.at_.toNat + 2 + k) ∧ f (t.x.at_.toNat + 2 + k) ≤ 1000000000) (hr : IsShape f n P U (M.map OM.x) r) :
    Calls Try.prog 74 #[.pointer (some ⟨b, 0, none⟩), v] w (RetBool w r) := by
  have H := Lib.hid how; have FL := Lib.hid hfl; have HOK := Lib.hid hok; have HR := Lib.hid hr; have HB0 := Lib.hid hB; have HS0 := Lib.hid hs; have HN := Lib.hid hn
  have lb := hB.1
  obtain ⟨a1, k1, rfl⟩ := row_nil how
  clear how hfl hok hr hB hs hn
  go_enter Try.func74, Try.ntmps74
  go_wp2
  go_loopw [5] (fun p wr => ∃ i : Nat, i ≤ M.length ∧ p = .int .i64 (i : Int) ∧ Hid (Below w.heap.size w wr) ∧ Hid (∀ j x, j < i → (M.map OM.x)[j]? = some x → ∀ k : Nat, (k : Int) < x.s → x.m / P2 k % 2 = 1 → leadsB (M.map OM.x) x.o (f (x.at_.toNat + 2 + k)) = true)) (fun p _ => M.length - (intOf p).toNat)
  case atStart => exact ⟨0, Nat.zero_le _, rfl, Below.refl _ _, Lib.hid (fun j x hj => by omega)⟩
  case round =>
    obtain ⟨i, hi, rfl, HBr, HPT⟩ := hrel
    by_cases hlt : i < M.length
    · have hlt' : (i : Int) < (M.length : Int) := by omega
      have hi0 : (0 : Int) ≤ (i : Int) := by omega
      obtain ⟨g1, c1, e1, _, l1, o1⟩ := row_form H.out (by omega)
      simp only [Value.slice.injEq] at e1
      obtain ⟨rfl, -, rfl⟩ := e1
      have ht := (o1 i M[i] (List.getElem?_eq_getElem hlt)).six
      have hx : (M.map OM.x)[i]? = some M[i].x := by simp [hlt]
      have hs := FL.out.1 M[i] (List.getElem_mem hlt)
      have hk := HOK.out M[i] (List.getElem_mem hlt)
      generalize M[i] = t at *
      obtain ⟨⟨s0, s1⟩, hm, hwd⟩ := hk
      obtain ⟨_, lg, _, hfc⟩ := hs
      have HX := Lib.hid hx; have HWD := Lib.hid hwd; have HFC := Lib.hid hfc; have HT := Lib.hid ht
      clear o1 hx hwd hfc ht
      have z0 := HBr.out.size
      go_wp2
      go_loopw [7] (fun p wq => ∃ k : Nat, (k : Int) ≤ t.x.s ∧ p = .int .i64 (k : Int) ∧ Hid (Below w.heap.size w wq) ∧ Hid (∀ k' : Nat, k' < k → t.x.m / P2 k' % 2 = 1 → leadsB (M.map OM.x) t.x.o (f (t.x.at_.toNat + 2 + k')) = true)) (fun p _ => t.x.s.toNat - (intOf p).toNat)
      case atStart => exact ⟨0, by omega, rfl, HBr, Lib.hid (fun k' hk' => by omega)⟩
      case round =>
        obtain ⟨k, hk, rfl, HBq, HPK⟩ := hrel
        have T1 := Lib.hid (HT.out.below HBq.out l1)
        have zq := HBq.out.size
        have x1 := T1.out.2.1
        by_cases hks : (k : Int) < t.x.s
        · have hk0 : (0 : Int) ≤ (k : Int) := by omega
          have hkt : k < t.x.s.toNat := by omega
          have hkn : (k : Int) < (t.x.s.toNat : Int) := by omega
          have x2 := T1.out.2.2.1; have x3 := T1.out.2.2.2.1; have x5 := T1.out.2.2.2.2.2
          have fk := (HBq.out.cell (p := ⟨t.g, k, none⟩) lg).trans (HFC.out k hkt).1
          have hwk := HWD.out k hkt
          have l1q : g1 < wr.heap.size := by omega
          have HQ9 := Lib.hid (fun q => below_drewN HBq.out q)
          have hdd : t.x.m / P2 k % 2 = 1 ∨ t.x.m / P2 k % 2 = 0 := by omega
          rcases hdd with hd | hd
          · cases hle : leadsB (M.map OM.x) t.x.o (f (t.x.at_.toNat + 2 + k))
            · have hrf : Hid (r = false) := Lib.hid (by
                rcases HR.out with ⟨hp, _, _⟩ | ⟨_, hp⟩
                · have := hp t.x (List.mem_of_getElem? HX.out) k hks hd
                  rw [hle] at this; cases this
                · exact hp)
              go_wp2_with fail
              go_quiet (first | exact Calls.quiet_of (l2Pointer_at g1 (i * 6 + 1) k t.x.m true _ (((drewN_below wr _).cell (p := ⟨g1, i * 6 + 1 + 1, none⟩) l1q).trans x2) hm (by omega) (by rw [hd]; rfl)) | exact Calls.quiet_of_same (Calls.mono (l3Leads_any _ M base t.x.o (f (t.x.at_.toNat + 2 + k)) _ (ownsRow_below (ownsRow_below H.out HBq.out) (drewN_below wr _)) hl hwk) fun _ _ hh => ⟨by rw [hh.1, hle], hh.2.symm⟩))
              go_wp2
              go_ret
              exact ⟨by rw [hrf.out]; rfl, HQ9.out _⟩
            · have HLE := Lib.hid hle
              go_wp2_with fail
              go_quiet (first | exact Calls.quiet_of (l2Pointer_at g1 (i * 6 + 1) k t.x.m true _ (((drewN_below wr _).cell (p := ⟨g1, i * 6 + 1 + 1, none⟩) l1q).trans x2) hm (by omega) (by rw [hd]; rfl)) | exact Calls.quiet_of_same (Calls.mono (l3Leads_any _ M base t.x.o (f (t.x.at_.toNat + 2 + k)) _ (ownsRow_below (ownsRow_below H.out HBq.out) (drewN_below wr _)) hl hwk) fun _ _ hh => ⟨by rw [hh.1, hle], hh.2.symm⟩))
              have HDD := Lib.hid hd
              clear hle hd
              go_wp2
              go_roundw
              case rel => first | exact ⟨k + 1, by omega, by go_num, HQ9.out _, Lib.hid (fun k' hk' hb' => by rcases Nat.lt_succ_iff_lt_or_eq.mp hk' with h' | h'; exact HPK.out k' h' hb'; subst h'; exact HLE.out)⟩ | ((repeat apply Exists.intro); exact ⟨⟨k + 1, by omega, by go_num, HQ9.out _, Lib.hid (fun k' hk' hb' => by rcases Nat.lt_succ_iff_lt_or_eq.mp hk' with h' | h'; exact HPK.out k' h' hb'; subst h'; exact HLE.out)⟩, rfl⟩)
              case measure => simp [intOf]; omega
          · have hle : True := trivial
            go_wp2_with fail
            go_quiet (first | exact Calls.quiet_of (l2Pointer_at g1 (i * 6 + 1) k t.x.m false _ (((drewN_below wr _).cell (p := ⟨g1, i * 6 + 1 + 1, none⟩) l1q).trans x2) hm (by omega) (by rw [hd]; rfl)))
            have HDD := Lib.hid hd
            clear hd
            go_wp2
            go_roundw
            case rel => first | exact ⟨k + 1, by omega, by go_num, HQ9.out _, Lib.hid (fun k' hk' hb' => by rcases Nat.lt_succ_iff_lt_or_eq.mp hk' with h' | h'; exact HPK.out k' h' hb'; subst h'; have := HDD.out; omega)⟩ | ((repeat apply Exists.intro); exact ⟨⟨k + 1, by omega, by go_num, HQ9.out _, Lib.hid (fun k' hk' hb' => by rcases Nat.lt_succ_iff_lt_or_eq.mp hk' with h' | h'; exact HPK.out k' h' hb'; subst h'; have := HDD.out; omega)⟩, rfl⟩)
            case measure => simp [intOf]; omega
        · go_wp2
          go_roundw
          case rel => first | exact ⟨i + 1, by omega, by go_num, HBq, Lib.hid (fun j x hj hx k' hk' hb' => by rcases Nat.lt_succ_iff_lt_or_eq.mp hj with h' | h'; exact HPT.out j x h' hx k' hk' hb'; subst h'; rw [HX.out] at hx; cases hx; exact HPK.out k' (by omega) hb')⟩ | ((repeat apply Exists.intro); exact ⟨⟨i + 1, by omega, by go_num, HBq, Lib.hid (fun j x hj hx k' hk' hb' => by rcases Nat.lt_succ_iff_lt_or_eq.mp hj with h' | h'; exact HPT.out j x h' hx k' hk' hb'; subst h'; rw [HX.out] at hx; cases hx; exact HPK.out k' (by omega) hb')⟩, rfl⟩)
          case measure => simp [intOf]; omega
    · have HPS : Hid (Points f (M.map OM.x)) := Lib.hid (fun x hx k hk hb => by
        obtain ⟨j, hj, rfl⟩ := List.getElem_of_mem hx
        have hj' : j < M.length := by simpa using hj
        exact HPT.out j _ (by omega) (List.getElem?_eq_getElem hj) k hk hb)
      have hlt' : ¬ (i : Int) < (M.length : Int) := by omega
      have BA := Lib.hid (HB0.out.below HBr.out)
      have zr := HBr.out.size
      go_wp2_with fail
      refine (l1Base_eq (P : Int) b h ac (U : Int) (some ⟨ab, ao, none⟩) n c _ hP BA.out h1 h2 h3 h4).mono ?_
      rintro e w2 ⟨rfl, hb⟩
      have HB2 := Lib.hid (HBr.out.trans (hb.mono zr))
      clear hb BA HBr zr HPT
      have hnn := HN.out
      have hPUn : (P : Int) + (U : Int) ≤ 400 := by omega
      clear hnn
      go_wp2
      go_loopw [9] (fun p wr => ∃ j : Nat, j ≤ n ∧ p = .int .i64 (j : Int) ∧ Hid (Below w.heap.size w wr) ∧ Hid (∀ k, k < j → ¬ (P ≤ k ∧ k < P + U) → f k = 0)) (fun p _ => n - (intOf p).toNat)
      case atStart => exact ⟨0, Nat.zero_le _, rfl, HB2, Lib.hid (fun k hk => by omega)⟩
      case round =>
        obtain ⟨j, hj, rfl, HBr, HRS⟩ := hrel
        clear HB2
        have BA := Lib.hid (HB0.out.below HBr.out)
        have SA := Lib.hid (HS0.out.below HBr.out)
        have zr := HBr.out.size
        have lbr : b < wr.heap.size := by omega
        have b0 := BA.out.at 0 rfl; have b1 := BA.out.at 1 rfl; have b3 := BA.out.at 3 rfl
        by_cases hjn : j < n
        · have hjn' : (j : Int) < 2 * h := by have := HN.out; omega
          have hj0 : (0 : Int) ≤ (j : Int) := by omega
          have hjn2 : (j : Int) < (n : Int) := by omega
          by_cases hin : P ≤ j ∧ j < P + U
          · have HI := Lib.hid hin
            go_wp2_with fail
            refine (l1In_yes (j : Int) (P : Int) ((P : Int) + (U : Int) - 1) _ (by have := HI.out; omega) (by have := HI.out; omega)).mono ?_
            rintro e w' ⟨rfl, rfl⟩
            go_wp2
            go_roundw
            case rel => first | exact ⟨j + 1, by omega, by go_num, HBr, Lib.hid (fun k hk hb => by rcases Nat.lt_succ_iff_lt_or_eq.mp hk with h' | h'; exact HRS.out k h' hb; subst h'; exact absurd HI.out hb)⟩ | ((repeat apply Exists.intro); exact ⟨⟨j + 1, by omega, by go_num, HBr, Lib.hid (fun k hk hb => by rcases Nat.lt_succ_iff_lt_or_eq.mp hk with h' | h'; exact HRS.out k h' hb; subst h'; exact absurd HI.out hb)⟩, rfl⟩)
            case measure => simp [intOf]; omega
          · have HI := Lib.hid hin
            have fj := SA.out.at j hjn
            by_cases hfz : f j = 0
            · have hd : (f j != 0) = false := by simpa using hfz
              have HZ := Lib.hid hfz
              clear hfz hin
              go_wp2_with fail
              refine (l1In_no (j : Int) (P : Int) ((P : Int) + (U : Int) - 1) _ (fun x => HI.out ⟨by omega, by omega⟩)).mono ?_
              rintro e w' ⟨rfl, rfl⟩
              go_wp2
              go_roundw
              case rel => first | exact ⟨j + 1, by omega, by go_num, HBr, Lib.hid (fun k hk hb => by rcases Nat.lt_succ_iff_lt_or_eq.mp hk with h' | h'; exact HRS.out k h' hb; subst h'; exact HZ.out)⟩ | ((repeat apply Exists.intro); exact ⟨⟨j + 1, by omega, by go_num, HBr, Lib.hid (fun k hk hb => by rcases Nat.lt_succ_iff_lt_or_eq.mp hk with h' | h'; exact HRS.out k h' hb; subst h'; exact HZ.out)⟩, rfl⟩)
              case measure => simp [intOf]; omega
            · have hd : (f j != 0) = true := by simpa using hfz
              have hrf : Hid (r = false) := Lib.hid (by
                rcases HR.out with ⟨_, hp, _⟩ | ⟨_, hp⟩
                · exact absurd (hp j hjn hin) hfz
                · exact hp)
              clear hfz hin
              go_wp2_with fail
              refine (l1In_no (j : Int) (P : Int) ((P : Int) + (U : Int) - 1) _ (fun x => HI.out ⟨by omega, by omega⟩)).mono ?_
              rintro e w' ⟨rfl, rfl⟩
              go_wp2
              go_ret
              exact ⟨by rw [hrf.out]; rfl, HBr.out⟩
        · have hjn' : ¬ (j : Int) < 2 * h := by have := HN.out; omega
          have hrt : Hid (r = true) := Lib.hid (by
            rcases HR.out with ⟨_, _, hp⟩ | ⟨hp, _⟩
            · exact hp
            · exact absurd ⟨HPS.out, fun k hk hb => HRS.out k (by omega) hb⟩ hp)
          go_wp2
          go_ret
          exact ⟨by rw [hrt.out]; rfl, HBr.out⟩
end Go.Proofs.Ytlelgfkebcnepaa

namespace Go.Proofs.Ytlelgfkebcnepaa
open Go.RowKit
set_option linter.unusedVariables false

/-- Every object that is told stands somewhere. -/
theorem parse_all {f : Nat → Int} {e : Nat} : ∀ (d a : Nat) (L : List Ob), e - a ≤ d → parse f e a = some L → ∀ x ∈ L, ∃ a', x = objAt f a' ∧ Good f e a'
  | 0, a, L, hd, hp, x, hx => by
    rw [parse_stop (by omega)] at hp
    cases hp; cases hx
  | d + 1, a, L, hd, hp, x, hx => by
    by_cases h : a < e
    · by_cases hg : Good f e a
      · rw [parse_good h hg] at hp
        obtain ⟨L', hp', rfl⟩ := Option.map_eq_some_iff.mp hp
        rcases List.mem_cons.mp hx with rfl | hx
        · exact ⟨a, rfl, hg⟩
        · exact parse_all d _ L' (by omega) hp' x hx
      · rw [parse_bad h hg] at hp; cases hp
    · rw [parse_stop h] at hp
      cases hp; cases hx

/-- What is known of each object of a right arena. -/
theorem parse_ok {f : Nat → Int} {n e a : Nat} {L : List Ob} (hp : parse f e a = some L) (he : e ≤ n) (hw : ∀ i, i < n → Word (f i)) : ∀ x ∈ L, (0 ≤ x.s ∧ x.s ≤ 12) ∧ (0 ≤ x.m ∧ x.m ≤ 4095) ∧ (0 ≤ x.o ∧ x.o ≤ 3) ∧ (0 ≤ x.at_ ∧ x.at_.toNat + 2 + x.s.toNat ≤ e) ∧ ∀ k, k < x.s.toNat → -1000000000 ≤ f (x.at_.toNat + 2 + k) ∧ f (x.at_.toNat + 2 + k) ≤ 1000000000 := fun x hx => by
  obtain ⟨a', rfl, hg⟩ := parse_all (e - a) a L (Nat.le_refl _) hp x hx
  have h1 := hg.2.1.2
  have h2 := P2_le h1.1.2
  have h3 := hg.2.2
  have h4 := h1.2.1
  have h5 := h1.2.2.1
  have h6 := h1.1
  have e1 : (objAt f a').at_.toNat = a' := by simp [objAt]
  have e2 : (objAt f a').s.toNat = szOf f a' := rfl
  refine ⟨h1.1, ⟨h4.1, ?_⟩, h5, ⟨by simp [objAt], by rw [e1, e2]; exact h3⟩, fun k hk => ?_⟩
  · have : (objAt f a').m = f a' / 32 % 4096 := rfl
    rw [this]; omega
  · rw [e1]
    rw [e2] at hk
    exact hw _ (by omega)

/-- What ShapeFault answers. -/
def IsSF (h : Int) (n : Nat) (f : Nat → Int) (ac bu k : Int) : Prop :=
  (∃ L, IsOI h n f ac bu k L ∧ ¬ k = 0) ∨ (∃ L, IsOI h n f ac bu 0 L ∧ IsShape f n (baseI ac h).toNat bu.toNat L false ∧ k = 8) ∨ (∃ L, IsOI h n f ac bu 0 L ∧ IsShape f n (baseI ac h).toNat bu.toNat L true ∧ k = 0)

theorem isShape_some (f : Nat → Int) (n P U : Nat) (L : List Ob) : ∃ r, IsShape f n P U L r := by
  by_cases x : Points f L ∧ Rest f n P U
  · exact ⟨true, .inl ⟨x.1, x.2, rfl⟩⟩
  · exact ⟨false, .inr ⟨x, rfl⟩⟩

theorem isSF_some (h : Int) (n : Nat) (f : Nat → Int) (ac bu : Int) : ∃ k, IsSF h n f ac bu k := by
  obtain ⟨co, L, ho⟩ := isOI_some h n f ac bu
  by_cases h0 : co = 0
  · subst h0
    obtain ⟨r, hr⟩ := isShape_some f n (baseI ac h).toNat bu.toNat L
    cases r
    · exact ⟨8, .inr (.inl ⟨L, ho, hr, rfl⟩)⟩
    · exact ⟨0, .inr (.inr ⟨L, ho, hr, rfl⟩)⟩
  · exact ⟨co, .inl ⟨L, ho, h0⟩⟩

theorem isOI_zero {h : Int} {n : Nat} {f : Nat → Int} {ac bu : Int} {L : List Ob} (ho : IsOI h n f ac bu 0 L) : IsFault h n f ac bu 0 ∧ parse f ((baseI ac h).toNat + bu.toNat) (baseI ac h).toNat = some L := by
  rcases ho with ⟨k, _, h2, h3, _⟩ | ⟨_, _, h3, _⟩ | ⟨h1, h2, _⟩
  · exact absurd h3.symm h2
  · cases h3
  · exact ⟨h1, h2⟩

set_option maxHeartbeats 800000 in
theorem specSF_code (h ac bu : Int) (a : Option Addr) (n c : Nat) (f : Nat → Int) (co : Int) (L : List Ob) (w : World) (hs : Src w a n f) (hcn : n ≤ c) (hcm : c ≤ maxLen) (ho : IsOI h n f ac bu co L) (h0 : ¬ co = 0) :
    Calls Try.prog 24 #[.agg #[.int .i64 h, .slice a n c, .int .i64 ac, .int .i64 bu]] w (RetInt w co) := by
  have hd : (co != 0) = true := by simpa using h0
  have HCM := Lib.hid hcm
  clear hcm
  have HS := Lib.hid hs
  have HO := Lib.hid ho
  clear hs ho
  go_enter Try.func24, Try.ntmps24
  go_wp2_with fail
  refine (specOI_any h ac bu a n c f co L _ (HS.out.alloc _) hcn HCM.out HO.out).mono ?_
  rintro e w1 ⟨v, M, rfl, hM, how, hfl, hb⟩
  have HB1 := Lib.hid (thru1 (Below.refl _ _) hb)
  obtain ⟨av, kv, hv⟩ := row_nil how
  subst hv
  clear how hfl hM hb
  go_wp2
  go_ret
  exact ⟨rfl, HB1.out.alloc HB1.out.size _⟩

set_option maxHeartbeats 1600000 in
theorem specSF_false (h ac : Int) (P U : Nat) (ab ao n c : Nat) (f : Nat → Int) (L : List Ob) (w : World) (hs : Src w (some ⟨ab, ao, none⟩) n f) (hcn : n ≤ c) (hcm : c ≤ maxLen) (ho : IsOI h n f ac (U : Int) 0 L) (hk : IsFault h n f ac (U : Int) 0) (hP : baseI ac h = (P : Int)) (hp : parse f (P + U) P = some L) (hr : IsShape f n P U L false) :
    Calls Try.prog 24 #[.agg #[.int .i64 h, .slice (some ⟨ab, ao, none⟩) n c, .int .i64 ac, .int .i64 (U : Int)]] w (RetInt w 8) := by
  obtain ⟨⟨⟨g1, g2⟩, ⟨g3, g4⟩, g5, g6⟩, gn, gw⟩ := isFault_ok hk
  have hPU : P + U ≤ n := by rcases (by omega : ac = 0 ∨ ac = 1) with rfl | rfl <;> simp [baseI] at hP <;> omega
  have HPO := Lib.hid (parse_ok hp hPU gw)
  have hln := parse_length (P + U - P) P L (Nat.le_refl _) hp
  have hl4 : L.length ≤ 400 := by omega
  have HGN := Lib.hid gn
  have HCM := Lib.hid hcm
  clear hcm gn gw hk hln
  have HS := Lib.hid hs
  have HO := Lib.hid ho
  have HR := Lib.hid hr
  clear hs ho hr
  go_enter Try.func24, Try.ntmps24
  go_wp2_with fail
  refine (specOI_any h ac (U : Int) _ n c f 0 L _ (HS.out.alloc _) hcn HCM.out HO.out).mono ?_
  rintro e w1 ⟨v, M, rfl, hM, how, hfl, hb⟩
  have A_1 := Lib.hid ((Blk.new_at (w := w) (cs := #[.int .i64 h, .slice (some ⟨ab, ao, none⟩) n c, .int .i64 ac, .int .i64 (U : Int)]) (t := 26) (w.heap.size) rfl).below hb)
  have S_1 := Lib.hid ((HS.out.alloc _).below hb)
  have HB1 := Lib.hid (thru1 (Below.refl _ _) hb)
  have OW1 := Lib.hid how
  have FL1 := Lib.hid hfl
  subst hM
  clear how hfl hb HS
  obtain ⟨av, kv, hv⟩ := row_nil OW1.out
  have HV := Lib.hid hv
  clear hv
  have hv0 := HV.out
  generalize hm : M.length = mm at hv0
  subst hv0
  go_wp2_with fail
  refine (l3Shape_any (w.heap.size) P U h ac ab ao n c f (.slice av mm kv) M _ _ false _ (A_1.out.alloc _) (S_1.out.alloc _) g1 g2 g3 g4 hP HGN.out hPU (ownsRow_below OW1.out ((Below.refl _ _).alloc (Nat.le_refl _) _)) (FL1.out.below ((Below.refl _ _).alloc (Nat.le_refl _) _)) (by have := hl4; simpa using this) (fun t ht => by have := HPO.out t.x (List.mem_map_of_mem ht); exact ⟨this.1, this.2.1, this.2.2.2.2⟩) HR.out).mono ?_
  rintro e w2 ⟨rfl, hb⟩
  have HB2 := Lib.hid (thru1 HB1.out hb)
  clear hb
  go_wp2
  go_ret
  exact ⟨rfl, HB2.out⟩

set_option maxHeartbeats 1600000 in
theorem specSF_true (h ac : Int) (P U : Nat) (ab ao n c : Nat) (f : Nat → Int) (L : List Ob) (w : World) (hs : Src w (some ⟨ab, ao, none⟩) n f) (hcn : n ≤ c) (hcm : c ≤ maxLen) (ho : IsOI h n f ac (U : Int) 0 L) (hk : IsFault h n f ac (U : Int) 0) (hP : baseI ac h = (P : Int)) (hp : parse f (P + U) P = some L) (hr : IsShape f n P U L true) :
    Calls Try.prog 24 #[.agg #[.int .i64 h, .slice (some ⟨ab, ao, none⟩) n c, .int .i64 ac, .int .i64 (U : Int)]] w (RetInt w 0) := by
  obtain ⟨⟨⟨g1, g2⟩, ⟨g3, g4⟩, g5, g6⟩, gn, gw⟩ := isFault_ok hk
  have hPU : P + U ≤ n := by rcases (by omega : ac = 0 ∨ ac = 1) with rfl | rfl <;> simp [baseI] at hP <;> omega
  have HPO := Lib.hid (parse_ok hp hPU gw)
  have hln := parse_length (P + U - P) P L (Nat.le_refl _) hp
  have hl4 : L.length ≤ 400 := by omega
  have HGN := Lib.hid gn
  have HCM := Lib.hid hcm
  clear hcm gn gw hk hln
  have HS := Lib.hid hs
  have HO := Lib.hid ho
  have HR := Lib.hid hr
  clear hs ho hr
  go_enter Try.func24, Try.ntmps24
  go_wp2_with fail
  refine (specOI_any h ac (U : Int) _ n c f 0 L _ (HS.out.alloc _) hcn HCM.out HO.out).mono ?_
  rintro e w1 ⟨v, M, rfl, hM, how, hfl, hb⟩
  have A_1 := Lib.hid ((Blk.new_at (w := w) (cs := #[.int .i64 h, .slice (some ⟨ab, ao, none⟩) n c, .int .i64 ac, .int .i64 (U : Int)]) (t := 26) (w.heap.size) rfl).below hb)
  have S_1 := Lib.hid ((HS.out.alloc _).below hb)
  have HB1 := Lib.hid (thru1 (Below.refl _ _) hb)
  have OW1 := Lib.hid how
  have FL1 := Lib.hid hfl
  subst hM
  clear how hfl hb HS
  obtain ⟨av, kv, hv⟩ := row_nil OW1.out
  have HV := Lib.hid hv
  clear hv
  have hv0 := HV.out
  generalize hm : M.length = mm at hv0
  subst hv0
  go_wp2_with fail
  refine (l3Shape_any (w.heap.size) P U h ac ab ao n c f (.slice av mm kv) M _ _ true _ (A_1.out.alloc _) (S_1.out.alloc _) g1 g2 g3 g4 hP HGN.out hPU (ownsRow_below OW1.out ((Below.refl _ _).alloc (Nat.le_refl _) _)) (FL1.out.below ((Below.refl _ _).alloc (Nat.le_refl _) _)) (by have := hl4; simpa using this) (fun t ht => by have := HPO.out t.x (List.mem_map_of_mem ht); exact ⟨this.1, this.2.1, this.2.2.2.2⟩) HR.out).mono ?_
  rintro e w2 ⟨rfl, hb⟩
  have HB2 := Lib.hid (thru1 HB1.out hb)
  clear hb
  go_wp2
  go_ret
  exact ⟨rfl, HB2.out⟩

theorem specSF_any (h ac bu : Int) (a : Option Addr) (n c : Nat) (f : Nat → Int) (k : Int) (w : World) (hs : Src w a n f) (hcn : n ≤ c) (hcm : c ≤ maxLen) (hk : IsSF h n f ac bu k) : Calls Try.prog 24 #[.agg #[.int .i64 h, .slice a n c, .int .i64 ac, .int .i64 bu]] w (RetInt w k) := by
  have key : ∀ L r, IsOI h n f ac bu 0 L → IsShape f n (baseI ac h).toNat bu.toNat L r → Calls Try.prog 24 #[.agg #[.int .i64 h, .slice a n c, .int .i64 ac, .int .i64 bu]] w (RetInt w (if r then 0 else 8)) := fun L r ho hr => by
    obtain ⟨h1, h2⟩ := isOI_zero ho
    obtain ⟨⟨⟨g1, g2⟩, ⟨g3, g4⟩, g5, g6⟩, gn, gw⟩ := isFault_ok h1
    have hb := baseI_bd (ac := ac) g1
    obtain ⟨P, hP⟩ : ∃ P : Nat, baseI ac h = (P : Int) := ⟨(baseI ac h).toNat, by omega⟩
    obtain ⟨U, rfl⟩ : ∃ U : Nat, bu = (U : Int) := ⟨bu.toNat, by omega⟩
    obtain ⟨ab, ao, rfl, hab, hac⟩ := src_some hs (by omega)
    rw [hP, Int.toNat_natCast, Int.toNat_natCast] at h2 hr
    cases r
    · exact specSF_false h ac P U ab ao n c f L w hs hcn hcm ho h1 hP h2 hr
    · exact specSF_true h ac P U ab ao n c f L w hs hcn hcm ho h1 hP h2 hr
  rcases hk with ⟨L, ho, h0⟩ | ⟨L, ho, hr, rfl⟩ | ⟨L, ho, hr, rfl⟩
  · exact specSF_code h ac bu a n c f k L w hs hcn hcm ho h0
  · exact key L false ho hr
  · exact key L true ho hr
end Go.Proofs.Ytlelgfkebcnepaa

namespace Go.Proofs.Ytlelgfkebcnepaa
open Go.RowKit
set_option linter.unusedVariables false

theorem isSF_zero {h : Int} {n : Nat} {f : Nat → Int} {ac bu : Int} (hk : IsSF h n f ac bu 0) : ∃ L, IsOI h n f ac bu 0 L := by
  rcases hk with ⟨L, _, h0⟩ | ⟨L, _, _, h0⟩ | ⟨L, ho, _⟩
  · exact absurd rfl h0
  · cases h0
  · exact ⟨L, ho⟩
end Go.Proofs.Ytlelgfkebcnepaa

namespace Go.Proofs.Ytlelgfkebcnepaa
open Go.RowKit
set_option linter.unusedVariables false

theorem blk_under {w w' : World} {B b : Nat} {cs : List Value} (h : Blk w b cs) (hb : Below B w w') (hB : b < B) : Blk w' b cs :=
  ⟨Nat.lt_of_lt_of_le h.1 hb.size, fun i u hu => ⟨(hb.cell (p := ⟨b, i, none⟩) hB).trans (h.2 i u hu).1, (hb.frozen (p := ⟨b, i, none⟩) hB).trans (h.2 i u hu).2⟩⟩

theorem own_put {w : World} {B g q n : Nat} {f : Nat → Int} (h : Own w B (some ⟨g, q, none⟩) n f) (k : Nat) (hk : k < n) (v : Int) : Own (w.setCell ⟨g, q + k, none⟩ (.int .i64 v)) B (some ⟨g, q, none⟩) n (upd f k v) := by
  exact ((h.into.stored k hk v).1).out

theorem own_other {w : World} {B g q n : Nat} {f : Nat → Int} (h : Own w B (some ⟨g, q, none⟩) n f) {p : Addr} (hp : p.block ≠ g) (u : Value) : Own (w.setCell p u) B (some ⟨g, q, none⟩) n f := by
  rcases h with h0 | ⟨b', o', he, h1, hb', hc'⟩
  · exact .inl h0
  · cases he
    refine .inr ⟨g, q, rfl, h1, by simpa using hb', fun i hi => ⟨?_, ?_⟩⟩
    · rw [World.cell?_setCell_other _ _ _ _ (fun e => hp (by rw [e]))]; exact (hc' i hi).1
    · rw [World.frozen?_setCell]; exact (hc' i hi).2

theorem own_get {w : World} {B g q n : Nat} {f : Nat → Int} (h : Own w B (some ⟨g, q, none⟩) n f) (hn : 0 < n) : g < w.heap.size ∧ ∀ k, k < n → w.cell? ⟨g, q + k, none⟩ = some (.int .i64 (f k)) ∧ w.frozen? ⟨g, q + k, none⟩ = false := by
  rcases h with h0 | ⟨b', o', he, _, hb', hc'⟩
  · omega
  · cases he
    exact ⟨hb', hc'⟩

set_option maxHeartbeats 1600000 in
theorem l3Put_any (B b d g q P U K : Nat) (h ac s m o hh : Int) (n c : Nat) (f : Nat → Int) (w : World) (hBb : B ≤ b ∧ B ≤ g ∧ b ≠ g ∧ d ≠ b ∧ d ≠ g) (lB : B ≤ w.heap.size) (lg0 : g < w.heap.size)
    (hB : Blk w b [.int .i64 h, .slice (some ⟨g, q, none⟩) n c, .int .i64 ac, .int .i64 (U : Int)]) (hD : Blk w d [.int .i64 s, .int .i64 m, .int .i64 o, .int .i64 hh]) (ho : Own w B (some ⟨g, q, none⟩) n f)
    (h1 : 8 ≤ h) (h2 : h ≤ 200) (h3 : 0 ≤ ac) (h4 : ac ≤ 1) (hP : baseI ac h = (P : Int)) (hn : (n : Int) = 2 * h) (hKe : K = P + U) (hU : K + 2 ≤ n) (hk : HOk s m o hh) :
    Calls Try.prog 67 #[.pointer (some ⟨b, 0, none⟩), .pointer (some ⟨d, 0, none⟩)] w fun e w' => e = .returned (.int .i64 (K : Int)) ∧ Blk w' b [.int .i64 h, .slice (some ⟨g, q, none⟩) n c, .int .i64 ac, .int .i64 ((U : Int) + (s + 2))] ∧ Own w' B (some ⟨g, q, none⟩) n (upd (upd f K (1 + 2 * (s + 16 * (m + 4096 * o)))) (K + 1) hh) ∧ Below B w w' := by
  have c0 := hB.at 0 rfl; have c1 := hB.at 1 rfl; have c2 := hB.at 2 rfl; have c3 := hB.at 3 rfl
  have l0 := hB.1; have ld := hD.1
  have HB := Lib.hid hB; have HD := Lib.hid hD; have HO := Lib.hid ho; have HK := Lib.hid hk; have HN := Lib.hid hn; have HP := Lib.hid hP
  clear hB hD ho hk hn hP
  go_enter Try.func67, Try.ntmps67
  have HB2 := Lib.hid HB.out.drew
  go_wp2_with fail
  have hw : IntKind.i64.wrap ((P : Int) + (U : Int)) = (K : Int) := by have := HN.out; rw [IntWalk.i64_in _ (by omega)]; omega
  go_region_held3 (fun w' => w'.cell? ⟨b, 0, none⟩ = some (.int .i64 h) ∧ w'.cell? ⟨b, 1, none⟩ = some (.slice (some ⟨g, q, none⟩) n c) ∧ w'.cell? ⟨b, 2, none⟩ = some (.int .i64 ac) ∧ w'.cell? ⟨b, 3, none⟩ = some (.int .i64 (U : Int)))
    (first | (with_reducible exact ⟨(HB.out).at 0 rfl, (HB.out).at 1 rfl, (HB.out).at 2 rfl, (HB.out).at 3 rfl⟩) | (with_reducible exact ⟨(HB2.out).at 0 rfl, (HB2.out).at 1 rfl, (HB2.out).at 2 rfl, (HB2.out).at 3 rfl⟩) | (with_reducible exact ⟨(HB1.out).at 0 rfl, (HB1.out).at 1 rfl, (HB1.out).at 2 rfl, (HB1.out).at 3 rfl⟩))
    (first | (go_at_call 117; refine (l1Base_eq (P : Int) b h ac (U : Int) (some ⟨g, q, none⟩) n c _ HP.out HB2.out h1 h2 h3 h4).mono ?_; rintro e w1 ⟨rfl, hb⟩; have HB1 := Lib.hid (HB2.out.below hb); have HD1 := Lib.hid (HD.out.drew.below hb); have HO1 := Lib.hid (HO.out.drew.below hb); have HW1 := Lib.hid ((Below.refl B w).drew.trans (hb.mono (by simpa using lB))); clear hb))
  clear HB HB2 HD HO
  rw [show (P : Int) + (U : Int) = (K : Int) from by omega]
  clear hw
  have HKe := Lib.hid hKe
  clear hKe
  go_wp2_with fail
  refine (l2Pack_any d s m o hh _ HD1.out HK.out).mono ?_
  rintro e w2 ⟨rfl, hw2, hb⟩
  have z1 : w.heap.size ≤ w1.heap.size := HW1.out.size
  have z2 : w1.heap.size ≤ w2.heap.size := hb.size
  have HB2 := Lib.hid (HB1.out.below hb); have HD2 := Lib.hid (HD1.out.below hb); have HO2 := Lib.hid (HO1.out.below hb); have HW2 := Lib.hid (HW1.out.trans (hb.mono (by omega))); have HV2 := Lib.hid hw2
  clear HB1 HD1 HO1 HW1 hw2 hb
  have z0 : B ≤ w2.heap.size := by omega
  have b0 := HB2.out.at 0 rfl; have b1 := HB2.out.at 1 rfl; have b3 := HB2.out.at 3 rfl; have b3f := HB2.out.free 3 rfl; have v0 := HV2.out.at 0 rfl; have v1 := HV2.out.at 1 rfl
  obtain ⟨lg, hg⟩ := own_get HO2.out (by omega)
  have g0 := (hg K (by omega)).1; have g0f := (hg K (by omega)).2; have g1 := (hg (K + 1) (by omega)).1; have g1f := (hg (K + 1) (by omega)).2
  clear hg
  have lv := HV2.out.1; have lb2 := HB2.out.1
  clear c0 c1 c2 c3 l0 ld
  have hPU : K + 2 ≤ 400 := by have := HN.out; omega
  have hK0 : (0 : Int) ≤ (K : Int) := by omega
  have hPn : (K : Int) < (n : Int) := by omega
  have hPn1 : (K : Int) + 1 < (n : Int) := by omega
  go_wp2
  have HBd := Lib.hid HB2.out.drew; have HVd := Lib.hid HV2.out.drew; have HDd := Lib.hid HD2.out.drew
  have hgb : g ≠ b := fun e => hBb.2.2.1 e.symm
  have hgd : g ≠ d := fun e => hBb.2.2.2.2 e.symm
  have hgv : g ≠ w1.heap.size := by omega
  go_region_held3 (fun w' => w'.cell? ⟨b, 1, none⟩ = some (.slice (some ⟨g, q, none⟩) n c) ∧ w'.cell? ⟨w1.heap.size, 0, none⟩ = some (.int .i64 (1 + 2 * (s + 16 * (m + 4096 * o)))))
    (first | (with_reducible exact ⟨HB2.out.at 1 rfl, HV2.out.at 0 rfl⟩) | (with_reducible exact ⟨HBd.out.at 1 rfl, HVd.out.at 0 rfl⟩) | (with_reducible exact ⟨(HBd.out.other (p := ⟨g, q + K, none⟩) hgb _).at 1 rfl, (HVd.out.other (p := ⟨g, q + K, none⟩) hgv _).at 0 rfl⟩) | (with_reducible exact ⟨((HB2.out.other (p := ⟨g, q + K, none⟩) hgb _).drew).at 1 rfl, ((HV2.out.other (p := ⟨g, q + K, none⟩) hgv _).drew).at 0 rfl⟩))
    (fail)
  have HB3 := Lib.hid (HB2.out.other (p := ⟨g, q + K, none⟩) hgb (.int .i64 (1 + 2 * (s + 16 * (m + 4096 * o))))).drew
  have HD3 := Lib.hid (HD2.out.other (p := ⟨g, q + K, none⟩) hgd (.int .i64 (1 + 2 * (s + 16 * (m + 4096 * o))))).drew
  have HV3 := Lib.hid (HV2.out.other (p := ⟨g, q + K, none⟩) hgv (.int .i64 (1 + 2 * (s + 16 * (m + 4096 * o))))).drew
  have HO3 := Lib.hid (own_put HO2.out K (by omega) (1 + 2 * (s + 16 * (m + 4096 * o)))).drew
  have HW3 := Lib.hid (HW2.out.setCell (p := ⟨g, q + K, none⟩) hBb.2.1 (.int .i64 (1 + 2 * (s + 16 * (m + 4096 * o))))).drew
  have z3 : w2.heap.size ≤ (w2.setCell ⟨g, q + K, none⟩ (.int .i64 (1 + 2 * (s + 16 * (m + 4096 * o))))).drew.heap.size := by simp
  clear b0 b1 b3 b3f v0 v1 lg g0 g0f g1 g1f lv lb2 HBd HVd HDd HB2 HD2 HV2 HO2 HW2
  generalize (w2.setCell ⟨g, q + K, none⟩ (.int .i64 (1 + 2 * (s + 16 * (m + 4096 * o))))).drew = w3 at *
  have lb3 := HB3.out.1
  have b1 := HB3.out.at 1 rfl; have v1 := HV3.out.at 1 rfl; have lv := HV3.out.1
  obtain ⟨lg, hg⟩ := own_get HO3.out (by omega)
  have g1 := (hg (K + 1) (by omega)).1; have g1f := (hg (K + 1) (by omega)).2
  clear hg
  go_wp2
  have hw1 : IntKind.i64.wrap ((K : Int) + 1) = (K : Int) + 1 := IntWalk.i64_in _ (by omega)
  have hK1 : (0 : Int) ≤ (K : Int) + 1 := by omega
  have hK2 : ((K : Int) + 1).toNat = K + 1 := by omega
  have HBd := Lib.hid HB3.out.drew; have HVd := Lib.hid HV3.out.drew
  go_region_held3 (fun w' => w'.cell? ⟨b, 1, none⟩ = some (.slice (some ⟨g, q, none⟩) n c) ∧ w'.cell? ⟨w1.heap.size, 1, none⟩ = some (.int .i64 hh))
    (first | (with_reducible exact ⟨HB3.out.at 1 rfl, HV3.out.at 1 rfl⟩) | (with_reducible exact ⟨HBd.out.at 1 rfl, HVd.out.at 1 rfl⟩) | (with_reducible exact ⟨(HBd.out.other (p := ⟨g, q + (K + 1), none⟩) hgb _).at 1 rfl, (HVd.out.other (p := ⟨g, q + (K + 1), none⟩) hgv _).at 1 rfl⟩) | (with_reducible exact ⟨((HB3.out.other (p := ⟨g, q + (K + 1), none⟩) hgb _).drew).at 1 rfl, ((HV3.out.other (p := ⟨g, q + (K + 1), none⟩) hgv _).drew).at 1 rfl⟩))
    (fail)
  have HB4 := Lib.hid (HB3.out.other (p := ⟨g, q + (K + 1), none⟩) hgb (.int .i64 hh)).drew
  have HD4 := Lib.hid (HD3.out.other (p := ⟨g, q + (K + 1), none⟩) hgd (.int .i64 hh)).drew
  have HO4 := Lib.hid (own_put HO3.out (K + 1) (by omega) hh).drew
  have HW4 := Lib.hid (HW3.out.setCell (p := ⟨g, q + (K + 1), none⟩) hBb.2.1 (.int .i64 hh)).drew
  have z4 : w3.heap.size ≤ (w3.setCell ⟨g, q + (K + 1), none⟩ (.int .i64 hh)).drew.heap.size := by simp
  clear b1 v1 lv lg g1 g1f lb3 HBd HVd HB3 HD3 HV3 HO3 HW3
  generalize (w3.setCell ⟨g, q + (K + 1), none⟩ (.int .i64 hh)).drew = w4 at *
  have lb4 := HB4.out.1
  have b3 := HB4.out.at 3 rfl; have b3f := HB4.out.free 3 rfl
  have hs := HK.out.1
  go_wp2_with fail
  have HDx := Lib.hid HD4.out.drew
  have hU0 := HKe.out
  have hs2 := hs.1; have hs3 := hs.2
  have hHS := Lib.hid hs
  have hU1 : (U : Int) ≤ 400 := by omega
  clear hs hU0
  have hwU : IntKind.i64.wrap ((U : Int) + (s + 2)) = (U : Int) + (s + 2) := IntWalk.i64_in _ (by omega)
  go_region_law (first | (go_simp; go_at_call 65; refine (l2Words_any d s m o hh _ HDx.out hHS.out).mono ?_; rintro e w' ⟨rfl, rfl⟩) | (go_at_call 65; refine (l2Words_any d s m o hh _ HDx.out hHS.out).mono ?_; rintro e w' ⟨rfl, rfl⟩))
  all_goals (
    go_wp2
    go_ret
    exact ⟨rfl, (HB4.out.set 3 (by simp) _).drew, (own_other HO4.out (p := ⟨b, 3, none⟩) hBb.2.2.1 _).drew, (HW4.out.setCell (p := ⟨b, 3, none⟩) hBb.1 _).drew⟩)
end Go.Proofs.Ytlelgfkebcnepaa

namespace Go.Proofs.Ytlelgfkebcnepaa
open Go.RowKit
set_option linter.unusedVariables false

set_option maxHeartbeats 3200000 in
theorem specPO_ok (h ac bu s m o hh : Int) (a : Option Addr) (n c K : Nat) (f : Nat → Int) (w : World) (hs : Src w a n f) (hcn : n ≤ c) (hcm : c ≤ maxLen) (hk : IsSF h n f ac bu 0) (hh0 : HOk s m o hh) (hroom : bu + (s + 2) ≤ h) (hKe : K = (baseI ac h).toNat + bu.toNat) :
    Calls Try.prog 19 #[.agg #[.int .i64 h, .slice a n c, .int .i64 ac, .int .i64 bu], .agg #[.int .i64 s, .int .i64 m, .int .i64 o, .int .i64 hh]] w (RetRes w ⟨0, h, n, upd (upd f K (1 + 2 * (s + 16 * (m + 4096 * o)))) (K + 1) hh, ac, bu + (s + 2), (K : Int)⟩) := by
  obtain ⟨L, ho⟩ := isSF_zero hk
  obtain ⟨h4, h5⟩ := isOI_zero ho
  obtain ⟨⟨⟨g1, g2⟩, ⟨g3, g4⟩, g5, g6⟩, gn, gw⟩ := isFault_ok h4
  clear gw h4 h5 ho
  have hb0 := baseI_bd (ac := ac) g1
  have hb1 : (baseI ac h).toNat + h.toNat ≤ n := by rcases (by omega : ac = 0 ∨ ac = 1) with rfl | rfl <;> simp [baseI] <;> omega
  obtain ⟨P, hP⟩ : ∃ P : Nat, baseI ac h = (P : Int) := ⟨(baseI ac h).toNat, by omega⟩
  obtain ⟨U, rfl⟩ : ∃ U : Nat, bu = (U : Int) := ⟨bu.toNat, by omega⟩
  have hs0 := hh0.1
  replace hKe : K = P + U := by rw [hKe, hP]; simp
  have hKn : K + 2 ≤ n := by rw [hP] at hb1; simp at hb1; omega
  have HS := Lib.hid hs; have HK := Lib.hid hk; have HCM := Lib.hid hcm; have HH := Lib.hid hh0; have HP := Lib.hid hP; have HKE := Lib.hid hKe; have HN := Lib.hid gn; have HKN := Lib.hid hKn; have HS0 := Lib.hid hs0
  have hs1 := hs0.1; have hs2 := hs0.2
  clear hs hk hcm hh0 hP hKe hb0 hb1 gn hKn hs0
  go_enter Try.func19, Try.ntmps19
  go_wp2_with fail
  refine (specSF_any h ac (U : Int) a n c f 0 _ (((HS.out.alloc _).alloc _).alloc _) hcn HCM.out HK.out).mono ?_
  rintro e w1 ⟨rfl, hb⟩
  have HB1 := Lib.hid (thru3 (Below.refl _ _) hb)
  have A_1 := Lib.hid ((((Blk.new_at (w := w) (cs := #[.int .i64 h, .slice a n c, .int .i64 ac, .int .i64 (U : Int)]) (t := 26) (w.heap.size) rfl).alloc _).alloc _).below hb)
  have H_1 := Lib.hid (((Blk.new_at (w := (w.alloc (.cells #[.int .i64 h, .slice a n c, .int .i64 ac, .int .i64 (U : Int)] 26))) (cs := #[.int .i64 s, .int .i64 m, .int .i64 o, .int .i64 hh]) (t := 28) (w.heap.size + 1) (by simp)).alloc _).below hb)
  have R_1 := Lib.hid ((Blk.new_at (w := ((w.alloc (.cells #[.int .i64 h, .slice a n c, .int .i64 ac, .int .i64 (U : Int)] 26)).alloc (.cells #[.int .i64 s, .int .i64 m, .int .i64 o, .int .i64 hh] 28))) (cs := #[.int .i64 0, .int .i64 0, .slice none 0 0, .int .i64 0, .int .i64 0, .int .i64 0]) (t := 32) (w.heap.size + 2) (by simp)).below hb)
  have S_1 := Lib.hid ((((HS.out.alloc _).alloc _).alloc _).below hb)
  have z1 : w.heap.size + 3 ≤ w1.heap.size := by have := hb.size; simp at this; omega
  clear hb
  have lH := H_1.out.1; have cH0 := H_1.out.at 0 rfl; have fH0 := H_1.out.free 0 rfl; have cH1 := H_1.out.at 1 rfl; have fH1 := H_1.out.free 1 rfl; have cH2 := H_1.out.at 2 rfl; have fH2 := H_1.out.free 2 rfl; have cH3 := H_1.out.at 3 rfl; have fH3 := H_1.out.free 3 rfl
  go_wp2_with fail
  refine (specHF_any s m o hh 0 _ (.inl ⟨HH.out, rfl⟩)).mono ?_
  rintro e w2 ⟨rfl, hb⟩
  have z2 : w1.heap.size ≤ w2.heap.size := hb.size
  have HB2 := Lib.hid (HB1.out.trans (hb.mono (by omega))); have A_2 := Lib.hid (A_1.out.below hb); have H_2 := Lib.hid (H_1.out.below hb); have R_2 := Lib.hid (R_1.out.below hb); have S_2 := Lib.hid (S_1.out.below hb)
  clear hb HB1 A_1 H_1 R_1 S_1 lH cH0 cH1 cH2 cH3 fH0 fH1 fH2 fH3
  have A_d := Lib.hid A_2.out.drew; have H_d := Lib.hid H_2.out.drew
  have lA := A_2.out.1; have lH := H_2.out.1
  have hwS : IntKind.i64.wrap ((U : Int) + (s + 2)) = (U : Int) + (s + 2) := IntWalk.i64_in _ (by omega)
  have hno : ¬ h < (U : Int) + (s + 2) := by omega
  go_wp2_with fail
  go_region_held3 (fun w' => w'.cell? ⟨w.heap.size, 0, none⟩ = some (.int .i64 h) ∧ w'.cell? ⟨w.heap.size, 3, none⟩ = some (.int .i64 (U : Int)))
    (first | (with_reducible exact ⟨A_2.out.at 0 rfl, A_2.out.at 3 rfl⟩) | (with_reducible exact ⟨A_d.out.at 0 rfl, A_d.out.at 3 rfl⟩))
    (first | (go_at_call 65; refine (l2Words_any (w.heap.size + 1) s m o hh _ H_d.out HS0.out).mono ?_; rintro e w' ⟨rfl, rfl⟩))
  go_wp2_with fail
  have hn0 : 0 < n := by have := HKN.out; omega
  have hn1 : n ≤ 1048576 := by have := HN.out; omega
  refine (l1Copy_any (w.heap.size) h ac (U : Int) a n c f _ A_d.out S_2.out.drew hn0 hn1).mono ?_
  rintro e w3 ⟨u, cu, rfl, ho, hb, hncu, hcmu, -⟩
  have z3 : w2.heap.size ≤ w3.heap.size := by have := hb.size; simpa using this
  have ho : Own w3 w2.heap.size u n f := ho.mono (by simp)
  obtain ⟨g, q, rfl, hg1, hg2⟩ : ∃ g q, u = some ⟨g, q, none⟩ ∧ w2.heap.size ≤ g ∧ g < w3.heap.size := by
    rcases ho with h0 | ⟨g, q, h1, h2, h3, _⟩
    · omega
    · exact ⟨g, q, h1, h2, h3⟩
  have HO := Lib.hid ho
  have HB3 := Lib.hid (HB2.out.trans ((Below.refl w2.heap.size w2).drew.trans (hb.mono (by simp)) |>.mono (by omega))); have H_3 := Lib.hid (H_d.out.below hb); have R_3 := Lib.hid (R_2.out.drew.below hb)
  clear hb ho HB2 A_2 A_d H_2 H_d R_2 S_2 lA lH hwS hno
  go_wp2_with fail
  refine (l3Put_any w2.heap.size w3.heap.size (w.heap.size + 1) g q P U K h ac s m o hh n cu f _ ⟨z3, hg1, by omega, by omega, by omega⟩ (by simp; omega) (by simp; omega) (Blk.new_at (w := w3) (cs := #[.int .i64 h, .slice (some ⟨g, q, none⟩) n cu, .int .i64 ac, .int .i64 (U : Int)]) (t := 26) (w3.heap.size) rfl) (H_3.out.alloc _) (HO.out.alloc _) g1 g2 g3 g4 HP.out HN.out HKE.out HKN.out HH.out).mono ?_
  rintro e w4 ⟨rfl, hB4, ho4, hb4⟩
  have z4 : w3.heap.size + 1 ≤ w4.heap.size := by have := hb4.size; simpa using this
  have A_1 := Lib.hid hB4; have R_1 := Lib.hid (blk_under (R_3.out.alloc _) hb4 (by omega)); have HO4 := Lib.hid ho4
  have HB4 := Lib.hid (((HB3.out.alloc HB3.out.size _)).trans (hb4.mono (by omega)))
  clear hB4 ho4 hb4 HB3 H_3 R_3 HO
  have lA := A_1.out.1; have cA0 := A_1.out.at 0 rfl; have fA0 := A_1.out.free 0 rfl; have cA1 := A_1.out.at 1 rfl; have fA1 := A_1.out.free 1 rfl; have cA2 := A_1.out.at 2 rfl; have fA2 := A_1.out.free 2 rfl; have cA3 := A_1.out.at 3 rfl; have fA3 := A_1.out.free 3 rfl
  have lR := R_1.out.1; have cR0 := R_1.out.at 0 rfl; have fR0 := R_1.out.free 0 rfl; have cR1 := R_1.out.at 1 rfl; have fR1 := R_1.out.free 1 rfl; have cR2 := R_1.out.at 2 rfl; have fR2 := R_1.out.free 2 rfl; have cR3 := R_1.out.at 3 rfl; have fR3 := R_1.out.free 3 rfl; have cR4 := R_1.out.at 4 rfl; have fR4 := R_1.out.free 4 rfl; have cR5 := R_1.out.at 5 rfl; have fR5 := R_1.out.free 5 rfl
  go_wp2
  refine bodyPost_ret (v := .agg #[.int .i64 0, .int .i64 h, .slice (some ⟨g, q, none⟩) n cu, .int .i64 ac, .int .i64 ((U : Int) + (s + 2)), .int .i64 (K : Int)]) (by simp [results, Try.results19, go_sem, cR0, cR1, cR2, cR3, cR4, cR5]) rfl ⟨some ⟨g, q, none⟩, cu, rfl, ?_, ?_⟩
  · refine Own.mono (B := w2.heap.size) ?_ (by omega)
    repeat (with_reducible refine Own.setCell ?_ (by (try simp); (try omega)) _)
    exact HO4.out
  · repeat (with_reducible refine Below.setCell ?_ (by (try simp); (try omega)) _)
    exact HB4.out

set_option maxHeartbeats 1600000 in
theorem specPO_code (h ac bu s m o hh : Int) (a : Option Addr) (n c : Nat) (f : Nat → Int) (k : Int) (h0 : ¬ k = 0) (w : World) (hs : Src w a n f) (hcn : n ≤ c) (hcm : c ≤ maxLen) (hk : IsSF h n f ac bu k) :
    Calls Try.prog 19 #[.agg #[.int .i64 h, .slice a n c, .int .i64 ac, .int .i64 bu], .agg #[.int .i64 s, .int .i64 m, .int .i64 o, .int .i64 hh]] w (RetRes w (errAR k)) := by
  have HS := Lib.hid hs; have HK := Lib.hid hk; have HCM := Lib.hid hcm
  clear hs hk hcm
  go_enter Try.func19, Try.ntmps19
  go_wp2_with fail
  refine (specSF_any h ac bu a n c f k _ (((HS.out.alloc _).alloc _).alloc _) hcn HCM.out HK.out).mono ?_
  rintro e w1 ⟨rfl, hb⟩
  have HB1 := Lib.hid (thru3 (Below.refl _ _) hb)
  have A_1 := Lib.hid ((((Blk.new_at (w := w) (cs := #[.int .i64 h, .slice a n c, .int .i64 ac, .int .i64 bu]) (t := 26) (w.heap.size) rfl).alloc _).alloc _).below hb)
  have H_1 := Lib.hid (((Blk.new_at (w := (w.alloc (.cells #[.int .i64 h, .slice a n c, .int .i64 ac, .int .i64 bu] 26))) (cs := #[.int .i64 s, .int .i64 m, .int .i64 o, .int .i64 hh]) (t := 28) (w.heap.size + 1) (by simp)).alloc _).below hb)
  have R_1 := Lib.hid ((Blk.new_at (w := ((w.alloc (.cells #[.int .i64 h, .slice a n c, .int .i64 ac, .int .i64 bu] 26)).alloc (.cells #[.int .i64 s, .int .i64 m, .int .i64 o, .int .i64 hh] 28))) (cs := #[.int .i64 0, .int .i64 0, .slice none 0 0, .int .i64 0, .int .i64 0, .int .i64 0]) (t := 32) (w.heap.size + 2) (by simp)).below hb)
  have z1 : w.heap.size + 3 ≤ w1.heap.size := by have := hb.size; simp at this; omega
  clear hb
  have lR := R_1.out.1; have cR0 := R_1.out.at 0 rfl; have fR0 := R_1.out.free 0 rfl; have cR1 := R_1.out.at 1 rfl; have fR1 := R_1.out.free 1 rfl; have cR2 := R_1.out.at 2 rfl; have fR2 := R_1.out.free 2 rfl; have cR3 := R_1.out.at 3 rfl; have fR3 := R_1.out.free 3 rfl; have cR4 := R_1.out.at 4 rfl; have fR4 := R_1.out.free 4 rfl; have cR5 := R_1.out.at 5 rfl; have fR5 := R_1.out.free 5 rfl
  have hd : (k != 0) = true := by simpa using h0
  go_wp2
  refine bodyPost_ret (v := .agg #[.int .i64 k, .int .i64 0, .slice none 0 0, .int .i64 0, .int .i64 0, .int .i64 0]) (by simp [results, Try.results19, go_sem, cR0, cR1, cR2, cR3, cR4, cR5]) rfl ⟨none, 0, rfl, .inl rfl, ?_⟩
  repeat (with_reducible refine Below.setCell ?_ (by (try simp); (try omega)) _)
  exact HB1.out

set_option maxHeartbeats 1600000 in
theorem specPO_head (h ac bu s m o hh : Int) (a : Option Addr) (n c : Nat) (f : Nat → Int) (hn : ¬ HOk s m o hh) (w : World) (hs : Src w a n f) (hcn : n ≤ c) (hcm : c ≤ maxLen) (hk : IsSF h n f ac bu 0) :
    Calls Try.prog 19 #[.agg #[.int .i64 h, .slice a n c, .int .i64 ac, .int .i64 bu], .agg #[.int .i64 s, .int .i64 m, .int .i64 o, .int .i64 hh]] w (RetRes w (errAR 3)) := by
  have HS := Lib.hid hs; have HK := Lib.hid hk; have HCM := Lib.hid hcm
  clear hs hk hcm
  go_enter Try.func19, Try.ntmps19
  go_wp2_with fail
  refine (specSF_any h ac bu a n c f 0 _ (((HS.out.alloc _).alloc _).alloc _) hcn HCM.out HK.out).mono ?_
  rintro e w1 ⟨rfl, hb⟩
  have HB1 := Lib.hid (thru3 (Below.refl _ _) hb)
  have A_1 := Lib.hid ((((Blk.new_at (w := w) (cs := #[.int .i64 h, .slice a n c, .int .i64 ac, .int .i64 bu]) (t := 26) (w.heap.size) rfl).alloc _).alloc _).below hb)
  have H_1 := Lib.hid (((Blk.new_at (w := (w.alloc (.cells #[.int .i64 h, .slice a n c, .int .i64 ac, .int .i64 bu] 26))) (cs := #[.int .i64 s, .int .i64 m, .int .i64 o, .int .i64 hh]) (t := 28) (w.heap.size + 1) (by simp)).alloc _).below hb)
  have R_1 := Lib.hid ((Blk.new_at (w := ((w.alloc (.cells #[.int .i64 h, .slice a n c, .int .i64 ac, .int .i64 bu] 26)).alloc (.cells #[.int .i64 s, .int .i64 m, .int .i64 o, .int .i64 hh] 28))) (cs := #[.int .i64 0, .int .i64 0, .slice none 0 0, .int .i64 0, .int .i64 0, .int .i64 0]) (t := 32) (w.heap.size + 2) (by simp)).below hb)
  have z1 : w.heap.size + 3 ≤ w1.heap.size := by have := hb.size; simp at this; omega
  clear hb
  have lH := H_1.out.1; have cH0 := H_1.out.at 0 rfl; have fH0 := H_1.out.free 0 rfl; have cH1 := H_1.out.at 1 rfl; have fH1 := H_1.out.free 1 rfl; have cH2 := H_1.out.at 2 rfl; have fH2 := H_1.out.free 2 rfl; have cH3 := H_1.out.at 3 rfl; have fH3 := H_1.out.free 3 rfl
  go_wp2_with fail
  refine (specHF_any s m o hh 3 _ (.inr ⟨hn, rfl⟩)).mono ?_
  rintro e w2 ⟨rfl, hb⟩
  have z2 : w1.heap.size ≤ w2.heap.size := hb.size
  have HB2 := Lib.hid (HB1.out.trans (hb.mono (by omega))); have A_2 := Lib.hid (A_1.out.below hb); have H_2 := Lib.hid (H_1.out.below hb); have R_2 := Lib.hid (R_1.out.below hb)
  clear hb HB1 A_1 H_1 R_1 lH cH0 cH1 cH2 cH3 fH0 fH1 fH2 fH3
  have R_1 := R_2
  have lR := R_1.out.1; have cR0 := R_1.out.at 0 rfl; have fR0 := R_1.out.free 0 rfl; have cR1 := R_1.out.at 1 rfl; have fR1 := R_1.out.free 1 rfl; have cR2 := R_1.out.at 2 rfl; have fR2 := R_1.out.free 2 rfl; have cR3 := R_1.out.at 3 rfl; have fR3 := R_1.out.free 3 rfl; have cR4 := R_1.out.at 4 rfl; have fR4 := R_1.out.free 4 rfl; have cR5 := R_1.out.at 5 rfl; have fR5 := R_1.out.free 5 rfl
  go_wp2
  refine bodyPost_ret (v := .agg #[.int .i64 3, .int .i64 0, .slice none 0 0, .int .i64 0, .int .i64 0, .int .i64 0]) (by simp [results, Try.results19, go_sem, cR0, cR1, cR2, cR3, cR4, cR5]) rfl ⟨none, 0, rfl, .inl rfl, ?_⟩
  repeat (with_reducible refine Below.setCell ?_ (by (try simp); (try omega)) _)
  exact HB2.out

set_option maxHeartbeats 1600000 in
theorem specPO_full (h ac bu s m o hh : Int) (a : Option Addr) (n c : Nat) (f : Nat → Int) (hh0 : HOk s m o hh) (hs0 : 0 ≤ s ∧ s ≤ 12) (hh1 : 8 ≤ h ∧ h ≤ 200) (hbu : 0 ≤ bu ∧ bu ≤ h) (hroom : h < bu + (s + 2)) (w : World) (hs : Src w a n f) (hcn : n ≤ c) (hcm : c ≤ maxLen) (hk : IsSF h n f ac bu 0) :
    Calls Try.prog 19 #[.agg #[.int .i64 h, .slice a n c, .int .i64 ac, .int .i64 bu], .agg #[.int .i64 s, .int .i64 m, .int .i64 o, .int .i64 hh]] w (RetRes w (errAR 7)) := by
  have HS := Lib.hid hs; have HK := Lib.hid hk; have HCM := Lib.hid hcm
  clear hs hk hcm
  go_enter Try.func19, Try.ntmps19
  go_wp2_with fail
  refine (specSF_any h ac bu a n c f 0 _ (((HS.out.alloc _).alloc _).alloc _) hcn HCM.out HK.out).mono ?_
  rintro e w1 ⟨rfl, hb⟩
  have HB1 := Lib.hid (thru3 (Below.refl _ _) hb)
  have A_1 := Lib.hid ((((Blk.new_at (w := w) (cs := #[.int .i64 h, .slice a n c, .int .i64 ac, .int .i64 bu]) (t := 26) (w.heap.size) rfl).alloc _).alloc _).below hb)
  have H_1 := Lib.hid (((Blk.new_at (w := (w.alloc (.cells #[.int .i64 h, .slice a n c, .int .i64 ac, .int .i64 bu] 26))) (cs := #[.int .i64 s, .int .i64 m, .int .i64 o, .int .i64 hh]) (t := 28) (w.heap.size + 1) (by simp)).alloc _).below hb)
  have R_1 := Lib.hid ((Blk.new_at (w := ((w.alloc (.cells #[.int .i64 h, .slice a n c, .int .i64 ac, .int .i64 bu] 26)).alloc (.cells #[.int .i64 s, .int .i64 m, .int .i64 o, .int .i64 hh] 28))) (cs := #[.int .i64 0, .int .i64 0, .slice none 0 0, .int .i64 0, .int .i64 0, .int .i64 0]) (t := 32) (w.heap.size + 2) (by simp)).below hb)
  have z1 : w.heap.size + 3 ≤ w1.heap.size := by have := hb.size; simp at this; omega
  clear hb
  have HH := Lib.hid hh0; have HS0 := Lib.hid hs0
  have hs1 := hs0.1; have hs2 := hs0.2; have hh2 := hh1.2; have hbu1 := hbu.1; have hbu2 := hbu.2
  clear hh0 hs0
  have lH := H_1.out.1; have cH0 := H_1.out.at 0 rfl; have fH0 := H_1.out.free 0 rfl; have cH1 := H_1.out.at 1 rfl; have fH1 := H_1.out.free 1 rfl; have cH2 := H_1.out.at 2 rfl; have fH2 := H_1.out.free 2 rfl; have cH3 := H_1.out.at 3 rfl; have fH3 := H_1.out.free 3 rfl
  go_wp2_with fail
  refine (specHF_any s m o hh 0 _ (.inl ⟨HH.out, rfl⟩)).mono ?_
  rintro e w2 ⟨rfl, hb⟩
  have z2 : w1.heap.size ≤ w2.heap.size := hb.size
  have HB2 := Lib.hid (HB1.out.trans (hb.mono (by omega))); have A_2 := Lib.hid (A_1.out.below hb); have H_2 := Lib.hid (H_1.out.below hb); have R_2 := Lib.hid (R_1.out.below hb)
  clear hb HB1 A_1 H_1 R_1 lH cH0 cH1 cH2 cH3 fH0 fH1 fH2 fH3
  have A_d := Lib.hid A_2.out.drew; have H_d := Lib.hid H_2.out.drew
  have lA := A_2.out.1; have lH := H_2.out.1
  have hwS : IntKind.i64.wrap (bu + (s + 2)) = bu + (s + 2) := IntWalk.i64_in _ (by omega)
  go_wp2_with fail
  go_region_held3 (fun w' => w'.cell? ⟨w.heap.size, 0, none⟩ = some (.int .i64 h) ∧ w'.cell? ⟨w.heap.size, 3, none⟩ = some (.int .i64 bu))
    (first | (with_reducible exact ⟨A_2.out.at 0 rfl, A_2.out.at 3 rfl⟩) | (with_reducible exact ⟨A_d.out.at 0 rfl, A_d.out.at 3 rfl⟩))
    (first | (go_at_call 65; refine (l2Words_any (w.heap.size + 1) s m o hh _ H_d.out HS0.out).mono ?_; rintro e w' ⟨rfl, rfl⟩))
  have R_1 := R_2
  clear R_2
  have lR := R_1.out.1; have cR0 := R_1.out.at 0 rfl; have fR0 := R_1.out.free 0 rfl; have cR1 := R_1.out.at 1 rfl; have fR1 := R_1.out.free 1 rfl; have cR2 := R_1.out.at 2 rfl; have fR2 := R_1.out.free 2 rfl; have cR3 := R_1.out.at 3 rfl; have fR3 := R_1.out.free 3 rfl; have cR4 := R_1.out.at 4 rfl; have fR4 := R_1.out.free 4 rfl; have cR5 := R_1.out.at 5 rfl; have fR5 := R_1.out.free 5 rfl
  go_wp2
  refine bodyPost_ret (v := .agg #[.int .i64 7, .int .i64 0, .slice none 0 0, .int .i64 0, .int .i64 0, .int .i64 0]) (by simp [results, Try.results19, go_sem, cR0, cR1, cR2, cR3, cR4, cR5]) rfl ⟨none, 0, rfl, .inl rfl, ?_⟩
  repeat (first | (with_reducible refine Below.drew ?_) | (with_reducible refine Below.setCell ?_ (by (try simp); (try omega)) _))
  exact HB2.out

/-- What PutObject answers. -/
def IsPO (h : Int) (n : Nat) (f : Nat → Int) (ac bu s m o hh : Int) (r : AR) : Prop :=
  (∃ k, IsSF h n f ac bu k ∧ ¬ k = 0 ∧ r = errAR k) ∨ (IsSF h n f ac bu 0 ∧ ¬ HOk s m o hh ∧ r = errAR 3) ∨ (IsSF h n f ac bu 0 ∧ HOk s m o hh ∧ h < bu + (s + 2) ∧ r = errAR 7) ∨
  (IsSF h n f ac bu 0 ∧ HOk s m o hh ∧ bu + (s + 2) ≤ h ∧ r = ⟨0, h, n, upd (upd f ((baseI ac h).toNat + bu.toNat) (1 + 2 * (s + 16 * (m + 4096 * o)))) ((baseI ac h).toNat + bu.toNat + 1) hh, ac, bu + (s + 2), (((baseI ac h).toNat + bu.toNat : Nat) : Int)⟩)

theorem isPO_some (h : Int) (n : Nat) (f : Nat → Int) (ac bu s m o hh : Int) : ∃ r, IsPO h n f ac bu s m o hh r := by
  obtain ⟨k, hk⟩ := isSF_some h n f ac bu
  by_cases h0 : k = 0
  · subst h0
    by_cases hp : HOk s m o hh
    · by_cases hr : h < bu + (s + 2)
      · exact ⟨_, .inr (.inr (.inl ⟨hk, hp, hr, rfl⟩))⟩
      · exact ⟨_, .inr (.inr (.inr ⟨hk, hp, by omega, rfl⟩))⟩
    · exact ⟨_, .inr (.inl ⟨hk, hp, rfl⟩)⟩
  · exact ⟨_, .inl ⟨k, hk, h0, rfl⟩⟩

theorem specPO_any (h ac bu s m o hh : Int) (a : Option Addr) (n c : Nat) (f : Nat → Int) (r : AR) (w : World) (hs : Src w a n f) (hcn : n ≤ c) (hcm : c ≤ maxLen) (hr : IsPO h n f ac bu s m o hh r) :
    Calls Try.prog 19 #[.agg #[.int .i64 h, .slice a n c, .int .i64 ac, .int .i64 bu], .agg #[.int .i64 s, .int .i64 m, .int .i64 o, .int .i64 hh]] w (RetRes w r) := by
  rcases hr with ⟨k, hk, h0, rfl⟩ | ⟨hk, hn, rfl⟩ | ⟨hk, hh0, hroom, rfl⟩ | ⟨hk, hh0, hroom, rfl⟩
  · exact specPO_code h ac bu s m o hh a n c f k h0 w hs hcn hcm hk
  · exact specPO_head h ac bu s m o hh a n c f hn w hs hcn hcm hk
  · obtain ⟨L, ho⟩ := isSF_zero hk
    obtain ⟨⟨⟨g1, g2⟩, _, g5, g6⟩, _, _⟩ := isFault_ok (isOI_zero ho).1
    exact specPO_full h ac bu s m o hh a n c f hh0 hh0.1 ⟨g1, g2⟩ ⟨g5, g6⟩ hroom w hs hcn hcm hk
  · exact specPO_ok h ac bu s m o hh a n c _ f w hs hcn hcm hk hh0 hroom rfl
end Go.Proofs.Ytlelgfkebcnepaa

namespace Go.Proofs.Ytlelgfkebcnepaa
open Go.RowKit
set_option linter.unusedVariables false

/-- An object in memory, whatever it holds. -/
structure GM where
  at_ : Int
  s : Int
  m : Int
  o : Int
  h : Int
  a : Option Addr
  n : Nat
  c : Nat
  f : Nat → Int

def GM.g (t : GM) : Nat := match t.a with | some p => p.block | none => 0

def SixG (w : World) (b o : Nat) (t : GM) : Prop := w.cell? ⟨b, o, none⟩ = some (.int .i64 t.at_) ∧ w.cell? ⟨b, o + 1, none⟩ = some (.int .i64 t.s) ∧ w.cell? ⟨b, o + 2, none⟩ = some (.int .i64 t.m) ∧ w.cell? ⟨b, o + 3, none⟩ = some (.int .i64 t.o) ∧ w.cell? ⟨b, o + 4, none⟩ = some (.int .i64 t.h) ∧ w.cell? ⟨b, o + 5, none⟩ = some (.slice t.a t.n t.c)

def SixF (w : World) (b o : Nat) : Prop := w.frozen? ⟨b, o, none⟩ = false ∧ w.frozen? ⟨b, o + 1, none⟩ = false ∧ w.frozen? ⟨b, o + 2, none⟩ = false ∧ w.frozen? ⟨b, o + 3, none⟩ = false ∧ w.frozen? ⟨b, o + 4, none⟩ = false ∧ w.frozen? ⟨b, o + 5, none⟩ = false

theorem SixG.block {w w' : World} {b o : Nat} {t : GM} (h : SixG w b o t) (e : w'.heap[b]? = w.heap[b]?) : SixG w' b o t :=
  ⟨(World.cell?_of_block (w := w) (a := ⟨b, o, none⟩) e).trans h.1, (World.cell?_of_block (w := w) (a := ⟨b, o + 1, none⟩) e).trans h.2.1, (World.cell?_of_block (w := w) (a := ⟨b, o + 2, none⟩) e).trans h.2.2.1, (World.cell?_of_block (w := w) (a := ⟨b, o + 3, none⟩) e).trans h.2.2.2.1, (World.cell?_of_block (w := w) (a := ⟨b, o + 4, none⟩) e).trans h.2.2.2.2.1, (World.cell?_of_block (w := w) (a := ⟨b, o + 5, none⟩) e).trans h.2.2.2.2.2⟩

theorem SixF.block {w w' : World} {b o : Nat} (h : SixF w b o) (e : w'.heap[b]? = w.heap[b]?) : SixF w' b o :=
  ⟨(World.frozen?_of_block (w := w) (a := ⟨b, o, none⟩) e).trans h.1, (World.frozen?_of_block (w := w) (a := ⟨b, o + 1, none⟩) e).trans h.2.1, (World.frozen?_of_block (w := w) (a := ⟨b, o + 2, none⟩) e).trans h.2.2.1, (World.frozen?_of_block (w := w) (a := ⟨b, o + 3, none⟩) e).trans h.2.2.2.1, (World.frozen?_of_block (w := w) (a := ⟨b, o + 4, none⟩) e).trans h.2.2.2.2.1, (World.frozen?_of_block (w := w) (a := ⟨b, o + 5, none⟩) e).trans h.2.2.2.2.2⟩

theorem SixG.below {w w' : World} {b o : Nat} {t : GM} (h : SixG w b o t) (hb : Below w.heap.size w w') (hl : b < w.heap.size) : SixG w' b o t := h.block (hb.block b hl)

theorem SixF.below {w w' : World} {b o : Nat} (h : SixF w b o) (hb : Below w.heap.size w w') (hl : b < w.heap.size) : SixF w' b o := h.block (hb.block b hl)

theorem SixG.keeps {w w' : World} {b o lo hi : Nat} {t : GM} (h : SixG w b o t) (hk : Keeps w w' lo hi) (hl : b < w.heap.size) (hd : b < lo ∨ hi ≤ b) : SixG w' b o t := h.block (hk.block b hl hd)

theorem SixF.keeps {w w' : World} {b o lo hi : Nat} (h : SixF w b o) (hk : Keeps w w' lo hi) (hl : b < w.heap.size) (hd : b < lo ∨ hi ≤ b) : SixF w' b o := h.block (hk.block b hl hd)

/-- A row of objects is read. -/
structure GSrc (w : World) (b q N : Nat) (T : Nat → GM) : Prop where
  lt : b < w.heap.size
  six : ∀ i, i < N → SixG w b (q + i * 6) (T i)
  flds : ∀ i, i < N → Src w (T i).a (T i).n (T i).f

/-- A row of objects of the call's own, in blocks from lo to hi. -/
structure GOwn (w : World) (lo hi b q N : Nat) (T : Nat → GM) : Prop where
  glo : lo ≤ b
  ghi : b < hi
  lt : b < w.heap.size
  six : ∀ i, i < N → SixG w b (q + i * 6) (T i)
  free : ∀ i, i < N → SixF w b (q + i * 6)
  flds : ∀ i, i < N → OwnIn w lo hi (T i).a (T i).n (T i).f
  off : ∀ i, i < N → (T i).n = 0 ∨ (T i).g ≠ b
  apart : ∀ i j, i < N → j < N → i ≠ j → (T i).n = 0 ∨ (T j).n = 0 ∨ (T i).g ≠ (T j).g

theorem GOwn.src {w : World} {lo hi b q N : Nat} {T : Nat → GM} (h : GOwn w lo hi b q N T) : GSrc w b q N T := ⟨h.lt, h.six, fun i hi => (h.flds i hi).src⟩

theorem GSrc.below {w w' : World} {b q N : Nat} {T : Nat → GM} (h : GSrc w b q N T) (hb : Below w.heap.size w w') : GSrc w' b q N T :=
  ⟨Nat.lt_of_lt_of_le h.lt hb.size, fun i hi => (h.six i hi).below hb h.lt, fun i hi => (h.flds i hi).below hb⟩

theorem GOwn.below {w w' : World} {lo hi b q N : Nat} {T : Nat → GM} (h : GOwn w lo hi b q N T) (hb : Below w.heap.size w w') : GOwn w' lo hi b q N T :=
  ⟨h.glo, h.ghi, Nat.lt_of_lt_of_le h.lt hb.size, fun i hi => (h.six i hi).below hb h.lt, fun i hi => (h.free i hi).below hb h.lt, fun i hi => (h.flds i hi).below hb, h.off, h.apart⟩

theorem GOwn.keeps {w w' : World} {lo hi lo' hi' b q N : Nat} {T : Nat → GM} (h : GOwn w lo hi b q N T) (hk : Keeps w w' lo' hi') (hd : hi ≤ lo' ∨ hi' ≤ lo) : GOwn w' lo hi b q N T := by
  have h1 := h.glo; have h2 := h.ghi
  exact ⟨h.glo, h.ghi, Nat.lt_of_lt_of_le h.lt hk.size, fun i hi => (h.six i hi).keeps hk h.lt (by omega), fun i hi => (h.free i hi).keeps hk h.lt (by omega), fun i hi => (h.flds i hi).keeps hk hd, h.off, h.apart⟩

theorem GSrc.keeps {w w' : World} {lo hi b q N : Nat} {T : Nat → GM} (h : GSrc w b q N T) (hk : Keeps w w' lo hi) (hd : b < lo ∨ hi ≤ b) (hf : ∀ i, i < N → (T i).n = 0 ∨ (T i).g < lo ∨ hi ≤ (T i).g) : GSrc w' b q N T := by
  refine ⟨Nat.lt_of_lt_of_le h.lt hk.size, fun i hi => (h.six i hi).keeps hk h.lt hd, fun i hi => ?_⟩
  rcases h.flds i hi with h0 | ⟨b', o', he, hl, hc⟩
  · exact .inl h0
  · rcases hf i hi with h0 | hf
    · exact .inl h0
    · have hg : (T i).g = b' := by simp [GM.g, he]
      have e := hk.block b' hl (by omega)
      exact .inr ⟨b', o', he, Nat.lt_of_lt_of_le hl hk.size, fun k hk' => (World.cell?_of_block (w := w) (a := ⟨b', o' + k, none⟩) e).trans (hc k hk')⟩

theorem GSrc.drew {w : World} {b q N : Nat} {T : Nat → GM} (h : GSrc w b q N T) : GSrc w.drew b q N T := h.below (Below.refl _ _).drew

theorem GSrc.alloc {w : World} {b q N : Nat} {T : Nat → GM} (h : GSrc w b q N T) (o : Obj) : GSrc (w.alloc o) b q N T := h.below ((Below.refl _ _).alloc (Nat.le_refl _) o)

theorem GOwn.drew {w : World} {lo hi b q N : Nat} {T : Nat → GM} (h : GOwn w lo hi b q N T) : GOwn w.drew lo hi b q N T := h.below (Below.refl _ _).drew

theorem GOwn.alloc {w : World} {lo hi b q N : Nat} {T : Nat → GM} (h : GOwn w lo hi b q N T) (o : Obj) : GOwn (w.alloc o) lo hi b q N T := h.below ((Below.refl _ _).alloc (Nat.le_refl _) o)

theorem GSrc.congr {w : World} {b q N : Nat} {T U : Nat → GM} (h : GSrc w b q N T) (e : ∀ i, i < N → T i = U i) : GSrc w b q N U :=
  ⟨h.lt, fun i hi => by rw [← e i hi]; exact h.six i hi, fun i hi => by rw [← e i hi]; exact h.flds i hi⟩

theorem GOwn.congr {w : World} {lo hi b q N : Nat} {T U : Nat → GM} (h : GOwn w lo hi b q N T) (e : ∀ i, i < N → T i = U i) : GOwn w lo hi b q N U :=
  ⟨h.glo, h.ghi, h.lt, fun i hi => by rw [← e i hi]; exact h.six i hi, h.free, fun i hi => by rw [← e i hi]; exact h.flds i hi, fun i hi => by rw [← e i hi]; exact h.off i hi, fun i j hi hj hij => by rw [← e i hi, ← e j hj]; exact h.apart i j hi hj hij⟩
end Go.Proofs.Ytlelgfkebcnepaa

namespace Go.Proofs.Ytlelgfkebcnepaa
open Go.RowKit
set_option linter.unusedVariables false

/-- Two objects hold the same. -/
def GSame (t u : GM) : Prop := t.at_ = u.at_ ∧ t.s = u.s ∧ t.m = u.m ∧ t.o = u.o ∧ t.h = u.h ∧ t.n = u.n ∧ ∀ k, k < t.n → t.f k = u.f k

def GV (w : World) (a : Option Addr) (N : Nat) (T : Nat → GM) : Prop := N = 0 ∨ ∃ b q, a = some ⟨b, q, none⟩ ∧ GSrc w b q N T

def GVO (w : World) (lo hi : Nat) (a : Option Addr) (N : Nat) (T : Nat → GM) : Prop := N = 0 ∨ ∃ b q, a = some ⟨b, q, none⟩ ∧ GOwn w lo hi b q N T

theorem GVO.src {w : World} {lo hi N : Nat} {a : Option Addr} {T : Nat → GM} (h : GVO w lo hi a N T) : GV w a N T := by
  rcases h with h0 | ⟨b, q, e, h⟩
  · exact .inl h0
  · exact .inr ⟨b, q, e, h.src⟩

theorem GV.below {w w' : World} {a : Option Addr} {N : Nat} {T : Nat → GM} (h : GV w a N T) (hb : Below w.heap.size w w') : GV w' a N T := by
  rcases h with h0 | ⟨b, q, e, h⟩
  · exact .inl h0
  · exact .inr ⟨b, q, e, h.below hb⟩

theorem GVO.below {w w' : World} {lo hi N : Nat} {a : Option Addr} {T : Nat → GM} (h : GVO w lo hi a N T) (hb : Below w.heap.size w w') : GVO w' lo hi a N T := by
  rcases h with h0 | ⟨b, q, e, h⟩
  · exact .inl h0
  · exact .inr ⟨b, q, e, h.below hb⟩

theorem GVO.keeps {w w' : World} {lo hi lo' hi' N : Nat} {a : Option Addr} {T : Nat → GM} (h : GVO w lo hi a N T) (hk : Keeps w w' lo' hi') (hd : hi ≤ lo' ∨ hi' ≤ lo) : GVO w' lo hi a N T := by
  rcases h with h0 | ⟨b, q, e, h⟩
  · exact .inl h0
  · exact .inr ⟨b, q, e, h.keeps hk hd⟩

theorem GV.drew {w : World} {a : Option Addr} {N : Nat} {T : Nat → GM} (h : GV w a N T) : GV w.drew a N T := h.below (Below.refl _ _).drew

theorem GV.alloc {w : World} {a : Option Addr} {N : Nat} {T : Nat → GM} (h : GV w a N T) (o : Obj) : GV (w.alloc o) a N T := h.below ((Below.refl _ _).alloc (Nat.le_refl _) o)

theorem GVO.drew {w : World} {lo hi N : Nat} {a : Option Addr} {T : Nat → GM} (h : GVO w lo hi a N T) : GVO w.drew lo hi a N T := h.below (Below.refl _ _).drew

theorem GVO.alloc {w : World} {lo hi N : Nat} {a : Option Addr} {T : Nat → GM} (h : GVO w lo hi a N T) (o : Obj) : GVO (w.alloc o) lo hi a N T := h.below ((Below.refl _ _).alloc (Nat.le_refl _) o)
end Go.Proofs.Ytlelgfkebcnepaa

namespace Go.Proofs.Ytlelgfkebcnepaa
open Go.RowKit
set_option linter.unusedVariables false

def obG (f : Nat → Int) (y : Ob) : GM := ⟨y.at_, y.s, y.m, y.o, y.h, none, y.s.toNat, 0, fun k => f (y.at_.toNat + 2 + k)⟩

def gzero : GM := ⟨0, 0, 0, 0, 0, none, 0, 0, fun _ => 0⟩

def xT (f : Nat → Int) (x : Option Ob) : GM := match x with | none => gzero | some y => obG f y

def obT (f : Nat → Int) (L : List Ob) (i : Nat) : GM := xT f L[i]?

theorem GSame.tie {t u v : GM} (h1 : GSame t v) (h2 : GSame u v) : GSame t u := by
  obtain ⟨a1, a2, a3, a4, a5, a6, a7⟩ := h1
  obtain ⟨b1, b2, b3, b4, b5, b6, b7⟩ := h2
  exact ⟨a1.trans b1.symm, a2.trans b2.symm, a3.trans b3.symm, a4.trans b4.symm, a5.trans b5.symm, a6.trans b6.symm, fun k hk => (a7 k hk).trans (b7 k (by omega)).symm⟩

theorem GSame.refl (t : GM) : GSame t t := ⟨rfl, rfl, rfl, rfl, rfl, rfl, fun _ _ => rfl⟩

/-- A row of objects comes back, with a code. -/
def RetORG (W : World) (f : Nat → Int) (co : Int) (L : List Ob) (e : Ending) (w' : World) : Prop :=
  ∃ a c T, e = .returned (.agg #[.int .i64 co, .slice a L.length c]) ∧ GVO w' W.heap.size w'.heap.size a L.length T ∧ (∀ i, i < L.length → GSame (T i) (obT f L i)) ∧ Below W.heap.size W w' ∧ L.length ≤ c ∧ c ≤ maxLen

theorem row_cap {w : World} {base e size n c : Nat} {a : Option Addr} {xs : List Value} (h : w.ownsRow base e size (.slice a n c) n xs) : n ≤ c ∧ c ≤ maxLen := by
  rcases h.2 with ⟨h1, h2⟩ | ⟨g, cap, cur, h1, _, _, h4, h5, _⟩
  · simp only [Value.slice.injEq] at h1
    obtain ⟨_, rfl, rfl⟩ := h1
    exact ⟨Nat.le_refl _, Nat.zero_le _⟩
  · simp only [Value.slice.injEq] at h1
    obtain ⟨_, _, rfl⟩ := h1
    exact ⟨h4, h5⟩

theorem gvo_mono {w : World} {lo lo' hi N : Nat} {a : Option Addr} {T : Nat → GM} (h : GVO w lo hi a N T) (hl : lo' ≤ lo) : GVO w lo' hi a N T := by
  rcases h with h0 | ⟨b, q, e, h⟩
  · exact .inl h0
  · exact .inr ⟨b, q, e, Nat.le_trans hl h.glo, h.ghi, h.lt, h.six, h.free, fun i hi => (h.flds i hi).widen hl (Nat.le_refl _), h.off, h.apart⟩

theorem six_keeps (w : World) (B : Nat) (v0 v1 v2 v3 v4 v5 : Value) : Keeps w ((((((w.setCell ⟨B, 0, none⟩ v0).setCell ⟨B, 1, none⟩ v1).setCell ⟨B, 2, none⟩ v2).setCell ⟨B, 3, none⟩ v3).setCell ⟨B, 4, none⟩ v4).setCell ⟨B, 5, none⟩ v5) B (B + 1) := by
  refine Keeps.trans ?_ (keeps_setCell (p := ⟨B, 5, none⟩) (Nat.le_refl B) (Nat.lt_succ_self B) _)
  refine Keeps.trans ?_ (keeps_setCell (p := ⟨B, 4, none⟩) (Nat.le_refl B) (Nat.lt_succ_self B) _)
  refine Keeps.trans ?_ (keeps_setCell (p := ⟨B, 3, none⟩) (Nat.le_refl B) (Nat.lt_succ_self B) _)
  refine Keeps.trans ?_ (keeps_setCell (p := ⟨B, 2, none⟩) (Nat.le_refl B) (Nat.lt_succ_self B) _)
  refine Keeps.trans ?_ (keeps_setCell (p := ⟨B, 1, none⟩) (Nat.le_refl B) (Nat.lt_succ_self B) _)
  refine Keeps.trans ?_ (keeps_setCell (p := ⟨B, 0, none⟩) (Nat.le_refl B) (Nat.lt_succ_self B) _)
  exact Keeps.refl _ _ _

theorem blk_six {w : World} {b B : Nat} {cs : List Value} (h : Blk w b cs) (hne : b ≠ B) (v0 v1 v2 v3 v4 v5 : Value) : Blk ((((((w.setCell ⟨B, 0, none⟩ v0).setCell ⟨B, 1, none⟩ v1).setCell ⟨B, 2, none⟩ v2).setCell ⟨B, 3, none⟩ v3).setCell ⟨B, 4, none⟩ v4).setCell ⟨B, 5, none⟩ v5) b cs := h.keeps (six_keeps w B v0 v1 v2 v3 v4 v5) (by omega)

theorem blk_six_at {w : World} {B : Nat} {z0 z1 z2 z3 z4 z5 : Value} (h : Blk w B [z0, z1, z2, z3, z4, z5]) (v0 v1 v2 v3 v4 v5 : Value) : Blk ((((((w.setCell ⟨B, 0, none⟩ v0).setCell ⟨B, 1, none⟩ v1).setCell ⟨B, 2, none⟩ v2).setCell ⟨B, 3, none⟩ v3).setCell ⟨B, 4, none⟩ v4).setCell ⟨B, 5, none⟩ v5) B [v0, v1, v2, v3, v4, v5] :=
  (((((h.set 0 (by simp) v0).set 1 (by simp) v1).set 2 (by simp) v2).set 3 (by simp) v3).set 4 (by simp) v4).set 5 (by simp) v5

theorem isPO_small {h : Int} {n : Nat} {f : Nat → Int} {ac bu s m o hh : Int} {r : AR} (hk : IsPO h n f ac bu s m o hh r) : r.n ≤ 400 := by
  rcases hk with ⟨_, _, _, rfl⟩ | ⟨_, _, rfl⟩ | ⟨_, _, _, rfl⟩ | ⟨hk, _, _, rfl⟩
  · exact Nat.zero_le _
  · exact Nat.zero_le _
  · exact Nat.zero_le _
  · obtain ⟨L, ho⟩ := isSF_zero hk
    obtain ⟨⟨⟨g1, g2⟩, _, _⟩, gn, _⟩ := isFault_ok (isOI_zero ho).1
    show n ≤ 400; omega

/-- What is owed of the program's function. -/
def ImplSF : Prop := ∀ (h ac bu : Int) (a : Option Addr) (n c : Nat) (f : Nat → Int) (k : Int) (w : World), Src w a n f → n ≤ c → c ≤ maxLen → IsSF h n f ac bu k → Calls Try.prog 23 #[.agg #[.int .i64 h, .slice a n c, .int .i64 ac, .int .i64 bu]] w (fun e w' => e = .returned (.int .i64 k) ∧ Below w.heap.size w w')

/-- What is owed of the program's function. -/
def ImplOI : Prop := ∀ (h ac bu : Int) (a : Option Addr) (n c : Nat) (f : Nat → Int) (co : Int) (L : List Ob) (w : World), Src w a n f → n ≤ c → c ≤ maxLen → IsOI h n f ac bu co L → Calls Try.prog 16 #[.agg #[.int .i64 h, .slice a n c, .int .i64 ac, .int .i64 bu]] w (RetORG w f co L)

/-- What is owed of the program's function. -/
def ImplPO : Prop := ∀ (h ac bu : Int) (a : Option Addr) (n c : Nat) (f : Nat → Int) (s m o hh : Int) (r : AR) (w : World), Src w a n f → n ≤ c → c ≤ maxLen → IsPO h n f ac bu s m o hh r → Calls Try.prog 14 #[.agg #[.int .i64 h, .slice a n c, .int .i64 ac, .int .i64 bu], .agg #[.int .i64 s, .int .i64 m, .int .i64 o, .int .i64 hh]] w (RetRes w r)
end Go.Proofs.Ytlelgfkebcnepaa

namespace Go.Proofs.Ytlelgfkebcnepaa
open Go.RowKit
set_option linter.unusedVariables false

/-- The objects stand one behind the other. -/
theorem parse_from {f : Nat → Int} {e : Nat} : ∀ (d a : Nat) (L : List Ob), e - a ≤ d → parse f e a = some L → ∀ x ∈ L, a ≤ x.at_.toNat ∧ 0 ≤ x.at_
  | 0, a, L, hd, hp, x, hx => by
    rw [parse_stop (by omega)] at hp
    cases hp; cases hx
  | d + 1, a, L, hd, hp, x, hx => by
    by_cases h : a < e
    · by_cases hg : Good f e a
      · rw [parse_good h hg] at hp
        obtain ⟨L', hp', rfl⟩ := Option.map_eq_some_iff.mp hp
        rcases List.mem_cons.mp hx with rfl | hx
        · simp [objAt]
        · have := parse_from d _ L' (by omega) hp' x hx
          exact ⟨by omega, this.2⟩
      · rw [parse_bad h hg] at hp; cases hp
    · rw [parse_stop h] at hp
      cases hp; cases hx

theorem isSF_shape {h : Int} {n : Nat} {f : Nat → Int} {ac bu : Int} {L : List Ob} (hk : IsSF h n f ac bu 0) (ho : IsOI h n f ac bu 0 L) : Points f L ∧ Rest f n (baseI ac h).toNat bu.toNat := by
  rcases hk with ⟨_, _, h0⟩ | ⟨_, _, _, h0⟩ | ⟨L', ho', hs, _⟩
  · exact absurd rfl h0
  · cases h0
  · have e := (isOI_zero ho').2.symm.trans (isOI_zero ho).2
    cases e
    rcases hs with ⟨h1, h2, _⟩ | ⟨_, h0⟩
    · exact ⟨h1, h2⟩
    · cases h0
end Go.Proofs.Ytlelgfkebcnepaa

namespace Go.Proofs.Ytlelgfkebcnepaa
open Go.ChangeShapes Go.WideShapes Go.ChangeAt Go.RowKit Go.Joins Go.Deep
set_option linter.unusedVariables false

instance : Inhabited GM := ⟨gzero⟩
end Go.Proofs.Ytlelgfkebcnepaa

namespace Go.Proofs.Ytlelgfkebcnepaa
open Go.RowKit
set_option linter.unusedVariables false

set_option maxHeartbeats 400000 in
theorem e8_far (h ac bu : Int) (a : Option Addr) (n c : Nat) (s m o hh : Int) (w : World) (hn : n ≤ maxLen) (hbig : 1048576 < n) :
    Calls Try.prog 8 #[.agg #[.int .i64 h, .slice a n c, .int .i64 ac, .int .i64 bu], .agg #[.int .i64 s, .int .i64 m, .int .i64 o, .int .i64 hh]] w (RetBool w true) := by
  go_enter Try.func8, Try.ntmps8
  go_wp2_with (go_at_call 33; (with_reducible refine (szArena_no _ _ _ _ _ _ _ _ (by omega) (by omega) hn (by omega)).mono ?_); rintro e w1 ⟨rfl, hb⟩; obtain ⟨hc, hf⟩ := bcell hb; have HB := Lib.hid hb; have hz := hb.size; clear hb)
  go_ret
  exact ⟨rfl, (((Below.refl _ _).alloc (Nat.le_refl _) _).alloc (by simp) _).trans (HB.out.mono (by simp; try omega))⟩

set_option maxHeartbeats 3200000 in
theorem e8_near (HI : ImplPO) (h ac bu : Int) (a : Option Addr) (n c : Nat) (f : Nat → Int) (s m o hh : Int) (w : World) (hs : Src w a n f) (hbig : n ≤ 1048576) :
    Calls Try.prog 8 #[.agg #[.int .i64 h, .slice a n c, .int .i64 ac, .int .i64 bu], .agg #[.int .i64 s, .int .i64 m, .int .i64 o, .int .i64 hh]] w (RetBool w true) := by
  obtain ⟨⟨co, h1, n1, f1, ac1, bu1, at1⟩, hr⟩ := isPO_some h n f ac bu s m o hh
  have hn1 : n1 ≤ 1048576 := Nat.le_trans (isPO_small hr) (by omega)
  have HR := Lib.hid hr
  have HS := Lib.hid hs
  clear hr hs
  have HS0 := HS
  go_enter Try.func8, Try.ntmps8
  go_wp2_with fail
  refine (szArena_ok _ _ _ _ _ _ _ _ (by omega) (by omega) (by unfold maxLen; omega) (by omega)).mono ?_
  rintro e w1 ⟨rfl, hb⟩
  have HB1 : Hid (Below w.heap.size w w1) := thru2 (Below.refl _ _) hb
  have z1 : w.heap.size + 2 ≤ w1.heap.size := by have := hb.size; simp at this; omega
  have HS_1 := Lib.hid (((HS.out.alloc _).alloc _).below hb)
  have A_1 := Lib.hid (((Blk.new_at (w.heap.size) (by simp)).alloc _).below hb)
  have HD_1 := Lib.hid ((Blk.new_at (w.heap.size + 1) (by simp)).below hb)
  clear hb HS
  go_upto_region 5 with (fail)
  go_cut [6] (fun sW wx => ∃ (bN : Nat) (uN : Option Addr) (cN lN hN : Nat), sW = .pointer (some ⟨bN, 0, none⟩) ∧ (w.heap.size + 2 ≤ bN ∧ bN < wx.heap.size) ∧ (w.heap.size + 2 ≤ lN ∧ hN ≤ wx.heap.size ∧ (bN < lN ∨ hN ≤ bN)) ∧ Hid (Below w.heap.size w wx) ∧ Hid (Blk wx (w.heap.size) [.int .i64 h, .slice a n c, .int .i64 ac, .int .i64 bu]) ∧ Hid (Blk wx (w.heap.size + 1) [.int .i64 s, .int .i64 m, .int .i64 o, .int .i64 hh]) ∧ Hid (Src wx a n f) ∧ Hid (Blk wx bN [.int .i64 co, .int .i64 h1, .slice uN n1 cN, .int .i64 ac1, .int .i64 bu1, .int .i64 at1]) ∧ Hid (OwnIn wx lN hN uN n1 f1))
  case first =>
    have A_d := Lib.hid A_1.out.drew; have HD_d := Lib.hid HD_1.out.drew; have HS_d := Lib.hid HS_1.out.drew; have HB_d := Lib.hid HB1.out.drew
    go_region_held3 (fun w' => w'.cell? ⟨w.heap.size, 0, none⟩ = some (.int .i64 h) ∧ w'.cell? ⟨w.heap.size, 1, none⟩ = some (.slice a n c) ∧ w'.cell? ⟨w.heap.size, 2, none⟩ = some (.int .i64 ac) ∧ w'.cell? ⟨w.heap.size, 3, none⟩ = some (.int .i64 bu) ∧ w'.cell? ⟨w.heap.size + 1, 0, none⟩ = some (.int .i64 s) ∧ w'.cell? ⟨w.heap.size + 1, 1, none⟩ = some (.int .i64 m) ∧ w'.cell? ⟨w.heap.size + 1, 2, none⟩ = some (.int .i64 o) ∧ w'.cell? ⟨w.heap.size + 1, 3, none⟩ = some (.int .i64 hh))
      (first | (with_reducible exact ⟨(A_d.out).at 0 rfl, (A_d.out).at 1 rfl, (A_d.out).at 2 rfl, (A_d.out).at 3 rfl, (HD_d.out).at 0 rfl, (HD_d.out).at 1 rfl, (HD_d.out).at 2 rfl, (HD_d.out).at 3 rfl⟩) | (with_reducible exact ⟨(A_d.out.alloc _).at 0 rfl, (A_d.out.alloc _).at 1 rfl, (A_d.out.alloc _).at 2 rfl, (A_d.out.alloc _).at 3 rfl, (HD_d.out.alloc _).at 0 rfl, (HD_d.out.alloc _).at 1 rfl, (HD_d.out.alloc _).at 2 rfl, (HD_d.out.alloc _).at 3 rfl⟩) | (with_reducible exact ⟨((A_1.out.alloc _).drew).at 0 rfl, ((A_1.out.alloc _).drew).at 1 rfl, ((A_1.out.alloc _).drew).at 2 rfl, ((A_1.out.alloc _).drew).at 3 rfl, ((HD_1.out.alloc _).drew).at 0 rfl, ((HD_1.out.alloc _).drew).at 1 rfl, ((HD_1.out.alloc _).drew).at 2 rfl, ((HD_1.out.alloc _).drew).at 3 rfl⟩) | (with_reducible exact ⟨(A_2.out).at 0 rfl, (A_2.out).at 1 rfl, (A_2.out).at 2 rfl, (A_2.out).at 3 rfl, (HD_2.out).at 0 rfl, (HD_2.out).at 1 rfl, (HD_2.out).at 2 rfl, (HD_2.out).at 3 rfl⟩) | (with_reducible exact ⟨(A_2.out.alloc _).at 0 rfl, (A_2.out.alloc _).at 1 rfl, (A_2.out.alloc _).at 2 rfl, (A_2.out.alloc _).at 3 rfl, (HD_2.out.alloc _).at 0 rfl, (HD_2.out.alloc _).at 1 rfl, (HD_2.out.alloc _).at 2 rfl, (HD_2.out.alloc _).at 3 rfl⟩) | (with_reducible exact ⟨(A_3.out).at 0 rfl, (A_3.out).at 1 rfl, (A_3.out).at 2 rfl, (A_3.out).at 3 rfl, (HD_3.out).at 0 rfl, (HD_3.out).at 1 rfl, (HD_3.out).at 2 rfl, (HD_3.out).at 3 rfl⟩) | (with_reducible exact ⟨(A_3.out.alloc _).at 0 rfl, (A_3.out.alloc _).at 1 rfl, (A_3.out.alloc _).at 2 rfl, (A_3.out.alloc _).at 3 rfl, (HD_3.out.alloc _).at 0 rfl, (HD_3.out.alloc _).at 1 rfl, (HD_3.out.alloc _).at 2 rfl, (HD_3.out.alloc _).at 3 rfl⟩) | (with_reducible exact ⟨(A_4.out).at 0 rfl, (A_4.out).at 1 rfl, (A_4.out).at 2 rfl, (A_4.out).at 3 rfl, (HD_4.out).at 0 rfl, (HD_4.out).at 1 rfl, (HD_4.out).at 2 rfl, (HD_4.out).at 3 rfl⟩) | (with_reducible exact ⟨(A_4.out.alloc _).at 0 rfl, (A_4.out.alloc _).at 1 rfl, (A_4.out.alloc _).at 2 rfl, (A_4.out.alloc _).at 3 rfl, (HD_4.out.alloc _).at 0 rfl, (HD_4.out.alloc _).at 1 rfl, (HD_4.out.alloc _).at 2 rfl, (HD_4.out.alloc _).at 3 rfl⟩) | (with_reducible exact ⟨(blk_six A_4.out (by omega) _ _ _ _ _ _).at 0 rfl, (blk_six A_4.out (by omega) _ _ _ _ _ _).at 1 rfl, (blk_six A_4.out (by omega) _ _ _ _ _ _).at 2 rfl, (blk_six A_4.out (by omega) _ _ _ _ _ _).at 3 rfl, (blk_six HD_4.out (by omega) _ _ _ _ _ _).at 0 rfl, (blk_six HD_4.out (by omega) _ _ _ _ _ _).at 1 rfl, (blk_six HD_4.out (by omega) _ _ _ _ _ _).at 2 rfl, (blk_six HD_4.out (by omega) _ _ _ _ _ _).at 3 rfl⟩))
      (first | (go_at_call 34; refine (toArena_any _ _ _ _ _ _ f _ (HS_d.out.ext (by first | exact .inl rfl | exact ext_drew _ _ | exact .inr ⟨_, rfl⟩)) hbig).mono ?_; rintro e w2 ⟨u2, c2, rfl, ho, hb, hc2, hcm2, hn2⟩; have HB2 := Lib.hid (thru0 (below_ext HB_d.out (by first | exact .inl rfl | exact ext_drew _ _ | exact .inr ⟨_, rfl⟩)) hb); have z2 : w1.heap.size ≤ w2.heap.size := (by have := hb.size; (try simp at this); omega); have A_2 := Lib.hid ((A_d.out.ext (by first | exact .inl rfl | exact ext_drew _ _ | exact .inr ⟨_, rfl⟩)).below hb); have HD_2 := Lib.hid ((HD_d.out.ext (by first | exact .inl rfl | exact ext_drew _ _ | exact .inr ⟨_, rfl⟩)).below hb); have HS_2 := Lib.hid ((HS_d.out.ext (by first | exact .inl rfl | exact ext_drew _ _ | exact .inr ⟨_, rfl⟩)).below hb); have RA_2 := Lib.hid ho.into; (first | (have W_2 := Lib.hid ((Blk.new_at (w := w1) (cs := #[.int .i64 0, .int .i64 0, .slice none 0 0, .int .i64 0, .int .i64 0, .int .i64 0]) (t := 32) (w1.heap.size) rfl).drew.below hb)) | (have W_2 := Lib.hid ((Blk.new_at (w := w1.drew) (cs := #[.int .i64 0, .int .i64 0, .slice none 0 0, .int .i64 0, .int .i64 0, .int .i64 0]) (t := 32) (w1.heap.size) rfl).below hb)) | skip); (first | (have lW2 := W_2.out.1) | skip); clear hb ho) | (go_at_call 43; refine (toHead_any s m o hh _).mono ?_; rintro e w3 ⟨rfl, hb⟩; have HB3 := Lib.hid (thru0 (below_ext HB2.out (by first | exact .inl rfl | exact ext_drew _ _ | exact .inr ⟨_, rfl⟩)) hb); have z3 : w2.heap.size ≤ w3.heap.size := (by have := hb.size; (try simp at this); omega); have A_3 := Lib.hid ((A_2.out.ext (by first | exact .inl rfl | exact ext_drew _ _ | exact .inr ⟨_, rfl⟩)).below hb); have HD_3 := Lib.hid ((HD_2.out.ext (by first | exact .inl rfl | exact ext_drew _ _ | exact .inr ⟨_, rfl⟩)).below hb); have HS_3 := Lib.hid ((HS_2.out.ext (by first | exact .inl rfl | exact ext_drew _ _ | exact .inr ⟨_, rfl⟩)).below hb); have RA_3 := Lib.hid ((RA_2.out.ext (by first | exact .inl rfl | exact ext_drew _ _ | exact .inr ⟨_, rfl⟩)).below hb); (first | (have W_3 := Lib.hid (W_2.out.below hb)) | (have W_3 := Lib.hid ((Blk.new_at (w := w2) (cs := #[.int .i64 0, .int .i64 0, .slice none 0 0, .int .i64 0, .int .i64 0, .int .i64 0]) (t := 32) (w2.heap.size) rfl).below hb)) | skip); (first | (have lW3 := W_3.out.1) | skip); clear hb) | (go_at_call 19; refine (specPO_any _ _ _ _ _ _ _ _ _ _ f _ _ (RA_3.out.ext (by first | exact .inl rfl | exact ext_drew _ _ | exact .inr ⟨_, rfl⟩)).src hc2 hcm2 HR.out).mono ?_; rintro e w4 ⟨u4, c4, rfl, ho, hb⟩; have HB4 := Lib.hid (thru0 (below_ext HB3.out (by first | exact .inl rfl | exact ext_drew _ _ | exact .inr ⟨_, rfl⟩)) hb); have z4 : w3.heap.size ≤ w4.heap.size := (by have := hb.size; (try simp at this); omega); have A_4 := Lib.hid ((A_3.out.ext (by first | exact .inl rfl | exact ext_drew _ _ | exact .inr ⟨_, rfl⟩)).below hb); have HD_4 := Lib.hid ((HD_3.out.ext (by first | exact .inl rfl | exact ext_drew _ _ | exact .inr ⟨_, rfl⟩)).below hb); have HS_4 := Lib.hid ((HS_3.out.ext (by first | exact .inl rfl | exact ext_drew _ _ | exact .inr ⟨_, rfl⟩)).below hb); have RA_4 := Lib.hid ((RA_3.out.ext (by first | exact .inl rfl | exact ext_drew _ _ | exact .inr ⟨_, rfl⟩)).below hb); have RW_4 := Lib.hid ho; (first | (have W_4 := Lib.hid (W_3.out.below hb)) | (have W_4 := Lib.hid ((Blk.new_at (w := w3) (cs := #[.int .i64 0, .int .i64 0, .slice none 0 0, .int .i64 0, .int .i64 0, .int .i64 0]) (t := 32) (w3.heap.size) rfl).below hb)) | skip); (first | (have lW4 := W_4.out.1) | skip); (first | (have lW := W_4.out.1; have cW0 := W_4.out.at 0 rfl; have fW0 := W_4.out.free 0 rfl; have cW1 := W_4.out.at 1 rfl; have fW1 := W_4.out.free 1 rfl; have cW2 := W_4.out.at 2 rfl; have fW2 := W_4.out.free 2 rfl; have cW3 := W_4.out.at 3 rfl; have fW3 := W_4.out.free 3 rfl; have cW4 := W_4.out.at 4 rfl; have fW4 := W_4.out.free 4 rfl; have cW5 := W_4.out.at 5 rfl; have fW5 := W_4.out.free 5 rfl) | skip); clear hb ho))
    · go_wp2_with fail
      go_meet
      refine ⟨_, u4, c4, w3.heap.size, w4.heap.size, rfl, ⟨by omega, by simp⟩, ⟨by omega, by (try simp), by omega⟩, ?_, ?_, ?_, ?_, ?_, ?_⟩
      · exact HB4.out.alloc HB4.out.size _
      · exact A_4.out.alloc _
      · exact HD_4.out.alloc _
      · exact HS_4.out.alloc _
      · exact Blk.new_at _ rfl
      · exact (RW_4.out.mono (B' := w3.heap.size) (by (try simp); (try omega))).into.alloc _
    · go_wp2_with fail
      go_meet
      refine ⟨_, u4, c4, (w3.heap.size + 1), w4.heap.size, rfl, ⟨by omega, by simp; omega⟩, ⟨by omega, by (try simp), by omega⟩, ?_, ?_, ?_, ?_, ?_, ?_⟩
      · exact HB4.out.trans ((six_keeps _ _ _ _ _ _ _ _).below (by omega) HB4.out.size)
      · exact blk_six A_4.out (by omega) _ _ _ _ _ _
      · exact blk_six HD_4.out (by omega) _ _ _ _ _ _
      · exact HS0.out.below (HB4.out.trans ((six_keeps _ _ _ _ _ _ _ _).below (by omega) HB4.out.size))
      · exact blk_six_at W_4.out _ _ _ _ _ _
      · exact (RW_4.out.mono (B' := (w3.heap.size + 1)) (by (try simp); (try omega))).into.keeps (six_keeps _ _ _ _ _ _ _ _) (by (try simp); (try omega))
    · go_wp2_with fail
      go_meet
      refine ⟨_, u4, c4, w3.heap.size, w4.heap.size, rfl, ⟨by omega, by simp; omega⟩, ⟨by omega, by (try simp), by omega⟩, ?_, ?_, ?_, ?_, ?_, ?_⟩
      · exact HB4.out.trans ((six_keeps _ _ _ _ _ _ _ _).below (by omega) HB4.out.size)
      · exact blk_six A_4.out (by omega) _ _ _ _ _ _
      · exact blk_six HD_4.out (by omega) _ _ _ _ _ _
      · exact HS0.out.below (HB4.out.trans ((six_keeps _ _ _ _ _ _ _ _).below (by omega) HB4.out.size))
      · exact blk_six_at W_4.out _ _ _ _ _ _
      · exact (RW_4.out.mono (B' := w3.heap.size) (by (try simp); (try omega))).into.keeps (six_keeps _ _ _ _ _ _ _ _) (by (try simp); (try omega))
    · go_wp2_with fail
      go_meet
      refine ⟨_, u4, c4, w3.heap.size, w4.heap.size, rfl, ⟨by omega, by simp; omega⟩, ⟨by omega, by (try simp), by omega⟩, ?_, ?_, ?_, ?_, ?_, ?_⟩
      · exact HB4.out.trans ((six_keeps _ _ _ _ _ _ _ _).below (by omega) HB4.out.size)
      · exact blk_six A_4.out (by omega) _ _ _ _ _ _
      · exact blk_six HD_4.out (by omega) _ _ _ _ _ _
      · exact HS0.out.below (HB4.out.trans ((six_keeps _ _ _ _ _ _ _ _).below (by omega) HB4.out.size))
      · exact blk_six_at W_4.out _ _ _ _ _ _
      · exact (RW_4.out.mono (B' := w3.heap.size) (by (try simp); (try omega))).into.keeps (six_keeps _ _ _ _ _ _ _ _) (by (try simp); (try omega))
  case rest =>
    obtain ⟨bW, u5, c5, lo5, hi5, rfl, ⟨hlo5, hhi5⟩, ⟨hx5, hy5, hsep5⟩, HB5, A_5, HD_5, HS_5, WK_5, RW_5⟩ := hcut
    clear HB1 HS_1 A_1 HD_1
    rename World => w5
    have lA := A_5.out.1
    have cA0 := A_5.out.at 0 rfl
    have cA1 := A_5.out.at 1 rfl
    have cA2 := A_5.out.at 2 rfl
    have cA3 := A_5.out.at 3 rfl
    go_wp2_with fail
    refine (toArena_any _ _ _ _ _ _ f _ HS_5.out hbig).mono ?_
    rintro e w6 ⟨u6, c6, rfl, ho, hb, hc6, hcm6, hn6⟩
    have HB6 : Hid (Below w.heap.size w w6) := thru0 HB5.out hb
    have z6 : w5.heap.size ≤ w6.heap.size := hb.size
    have A_6 := Lib.hid (A_5.out.below hb)
    have HD_6 := Lib.hid (HD_5.out.below hb)
    have HS_6 := Lib.hid (HS_5.out.below hb)
    have WK_6 := Lib.hid (WK_5.out.below hb)
    have RW_6 := Lib.hid (RW_5.out.below hb)
    have RX_6 : Hid (OwnIn w6 w5.heap.size w6.heap.size u6 n f) := ho.into
    clear hb lA cA0 cA1 cA2 cA3 A_5 HD_5 HS_5 WK_5 RW_5 HB5 ho
    go_upto_region 7 with (fail)
    have A_7 := Lib.hid (A_6.out.alloc (.cells #[.int .i64 h, .slice u6 n c6, .int .i64 ac, .int .i64 bu] 26))
    have HD_7 := Lib.hid (HD_6.out.alloc (.cells #[.int .i64 h, .slice u6 n c6, .int .i64 ac, .int .i64 bu] 26))
    have HS_7 := Lib.hid (HS_6.out.alloc (.cells #[.int .i64 h, .slice u6 n c6, .int .i64 ac, .int .i64 bu] 26))
    have WK_7 := Lib.hid (WK_6.out.alloc (.cells #[.int .i64 h, .slice u6 n c6, .int .i64 ac, .int .i64 bu] 26))
    have RW_7 := Lib.hid (RW_6.out.alloc (.cells #[.int .i64 h, .slice u6 n c6, .int .i64 ac, .int .i64 bu] 26))
    have RX_7 := Lib.hid (RX_6.out.alloc (.cells #[.int .i64 h, .slice u6 n c6, .int .i64 ac, .int .i64 bu] 26))
    have X_7 : Hid (Blk (w6.alloc (.cells #[.int .i64 h, .slice u6 n c6, .int .i64 ac, .int .i64 bu] 26)) (w6.heap.size) [.int .i64 h, .slice u6 n c6, .int .i64 ac, .int .i64 bu]) := Lib.hid (Blk.new_at (w := w6) (w6.heap.size) rfl)
    have HB7 : Hid (Below w.heap.size w (w6.alloc (.cells #[.int .i64 h, .slice u6 n c6, .int .i64 ac, .int .i64 bu] 26))) := Lib.hid (HB6.out.alloc (by have := HB6.out.size; simp; try omega) (.cells #[.int .i64 h, .slice u6 n c6, .int .i64 ac, .int .i64 bu] 26))
    have z7 : w6.heap.size + 1 ≤ (w6.alloc (.cells #[.int .i64 h, .slice u6 n c6, .int .i64 ac, .int .i64 bu] 26)).heap.size := by simp
    clear HB6 A_6 HD_6 HS_6 WK_6 RW_6 RX_6
    generalize (w6.alloc (.cells #[.int .i64 h, .slice u6 n c6, .int .i64 ac, .int .i64 bu] 26)) = w7 at *
    go_cut [8] (fun sW wx => ∃ (bN : Nat) (uN : Option Addr) (cN lN hN : Nat), sW = .pointer (some ⟨bN, 0, none⟩) ∧ (w7.heap.size ≤ bN ∧ bN < wx.heap.size) ∧ (w7.heap.size ≤ lN ∧ hN ≤ wx.heap.size ∧ (bN < lN ∨ hN ≤ bN)) ∧ Hid (Below w.heap.size w wx) ∧ Hid (Blk wx (w6.heap.size) [.int .i64 h, .slice u6 n c6, .int .i64 ac, .int .i64 bu]) ∧ Hid (Blk wx (w.heap.size + 1) [.int .i64 s, .int .i64 m, .int .i64 o, .int .i64 hh]) ∧ Hid (Blk wx w.heap.size [.int .i64 h, .slice a n c, .int .i64 ac, .int .i64 bu]) ∧ Hid (Blk wx bW [.int .i64 co, .int .i64 h1, .slice u5 n1 c5, .int .i64 ac1, .int .i64 bu1, .int .i64 at1]) ∧ Hid (Src wx a n f) ∧ Hid (OwnIn wx lo5 hi5 u5 n1 f1) ∧ Hid (OwnIn wx w5.heap.size w6.heap.size u6 n f) ∧ Hid (Blk wx bN [.int .i64 co, .int .i64 h1, .slice uN n1 cN, .int .i64 ac1, .int .i64 bu1, .int .i64 at1]) ∧ Hid (OwnIn wx lN hN uN n1 f1))
    case first =>
      have X_d := Lib.hid X_7.out.drew; have HD_d := Lib.hid HD_7.out.drew; have A_d := Lib.hid A_7.out.drew; have WK_d := Lib.hid WK_7.out.drew; have HS_d := Lib.hid HS_7.out.drew; have RW_d := Lib.hid RW_7.out.drew; have RX_d := Lib.hid RX_7.out.drew; have HB_d := Lib.hid HB7.out.drew
      go_region_held3 (fun w' => w'.cell? ⟨w6.heap.size, 0, none⟩ = some (.int .i64 h) ∧ w'.cell? ⟨w6.heap.size, 1, none⟩ = some (.slice u6 n c6) ∧ w'.cell? ⟨w6.heap.size, 2, none⟩ = some (.int .i64 ac) ∧ w'.cell? ⟨w6.heap.size, 3, none⟩ = some (.int .i64 bu) ∧ w'.cell? ⟨w.heap.size + 1, 0, none⟩ = some (.int .i64 s) ∧ w'.cell? ⟨w.heap.size + 1, 1, none⟩ = some (.int .i64 m) ∧ w'.cell? ⟨w.heap.size + 1, 2, none⟩ = some (.int .i64 o) ∧ w'.cell? ⟨w.heap.size + 1, 3, none⟩ = some (.int .i64 hh))
        (first | (with_reducible exact ⟨(X_d.out).at 0 rfl, (X_d.out).at 1 rfl, (X_d.out).at 2 rfl, (X_d.out).at 3 rfl, (HD_d.out).at 0 rfl, (HD_d.out).at 1 rfl, (HD_d.out).at 2 rfl, (HD_d.out).at 3 rfl⟩) | (with_reducible exact ⟨(X_d.out.alloc _).at 0 rfl, (X_d.out.alloc _).at 1 rfl, (X_d.out.alloc _).at 2 rfl, (X_d.out.alloc _).at 3 rfl, (HD_d.out.alloc _).at 0 rfl, (HD_d.out.alloc _).at 1 rfl, (HD_d.out.alloc _).at 2 rfl, (HD_d.out.alloc _).at 3 rfl⟩) | (with_reducible exact ⟨((X_7.out.alloc _).drew).at 0 rfl, ((X_7.out.alloc _).drew).at 1 rfl, ((X_7.out.alloc _).drew).at 2 rfl, ((X_7.out.alloc _).drew).at 3 rfl, ((HD_7.out.alloc _).drew).at 0 rfl, ((HD_7.out.alloc _).drew).at 1 rfl, ((HD_7.out.alloc _).drew).at 2 rfl, ((HD_7.out.alloc _).drew).at 3 rfl⟩) | (with_reducible exact ⟨(X_8.out).at 0 rfl, (X_8.out).at 1 rfl, (X_8.out).at 2 rfl, (X_8.out).at 3 rfl, (HD_8.out).at 0 rfl, (HD_8.out).at 1 rfl, (HD_8.out).at 2 rfl, (HD_8.out).at 3 rfl⟩) | (with_reducible exact ⟨(X_8.out.alloc _).at 0 rfl, (X_8.out.alloc _).at 1 rfl, (X_8.out.alloc _).at 2 rfl, (X_8.out.alloc _).at 3 rfl, (HD_8.out.alloc _).at 0 rfl, (HD_8.out.alloc _).at 1 rfl, (HD_8.out.alloc _).at 2 rfl, (HD_8.out.alloc _).at 3 rfl⟩) | (with_reducible exact ⟨(X_9.out).at 0 rfl, (X_9.out).at 1 rfl, (X_9.out).at 2 rfl, (X_9.out).at 3 rfl, (HD_9.out).at 0 rfl, (HD_9.out).at 1 rfl, (HD_9.out).at 2 rfl, (HD_9.out).at 3 rfl⟩) | (with_reducible exact ⟨(X_9.out.alloc _).at 0 rfl, (X_9.out.alloc _).at 1 rfl, (X_9.out.alloc _).at 2 rfl, (X_9.out.alloc _).at 3 rfl, (HD_9.out.alloc _).at 0 rfl, (HD_9.out.alloc _).at 1 rfl, (HD_9.out.alloc _).at 2 rfl, (HD_9.out.alloc _).at 3 rfl⟩) | (with_reducible exact ⟨(blk_six X_9.out (by omega) _ _ _ _ _ _).at 0 rfl, (blk_six X_9.out (by omega) _ _ _ _ _ _).at 1 rfl, (blk_six X_9.out (by omega) _ _ _ _ _ _).at 2 rfl, (blk_six X_9.out (by omega) _ _ _ _ _ _).at 3 rfl, (blk_six HD_9.out (by omega) _ _ _ _ _ _).at 0 rfl, (blk_six HD_9.out (by omega) _ _ _ _ _ _).at 1 rfl, (blk_six HD_9.out (by omega) _ _ _ _ _ _).at 2 rfl, (blk_six HD_9.out (by omega) _ _ _ _ _ _).at 3 rfl⟩))
        (first | (go_at_call 43; refine (toHead_any s m o hh _).mono ?_; rintro e w8 ⟨rfl, hb⟩; have HB8 := Lib.hid (thru0 (below_ext HB_d.out (by first | exact .inl rfl | exact ext_drew _ _ | exact .inr ⟨_, rfl⟩)) hb); have z8 : w7.heap.size ≤ w8.heap.size := (by have := hb.size; (try simp at this); omega); have X_8 := Lib.hid ((X_d.out.ext (by first | exact .inl rfl | exact ext_drew _ _ | exact .inr ⟨_, rfl⟩)).below hb); have HD_8 := Lib.hid ((HD_d.out.ext (by first | exact .inl rfl | exact ext_drew _ _ | exact .inr ⟨_, rfl⟩)).below hb); have A_8 := Lib.hid ((A_d.out.ext (by first | exact .inl rfl | exact ext_drew _ _ | exact .inr ⟨_, rfl⟩)).below hb); have WK_8 := Lib.hid ((WK_d.out.ext (by first | exact .inl rfl | exact ext_drew _ _ | exact .inr ⟨_, rfl⟩)).below hb); have HS_8 := Lib.hid ((HS_d.out.ext (by first | exact .inl rfl | exact ext_drew _ _ | exact .inr ⟨_, rfl⟩)).below hb); have RW_8 := Lib.hid ((RW_d.out.ext (by first | exact .inl rfl | exact ext_drew _ _ | exact .inr ⟨_, rfl⟩)).below hb); have RX_8 := Lib.hid ((RX_d.out.ext (by first | exact .inl rfl | exact ext_drew _ _ | exact .inr ⟨_, rfl⟩)).below hb); (first | (have W_8 := Lib.hid ((Blk.new_at (w := w7) (cs := #[.int .i64 0, .int .i64 0, .slice none 0 0, .int .i64 0, .int .i64 0, .int .i64 0]) (t := 32) (w7.heap.size) rfl).drew.below hb)) | (have W_8 := Lib.hid ((Blk.new_at (w := w7.drew) (cs := #[.int .i64 0, .int .i64 0, .slice none 0 0, .int .i64 0, .int .i64 0, .int .i64 0]) (t := 32) (w7.heap.size) rfl).below hb)) | skip); (first | (have lW8 := W_8.out.1) | skip); clear hb) | (go_at_call 14; refine (HI _ _ _ _ _ _ f _ _ _ _ _ _ (RX_8.out.ext (by first | exact .inl rfl | exact ext_drew _ _ | exact .inr ⟨_, rfl⟩)).src hc6 hcm6 HR.out).mono ?_; rintro e w9 ⟨u9, c9, rfl, ho, hb⟩; have HB9 := Lib.hid (thru0 (below_ext HB8.out (by first | exact .inl rfl | exact ext_drew _ _ | exact .inr ⟨_, rfl⟩)) hb); have z9 : w8.heap.size ≤ w9.heap.size := (by have := hb.size; (try simp at this); omega); have X_9 := Lib.hid ((X_8.out.ext (by first | exact .inl rfl | exact ext_drew _ _ | exact .inr ⟨_, rfl⟩)).below hb); have HD_9 := Lib.hid ((HD_8.out.ext (by first | exact .inl rfl | exact ext_drew _ _ | exact .inr ⟨_, rfl⟩)).below hb); have A_9 := Lib.hid ((A_8.out.ext (by first | exact .inl rfl | exact ext_drew _ _ | exact .inr ⟨_, rfl⟩)).below hb); have WK_9 := Lib.hid ((WK_8.out.ext (by first | exact .inl rfl | exact ext_drew _ _ | exact .inr ⟨_, rfl⟩)).below hb); have HS_9 := Lib.hid ((HS_8.out.ext (by first | exact .inl rfl | exact ext_drew _ _ | exact .inr ⟨_, rfl⟩)).below hb); have RW_9 := Lib.hid ((RW_8.out.ext (by first | exact .inl rfl | exact ext_drew _ _ | exact .inr ⟨_, rfl⟩)).below hb); have RX_9 := Lib.hid ((RX_8.out.ext (by first | exact .inl rfl | exact ext_drew _ _ | exact .inr ⟨_, rfl⟩)).below hb); have RG_9 := Lib.hid ho; (first | (have W_9 := Lib.hid (W_8.out.below hb)) | (have W_9 := Lib.hid ((Blk.new_at (w := w8) (cs := #[.int .i64 0, .int .i64 0, .slice none 0 0, .int .i64 0, .int .i64 0, .int .i64 0]) (t := 32) (w8.heap.size) rfl).below hb)) | skip); (first | (have lW9 := W_9.out.1) | skip); (first | (have lW := W_9.out.1; have cW0 := W_9.out.at 0 rfl; have fW0 := W_9.out.free 0 rfl; have cW1 := W_9.out.at 1 rfl; have fW1 := W_9.out.free 1 rfl; have cW2 := W_9.out.at 2 rfl; have fW2 := W_9.out.free 2 rfl; have cW3 := W_9.out.at 3 rfl; have fW3 := W_9.out.free 3 rfl; have cW4 := W_9.out.at 4 rfl; have fW4 := W_9.out.free 4 rfl; have cW5 := W_9.out.at 5 rfl; have fW5 := W_9.out.free 5 rfl) | skip); clear hb ho))
      · go_wp2_with fail
        go_meet
        refine ⟨_, u9, c9, w8.heap.size, w9.heap.size, rfl, ⟨by omega, by simp⟩, ⟨by omega, by (try simp), by omega⟩, ?_, ?_, ?_, ?_, ?_, ?_, ?_, ?_, ?_, ?_⟩
        · exact HB9.out.alloc HB9.out.size _
        · exact X_9.out.alloc _
        · exact HD_9.out.alloc _
        · exact A_9.out.alloc _
        · exact WK_9.out.alloc _
        · exact HS_9.out.alloc _
        · exact RW_9.out.alloc _
        · exact RX_9.out.alloc _
        · exact Blk.new_at _ rfl
        · exact (RG_9.out.mono (B' := w8.heap.size) (by (try simp); (try omega))).into.alloc _
      · go_wp2_with fail
        go_meet
        refine ⟨_, u9, c9, (w8.heap.size + 1), w9.heap.size, rfl, ⟨by omega, by simp; omega⟩, ⟨by omega, by (try simp), by omega⟩, ?_, ?_, ?_, ?_, ?_, ?_, ?_, ?_, ?_, ?_⟩
        · exact HB9.out.trans ((six_keeps _ _ _ _ _ _ _ _).below (by omega) HB9.out.size)
        · exact blk_six X_9.out (by omega) _ _ _ _ _ _
        · exact blk_six HD_9.out (by omega) _ _ _ _ _ _
        · exact blk_six A_9.out (by omega) _ _ _ _ _ _
        · exact blk_six WK_9.out (by omega) _ _ _ _ _ _
        · exact HS0.out.below (HB9.out.trans ((six_keeps _ _ _ _ _ _ _ _).below (by omega) HB9.out.size))
        · exact RW_9.out.keeps (six_keeps _ _ _ _ _ _ _ _) (by omega)
        · exact RX_9.out.keeps (six_keeps _ _ _ _ _ _ _ _) (by omega)
        · exact blk_six_at W_9.out _ _ _ _ _ _
        · exact (RG_9.out.mono (B' := (w8.heap.size + 1)) (by (try simp); (try omega))).into.keeps (six_keeps _ _ _ _ _ _ _ _) (by (try simp); (try omega))
      · go_wp2_with fail
        go_meet
        refine ⟨_, u9, c9, w8.heap.size, w9.heap.size, rfl, ⟨by omega, by simp; omega⟩, ⟨by omega, by (try simp), by omega⟩, ?_, ?_, ?_, ?_, ?_, ?_, ?_, ?_, ?_, ?_⟩
        · exact HB9.out.trans ((six_keeps _ _ _ _ _ _ _ _).below (by omega) HB9.out.size)
        · exact blk_six X_9.out (by omega) _ _ _ _ _ _
        · exact blk_six HD_9.out (by omega) _ _ _ _ _ _
        · exact blk_six A_9.out (by omega) _ _ _ _ _ _
        · exact blk_six WK_9.out (by omega) _ _ _ _ _ _
        · exact HS0.out.below (HB9.out.trans ((six_keeps _ _ _ _ _ _ _ _).below (by omega) HB9.out.size))
        · exact RW_9.out.keeps (six_keeps _ _ _ _ _ _ _ _) (by omega)
        · exact RX_9.out.keeps (six_keeps _ _ _ _ _ _ _ _) (by omega)
        · exact blk_six_at W_9.out _ _ _ _ _ _
        · exact (RG_9.out.mono (B' := w8.heap.size) (by (try simp); (try omega))).into.keeps (six_keeps _ _ _ _ _ _ _ _) (by (try simp); (try omega))
    case rest =>
      obtain ⟨bG, u10, c10, lo10, hi10, rfl, ⟨hlo10, hhi10⟩, ⟨hx10, hy10, hsep10⟩, HB10, X_10, HD_10, A_10, WK_10, HS_10, RW_10, RX_10, GK_10, RG_10⟩ := hcut
      clear HB7 A_7 HD_7 HS_7 WK_7 RW_7 RX_7 X_7
      rename World => w10
      have lWK := WK_10.out.1
      have cWK0 := WK_10.out.at 0 rfl
      have cWK1 := WK_10.out.at 1 rfl
      have cWK2 := WK_10.out.at 2 rfl
      have cWK3 := WK_10.out.at 3 rfl
      have cWK4 := WK_10.out.at 4 rfl
      have cWK5 := WK_10.out.at 5 rfl
      have lGK := GK_10.out.1
      have cGK0 := GK_10.out.at 0 rfl
      have cGK1 := GK_10.out.at 1 rfl
      have cGK2 := GK_10.out.at 2 rfl
      have cGK3 := GK_10.out.at 3 rfl
      have cGK4 := GK_10.out.at 4 rfl
      have cGK5 := GK_10.out.at 5 rfl
      go_wp2_with fail
      refine (eqArenaResult_same _ _ _ _ _ _ _ _ _ _ f1 f1 _ RG_10.out.src RW_10.out.src hn1 (fun _ _ => rfl)).mono ?_
      rintro e w11 ⟨rfl, hb⟩
      have HB11 : Hid (Below w.heap.size w w11) := thru0 HB10.out hb
      have z11 : w10.heap.size ≤ w11.heap.size := hb.size
      have X_11 := Lib.hid (X_10.out.below hb)
      have HD_11 := Lib.hid (HD_10.out.below hb)
      have A_11 := Lib.hid (A_10.out.below hb)
      have WK_11 := Lib.hid (WK_10.out.below hb)
      have HS_11 := Lib.hid (HS_10.out.below hb)
      have RW_11 := Lib.hid (RW_10.out.below hb)
      have RX_11 := Lib.hid (RX_10.out.below hb)
      have GK_11 := Lib.hid (GK_10.out.below hb)
      have RG_11 := Lib.hid (RG_10.out.below hb)
      clear hb lWK cWK0 cWK1 cWK2 cWK3 cWK4 cWK5 lGK cGK0 cGK1 cGK2 cGK3 cGK4 cGK5 X_10 HD_10 A_10 WK_10 HS_10 RW_10 RX_10 GK_10 RG_10 HB10
      have lA := A_11.out.1
      have cA0 := A_11.out.at 0 rfl
      have cA1 := A_11.out.at 1 rfl
      have cA2 := A_11.out.at 2 rfl
      have cA3 := A_11.out.at 3 rfl
      have lX := X_11.out.1
      have cX0 := X_11.out.at 0 rfl
      have cX1 := X_11.out.at 1 rfl
      have cX2 := X_11.out.at 2 rfl
      have cX3 := X_11.out.at 3 rfl
      go_wp2_with fail
      have X_11d := Lib.hid X_11.out.drew
      have HD_11d := Lib.hid HD_11.out.drew
      have A_11d := Lib.hid A_11.out.drew
      have WK_11d := Lib.hid WK_11.out.drew
      have HS_11d := Lib.hid HS_11.out.drew
      have RW_11d := Lib.hid RW_11.out.drew
      have RX_11d := Lib.hid RX_11.out.drew
      have GK_11d := Lib.hid GK_11.out.drew
      have RG_11d := Lib.hid RG_11.out.drew
      have HB11d := Lib.hid HB11.out.drew
      go_region_held3 (fun w' => w'.cell? ⟨w.heap.size, 0, none⟩ = some (.int .i64 h) ∧ w'.cell? ⟨w.heap.size, 1, none⟩ = some (.slice a n c) ∧ w'.cell? ⟨w.heap.size, 2, none⟩ = some (.int .i64 ac) ∧ w'.cell? ⟨w.heap.size, 3, none⟩ = some (.int .i64 bu) ∧ w'.cell? ⟨w6.heap.size, 0, none⟩ = some (.int .i64 h) ∧ w'.cell? ⟨w6.heap.size, 1, none⟩ = some (.slice u6 n c6) ∧ w'.cell? ⟨w6.heap.size, 2, none⟩ = some (.int .i64 ac) ∧ w'.cell? ⟨w6.heap.size, 3, none⟩ = some (.int .i64 bu))
        (first | exact ⟨A_11d.out.at 0 rfl, A_11d.out.at 1 rfl, A_11d.out.at 2 rfl, A_11d.out.at 3 rfl, X_11d.out.at 0 rfl, X_11d.out.at 1 rfl, X_11d.out.at 2 rfl, X_11d.out.at 3 rfl⟩ | exact ⟨A_12.out.at 0 rfl, A_12.out.at 1 rfl, A_12.out.at 2 rfl, A_12.out.at 3 rfl, X_12.out.at 0 rfl, X_12.out.at 1 rfl, X_12.out.at 2 rfl, X_12.out.at 3 rfl⟩ | exact ⟨A_13.out.at 0 rfl, A_13.out.at 1 rfl, A_13.out.at 2 rfl, A_13.out.at 3 rfl, X_13.out.at 0 rfl, X_13.out.at 1 rfl, X_13.out.at 2 rfl, X_13.out.at 3 rfl⟩)
        (first | (go_at_call 34; refine (toArena_any _ _ _ _ _ _ f _ HS_11d.out hbig).mono ?_; rintro e w12 ⟨u12, c12, rfl, ho, hb, hc12, hcm12, hn12⟩; have HB12 := Lib.hid (thru0 HB11d.out hb); have z12 : w11.heap.size ≤ w12.heap.size := hb.size; have X_12 := Lib.hid (X_11d.out.below hb); have HD_12 := Lib.hid (HD_11d.out.below hb); have A_12 := Lib.hid (A_11d.out.below hb); have WK_12 := Lib.hid (WK_11d.out.below hb); have HS_12 := Lib.hid (HS_11d.out.below hb); have RW_12 := Lib.hid (RW_11d.out.below hb); have RX_12 := Lib.hid (RX_11d.out.below hb); have GK_12 := Lib.hid (GK_11d.out.below hb); have RG_12 := Lib.hid (RG_11d.out.below hb); have RT_12 : Hid (OwnIn w12 w11.heap.size w12.heap.size u12 n f) := ho.into; clear hb ho) | (go_at_call 36; refine (eqArena_same _ _ _ _ _ _ _ _ f f _ RX_12.out.src RT_12.out.src hbig (fun _ _ => rfl)).mono ?_; rintro e w13 ⟨rfl, hb⟩; have HB13 := Lib.hid (thru0 HB12.out hb); have z13 : w12.heap.size ≤ w13.heap.size := hb.size; have X_13 := Lib.hid (X_12.out.below hb); have HD_13 := Lib.hid (HD_12.out.below hb); have A_13 := Lib.hid (A_12.out.below hb); have WK_13 := Lib.hid (WK_12.out.below hb); have HS_13 := Lib.hid (HS_12.out.below hb); have RW_13 := Lib.hid (RW_12.out.below hb); have RX_13 := Lib.hid (RX_12.out.below hb); have GK_13 := Lib.hid (GK_12.out.below hb); have RG_13 := Lib.hid (RG_12.out.below hb); have RT_13 := Lib.hid (RT_12.out.below hb); clear hb))
      
      have lX := X_13.out.1
      have cX0 := X_13.out.at 0 rfl
      have cX1 := X_13.out.at 1 rfl
      have cX2 := X_13.out.at 2 rfl
      have cX3 := X_13.out.at 3 rfl
      go_wp2_with fail
      clear HS_13
      refine (markArena_any _ _ _ _ _ _ _ _ _ _ _ RX_13.out hbig (by omega) (by omega)).mono ?_
      rintro e w14 ⟨rfl, ho, hk⟩
      have HB14 : Hid (Below w.heap.size w w14) := HB13.out.trans (hk.below (by omega) HB13.out.size)
      have z14 : w13.heap.size ≤ w14.heap.size := hk.size
      have X_14 := Lib.hid (X_13.out.keeps hk (by omega))
      have HD_14 := Lib.hid (HD_13.out.keeps hk (by omega))
      have A_14 := Lib.hid (A_13.out.keeps hk (by omega))
      have WK_14 := Lib.hid (WK_13.out.keeps hk (by omega))
      have RW_14 := Lib.hid (RW_13.out.keeps hk (by omega))
      have GK_14 := Lib.hid (GK_13.out.keeps hk (by omega))
      have RG_14 := Lib.hid (RG_13.out.keeps hk (by omega))
      have RX_14 : Hid (OwnIn w14 w5.heap.size w6.heap.size u6 n (fun i => 1 + i)) := ho
      clear hk lX cX0 cX1 cX2 cX3 X_13 HD_13 A_13 WK_13 RW_13 RX_13 GK_13 RG_13 HB13 ho
      have lWK := WK_14.out.1
      have cWK0 := WK_14.out.at 0 rfl
      have cWK1 := WK_14.out.at 1 rfl
      have cWK2 := WK_14.out.at 2 rfl
      have cWK3 := WK_14.out.at 3 rfl
      have cWK4 := WK_14.out.at 4 rfl
      have cWK5 := WK_14.out.at 5 rfl
      have lGK := GK_14.out.1
      have cGK0 := GK_14.out.at 0 rfl
      have cGK1 := GK_14.out.at 1 rfl
      have cGK2 := GK_14.out.at 2 rfl
      have cGK3 := GK_14.out.at 3 rfl
      have cGK4 := GK_14.out.at 4 rfl
      have cGK5 := GK_14.out.at 5 rfl
      go_wp2_with fail
      refine (eqArenaResult_same _ _ _ _ _ _ _ _ _ _ f1 f1 _ RG_14.out.src RW_14.out.src hn1 (fun _ _ => rfl)).mono ?_
      rintro e w15 ⟨rfl, hb⟩
      have HB15 : Hid (Below w.heap.size w w15) := thru0 HB14.out hb
      have z15 : w14.heap.size ≤ w15.heap.size := hb.size
      have X_15 := Lib.hid (X_14.out.below hb)
      have HD_15 := Lib.hid (HD_14.out.below hb)
      have A_15 := Lib.hid (A_14.out.below hb)
      have WK_15 := Lib.hid (WK_14.out.below hb)
      have RW_15 := Lib.hid (RW_14.out.below hb)
      have GK_15 := Lib.hid (GK_14.out.below hb)
      have RG_15 := Lib.hid (RG_14.out.below hb)
      have RX_15 := Lib.hid (RX_14.out.below hb)
      clear hb lWK cWK0 cWK1 cWK2 cWK3 cWK4 cWK5 lGK cGK0 cGK1 cGK2 cGK3 cGK4 cGK5 X_14 HD_14 A_14 WK_14 RW_14 GK_14 RG_14 RX_14 HB14
      have lGK := GK_15.out.1
      have cGK0 := GK_15.out.at 0 rfl
      have cGK1 := GK_15.out.at 1 rfl
      have cGK2 := GK_15.out.at 2 rfl
      have cGK3 := GK_15.out.at 3 rfl
      have cGK4 := GK_15.out.at 4 rfl
      have cGK5 := GK_15.out.at 5 rfl
      go_wp2_with fail
      refine (markResult_any _ _ _ _ _ _ _ _ _ _ _ _ _ RG_15.out hn1 (by omega) (by omega)).mono ?_
      rintro e w16 ⟨rfl, ho, hk⟩
      have HB16 : Hid (Below w.heap.size w w16) := HB15.out.trans (hk.below (by omega) HB15.out.size)
      have z16 : w15.heap.size ≤ w16.heap.size := hk.size
      have X_16 := Lib.hid (X_15.out.keeps hk (by omega))
      have HD_16 := Lib.hid (HD_15.out.keeps hk (by omega))
      have A_16 := Lib.hid (A_15.out.keeps hk (by omega))
      have WK_16 := Lib.hid (WK_15.out.keeps hk (by omega))
      have RW_16 := Lib.hid (RW_15.out.keeps hk (by omega))
      have GK_16 := Lib.hid (GK_15.out.keeps hk (by omega))
      have RX_16 := Lib.hid (RX_15.out.keeps hk (by omega))
      have RG_16 : Hid (OwnIn w16 lo10 hi10 u10 n1 (fun i => 1 + i)) := ho
      clear hk lGK cGK0 cGK1 cGK2 cGK3 cGK4 cGK5 X_15 HD_15 A_15 WK_15 RW_15 GK_15 RG_15 RX_15 HB15 ho
      have lGK := GK_16.out.1
      have cGK0 := GK_16.out.at 0 rfl
      have cGK1 := GK_16.out.at 1 rfl
      have cGK2 := GK_16.out.at 2 rfl
      have cGK3 := GK_16.out.at 3 rfl
      have cGK4 := GK_16.out.at 4 rfl
      have cGK5 := GK_16.out.at 5 rfl
      go_wp2_with fail
      refine (heldResult_any _ _ _ _ _ _ _ _ 1 _ RG_16.out.src hn1 (by omega) (by omega)).mono ?_
      rintro e w17 ⟨rfl, hb⟩
      have HB17 : Hid (Below w.heap.size w w17) := thru0 HB16.out hb
      have z17 : w16.heap.size ≤ w17.heap.size := hb.size
      have X_17 := Lib.hid (X_16.out.below hb)
      have HD_17 := Lib.hid (HD_16.out.below hb)
      have A_17 := Lib.hid (A_16.out.below hb)
      have WK_17 := Lib.hid (WK_16.out.below hb)
      have RW_17 := Lib.hid (RW_16.out.below hb)
      have GK_17 := Lib.hid (GK_16.out.below hb)
      have RX_17 := Lib.hid (RX_16.out.below hb)
      have RG_17 := Lib.hid (RG_16.out.below hb)
      clear hb lGK cGK0 cGK1 cGK2 cGK3 cGK4 cGK5 X_16 HD_16 A_16 WK_16 RW_16 GK_16 RX_16 RG_16 HB16
      have HS_17 := Lib.hid (HS0.out.below HB17.out)
      go_upto_region 24 with (fail)
      go_cut [12] (fun sW wx => ∃ (bN : Nat) (uN : Option Addr) (cN lN hN : Nat), sW = .pointer (some ⟨bN, 0, none⟩) ∧ (w17.heap.size ≤ bN ∧ bN < wx.heap.size) ∧ (w17.heap.size ≤ lN ∧ hN ≤ wx.heap.size ∧ (bN < lN ∨ hN ≤ bN)) ∧ Hid (Below w.heap.size w wx) ∧ Hid (Blk wx (w.heap.size) [.int .i64 h, .slice a n c, .int .i64 ac, .int .i64 bu]) ∧ Hid (Blk wx (w.heap.size + 1) [.int .i64 s, .int .i64 m, .int .i64 o, .int .i64 hh]) ∧ Hid (Blk wx bW [.int .i64 co, .int .i64 h1, .slice u5 n1 c5, .int .i64 ac1, .int .i64 bu1, .int .i64 at1]) ∧ Hid (Blk wx bG [.int .i64 co, .int .i64 h1, .slice u10 n1 c10, .int .i64 ac1, .int .i64 bu1, .int .i64 at1]) ∧ Hid (Src wx a n f) ∧ Hid (OwnIn wx lo5 hi5 u5 n1 f1) ∧ Hid (OwnIn wx lo10 hi10 u10 n1 (fun i => 1 + i)) ∧ Hid (Blk wx bN [.int .i64 co, .int .i64 h1, .slice uN n1 cN, .int .i64 ac1, .int .i64 bu1, .int .i64 at1]) ∧ Hid (OwnIn wx lN hN uN n1 f1))
      case first =>
        have A_d := Lib.hid A_17.out.drew; have HD_d := Lib.hid HD_17.out.drew; have WK_d := Lib.hid WK_17.out.drew; have GK_d := Lib.hid GK_17.out.drew; have HS_d := Lib.hid HS_17.out.drew; have RW_d := Lib.hid RW_17.out.drew; have RG_d := Lib.hid RG_17.out.drew; have HB_d := Lib.hid HB17.out.drew
        go_region_held3 (fun w' => w'.cell? ⟨w.heap.size, 0, none⟩ = some (.int .i64 h) ∧ w'.cell? ⟨w.heap.size, 1, none⟩ = some (.slice a n c) ∧ w'.cell? ⟨w.heap.size, 2, none⟩ = some (.int .i64 ac) ∧ w'.cell? ⟨w.heap.size, 3, none⟩ = some (.int .i64 bu) ∧ w'.cell? ⟨w.heap.size + 1, 0, none⟩ = some (.int .i64 s) ∧ w'.cell? ⟨w.heap.size + 1, 1, none⟩ = some (.int .i64 m) ∧ w'.cell? ⟨w.heap.size + 1, 2, none⟩ = some (.int .i64 o) ∧ w'.cell? ⟨w.heap.size + 1, 3, none⟩ = some (.int .i64 hh))
          (first | (with_reducible exact ⟨(A_d.out).at 0 rfl, (A_d.out).at 1 rfl, (A_d.out).at 2 rfl, (A_d.out).at 3 rfl, (HD_d.out).at 0 rfl, (HD_d.out).at 1 rfl, (HD_d.out).at 2 rfl, (HD_d.out).at 3 rfl⟩) | (with_reducible exact ⟨(A_d.out.alloc _).at 0 rfl, (A_d.out.alloc _).at 1 rfl, (A_d.out.alloc _).at 2 rfl, (A_d.out.alloc _).at 3 rfl, (HD_d.out.alloc _).at 0 rfl, (HD_d.out.alloc _).at 1 rfl, (HD_d.out.alloc _).at 2 rfl, (HD_d.out.alloc _).at 3 rfl⟩) | (with_reducible exact ⟨((A_17.out.alloc _).drew).at 0 rfl, ((A_17.out.alloc _).drew).at 1 rfl, ((A_17.out.alloc _).drew).at 2 rfl, ((A_17.out.alloc _).drew).at 3 rfl, ((HD_17.out.alloc _).drew).at 0 rfl, ((HD_17.out.alloc _).drew).at 1 rfl, ((HD_17.out.alloc _).drew).at 2 rfl, ((HD_17.out.alloc _).drew).at 3 rfl⟩) | (with_reducible exact ⟨(A_18.out).at 0 rfl, (A_18.out).at 1 rfl, (A_18.out).at 2 rfl, (A_18.out).at 3 rfl, (HD_18.out).at 0 rfl, (HD_18.out).at 1 rfl, (HD_18.out).at 2 rfl, (HD_18.out).at 3 rfl⟩) | (with_reducible exact ⟨(A_18.out.alloc _).at 0 rfl, (A_18.out.alloc _).at 1 rfl, (A_18.out.alloc _).at 2 rfl, (A_18.out.alloc _).at 3 rfl, (HD_18.out.alloc _).at 0 rfl, (HD_18.out.alloc _).at 1 rfl, (HD_18.out.alloc _).at 2 rfl, (HD_18.out.alloc _).at 3 rfl⟩) | (with_reducible exact ⟨(A_19.out).at 0 rfl, (A_19.out).at 1 rfl, (A_19.out).at 2 rfl, (A_19.out).at 3 rfl, (HD_19.out).at 0 rfl, (HD_19.out).at 1 rfl, (HD_19.out).at 2 rfl, (HD_19.out).at 3 rfl⟩) | (with_reducible exact ⟨(A_19.out.alloc _).at 0 rfl, (A_19.out.alloc _).at 1 rfl, (A_19.out.alloc _).at 2 rfl, (A_19.out.alloc _).at 3 rfl, (HD_19.out.alloc _).at 0 rfl, (HD_19.out.alloc _).at 1 rfl, (HD_19.out.alloc _).at 2 rfl, (HD_19.out.alloc _).at 3 rfl⟩) | (with_reducible exact ⟨(A_20.out).at 0 rfl, (A_20.out).at 1 rfl, (A_20.out).at 2 rfl, (A_20.out).at 3 rfl, (HD_20.out).at 0 rfl, (HD_20.out).at 1 rfl, (HD_20.out).at 2 rfl, (HD_20.out).at 3 rfl⟩) | (with_reducible exact ⟨(A_20.out.alloc _).at 0 rfl, (A_20.out.alloc _).at 1 rfl, (A_20.out.alloc _).at 2 rfl, (A_20.out.alloc _).at 3 rfl, (HD_20.out.alloc _).at 0 rfl, (HD_20.out.alloc _).at 1 rfl, (HD_20.out.alloc _).at 2 rfl, (HD_20.out.alloc _).at 3 rfl⟩) | (with_reducible exact ⟨(blk_six A_20.out (by omega) _ _ _ _ _ _).at 0 rfl, (blk_six A_20.out (by omega) _ _ _ _ _ _).at 1 rfl, (blk_six A_20.out (by omega) _ _ _ _ _ _).at 2 rfl, (blk_six A_20.out (by omega) _ _ _ _ _ _).at 3 rfl, (blk_six HD_20.out (by omega) _ _ _ _ _ _).at 0 rfl, (blk_six HD_20.out (by omega) _ _ _ _ _ _).at 1 rfl, (blk_six HD_20.out (by omega) _ _ _ _ _ _).at 2 rfl, (blk_six HD_20.out (by omega) _ _ _ _ _ _).at 3 rfl⟩))
          (first | (go_at_call 34; refine (toArena_any _ _ _ _ _ _ f _ (HS_d.out.ext (by first | exact .inl rfl | exact ext_drew _ _ | exact .inr ⟨_, rfl⟩)) hbig).mono ?_; rintro e w18 ⟨u18, c18, rfl, ho, hb, hc18, hcm18, hn18⟩; have HB18 := Lib.hid (thru0 (below_ext HB_d.out (by first | exact .inl rfl | exact ext_drew _ _ | exact .inr ⟨_, rfl⟩)) hb); have z18 : w17.heap.size ≤ w18.heap.size := (by have := hb.size; (try simp at this); omega); have A_18 := Lib.hid ((A_d.out.ext (by first | exact .inl rfl | exact ext_drew _ _ | exact .inr ⟨_, rfl⟩)).below hb); have HD_18 := Lib.hid ((HD_d.out.ext (by first | exact .inl rfl | exact ext_drew _ _ | exact .inr ⟨_, rfl⟩)).below hb); have WK_18 := Lib.hid ((WK_d.out.ext (by first | exact .inl rfl | exact ext_drew _ _ | exact .inr ⟨_, rfl⟩)).below hb); have GK_18 := Lib.hid ((GK_d.out.ext (by first | exact .inl rfl | exact ext_drew _ _ | exact .inr ⟨_, rfl⟩)).below hb); have HS_18 := Lib.hid ((HS_d.out.ext (by first | exact .inl rfl | exact ext_drew _ _ | exact .inr ⟨_, rfl⟩)).below hb); have RW_18 := Lib.hid ((RW_d.out.ext (by first | exact .inl rfl | exact ext_drew _ _ | exact .inr ⟨_, rfl⟩)).below hb); have RG_18 := Lib.hid ((RG_d.out.ext (by first | exact .inl rfl | exact ext_drew _ _ | exact .inr ⟨_, rfl⟩)).below hb); have RA_18 := Lib.hid ho.into; (first | (have W_18 := Lib.hid ((Blk.new_at (w := w17) (cs := #[.int .i64 0, .int .i64 0, .slice none 0 0, .int .i64 0, .int .i64 0, .int .i64 0]) (t := 32) (w17.heap.size) rfl).drew.below hb)) | (have W_18 := Lib.hid ((Blk.new_at (w := w17.drew) (cs := #[.int .i64 0, .int .i64 0, .slice none 0 0, .int .i64 0, .int .i64 0, .int .i64 0]) (t := 32) (w17.heap.size) rfl).below hb)) | skip); (first | (have lW18 := W_18.out.1) | skip); clear hb ho) | (go_at_call 43; refine (toHead_any s m o hh _).mono ?_; rintro e w19 ⟨rfl, hb⟩; have HB19 := Lib.hid (thru0 (below_ext HB18.out (by first | exact .inl rfl | exact ext_drew _ _ | exact .inr ⟨_, rfl⟩)) hb); have z19 : w18.heap.size ≤ w19.heap.size := (by have := hb.size; (try simp at this); omega); have A_19 := Lib.hid ((A_18.out.ext (by first | exact .inl rfl | exact ext_drew _ _ | exact .inr ⟨_, rfl⟩)).below hb); have HD_19 := Lib.hid ((HD_18.out.ext (by first | exact .inl rfl | exact ext_drew _ _ | exact .inr ⟨_, rfl⟩)).below hb); have WK_19 := Lib.hid ((WK_18.out.ext (by first | exact .inl rfl | exact ext_drew _ _ | exact .inr ⟨_, rfl⟩)).below hb); have GK_19 := Lib.hid ((GK_18.out.ext (by first | exact .inl rfl | exact ext_drew _ _ | exact .inr ⟨_, rfl⟩)).below hb); have HS_19 := Lib.hid ((HS_18.out.ext (by first | exact .inl rfl | exact ext_drew _ _ | exact .inr ⟨_, rfl⟩)).below hb); have RW_19 := Lib.hid ((RW_18.out.ext (by first | exact .inl rfl | exact ext_drew _ _ | exact .inr ⟨_, rfl⟩)).below hb); have RG_19 := Lib.hid ((RG_18.out.ext (by first | exact .inl rfl | exact ext_drew _ _ | exact .inr ⟨_, rfl⟩)).below hb); have RA_19 := Lib.hid ((RA_18.out.ext (by first | exact .inl rfl | exact ext_drew _ _ | exact .inr ⟨_, rfl⟩)).below hb); (first | (have W_19 := Lib.hid (W_18.out.below hb)) | (have W_19 := Lib.hid ((Blk.new_at (w := w18) (cs := #[.int .i64 0, .int .i64 0, .slice none 0 0, .int .i64 0, .int .i64 0, .int .i64 0]) (t := 32) (w18.heap.size) rfl).below hb)) | skip); (first | (have lW19 := W_19.out.1) | skip); clear hb) | (go_at_call 14; refine (HI _ _ _ _ _ _ f _ _ _ _ _ _ (RA_19.out.ext (by first | exact .inl rfl | exact ext_drew _ _ | exact .inr ⟨_, rfl⟩)).src hc18 hcm18 HR.out).mono ?_; rintro e w20 ⟨u20, c20, rfl, ho, hb⟩; have HB20 := Lib.hid (thru0 (below_ext HB19.out (by first | exact .inl rfl | exact ext_drew _ _ | exact .inr ⟨_, rfl⟩)) hb); have z20 : w19.heap.size ≤ w20.heap.size := (by have := hb.size; (try simp at this); omega); have A_20 := Lib.hid ((A_19.out.ext (by first | exact .inl rfl | exact ext_drew _ _ | exact .inr ⟨_, rfl⟩)).below hb); have HD_20 := Lib.hid ((HD_19.out.ext (by first | exact .inl rfl | exact ext_drew _ _ | exact .inr ⟨_, rfl⟩)).below hb); have WK_20 := Lib.hid ((WK_19.out.ext (by first | exact .inl rfl | exact ext_drew _ _ | exact .inr ⟨_, rfl⟩)).below hb); have GK_20 := Lib.hid ((GK_19.out.ext (by first | exact .inl rfl | exact ext_drew _ _ | exact .inr ⟨_, rfl⟩)).below hb); have HS_20 := Lib.hid ((HS_19.out.ext (by first | exact .inl rfl | exact ext_drew _ _ | exact .inr ⟨_, rfl⟩)).below hb); have RW_20 := Lib.hid ((RW_19.out.ext (by first | exact .inl rfl | exact ext_drew _ _ | exact .inr ⟨_, rfl⟩)).below hb); have RG_20 := Lib.hid ((RG_19.out.ext (by first | exact .inl rfl | exact ext_drew _ _ | exact .inr ⟨_, rfl⟩)).below hb); have RA_20 := Lib.hid ((RA_19.out.ext (by first | exact .inl rfl | exact ext_drew _ _ | exact .inr ⟨_, rfl⟩)).below hb); have RH_20 := Lib.hid ho; (first | (have W_20 := Lib.hid (W_19.out.below hb)) | (have W_20 := Lib.hid ((Blk.new_at (w := w19) (cs := #[.int .i64 0, .int .i64 0, .slice none 0 0, .int .i64 0, .int .i64 0, .int .i64 0]) (t := 32) (w19.heap.size) rfl).below hb)) | skip); (first | (have lW20 := W_20.out.1) | skip); (first | (have lW := W_20.out.1; have cW0 := W_20.out.at 0 rfl; have fW0 := W_20.out.free 0 rfl; have cW1 := W_20.out.at 1 rfl; have fW1 := W_20.out.free 1 rfl; have cW2 := W_20.out.at 2 rfl; have fW2 := W_20.out.free 2 rfl; have cW3 := W_20.out.at 3 rfl; have fW3 := W_20.out.free 3 rfl; have cW4 := W_20.out.at 4 rfl; have fW4 := W_20.out.free 4 rfl; have cW5 := W_20.out.at 5 rfl; have fW5 := W_20.out.free 5 rfl) | skip); clear hb ho))
        · go_wp2_with fail
          go_meet
          refine ⟨_, u20, c20, w19.heap.size, w20.heap.size, rfl, ⟨by omega, by simp⟩, ⟨by omega, by (try simp), by omega⟩, ?_, ?_, ?_, ?_, ?_, ?_, ?_, ?_, ?_, ?_⟩
          · exact HB20.out.alloc HB20.out.size _
          · exact A_20.out.alloc _
          · exact HD_20.out.alloc _
          · exact WK_20.out.alloc _
          · exact GK_20.out.alloc _
          · exact HS_20.out.alloc _
          · exact RW_20.out.alloc _
          · exact RG_20.out.alloc _
          · exact Blk.new_at _ rfl
          · exact (RH_20.out.mono (B' := w19.heap.size) (by (try simp); (try omega))).into.alloc _
        · go_wp2_with fail
          go_meet
          refine ⟨_, u20, c20, (w19.heap.size + 1), w20.heap.size, rfl, ⟨by omega, by simp; omega⟩, ⟨by omega, by (try simp), by omega⟩, ?_, ?_, ?_, ?_, ?_, ?_, ?_, ?_, ?_, ?_⟩
          · exact HB20.out.trans ((six_keeps _ _ _ _ _ _ _ _).below (by omega) HB20.out.size)
          · exact blk_six A_20.out (by omega) _ _ _ _ _ _
          · exact blk_six HD_20.out (by omega) _ _ _ _ _ _
          · exact blk_six WK_20.out (by omega) _ _ _ _ _ _
          · exact blk_six GK_20.out (by omega) _ _ _ _ _ _
          · exact HS0.out.below (HB20.out.trans ((six_keeps _ _ _ _ _ _ _ _).below (by omega) HB20.out.size))
          · exact RW_20.out.keeps (six_keeps _ _ _ _ _ _ _ _) (by omega)
          · exact RG_20.out.keeps (six_keeps _ _ _ _ _ _ _ _) (by omega)
          · exact blk_six_at W_20.out _ _ _ _ _ _
          · exact (RH_20.out.mono (B' := (w19.heap.size + 1)) (by (try simp); (try omega))).into.keeps (six_keeps _ _ _ _ _ _ _ _) (by (try simp); (try omega))
        · go_wp2_with fail
          go_meet
          refine ⟨_, u20, c20, w19.heap.size, w20.heap.size, rfl, ⟨by omega, by simp; omega⟩, ⟨by omega, by (try simp), by omega⟩, ?_, ?_, ?_, ?_, ?_, ?_, ?_, ?_, ?_, ?_⟩
          · exact HB20.out.trans ((six_keeps _ _ _ _ _ _ _ _).below (by omega) HB20.out.size)
          · exact blk_six A_20.out (by omega) _ _ _ _ _ _
          · exact blk_six HD_20.out (by omega) _ _ _ _ _ _
          · exact blk_six WK_20.out (by omega) _ _ _ _ _ _
          · exact blk_six GK_20.out (by omega) _ _ _ _ _ _
          · exact HS0.out.below (HB20.out.trans ((six_keeps _ _ _ _ _ _ _ _).below (by omega) HB20.out.size))
          · exact RW_20.out.keeps (six_keeps _ _ _ _ _ _ _ _) (by omega)
          · exact RG_20.out.keeps (six_keeps _ _ _ _ _ _ _ _) (by omega)
          · exact blk_six_at W_20.out _ _ _ _ _ _
          · exact (RH_20.out.mono (B' := w19.heap.size) (by (try simp); (try omega))).into.keeps (six_keeps _ _ _ _ _ _ _ _) (by (try simp); (try omega))
        · go_wp2_with fail
          go_meet
          refine ⟨_, u20, c20, w19.heap.size, w20.heap.size, rfl, ⟨by omega, by simp; omega⟩, ⟨by omega, by (try simp), by omega⟩, ?_, ?_, ?_, ?_, ?_, ?_, ?_, ?_, ?_, ?_⟩
          · exact HB20.out.trans ((six_keeps _ _ _ _ _ _ _ _).below (by omega) HB20.out.size)
          · exact blk_six A_20.out (by omega) _ _ _ _ _ _
          · exact blk_six HD_20.out (by omega) _ _ _ _ _ _
          · exact blk_six WK_20.out (by omega) _ _ _ _ _ _
          · exact blk_six GK_20.out (by omega) _ _ _ _ _ _
          · exact HS0.out.below (HB20.out.trans ((six_keeps _ _ _ _ _ _ _ _).below (by omega) HB20.out.size))
          · exact RW_20.out.keeps (six_keeps _ _ _ _ _ _ _ _) (by omega)
          · exact RG_20.out.keeps (six_keeps _ _ _ _ _ _ _ _) (by omega)
          · exact blk_six_at W_20.out _ _ _ _ _ _
          · exact (RH_20.out.mono (B' := w19.heap.size) (by (try simp); (try omega))).into.keeps (six_keeps _ _ _ _ _ _ _ _) (by (try simp); (try omega))
      case rest =>
        obtain ⟨bH, u21, c21, lo21, hi21, rfl, ⟨hlo21, hhi21⟩, ⟨hx21, hy21, hsep21⟩, HB21, A_21, HD_21, WK_21, GK_21, HS_21, RW_21, RG_21, HK_21, RH_21⟩ := hcut
        clear HB17 X_17 HD_17 A_17 WK_17 RW_17 GK_17 RX_17 RG_17 HS_17
        rename World => w21
        have lWK := WK_21.out.1
        have cWK0 := WK_21.out.at 0 rfl
        have cWK1 := WK_21.out.at 1 rfl
        have cWK2 := WK_21.out.at 2 rfl
        have cWK3 := WK_21.out.at 3 rfl
        have cWK4 := WK_21.out.at 4 rfl
        have cWK5 := WK_21.out.at 5 rfl
        have lHK := HK_21.out.1
        have cHK0 := HK_21.out.at 0 rfl
        have cHK1 := HK_21.out.at 1 rfl
        have cHK2 := HK_21.out.at 2 rfl
        have cHK3 := HK_21.out.at 3 rfl
        have cHK4 := HK_21.out.at 4 rfl
        have cHK5 := HK_21.out.at 5 rfl
        go_wp2_with fail
        refine (eqArenaResult_same _ _ _ _ _ _ _ _ _ _ f1 f1 _ RH_21.out.src RW_21.out.src hn1 (fun _ _ => rfl)).mono ?_
        rintro e w22 ⟨rfl, hb⟩
        have HB22 : Hid (Below w.heap.size w w22) := thru0 HB21.out hb
        have z22 : w21.heap.size ≤ w22.heap.size := hb.size
        have A_22 := Lib.hid (A_21.out.below hb)
        have HD_22 := Lib.hid (HD_21.out.below hb)
        have WK_22 := Lib.hid (WK_21.out.below hb)
        have GK_22 := Lib.hid (GK_21.out.below hb)
        have HS_22 := Lib.hid (HS_21.out.below hb)
        have RW_22 := Lib.hid (RW_21.out.below hb)
        have RG_22 := Lib.hid (RG_21.out.below hb)
        have HK_22 := Lib.hid (HK_21.out.below hb)
        have RH_22 := Lib.hid (RH_21.out.below hb)
        clear hb lWK cWK0 cWK1 cWK2 cWK3 cWK4 cWK5 lHK cHK0 cHK1 cHK2 cHK3 cHK4 cHK5 A_21 HD_21 WK_21 GK_21 HS_21 RW_21 RG_21 HK_21 RH_21 HB21
        have lGK := GK_22.out.1
        have cGK0 := GK_22.out.at 0 rfl
        have cGK1 := GK_22.out.at 1 rfl
        have cGK2 := GK_22.out.at 2 rfl
        have cGK3 := GK_22.out.at 3 rfl
        have cGK4 := GK_22.out.at 4 rfl
        have cGK5 := GK_22.out.at 5 rfl
        go_wp2_with fail
        refine (heldResult_any _ _ _ _ _ _ _ _ 1 _ RG_22.out.src hn1 (by omega) (by omega)).mono ?_
        rintro e w23 ⟨rfl, hb⟩
        have HB23 : Hid (Below w.heap.size w w23) := thru0 HB22.out hb
        have z23 : w22.heap.size ≤ w23.heap.size := hb.size
        have A_23 := Lib.hid (A_22.out.below hb)
        have HD_23 := Lib.hid (HD_22.out.below hb)
        have WK_23 := Lib.hid (WK_22.out.below hb)
        have GK_23 := Lib.hid (GK_22.out.below hb)
        have HS_23 := Lib.hid (HS_22.out.below hb)
        have RW_23 := Lib.hid (RW_22.out.below hb)
        have RG_23 := Lib.hid (RG_22.out.below hb)
        have HK_23 := Lib.hid (HK_22.out.below hb)
        have RH_23 := Lib.hid (RH_22.out.below hb)
        clear hb lGK cGK0 cGK1 cGK2 cGK3 cGK4 cGK5 A_22 HD_22 WK_22 GK_22 HS_22 RW_22 RG_22 HK_22 RH_22 HB22
        go_wp2
        go_ret
        exact ⟨rfl, HB23.out⟩

theorem e8_any (HI : ImplPO) (h ac bu : Int) (a : Option Addr) (n c : Nat) (f : Nat → Int) (s m o hh : Int) (w : World) (hs : Src w a n f) (hn : n ≤ maxLen) : Calls Try.prog 8 #[.agg #[.int .i64 h, .slice a n c, .int .i64 ac, .int .i64 bu], .agg #[.int .i64 s, .int .i64 m, .int .i64 o, .int .i64 hh]] w (RetBool w true) := by
  by_cases hb : n ≤ 1048576
  · exact e8_near HI h ac bu a n c f s m o hh w hs hb
  · exact e8_far h ac bu a n c s m o hh w hn (by omega)
end Go.Proofs.Ytlelgfkebcnepaa

namespace Go.Proofs.Ytlelgfkebcnepaa
open Go.RowKit
set_option linter.unusedVariables false

theorem GSame.symm {t u : GM} (h : GSame t u) : GSame u t := (GSame.refl u).tie h
end Go.Proofs.Ytlelgfkebcnepaa

namespace Go.Proofs.Ytlelgfkebcnepaa
open Go.RowKit
set_option linter.unusedVariables false

/-- What is owed of the program's function: with the room of its words. -/
def ImplPOC : Prop := ∀ (h ac bu : Int) (a : Option Addr) (n c : Nat) (f : Nat → Int) (s m o hh : Int) (r : AR) (w : World), Src w a n f → n ≤ c → c ≤ maxLen → IsPO h n f ac bu s m o hh r → Calls Try.prog 14 #[.agg #[.int .i64 h, .slice a n c, .int .i64 ac, .int .i64 bu], .agg #[.int .i64 s, .int .i64 m, .int .i64 o, .int .i64 hh]] w (RetResC w r)

theorem GSame.trans {t u v : GM} (h1 : GSame t u) (h2 : GSame u v) : GSame t v := by
  obtain ⟨a1, a2, a3, a4, a5, a6, a7⟩ := h1
  obtain ⟨b1, b2, b3, b4, b5, b6, b7⟩ := h2
  exact ⟨a1.trans b1, a2.trans b2, a3.trans b3, a4.trans b4, a5.trans b5, a6.trans b6, fun k hk => (a7 k hk).trans (b7 k (by omega))⟩
end Go.Proofs.Ytlelgfkebcnepaa

namespace Go.Proofs.Ytlelgfkebcnepaa
open Go.RowKit
set_option linter.unusedVariables false

theorem isNaN_any (x : Int) (w : World) : Calls Try.prog 132 #[.int .i64 x] w (fun e w' => e = .returned (.bool false) ∧ Below w.heap.size w w') := by
  go_enter Try.func132, Try.ntmps132
  go_wp2
  go_ret
  exact ⟨rfl, Below.refl _ _⟩

def sgn (x y : Int) : Int := if x < y then -1 else if y < x then 1 else 0

set_option maxRecDepth 100000 in
theorem compare_any (x y : Int) (w : World) : Calls Try.prog 115 #[.int .i64 x, .int .i64 y] w (fun e w' => e = .returned (.int .i64 (sgn x y)) ∧ Below w.heap.size w w') := by
  have arm : ∀ (W0 : World), True := fun _ => trivial
  by_cases h1 : x < y
  · have hs : sgn x y = -1 := by unfold sgn; rw [if_pos h1]
    rw [hs]
    go_enter Try.func115, Try.ntmps115
    go_wp2_with (first | (go_at_call 132; refine (isNaN_any x _).mono ?_; rintro e w1 ⟨rfl, hb1⟩) | (go_at_call 132; refine (isNaN_any y _).mono ?_; rintro e w2 ⟨rfl, hb2⟩))
    go_ret
    exact ⟨rfl, hb1.trans (hb2.mono hb1.size)⟩
  · by_cases h2 : y < x
    · have hs : sgn x y = 1 := by unfold sgn; rw [if_neg h1, if_pos h2]
      rw [hs]
      go_enter Try.func115, Try.ntmps115
      go_wp2_with (first | (go_at_call 132; refine (isNaN_any x _).mono ?_; rintro e w1 ⟨rfl, hb1⟩) | (go_at_call 132; refine (isNaN_any y _).mono ?_; rintro e w2 ⟨rfl, hb2⟩))
      go_ret
      exact ⟨rfl, hb1.trans (hb2.mono hb1.size)⟩
    · have hs : sgn x y = 0 := by unfold sgn; rw [if_neg h1, if_neg h2]
      rw [hs]
      go_enter Try.func115, Try.ntmps115
      go_wp2_with (first | (go_at_call 132; refine (isNaN_any x _).mono ?_; rintro e w1 ⟨rfl, hb1⟩) | (go_at_call 132; refine (isNaN_any y _).mono ?_; rintro e w2 ⟨rfl, hb2⟩))
      go_ret
      exact ⟨rfl, hb1.trans (hb2.mono hb1.size)⟩

set_option maxRecDepth 100000 in
theorem fo1_any (t : GM) (at_ : Int) (w : World) : Calls Try.prog 114 #[.agg #[.int .i64 t.at_, .int .i64 t.s, .int .i64 t.m, .int .i64 t.o, .int .i64 t.h, .slice t.a t.n t.c], .int .i64 at_] w (fun e w' => e = .returned (.int .i64 (sgn t.at_ at_)) ∧ Below w.heap.size w w') := by
  go_enter Try.func114, Try.ntmps114
  go_wp2_with (go_at_call 115; refine (compare_any t.at_ at_ _).mono ?_; rintro e w1 ⟨rfl, hb1⟩)
  go_ret
  exact ⟨rfl, ((Below.refl _ _).alloc (Nat.le_refl _) _).trans (hb1.mono (by simp))⟩
end Go.Proofs.Ytlelgfkebcnepaa

namespace Go.Proofs.Ytlelgfkebcnepaa
open Go.RowKit
set_option linter.unusedVariables false

/-- The world stands in the first place where the row is no longer below. -/
def Cut (T : Nat → GM) (N : Nat) (x : Int) (lo hi : Nat) : Prop := (∀ j, j < lo → (T j).at_ < x) ∧ (∀ j, hi ≤ j → j < N → x ≤ (T j).at_)

set_option maxRecDepth 100000 in
set_option maxHeartbeats 1600000 in
theorem bs_any (a : Option Addr) (N k : Nat) (T : Nat → GM) (at_ : Int) (w : World) (hg : GV w a N T) (hN : N ≤ 1048576) (hm : ∀ i j, i < j → j < N → (T i).at_ < (T j).at_) :
    Calls Try.prog 113 #[.slice a N k, .int .i64 at_, .func (.func 114) #[] #[]] w (fun e w' => ∃ i : Nat, i ≤ N ∧ Cut T N at_ i i ∧ e = .returned (.tuple #[.int .i64 (i : Int), .bool (decide (i < N ∧ (T i).at_ = at_))]) ∧ Below w.heap.size w w') := by
  have G := Lib.hid hg; have HM := Lib.hid hm
  clear hg hm
  have eg : ∀ args w, (callFunc 114 args).run Try.prog w = .ok (.enter 114 args) w := enters_of Try.func114 (by kernel_rfl) rfl
  go_enter Try.func113, Try.ntmps113
  go_wp2
  go_loopw [9, 10] (fun p r wr => ∃ lo hi : Nat, p = .int .i64 (lo : Int) ∧ r = .int .i64 (hi : Int) ∧ lo ≤ hi ∧ hi ≤ N ∧ Hid (Cut T N at_ lo hi) ∧ Hid (Below w.heap.size w wr)) (fun p r _ => (intOf r).toNat - (intOf p).toNat)
  case atStart => exact ⟨0, N, rfl, rfl, Nat.zero_le _, Nat.le_refl _, ⟨fun j hj => by omega, fun j h1 h2 => by omega⟩, Below.refl _ _⟩
  case round =>
    obtain ⟨lo, hi, rfl, rfl, hlh, hin, HC, HBr⟩ := hrel
    by_cases hlt : lo < hi
    · have hlt' : (lo : Int) < (hi : Int) := by omega
      obtain ⟨b, q, rfl, gs⟩ : ∃ b q, a = some ⟨b, q, none⟩ ∧ GSrc w b q N T := by
        rcases G.out with h0 | h
        · omega
        · exact h
      have six := (gs.six ((lo + hi) / 2) (by omega)).below HBr.out gs.lt
      have HS := Lib.hid six
      clear six gs
      obtain ⟨s0, s1, s2, s3, s4, s5⟩ := HS.out
      by_cases hx : (T ((lo + hi) / 2)).at_ < at_
      · have hs : sgn (T ((lo + hi) / 2)).at_ at_ < 0 := by unfold sgn; rw [if_pos hx]; omega
        have C1 : Hid (Cut T N at_ ((lo + hi) / 2 + 1) hi) := Lib.hid ⟨fun j hj => by
          rcases Nat.lt_or_ge j ((lo + hi) / 2) with h | h
          · exact Int.lt_trans (HM.out j _ h (by omega)) hx
          · rw [show j = (lo + hi) / 2 by omega]; exact hx, HC.out.2⟩
        clear hx HC
        go_wp2_with (go_at_fn 114; refine (fo1_any (T _) at_ _).mono ?_; rintro e w1 ⟨rfl, hb1⟩)
        clear hs s0 s1 s2 s3 s4 s5 HS
        have HB1 := Lib.hid (HBr.out.trans ((Below.refl _ _).trans (hb1.mono HBr.out.size)))
        clear hb1
        go_roundw
        case measure => simp [intOf]; omega
        case rel => exact ⟨(lo + hi) / 2 + 1, hi, by go_num, rfl, by omega, hin, C1, HB1⟩
      · have hs : ¬ sgn (T ((lo + hi) / 2)).at_ at_ < 0 := by unfold sgn; rw [if_neg hx]; split <;> omega
        have C1 : Hid (Cut T N at_ lo ((lo + hi) / 2)) := Lib.hid ⟨HC.out.1, fun j h1 h2 => by
          rcases Nat.lt_or_ge ((lo + hi) / 2) j with h | h
          · exact Int.le_of_lt (Int.lt_of_le_of_lt (by omega) (HM.out _ j h h2))
          · rw [show j = (lo + hi) / 2 by omega]; omega⟩
        clear hx HC
        go_wp2_with (go_at_fn 114; refine (fo1_any (T _) at_ _).mono ?_; rintro e w1 ⟨rfl, hb1⟩)
        clear hs s0 s1 s2 s3 s4 s5 HS
        have HB1 := Lib.hid (HBr.out.trans ((Below.refl _ _).trans (hb1.mono HBr.out.size)))
        clear hb1
        go_roundw
        case measure => simp [intOf]; omega
        case rel => exact ⟨lo, (lo + hi) / 2, rfl, by go_num, by omega, by omega, C1, HB1⟩
    · obtain rfl : hi = lo := by omega
      have hlt' : ¬ (hi : Int) < (hi : Int) := by omega
      by_cases hn : hi < N
      · have hn' : (hi : Int) < (N : Int) := by omega
        obtain ⟨b, q, rfl, gs⟩ : ∃ b q, a = some ⟨b, q, none⟩ ∧ GSrc w b q N T := by
          rcases G.out with h0 | h
          · omega
          · exact h
        have six := (gs.six hi hn).below HBr.out gs.lt
        have HS := Lib.hid six
        clear six gs
        obtain ⟨s0, s1, s2, s3, s4, s5⟩ := HS.out
        obtain ⟨t, ht⟩ : ∃ t, T hi = t := ⟨_, rfl⟩
        rw [ht] at s0 s1 s2 s3 s4 s5
        have HT := Lib.hid ht
        clear ht HS
        have hd : Hid ((sgn t.at_ at_ == 0) = decide (hi < N ∧ (T hi).at_ = at_)) := Lib.hid (by
          rw [HT.out]
          by_cases hx : t.at_ = at_
          · have : sgn t.at_ at_ = 0 := by unfold sgn; rw [if_neg (by omega), if_neg (by omega)]
            rw [this, decide_eq_true ⟨hn, hx⟩]; rfl
          · have : ¬ sgn t.at_ at_ = 0 := by unfold sgn; split; omega; split <;> omega
            rw [decide_eq_false (fun h => hx h.2)]; simpa using this)
        go_wp2_with (go_at_fn 114; refine (fo1_any t at_ _).mono ?_; rintro e w1 ⟨rfl, hb1⟩)
        have HB1 := Lib.hid (HBr.out.trans ((Below.refl _ _).trans (hb1.mono HBr.out.size)))
        go_ret2
        exact ⟨hi, hin, HC.out, by rw [← hd.out]; rfl, HB1.out⟩
      · have hn' : ¬ (hi : Int) < (N : Int) := by omega
        have hd : Hid (false = decide (hi < N ∧ (T hi).at_ = at_)) := Lib.hid (decide_eq_false (fun h => hn h.1)).symm
        go_wp2
        go_ret2
        refine ⟨hi, hin, HC.out, ?_, HBr.out⟩
        rw [decide_eq_false hn]; rfl
end Go.Proofs.Ytlelgfkebcnepaa

namespace Go.Proofs.Ytlelgfkebcnepaa
open Go.RowKit
set_option linter.unusedVariables false

theorem seven_keeps (w : World) (B : Nat) (v0 v1 v2 v3 v4 v5 v6 : Value) : Keeps w (((((((w.setCell ⟨B, 0, none⟩ v0).setCell ⟨B, 1, none⟩ v1).setCell ⟨B, 2, none⟩ v2).setCell ⟨B, 3, none⟩ v3).setCell ⟨B, 4, none⟩ v4).setCell ⟨B, 5, none⟩ v5).setCell ⟨B, 6, none⟩ v6) B (B + 1) := by
  repeat (refine Keeps.trans ?_ (keeps_setCell (p := ⟨B, _, none⟩) (Nat.le_refl B) (Nat.lt_succ_self B) _))
  exact Keeps.refl _ _ _

theorem blk_seven {w : World} {b B : Nat} {cs : List Value} (h : Blk w b cs) (hne : b ≠ B) (v0 v1 v2 v3 v4 v5 v6 : Value) : Blk (((((((w.setCell ⟨B, 0, none⟩ v0).setCell ⟨B, 1, none⟩ v1).setCell ⟨B, 2, none⟩ v2).setCell ⟨B, 3, none⟩ v3).setCell ⟨B, 4, none⟩ v4).setCell ⟨B, 5, none⟩ v5).setCell ⟨B, 6, none⟩ v6) b cs := h.keeps (seven_keeps w B v0 v1 v2 v3 v4 v5 v6) (by omega)

theorem cells5 {w : World} {b : Nat} {v0 v1 v2 v3 v4 : Value} (h : Blk w b [v0, v1, v2, v3, v4]) : w.cell? ⟨b, 0, none⟩ = some v0 ∧ w.cell? ⟨b, 1, none⟩ = some v1 ∧ w.cell? ⟨b, 2, none⟩ = some v2 ∧ w.cell? ⟨b, 3, none⟩ = some v3 ∧ w.cell? ⟨b, 4, none⟩ = some v4 := ⟨h.at 0 rfl, h.at 1 rfl, h.at 2 rfl, h.at 3 rfl, h.at 4 rfl⟩

set_option maxRecDepth 100000 in
set_option maxHeartbeats 400000 in
theorem clone_all (ad : Addr) (n cap : Nat) (f : Nat → Int) (w : World) (hs : Src w (some ad) n f) (hn : n ≤ 1048576) :
    Calls Try.prog 130 #[.slice (some ad) n cap] w (RetInts w n f) := by
  rcases Nat.eq_zero_or_pos n with rfl | hp
  · obtain ⟨i0, hi, hz0, hz1, hz2⟩ := info_parts Try.info2
    have hnil := fun (w : World) (a : Option Addr) (n c : Nat) => Lib.run_eql_slice_nil (P := Try.prog) w 24 2 a n c 0 0 Try.underlying24
    go_enter Try.func130, Try.ntmps130
    go_wp2_with (at_builtin; refine wpList_append_own _ rfl _ _ 24 rfl w.heap.size 2 i0 (.int .i64 0) 1 8 Try.underlying24 hi hz0 hz1 hz2 rfl (by decide) _ 0 [] rfl (World.ownsRow_lit w #[] 0 (Nat.le_refl _) (by simp [maxLen]) rfl) ad 0 cap (nums 0 f) rfl (by simp [nums]) (by intro j u h; simp [nums] at h) (nums_one 0 f) (by unfold maxLen; omega) (by omega) (by simp) ?_; intro v' w1 hown hgrow _)
    go_ret
    exact retInts_of_row (e := 2) (by simpa using hown) (((Below.refl _ _).alloc (Nat.le_refl _) _).grown hgrow (by simp) (by intro k hk; cases hk; exact Nat.le_refl _))
  · exact clone_any (some ad) n cap f w hs hp hn

/-- The first object of a row of words comes back, or a code. -/
def RetFirst (W : World) (n : Nat) (f : Nat → Int) (e : Ending) (w' : World) : Prop :=
  Below W.heap.size W w' ∧ ((Good f n 0 ∧ ∃ a c, e = .returned (.agg #[.int .i64 0, .int .i64 0, .int .i64 (f 0 / 2 % 16), .int .i64 (f 0 / 32 % 4096), .int .i64 (f 0 / 131072), .int .i64 (f 1), .slice a (szOf f 0) c]) ∧ Own w' W.heap.size a (szOf f 0) (fun k => f (2 + k))) ∨
    (¬ Good f n 0 ∧ e = .returned (.agg #[.int .i64 1, .int .i64 0, .int .i64 0, .int .i64 0, .int .i64 0, .int .i64 0, .slice none 0 0])))

set_option maxRecDepth 100000 in
set_option maxHeartbeats 1600000 in
theorem implFirst_any (b off n c : Nat) (f : Nat → Int) (w : World) (hs : Src w (some ⟨b, off, none⟩) n f) (hn : n ≤ 1048576) (hnc : n ≤ c) (hcm : c ≤ maxLen) :
    Calls Try.prog 110 #[.slice (some ⟨b, off, none⟩) n c] w (RetFirst w n f) := by
  have S := Lib.hid hs
  clear hs
  by_cases h2 : n < 2
  · have h2' : (n : Int) < 2 := by omega
    have hb : Hid (¬ Good f n 0) := Lib.hid (fun h => by have := h.1; omega)
    go_enter Try.func110, Try.ntmps110
    go_wp2
    refine bodyPost_ret (v := .agg #[.int .i64 1, .int .i64 0, .int .i64 0, .int .i64 0, .int .i64 0, .int .i64 0, .slice none 0 0]) (by simp [results, Try.results110, go_sem]) rfl ⟨?_, .inr ⟨hb.out, rfl⟩⟩
    repeat (first | (with_reducible refine Below.setCell ?_ (by (try simp); (try omega)) _) | (with_reducible refine Below.alloc ?_ (by (try simp); (try omega)) _) | (with_reducible refine Below.drew ?_))
    exact Below.refl _ _
  · have h2' : ¬ (n : Int) < 2 := by omega
    have h22 : (2 : Int) ≤ (n : Int) := by omega
    have hnc' : (n : Int) ≤ (c : Int) := by omega
    have hc2 : 2 ≤ c := by omega
    have S2 : Hid (Src w (some ⟨b, off, none⟩) 2 f) := S.out.elim (fun h => .inl (by omega)) (fun ⟨b', o', h1, h3, h4⟩ => .inr ⟨b', o', h1, h3, fun i hi => h4 i (by omega)⟩)
    have HCM := Lib.hid hcm
    clear hcm
    by_cases hk : ROk (f 0) (f 1)
    · have hs12 := hk.2.1
      have HK := Lib.hid hk
      clear hk
      go_enter Try.func110, Try.ntmps110
      go_wp2_with fail

      refine (implRH_any (some ⟨b, off, none⟩) 2 c f 0 (f 0 / 2 % 16) (f 0 / 32 % 4096) (f 0 / 131072) (f 1) _ (S2.out.alloc _) (by omega) (.inr (.inl ⟨rfl, HK.out, rfl, rfl, rfl, rfl, rfl⟩))).mono ?_
      rintro e w1 ⟨rfl, hb⟩
      have HB1 := Lib.hid (thru1 (Below.refl _ _) hb)
      have R_1 := Lib.hid ((Blk.new_at (w := w) (cs := #[.int .i64 0, .int .i64 0, .int .i64 0, .int .i64 0, .int .i64 0, .int .i64 0, .slice none 0 0]) (t := 44) (w.heap.size) rfl).below hb)
      have S1 := Lib.hid ((S.out.alloc _).below hb)
      have z1 : w.heap.size + 1 ≤ w1.heap.size := by have := hb.size; simp at this; omega
      clear hb
      by_cases hfit : f 0 / 2 % 16 ≤ (n : Int) - 2
      · obtain ⟨s, hs⟩ : ∃ s : Nat, f 0 / 2 % 16 = (s : Int) := ⟨(f 0 / 2 % 16).toNat, by omega⟩
        have hsz : szOf f 0 = s := by unfold szOf; omega
        have hg : Hid (Good f n 0) := Lib.hid ⟨by omega, HK.out, by rw [hsz]; omega⟩
        rw [hs] at hs12 hfit ⊢
        have HSZ := Lib.hid hsz
        clear hsz
        obtain ⟨m, hm⟩ : ∃ m, f 0 / 32 % 4096 = m := ⟨_, rfl⟩
        obtain ⟨o, ho⟩ : ∃ o, f 0 / 131072 = o := ⟨_, rfl⟩
        rw [hm, ho]
        have HES := Lib.hid hs; have HEM := Lib.hid hm; have HEO := Lib.hid ho
        clear hs hm ho
        have X1 := Lib.hid (Blk.new_at (w := w1) (cs := #[.int .i64 0, .int .i64 (s : Int), .int .i64 m, .int .i64 o, .int .i64 (f 1)]) (t := 167) (w1.heap.size) rfl)
        have R1 := Lib.hid (R_1.out.alloc (.cells #[.int .i64 0, .int .i64 (s : Int), .int .i64 m, .int .i64 o, .int .i64 (f 1)] 167))
        have HBa := Lib.hid (HB1.out.alloc HB1.out.size (.cells #[.int .i64 0, .int .i64 (s : Int), .int .i64 m, .int .i64 o, .int .i64 (f 1)] 167))
        have S3 : Hid (Src (w1.alloc (.cells #[.int .i64 0, .int .i64 (s : Int), .int .i64 m, .int .i64 o, .int .i64 (f 1)] 167)) (some ⟨b, off + 2, none⟩) s (fun k => f (2 + k))) := (S1.out.alloc _).elim (fun h => .inl (by omega)) (fun ⟨b', o', h1, h3, h4⟩ => .inr ⟨b', o' + 2, by cases h1; rfl, h3, fun i hi => by rw [show o' + 2 + i = o' + (2 + i) by omega]; exact h4 (2 + i) (by omega)⟩)
        have X1d := Lib.hid X1.out.drew; have R1d := Lib.hid R1.out.drew; have S3d := Lib.hid S3.out.drew; have HBd := Lib.hid HBa.out.drew
        have zd' : Hid (w.heap.size + 2 ≤ (w1.alloc (.cells #[.int .i64 0, .int .i64 (s : Int), .int .i64 m, .int .i64 o, .int .i64 (f 1)] 167)).drew.heap.size) := Lib.hid (by simp [World.drew]; omega)
        have hne7 : w1.heap.size ≠ w.heap.size := by omega
        have hs0 : (0 : Int) ≤ (s : Int) := by omega
        have hle1 : (2 : Int) ≤ 2 + (s : Int) := by omega
        have hle2 : 2 + (s : Int) ≤ (c : Int) := by omega
        have hs9 : s ≤ 1048576 := by omega
        by_cases hc : c = 2
        · have hz0 : Hid (s = 0) := Lib.hid (by omega)
          have S4d : Hid (Src (w1.alloc (.cells #[.int .i64 0, .int .i64 (s : Int), .int .i64 m, .int .i64 o, .int .i64 (f 1)] 167)).drew (some ⟨b, off, none⟩) s (fun k => f (2 + k))) := Lib.hid (Or.inl hz0.out)
          subst hc
          have lR := R_1.out.1; have cR0 := R_1.out.at 0 rfl; have fR0 := R_1.out.free 0 rfl; have cR1 := R_1.out.at 1 rfl; have fR1 := R_1.out.free 1 rfl; have cR2 := R_1.out.at 2 rfl; have fR2 := R_1.out.free 2 rfl; have cR3 := R_1.out.at 3 rfl; have fR3 := R_1.out.free 3 rfl; have cR4 := R_1.out.at 4 rfl; have fR4 := R_1.out.free 4 rfl; have cR5 := R_1.out.at 5 rfl; have fR5 := R_1.out.free 5 rfl; have cR6 := R_1.out.at 6 rfl; have fR6 := R_1.out.free 6 rfl
          go_wp2_with fail
          clear lR cR0 fR0 cR1 fR1 cR2 fR2 cR3 fR3 cR4 fR4 cR5 fR5 cR6 fR6
          clear hle1 hle2 hfit hs12 hnc' hc2 h22 h2' h2 hn hnc S S2 S1 X1 R1 HBa S3 R_1 HB1 HCM HK hs0
          go_region_held3 (fun w' => w'.cell? ⟨w1.heap.size, 0, none⟩ = some (.int .i64 0) ∧ w'.cell? ⟨w1.heap.size, 1, none⟩ = some (.int .i64 (s : Int)) ∧ w'.cell? ⟨w1.heap.size, 2, none⟩ = some (.int .i64 m) ∧ w'.cell? ⟨w1.heap.size, 3, none⟩ = some (.int .i64 o) ∧ w'.cell? ⟨w1.heap.size, 4, none⟩ = some (.int .i64 (f 1)))
            (first | (with_reducible exact cells5 X1d.out) | (with_reducible exact cells5 X2.out) | (with_reducible exact cells5 (blk_seven X2.out hne7 _ _ _ _ _ _ _)))
            (first | (go_at_call 130; refine (clone_all ⟨b, off, none⟩ s _ (fun k => f (2 + k)) _ S4d.out hs9).mono ?_; rintro e w2 ⟨g, cg, rfl, ho, hb, _, _, _⟩; have HB2 := Lib.hid (HBd.out.trans (hb.mono HBd.out.size)); have X2 := Lib.hid (X1d.out.below hb); have R2 := Lib.hid (R1d.out.below hb); have z2 := hb.size; have HO := Lib.hid (ho.mono zd'.out); clear hb ho; have lR := R2.out.1; have cR0 := R2.out.at 0 rfl; have fR0 := R2.out.free 0 rfl; have cR1 := R2.out.at 1 rfl; have fR1 := R2.out.free 1 rfl; have cR2 := R2.out.at 2 rfl; have fR2 := R2.out.free 2 rfl; have cR3 := R2.out.at 3 rfl; have fR3 := R2.out.free 3 rfl; have cR4 := R2.out.at 4 rfl; have fR4 := R2.out.free 4 rfl; have cR5 := R2.out.at 5 rfl; have fR5 := R2.out.free 5 rfl; have cR6 := R2.out.at 6 rfl; have fR6 := R2.out.free 6 rfl))
          go_wp2
          refine bodyPost_ret (v := .agg #[.int .i64 0, .int .i64 0, .int .i64 (s : Int), .int .i64 m, .int .i64 o, .int .i64 (f 1), .slice g s cg]) (by simp [results, Try.results110, go_sem, cR0, cR1, cR2, cR3, cR4, cR5, cR6]) rfl ⟨?_, .inl ⟨hg.out, g, cg, by rw [HSZ.out, HES.out, HEM.out, HEO.out], ?_⟩⟩
          · repeat (first | (with_reducible refine Below.setCell ?_ (by (try simp); (try omega)) _) | (with_reducible refine Below.alloc ?_ (by (try simp); (try omega)) _) | (with_reducible refine Below.drew ?_))
            exact HB2.out
          · rw [HSZ.out]
            refine Own.mono (B := w.heap.size + 2) ?_ (by omega)
            repeat (first | (with_reducible refine Own.setCell ?_ (by (try simp); (try omega)) _) | (with_reducible refine Own.alloc ?_ _) | (with_reducible refine Own.drew ?_))
            exact HO.out
        · have lR := R_1.out.1; have cR0 := R_1.out.at 0 rfl; have fR0 := R_1.out.free 0 rfl; have cR1 := R_1.out.at 1 rfl; have fR1 := R_1.out.free 1 rfl; have cR2 := R_1.out.at 2 rfl; have fR2 := R_1.out.free 2 rfl; have cR3 := R_1.out.at 3 rfl; have fR3 := R_1.out.free 3 rfl; have cR4 := R_1.out.at 4 rfl; have fR4 := R_1.out.free 4 rfl; have cR5 := R_1.out.at 5 rfl; have fR5 := R_1.out.free 5 rfl; have cR6 := R_1.out.at 6 rfl; have fR6 := R_1.out.free 6 rfl
          go_wp2_with fail
          clear lR cR0 fR0 cR1 fR1 cR2 fR2 cR3 fR3 cR4 fR4 cR5 fR5 cR6 fR6
          clear hle1 hle2 hfit hs12 hnc' hc2 h22 h2' h2 hn hnc S S2 S1 X1 R1 HBa S3 R_1 HB1 HCM HK hs0
          go_region_held3 (fun w' => w'.cell? ⟨w1.heap.size, 0, none⟩ = some (.int .i64 0) ∧ w'.cell? ⟨w1.heap.size, 1, none⟩ = some (.int .i64 (s : Int)) ∧ w'.cell? ⟨w1.heap.size, 2, none⟩ = some (.int .i64 m) ∧ w'.cell? ⟨w1.heap.size, 3, none⟩ = some (.int .i64 o) ∧ w'.cell? ⟨w1.heap.size, 4, none⟩ = some (.int .i64 (f 1)))
            (first | (with_reducible exact cells5 X1d.out) | (with_reducible exact cells5 X2.out) | (with_reducible exact cells5 (blk_seven X2.out hne7 _ _ _ _ _ _ _)))
            (first | (go_at_call 130; refine (clone_all ⟨b, off + 2, none⟩ s _ (fun k => f (2 + k)) _ S3d.out hs9).mono ?_; rintro e w2 ⟨g, cg, rfl, ho, hb, _, _, _⟩; have HB2 := Lib.hid (HBd.out.trans (hb.mono HBd.out.size)); have X2 := Lib.hid (X1d.out.below hb); have R2 := Lib.hid (R1d.out.below hb); have z2 := hb.size; have HO := Lib.hid (ho.mono zd'.out); clear hb ho; have lR := R2.out.1; have cR0 := R2.out.at 0 rfl; have fR0 := R2.out.free 0 rfl; have cR1 := R2.out.at 1 rfl; have fR1 := R2.out.free 1 rfl; have cR2 := R2.out.at 2 rfl; have fR2 := R2.out.free 2 rfl; have cR3 := R2.out.at 3 rfl; have fR3 := R2.out.free 3 rfl; have cR4 := R2.out.at 4 rfl; have fR4 := R2.out.free 4 rfl; have cR5 := R2.out.at 5 rfl; have fR5 := R2.out.free 5 rfl; have cR6 := R2.out.at 6 rfl; have fR6 := R2.out.free 6 rfl))
          go_wp2
          refine bodyPost_ret (v := .agg #[.int .i64 0, .int .i64 0, .int .i64 (s : Int), .int .i64 m, .int .i64 o, .int .i64 (f 1), .slice g s cg]) (by simp [results, Try.results110, go_sem, cR0, cR1, cR2, cR3, cR4, cR5, cR6]) rfl ⟨?_, .inl ⟨hg.out, g, cg, by rw [HSZ.out, HES.out, HEM.out, HEO.out], ?_⟩⟩
          · repeat (first | (with_reducible refine Below.setCell ?_ (by (try simp); (try omega)) _) | (with_reducible refine Below.alloc ?_ (by (try simp); (try omega)) _) | (with_reducible refine Below.drew ?_))
            exact HB2.out
          · rw [HSZ.out]
            refine Own.mono (B := w.heap.size + 2) ?_ (by omega)
            repeat (first | (with_reducible refine Own.setCell ?_ (by (try simp); (try omega)) _) | (with_reducible refine Own.alloc ?_ _) | (with_reducible refine Own.drew ?_))
            exact HO.out
      · have hs12' := hs12
        have hb : Hid (¬ Good f n 0) := Lib.hid (fun h => by have h3 := h.2.2; unfold szOf at h3; omega)
        have hd : (n : Int) - 2 < f 0 / 2 % 16 := by omega
        have lR := R_1.out.1; have cR0 := R_1.out.at 0 rfl; have fR0 := R_1.out.free 0 rfl; have cR1 := R_1.out.at 1 rfl; have fR1 := R_1.out.free 1 rfl; have cR2 := R_1.out.at 2 rfl; have fR2 := R_1.out.free 2 rfl; have cR3 := R_1.out.at 3 rfl; have fR3 := R_1.out.free 3 rfl; have cR4 := R_1.out.at 4 rfl; have fR4 := R_1.out.free 4 rfl; have cR5 := R_1.out.at 5 rfl; have fR5 := R_1.out.free 5 rfl; have cR6 := R_1.out.at 6 rfl; have fR6 := R_1.out.free 6 rfl
        go_wp2
        refine bodyPost_ret (v := .agg #[.int .i64 1, .int .i64 0, .int .i64 0, .int .i64 0, .int .i64 0, .int .i64 0, .slice none 0 0]) (by simp [results, Try.results110, go_sem, lR, cR0, cR1, cR2, cR3, cR4, cR5, cR6]) rfl ⟨?_, .inr ⟨hb.out, rfl⟩⟩
        repeat (first | (with_reducible refine Below.setCell ?_ (by (try simp); (try omega)) _) | (with_reducible refine Below.alloc ?_ (by (try simp); (try omega)) _) | (with_reducible refine Below.drew ?_))
        exact HB1.out
    · have HK := Lib.hid hk
      clear hk
      have hb : Hid (¬ Good f n 0) := Lib.hid (fun h => HK.out h.2.1)
      go_enter Try.func110, Try.ntmps110
      go_wp2_with fail

      refine (implRH_any (some ⟨b, off, none⟩) 2 c f 1 0 0 0 0 _ (S2.out.alloc _) (by omega) (.inr (.inr ⟨rfl, HK.out, rfl, rfl, rfl, rfl, rfl⟩))).mono ?_
      rintro e w1 ⟨rfl, hb⟩
      have HB1 := Lib.hid (thru1 (Below.refl _ _) hb)
      have R_1 := Lib.hid ((Blk.new_at (w := w) (cs := #[.int .i64 0, .int .i64 0, .int .i64 0, .int .i64 0, .int .i64 0, .int .i64 0, .slice none 0 0]) (t := 44) (w.heap.size) rfl).below hb)
      have S1 := Lib.hid ((S.out.alloc _).below hb)
      have z1 : w.heap.size + 1 ≤ w1.heap.size := by have := hb.size; simp at this; omega
      clear hb
      have lR := R_1.out.1; have cR0 := R_1.out.at 0 rfl; have fR0 := R_1.out.free 0 rfl; have cR1 := R_1.out.at 1 rfl; have fR1 := R_1.out.free 1 rfl; have cR2 := R_1.out.at 2 rfl; have fR2 := R_1.out.free 2 rfl; have cR3 := R_1.out.at 3 rfl; have fR3 := R_1.out.free 3 rfl; have cR4 := R_1.out.at 4 rfl; have fR4 := R_1.out.free 4 rfl; have cR5 := R_1.out.at 5 rfl; have fR5 := R_1.out.free 5 rfl; have cR6 := R_1.out.at 6 rfl; have fR6 := R_1.out.free 6 rfl
      go_wp2
      refine bodyPost_ret (v := .agg #[.int .i64 1, .int .i64 0, .int .i64 0, .int .i64 0, .int .i64 0, .int .i64 0, .slice none 0 0]) (by simp [results, Try.results110, go_sem, lR, cR0, cR1, cR2, cR3, cR4, cR5, cR6]) rfl ⟨?_, .inr ⟨hb.out, rfl⟩⟩
      repeat (first | (with_reducible refine Below.setCell ?_ (by (try simp); (try omega)) _) | (with_reducible refine Below.alloc ?_ (by (try simp); (try omega)) _) | (with_reducible refine Below.drew ?_))
      exact HB1.out
end Go.Proofs.Ytlelgfkebcnepaa

