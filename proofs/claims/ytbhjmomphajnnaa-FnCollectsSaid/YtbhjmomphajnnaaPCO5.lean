/- Texts merged: U2 to X8. -/
import Derived.Test.YtbhjmomphajnnaaPCO4
import Derived.Laws.IdiomCopy
namespace Go.Proofs.Ytbhjmomphajnnaa
open Go.RowKit Go.Maps
set_option linter.unusedVariables false

def RetDR (W : World) (e : Ending) (w' : World) : Prop :=
  ∃ (h ac bu : Int) (n c : Nat) (a : Option Addr) (f : Nat → Int) (l : List Int) (ra : Option Addr) (rc : Nat), e = .returned (.tuple #[.agg #[.int .i64 h, .slice a n c, .int .i64 ac, .int .i64 bu], .slice ra l.length rc]) ∧ Own w' W.heap.size a n f ∧ Own w' W.heap.size ra l.length (lf l) ∧ Below W.heap.size W w' ∧ n ≤ 120 ∧ n ≤ c ∧ c ≤ maxLen ∧ l.length ≤ 100

/-- What is carried through the draw: the source, the bytes, the arena, the answer's block, the arena's words, the roots. -/
structure DS (W w : World) (ca : Option Addr) (k kc : Nat) (B : Nat → Int) (t P : Nat) (h ac bu : Int) (a : Option Addr) (n c : Nat) (f : Nat → Int) (u : Value) (l : List Int) : Prop where
  bel : Below W.heap.size W w
  src : Blk w (W.heap.size + 1) [.slice ca k kc, .int .i64 (t : Int)]
  byt : SrcB w (W.heap.size + 1) ca k B
  arn : Blk w P [.int .i64 h, .slice a n c, .int .i64 ac, .int .i64 bu]
  res : Blk w W.heap.size [.int .i64 0, .slice none 0 0, .int .i64 0, .int .i64 0]
  wrd : OwnIn w (W.heap.size + 2) P a n f
  row : w.ownsRow (P + 1) 2 1 u l.length (nums l.length (lf l))
  hP : W.heap.size + 2 ≤ P

theorem DS.below {W w w' : World} {ca : Option Addr} {k kc t P : Nat} {B f : Nat → Int} {h ac bu : Int} {a : Option Addr} {n c : Nat} {u : Value} {l : List Int} (d : DS W w ca k kc B t P h ac bu a n c f u l) (hb : Below w.heap.size w w') : DS W w' ca k kc B t P h ac bu a n c f u l :=
  ⟨d.bel.trans (hb.mono d.bel.size), d.src.below hb, d.byt.below hb, d.arn.below hb, d.res.below hb, d.wrd.below hb, ownsRow_below d.row hb, d.hP⟩

theorem DS.next {W w w' : World} {ca : Option Addr} {k kc t t' P : Nat} {B f : Nat → Int} {h ac bu : Int} {a : Option Addr} {n c : Nat} {u : Value} {l : List Int} (d : DS W w ca k kc B t P h ac bu a n c f u l) (hk : Keeps w w' (W.heap.size + 1) (W.heap.size + 1 + 1)) (hs : Blk w' (W.heap.size + 1) [.slice ca k kc, .int .i64 (t' : Int)]) : DS W w' ca k kc B t' P h ac bu a n c f u l := by
  have hP := d.hP
  exact ⟨d.bel.trans (hk.below (by omega) d.bel.size), hs, d.byt.keeps hk (Nat.le_refl _), d.arn.keeps hk (by omega), d.res.keeps hk (by omega), d.wrd.keeps hk (by omega), d.row.kept (keeps_grown hk) (.inr (fun e => by have := (d.row.lt _ e).1; omega)), d.hP⟩

theorem DS.append {W w w' : World} {o : Obj} {ca : Option Addr} {k kc t P : Nat} {B f : Nat → Int} {h ac bu : Int} {a : Option Addr} {n c : Nat} {u u' : Value} {l l' : List Int} (d : DS W w ca k kc B t P h ac bu a n c f u l) (hg : (w.alloc o).grownBy w' u.ownBlock) (hr : w'.ownsRow (P + 1) 2 1 u' l'.length (nums l'.length (lf l'))) : DS W w' ca k kc B t P h ac bu a n c f u' l' := by
  have hP := d.hP
  have hPw := d.arn.1
  have hz : w.heap.size ≤ w'.heap.size := by have := hg.size; simp at this; omega
  have hk : Keeps w w' (P + 1) w'.heap.size := ⟨hg.os, hg.tape, hg.output, hz, fun q hq hd => by
    rcases hd with hd | hd
    · exact (hg.block q (by simp; omega) (fun e => by have := (d.row.lt q e.symm).1; omega)).trans (Below.heap_alloc _ _ _ hq)
    · omega⟩
  exact ⟨d.bel.trans (hk.below (by omega) d.bel.size), d.src.keeps hk (.inl (by omega)), d.byt.keeps hk (by omega), d.arn.keeps hk (.inl (by omega)), d.res.keeps hk (.inl (by omega)), d.wrd.keeps hk (.inl (by omega)), hr, d.hP⟩

set_option maxRecDepth 100000 in
set_option maxHeartbeats 6400000 in
theorem drawRF_any' (ca : Option Addr) (k kc : Nat) (B : Nat → Int) (w : World) (hs : SrcB w w.heap.size ca k B) (hk0 : k ≤ 1048576) :
    Calls Try.prog 56 #[.slice ca k kc] w (RetDR w) := by
  have B_0 := Lib.hid hs
  obtain ⟨i0, hif, hz0, hz1, hz2⟩ := info_parts Try.info2
  clear hs
  go_enter Try.func56, Try.ntmps56
  go_wp2_with fail
  refine (source_any ca k kc _).mono ?_
  rintro e w' ⟨rfl, rfl⟩
  go_wp2_with fail
  refine (bent3_any (w.heap.size + 1) (w.heap.size + 1) ca k kc 0 B _ (Blk.new_at (w.heap.size + 1) (by simp)) (((B_0.out.alloc _).alloc _).mono (by omega)) (Nat.le_refl _) hk0 (by omega)).mono ?_
  rintro e w1 ⟨h, ac, bu, n, c, t, a, f, rfl, ho, hB, ht, hk, hn, hnc, hcm⟩
  have z1 : w.heap.size + 2 ≤ w1.heap.size := by have := hk.size; simp at this; omega
  have HB_1 : Hid (Below w.heap.size w w1) := (((Below.refl _ _).alloc (Nat.le_refl _) _).alloc (by simp) _).trans (hk.below (by omega) (by simp; omega))
  have S_1 := Lib.hid hB
  have B_1 : Hid (SrcB w1 (w.heap.size + 1) ca k B) := (((B_0.out.alloc _).alloc _).mono (by omega)).keeps hk (Nat.le_refl _)
  have R_1 := Lib.hid (((Blk.new_at (w.heap.size) rfl).alloc _).keeps hk (by omega))
  have RW_1 : Hid (OwnIn w1 (w.heap.size + 2) w1.heap.size a n f) := ho.widen (by simp) (Nat.le_refl _)
  clear ho hB hk B_0
  have D2 : Hid (DS w ((w1.alloc (.cells #[.int .i64 h, .slice a n c, .int .i64 ac, .int .i64 bu] 26)).alloc (.cells #[] 2)) ca k kc B t w1.heap.size h ac bu a n c f (.slice (some ⟨w1.heap.size + 1, 0, none⟩) 0 0) []) := Lib.hid
    ⟨(HB_1.out.alloc HB_1.out.size _).alloc (by have := HB_1.out.size; simp; omega) _, (S_1.out.alloc _).alloc _, (B_1.out.alloc _).alloc _, (Blk.new_at (w := w1) (w1.heap.size) rfl).alloc _, (R_1.out.alloc _).alloc _, (RW_1.out.alloc _).alloc _,
      (by have h9 := World.ownsRow_lit (w1.alloc (.cells #[.int .i64 h, .slice a n c, .int .i64 ac, .int .i64 bu] 26)) (e := 2) (size := 1) #[] 0 (Nat.le_refl _) (by simp [maxLen]) rfl; have e9 : (w1.alloc (.cells #[.int .i64 h, .slice a n c, .int .i64 ac, .int .i64 bu] 26)).heap.size = w1.heap.size + 1 := (by simp); rw [e9] at h9; exact h9), z1⟩
  clear HB_1 S_1 B_1 R_1 RW_1
  obtain ⟨kf, hkf⟩ := isFault_some h n f ac bu
  have HKF := Lib.hid hkf
  clear hkf
  have hT0 := D2.out.arn; have cT0 := hT0.at 0 rfl; have cT1 := hT0.at 1 rfl; have cT2 := hT0.at 2 rfl; have cT3 := hT0.at 3 rfl
  clear hT0
  go_wp2_with fail
  clear cT0 cT1 cT2 cT3
  generalize (w1.alloc (.cells #[.int .i64 h, .slice a n c, .int .i64 ac, .int .i64 bu] 26)).alloc (.cells #[] 2) = w2 at *
  refine (specFault_any h ac bu a n c f kf _ D2.out.wrd.src HKF.out).mono ?_
  rintro e w3 ⟨rfl, hb⟩
  have D3 := Lib.hid (D2.out.below hb)
  clear hb D2
  by_cases hkf0 : kf = 0
  · subst hkf0
    go_wp2_with fail
    refine (roots_any (w.heap.size + 1) (w.heap.size + 1) ca k kc t B w1.heap.size (w.heap.size + 2) w1.heap.size h ac bu a n c f _ D3.out.src D3.out.byt (Nat.le_refl _) hk0 (by omega) D3.out.arn (by omega) D3.out.wrd (Nat.le_refl _) (by have := D3.out.arn.1; omega) HKF.out hnc hcm).mono ?_
    rintro e w4 ⟨u, l, t4, rfl, how, hl4, hB, ht4, hk⟩
    have D4 : Hid (DS w w4 ca k kc B t4 w1.heap.size h ac bu a n c f u l) := Lib.hid (by
      have d := D3.out.next hk hB
      exact ⟨d.bel, d.src, d.byt, d.arn, d.res, d.wrd, ⟨how.1, by
        rcases how.2 with h0 | ⟨g, cap, cur, e1, e2, e3⟩
        · exact .inl h0
        · exact .inr ⟨g, cap, cur, e1, by have := D3.out.arn.1; omega, e3⟩⟩, d.hP⟩)
    clear how hB hk D3
    go_wp2_with fail
    refine (next_is 14 (w.heap.size + 1) (w.heap.size + 1) ca k kc t4 14 B _ rfl D4.out.src D4.out.byt (Nat.le_refl _) hk0 (by omega) (by omega) (by omega)).mono ?_
    rintro e w5 ⟨v, rfl, hv, hB, hk⟩
    have D5 : Hid (DS w w5 ca k kc B (t4 + 1) w1.heap.size h ac bu a n c f u l) := Lib.hid (D4.out.next hk (by have := hB; simpa using this))
    clear hB hk D4
    by_cases hv0 : v = 0
    · subst hv0
      go_wp2_with fail
      refine (of_any [1, -1, 400] (w.heap.size + 1) (w.heap.size + 1) _ ca k kc (t4 + 1) 3 B _ _ D5.out.src D5.out.byt (Nat.le_refl _) hk0 (by omega) rfl (by simp) (by simp) rfl rfl).mono ?_
      rintro e w6 ⟨x, rfl, mx, hB, hk⟩
      have D6 : Hid (DS w w6 ca k kc B (t4 + 1 + 1) w1.heap.size h ac bu a n c f u l) := Lib.hid ((D5.out.below ((Below.refl _ _).alloc (Nat.le_refl _) _)).next hk (by have := hB; simpa using this))
      have h6 := D6.out.arn.1
      clear hB hk D5 mx
      go_upto_region 14 with (at_builtin; go_loud (refine wpList_append_lies _ rfl _ _ 24 rfl (w1.heap.size + 1) 2 i0 (.int .i64 0) 1 8 Try.underlying24 hif hz0 hz1 hz2 rfl (by decide) u l.length (nums l.length (lf l)) rfl (ownsRow_below D6.out.row ((Below.refl _ _).alloc (Nat.le_refl _) _)) ⟨w6.heap.size, 0, none⟩ 1 1 [.int .i64 x] rfl rfl (news1 w6 x) (by intro u hu; simp only [List.mem_cons, List.mem_nil_iff, or_false] at hu; subst hu; rfl) (by omega) (by unfold maxLen; omega) (by omega) (by simp; omega) (w6.heap.size + 1) (by simp) ?_); intro g9 cap9 w9 hown9 hgrow9 hat9 hlt9)
      have D9 : Hid (DS w w9 ca k kc B (t4 + 1 + 1) w1.heap.size h ac bu a n c f (.slice (some ⟨g9, 0, none⟩) (l.length + 1) cap9) (l ++ [x])) := Lib.hid (D6.out.append hgrow9 (by rw [show (l ++ [x]).length = l.length + 1 by simp, ← nums_snoc]; exact hown9))
      clear hown9 hgrow9 hat9 D6
      generalize hu9 : Value.slice (some ⟨g9, 0, none⟩) (l.length + 1) cap9 = u9 at *
      clear hu9
      obtain ⟨ra, rc, hrv, _⟩ := row_shape D9.out.row
      first | subst hrv | (have hrv' := hrv.symm; simp only [Value.slice.injEq, true_and] at hrv'; obtain ⟨rfl, rfl⟩ := hrv'; clear hrv)
      have HO := Lib.hid (own_of_row D9.out.row)
      have hT := D9.out.arn; have cT0 := hT.at 0 rfl; have cT1 := hT.at 1 rfl; have cT2 := hT.at 2 rfl; have cT3 := hT.at 3 rfl; have lT := hT.1
      have hR := D9.out.res; have cR0 := hR.at 0 rfl; have fR0 := hR.free 0 rfl; have cR1 := hR.at 1 rfl; have fR1 := hR.free 1 rfl; have cR2 := hR.at 2 rfl; have fR2 := hR.free 2 rfl; have cR3 := hR.at 3 rfl; have fR3 := hR.free 3 rfl; have lR := hR.1
      have hz := D9.out.bel.size
      have hPw := D9.out.hP
      clear hT hR
      go_wp2
      refine bodyPost_ret (v := .tuple #[.agg #[.int .i64 h, .slice a n c, .int .i64 ac, .int .i64 bu], .slice ra (l ++ [x]).length rc]) (by simp [results, Try.results56, go_sem, cR0, cR1, cR2, cR3]) rfl ⟨h, ac, bu, n, c, a, f, (l ++ [x]), ra, rc, rfl, ?_, ?_, ?_, hn, hnc, hcm, by simp; omega⟩
      · refine Own.mono (B := w.heap.size + 2) ?_ (by omega)
        repeat (first | (with_reducible refine Own.setCell ?_ (by (try simp); (try omega)) _) | (with_reducible refine Own.alloc ?_ _) | (with_reducible refine Own.drew ?_))
        exact (D9.out.wrd.widen (Nat.le_refl _) (Nat.le_of_lt D9.out.arn.1)).out
      · refine Own.mono (B := w1.heap.size + 1) ?_ (by omega)
        repeat (first | (with_reducible refine Own.setCell ?_ (by (try simp); (try omega)) _) | (with_reducible refine Own.alloc ?_ _) | (with_reducible refine Own.drew ?_))
        exact HO.out
      · repeat (first | (with_reducible refine Below.setCell ?_ (by (try simp); (try omega)) _) | (with_reducible refine Below.alloc ?_ (by (try simp); (try omega)) _) | (with_reducible refine Below.drew ?_))
        exact D9.out.bel
    · have hv0' : ((v : Int) == 0) = false := by simp; omega
      by_cases hv1 : v = 1
      · subst hv1
        obtain ⟨ua, uc, hu0, _⟩ := row_shape D5.out.row
        subst hu0
        by_cases hl0 : 0 < l.length
        · have hl0' : (0 : Int) < (l.length : Int) := by omega
          go_wp2_with fail
          refine (of_any [60, 61] (w.heap.size + 1) (w.heap.size + 1) _ ca k kc (t4 + 1) 2 B _ _ D5.out.src D5.out.byt (Nat.le_refl _) hk0 (by omega) rfl (by simp) (by simp) rfl rfl).mono ?_
          rintro e w6 ⟨x, rfl, mx, hB, hk⟩
          have D6 : Hid (DS w w6 ca k kc B (t4 + 1 + 1) w1.heap.size h ac bu a n c f (.slice ua l.length uc) l) := Lib.hid ((D5.out.below ((Below.refl _ _).alloc (Nat.le_refl _) _)).next hk (by have := hB; simpa using this))
          have hx : 60 ≤ x ∧ x ≤ 61 := by simp at mx; omega
          obtain ⟨X, rfl⟩ : ∃ X : Nat, x = (X : Int) := ⟨x.toNat, by omega⟩
          clear hB hk D5 mx
          go_wp2
          go_loopw [6] (fun u wr => ∃ l' : List Int, Hid (DS w wr ca k kc B (t4 + 1 + 1) w1.heap.size h ac bu a n c f u l') ∧ 0 < l'.length ∧ l'.length ≤ 61) (fun u _ => X - (match u with | .slice _ n _ => n | _ => 0))
          case atStart => exact ⟨l, D6, hl0, by omega⟩
          case round =>
            obtain ⟨l', D7, hp7, hl7⟩ := hrel
            clear D6
            obtain ⟨ra7, rc7, hrv7, _⟩ := row_shape D7.out.row
            subst hrv7
            by_cases hlX : l'.length < X
            · have hlX' : (l'.length : Int) < (X : Int) := by omega
              obtain ⟨b7, o7, rfl, hb7, hc7⟩ := src_some (own_of_row D7.out.row).src hp7
              have c7 := hc7 0 hp7
              rw [Nat.add_zero] at c7
              have hp7' : (0 : Int) < (l'.length : Int) := by omega
              have h7 := D7.out.arn.1
              generalize lf l' 0 = y at *
              clear hc7
              go_wp2_with (at_builtin; go_loud (refine wpList_append_lies _ rfl _ _ 24 rfl (w1.heap.size + 1) 2 i0 (.int .i64 0) 1 8 Try.underlying24 hif hz0 hz1 hz2 rfl (by decide) (.slice (some ⟨b7, o7, none⟩) l'.length rc7) l'.length (nums l'.length (lf l')) rfl (ownsRow_below D7.out.row ((Below.refl _ _).alloc (Nat.le_refl _) _)) ⟨wr.heap.size, 0, none⟩ 1 1 [.int .i64 y] rfl rfl (news1 wr y) (by intro u hu; simp only [List.mem_cons, List.mem_nil_iff, or_false] at hu; subst hu; rfl) (by omega) (by unfold maxLen; omega) (by omega) (by simp; omega) (wr.heap.size + 1) (by simp) ?_); intro g9 cap9 w9 hown9 hgrow9 hat9 hlt9)
              have D9 : Hid (DS w w9 ca k kc B (t4 + 1 + 1) w1.heap.size h ac bu a n c f (.slice (some ⟨g9, 0, none⟩) (l'.length + 1) cap9) (l' ++ [y])) := Lib.hid (D7.out.append hgrow9 (by rw [show (l' ++ [y]).length = l'.length + 1 by simp, ← nums_snoc]; exact hown9))
              clear hown9 hgrow9 hat9 D7 c7
              go_wp2
              go_roundw
              case rel => first | exact ⟨l' ++ [y], D9, by simp, by simp; omega⟩ | ((repeat apply Exists.intro); exact ⟨⟨l' ++ [y], D9, by simp, by simp; omega⟩, rfl⟩)
              case measure => simp; omega
            · have hlX' : ¬ (l'.length : Int) < (X : Int) := by omega
              obtain ⟨ra, rc, hrv, _⟩ := row_shape D7.out.row
              first | subst hrv | (have hrv' := hrv.symm; simp only [Value.slice.injEq, true_and] at hrv'; obtain ⟨rfl, rfl⟩ := hrv'; clear hrv)
              have HO := Lib.hid (own_of_row D7.out.row)
              have hT := D7.out.arn; have cT0 := hT.at 0 rfl; have cT1 := hT.at 1 rfl; have cT2 := hT.at 2 rfl; have cT3 := hT.at 3 rfl; have lT := hT.1
              have hR := D7.out.res; have cR0 := hR.at 0 rfl; have fR0 := hR.free 0 rfl; have cR1 := hR.at 1 rfl; have fR1 := hR.free 1 rfl; have cR2 := hR.at 2 rfl; have fR2 := hR.free 2 rfl; have cR3 := hR.at 3 rfl; have fR3 := hR.free 3 rfl; have lR := hR.1
              have hz := D7.out.bel.size
              have hPw := D7.out.hP
              clear hT hR
              go_wp2
              refine bodyPost_ret (v := .tuple #[.agg #[.int .i64 h, .slice a n c, .int .i64 ac, .int .i64 bu], .slice ra l'.length rc]) (by simp [results, Try.results56, go_sem, cR0, cR1, cR2, cR3]) rfl ⟨h, ac, bu, n, c, a, f, l', ra, rc, rfl, ?_, ?_, ?_, hn, hnc, hcm, by omega⟩
              · refine Own.mono (B := w.heap.size + 2) ?_ (by omega)
                repeat (first | (with_reducible refine Own.setCell ?_ (by (try simp); (try omega)) _) | (with_reducible refine Own.alloc ?_ _) | (with_reducible refine Own.drew ?_))
                exact (D7.out.wrd.widen (Nat.le_refl _) (Nat.le_of_lt D7.out.arn.1)).out
              · refine Own.mono (B := w1.heap.size + 1) ?_ (by omega)
                repeat (first | (with_reducible refine Own.setCell ?_ (by (try simp); (try omega)) _) | (with_reducible refine Own.alloc ?_ _) | (with_reducible refine Own.drew ?_))
                exact HO.out
              · repeat (first | (with_reducible refine Below.setCell ?_ (by (try simp); (try omega)) _) | (with_reducible refine Below.alloc ?_ (by (try simp); (try omega)) _) | (with_reducible refine Below.drew ?_))
                exact D7.out.bel
        · have hl0' : ¬ (0 : Int) < (l.length : Int) := by omega
          obtain ⟨ra, rc, hrv, _⟩ := row_shape D5.out.row
          first | subst hrv | (have hrv' := hrv.symm; simp only [Value.slice.injEq, true_and] at hrv'; obtain ⟨rfl, rfl⟩ := hrv'; clear hrv)
          have HO := Lib.hid (own_of_row D5.out.row)
          have hT := D5.out.arn; have cT0 := hT.at 0 rfl; have cT1 := hT.at 1 rfl; have cT2 := hT.at 2 rfl; have cT3 := hT.at 3 rfl; have lT := hT.1
          have hR := D5.out.res; have cR0 := hR.at 0 rfl; have fR0 := hR.free 0 rfl; have cR1 := hR.at 1 rfl; have fR1 := hR.free 1 rfl; have cR2 := hR.at 2 rfl; have fR2 := hR.free 2 rfl; have cR3 := hR.at 3 rfl; have fR3 := hR.free 3 rfl; have lR := hR.1
          have hz := D5.out.bel.size
          have hPw := D5.out.hP
          clear hT hR
          go_wp2
          refine bodyPost_ret (v := .tuple #[.agg #[.int .i64 h, .slice a n c, .int .i64 ac, .int .i64 bu], .slice ra l.length rc]) (by simp [results, Try.results56, go_sem, cR0, cR1, cR2, cR3]) rfl ⟨h, ac, bu, n, c, a, f, l, ra, rc, rfl, ?_, ?_, ?_, hn, hnc, hcm, by omega⟩
          · refine Own.mono (B := w.heap.size + 2) ?_ (by omega)
            repeat (first | (with_reducible refine Own.setCell ?_ (by (try simp); (try omega)) _) | (with_reducible refine Own.alloc ?_ _) | (with_reducible refine Own.drew ?_))
            exact (D5.out.wrd.widen (Nat.le_refl _) (Nat.le_of_lt D5.out.arn.1)).out
          · refine Own.mono (B := w1.heap.size + 1) ?_ (by omega)
            repeat (first | (with_reducible refine Own.setCell ?_ (by (try simp); (try omega)) _) | (with_reducible refine Own.alloc ?_ _) | (with_reducible refine Own.drew ?_))
            exact HO.out
          · repeat (first | (with_reducible refine Below.setCell ?_ (by (try simp); (try omega)) _) | (with_reducible refine Below.alloc ?_ (by (try simp); (try omega)) _) | (with_reducible refine Below.drew ?_))
            exact D5.out.bel
      · have hv1' : ((v : Int) == 1) = false := by simp; omega
        obtain ⟨ra, rc, hrv, _⟩ := row_shape D5.out.row
        first | subst hrv | (have hrv' := hrv.symm; simp only [Value.slice.injEq, true_and] at hrv'; obtain ⟨rfl, rfl⟩ := hrv'; clear hrv)
        have HO := Lib.hid (own_of_row D5.out.row)
        have hT := D5.out.arn; have cT0 := hT.at 0 rfl; have cT1 := hT.at 1 rfl; have cT2 := hT.at 2 rfl; have cT3 := hT.at 3 rfl; have lT := hT.1
        have hR := D5.out.res; have cR0 := hR.at 0 rfl; have fR0 := hR.free 0 rfl; have cR1 := hR.at 1 rfl; have fR1 := hR.free 1 rfl; have cR2 := hR.at 2 rfl; have fR2 := hR.free 2 rfl; have cR3 := hR.at 3 rfl; have fR3 := hR.free 3 rfl; have lR := hR.1
        have hz := D5.out.bel.size
        have hPw := D5.out.hP
        clear hT hR
        go_wp2
        refine bodyPost_ret (v := .tuple #[.agg #[.int .i64 h, .slice a n c, .int .i64 ac, .int .i64 bu], .slice ra l.length rc]) (by simp [results, Try.results56, go_sem, cR0, cR1, cR2, cR3]) rfl ⟨h, ac, bu, n, c, a, f, l, ra, rc, rfl, ?_, ?_, ?_, hn, hnc, hcm, by omega⟩
        · refine Own.mono (B := w.heap.size + 2) ?_ (by omega)
          repeat (first | (with_reducible refine Own.setCell ?_ (by (try simp); (try omega)) _) | (with_reducible refine Own.alloc ?_ _) | (with_reducible refine Own.drew ?_))
          exact (D5.out.wrd.widen (Nat.le_refl _) (Nat.le_of_lt D5.out.arn.1)).out
        · refine Own.mono (B := w1.heap.size + 1) ?_ (by omega)
          repeat (first | (with_reducible refine Own.setCell ?_ (by (try simp); (try omega)) _) | (with_reducible refine Own.alloc ?_ _) | (with_reducible refine Own.drew ?_))
          exact HO.out
        · repeat (first | (with_reducible refine Below.setCell ?_ (by (try simp); (try omega)) _) | (with_reducible refine Below.alloc ?_ (by (try simp); (try omega)) _) | (with_reducible refine Below.drew ?_))
          exact D5.out.bel
  · have hkf' : (kf == 0) = false := by simpa using hkf0
    generalize hu : Value.slice (some ⟨w1.heap.size + 1, 0, none⟩) 0 0 = u at *
    obtain ⟨l, hl⟩ : ∃ l : List Int, l = [] := ⟨_, rfl⟩
    rw [← hl] at D3
    have hl4 : l.length ≤ 4 := by rw [hl]; simp
    clear hl hu
    go_wp2_with fail
    refine (next_is 14 (w.heap.size + 1) (w.heap.size + 1) ca k kc t 14 B _ rfl D3.out.src D3.out.byt (Nat.le_refl _) hk0 (by omega) (by omega) (by omega)).mono ?_
    rintro e w5 ⟨v, rfl, hv, hB, hk⟩
    have D5 : Hid (DS w w5 ca k kc B (t + 1) w1.heap.size h ac bu a n c f u l) := Lib.hid (D3.out.next hk (by have := hB; simpa using this))
    clear hB hk D3
    by_cases hv0 : v = 0
    · subst hv0
      go_wp2_with fail
      refine (of_any [1, -1, 400] (w.heap.size + 1) (w.heap.size + 1) _ ca k kc (t + 1) 3 B _ _ D5.out.src D5.out.byt (Nat.le_refl _) hk0 (by omega) rfl (by simp) (by simp) rfl rfl).mono ?_
      rintro e w6 ⟨x, rfl, mx, hB, hk⟩
      have D6 : Hid (DS w w6 ca k kc B (t + 1 + 1) w1.heap.size h ac bu a n c f u l) := Lib.hid ((D5.out.below ((Below.refl _ _).alloc (Nat.le_refl _) _)).next hk (by have := hB; simpa using this))
      have h6 := D6.out.arn.1
      clear hB hk D5 mx
      go_upto_region 14 with (at_builtin; go_loud (refine wpList_append_lies _ rfl _ _ 24 rfl (w1.heap.size + 1) 2 i0 (.int .i64 0) 1 8 Try.underlying24 hif hz0 hz1 hz2 rfl (by decide) u l.length (nums l.length (lf l)) rfl (ownsRow_below D6.out.row ((Below.refl _ _).alloc (Nat.le_refl _) _)) ⟨w6.heap.size, 0, none⟩ 1 1 [.int .i64 x] rfl rfl (news1 w6 x) (by intro u hu; simp only [List.mem_cons, List.mem_nil_iff, or_false] at hu; subst hu; rfl) (by omega) (by unfold maxLen; omega) (by omega) (by simp; omega) (w6.heap.size + 1) (by simp) ?_); intro g9 cap9 w9 hown9 hgrow9 hat9 hlt9)
      have D9 : Hid (DS w w9 ca k kc B (t + 1 + 1) w1.heap.size h ac bu a n c f (.slice (some ⟨g9, 0, none⟩) (l.length + 1) cap9) (l ++ [x])) := Lib.hid (D6.out.append hgrow9 (by rw [show (l ++ [x]).length = l.length + 1 by simp, ← nums_snoc]; exact hown9))
      clear hown9 hgrow9 hat9 D6
      generalize hu9 : Value.slice (some ⟨g9, 0, none⟩) (l.length + 1) cap9 = u9 at *
      clear hu9
      obtain ⟨ra, rc, hrv, _⟩ := row_shape D9.out.row
      first | subst hrv | (have hrv' := hrv.symm; simp only [Value.slice.injEq, true_and] at hrv'; obtain ⟨rfl, rfl⟩ := hrv'; clear hrv)
      have HO := Lib.hid (own_of_row D9.out.row)
      have hT := D9.out.arn; have cT0 := hT.at 0 rfl; have cT1 := hT.at 1 rfl; have cT2 := hT.at 2 rfl; have cT3 := hT.at 3 rfl; have lT := hT.1
      have hR := D9.out.res; have cR0 := hR.at 0 rfl; have fR0 := hR.free 0 rfl; have cR1 := hR.at 1 rfl; have fR1 := hR.free 1 rfl; have cR2 := hR.at 2 rfl; have fR2 := hR.free 2 rfl; have cR3 := hR.at 3 rfl; have fR3 := hR.free 3 rfl; have lR := hR.1
      have hz := D9.out.bel.size
      have hPw := D9.out.hP
      clear hT hR
      go_wp2
      refine bodyPost_ret (v := .tuple #[.agg #[.int .i64 h, .slice a n c, .int .i64 ac, .int .i64 bu], .slice ra (l ++ [x]).length rc]) (by simp [results, Try.results56, go_sem, cR0, cR1, cR2, cR3]) rfl ⟨h, ac, bu, n, c, a, f, (l ++ [x]), ra, rc, rfl, ?_, ?_, ?_, hn, hnc, hcm, by simp; omega⟩
      · refine Own.mono (B := w.heap.size + 2) ?_ (by omega)
        repeat (first | (with_reducible refine Own.setCell ?_ (by (try simp); (try omega)) _) | (with_reducible refine Own.alloc ?_ _) | (with_reducible refine Own.drew ?_))
        exact (D9.out.wrd.widen (Nat.le_refl _) (Nat.le_of_lt D9.out.arn.1)).out
      · refine Own.mono (B := w1.heap.size + 1) ?_ (by omega)
        repeat (first | (with_reducible refine Own.setCell ?_ (by (try simp); (try omega)) _) | (with_reducible refine Own.alloc ?_ _) | (with_reducible refine Own.drew ?_))
        exact HO.out
      · repeat (first | (with_reducible refine Below.setCell ?_ (by (try simp); (try omega)) _) | (with_reducible refine Below.alloc ?_ (by (try simp); (try omega)) _) | (with_reducible refine Below.drew ?_))
        exact D9.out.bel
    · have hv0' : ((v : Int) == 0) = false := by simp; omega
      by_cases hv1 : v = 1
      · subst hv1
        obtain ⟨ua, uc, hu0, _⟩ := row_shape D5.out.row
        subst hu0
        by_cases hl0 : 0 < l.length
        · have hl0' : (0 : Int) < (l.length : Int) := by omega
          go_wp2_with fail
          refine (of_any [60, 61] (w.heap.size + 1) (w.heap.size + 1) _ ca k kc (t + 1) 2 B _ _ D5.out.src D5.out.byt (Nat.le_refl _) hk0 (by omega) rfl (by simp) (by simp) rfl rfl).mono ?_
          rintro e w6 ⟨x, rfl, mx, hB, hk⟩
          have D6 : Hid (DS w w6 ca k kc B (t + 1 + 1) w1.heap.size h ac bu a n c f (.slice ua l.length uc) l) := Lib.hid ((D5.out.below ((Below.refl _ _).alloc (Nat.le_refl _) _)).next hk (by have := hB; simpa using this))
          have hx : 60 ≤ x ∧ x ≤ 61 := by simp at mx; omega
          obtain ⟨X, rfl⟩ : ∃ X : Nat, x = (X : Int) := ⟨x.toNat, by omega⟩
          clear hB hk D5 mx
          go_wp2
          go_loopw [6] (fun u wr => ∃ l' : List Int, Hid (DS w wr ca k kc B (t + 1 + 1) w1.heap.size h ac bu a n c f u l') ∧ 0 < l'.length ∧ l'.length ≤ 61) (fun u _ => X - (match u with | .slice _ n _ => n | _ => 0))
          case atStart => exact ⟨l, D6, hl0, by omega⟩
          case round =>
            obtain ⟨l', D7, hp7, hl7⟩ := hrel
            clear D6
            obtain ⟨ra7, rc7, hrv7, _⟩ := row_shape D7.out.row
            subst hrv7
            by_cases hlX : l'.length < X
            · have hlX' : (l'.length : Int) < (X : Int) := by omega
              obtain ⟨b7, o7, rfl, hb7, hc7⟩ := src_some (own_of_row D7.out.row).src hp7
              have c7 := hc7 0 hp7
              rw [Nat.add_zero] at c7
              have hp7' : (0 : Int) < (l'.length : Int) := by omega
              have h7 := D7.out.arn.1
              generalize lf l' 0 = y at *
              clear hc7
              go_wp2_with (at_builtin; go_loud (refine wpList_append_lies _ rfl _ _ 24 rfl (w1.heap.size + 1) 2 i0 (.int .i64 0) 1 8 Try.underlying24 hif hz0 hz1 hz2 rfl (by decide) (.slice (some ⟨b7, o7, none⟩) l'.length rc7) l'.length (nums l'.length (lf l')) rfl (ownsRow_below D7.out.row ((Below.refl _ _).alloc (Nat.le_refl _) _)) ⟨wr.heap.size, 0, none⟩ 1 1 [.int .i64 y] rfl rfl (news1 wr y) (by intro u hu; simp only [List.mem_cons, List.mem_nil_iff, or_false] at hu; subst hu; rfl) (by omega) (by unfold maxLen; omega) (by omega) (by simp; omega) (wr.heap.size + 1) (by simp) ?_); intro g9 cap9 w9 hown9 hgrow9 hat9 hlt9)
              have D9 : Hid (DS w w9 ca k kc B (t + 1 + 1) w1.heap.size h ac bu a n c f (.slice (some ⟨g9, 0, none⟩) (l'.length + 1) cap9) (l' ++ [y])) := Lib.hid (D7.out.append hgrow9 (by rw [show (l' ++ [y]).length = l'.length + 1 by simp, ← nums_snoc]; exact hown9))
              clear hown9 hgrow9 hat9 D7 c7
              go_wp2
              go_roundw
              case rel => first | exact ⟨l' ++ [y], D9, by simp, by simp; omega⟩ | ((repeat apply Exists.intro); exact ⟨⟨l' ++ [y], D9, by simp, by simp; omega⟩, rfl⟩)
              case measure => simp; omega
            · have hlX' : ¬ (l'.length : Int) < (X : Int) := by omega
              obtain ⟨ra, rc, hrv, _⟩ := row_shape D7.out.row
              first | subst hrv | (have hrv' := hrv.symm; simp only [Value.slice.injEq, true_and] at hrv'; obtain ⟨rfl, rfl⟩ := hrv'; clear hrv)
              have HO := Lib.hid (own_of_row D7.out.row)
              have hT := D7.out.arn; have cT0 := hT.at 0 rfl; have cT1 := hT.at 1 rfl; have cT2 := hT.at 2 rfl; have cT3 := hT.at 3 rfl; have lT := hT.1
              have hR := D7.out.res; have cR0 := hR.at 0 rfl; have fR0 := hR.free 0 rfl; have cR1 := hR.at 1 rfl; have fR1 := hR.free 1 rfl; have cR2 := hR.at 2 rfl; have fR2 := hR.free 2 rfl; have cR3 := hR.at 3 rfl; have fR3 := hR.free 3 rfl; have lR := hR.1
              have hz := D7.out.bel.size
              have hPw := D7.out.hP
              clear hT hR
              go_wp2
              refine bodyPost_ret (v := .tuple #[.agg #[.int .i64 h, .slice a n c, .int .i64 ac, .int .i64 bu], .slice ra l'.length rc]) (by simp [results, Try.results56, go_sem, cR0, cR1, cR2, cR3]) rfl ⟨h, ac, bu, n, c, a, f, l', ra, rc, rfl, ?_, ?_, ?_, hn, hnc, hcm, by omega⟩
              · refine Own.mono (B := w.heap.size + 2) ?_ (by omega)
                repeat (first | (with_reducible refine Own.setCell ?_ (by (try simp); (try omega)) _) | (with_reducible refine Own.alloc ?_ _) | (with_reducible refine Own.drew ?_))
                exact (D7.out.wrd.widen (Nat.le_refl _) (Nat.le_of_lt D7.out.arn.1)).out
              · refine Own.mono (B := w1.heap.size + 1) ?_ (by omega)
                repeat (first | (with_reducible refine Own.setCell ?_ (by (try simp); (try omega)) _) | (with_reducible refine Own.alloc ?_ _) | (with_reducible refine Own.drew ?_))
                exact HO.out
              · repeat (first | (with_reducible refine Below.setCell ?_ (by (try simp); (try omega)) _) | (with_reducible refine Below.alloc ?_ (by (try simp); (try omega)) _) | (with_reducible refine Below.drew ?_))
                exact D7.out.bel
        · have hl0' : ¬ (0 : Int) < (l.length : Int) := by omega
          obtain ⟨ra, rc, hrv, _⟩ := row_shape D5.out.row
          first | subst hrv | (have hrv' := hrv.symm; simp only [Value.slice.injEq, true_and] at hrv'; obtain ⟨rfl, rfl⟩ := hrv'; clear hrv)
          have HO := Lib.hid (own_of_row D5.out.row)
          have hT := D5.out.arn; have cT0 := hT.at 0 rfl; have cT1 := hT.at 1 rfl; have cT2 := hT.at 2 rfl; have cT3 := hT.at 3 rfl; have lT := hT.1
          have hR := D5.out.res; have cR0 := hR.at 0 rfl; have fR0 := hR.free 0 rfl; have cR1 := hR.at 1 rfl; have fR1 := hR.free 1 rfl; have cR2 := hR.at 2 rfl; have fR2 := hR.free 2 rfl; have cR3 := hR.at 3 rfl; have fR3 := hR.free 3 rfl; have lR := hR.1
          have hz := D5.out.bel.size
          have hPw := D5.out.hP
          clear hT hR
          go_wp2
          refine bodyPost_ret (v := .tuple #[.agg #[.int .i64 h, .slice a n c, .int .i64 ac, .int .i64 bu], .slice ra l.length rc]) (by simp [results, Try.results56, go_sem, cR0, cR1, cR2, cR3]) rfl ⟨h, ac, bu, n, c, a, f, l, ra, rc, rfl, ?_, ?_, ?_, hn, hnc, hcm, by omega⟩
          · refine Own.mono (B := w.heap.size + 2) ?_ (by omega)
            repeat (first | (with_reducible refine Own.setCell ?_ (by (try simp); (try omega)) _) | (with_reducible refine Own.alloc ?_ _) | (with_reducible refine Own.drew ?_))
            exact (D5.out.wrd.widen (Nat.le_refl _) (Nat.le_of_lt D5.out.arn.1)).out
          · refine Own.mono (B := w1.heap.size + 1) ?_ (by omega)
            repeat (first | (with_reducible refine Own.setCell ?_ (by (try simp); (try omega)) _) | (with_reducible refine Own.alloc ?_ _) | (with_reducible refine Own.drew ?_))
            exact HO.out
          · repeat (first | (with_reducible refine Below.setCell ?_ (by (try simp); (try omega)) _) | (with_reducible refine Below.alloc ?_ (by (try simp); (try omega)) _) | (with_reducible refine Below.drew ?_))
            exact D5.out.bel
      · have hv1' : ((v : Int) == 1) = false := by simp; omega
        obtain ⟨ra, rc, hrv, _⟩ := row_shape D5.out.row
        first | subst hrv | (have hrv' := hrv.symm; simp only [Value.slice.injEq, true_and] at hrv'; obtain ⟨rfl, rfl⟩ := hrv'; clear hrv)
        have HO := Lib.hid (own_of_row D5.out.row)
        have hT := D5.out.arn; have cT0 := hT.at 0 rfl; have cT1 := hT.at 1 rfl; have cT2 := hT.at 2 rfl; have cT3 := hT.at 3 rfl; have lT := hT.1
        have hR := D5.out.res; have cR0 := hR.at 0 rfl; have fR0 := hR.free 0 rfl; have cR1 := hR.at 1 rfl; have fR1 := hR.free 1 rfl; have cR2 := hR.at 2 rfl; have fR2 := hR.free 2 rfl; have cR3 := hR.at 3 rfl; have fR3 := hR.free 3 rfl; have lR := hR.1
        have hz := D5.out.bel.size
        have hPw := D5.out.hP
        clear hT hR
        go_wp2
        refine bodyPost_ret (v := .tuple #[.agg #[.int .i64 h, .slice a n c, .int .i64 ac, .int .i64 bu], .slice ra l.length rc]) (by simp [results, Try.results56, go_sem, cR0, cR1, cR2, cR3]) rfl ⟨h, ac, bu, n, c, a, f, l, ra, rc, rfl, ?_, ?_, ?_, hn, hnc, hcm, by omega⟩
        · refine Own.mono (B := w.heap.size + 2) ?_ (by omega)
          repeat (first | (with_reducible refine Own.setCell ?_ (by (try simp); (try omega)) _) | (with_reducible refine Own.alloc ?_ _) | (with_reducible refine Own.drew ?_))
          exact (D5.out.wrd.widen (Nat.le_refl _) (Nat.le_of_lt D5.out.arn.1)).out
        · refine Own.mono (B := w1.heap.size + 1) ?_ (by omega)
          repeat (first | (with_reducible refine Own.setCell ?_ (by (try simp); (try omega)) _) | (with_reducible refine Own.alloc ?_ _) | (with_reducible refine Own.drew ?_))
          exact HO.out
        · repeat (first | (with_reducible refine Below.setCell ?_ (by (try simp); (try omega)) _) | (with_reducible refine Below.alloc ?_ (by (try simp); (try omega)) _) | (with_reducible refine Below.drew ?_))
          exact D5.out.bel
end Go.Proofs.Ytbhjmomphajnnaa

namespace Go.Proofs.Ytbhjmomphajnnaa
open Go.RowKit Go.Maps
set_option linter.unusedVariables false

theorem places_nodup {f : Nat → Int} {e a : Nat} {L : List Ob} (hp : parse f e a = some L) : (placesO L).Nodup := by
  have h := parse_sorted (e - a) a L (Nat.le_refl _) hp
  unfold placesO List.Nodup
  rw [List.pairwise_map]
  exact h.imp (fun hxy => by omega)
end Go.Proofs.Ytbhjmomphajnnaa

namespace Go.Proofs.Ytbhjmomphajnnaa
open Go.RowKit Go.Maps
set_option linter.unusedVariables false

/-- What the law of what is reached has at hand. -/
structure LR (W w : World) (P P5 P6 P7 : Nat) (h ac bu : Int) (a : Option Addr) (n c : Nat) (f : Nat → Int) (ra : Option Addr) (l : List Int) (co : Int) (R : List Int) (ua : Option Addr) (uc : Nat) (G : List Int) (ga : Option Addr) (gc : Nat) (wv : Int) : Prop where
  bel : Below W.heap.size W w
  arn : Blk w P [.int .i64 h, .slice a n c, .int .i64 ac, .int .i64 bu]
  wrd : Src w a n f
  rts : Src w ra l.length (lf l)
  rb : Blk w P5 [.int .i64 co, .slice ua R.length uc]
  rl : Src w ua R.length (lf R)
  gb : Blk w P6 [.int .i64 co, .slice ga G.length gc]
  gl : Src w ga G.length (lf G)
  wb : Blk w P7 [.int .i64 co, .int .i64 wv]

section

variable {W w w' : World} {P P5 P6 P7 : Nat} {h ac bu : Int} {a : Option Addr} {n c : Nat} {f : Nat → Int} {ra : Option Addr} {l : List Int} {co : Int} {R : List Int} {ua : Option Addr} {uc : Nat} {G : List Int} {ga : Option Addr} {gc : Nat} {wv : Int}

theorem LR.below (d : LR W w P P5 P6 P7 h ac bu a n c f ra l co R ua uc G ga gc wv) (hb : Below w.heap.size w w') : LR W w' P P5 P6 P7 h ac bu a n c f ra l co R ua uc G ga gc wv :=
  ⟨d.bel.trans (hb.mono d.bel.size), d.arn.below hb, d.wrd.below hb, d.rts.below hb, d.rb.below hb, d.rl.below hb, d.gb.below hb, d.gl.below hb, d.wb.below hb⟩

theorem LR.drew (d : LR W w P P5 P6 P7 h ac bu a n c f ra l co R ua uc G ga gc wv) : LR W w.drew P P5 P6 P7 h ac bu a n c f ra l co R ua uc G ga gc wv := d.below (Below.refl _ _).drew

theorem LR.c7 (d : LR W w P P5 P6 P7 h ac bu a n c f ra l co R ua uc G ga gc wv) : w.cell? ⟨P, 0, none⟩ = some (.int .i64 h) ∧ w.cell? ⟨P, 1, none⟩ = some (.slice a n c) ∧ w.cell? ⟨P, 2, none⟩ = some (.int .i64 ac) ∧ w.cell? ⟨P, 3, none⟩ = some (.int .i64 bu) ∧ w.cell? ⟨P5, 0, none⟩ = some (.int .i64 co) ∧ w.cell? ⟨P6, 0, none⟩ = some (.int .i64 co) ∧ w.cell? ⟨P7, 0, none⟩ = some (.int .i64 co) ∧ w.cell? ⟨P7, 1, none⟩ = some (.int .i64 wv) :=
  ⟨d.arn.at 0 rfl, d.arn.at 1 rfl, d.arn.at 2 rfl, d.arn.at 3 rfl, d.rb.at 0 rfl, d.gb.at 0 rfl, d.wb.at 0 rfl, d.wb.at 1 rfl⟩

end
end Go.Proofs.Ytbhjmomphajnnaa

namespace Go.Proofs.Ytbhjmomphajnnaa
open Go.RowKit
set_option linter.unusedVariables false

/-- The word of number d of an object, behind a collection. -/
def colAt (f : Nat → Int) (R : List Int) (P : Nat) (X : List Ob) (x : Ob) (d : Nat) : Int := if d = 0 then packO x else if d = 1 then x.h else mapF f R (newPlaces P X) x (d - 2)

/-- The words of a set are so; beside the objects there is nothing. -/
structure ColOn (f : Nat → Int) (R : List Int) (P : Nat) (X : List Ob) (D : Nat → Nat → Prop) (g : Nat → Int) : Prop where
  on : ∀ j (hj : j < X.length) d, D j d → d < wordsO X[j] → g (placeAt P X j + d) = colAt f R P X X[j] d
  rest : ∀ i, ¬ (P ≤ i ∧ i < P + totO X) → g i = 0

theorem wordsO_two (x : Ob) : 2 ≤ wordsO x := by unfold wordsO; omega

theorem placeAt_mono (P : Nat) (X : List Ob) {i j : Nat} (h : i ≤ j) (hj : j ≤ X.length) : placeAt P X i ≤ placeAt P X j := by
  rcases Nat.lt_or_eq_of_le h with h1 | rfl
  · have := placeAt_lt P X i j h1 hj; omega
  · exact Nat.le_refl _

theorem placeAt_next (P : Nat) (X : List Ob) {i j : Nat} (h : i < j) (hj : j < X.length) : placeAt P X i + wordsO (X[i]'(by omega)) ≤ placeAt P X j := by
  rw [← placeAt_step P X (show i < X.length by omega)]
  exact placeAt_mono P X h (by omega)

theorem place_apart {P : Nat} {X : List Ob} {i j d e : Nat} (hi : i < X.length) (hj : j < X.length) (hd : d < wordsO X[i]) (he : e < wordsO X[j]) (h : placeAt P X i + d = placeAt P X j + e) : i = j ∧ d = e := by
  rcases Nat.lt_trichotomy i j with h1 | rfl | h1
  · have := placeAt_next P X h1 hj; omega
  · exact ⟨rfl, by omega⟩
  · have := placeAt_next P X h1 hi; omega

theorem placeAt_ge (P : Nat) (X : List Ob) (i : Nat) : P ≤ placeAt P X i := by unfold placeAt; omega

section

variable {f g : Nat → Int} {R : List Int} {P : Nat} {X : List Ob} {D E : Nat → Nat → Prop} {i d : Nat}

theorem ColOn.less (h : ColOn f R P X D g) (hD : ∀ j d, (hj : j < X.length) → d < wordsO X[j] → E j d → D j d) : ColOn f R P X E g := ⟨fun j hj d h1 h2 => h.on j hj d (hD j d hj h2 h1) h2, h.rest⟩

theorem ColOn.set (h : ColOn f R P X D g) (hi : i < X.length) (hd : d < wordsO X[i]) {v : Int} (hv : v = colAt f R P X X[i] d) : ColOn f R P X (fun j e => D j e ∨ (j = i ∧ e = d)) (upd g (placeAt P X i + d) v) := by
  refine ⟨fun j hj e h1 h2 => ?_, fun k hk => ?_⟩
  · unfold upd
    by_cases he : placeAt P X j + e = placeAt P X i + d
    · obtain ⟨rfl, rfl⟩ := place_apart hj hi h2 hd he
      rw [if_pos rfl, hv]
    · rw [if_neg he]
      rcases h1 with h1 | ⟨rfl, rfl⟩
      · exact h.on j hj e h1 h2
      · exact absurd rfl he
  · unfold upd
    have := placeAt_end P X hi
    have := placeAt_ge P X i
    rw [if_neg (by omega)]
    exact h.rest k hk

theorem ColOn.put (h : ColOn f R P X D g) (hi : i < X.length) (hd : d < wordsO X[i]) {K : Nat} (hK : K = placeAt P X i + d) {v : Int} (hv : v = colAt f R P X X[i] d) : ColOn f R P X (fun j e => D j e ∨ (j = i ∧ e = d)) (upd g K v) := by rw [hK]; exact h.set hi hd hv

/-- All the words of an object at once. -/
theorem ColOn.obj (h : ColOn f R P X D g) (hi : i < X.length) {g' : Nat → Int} (hin : ∀ d, d < wordsO X[i] → g' (placeAt P X i + d) = colAt f R P X X[i] d) (hout : ∀ k, ¬ (placeAt P X i ≤ k ∧ k < placeAt P X i + wordsO X[i]) → g' k = g k) : ColOn f R P X (fun j e => D j e ∨ j = i) g' := by
  refine ⟨fun j hj e h1 h2 => ?_, fun k hk => ?_⟩
  · by_cases he : j = i
    · subst he; exact hin e h2
    · rw [hout _ (fun hq => he (place_apart (P := P) (d := e) (e := placeAt P X j + e - placeAt P X i) hj hi h2 (by omega) (by omega)).1)]
      rcases h1 with h1 | h1
      · exact h.on j hj e h1 h2
      · exact absurd h1 he
  · have := placeAt_end P X hi
    have := placeAt_ge P X i
    rw [hout k (by omega)]
    exact h.rest k hk

theorem headsAt_of {g : Nat → Int} : ∀ (X : List Ob) (P : Nat), (∀ (i : Nat) (hi : i < X.length), g (placeAt P X i) = packO X[i] ∧ g (placeAt P X i + 1) = X[i].h) → HeadsAt g P X
  | [], _, _ => trivial
  | x :: X, P, h => by
    have h0 := h 0 (by simp)
    rw [placeAt_zero] at h0
    refine ⟨h0.1, h0.2, headsAt_of X (P + wordsO x) fun i hi => ?_⟩
    have := h (i + 1) (by simpa using hi)
    rw [placeAt_succ] at this
    simpa using this

theorem isCol_of {L : List Ob} (h : ColOn f R P (objsO L R) (fun _ _ => True) g) : IsCol f L R P g := by
  refine ⟨headsAt_of _ _ fun i hi => ?_, fun i hi k hk => ?_, h.rest⟩
  · have hw := wordsO_two (objsO L R)[i]
    have h0 := h.on i hi 0 trivial (by omega)
    have h1 := h.on i hi 1 trivial (by omega)
    unfold colAt at h0 h1
    rw [if_pos rfl] at h0
    rw [if_neg (by omega), if_pos rfl] at h1
    exact ⟨h0, h1⟩
  · have h0 := h.on i hi (2 + k) trivial (by unfold wordsO; omega)
    unfold colAt at h0
    rw [if_neg (by omega), if_neg (by omega), show 2 + k - 2 = k by omega, ← Nat.add_assoc] at h0
    exact h0

/-- Two results are the same words. -/
theorem isCol_same {L : List Ob} {g' : Nat → Int} (h : IsCol f L R P g) (h' : IsCol f L R P g') : ∀ k, g k = g' k := by
  intro k
  by_cases hk : P ≤ k ∧ k < P + totO (objsO L R)
  · obtain ⟨j, hj, h1, h2⟩ := in_object _ _ _ hk.1 hk.2
    have e1 := headsAt_get _ _ h.heads j hj
    have e2 := headsAt_get _ _ h'.heads j hj
    obtain ⟨d, rfl⟩ : ∃ d, k = placeAt P (objsO L R) j + d := ⟨k - placeAt P (objsO L R) j, by omega⟩
    rcases (by omega : d = 0 ∨ d = 1 ∨ 2 ≤ d) with rfl | rfl | hd
    · exact e1.1.trans e2.1.symm
    · exact e1.2.trans e2.2.symm
    · have hw : wordsO (objsO L R)[j] = 2 + (objsO L R)[j].s.toNat := rfl
      have f1 := h.flds j hj (d - 2) (by omega)
      have f2 := h'.flds j hj (d - 2) (by omega)
      rw [show placeAt P (objsO L R) j + d = placeAt P (objsO L R) j + 2 + (d - 2) by omega, f1, f2]
  · rw [h.rest k hk, h'.rest k hk]

theorem colOn_zero : ColOn f R P X (fun _ _ => False) (fun _ => 0) := ⟨fun _ _ _ h => h.elim, fun _ _ => rfl⟩

theorem ColOn.congr {g' : Nat → Int} (h : ColOn f R P X D g) (e : ∀ k, g' k = g k) : ColOn f R P X D g' := ⟨fun j hj d h1 h2 => (e _).trans (h.on j hj d h1 h2), fun i hi => (e i).trans (h.rest i hi)⟩

end

theorem newPlaces_lf (P : Nat) (X : List Ob) {i : Nat} (hi : i < X.length) : lf (newPlaces P X) i = (placeAt P X i : Int) := newPlaces_get P X hi

theorem newPlaces_take (P : Nat) (X : List Ob) {i : Nat} (hi : i < X.length) : (newPlaces P X).take (i + 1) = (newPlaces P X).take i ++ [(placeAt P X i : Int)] := by
  rw [List.take_succ_eq_append_getElem (by rw [newPlaces_length]; exact hi), ← lf_at (by rw [newPlaces_length]; exact hi), newPlaces_lf P X hi]

theorem totO_take (X : List Ob) {i : Nat} (hi : i < X.length) : totO (X.take (i + 1)) = totO (X.take i) + wordsO X[i] := by
  have := placeAt_step 0 X hi
  unfold placeAt at this
  omega

theorem goes_num {R Q : List Int} {p : Int} {i : Nat} (h : numL R p = some i) : goes R Q p = Q.getD i 0 := by unfold goes; rw [h]; rfl
end Go.Proofs.Ytbhjmomphajnnaa

namespace Go.Proofs.Ytbhjmomphajnnaa
open Go.RowKit
set_option linter.unusedVariables false

/-- A head lies amid a block. -/
structure HdAt (w : World) (d q : Nat) (s m o h : Int) : Prop where
  lt : d < w.heap.size
  c0 : w.cell? ⟨d, q, none⟩ = some (.int .i64 s)
  c1 : w.cell? ⟨d, q + 1, none⟩ = some (.int .i64 m)
  c2 : w.cell? ⟨d, q + 2, none⟩ = some (.int .i64 o)
  c3 : w.cell? ⟨d, q + 3, none⟩ = some (.int .i64 h)

theorem HdAt.block {w w' : World} {d q : Nat} {s m o h : Int} (x : HdAt w d q s m o h) (e : w'.heap[d]? = w.heap[d]?) (z : w.heap.size ≤ w'.heap.size) : HdAt w' d q s m o h :=
  ⟨Nat.lt_of_lt_of_le x.lt z, (World.cell?_of_block (a := ⟨d, q, none⟩) e).trans x.c0, (World.cell?_of_block (a := ⟨d, q + 1, none⟩) e).trans x.c1, (World.cell?_of_block (a := ⟨d, q + 2, none⟩) e).trans x.c2, (World.cell?_of_block (a := ⟨d, q + 3, none⟩) e).trans x.c3⟩

theorem HdAt.below {w w' : World} {d q : Nat} {s m o h : Int} (x : HdAt w d q s m o h) (hb : Below w.heap.size w w') : HdAt w' d q s m o h := x.block (hb.block d x.lt) hb.size

theorem HdAt.drew {w : World} {d q : Nat} {s m o h : Int} (x : HdAt w d q s m o h) : HdAt w.drew d q s m o h := x.below (Below.refl _ _).drew

theorem HdAt.alloc {w : World} {d q : Nat} {s m o h : Int} (x : HdAt w d q s m o h) (ob : Obj) : HdAt (w.alloc ob) d q s m o h := x.below ((Below.refl _ _).alloc (Nat.le_refl _) ob)

theorem HdAt.other {w : World} {d q : Nat} {s m o h : Int} (x : HdAt w d q s m o h) {p : Addr} (hp : p.block ≠ d) (u : Value) : HdAt (w.setCell p u) d q s m o h := x.block (Below.heap_setCell w p u d (fun e => hp e.symm)) (by simp)

set_option maxRecDepth 100000 in
set_option maxHeartbeats 1600000 in
theorem l2Pack_at (d q : Nat) (s m o h : Int) (w : World) (hB : HdAt w d q s m o h) (hk : HOk s m o h) :
    Calls Try.prog 198 #[.pointer (some ⟨d, q, none⟩)] w fun e w' => e = .returned (.slice (some ⟨w.heap.size, 0, none⟩) 2 2) ∧ Blk w' w.heap.size [.int .i64 (1 + 2 * (s + 16 * (m + 4096 * o))), .int .i64 h] ∧ Below w.heap.size w w' := by
  obtain ⟨⟨q1, q2⟩, ⟨q3, q4⟩, ⟨q5, q6⟩, q7, q8⟩ := hk
  have q9 := P2_le q2
  have q4' : m ≤ 4095 := by omega
  have H1 := Lib.hid hB
  have H2 := Lib.hid hB.drew
  have lB := hB.lt
  clear hB q4 q9
  go_enter Try.func198, Try.ntmps198
  go_wp2
  go_region_held3 (fun w' => w'.cell? ⟨d, q, none⟩ = some (.int .i64 s) ∧ w'.cell? ⟨d, q + 1, none⟩ = some (.int .i64 m) ∧ w'.cell? ⟨d, q + 2, none⟩ = some (.int .i64 o) ∧ w'.cell? ⟨d, q + 3, none⟩ = some (.int .i64 h))
    (first | (with_reducible exact ⟨(H1.out).c0, (H1.out).c1, (H1.out).c2, (H1.out).c3⟩) | (with_reducible exact ⟨(H2.out).c0, (H2.out).c1, (H2.out).c2, (H2.out).c3⟩) | (with_reducible exact ⟨((H1.out.alloc _).drew).c0, ((H1.out.alloc _).drew).c1, ((H1.out.alloc _).drew).c2, ((H1.out.alloc _).drew).c3⟩))
    (fail)
  have hw : IntKind.i64.wrap (1 + IntKind.i64.wrap (2 * IntKind.i64.wrap (s + IntKind.i64.wrap (16 * IntKind.i64.wrap (m + IntKind.i64.wrap (4096 * o)))))) = (1 + 2 * (s + 16 * (m + 4096 * o))) := by
    rw [IntWalk.i64_in (4096 * o) (by omega), IntWalk.i64_in (m + 4096 * o) (by omega), IntWalk.i64_in (16 * (m + 4096 * o)) (by omega), IntWalk.i64_in (s + 16 * (m + 4096 * o)) (by omega), IntWalk.i64_in (2 * (s + 16 * (m + 4096 * o))) (by omega), IntWalk.i64_in _ (by omega)]
  rw [hw]
  clear hw
  go_wp2
  go_ret
  exact ⟨rfl, (Blk.new_at (w.heap.size) rfl).drew, ((Below.refl _ _).alloc (Nat.le_refl _) _).drew⟩

theorem ownIn_put {w : World} {lo hi g q n : Nat} {f : Nat → Int} (h : OwnIn w lo hi (some ⟨g, q, none⟩) n f) (k : Nat) (hk : k < n) (v : Int) : OwnIn (w.setCell ⟨g, q + k, none⟩ (.int .i64 v)) lo hi (some ⟨g, q, none⟩) n (upd f k v) := (h.stored k hk v).1

theorem ownIn_other {w : World} {lo hi g q n : Nat} {f : Nat → Int} (h : OwnIn w lo hi (some ⟨g, q, none⟩) n f) {p : Addr} (hp : p.block ≠ g) (u : Value) : OwnIn (w.setCell p u) lo hi (some ⟨g, q, none⟩) n f := by
  rcases h with h0 | ⟨b', o', he, h1, hb', hc'⟩
  · exact .inl h0
  · cases he
    refine .inr ⟨g, q, rfl, h1, by simpa using hb', fun i hi => ⟨?_, ?_⟩⟩
    · rw [World.cell?_setCell_other _ _ _ _ (fun e => hp (by rw [e]))]; exact (hc' i hi).1
    · rw [World.frozen?_setCell]; exact (hc' i hi).2

set_option maxRecDepth 100000 in
set_option maxHeartbeats 3200000 in
theorem l3Put_at (lo hi b d e0 g q P U K : Nat) (h ac s m o hh : Int) (n c : Nat) (f : Nat → Int) (w : World) (hBb : (lo ≤ b ∧ b < hi) ∧ (lo ≤ g ∧ g < hi) ∧ b ≠ g ∧ d ≠ b ∧ d ≠ g) (lhi : hi ≤ w.heap.size)
    (hB : Blk w b [.int .i64 h, .slice (some ⟨g, q, none⟩) n c, .int .i64 ac, .int .i64 (U : Int)]) (hD : HdAt w d e0 s m o hh) (ho : OwnIn w lo hi (some ⟨g, q, none⟩) n f)
    (h1 : 8 ≤ h) (h2 : h ≤ 200) (h3 : 0 ≤ ac) (h4 : ac ≤ 1) (hP : baseI ac h = (P : Int)) (hn : (n : Int) = 2 * h) (hKe : K = P + U) (hU : K + 2 ≤ n) (hk : HOk s m o hh) :
    Calls Try.prog 142 #[.pointer (some ⟨b, 0, none⟩), .pointer (some ⟨d, e0, none⟩)] w fun e w' => e = .returned (.int .i64 (K : Int)) ∧ Blk w' b [.int .i64 h, .slice (some ⟨g, q, none⟩) n c, .int .i64 ac, .int .i64 ((U : Int) + (s + 2))] ∧ OwnIn w' lo hi (some ⟨g, q, none⟩) n (upd (upd f K (1 + 2 * (s + 16 * (m + 4096 * o)))) (K + 1) hh) ∧ Keeps w w' lo hi := by
  have c0 := hB.at 0 rfl; have c1 := hB.at 1 rfl; have c2 := hB.at 2 rfl; have c3 := hB.at 3 rfl
  have l0 := hB.1; have ld := hD.lt
  have HB := Lib.hid hB; have HD := Lib.hid hD; have HO := Lib.hid ho; have HK := Lib.hid hk; have HN := Lib.hid hn; have HP := Lib.hid hP
  clear hB hD ho hk hn hP
  go_enter Try.func142, Try.ntmps142
  have HB2 := Lib.hid HB.out.drew
  go_wp2_with fail
  have hw : IntKind.i64.wrap ((P : Int) + (U : Int)) = (K : Int) := by have := HN.out; rw [IntWalk.i64_in _ (by omega)]; omega
  go_region_held3 (fun w' => w'.cell? ⟨b, 0, none⟩ = some (.int .i64 h) ∧ w'.cell? ⟨b, 1, none⟩ = some (.slice (some ⟨g, q, none⟩) n c) ∧ w'.cell? ⟨b, 2, none⟩ = some (.int .i64 ac) ∧ w'.cell? ⟨b, 3, none⟩ = some (.int .i64 (U : Int)))
    (first | (with_reducible exact ⟨(HB.out).at 0 rfl, (HB.out).at 1 rfl, (HB.out).at 2 rfl, (HB.out).at 3 rfl⟩) | (with_reducible exact ⟨(HB2.out).at 0 rfl, (HB2.out).at 1 rfl, (HB2.out).at 2 rfl, (HB2.out).at 3 rfl⟩) | (with_reducible exact ⟨(HB1.out).at 0 rfl, (HB1.out).at 1 rfl, (HB1.out).at 2 rfl, (HB1.out).at 3 rfl⟩))
    (first | (go_at_call 193; refine (l1Base_eq (P : Int) b h ac (U : Int) (some ⟨g, q, none⟩) n c _ HP.out HB2.out h1 h2 h3 h4).mono ?_; rintro e w1 ⟨rfl, hb⟩; have HB1 := Lib.hid (HB2.out.below hb); have HD1 := Lib.hid (HD.out.drew.below hb); have HO1 := Lib.hid (HO.out.drew.below hb); have HW1 := Lib.hid ((keeps_of_below (Below.refl _ w).drew lo hi).trans (keeps_of_below hb lo hi)); clear hb))
  clear HB HB2 HD HO
  rw [show (P : Int) + (U : Int) = (K : Int) from by omega]
  clear hw
  have HKe := Lib.hid hKe
  clear hKe
  go_wp2_with fail
  refine (l2Pack_at d e0 s m o hh _ HD1.out HK.out).mono ?_
  rintro e w2 ⟨rfl, hw2, hb⟩
  have z1 : w.heap.size ≤ w1.heap.size := HW1.out.size
  have z2 : w1.heap.size ≤ w2.heap.size := hb.size
  have HB2 := Lib.hid (HB1.out.below hb); have HD2 := Lib.hid (HD1.out.below hb); have HO2 := Lib.hid (HO1.out.below hb); have HW2 := Lib.hid (HW1.out.trans (keeps_of_below hb lo hi)); have HV2 := Lib.hid hw2
  clear HB1 HD1 HO1 HW1 hw2 hb
  have z0 : hi ≤ w2.heap.size := by omega
  have b0 := HB2.out.at 0 rfl; have b1 := HB2.out.at 1 rfl; have b3 := HB2.out.at 3 rfl; have b3f := HB2.out.free 3 rfl; have v0 := HV2.out.at 0 rfl; have v1 := HV2.out.at 1 rfl
  obtain ⟨lg, hg⟩ := own_get HO2.out.out (by omega)
  have g0 := (hg K (by omega)).1; have g0f := (hg K (by omega)).2; have g1 := (hg (K + 1) (by omega)).1; have g1f := (hg (K + 1) (by omega)).2
  clear hg
  have lv := HV2.out.1; have lb2 := HB2.out.1
  clear c0 c1 c2 c3 l0 ld
  have hPU : K + 2 ≤ 400 := by have := HN.out; omega
  have hK0 : (0 : Int) ≤ (K : Int) := by omega
  have hPn : (K : Int) < (n : Int) := by omega
  have hPn1 : (K : Int) + 1 < (n : Int) := by omega
  go_wp2
  have HBd := Lib.hid HB2.out.drew; have HVd := Lib.hid HV2.out.drew; have HDd := Lib.hid HD2.out.drew
  have hgb : g ≠ b := fun e => hBb.2.2.1 e.symm
  have hgd : g ≠ d := fun e => hBb.2.2.2.2 e.symm
  have hgv : g ≠ w1.heap.size := by omega
  go_region_held3 (fun w' => w'.cell? ⟨b, 1, none⟩ = some (.slice (some ⟨g, q, none⟩) n c) ∧ w'.cell? ⟨w1.heap.size, 0, none⟩ = some (.int .i64 (1 + 2 * (s + 16 * (m + 4096 * o)))))
    (first | (with_reducible exact ⟨HB2.out.at 1 rfl, HV2.out.at 0 rfl⟩) | (with_reducible exact ⟨HBd.out.at 1 rfl, HVd.out.at 0 rfl⟩) | (with_reducible exact ⟨(HBd.out.other (p := ⟨g, q + K, none⟩) hgb _).at 1 rfl, (HVd.out.other (p := ⟨g, q + K, none⟩) hgv _).at 0 rfl⟩) | (with_reducible exact ⟨((HB2.out.other (p := ⟨g, q + K, none⟩) hgb _).drew).at 1 rfl, ((HV2.out.other (p := ⟨g, q + K, none⟩) hgv _).drew).at 0 rfl⟩))
    (fail)
  have kd : ∀ w : World, Keeps w w.drew lo hi := fun w => keeps_of_below (Below.refl _ w).drew lo hi
  have HB3 := Lib.hid (HB2.out.other (p := ⟨g, q + K, none⟩) hgb (.int .i64 (1 + 2 * (s + 16 * (m + 4096 * o))))).drew
  have HD3 := Lib.hid (HD2.out.other (p := ⟨g, q + K, none⟩) hgd (.int .i64 (1 + 2 * (s + 16 * (m + 4096 * o))))).drew
  have HV3 := Lib.hid (HV2.out.other (p := ⟨g, q + K, none⟩) hgv (.int .i64 (1 + 2 * (s + 16 * (m + 4096 * o))))).drew
  have HO3 := Lib.hid (ownIn_put HO2.out K (by omega) (1 + 2 * (s + 16 * (m + 4096 * o)))).drew
  have HW3 := Lib.hid ((HW2.out.trans (keeps_setCell (p := ⟨g, q + K, none⟩) hBb.2.1.1 hBb.2.1.2 (.int .i64 (1 + 2 * (s + 16 * (m + 4096 * o)))))).trans (kd _))
  have z3 : w2.heap.size ≤ (w2.setCell ⟨g, q + K, none⟩ (.int .i64 (1 + 2 * (s + 16 * (m + 4096 * o))))).drew.heap.size := by simp
  have KD := Lib.hid kd
  clear kd b0 b1 b3 b3f v0 v1 lg g0 g0f g1 g1f lv lb2 HBd HVd HDd HB2 HD2 HV2 HO2 HW2
  generalize (w2.setCell ⟨g, q + K, none⟩ (.int .i64 (1 + 2 * (s + 16 * (m + 4096 * o))))).drew = w3 at *
  have lb3 := HB3.out.1
  have b1 := HB3.out.at 1 rfl; have v1 := HV3.out.at 1 rfl; have lv := HV3.out.1
  obtain ⟨lg, hg⟩ := own_get HO3.out.out (by omega)
  have g1 := (hg (K + 1) (by omega)).1; have g1f := (hg (K + 1) (by omega)).2
  clear hg
  go_wp2
  have hw1 : IntKind.i64.wrap ((K : Int) + 1) = (K : Int) + 1 := IntWalk.i64_in _ (by omega)
  have hK1 : (0 : Int) ≤ (K : Int) + 1 := by omega
  have hK2 : ((K : Int) + 1).toNat = K + 1 := by omega
  have HBd := Lib.hid HB3.out.drew; have HVd := Lib.hid HV3.out.drew
  go_region_held3 (fun w' => w'.cell? ⟨b, 1, none⟩ = some (.slice (some ⟨g, q, none⟩) n c) ∧ w'.cell? ⟨w1.heap.size, 1, none⟩ = some (.int .i64 hh))
    (first | (with_reducible exact ⟨HB3.out.at 1 rfl, HV3.out.at 1 rfl⟩) | (with_reducible exact ⟨HBd.out.at 1 rfl, HVd.out.at 1 rfl⟩) | (with_reducible exact ⟨(HBd.out.other (p := ⟨g, q + (K + 1), none⟩) hgb _).at 1 rfl, (HVd.out.other (p := ⟨g, q + (K + 1), none⟩) hgv _).at 1 rfl⟩) | (with_reducible exact ⟨((HB3.out.other (p := ⟨g, q + (K + 1), none⟩) hgb _).drew).at 1 rfl, ((HV3.out.other (p := ⟨g, q + (K + 1), none⟩) hgv _).drew).at 1 rfl⟩))
    (fail)
  have HB4 := Lib.hid (HB3.out.other (p := ⟨g, q + (K + 1), none⟩) hgb (.int .i64 hh)).drew
  have HD4 := Lib.hid (HD3.out.other (p := ⟨g, q + (K + 1), none⟩) hgd (.int .i64 hh)).drew
  have HO4 := Lib.hid (ownIn_put HO3.out (K + 1) (by omega) hh).drew
  have HW4 := Lib.hid ((HW3.out.trans (keeps_setCell (p := ⟨g, q + (K + 1), none⟩) hBb.2.1.1 hBb.2.1.2 (.int .i64 hh))).trans (KD.out _))
  have z4 : w3.heap.size ≤ (w3.setCell ⟨g, q + (K + 1), none⟩ (.int .i64 hh)).drew.heap.size := by simp
  clear b1 v1 lv lg g1 g1f lb3 HBd HVd HB3 HD3 HV3 HO3 HW3
  generalize (w3.setCell ⟨g, q + (K + 1), none⟩ (.int .i64 hh)).drew = w4 at *
  have lb4 := HB4.out.1
  have b3 := HB4.out.at 3 rfl; have b3f := HB4.out.free 3 rfl
  have hs := HK.out.1
  go_wp2_with fail
  have HDx := Lib.hid HD4.out.drew
  have hU0 := HKe.out
  have hs2 := hs.1; have hs3 := hs.2
  have hHS := Lib.hid hs
  have hU1 : (U : Int) ≤ 400 := by omega
  clear hs hU0
  have hwU : IntKind.i64.wrap ((U : Int) + (s + 2)) = (U : Int) + (s + 2) := IntWalk.i64_in _ (by omega)
  go_region_law (first | (go_simp; go_at_call 195; refine (l2Words_at d e0 s _ HDx.out.c0 hHS.out).mono ?_; rintro e w' ⟨rfl, rfl⟩) | (go_at_call 195; refine (l2Words_at d e0 s _ HDx.out.c0 hHS.out).mono ?_; rintro e w' ⟨rfl, rfl⟩))
  all_goals (
    go_wp2
    go_ret
    exact ⟨rfl, (HB4.out.set 3 (by simp) _).drew, (ownIn_other HO4.out (p := ⟨b, 3, none⟩) hBb.2.2.1 _).drew, (HW4.out.trans (keeps_setCell (p := ⟨b, 3, none⟩) hBb.1.1 hBb.1.2 _)).trans (KD.out _)⟩)
end Go.Proofs.Ytbhjmomphajnnaa

namespace Go.Proofs.Ytbhjmomphajnnaa
open Go.RowKit Go.Maps
set_option linter.unusedVariables false

set_option maxRecDepth 100000 in
set_option maxHeartbeats 400000 in
theorem clone_opt (a : Option Addr) (n cap : Nat) (f : Nat → Int) (w : World) (hs : Src w a n f) (hn : n ≤ 1048576) :
    Calls Try.prog 188 #[.slice a n cap] w (RetInts w n f) := by
  cases a with
  | some ad => exact clone_all ad n cap f w hs hn
  | none =>
    have h0 : n = 0 := by
      rcases hs with h | ⟨b, off, h, _⟩
      · exact h
      · cases h
    subst h0
    have hnil := fun (w : World) (a : Option Addr) (n c : Nat) => Lib.run_eql_slice_nil (P := Try.prog) w 24 2 a n c 0 0 Try.underlying24
    clear hs
    go_enter Try.func188, Try.ntmps188
    go_wp2
    go_ret
    exact ⟨none, 0, rfl, .inl rfl, Below.refl _ _, Nat.le_refl _, by simp [maxLen], fun _ => ⟨rfl, rfl⟩⟩

theorem pto_any (p : Int) (w : World) (h : 0 ≤ p ∧ p ≤ 1000000) : Calls Try.prog 189 #[.int .i64 p] w (fun e w' => e = .returned (.int .i64 (p + 1)) ∧ w = w') := by
  obtain ⟨h1, h2⟩ := h
  go_enter Try.func189, Try.ntmps189
  go_wp2
  go_ret
  exact ⟨rfl, rfl⟩

/-- Where a field leads, once all stands where a table says. -/
def mvF (R : List Int) (v : Nat → Int) (t : GM) (k : Nat) : Int := if t.m / P2 (k : Int) % 2 = 1 ∧ ¬ t.f k = 0 then (tab R v (t.f k - 1)).getD 0 + 1 else t.f k

def mvT (R : List Int) (v : Nat → Int) (t : GM) : GM := ⟨(tab R v t.at_).getD 0, t.s, t.m, t.o, t.h, none, t.n, 0, mvF R v t⟩

def mvU (R : List Int) (v : Nat → Int) (t : GM) (i k : Nat) : Int := if k < i then mvF R v t k else t.f k

theorem mvU_step (R : List Int) (v : Nat → Int) (t : GM) (i : Nat) : ∀ k, upd (mvU R v t i) i (mvF R v t i) k = mvU R v t (i + 1) k := by
  intro k
  unfold upd mvU
  by_cases h : k = i
  · subst h; rw [if_pos rfl, if_pos (by omega)]
  · rw [if_neg h]
    by_cases h2 : k < i
    · rw [if_pos h2, if_pos (by omega)]
    · rw [if_neg h2, if_neg (by omega)]

theorem mvU_skip (R : List Int) (v : Nat → Int) (t : GM) (i : Nat) (h : mvF R v t i = t.f i) : ∀ k, mvU R v t i k = mvU R v t (i + 1) k := by
  intro k
  unfold mvU
  by_cases h1 : k < i
  · rw [if_pos h1, if_pos (by omega)]
  · rw [if_neg h1]
    by_cases h2 : k = i
    · subst h2; rw [if_pos (by omega), h]
    · rw [if_neg (by omega)]

theorem mvF_none {R : List Int} {v : Nat → Int} {t : GM} {k : Nat} (h : tgtV t k = none) : mvF R v t k = t.f k := by
  unfold tgtV at h
  unfold mvF
  by_cases h1 : t.m / P2 (k : Int) % 2 = 1 ∧ ¬ t.f k = 0
  · rw [if_pos h1] at h; cases h
  · rw [if_neg h1]

theorem mvF_some {R : List Int} {v : Nat → Int} {t : GM} {k : Nat} {p : Int} (h : tgtV t k = some p) : mvF R v t k = (tab R v p).getD 0 + 1 ∧ p = t.f k - 1 := by
  unfold tgtV at h
  unfold mvF
  by_cases h1 : t.m / P2 (k : Int) % 2 = 1 ∧ ¬ t.f k = 0
  · rw [if_pos h1] at h
    have := Option.some.inj h
    rw [if_pos h1, ← this]
    exact ⟨rfl, rfl⟩
  · rw [if_neg h1] at h; cases h

def RetMoved (W : World) (R : List Int) (v : Nat → Int) (t : GM) (e : Ending) (w' : World) : Prop :=
  ∃ a c, e = .returned (.agg #[.int .i64 ((tab R v t.at_).getD 0), .int .i64 t.s, .int .i64 t.m, .int .i64 t.o, .int .i64 t.h, .slice a t.n c]) ∧ Own w' W.heap.size a t.n (mvF R v t) ∧ Below W.heap.size W w'

set_option maxRecDepth 100000 in
set_option maxHeartbeats 3200000 in
theorem moved_any (t : GM) (mb nn : Nat) (R : List Int) (v : Nat → Int) (w : World) (hm : MapT w mb nn R v) (hs : Src w t.a t.n t.f) (hok : HOk t.s t.m t.o t.h) (htn : t.n = t.s.toNat) (hwd : ∀ k, k < t.n → -1000000000 ≤ t.f k ∧ t.f k ≤ 1000000000) (hat : -1000000000 ≤ t.at_ ∧ t.at_ ≤ 1000000000) (hpt : ∀ k p, k < t.n → tgtV t k = some p → 0 ≤ p ∧ p ≤ 1000000) (hv : ∀ p, 0 ≤ (tab R v p).getD 0 ∧ (tab R v p).getD 0 ≤ 1000000) :
    Calls Try.prog 136 #[.agg #[.int .i64 t.at_, .int .i64 t.s, .int .i64 t.m, .int .i64 t.o, .int .i64 t.h, .slice t.a t.n t.c], .map (some mb)] w (RetMoved w R v t) := by
  have hn12 : t.n ≤ 12 := by have := hok.1; omega
  have X0 := Lib.hid ((Blk.new_at (w := w) (cs := #[.int .i64 t.at_, .int .i64 t.s, .int .i64 t.m, .int .i64 t.o, .int .i64 t.h, .slice t.a t.n t.c]) (t := 111) w.heap.size rfl).alloc (.cells #[.int .i64 0, .int .i64 0, .int .i64 0, .int .i64 0, .int .i64 0, .slice none 0 0] 111))
  have Z0 := Lib.hid (Blk.new_at (w := w.alloc (.cells #[.int .i64 t.at_, .int .i64 t.s, .int .i64 t.m, .int .i64 t.o, .int .i64 t.h, .slice t.a t.n t.c] 111)) (cs := #[.int .i64 0, .int .i64 0, .int .i64 0, .int .i64 0, .int .i64 0, .slice none 0 0]) (t := 111) (w.heap.size + 1) (by simp))
  have HB0 := Lib.hid (((Below.refl w.heap.size w).alloc (Nat.le_refl _) (.cells #[.int .i64 t.at_, .int .i64 t.s, .int .i64 t.m, .int .i64 t.o, .int .i64 t.h, .slice t.a t.n t.c] 111)).alloc (by simp) (.cells #[.int .i64 0, .int .i64 0, .int .i64 0, .int .i64 0, .int .i64 0, .slice none 0 0] 111))
  have z0 : ((w.alloc (.cells #[.int .i64 t.at_, .int .i64 t.s, .int .i64 t.m, .int .i64 t.o, .int .i64 t.h, .slice t.a t.n t.c] 111)).alloc (.cells #[.int .i64 0, .int .i64 0, .int .i64 0, .int .i64 0, .int .i64 0, .slice none 0 0] 111)).heap.size = w.heap.size + 2 := by simp
  have HZ0 := Lib.hid z0
  have M0 := Lib.hid (hm.below HB0.out)
  have S0 := Lib.hid (hs.below HB0.out)
  have HOK := Lib.hid hok; have HTN := Lib.hid htn; have HWD := Lib.hid hwd; have HAT := Lib.hid hat; have HV := Lib.hid hv; have HPT := Lib.hid hpt
  have zl : w.heap.size + 2 ≤ ((w.alloc (.cells #[.int .i64 t.at_, .int .i64 t.s, .int .i64 t.m, .int .i64 t.o, .int .i64 t.h, .slice t.a t.n t.c] 111)).alloc (.cells #[.int .i64 0, .int .i64 0, .int .i64 0, .int .i64 0, .int .i64 0, .slice none 0 0] 111)).heap.size := by omega
  have lX := X0.out.1; have cX2 := X0.out.at 5 rfl
  clear hm hs hok htn hwd hat hv hpt z0
  go_enter Try.func136, Try.ntmps136
  go_wp2_with fail
  generalize (w.alloc (.cells #[.int .i64 t.at_, .int .i64 t.s, .int .i64 t.m, .int .i64 t.o, .int .i64 t.h, .slice t.a t.n t.c] 111)).alloc (.cells #[.int .i64 0, .int .i64 0, .int .i64 0, .int .i64 0, .int .i64 0, .slice none 0 0] 111) = w0 at *
  refine (clone_opt t.a t.n t.c t.f _ S0.out (by omega)).mono ?_
  rintro e w1 ⟨a5, c5, rfl, ho, hb, h51, h52, h53⟩
  have HB1 : Hid (Below w0.heap.size w0 w1) := Lib.hid hb
  have HO1 : Hid (Own w1 w0.heap.size a5 t.n (mvU R v t 0)) := Lib.hid (ho.congr (fun k hk => by unfold mvU; rw [if_neg (by omega)]))
  clear ho hb lX cX2 h51 h52 h53
  go_wp2
  go_loopw [14] (fun p wr => ∃ i : Nat, i ≤ t.n ∧ p = .int .i64 (i : Int) ∧ Hid (Below w0.heap.size w0 wr) ∧ Hid (Own wr w0.heap.size a5 t.n (mvU R v t i))) (fun p _ => t.n - (intOf p).toNat)
  case atStart => exact ⟨0, Nat.zero_le _, rfl, HB1, HO1⟩
  case round =>
    clear HB1 HO1
    obtain ⟨i, hi, rfl, HB, HO⟩ := hrel
    have hzr := HB.out.size
    have XR := Lib.hid (X0.out.below HB.out)
    by_cases hlt : i < t.n
    · have hlt' : (i : Int) < (t.n : Int) := by omega
      have hi0 : (0 : Int) ≤ (i : Int) := by omega
      have lX := XR.out.1; have cX0 := XR.out.at 0 rfl; have cX1 := XR.out.at 1 rfl; have cX2 := XR.out.at 2 rfl; have cX3 := XR.out.at 3 rfl; have cX4 := XR.out.at 4 rfl; have cX5 := XR.out.at 5 rfl
      go_wp2_with fail
      refine (target_any t i _ (S0.out.below HB.out) hlt HOK.out HTN.out (HWD.out i hlt)).mono ?_
      rintro e w2 ⟨hb, rfl⟩
      have HB2 := Lib.hid (HB.out.trans (hb.mono hzr))
      have HO2 := Lib.hid (HO.out.below hb)
      clear hb lX cX0 cX1 cX2 cX3 cX4 cX5
      cases ht : tgtV t i with
      | none =>
        have HS : Hid (∀ k, mvU R v t i k = mvU R v t (i + 1) k) := Lib.hid (mvU_skip R v t i (mvF_none ht))
        clear ht
        have HO3 := Lib.hid (HO2.out.congr (fun k _ => HS.out k))
        go_wp2
        go_roundw
        case rel => first | exact ⟨i + 1, by omega, by go_num, HB2, HO3⟩ | ((repeat apply Exists.intro); exact ⟨⟨i + 1, by omega, by go_num, HB2, HO3⟩, rfl⟩)
        case measure => simp [intOf]; omega
      | some p =>
        obtain ⟨hF, hp⟩ := mvF_some (R := R) (v := v) ht
        obtain ⟨hp0, hp1⟩ := HPT.out i p hlt ht
        obtain ⟨t1, t2⟩ := HV.out p
        have HLK := Lib.hid ((M0.out.below HB2.out).look (p := p) ⟨by omega, by omega⟩)
        obtain ⟨q, hq⟩ : ∃ q, (tab R v p).getD 0 = q := ⟨_, rfl⟩
        rw [hq] at HLK t1 t2 hF
        have HF := Lib.hid hF
        obtain ⟨g, o5, rfl, hgl, hgs, hgc⟩ : ∃ g o5, a5 = some ⟨g, o5, none⟩ ∧ w0.heap.size ≤ g ∧ g < w2.heap.size ∧ ∀ k, k < t.n → w2.cell? ⟨g, o5 + k, none⟩ = some (.int .i64 (mvU R v t i k)) ∧ w2.frozen? ⟨g, o5 + k, none⟩ = false := by
          rcases HO2.out with h0 | h0
          · omega
          · exact h0
        have d0 := (hgc i hlt).1; have d1 := (hgc i hlt).2
        have hlk := HLK.out
        clear hq hp ht hF hgc
        go_wp2_with fail
        refine (pto_any q _ ⟨t1, t2⟩).mono ?_
        rintro e w' ⟨rfl, rfl⟩
        go_wp2_with fail
        refine (word_ptr (q + 1) _).mono ?_
        rintro e w3 ⟨rfl, hb⟩
        have HB3 := Lib.hid (HB2.out.trans (hb.mono HB2.out.size))
        have HO3 := Lib.hid (HO2.out.below hb)
        have d2 := (hb.cell (p := ⟨g, o5 + i, none⟩) hgs).trans d0
        have d3 := (hb.frozen (p := ⟨g, o5 + i, none⟩) hgs).trans d1
        have hgs3 : g < w3.heap.size := by have := hb.size; omega
        clear hb d0 d1 hlk HLK hgs
        go_wp2
        have HB4 := Lib.hid (HB3.out.setCell (p := ⟨g, o5 + i, none⟩) hgl (.int .i64 (q + 1)))
        have HO4 : Hid (Own (w3.setCell ⟨g, o5 + i, none⟩ (.int .i64 (q + 1))) w0.heap.size (some ⟨g, o5, none⟩) t.n (mvU R v t (i + 1))) := Lib.hid ((own_put HO3.out i hlt (q + 1)).congr (fun k _ => by rw [← HF.out]; exact mvU_step R v t i k))
        clear d2 d3 HB3 HO3
        go_roundw
        case rel => first | exact ⟨i + 1, by omega, by go_num, HB4, HO4⟩ | ((repeat apply Exists.intro); exact ⟨⟨i + 1, by omega, by go_num, HB4, HO4⟩, rfl⟩)
        case measure => simp [intOf]; omega
    · have hlt' : ¬ (i : Int) < (t.n : Int) := by omega
      have ZR := Lib.hid (Z0.out.below HB.out)
      have HLK := Lib.hid ((M0.out.below HB.out).look (p := t.at_) HAT.out)
      have hlk := HLK.out
      have HE : Hid (∀ k, k < t.n → mvU R v t i k = mvF R v t k) := Lib.hid (fun k hk => by unfold mvU; rw [if_pos (by omega)])
      have lX := XR.out.1; have cX0 := XR.out.at 0 rfl; have cX1 := XR.out.at 1 rfl; have cX2 := XR.out.at 2 rfl; have cX3 := XR.out.at 3 rfl; have cX4 := XR.out.at 4 rfl
      have lZ := ZR.out.1; have cZ0 := ZR.out.at 0 rfl; have fZ0 := ZR.out.free 0 rfl; have cZ1 := ZR.out.at 1 rfl; have fZ1 := ZR.out.free 1 rfl; have cZ2 := ZR.out.at 2 rfl; have fZ2 := ZR.out.free 2 rfl; have cZ3 := ZR.out.at 3 rfl; have fZ3 := ZR.out.free 3 rfl; have cZ4 := ZR.out.at 4 rfl; have fZ4 := ZR.out.free 4 rfl; have cZ5 := ZR.out.at 5 rfl; have fZ5 := ZR.out.free 5 rfl
      go_wp2
      refine bodyPost_ret (v := .agg #[.int .i64 ((tab R v t.at_).getD 0), .int .i64 t.s, .int .i64 t.m, .int .i64 t.o, .int .i64 t.h, .slice a5 t.n c5]) (by simp [results, Try.results136, go_sem, cZ0, cZ1, cZ2, cZ3, cZ4, cZ5]) rfl ⟨a5, c5, rfl, ?_, ?_⟩
      · refine Own.mono (B := w0.heap.size) ?_ (by omega)
        repeat (first | (with_reducible refine Own.setCell ?_ (by (try simp); (try omega)) _) | (with_reducible refine Own.alloc ?_ _) | (with_reducible refine Own.drew ?_))
        exact HO.out.congr HE.out
      · repeat (first | (with_reducible refine Below.setCell ?_ (by (try simp); (try omega)) _) | (with_reducible refine Below.alloc ?_ (by (try simp); (try omega)) _) | (with_reducible refine Below.drew ?_))
        exact HB0.out.trans (HB.out.mono HB0.out.size)
end Go.Proofs.Ytbhjmomphajnnaa

namespace Go.Proofs.Ytbhjmomphajnnaa
open Go.RowKit Go.Maps
set_option linter.unusedVariables false

theorem src_grown {w w' : World} {row : Option Nat} {t : GM} (h : Src w t.a t.n t.f) (hg : w.grownBy w' row) (hne : t.n = 0 ∨ row ≠ some t.g) : Src w' t.a t.n t.f := by
  rcases h with h0 | ⟨b, off, e, lt, hc⟩
  · exact .inl h0
  · rcases hne with h0 | hne
    · exact .inl h0
    · have hgb : t.g = b := by unfold GM.g; rw [e]
      have hbl := hg.block b lt (fun e => hne (by rw [hgb, e]))
      have hz := hg.size
      exact .inr ⟨b, off, e, by omega, fun i hi => (World.cell?_of_block (a := ⟨b, off + i, none⟩) hbl).trans (hc i hi)⟩

theorem src_lt {w : World} {t : GM} (h : Src w t.a t.n t.f) : t.n = 0 ∨ t.g < w.heap.size := by
  rcases h with h0 | ⟨b, off, e, lt, hc⟩
  · exact .inl h0
  · right; unfold GM.g; rw [e]; exact lt

/-- A list of objects that stand where a table says, while it is made. -/
structure ML (w : World) (base : Nat) (u : Value) (M : List GM) (R : List Int) (v : Nat → Int) (T : Nat → GM) : Prop where
  row : w.ownsRow base 111 6 u M.length (rowG M)
  src : ∀ t ∈ M, Src w t.a t.n t.f ∧ (t.n = 0 ∨ u.ownBlock ≠ some t.g)
  far : ∀ t ∈ M, t.n = 0 ∨ base ≤ t.g
  same : ∀ i t, M[i]? = some t → GSame t (mvT R v (T i))

theorem ML.below {w w' : World} {base : Nat} {u : Value} {M : List GM} {R : List Int} {v : Nat → Int} {T : Nat → GM} (h : ML w base u M R v T) (hb : Below w.heap.size w w') : ML w' base u M R v T := ⟨ownsRow_below h.row hb, fun t ht => ⟨(h.src t ht).1.below hb, (h.src t ht).2⟩, h.far, h.same⟩

theorem ML.snoc {w w' : World} {base : Nat} {u u' : Value} {M : List GM} {R : List Int} {v : Nat → Int} {T : Nat → GM} {t : GM} (h : ML w base u M R v T) (hrow : w'.ownsRow base 111 6 u' (M ++ [t]).length (rowG (M ++ [t]))) (hg : w.grownBy w' u.ownBlock) (hu : u'.ownBlock = u.ownBlock ∨ ∃ g, u'.ownBlock = some g ∧ w.heap.size ≤ g)
    (hs : Src w t.a t.n t.f) (hne : t.n = 0 ∨ u.ownBlock ≠ some t.g) (hfar : t.n = 0 ∨ base ≤ t.g) (hsm : GSame t (mvT R v (T M.length))) : ML w' base u' (M ++ [t]) R v T := by
  have key : ∀ x : GM, Src w x.a x.n x.f → (x.n = 0 ∨ u.ownBlock ≠ some x.g) → Src w' x.a x.n x.f ∧ (x.n = 0 ∨ u'.ownBlock ≠ some x.g) := fun x h1 h2 => by
    refine ⟨src_grown h1 hg h2, ?_⟩
    rcases h2 with h2 | h2
    · exact .inl h2
    · rcases src_lt h1 with h3 | h3
      · exact .inl h3
      · right
        rcases hu with hu | ⟨g, hu, hl⟩
        · rw [hu]; exact h2
        · rw [hu]; intro e; have := Option.some.inj e; omega
  refine ⟨hrow, fun x hx => ?_, fun x hx => ?_, fun i x hx => ?_⟩
  · rcases List.mem_append.mp hx with hx | hx
    · exact key x (h.src x hx).1 (h.src x hx).2
    · simp only [List.mem_singleton] at hx
      subst hx
      exact key x hs hne
  · rcases List.mem_append.mp hx with hx | hx
    · exact h.far x hx
    · simp only [List.mem_singleton] at hx
      subst hx
      exact hfar
  · rcases Nat.lt_or_ge i M.length with hi | hi
    · rw [List.getElem?_append_left hi] at hx
      exact h.same i x hx
    · have hi' : i = M.length := by have := (List.getElem?_eq_some_iff.mp hx).1; simp at this; omega
      subst hi'
      rw [List.getElem?_append_right (Nat.le_refl _), Nat.sub_self] at hx
      have : t = x := by simpa using hx
      subst this
      exact hsm

/-- A row of objects in blocks from a place on. -/
def GVB (w : World) (base : Nat) (a : Option Addr) (N : Nat) (T : Nat → GM) : Prop := N = 0 ∨ ∃ b q, a = some ⟨b, q, none⟩ ∧ base ≤ b ∧ GSrc w b q N T ∧ ∀ i, i < N → (T i).n = 0 ∨ base ≤ (T i).g

theorem GVB.gv {w : World} {base : Nat} {a : Option Addr} {N : Nat} {T : Nat → GM} (h : GVB w base a N T) : GV w a N T := by
  rcases h with h | ⟨b, q, h1, _, h2, _⟩
  · exact .inl h
  · exact .inr ⟨b, q, h1, h2⟩

theorem GVB.keeps {w w' : World} {base lo hi : Nat} {a : Option Addr} {N : Nat} {T : Nat → GM} (h : GVB w base a N T) (hk : Keeps w w' lo hi) (hb : hi ≤ base) : GVB w' base a N T := by
  rcases h with h | ⟨b, q, h1, h2, h3, h4⟩
  · exact .inl h
  · exact .inr ⟨b, q, h1, h2, h3.keeps hk (.inr (by omega)) (fun i hi => by rcases h4 i hi with h5 | h5; exact .inl h5; exact .inr (.inr (by omega))), h4⟩

theorem GVB.below {w w' : World} {base : Nat} {a : Option Addr} {N : Nat} {T : Nat → GM} (h : GVB w base a N T) (hb : Below w.heap.size w w') : GVB w' base a N T := by
  rcases h with h | ⟨b, q, h1, h2, h3, h4⟩
  · exact .inl h
  · exact .inr ⟨b, q, h1, h2, h3.below hb, h4⟩

def RetAll (W : World) (N : Nat) (R : List Int) (v : Nat → Int) (T : Nat → GM) (e : Ending) (w' : World) : Prop :=
  ∃ a c U, e = .returned (.slice a N c) ∧ GVB w' W.heap.size a N U ∧ (∀ i, i < N → GSame (U i) (mvT R v (T i))) ∧ Below W.heap.size W w'

/-- What the objects of a list have to be, for all of them to move. -/
def Movable (w : World) (R : List Int) (v : Nat → Int) (t : GM) : Prop := Src w t.a t.n t.f ∧ HOk t.s t.m t.o t.h ∧ t.n = t.s.toNat ∧ (∀ k, k < t.n → -1000000000 ≤ t.f k ∧ t.f k ≤ 1000000000) ∧ (-1000000000 ≤ t.at_ ∧ t.at_ ≤ 1000000000) ∧ (∀ k p, k < t.n → tgtV t k = some p → 0 ≤ p ∧ p ≤ 1000000)

set_option maxRecDepth 100000 in
set_option maxHeartbeats 3200000 in
theorem movedAll_any (a : Option Addr) (N c mb nn : Nat) (T : Nat → GM) (R : List Int) (v : Nat → Int) (w : World) (hg : GV w a N T) (hN : N ≤ 400) (hm : MapT w mb nn R v) (hT : ∀ i, i < N → Movable w R v (T i)) (hv : ∀ p, 0 ≤ (tab R v p).getD 0 ∧ (tab R v p).getD 0 ≤ 1000000) :
    Calls Try.prog 61 #[.slice a N c, .map (some mb)] w (RetAll w N R v T) := by
  have G := Lib.hid hg; have MP := Lib.hid hm; have HT := Lib.hid hT; have HV := Lib.hid hv
  obtain ⟨j0, hif, hj0, hj1, hj2⟩ := info_parts Try.infoOb9
  clear hg hm hT hv
  go_enter Try.func61, Try.ntmps61
  go_wp2
  go_loopw [5, 10] (fun u p wr => ∃ (i : Nat) (M : List GM), i ≤ N ∧ p = .int .i64 (i : Int) ∧ M.length = i ∧ Hid (Below w.heap.size w wr) ∧ Hid (ML wr w.heap.size u M R v T)) (fun _ p _ => N - (intOf p).toNat)
  case atStart => exact ⟨0, [], Nat.zero_le _, rfl, rfl, Below.refl _ _, Lib.hid ⟨World.ownsRow_nil _ _ _ _, fun t ht => (by cases ht), fun t ht => (by cases ht), fun i t ht => (by simp at ht)⟩⟩
  case round =>
    obtain ⟨i, M, hi, rfl, hml, HB, HM⟩ := hrel
    have hzr := HB.out.size
    have HTI : Hid (mvT R v (T i) = mvT R v (T M.length)) := Lib.hid (by rw [hml])
    have hml4 : M.length ≤ 400 := by omega
    have HML := Lib.hid hml
    clear hml
    by_cases hlt : i < N
    · have hlt' : (i : Int) < (N : Int) := by omega
      have hi0 : (0 : Int) ≤ (i : Int) := by omega
      obtain ⟨b, q, rfl, lb, hsix⟩ := gv_get (G.out.below HB.out) hlt
      have HMT := Lib.hid (HT.out i hlt)
      have HAL : Hid (Below w.heap.size w (wr.alloc (.cells #[.int .i64 (T i).at_, .int .i64 (T i).s, .int .i64 (T i).m, .int .i64 (T i).o, .int .i64 (T i).h, .slice (T i).a (T i).n (T i).c] 111))) := Lib.hid (HB.out.alloc hzr _)
      have HMA := Lib.hid (HM.out.below ((Below.refl wr.heap.size wr).alloc (Nat.le_refl _) (.cells #[.int .i64 (T i).at_, .int .i64 (T i).s, .int .i64 (T i).m, .int .i64 (T i).o, .int .i64 (T i).h, .slice (T i).a (T i).n (T i).c] 111)))
      have za : (wr.alloc (.cells #[.int .i64 (T i).at_, .int .i64 (T i).s, .int .i64 (T i).m, .int .i64 (T i).o, .int .i64 (T i).h, .slice (T i).a (T i).n (T i).c] 111)).heap.size = wr.heap.size + 1 := by simp
      have HZA := Lib.hid za
      have hlow : Hid (∀ k, u5.ownBlock = some k → k < wr.heap.size) := Lib.hid (fun k hk => (HM.out.row.lt k hk).2)
      have hge : Hid (∀ k, u5.ownBlock = some k → w.heap.size ≤ k) := Lib.hid (fun k hk => (HM.out.row.lt k hk).1)
      obtain ⟨av, kv, hvu⟩ := rowG_val HM.out.row
      subst hvu
      clear HM HB za
      generalize hti : T i = t at *
      have HTT := Lib.hid hti
      clear hti
      obtain ⟨s0, s1, s2, s3, s4, s5⟩ := hsix
      go_wp2_with fail
      refine (moved_any t mb nn R v _ (MP.out.below HAL.out) (HMT.out.1.below HAL.out) HMT.out.2.1 HMT.out.2.2.1 HMT.out.2.2.2.1 HMT.out.2.2.2.2.1 HMT.out.2.2.2.2.2 HV.out).mono ?_
      rintro e w2 ⟨a5, c5, rfl, ho, hb⟩
      have HB2 := Lib.hid (HAL.out.trans (hb.mono HAL.out.size))
      have HM2 := Lib.hid (HMA.out.below hb)
      have hz2 : wr.heap.size + 1 ≤ w2.heap.size := by have := hb.size; have := HZA.out; omega
      obtain ⟨x, hx⟩ : ∃ x : GM, x = ⟨(tab R v t.at_).getD 0, t.s, t.m, t.o, t.h, a5, t.n, c5, mvF R v t⟩ := ⟨_, rfl⟩
      have HX : Hid (Src w2 x.a x.n x.f ∧ (x.n = 0 ∨ (Value.slice av M.length kv).ownBlock ≠ some x.g) ∧ (x.n = 0 ∨ w.heap.size ≤ x.g) ∧ GSame x (mvT R v t)) := Lib.hid (by
        subst hx
        refine ⟨ho.src, ?_, ?_, rfl, rfl, rfl, rfl, rfl, rfl, fun _ _ => rfl⟩
        rcases ho with h0 | ⟨g, o5, e1, e2, e3, _⟩
        · exact .inl h0
        · right
          intro e
          have h9 := hlow.out _ e
          have h8 : (GM.g ⟨(tab R v t.at_).getD 0, t.s, t.m, t.o, t.h, a5, t.n, c5, mvF R v t⟩) = g := by unfold GM.g; rw [e1]
          rw [h8] at h9
          have := HZA.out
          omega
        · rcases ho with h0 | ⟨g, o5, e1, e2, e3, _⟩
          · exact .inl h0
          · right
            have h8 : (GM.g ⟨(tab R v t.at_).getD 0, t.s, t.m, t.o, t.h, a5, t.n, c5, mvF R v t⟩) = g := by unfold GM.g; rw [e1]
            rw [h8]
            have := HZA.out
            omega)
      have x0 : (tab R v t.at_).getD 0 = x.at_ := by rw [hx]
      have x1 : t.s = x.s := by rw [hx]
      have x2 : t.m = x.m := by rw [hx]
      have x3 : t.o = x.o := by rw [hx]
      have x4 : t.h = x.h := by rw [hx]
      have x5 : (Value.slice a5 t.n c5) = .slice x.a x.n x.c := by rw [hx]
      rw [x0, x1, x2, x3, x4, x5]
      clear x0 x1 x2 x3 x4 x5 hx ho hb s0 s1 s2 s3 s4 s5 HAL HMA
      go_wp2_with (at_builtin; go_loud (refine wpList_append_lies _ rfl _ _ 98 rfl w.heap.size 111 j0 _ 6 64 Try.underlying98 hif hj0 hj1 hj2 rfl (by decide) (.slice av M.length kv) M.length (rowG M) rfl (HM2.out.row.alloc _) ⟨w2.heap.size, 0, none⟩ 1 1 (gcells x) rfl rfl (cells_new6 w2 x) (obj_one x) (by omega) (by unfold maxLen; omega) (by omega) (by simp; omega) (w2.heap.size + 1) (by simp) ?_); intro g9 cap9 w9 hown9 hgrow9 hat9 hlt9)
      have HB9 : Hid (Below w.heap.size w w9) := (HB2.out.alloc (by omega) _).grown hgrow9 (by simp; omega) (fun k hk => hge.out k hk)
      have HM9 : Hid (ML w9 w.heap.size (.slice (some ⟨g9, 0, none⟩) (M.length + 1) cap9) (M ++ [x]) R v T) := Lib.hid (by
        refine ML.snoc (HM2.out.below ((Below.refl w2.heap.size w2).alloc (Nat.le_refl _) (.cells #[.int .i64 x.at_, .int .i64 x.s, .int .i64 x.m, .int .i64 x.o, .int .i64 x.h, .slice x.a x.n x.c] 111))) ?_ hgrow9 ?_ (HX.out.1.alloc _) HX.out.2.1 HX.out.2.2.1 ?_
        · rw [rowG_snoc, List.length_append]; exact hown9
        · rcases hat9 with he | he
          · exact .inl he.symm
          · exact .inr ⟨g9, rfl, by simp; omega⟩
        · rw [← HTI.out]; exact HX.out.2.2.2)
      clear hown9 hgrow9 hat9
      go_wp2
      go_roundw
      case rel => first | exact ⟨i + 1, M ++ [x], by omega, by go_num, by rw [List.length_append, HML.out]; rfl, HB9, HM9⟩ | ((repeat apply Exists.intro); exact ⟨⟨i + 1, M ++ [x], by omega, by go_num, by rw [List.length_append, HML.out]; rfl, HB9, HM9⟩, rfl⟩)
      case measure => simp [intOf]; omega
    · have hlt' : ¬ (i : Int) < (N : Int) := by omega
      obtain rfl : i = N := by omega
      have hml := HML.out
      clear HML
      subst hml
      have HRet : Hid (RetAll w M.length R v T (.returned u5) wr) := Lib.hid (by
        have hlo := HM.out.row.lt
        obtain ⟨a', c', rfl, hgv⟩ := rowG_GV HM.out.row (fun t ht => (HM.out.src t ht).1)
        refine ⟨a', c', gT M, rfl, ?_, fun k hk => by rw [gT_at (List.getElem?_eq_getElem hk)]; exact HM.out.same k _ (List.getElem?_eq_getElem hk), HB.out⟩
        rcases hgv with h0 | ⟨b, q, e1, e2⟩
        · exact .inl h0
        · refine .inr ⟨b, q, e1, ?_, e2, fun k hk => by rw [gT_at (List.getElem?_eq_getElem hk)]; exact HM.out.far _ (List.getElem_mem hk)⟩
          subst e1
          exact (hlo b rfl).1)
      go_wp2
      go_ret
      exact HRet.out

set_option maxRecDepth 100000 in
set_option maxHeartbeats 1600000 in
theorem movedRoots_any (ra : Option Addr) (roots : List Int) (rc mb nn : Nat) (R : List Int) (v : Nat → Int) (w : World) (hr : Src w ra roots.length (lf roots)) (hrn : roots.length ≤ 1048576) (hm : MapT w mb nn R v) (hp : ∀ p ∈ roots, 0 ≤ p ∧ p ≤ 1000000) :
    Calls Try.prog 65 #[.slice ra roots.length rc, .map (some mb)] w (RetInts w roots.length (lf (roots.map fun p => (tab R v p).getD 0))) := by
  have RS := Lib.hid hr; have MP := Lib.hid hm; have HP := Lib.hid hp
  obtain ⟨i0, hif, hz0, hz1, hz2⟩ := info_parts Try.info2
  clear hr hm hp
  go_enter Try.func65, Try.ntmps65
  go_wp2
  go_loopw [5, 10] (fun u p wr => ∃ i : Nat, i ≤ roots.length ∧ p = .int .i64 (i : Int) ∧ Hid (Below w.heap.size w wr) ∧ Hid (wr.ownsRow w.heap.size 2 1 u i (nums i (lf (roots.map fun p => (tab R v p).getD 0))))) (fun _ p _ => roots.length - (intOf p).toNat)
  case atStart => exact ⟨0, Nat.zero_le _, rfl, Below.refl _ _, World.ownsRow_nil _ _ _ _⟩
  case round =>
    obtain ⟨i, hi, rfl, HB, OW⟩ := hrel
    have hzr := HB.out.size
    by_cases hlt : i < roots.length
    · have hlt' : (i : Int) < (roots.length : Int) := by omega
      have hi0 : (0 : Int) ≤ (i : Int) := by omega
      obtain ⟨rb, ro, rfl, hrb, hrc⟩ := src_some (RS.out.below HB.out) (by omega)
      have c0 := hrc i hlt
      have hpp := HP.out _ (lf_mem hlt)
      have HY : Hid (lf (roots.map fun p => (tab R v p).getD 0) i = (tab R v (lf roots i)).getD 0) := Lib.hid (by rw [lf_at (by simpa using hlt), lf_at hlt]; simp)
      obtain ⟨y, hy⟩ : ∃ y, lf roots i = y := ⟨_, rfl⟩
      rw [hy] at c0 hpp HY
      have HLK := Lib.hid ((MP.out.below HB.out).look (p := y) ⟨by omega, by omega⟩)
      obtain ⟨z, hz⟩ : ∃ z, (tab R v y).getD 0 = z := ⟨_, rfl⟩
      rw [hz] at HLK HY
      have hlk := HLK.out
      have HGE : Hid (∀ k, u5.ownBlock = some k → w.heap.size ≤ k) := Lib.hid (fun k hk => (OW.out.lt k hk).1)
      clear hrc hy hz
      go_wp2_with (at_builtin; go_loud (refine wpList_append_lies _ rfl _ _ 24 rfl w.heap.size 2 i0 (.int .i64 0) 1 8 Try.underlying24 hif hz0 hz1 hz2 rfl (by decide) u5 i (nums i (lf (roots.map fun p => (tab R v p).getD 0))) rfl (OW.out.alloc _) ⟨wr.heap.size, 0, none⟩ 1 1 [.int .i64 z] rfl rfl (news1 wr z) (by intro u hu; simp only [List.mem_cons, List.mem_nil_iff, or_false] at hu; subst hu; rfl) (by omega) (by unfold maxLen; omega) (by omega) (by simp; omega) (wr.heap.size + 1) (by simp) ?_); intro g9 cap9 w9 hown9 hgrow9 hat9 hlt9)
      have HB9 : Hid (Below w.heap.size w w9) := (HB.out.alloc hzr _).grown hgrow9 (by simp; omega) (fun k hk => HGE.out k hk)
      have OW9 : Hid (w9.ownsRow w.heap.size 2 1 (.slice (some ⟨g9, 0, none⟩) (i + 1) cap9) (i + 1) (nums (i + 1) (lf (roots.map fun p => (tab R v p).getD 0)))) := Lib.hid (by rw [nums_succ, HY.out]; exact hown9)
      clear hown9 hgrow9 hat9 hlk HLK c0
      go_wp2
      go_roundw
      case rel => first | exact ⟨i + 1, by omega, by go_num, HB9, OW9⟩ | ((repeat apply Exists.intro); exact ⟨⟨i + 1, by omega, by go_num, HB9, OW9⟩, rfl⟩)
      case measure => simp [intOf]; omega
    · have hlt' : ¬ (i : Int) < (roots.length : Int) := by omega
      obtain rfl : i = roots.length := by omega
      have HRet := Lib.hid (retInts_of_row OW.out HB.out)
      go_wp2
      go_ret
      exact HRet.out

theorem totO_le {X : List Ob} (h : ∀ x ∈ X, x.s ≤ 12) : totO X ≤ 14 * X.length := by
  induction X with
  | nil => simp [totO]
  | cons x X ih =>
    have h1 := h x (List.mem_cons_self ..)
    have h2 := ih fun y hy => h y (List.mem_cons_of_mem _ hy)
    simp only [totO, wordsO, List.length_cons]
    omega

theorem totO_take_le : ∀ (X : List Ob) (i : Nat), totO (X.take i) ≤ totO X
  | [], i => by simp [totO]
  | x :: X, 0 => by simp [totO]
  | x :: X, i + 1 => by
    have := totO_take_le X i
    simp only [List.take_succ_cons, totO]
    omega

theorem placeAt_top (P : Nat) (X : List Ob) (i : Nat) : placeAt P X i ≤ P + totO X := by
  have := totO_take_le X i
  unfold placeAt; omega

def RetPlaces (W : World) (R : List Int) (v : Nat → Int) (e : Ending) (w' : World) : Prop :=
  ∃ mb nn, e = .returned (.map (some mb)) ∧ MapT w' mb nn R v ∧ W.heap.size ≤ mb ∧ Below W.heap.size W w'

set_option maxRecDepth 100000 in
set_option maxHeartbeats 3200000 in
theorem placesFrom_any (co : Int) (mv : Value) (a : Option Addr) (R : List Int) (c P : Nat) (T : Nat → GM) (L : List Ob) (f : Nat → Int) (w : World) (hg : GV w a R.length T) (hl : R.length ≤ 400) (hnd : R.Nodup) (hO : ∀ i, i < R.length → (T i).at_ = lf R i ∧ ∃ x, findO L (lf R i) = some x ∧ GSame (T i) (obG f x)) (hok : ∀ x ∈ L, ObOk x) (hpl : ∀ p ∈ R, 0 ≤ p ∧ p ≤ 1000000) (hsub : ∀ p ∈ R, p ∈ placesO L) (hP : P ≤ 400) :
    Calls Try.prog 59 #[.agg #[.int .i64 co, .slice a R.length c, mv], .int .i64 (P : Int)] w (RetPlaces w R (fun i => (placeAt P (objsO L R) i : Int))) := by
  have hlen := objsO_length hsub
  have G := Lib.hid hg; have HO := Lib.hid hO; have HOK := Lib.hid hok; have HND := Lib.hid hnd; have HPL := Lib.hid hpl; have HSUB := Lib.hid hsub; have HLEN := Lib.hid hlen
  have hfi := fld_ir
  have hmk := @run_makeMap Try.prog
  have HB0 := Lib.hid (((Below.refl w.heap.size w).alloc (Nat.le_refl _) (.cells #[.int .i64 co, .slice a R.length c, mv] 101)).alloc (by simp) (.map #[] 0))
  have HM0 := Lib.hid (MapT.made (w.alloc (.cells #[.int .i64 co, .slice a R.length c, mv] 101)) (fun i => (placeAt P (objsO L R) i : Int)))
  clear hg hO hok hnd hpl hsub hlen
  obtain ⟨X, hX⟩ : ∃ X, objsO L R = X := ⟨_, rfl⟩
  rw [hX] at HM0 HLEN ⊢
  have HX := Lib.hid hX
  have HV : Hid (∀ i, (placeAt P X i : Int) ≤ 6000) := Lib.hid (fun i => by
    have h1 := placeAt_top P X i
    have h2 := totO_le (X := X) (fun x hx => by
      have h3 : x ∈ L := by
        rw [← hX] at hx
        obtain ⟨p, hp, he⟩ := List.mem_filterMap.mp hx
        exact List.mem_of_find?_eq_some he
      exact (HOK.out x h3).1.1.2)
    have := HLEN.out
    omega)
  clear hX
  go_enter Try.func59, Try.ntmps59
  go_wp2_with fail
  have z0 : w.heap.size + 2 ≤ ((w.alloc (.cells #[.int .i64 co, .slice a R.length c, mv] 101)).alloc (.map #[] 0)).heap.size := by simp
  have hs1 : (w.alloc (.cells #[.int .i64 co, .slice a R.length c, mv] 101)).heap.size = w.heap.size + 1 := by simp
  rw [hs1] at HM0
  have HM1 : Hid (MapT ((w.alloc (.cells #[.int .i64 co, .slice a R.length c, mv] 101)).alloc (.map #[] 0)) (w.heap.size + 1) 0 (R.take 0) (fun i => (placeAt P X i : Int))) := HM0
  clear hs1 HM0
  generalize (w.alloc (.cells #[.int .i64 co, .slice a R.length c, mv] 101)).alloc (.map #[] 0) = w1 at *
  go_loopw [1, 12] (fun u p wr => ∃ i : Nat, i ≤ R.length ∧ p = .int .i64 (i : Int) ∧ u = .int .i64 (placeAt P X i : Int) ∧ Hid (Below w.heap.size w wr) ∧ Hid (MapT wr (w.heap.size + 1) i (R.take i) (fun i => (placeAt P X i : Int)))) (fun _ p _ => R.length - (intOf p).toNat)
  case atStart => exact ⟨0, Nat.zero_le _, rfl, by rw [placeAt_zero], HB0, HM1⟩
  case round =>
    clear HB0 HM1 z0
    obtain ⟨i, hi, rfl, rfl, HB, HM⟩ := hrel
    have hzr := HB.out.size
    have hml := HM.out.lt
    by_cases hlt : i < R.length
    · have hlt' : (i : Int) < (R.length : Int) := by omega
      have hi0 : (0 : Int) ≤ (i : Int) := by omega
      have hiX : i < X.length := by have := HLEN.out; omega
      obtain ⟨b, q, rfl, lb, hsix⟩ := gv_get (G.out.below HB.out) hlt
      obtain ⟨hat, x, hx, hs⟩ := HO.out i hlt
      have hXx : X[i] = x := by
        have h9 := objsO_get HSUB.out i hlt (by rw [HX.out]; exact hiX)
        rw [lf_at hlt] at hx
        rw [hx] at h9
        have := (Option.some.inj h9).symm
        simpa only [HX.out] using this
      have hxok := HOK.out x (List.mem_of_find?_eq_some hx)
      have hts : (T i).s = x.s ∧ (T i).m = x.m ∧ (T i).o = x.o ∧ (T i).h = x.h := ⟨hs.2.1, hs.2.2.1, hs.2.2.2.1, hs.2.2.2.2.1⟩
      have hpy := HPL.out _ (lf_mem hlt)
      have hny : lf R i ∉ R.take i := fun hm => by
        obtain ⟨k, hk, he⟩ := List.getElem_of_mem hm
        have hk' : k < i := by have h9 := hk; rw [List.length_take] at h9; omega
        rw [List.getElem_take, lf_at hlt] at he
        have := (List.getElem_inj HND.out).mp he
        omega
      have HK : Hid (HOk (T i).s (T i).m (T i).o (T i).h) := Lib.hid (by rw [hts.1, hts.2.1, hts.2.2.1, hts.2.2.2]; exact hxok.1)
      have HNX : Hid ((placeAt P X i : Int) + ((T i).s + 2) = (placeAt P X (i + 1) : Int)) := Lib.hid (by
        rw [placeAt_step P X hiX, hXx, hts.1]; unfold wordsO; have := hxok.1.1; omega)
      have hsb : 0 ≤ (T i).s ∧ (T i).s ≤ 12 := by rw [hts.1]; exact hxok.1.1
      obtain ⟨hsb1, hsb2⟩ := hsb
      have hvb := HV.out i
      have hv0 : (0 : Int) ≤ (placeAt P X i : Int) := by omega
      have htl : (R.take i).length = i := by rw [List.length_take]; omega
      have HTK : Hid (R.take i ++ [lf R i] = R.take (i + 1)) := Lib.hid (by rw [List.take_succ_eq_append_getElem hlt, lf_at hlt])
      have hupd := (HM.out.alloc (.cells #[.int .i64 (T i).at_, .int .i64 (T i).s, .int .i64 (T i).m, .int .i64 (T i).o, .int .i64 (T i).h, .slice (T i).a (T i).n (T i).c] 111)).update (p := (T i).at_) (by unfold maxLen; omega) (by rw [hat]; constructor <;> omega) (by simp only [htl]; constructor <;> omega) (by rw [hat]; exact hny)
      simp only [htl] at hupd
      obtain ⟨w3, hr3, hm3, hg3⟩ := hupd
      have HM3 : Hid (MapT w3 (w.heap.size + 1) (i + 1) (R.take (i + 1)) (fun i => (placeAt P X i : Int))) := Lib.hid (by rw [← HTK.out, ← hat]; exact hm3)
      have HB3 : Hid (Below w.heap.size w w3) := Lib.hid ((HB.out.alloc hzr (.cells #[.int .i64 (T i).at_, .int .i64 (T i).s, .int .i64 (T i).m, .int .i64 (T i).o, .int .i64 (T i).h, .slice (T i).a (T i).n (T i).c] 111)).grown hg3 (by simp; omega) (fun k hk => by cases hk; omega))
      have X3 := Lib.hid (blk_grown (Blk.new_at (w := wr) (cs := #[.int .i64 (T i).at_, .int .i64 (T i).s, .int .i64 (T i).m, .int .i64 (T i).o, .int .i64 (T i).h, .slice (T i).a (T i).n (T i).c]) (t := 111) wr.heap.size rfl) hg3 (by intro e; have := Option.some.inj e; omega))
      clear hm3 hg3 hs hxok hts hx hat hpy hny htl hXx
      obtain ⟨K, hK⟩ : ∃ K, placeAt P X i = K := ⟨_, rfl⟩
      rw [hK] at HNX hr3 hvb hv0 ⊢
      have HKK := Lib.hid hK
      clear hK
      generalize T i = t at *
      obtain ⟨s0, s1, s2, s3, s4, s5⟩ := hsix
      have lX := X3.out.1; have cX1 := X3.out.at 1 rfl; have cX2 := X3.out.at 2 rfl; have cX3 := X3.out.at 3 rfl; have cX4 := X3.out.at 4 rfl
      go_wp2_with fail
      refine (implWO_yes t.s t.m t.o t.h _ HK.out).mono ?_
      rintro e w4 ⟨rfl, hb⟩
      have HB4 := Lib.hid (thru0 HB3.out hb)
      have HM4 := Lib.hid (HM3.out.below hb)
      clear hb s0 s1 s2 s3 s4 s5 hr3 lX cX1 cX2 cX3 cX4 X3
      go_wp2
      go_roundw
      case rel => first | exact ⟨i + 1, by omega, by go_num, by rw [← HNX.out], HB4, HM4⟩ | ((repeat apply Exists.intro); exact ⟨⟨i + 1, by omega, by go_num, by rw [← HNX.out], HB4, HM4⟩, rfl⟩)
      case measure => simp [intOf]; omega
    · have hlt' : ¬ (i : Int) < (R.length : Int) := by omega
      obtain rfl : i = R.length := by omega
      have HMF : Hid (MapT wr (w.heap.size + 1) R.length R (fun i => (placeAt P X i : Int))) := Lib.hid (by have := HM.out; rwa [List.take_length] at this)
      go_wp2
      go_ret
      exact ⟨w.heap.size + 1, R.length, rfl, HMF.out, by omega, HB.out⟩
end Go.Proofs.Ytbhjmomphajnnaa

namespace Go.Proofs.Ytbhjmomphajnnaa
open Go.RowKit Go.Maps
set_option linter.unusedVariables false

set_option maxRecDepth 100000 in
set_option maxHeartbeats 800000 in
theorem concat_one (b : Nat) (a1 a2 : Option Addr) (n1 c1 c2 : Nat) (f g : Nat → Int) (w : World) (hb : b < w.heap.size)
    (h1 : w.cell? ⟨b, 0, none⟩ = some (.slice a1 n1 c1)) (h2 : w.cell? ⟨b, 1, none⟩ = some (.slice a2 0 c2))
    (s1 : Src w a1 n1 f) (hp1 : 0 < n1) (hn1 : n1 ≤ 524288) :
    Calls Try.prog 62 #[.slice (some ⟨b, 0, none⟩) 2 2] w (RetInts w (n1 + 0) (cat n1 f g)) := by
  obtain ⟨i0, hi, hz0, hz1, hz2⟩ := info_parts Try.info2
  obtain ⟨b1, o1, rfl, hb1, hc1⟩ := src_some s1 hp1
  have S1 := Lib.hid s1
  clear s1 hc1
  go_enter Try.func62, Try.ntmps62
  go_wp2
  refine wp_loop_rounds 3 ?_
  rw [rounds_succ]
  go_wp2
  rw [rounds_succ]
  go_wp2
  rw [rounds_succ]
  go_wp2_with (go_at_call 137; refine (grow_any n1 _ (by omega) (by omega)).mono ?_; rintro e w1 ⟨v, rfl, ho, hbk, hbel, hsz⟩)
  have HO := Lib.hid ho
  have HBK := Lib.hid hbk
  have h1' := (hbel.cell (p := ⟨b, 0, none⟩) hb).trans h1
  have h2' := (hbel.cell (p := ⟨b, 1, none⟩) hb).trans h2
  have HB := Lib.hid hbel
  have hsz' : w.heap.size ≤ w1.heap.size := by omega
  clear ho hbk h1 hbel
  have S1' := Lib.hid (news_at (src_at (S1.out.below HB.out)))
  refine wp_loop_rounds 3 ?_
  rw [rounds_succ]
  go_wp2_with (at_builtin; refine wpList_append_own _ rfl (.tmp 31) (.tmp 32) 24 rfl w.heap.size 2 i0 (.int .i64 0) 1 8 Try.underlying24 hi hz0 hz1 hz2 rfl (by decide) v 0 [] rfl HO.out ⟨b1, o1, none⟩ n1 c1 (nums n1 f) rfl (by simp [nums]) S1'.out (nums_one n1 f) (by unfold maxLen; omega) (by omega) hsz' ?_; intro v2 w2 hown hgrow _)
  have hbel2 : Below w.heap.size w w2 := HB.out.grown hgrow hsz' (by intro k hk; rw [HBK.out] at hk; cases hk; exact Nat.le_refl _)
  simp only [Nat.zero_add, List.nil_append] at hown
  have h2'' := (hbel2.cell (p := ⟨b, 1, none⟩) hb).trans h2
  have hsz2 : w.heap.size ≤ w2.heap.size := hbel2.size
  have HO2 := Lib.hid hown
  have HB2 := Lib.hid hbel2
  clear hown hgrow hbel2 h1' h2' h2
  have hrow : w2.ownsRow w.heap.size 2 1 v2 n1 (nums n1 f) := HO2.out
  obtain ⟨va, vc, rfl, hv1, hv2, hv3⟩ := row_shape hrow
  clear hrow
  have hsr : Go.Src Try.prog i0.size 24 (.slice a2 0 c2) 0 [] w2 := by
    cases a2 with
    | none => exact Go.Src.ofNil w2 Try.underlying24 c2
    | some ad => exact Go.Src.ofSlice w2 Try.underlying24 ad 0 c2 [] (by simp) (by intro j u h; simp at h) (by intro u h; cases h)
  have hap := fun ty => run_append_nothing (P := Try.prog) w2 24 24 ty 2 i0 Try.underlying24 hi va n1 vc hv1 (.slice a2 0 c2) hsr
  clear hsr
  rw [rounds_succ]
  go_wp2_with (at_builtin; refine Lib.wpList_append_run _ rfl _ _ _ _ rfl _ _ rfl rfl _ _ (hap _) ?_)
  clear hap h2''
  rw [rounds_succ]
  go_wp2
  go_ret
  have h := HO2.out
  have h3 : nums n1 f = nums (n1 + 0) (cat n1 f g) := by
    rw [Nat.add_zero]; exact nums_congr (fun i hi => by unfold cat; rw [if_pos hi])
  rw [h3] at h
  exact retInts_of_row (e := 2) h HB2.out

theorem concat_opt (b : Nat) (a1 a2 : Option Addr) (n1 n2 c1 c2 : Nat) (f g : Nat → Int) (w : World) (hb : b < w.heap.size)
    (h1 : w.cell? ⟨b, 0, none⟩ = some (.slice a1 n1 c1)) (h2 : w.cell? ⟨b, 1, none⟩ = some (.slice a2 n2 c2))
    (s1 : Src w a1 n1 f) (s2 : Src w a2 n2 g) (hp1 : 0 < n1) (hn1 : n1 ≤ 524288) (hn2 : n2 ≤ 524288) :
    Calls Try.prog 62 #[.slice (some ⟨b, 0, none⟩) 2 2] w (RetInts w (n1 + n2) (cat n1 f g)) := by
  rcases Nat.eq_zero_or_pos n2 with rfl | hp2
  · exact concat_one b a1 a2 n1 c1 c2 f g w hb h1 h2 s1 hp1 hn1
  · exact concat_any b a1 a2 n1 n2 c1 c2 f g w hb h1 h2 s1 s2 hp1 hp2 hn1 hn2

/-- copy, one number behind the other, as a law for the walk. -/
theorem wpList_copy_cells {P : Program} {w : World} {ops : Array Oper} {rest : List Oper} {o : Oper} {a : Act} {Q : Exit → Act → World → Prop} (hgd : o.guard = none) (d s : Operand) (dT sT : TypeId)
    (ho : o.op = .call { callee := .builtin .copy, args := #[d, s], argTypes := #[dT, sT] }) (elem : TypeId) (hu : P.underlying dT = some (.slice elem)) (hsz : (P.info? elem).map (·.size) = some 1)
    (b off dLen dCap : Nat) (ad : Addr) (sLen sCap : Nat) (hd : a.eval d = .slice (some ⟨b, off, none⟩) dLen dCap) (hs : a.eval s = .slice (some ad) sLen sCap)
    (cs : List Value) (hn : cs.length = Nat.min sLen dLen) (hsrc : ∀ j v, cs[j]? = some v → w.cell? (ad.add j) = some v) (hc : ∀ j, j < cs.length → (w.cell? ⟨b, off + j, none⟩).isSome = true) (hf : ∀ j, j < cs.length → w.frozen? ⟨b, off + j, none⟩ = false) (h1 : ∀ v ∈ cs, v.oneCell' = true)
    (h : wpList P ops Q rest (a.put o.dst (goInt cs.length)) (w.setCells b off cs)) : wpList P ops Q (o :: rest) a w := by
  refine wpList_plain hgd fun K hK => ?_
  have hrun := run_copy_cells (P := P) w dT sT o.type elem b off dLen dCap ad sLen sCap cs hu hsz hn hsrc hc hf h1
  unfold Oper.wp
  simp [execOp, ho, resolve, invoke, builtin, hd, hs, hrun, Result.andThen]
  exact hK _ _ h

theorem own_copy {w : World} {lo hi g q n : Nat} {G : Nat → Int} (h : OwnIn w lo hi (some ⟨g, q, none⟩) n G) (K m : Nat) (F : Nat → Int) (hK : K + m ≤ n) : OwnIn (w.setCells g (q + K) (nums m F)) lo hi (some ⟨g, q, none⟩) n (fun i => if K ≤ i ∧ i < K + m then F (i - K) else G i) := by
  rcases h with h0 | ⟨b', o', e1, h1, hb, hc⟩
  · exact .inl h0
  · cases e1
    refine .inr ⟨g, q, rfl, h1, by rw [setCells_size]; exact hb, fun i hi => ⟨?_, ?_⟩⟩
    · dsimp only
      by_cases hin : K ≤ i ∧ i < K + m
      · rw [if_pos hin]
        obtain ⟨j, rfl⟩ : ∃ j, i = K + j := ⟨i - K, by omega⟩
        have hj : j < (nums m F).length := by rw [nums_length]; omega
        have := World.cell?_setCells_in g (nums m F) (q + K) w (fun k hk => by
          rw [nums_length] at hk
          rw [Nat.add_assoc, (hc (K + k) (by omega)).1]; rfl) j hj
        rw [← Nat.add_assoc, this]
        have h9 := nums_get m F j (by omega)
        rw [List.getElem?_eq_getElem hj] at h9
        rw [h9, show K + j - K = j by omega]
      · rw [if_neg hin, World.cell?_setCells_out g (nums m F) (q + K) w ⟨g, q + i, none⟩ (fun _ _ => by rw [nums_length]; show q + i < q + K ∨ q + K + m ≤ q + i; omega)]
        exact (hc i hi).1
    · rw [World.frozen?_setCells]; exact (hc i hi).2

theorem keeps_copy {w : World} {lo hi g : Nat} (h1 : lo ≤ g) (h2 : g < hi) : ∀ (vs : List Value) (o : Nat) (w' : World), Keeps w w' lo hi → Keeps w (w'.setCells g o vs) lo hi
  | [], _, _, h => h
  | v :: vs, o, w', h => keeps_copy h1 h2 vs (o + 1) _ (h.trans (keeps_setCell (p := ⟨g, o, none⟩) h1 h2 v))

section

variable {h ac bu : Int} {n : Nat} {f : Nat → Int} {L : List Ob} {roots : List Int}

/-- There is a result of a collection. -/
theorem col_some (f : Nat → Int) (L : List Ob) (R : List Int) (P : Nat) : ∃ g, IsCol f L R P g := by
  have key : ∀ i, i ≤ (objsO L R).length → ∃ g, ColOn f R P (objsO L R) (fun j _ => j < i) g := by
    intro i
    induction i with
    | zero => exact fun _ => ⟨fun _ => 0, colOn_zero.less (fun j d _ _ h => by omega)⟩
    | succ i ih =>
      intro hi
      obtain ⟨g, hg⟩ := ih (by omega)
      refine ⟨fun k => if placeAt P (objsO L R) i ≤ k ∧ k < placeAt P (objsO L R) i + wordsO ((objsO L R)[i]'(by omega)) then colAt f R P (objsO L R) ((objsO L R)[i]'(by omega)) (k - placeAt P (objsO L R) i) else g k, ?_⟩
      exact (hg.obj (show i < (objsO L R).length by omega) (fun d hd => by rw [if_pos ⟨by omega, by omega⟩]; congr 1; omega) (fun k hk => if_neg hk)).less (fun j d _ _ h => by omega)
  obtain ⟨g, hg⟩ := key _ (Nat.le_refl _)
  exact ⟨g, isCol_of (hg.less (fun j d hj _ _ => hj))⟩

theorem objs_word (hk : IsSF h n f ac bu 0) (ho : IsOI h n f ac bu 0 L) : ∀ x ∈ L, (0 ≤ x.at_ ∧ x.at_ ≤ 1000000) ∧ ∀ k, k < x.s.toNat → -1000000000 ≤ f (x.at_.toNat + 2 + k) ∧ f (x.at_.toNat + 2 + k) ≤ 1000000000 := by
  obtain ⟨h4, h5⟩ := isOI_zero ho
  obtain ⟨⟨⟨g1, g2⟩, ⟨g3, g4⟩, g5, g6⟩, gn, gw⟩ := isFault_ok h4
  have hb := baseI_bd (ac := ac) g1
  have hPU : (baseI ac h).toNat + bu.toNat ≤ n := by
    have hb0 : 0 ≤ baseI ac h ∧ baseI ac h ≤ h ∧ baseI ac h + h ≤ 2 * h := by rcases (by omega : ac = 0 ∨ ac = 1) with rfl | rfl <;> simp [baseI] <;> omega
    omega
  have hok := parse_ok h5 hPU gw
  intro x hx
  have := (hok x hx).2.2.2.1
  exact ⟨by omega, (hok x hx).2.2.2.2⟩

theorem findO_place {p : Int} {x : Ob} (h : findO L p = some x) : x.at_ = p := by
  have := List.find?_some h
  simpa using this

theorem place_bound (hk : IsSF h n f ac bu 0) (ho : IsOI h n f ac bu 0 L) {p : Int} (hp : p ∈ placesO L) : 0 ≤ p ∧ p ≤ 1000000 := by
  obtain ⟨x, hx⟩ := mem_placesO.1 hp
  have := (objs_word hk ho x (List.mem_of_find?_eq_some hx)).1
  rwa [findO_place hx] at this

/-- Where a pointer of what is reached leads. -/
theorem reach_target (hk : IsSF h n f ac bu 0) (ho : IsOI h n f ac bu 0 L) (hroots : ∀ p ∈ roots, p ∈ placesO L) {y : Int} (hy : y ∈ reachO f L roots) {x : Ob} (hx : findO L y = some x) {k : Nat} (hk' : k < x.s.toNat) (hb : x.m / P2 (k : Int) % 2 = 1) (h0 : ¬ f (x.at_.toNat + 2 + k) = 0) : f (x.at_.toNat + 2 + k) - 1 ∈ reachO f L roots := by
  have hr := right_of hk ho
  refine reachO_closed hr.points hr.size hroots y hy _ ?_
  unfold succO; rw [hx]; exact mem_ptrs.2 ⟨k, hk', hb, h0, rfl⟩

theorem movable_of {w : World} {t : GM} {R : List Int} {v : Nat → Int} (hk : IsSF h n f ac bu 0) (ho : IsOI h n f ac bu 0 L) (hroots : ∀ p ∈ roots, p ∈ placesO L) {y : Int} (hy : y ∈ reachO f L roots) {x : Ob} (hx : findO L y = some x) (hs : GSame t (obG f x)) (hw : Src w t.a t.n t.f) : Movable w R v t := by
  have hr := right_of hk ho
  have hxL := List.mem_of_find?_eq_some hx
  obtain ⟨e1, e2, e3, e4, e5, e6, e7⟩ := hs
  obtain ⟨b1, b2⟩ := objs_word hk ho x hxL
  have e1' : t.at_ = x.at_ := e1
  have e2' : t.s = x.s := e2
  have e3' : t.m = x.m := e3
  have e4' : t.o = x.o := e4
  have e5' : t.h = x.h := e5
  have e6' : t.n = x.s.toNat := e6
  have e7' : ∀ k, k < t.n → t.f k = f (x.at_.toNat + 2 + k) := e7
  refine ⟨hw, by rw [e2', e3', e4', e5']; exact (hr.ok x hxL).1, by rw [e6', e2'], fun k hk' => by rw [e7' k hk']; exact b2 k (by omega), by rw [e1']; omega, fun k p hk' ht => ?_⟩
  unfold tgtV at ht
  rw [e3', e7' k hk'] at ht
  by_cases hb : x.m / P2 (k : Int) % 2 = 1 ∧ ¬ f (x.at_.toNat + 2 + k) = 0
  · rw [if_pos hb] at ht
    have := reach_target hk ho hroots hy hx (by omega) hb.1 hb.2
    rw [Option.some.inj ht] at this
    exact place_bound hk ho (reachO_sub hr.points hr.size hroots _ this)
  · rw [if_neg hb] at ht; cases ht

theorem tab_at {R : List Int} {v : Nat → Int} (hn : R.Nodup) {i : Nat} (hi : i < R.length) : tab R v (lf R i) = some (v i) := by
  unfold tab lf; rw [numL_at hn hi]; rfl

theorem tab_bound {R : List Int} {v : Nat → Int} {c : Int} (h0 : 0 ≤ c) (hv : ∀ i, 0 ≤ v i ∧ v i ≤ c) (p : Int) : 0 ≤ (tab R v p).getD 0 ∧ (tab R v p).getD 0 ≤ c := by
  unfold tab
  cases numL R p with
  | none => exact ⟨Int.le_refl _, h0⟩
  | some i => exact hv i

theorem goes_mem {R Q : List Int} {p : Int} (h : p ∈ R) : ∃ i, numL R p = some i ∧ i < R.length ∧ goes R Q p = Q.getD i 0 := by
  obtain ⟨i, h1, h2, _⟩ := numL_some h
  exact ⟨i, h1, h2, goes_num h1⟩

theorem tab_goes {R : List Int} {P : Nat} {X : List Ob} (hl : X.length = R.length) {p : Int} (hp : p ∈ R) : (tab R (fun i => (placeAt P X i : Int)) p).getD 0 = goes R (newPlaces P X) p := by
  obtain ⟨i, h1, h2, h3⟩ := goes_mem (Q := newPlaces P X) hp
  unfold tab
  rw [h1, h3, newPlaces_get P X (by omega)]
  rfl

/-- The words of an object that stands where it went. -/
theorem mv_word (hk : IsSF h n f ac bu 0) (ho : IsOI h n f ac bu 0 L) (hroots : ∀ p ∈ roots, p ∈ placesO L) (P : Nat) {t u : GM} {i : Nat} (hi : i < (reachO f L roots).length) (hi' : i < (objsO L (reachO f L roots)).length) {x : Ob} (hx : findO L (lf (reachO f L roots) i) = some x) (hs : GSame t (obG f x))
    (hu : GSame u (mvT (reachO f L roots) (fun i => (placeAt P (objsO L (reachO f L roots)) i : Int)) t)) : (objsO L (reachO f L roots))[i] = x ∧ u.at_ = (placeAt P (objsO L (reachO f L roots)) i : Int) ∧ u.s = x.s ∧ u.m = x.m ∧ u.o = x.o ∧ u.h = x.h ∧ u.n = x.s.toNat ∧
    ∀ d, d < wordsO x → cat 2 (two (1 + 2 * (x.s + 16 * (x.m + 4096 * x.o))) x.h) u.f d = colAt f (reachO f L roots) P (objsO L (reachO f L roots)) x d := by
  have hr := right_of hk ho
  have hsub := reachO_sub hr.points hr.size hroots
  have hlen := objsO_length hsub
  have h9 := objsO_get hsub i hi hi'
  have hx' := hx
  rw [lf_at hi, h9] at hx'
  obtain ⟨e1, e2, e3, e4, e5, e6, e7⟩ := hs
  obtain ⟨u1, u2, u3, u4, u5, u6, u7⟩ := hu
  have e6' : t.n = x.s.toNat := e6
  have u6' : u.n = t.n := u6
  refine ⟨Option.some.inj hx', ?_, u2.trans e2, u3.trans e3, u4.trans e4, u5.trans e5, u6'.trans e6', fun d hd => ?_⟩
  · have e1' : t.at_ = lf (reachO f L roots) i := e1.trans (findO_place hx)
    rw [u1]
    show (tab _ _ t.at_).getD 0 = _
    rw [e1', tab_at (reachO_nodup f L roots) hi]; rfl
  · unfold cat colAt two
    rcases (by omega : d = 0 ∨ d = 1 ∨ 2 ≤ d) with rfl | rfl | h2
    · rfl
    · rfl
    · have hw : wordsO x = 2 + x.s.toNat := rfl
      rw [if_neg (by omega), if_neg (by omega), if_neg (by omega), u7 (d - 2) (by omega)]
      show mvF _ _ t (d - 2) = _
      unfold mvF mapF
      have e7' : t.f (d - 2) = f (x.at_.toNat + 2 + (d - 2)) := e7 (d - 2) (by omega)
      have e3' : t.m = x.m := e3
      rw [e7', e3']
      by_cases hb : x.m / P2 ((d - 2 : Nat) : Int) % 2 = 1 ∧ ¬ f (x.at_.toNat + 2 + (d - 2)) = 0
      · rw [if_pos hb, if_pos hb, tab_goes hlen (reach_target hk ho hroots (lf_mem hi) hx (by omega) hb.1 hb.2)]
      · rw [if_neg hb, if_neg hb]

end
end Go.Proofs.Ytbhjmomphajnnaa

namespace Go.Proofs.Ytbhjmomphajnnaa
open Go.RowKit
set_option linter.unusedVariables false

theorem row_keeps {w w' : World} {base e size n lo hi : Nat} {v : Value} {xs : List Value} (h : w.ownsRow base e size v n xs) (hk : Keeps w w' lo hi) (hb : hi ≤ base) : w'.ownsRow base e size v n xs := by
  refine ⟨h.1, ?_⟩
  rcases h.2 with h0 | ⟨g, cap, cur, e1, e2, e3, e4⟩
  · exact .inl h0
  · exact .inr ⟨g, cap, cur, e1, e2, (hk.block g (Array.getElem?_eq_some_iff.mp e3).1 (.inr (by omega))).trans e3, e4⟩

theorem two_cells {w : World} {b : Nat} {v0 v1 v2 v3 u : Value} {p : Addr} (hA : Blk w b [v0, v1, v2, v3]) (hp : w.cell? p = some u) : w.cell? ⟨b, 1, none⟩ = some v1 ∧ w.cell? p = some u := ⟨hA.at 1 rfl, hp⟩

theorem ownIn_cell3 {w : World} {lo hi g q n : Nat} {G : Nat → Int} (h : OwnIn w lo hi (some ⟨g, q, none⟩) n G) (k : Nat) (hk : k < n) : ∃ v, g < w.heap.size ∧ w.cell? ⟨g, q + k, none⟩ = some (.int .i64 v) ∧ w.frozen? ⟨g, q + k, none⟩ = false := by
  rcases h with h0 | ⟨b', o', e1, h1, hb, hc⟩
  · omega
  · cases e1
    exact ⟨G k, hb, (hc k hk).1, (hc k hk).2⟩

/-- What lies in memory while the model collects. -/
structure CS (W w : World) (b : Nat) (g q : Nat) (h ac U : Int) (n c : Nat) (u : Value) (l : List Int) (G : Nat → Int) : Prop where
  bel : Below W.heap.size W w
  arn : Blk w b [.int .i64 h, .slice (some ⟨g, q, none⟩) n c, .int .i64 ac, .int .i64 U]
  wrd : OwnIn w W.heap.size (b + 1) (some ⟨g, q, none⟩) n G
  row : w.ownsRow (b + 1) 2 1 u l.length (nums l.length (lf l))

section

variable {W w w' : World} {b g q : Nat} {h ac U : Int} {n c : Nat} {u : Value} {l : List Int} {G : Nat → Int}

theorem CS.below (d : CS W w b g q h ac U n c u l G) (hb : Below w.heap.size w w') : CS W w' b g q h ac U n c u l G := ⟨d.bel.trans (hb.mono d.bel.size), d.arn.below hb, d.wrd.below hb, ownsRow_below d.row hb⟩

theorem CS.put (d : CS W w b g q h ac U n c u l G) {U' : Int} {G' : Nat → Int} (hW : W.heap.size ≤ b) (hk : Keeps w w' W.heap.size (b + 1)) (hA : Blk w' b [.int .i64 h, .slice (some ⟨g, q, none⟩) n c, .int .i64 ac, .int .i64 U']) (ho : OwnIn w' W.heap.size (b + 1) (some ⟨g, q, none⟩) n G') : CS W w' b g q h ac U' n c u l G' :=
  ⟨d.bel.trans (hk.below (Nat.le_refl _) d.bel.size), hA, ho, row_keeps d.row hk (Nat.le_refl _)⟩

theorem CS.append (d : CS W w b g q h ac U n c u l G) {o : Obj} {u' : Value} {l' : List Int} (hW : W.heap.size ≤ b) (hg : (w.alloc o).grownBy w' u.ownBlock) (hr : w'.ownsRow (b + 1) 2 1 u' l'.length (nums l'.length (lf l'))) : CS W w' b g q h ac U n c u' l' G := by
  have hPw := d.arn.1
  have hz : w.heap.size ≤ w'.heap.size := by have := hg.size; simp at this; omega
  have hk : Keeps w w' (b + 1) w'.heap.size := ⟨hg.os, hg.tape, hg.output, hz, fun q hq hd => by
    rcases hd with hd | hd
    · exact (hg.block q (by simp; omega) (fun e => by have := (d.row.lt q e.symm).1; omega)).trans (Below.heap_alloc _ _ _ hq)
    · omega⟩
  exact ⟨d.bel.trans (hk.below (by omega) d.bel.size), d.arn.keeps hk (.inl (by omega)), d.wrd.keeps hk (.inl (by omega)), hr⟩

end

theorem Own.into' {w : World} {B : Nat} {a : Option Addr} {n : Nat} {f : Nat → Int} (h : Own w B a n f) : OwnIn w B w.heap.size a n f := h.into

/-- What a collection in the model tells. -/
def RetCol2 (W : World) (f : Nat → Int) (L : List Ob) (R : List Int) (P : Nat) (X : List Ob) (roots : List Int) (h ac : Int) (n : Nat) (e : Ending) (w' : World) : Prop :=
  ∃ (a : Option Addr) (c : Nat) (ra : Option Addr) (rc mid : Nat) (g : Nat → Int), e = .returned (.tuple #[.agg #[.int .i64 h, .slice a n c, .int .i64 (1 - ac), .int .i64 (totO X : Int)], .slice ra roots.length rc]) ∧
    IsCol f L R P g ∧ OwnIn w' W.heap.size mid a n g ∧ OwnIn w' mid w'.heap.size ra roots.length (lf (roots.map (goes R (newPlaces P X)))) ∧ mid ≤ w'.heap.size ∧ W.heap.size ≤ mid ∧ Below W.heap.size W w' ∧ n ≤ c ∧ c ≤ maxLen

theorem tot_fits {h : Int} {n : Nat} {f : Nat → Int} {ac bu : Int} {L : List Ob} {roots : List Int} (hk : IsSF h n f ac bu 0) (ho : IsOI h n f ac bu 0 L) (hroots : ∀ p ∈ roots, p ∈ placesO L) : (totO (objsO L (reachO f L roots)) : Int) ≤ bu := by
  have hr := right_of hk ho
  have h1 := tot_le (L := L) (R := reachO f L roots) hr.apart (reachO_nodup f L roots) (reachO_sub hr.points hr.size hroots)
  obtain ⟨h4, h5⟩ := isOI_zero ho
  obtain ⟨⟨⟨g1, g2⟩, ⟨g3, g4⟩, g5, g6⟩, gn, gw⟩ := isFault_ok h4
  have := parse_tot_eq _ _ L (Nat.le_refl _) (by omega) h5
  omega

set_option maxRecDepth 100000 in
set_option maxHeartbeats 6400000 in
theorem l4Collect_any (b m : Nat) (ac bu : Int) (a : Option Addr) (c : Nat) (f : Nat → Int) (ra : Option Addr) (roots : List Int) (rc : Nat) (L : List Ob) (w : World) (hB : Blk w b [.int .i64 (m : Int), .slice a (2 * m) c, .int .i64 ac, .int .i64 bu]) (hs : Src w a (2 * m) f) (hcn : 2 * m ≤ c) (hcm : c ≤ maxLen) (hrs : Src w ra roots.length (lf roots)) (hk : IsSF (m : Int) (2 * m) f ac bu 0) (ho : IsOI (m : Int) (2 * m) f ac bu 0 L) (h60 : roots.length ≤ 60) (hall : ∀ p ∈ roots, p ∈ placesO L) :
    Calls Try.prog 67 #[.pointer (some ⟨b, 0, none⟩), .slice ra roots.length rc] w (RetCol2 w f L (reachO f L roots) (baseI (1 - ac) (m : Int)).toNat (objsO L (reachO f L roots)) roots (m : Int) ac (2 * m)) := by
  have hri := right_of hk ho
  have hsub := reachO_sub hri.points hri.size hall
  have hlen := objsO_length hsub
  have htot := tot_fits hk ho hall
  have hsm := reach_small (co := 0) (roots := roots) (.inr (.inr (.inr ⟨hk, ho, h60, hall, rfl⟩)))
  rw [outR_zero] at hsm
  have hrl := hsm.1
  obtain ⟨⟨⟨g1, g2⟩, ⟨g3, g4⟩, g5, g6⟩, gn, gw⟩ := isFault_ok (isOI_zero ho).1
  obtain ⟨P, hP⟩ : ∃ P : Nat, baseI (1 - ac) (m : Int) = (P : Int) := ⟨(baseI (1 - ac) (m : Int)).toNat, by have := baseI_bd (ac := 1 - ac) g1; omega⟩
  have hPm : P ≤ m := by have := baseI_bd (ac := 1 - ac) g1; omega
  have hPt : (baseI (1 - ac) (m : Int)).toNat = P := by omega
  obtain ⟨R, hR⟩ : ∃ R, reachO f L roots = R := ⟨_, rfl⟩
  obtain ⟨X, hX⟩ : ∃ X, objsO L R = X := ⟨_, rfl⟩
  rw [hPt, hR, hX]
  rw [hR] at hsub hlen htot hrl
  rw [hX] at hlen htot
  have hfit : P + totO X ≤ 2 * m := by omega
  have HB := Lib.hid hB; have HS := Lib.hid hs; have HK := Lib.hid hk; have HCM := Lib.hid hcm; have HRS := Lib.hid hrs; have HO := Lib.hid ho; have HALL := Lib.hid hall; have HRI := Lib.hid hri; have HSUB := Lib.hid hsub; have HLEN := Lib.hid hlen; have HP := Lib.hid hP; have HR := Lib.hid hR; have HX := Lib.hid hX
  have lb := HB.out.1; have cb0 := HB.out.at 0 rfl; have cb1 := HB.out.at 1 rfl; have cb2 := HB.out.at 2 rfl; have cb3 := HB.out.at 3 rfl
  obtain ⟨i0, hif, hz0, hz1, hz2⟩ := info_parts Try.info2
  clear hB hs hk hcm hrs ho hall hri hsub hlen hP hR hX hPt gn gw hsm htot
  go_enter Try.func67, Try.ntmps67
  go_wp2_with fail
  have HB0 := Lib.hid ((Below.refl w.heap.size w).alloc (Nat.le_refl _) (.cells #[.int .i64 0, .slice none 0 0, .int .i64 0, .int .i64 0] 26))
  have X0 := Lib.hid (Blk.new_at (w := w) (cs := #[.int .i64 0, .slice none 0 0, .int .i64 0, .int .i64 0]) (t := 26) w.heap.size rfl)
  have z0 : w.heap.size + 1 ≤ (w.alloc (.cells #[.int .i64 0, .slice none 0 0, .int .i64 0, .int .i64 0] 26)).heap.size := by simp
  generalize w.alloc (.cells #[.int .i64 0, .slice none 0 0, .int .i64 0, .int .i64 0] 26) = w0 at *
  refine (l3Objs_any b (m : Int) ac bu a (2 * m) c f L _ (HB.out.below HB0.out) (HS.out.below HB0.out) hcn HCM.out HO.out).mono ?_
  rintro e w1 ⟨hb, v, M, hL, rfl, hm⟩
  have HB1 := Lib.hid (thru0 HB0.out hb)
  have X1 := Lib.hid (X0.out.below hb)
  have HM := Lib.hid hm
  have HL := Lib.hid hL
  have z1 := hb.size
  clear hb hm hL X0 HB0
  go_wp2_with fail
  refine (l4Reach_any v M w0.heap.size w0.heap.size ra roots rc f _ HM.out (by rw [← HL.out]; exact HRI.out.points) (HRS.out.below HB1.out) (by omega) (by rw [← HL.out]; exact HALL.out)).mono ?_
  rw [← HL.out, HR.out]
  rintro e w2 ⟨a2, c2, rfl, ho2, hb, h21, h22, h23⟩
  have HB2 := Lib.hid (thru0 HB1.out hb)
  have X2 := Lib.hid (X1.out.below hb)
  have HM2 := Lib.hid (HM.out.below hb)
  have HR2 := Lib.hid ho2.src
  have z2 := hb.size
  clear hb ho2 h21 h22 h23 X1 HB1 HM
  have cw0 := (HB.out.below HB2.out).at 0 rfl
  have cw2 := (HB.out.below HB2.out).at 2 rfl
  clear cb0 cb1 cb2 cb3
  go_wp2_with fail
  refine (l1New_any m _ (by omega)).mono ?_
  rintro e w3 ⟨a3, c3, rfl, ho3, hb, h31, h32, h33⟩
  obtain ⟨g, q, rfl, hgl, hgs⟩ : ∃ g q, a3 = some ⟨g, q, none⟩ ∧ w2.heap.size ≤ g ∧ g < w3.heap.size := by
    rcases ho3 with h0 | ⟨g, q, e1, e2, e3, _⟩
    · omega
    · exact ⟨g, q, e1, e2, e3⟩
  have z3 := hb.size
  have HB3 := Lib.hid hb
  have HO3 := Lib.hid (ho3.into.widen (Nat.le_refl _) (Nat.le_succ _))
  have HC3 := Lib.hid (And.intro h31 h32)
  have cz2 := ((HB.out.below HB2.out).below hb).at 2 rfl
  clear hb ho3 h32 h33 cw0 cw2
  have lb3 : b < w3.heap.size := by omega
  go_wp2_with fail
  have HCS : Hid (CS w2 ((w3.alloc (.cells #[.int .i64 (m : Int), .slice (some ⟨g, q, none⟩) (2 * m) c3, .int .i64 (1 - ac), .int .i64 0] 26)).alloc (.cells #[] 2)) w3.heap.size g q (m : Int) (1 - ac) 0 (2 * m) c3 (.slice (some ⟨w3.heap.size + 1, 0, none⟩) 0 0) [] (fun _ => 0)) := Lib.hid (by
    refine ⟨(((HB3.out).alloc z3 _).alloc (by simp; omega) _), (Blk.new_at w3.heap.size rfl).alloc _, (HO3.out.alloc _).alloc _, ?_⟩
    have h9 := World.ownsRow_lit (w3.alloc (.cells #[.int .i64 (m : Int), .slice (some ⟨g, q, none⟩) (2 * m) c3, .int .i64 (1 - ac), .int .i64 0] 26)) #[] 0 (e := 2) (size := 1) (Nat.le_refl _) (by simp [maxLen]) rfl
    simpa [nums] using h9)
  have hw2 : w2.heap.size ≤ w3.heap.size := z3
  have HT0 : Hid (CS w2 ((w3.alloc (.cells #[.int .i64 (m : Int), .slice (some ⟨g, q, none⟩) (2 * m) c3, .int .i64 (1 - ac), .int .i64 0] 26)).alloc (.cells #[] 2)) w3.heap.size g q (m : Int) (1 - ac) ((totO (X.take 0) : Nat) : Int) (2 * m) c3 (.slice (some ⟨w3.heap.size + 1, 0, none⟩) 0 0) [] (fun _ => 0)) := HCS
  clear HCS HO3 HB3 cz2
  generalize (w3.alloc (.cells #[.int .i64 (m : Int), .slice (some ⟨g, q, none⟩) (2 * m) c3, .int .i64 (1 - ac), .int .i64 0] 26)).alloc (.cells #[] 2) = w5 at *
  clear z3 lb3
  generalize w3.heap.size = b3 at *
  obtain ⟨a1, k1, rfl⟩ := row_nil HM2.out.row
  go_loopw [10, 11] (fun u p wr => ∃ (i : Nat) (l : List Int) (G : Nat → Int), i ≤ R.length ∧ p = .int .i64 (i : Int) ∧ l.length = i ∧ Hid (CS w2 wr b3 g q (m : Int) (1 - ac) ((totO (X.take i) : Nat) : Int) (2 * m) c3 u l G) ∧ Hid (l = (newPlaces P X).take i) ∧ Hid (ColOn f R P X (fun j d => j < i ∧ d < 2) G)) (fun _ p _ => R.length - (intOf p).toNat)
  case atStart => exact ⟨0, [], fun _ => 0, by omega, rfl, rfl, HT0, Lib.hid (by simp), Lib.hid (colOn_zero.less (fun j d _ _ h => by omega))⟩
  case round =>
    clear HT0
    obtain ⟨i, l, G, hi, rfl, hll, HC, HLL, HON⟩ := hrel
    have hl4 : l.length ≤ 400 := by omega
    have HLI := Lib.hid hll
    clear hll
    have hbw := HC.out.bel.size
    have hbl := HC.out.arn.1
    by_cases hlt : i < R.length
    · have hlt' : (i : Int) < (R.length : Int) := by omega
      have hi0 : (0 : Int) ≤ (i : Int) := by omega
      have hiX : i < X.length := by rw [HLEN.out]; exact hlt
      obtain ⟨rb, ro, rfl, hrb, hrc⟩ := src_some (HR2.out.below HC.out.bel) (by omega)
      have c0 := hrc i hlt
      obtain ⟨y, hy⟩ : ∃ y, lf R i = y := ⟨_, rfl⟩
      obtain ⟨x, hx⟩ : ∃ x, X[i] = x := ⟨_, rfl⟩
      have HF : Hid (findO L y = some x) := Lib.hid (by
        have h9 := objsO_get HSUB.out i hlt (by rw [HX.out]; exact hiX)
        rw [← hy, ← hx, lf_at hlt, h9]
        simp only [HX.out])
      have HXX := Lib.hid hx
      rw [hy] at c0
      clear hrc hy hx
      go_wp2_with fail
      refine ((HM2.out.below HC.out.bel).find y).mono ?_
      rintro e w' ⟨rfl, hf⟩
      rw [← HL.out] at hf
      rcases hf with ⟨hf, rfl⟩ | ⟨j, x', hf, hx, rfl⟩
      · rw [HF.out] at hf; cases hf
      rw [HF.out] at hf
      obtain rfl := Option.some.inj hf
      rw [HL.out] at hx
      obtain ⟨g1, c1, gg, cc, e1, hjm, l1, x0, x1, x2, x3, x4, x5, lg, hfc, ⟨s0, s1⟩, hmm, hat, hwd⟩ := HM2.out.get hx
      simp only [Value.slice.injEq] at e1
      obtain ⟨rfl, -, rfl⟩ := e1
      have hj' : (j : Int) < (M.length : Int) := by omega
      have hj0 : (0 : Int) ≤ (j : Int) := by omega
      have HOKX := Lib.hid (HRI.out.ok x (List.mem_of_find?_eq_some HF.out))
      have hend := placeAt_end P X hiX
      have HWO : Hid (wordsO X[i] = 2 + x.s.toNat) := Lib.hid (by rw [HXX.out]; rfl)
      rw [HWO.out] at hend
      have HPL : Hid (placeAt P X i = P + totO (X.take i)) := Lib.hid rfl
      have HTT : Hid (((totO (X.take i) : Nat) : Int) + (x.s + 2) = ((totO (X.take (i + 1)) : Nat) : Int)) := Lib.hid (by rw [totO_take X hiX, HWO.out]; omega)
      obtain ⟨K, hK⟩ : ∃ K, placeAt P X i = K := ⟨_, rfl⟩
      rw [hK] at hend
      have HKK := Lib.hid hK
      have HHD := Lib.hid (show HdAt w2 g1 (j * 6 + 1) x.s x.m x.o x.h from ⟨l1, x1, x2, x3, x4⟩)
      clear hf hx hfc hwd hat x0 x1 x2 x3 x4 x5 lg hK hmm
      go_wp2_with fail
      refine (l3Put_at w2.heap.size (b3 + 1) b3 g1 (j * 6 + 1) g q P (totO (X.take i)) K (m : Int) (1 - ac) x.s x.m x.o x.h (2 * m) c3 G _ ⟨⟨hw2, by omega⟩, ⟨hgl, by omega⟩, by omega, by omega, by omega⟩ (by omega) HC.out.arn (HHD.out.below HC.out.bel) HC.out.wrd (by omega) (by omega) (by omega) (by omega) HP.out (by omega) (by rw [← HKK.out]; exact HPL.out) (by omega) HOKX.out.1).mono ?_
      rintro e w6 ⟨rfl, hA, hO, hk⟩
      rw [HTT.out] at hA
      have HC6 := Lib.hid (HC.out.put hw2 hk hA hO)
      have HON6 : Hid (ColOn f R P X (fun j d => j < i + 1 ∧ d < 2) (upd (upd G K (1 + 2 * (x.s + 16 * (x.m + 4096 * x.o)))) (K + 1) x.h)) := Lib.hid (by
        have q1 := HON.out.put hiX (d := 0) (by rw [HWO.out]; omega) (K := K) (by rw [HKK.out]; rfl) (v := 1 + 2 * (x.s + 16 * (x.m + 4096 * x.o))) (by unfold colAt; rw [if_pos rfl, HXX.out]; rfl)
        have q2 := q1.put hiX (d := 1) (by rw [HWO.out]; omega) (K := K + 1) (by rw [HKK.out]) (v := x.h) (by unfold colAt; rw [if_neg (by omega), if_pos rfl, HXX.out])
        exact q2.less (fun j d _ _ h => by omega))
      have hz6 := hk.size
      have hbl6 := hA.1
      clear hA hO hk HC HON c0
      obtain ⟨la, lc, rfl, -⟩ := row_src HC6.out.row
      have HLN : Hid (l ++ [(K : Int)] = (newPlaces P X).take (i + 1)) := Lib.hid (by rw [newPlaces_take P X hiX, ← HLL.out, HKK.out])
      go_wp2_with (at_builtin; go_loud (refine wpList_append_lies _ rfl _ _ 24 rfl (b3 + 1) 2 i0 (.int .i64 0) 1 8 Try.underlying24 hif hz0 hz1 hz2 rfl (by decide) (.slice la l.length lc) l.length (nums l.length (lf l)) rfl (ownsRow_below HC6.out.row ((Below.refl _ _).alloc (Nat.le_refl _) _)) ⟨w6.heap.size, 0, none⟩ 1 1 [.int .i64 (K : Int)] rfl rfl (news1 w6 (K : Int)) (by intro u hu; simp only [List.mem_cons, List.mem_nil_iff, or_false] at hu; subst hu; rfl) (by omega) (by unfold maxLen; omega) (by omega) (by simp; omega) (w6.heap.size + 1) (by simp) ?_); intro g9 cap9 w9 hown9 hgrow9 hat9 hlt9)
      have HC9 := Lib.hid (HC6.out.append hw2 hgrow9 (u' := .slice (some ⟨g9, 0, none⟩) (l.length + 1) cap9) (l' := l ++ [(K : Int)]) (by rw [show (l ++ [(K : Int)]).length = l.length + 1 by simp, ← nums_snoc]; exact hown9))
      clear hown9 hgrow9 hat9 HC6
      go_wp2
      go_roundw
      case rel => first | exact ⟨i + 1, l ++ [(K : Int)], _, by omega, by go_num, by rw [List.length_append, HLI.out]; rfl, HC9, HLN, HON6⟩ | ((repeat apply Exists.intro); exact ⟨⟨i + 1, l ++ [(K : Int)], _, by omega, by go_num, by rw [List.length_append, HLI.out]; rfl, HC9, HLN, HON6⟩, rfl⟩)
      case measure => simp [intOf]; omega
    · have hlt' : ¬ (i : Int) < (R.length : Int) := by omega
      obtain rfl : i = R.length := by omega
      obtain ⟨Q, hQ⟩ : ∃ Q, newPlaces P X = Q := ⟨_, rfl⟩
      have hlq : l = Q := by rw [HLL.out, hQ, List.take_of_length_le (by rw [← hQ, newPlaces_length, HLEN.out]; exact Nat.le_refl _)]
      subst hlq
      have HQL : Hid (l.length = R.length) := HLI
      have HQA : Hid (∀ i, i < R.length → lf l i = (placeAt P X i : Int)) := Lib.hid (fun i hi => by rw [← hQ]; exact newPlaces_lf P X (by rw [HLEN.out]; exact hi))
      have HQ := Lib.hid hQ
      have HC1 : Hid (CS w2 wr b3 g q (m : Int) (1 - ac) ((totO X : Nat) : Int) (2 * m) c3 u10 l G) := Lib.hid (by
        have h9 := HC.out
        rwa [List.take_of_length_le (by rw [HLEN.out]; exact Nat.le_refl _)] at h9)
      have HON1 : Hid (ColOn f R P X (fun j d => d < 2 ∨ j < 0) G) := Lib.hid (HON.out.less (fun j d hj _ h => by have := HLEN.out; omega))
      clear HC HON HLL HLI hQ
      obtain ⟨pa, pc, rfl, -⟩ := row_src HC1.out.row
      have HQX : Hid (l = newPlaces P X) := Lib.hid HQ.out.symm
      generalize l = Q at *
      clear HQ
      go_wp2
      go_loopw [12] (fun p wr => ∃ (i : Nat) (G : Nat → Int), i ≤ R.length ∧ p = .int .i64 (i : Int) ∧ Hid (CS w2 wr b3 g q (m : Int) (1 - ac) ((totO X : Nat) : Int) (2 * m) c3 (.slice pa Q.length pc) Q G) ∧ Hid (ColOn f R P X (fun j d => d < 2 ∨ j < i) G)) (fun p _ => R.length - (intOf p).toNat)
      case atStart => exact ⟨0, G, by omega, rfl, HC1, HON1⟩
      case round =>
        clear HC1 HON1 hbw hbl
        obtain ⟨i, G, hi, rfl, HC, HON⟩ := hrel
        have hbw := HC.out.bel.size
        have hbl := HC.out.arn.1
        by_cases hlt : i < R.length
        · have hlt' : (i : Int) < (R.length : Int) := by omega
          have hi0 : (0 : Int) ≤ (i : Int) := by omega
          have hiX : i < X.length := by rw [HLEN.out]; exact hlt
          obtain ⟨rb, ro, rfl, hrb, hrc⟩ := src_some (HR2.out.below HC.out.bel) (by omega)
          have c0 := hrc i hlt
          obtain ⟨y, hy⟩ : ∃ y, lf R i = y := ⟨_, rfl⟩
          obtain ⟨x, hx⟩ : ∃ x, X[i] = x := ⟨_, rfl⟩
          have HF : Hid (findO L y = some x) := Lib.hid (by
            have h9 := objsO_get HSUB.out i hlt (by rw [HX.out]; exact hiX)
            rw [← hy, ← hx, lf_at hlt, h9]
            simp only [HX.out])
          have HXX := Lib.hid hx
          have HYR : Hid (y ∈ R) := Lib.hid (hy ▸ lf_mem hlt)
          rw [hy] at c0
          clear hrc hy hx
          go_wp2_with fail
          refine ((HM2.out.below HC.out.bel).find y).mono ?_
          rintro e w' ⟨rfl, hf⟩
          rw [← HL.out] at hf
          rcases hf with ⟨hf, rfl⟩ | ⟨j, x', hf, hx, rfl⟩
          · rw [HF.out] at hf; cases hf
          rw [HF.out] at hf
          obtain rfl := Option.some.inj hf
          rw [HL.out] at hx
          obtain ⟨g1, c1, gg, cc, e1, hjm, l1, x0, x1, x2, x3, x4, x5, lg, hfc, ⟨s0, s1⟩, hmm, hat, hwd⟩ := HM2.out.get hx
          simp only [Value.slice.injEq] at e1
          obtain ⟨rfl, -, rfl⟩ := e1
          have hj' : (j : Int) < (M.length : Int) := by omega
          have hj0 : (0 : Int) ≤ (j : Int) := by omega
          have HFC := Lib.hid hfc; have HWD := Lib.hid hwd
          have hend := placeAt_end P X hiX
          have HWO : Hid (wordsO X[i] = 2 + x.s.toNat) := Lib.hid (by rw [HXX.out]; rfl)
          rw [HWO.out] at hend
          obtain ⟨K, hK⟩ : ∃ K, placeAt P X i = K := ⟨_, rfl⟩
          rw [hK] at hend
          have HKK := Lib.hid hK
          clear hf hx hfc hwd hat x0 x3 x4 hK
          have HC0 : Hid (ColOn f R P X (fun j d => d < 2 ∨ j < i ∨ (j = i ∧ d < 2 + 0)) G) := Lib.hid (HON.out.less (fun j d _ _ h => by omega))
          go_wp2
          go_loopw [14] (fun p wr => ∃ (k : Nat) (G : Nat → Int), (k : Int) ≤ x.s ∧ p = .int .i64 (k : Int) ∧ Hid (CS w2 wr b3 g q (m : Int) (1 - ac) ((totO X : Nat) : Int) (2 * m) c3 (.slice pa Q.length pc) Q G) ∧ Hid (ColOn f R P X (fun j d => d < 2 ∨ j < i ∨ (j = i ∧ d < 2 + k)) G)) (fun p _ => x.s.toNat - (intOf p).toNat)
          case atStart => exact ⟨0, G, by omega, rfl, HC, HC0⟩
          case round =>
            clear HC HC0 HON c0 hbw hbl
            obtain ⟨k, G, hks, rfl, HCQ, HONQ⟩ := hrel
            have hbw := HCQ.out.bel.size
            have hbl := HCQ.out.arn.1
            have x1q := (HCQ.out.bel.cell (p := ⟨g1, j * 6 + 1, none⟩) l1).trans x1
            have x2q := (HCQ.out.bel.cell (p := ⟨g1, j * 6 + 2, none⟩) l1).trans x2
            have x5q := (HCQ.out.bel.cell (p := ⟨g1, j * 6 + 5, none⟩) l1).trans x5
            have l1q : g1 < wr.heap.size := by omega
            by_cases hltk : (k : Int) < x.s
            · have hkt : k < x.s.toNat := by omega
              have hkn : (k : Int) < (x.s.toNat : Int) := by omega
              have hk0 : (0 : Int) ≤ (k : Int) := by omega
              have fk := (HCQ.out.bel.cell (p := ⟨gg, k, none⟩) lg).trans (HFC.out k hkt)
              obtain ⟨w1', w2'⟩ := HWD.out k hkt
              have HRS2 := Lib.hid (fun q => (HR2.out.below HCQ.out.bel).below (drewN_below wr q))
              have HCD := Lib.hid (fun q => HCQ.out.below (drewN_below wr q))
              have HTG := Lib.hid (fun hb h0 => by
                have h9 := reach_target (L := L) (roots := roots) HK.out HO.out HALL.out (y := y) (by rw [HR.out]; exact HYR.out) HF.out hkt hb h0
                rw [HR.out] at h9
                exact goes_mem (Q := newPlaces P X) h9)
              obtain ⟨Y, hY⟩ : ∃ Y, f (x.at_.toNat + 2 + k) = Y := ⟨_, rfl⟩
              have HY := Lib.hid hY
              rw [hY] at fk w1' w2' HTG
              clear hY
              have hdd : x.m / P2 k % 2 = 1 ∨ x.m / P2 k % 2 = 0 := by omega
              rcases hdd with hd | hd
              · by_cases h0 : Y = 0
                · have HB1' := Lib.hid hd
                  subst h0
                  clear HTG HRS2
                  go_wp2_with fail
                  refine (l2Pointer_at g1 (j * 6 + 1) k x.m true _ x2q hmm (by omega) (by rw [hd]; rfl)).mono ?_
                  rintro e w5 ⟨rfl, q5, rfl⟩
                  have HC6 := Lib.hid (HCD.out q5)
                  clear HCD x1q x2q x5q fk HCQ hbw hbl
                  have hbw6 := HC6.out.bel.size
                  have hbl6 := HC6.out.arn.1
                  generalize wr.drewN q5 = w6 at *
                  clear hd
                  go_wp2
                  obtain ⟨pb, po, rfl, hpb, hpl, hpc⟩ : ∃ pb po, pa = some ⟨pb, po, none⟩ ∧ b3 + 1 ≤ pb ∧ pb < w6.heap.size ∧ ∀ i, i < Q.length → w6.cell? ⟨pb, po + i, none⟩ = some (.int .i64 (lf Q i)) := by
                    rcases own_of_row HC6.out.row with h0 | ⟨pb, po, e1, e2, e3, e4⟩
                    · have := HQL.out; omega
                    · exact ⟨pb, po, e1, e2, e3, fun i hi => (e4 i hi).1⟩
                  have hci := hpc i (by have := HQL.out; omega)
                  rw [HQA.out i hlt, HKK.out] at hci
                  have A6 := Lib.hid HC6.out.arn
                  have hgb : g ≠ b3 := by omega
                  have hgp : g ≠ pb := by omega
                  have Ad := Lib.hid A6.out.drew
                  have Aw := Lib.hid ((A6.out.other (p := ⟨g, q + (K + 2 + k), none⟩) hgb (.int .i64 0)).drew)
                  have Aw2 := Lib.hid (Ad.out.other (p := ⟨g, q + (K + 2 + k), none⟩) hgb (.int .i64 0))
                  have hcd : w6.drew.cell? ⟨pb, po + i, none⟩ = some (.int .i64 (K : Int)) := ((Below.refl w6.heap.size w6).drew.cell (p := ⟨pb, po + i, none⟩) hpl).trans hci
                  have hcw : (w6.setCell ⟨g, q + (K + 2 + k), none⟩ (.int .i64 0)).drew.cell? ⟨pb, po + i, none⟩ = some (.int .i64 (K : Int)) := by
                    have h1 : (w6.setCell ⟨g, q + (K + 2 + k), none⟩ (.int .i64 0)).cell? ⟨pb, po + i, none⟩ = some (.int .i64 (K : Int)) := by rw [World.cell?_setCell_other _ _ _ _ (fun e => hgp (by have := congrArg Addr.block e; first | exact this | exact this.symm))]; exact hci
                    simpa using h1
                  have hcw2 : (w6.drew.setCell ⟨g, q + (K + 2 + k), none⟩ (.int .i64 0)).cell? ⟨pb, po + i, none⟩ = some (.int .i64 (K : Int)) := by
                    rw [World.cell?_setCell_other _ _ _ _ (fun e => hgp (by have := congrArg Addr.block e; first | exact this | exact this.symm))]; exact hcd
                  have a1 := A6.out.at 1 rfl
                  have la := A6.out.1
                  have hkI0 : (0 : Int) ≤ (K : Int) + 2 + (k : Int) := by omega
                  have hkI1 : (K : Int) + 2 + (k : Int) < ((2 * m : Nat) : Int) := by omega
                  have hkI1' : (K : Int) + 2 + (k : Int) < 2 * (m : Int) := by omega
                  have hpi0 : (i : Int) < (Q.length : Int) := by have := HQL.out; omega
                  have hi0' : (0 : Int) ≤ (i : Int) := by omega
                  obtain ⟨dd, hdd⟩ := ownIn_cell3 HC6.out.wrd (K + 2 + k) (by omega)
                  have hdf := (hdd.2).2
                  have hgl6 := hdd.1
                  have hd6 := (hdd.2).1
                  have HC9 : Hid (CS w2 ((w6.setCell ⟨g, q + (K + 2 + k), none⟩ (.int .i64 0)).drew) b3 g q (m : Int) (1 - ac) ((totO X : Nat) : Int) (2 * m) c3 (.slice (some ⟨pb, po, none⟩) Q.length pc) Q (upd G (K + 2 + k) 0)) := Lib.hid
                    ((HC6.out.put hw2 (keeps_setCell (p := ⟨g, q + (K + 2 + k), none⟩) hgl (by show g < b3 + 1; omega) (.int .i64 0)) (HC6.out.arn.other hgb _) (ownIn_put HC6.out.wrd (K + 2 + k) (by omega) 0)).below (Below.refl _ _).drew)
                  have HON9 : Hid (ColOn f R P X (fun j d => d < 2 ∨ j < i ∨ (j = i ∧ d < 2 + (k + 1))) (upd G (K + 2 + k) 0)) := Lib.hid (by
                    have q1 := HONQ.out.put hiX (d := 2 + k) (by rw [HWO.out]; omega) (K := K + 2 + k) (by rw [HKK.out]; omega) (v := 0) (by
                      unfold colAt
                      rw [if_neg (by omega), if_neg (by omega), show 2 + k - 2 = k by omega, HXX.out]
                      unfold mapF; rw [if_neg (fun h => h.2 HY.out), HY.out])
                    exact q1.less (fun j d _ _ h => by omega))
                  have HDD := Lib.hid hdd
                  clear hpc hdd
                  have hwA : IntKind.i64.wrap ((K : Int) + 2) = (K : Int) + 2 := IntWalk.i64_in _ (by omega)
                  have hwB : IntKind.i64.wrap ((K : Int) + 2 + (k : Int)) = (K : Int) + 2 + (k : Int) := IntWalk.i64_in _ (by omega)
                  have hwC : ((K : Int) + 2 + (k : Int)).toNat = K + 2 + k := by omega
                  go_region_held3 (fun w' => w'.cell? ⟨b3, 1, none⟩ = some (.slice (some ⟨g, q, none⟩) (2 * m) c3) ∧ w'.cell? ⟨pb, po + i, none⟩ = some (.int .i64 (K : Int)))
                    (first | (with_reducible exact two_cells A6.out hci) | (with_reducible exact two_cells Ad.out hcd) | (with_reducible exact two_cells Aw.out hcw) | (with_reducible exact two_cells Aw2.out hcw2))
                    (fail)
                  clear hwA hwB hwC hcw hcw2 hcd a1 A6 Ad Aw Aw2 hd6 hdf
                  generalize (w6.setCell ⟨g, q + (K + 2 + k), none⟩ (.int .i64 0)).drew = w9 at *
                  go_wp2
                  go_roundw
                  case rel => first | exact ⟨k + 1, _, by omega, by go_num, HC9, HON9⟩ | ((repeat apply Exists.intro); exact ⟨⟨k + 1, _, by omega, by go_num, HC9, HON9⟩, rfl⟩)
                  case measure => simp [intOf]; omega
                · obtain ⟨t, ht1, ht2, ht3⟩ := HTG.out hd h0
                  have HNI : Hid (numI R (Y - 1) = (t : Int)) := Lib.hid (by unfold numI; rw [ht1])
                  obtain ⟨z, hz⟩ : ∃ z : Nat, placeAt P X t = z := ⟨_, rfl⟩
                  have hzb : z ≤ 400 := by have := placeAt_top P X t; omega
                  have HG3 : Hid (goes R (newPlaces P X) (Y - 1) = (z : Int)) := Lib.hid (by rw [ht3, newPlaces_get P X (by rw [HLEN.out]; exact ht2), hz])
                  have HZ := Lib.hid hz
                  have HB1' := Lib.hid hd
                  have HB2' := Lib.hid h0
                  have h0b : (Y != 0) = true := by simpa using h0
                  clear h0
                  clear HTG ht1 ht3 hz
                  go_wp2_with fail
                  refine (l2Pointer_at g1 (j * 6 + 1) k x.m true _ x2q hmm (by omega) (by rw [hd]; rfl)).mono ?_
                  rintro e w5 ⟨rfl, q5, rfl⟩
                  have HC6 := Lib.hid (HCD.out q5)
                  have HR6 := Lib.hid (HRS2.out q5)
                  clear HCD HRS2 x1q x2q x5q fk HCQ hbw hbl
                  have hbw6 := HC6.out.bel.size
                  have hbl6 := HC6.out.arn.1
                  generalize wr.drewN q5 = w6 at *
                  clear hd
                  go_wp2_with fail
                  refine (l4Number_any (some ⟨rb, ro, none⟩) R c2 (Y - 1) _ HR6.out (by omega)).mono ?_
                  rintro e w' ⟨rfl, rfl⟩
                  rw [HNI.out]
                  obtain ⟨pb, po, rfl, hpb, hpl, hpc⟩ : ∃ pb po, pa = some ⟨pb, po, none⟩ ∧ b3 + 1 ≤ pb ∧ pb < w6.heap.size ∧ ∀ i, i < Q.length → w6.cell? ⟨pb, po + i, none⟩ = some (.int .i64 (lf Q i)) := by
                    rcases own_of_row HC6.out.row with h0 | ⟨pb, po, e1, e2, e3, e4⟩
                    · have := HQL.out; omega
                    · exact ⟨pb, po, e1, e2, e3, fun i hi => (e4 i hi).1⟩
                  have hzc := hpc t (by have := HQL.out; omega)
                  rw [HQA.out t ht2, HZ.out] at hzc
                  have htq : (t : Int) < (Q.length : Int) := by have := HQL.out; omega
                  have ht0 : (0 : Int) ≤ (t : Int) := by omega
                  go_wp2
                  have hci := hpc i (by have := HQL.out; omega)
                  rw [HQA.out i hlt, HKK.out] at hci
                  have A6 := Lib.hid HC6.out.arn
                  have hgb : g ≠ b3 := by omega
                  have hgp : g ≠ pb := by omega
                  have Ad := Lib.hid A6.out.drew
                  have Aw := Lib.hid ((A6.out.other (p := ⟨g, q + (K + 2 + k), none⟩) hgb (.int .i64 ((z : Int) + 1))).drew)
                  have Aw2 := Lib.hid (Ad.out.other (p := ⟨g, q + (K + 2 + k), none⟩) hgb (.int .i64 ((z : Int) + 1)))
                  have hcd : w6.drew.cell? ⟨pb, po + i, none⟩ = some (.int .i64 (K : Int)) := ((Below.refl w6.heap.size w6).drew.cell (p := ⟨pb, po + i, none⟩) hpl).trans hci
                  have hcw : (w6.setCell ⟨g, q + (K + 2 + k), none⟩ (.int .i64 ((z : Int) + 1))).drew.cell? ⟨pb, po + i, none⟩ = some (.int .i64 (K : Int)) := by
                    have h1 : (w6.setCell ⟨g, q + (K + 2 + k), none⟩ (.int .i64 ((z : Int) + 1))).cell? ⟨pb, po + i, none⟩ = some (.int .i64 (K : Int)) := by rw [World.cell?_setCell_other _ _ _ _ (fun e => hgp (by have := congrArg Addr.block e; first | exact this | exact this.symm))]; exact hci
                    simpa using h1
                  have hcw2 : (w6.drew.setCell ⟨g, q + (K + 2 + k), none⟩ (.int .i64 ((z : Int) + 1))).cell? ⟨pb, po + i, none⟩ = some (.int .i64 (K : Int)) := by
                    rw [World.cell?_setCell_other _ _ _ _ (fun e => hgp (by have := congrArg Addr.block e; first | exact this | exact this.symm))]; exact hcd
                  have a1 := A6.out.at 1 rfl
                  have la := A6.out.1
                  have hkI0 : (0 : Int) ≤ (K : Int) + 2 + (k : Int) := by omega
                  have hkI1 : (K : Int) + 2 + (k : Int) < ((2 * m : Nat) : Int) := by omega
                  have hkI1' : (K : Int) + 2 + (k : Int) < 2 * (m : Int) := by omega
                  have hpi0 : (i : Int) < (Q.length : Int) := by have := HQL.out; omega
                  have hi0' : (0 : Int) ≤ (i : Int) := by omega
                  obtain ⟨dd, hdd⟩ := ownIn_cell3 HC6.out.wrd (K + 2 + k) (by omega)
                  have hdf := (hdd.2).2
                  have hgl6 := hdd.1
                  have hd6 := (hdd.2).1
                  have HC9 : Hid (CS w2 ((w6.setCell ⟨g, q + (K + 2 + k), none⟩ (.int .i64 ((z : Int) + 1))).drew) b3 g q (m : Int) (1 - ac) ((totO X : Nat) : Int) (2 * m) c3 (.slice (some ⟨pb, po, none⟩) Q.length pc) Q (upd G (K + 2 + k) ((z : Int) + 1))) := Lib.hid
                    ((HC6.out.put hw2 (keeps_setCell (p := ⟨g, q + (K + 2 + k), none⟩) hgl (by show g < b3 + 1; omega) (.int .i64 ((z : Int) + 1))) (HC6.out.arn.other hgb _) (ownIn_put HC6.out.wrd (K + 2 + k) (by omega) ((z : Int) + 1))).below (Below.refl _ _).drew)
                  have HON9 : Hid (ColOn f R P X (fun j d => d < 2 ∨ j < i ∨ (j = i ∧ d < 2 + (k + 1))) (upd G (K + 2 + k) ((z : Int) + 1))) := Lib.hid (by
                    have q1 := HONQ.out.put hiX (d := 2 + k) (by rw [HWO.out]; omega) (K := K + 2 + k) (by rw [HKK.out]; omega) (v := (z : Int) + 1) (by
                      unfold colAt
                      rw [if_neg (by omega), if_neg (by omega), show 2 + k - 2 = k by omega, HXX.out]
                      unfold mapF; rw [if_pos ⟨HB1'.out, fun h => HB2'.out (HY.out.symm.trans h)⟩, HY.out, HG3.out])
                    exact q1.less (fun j d _ _ h => by omega))
                  have HDD := Lib.hid hdd
                  clear hpc hdd
                  have hwA : IntKind.i64.wrap ((K : Int) + 2) = (K : Int) + 2 := IntWalk.i64_in _ (by omega)
                  have hwB : IntKind.i64.wrap ((K : Int) + 2 + (k : Int)) = (K : Int) + 2 + (k : Int) := IntWalk.i64_in _ (by omega)
                  have hwC : ((K : Int) + 2 + (k : Int)).toNat = K + 2 + k := by omega
                  go_region_held3 (fun w' => w'.cell? ⟨b3, 1, none⟩ = some (.slice (some ⟨g, q, none⟩) (2 * m) c3) ∧ w'.cell? ⟨pb, po + i, none⟩ = some (.int .i64 (K : Int)))
                    (first | (with_reducible exact two_cells A6.out hci) | (with_reducible exact two_cells Ad.out hcd) | (with_reducible exact two_cells Aw.out hcw) | (with_reducible exact two_cells Aw2.out hcw2))
                    (fail)
                  clear hwA hwB hwC hcw hcw2 hcd a1 A6 Ad Aw Aw2 hd6 hdf
                  generalize (w6.setCell ⟨g, q + (K + 2 + k), none⟩ (.int .i64 ((z : Int) + 1))).drew = w9 at *
                  go_wp2
                  go_roundw
                  case rel => first | exact ⟨k + 1, _, by omega, by go_num, HC9, HON9⟩ | ((repeat apply Exists.intro); exact ⟨⟨k + 1, _, by omega, by go_num, HC9, HON9⟩, rfl⟩)
                  case measure => simp [intOf]; omega
              · have HB1' : Hid (¬ x.m / P2 (k : Int) % 2 = 1) := Lib.hid (by omega)
                clear HTG HRS2
                go_wp2_with fail
                refine (l2Pointer_at g1 (j * 6 + 1) k x.m false _ x2q hmm (by omega) (by rw [hd]; rfl)).mono ?_
                rintro e w5 ⟨rfl, q5, rfl⟩
                have HC6 := Lib.hid (HCD.out q5)
                clear HCD x1q x2q x5q fk HCQ hbw hbl
                have hbw6 := HC6.out.bel.size
                have hbl6 := HC6.out.arn.1
                generalize wr.drewN q5 = w6 at *
                clear hd
                go_wp2
                obtain ⟨pb, po, rfl, hpb, hpl, hpc⟩ : ∃ pb po, pa = some ⟨pb, po, none⟩ ∧ b3 + 1 ≤ pb ∧ pb < w6.heap.size ∧ ∀ i, i < Q.length → w6.cell? ⟨pb, po + i, none⟩ = some (.int .i64 (lf Q i)) := by
                  rcases own_of_row HC6.out.row with h0 | ⟨pb, po, e1, e2, e3, e4⟩
                  · have := HQL.out; omega
                  · exact ⟨pb, po, e1, e2, e3, fun i hi => (e4 i hi).1⟩
                have hci := hpc i (by have := HQL.out; omega)
                rw [HQA.out i hlt, HKK.out] at hci
                have A6 := Lib.hid HC6.out.arn
                have hgb : g ≠ b3 := by omega
                have hgp : g ≠ pb := by omega
                have Ad := Lib.hid A6.out.drew
                have Aw := Lib.hid ((A6.out.other (p := ⟨g, q + (K + 2 + k), none⟩) hgb (.int .i64 (Y))).drew)
                have Aw2 := Lib.hid (Ad.out.other (p := ⟨g, q + (K + 2 + k), none⟩) hgb (.int .i64 (Y)))
                have hcd : w6.drew.cell? ⟨pb, po + i, none⟩ = some (.int .i64 (K : Int)) := ((Below.refl w6.heap.size w6).drew.cell (p := ⟨pb, po + i, none⟩) hpl).trans hci
                have hcw : (w6.setCell ⟨g, q + (K + 2 + k), none⟩ (.int .i64 (Y))).drew.cell? ⟨pb, po + i, none⟩ = some (.int .i64 (K : Int)) := by
                  have h1 : (w6.setCell ⟨g, q + (K + 2 + k), none⟩ (.int .i64 (Y))).cell? ⟨pb, po + i, none⟩ = some (.int .i64 (K : Int)) := by rw [World.cell?_setCell_other _ _ _ _ (fun e => hgp (by have := congrArg Addr.block e; first | exact this | exact this.symm))]; exact hci
                  simpa using h1
                have hcw2 : (w6.drew.setCell ⟨g, q + (K + 2 + k), none⟩ (.int .i64 (Y))).cell? ⟨pb, po + i, none⟩ = some (.int .i64 (K : Int)) := by
                  rw [World.cell?_setCell_other _ _ _ _ (fun e => hgp (by have := congrArg Addr.block e; first | exact this | exact this.symm))]; exact hcd
                have a1 := A6.out.at 1 rfl
                have la := A6.out.1
                have hkI0 : (0 : Int) ≤ (K : Int) + 2 + (k : Int) := by omega
                have hkI1 : (K : Int) + 2 + (k : Int) < ((2 * m : Nat) : Int) := by omega
                have hkI1' : (K : Int) + 2 + (k : Int) < 2 * (m : Int) := by omega
                have hpi0 : (i : Int) < (Q.length : Int) := by have := HQL.out; omega
                have hi0' : (0 : Int) ≤ (i : Int) := by omega
                obtain ⟨dd, hdd⟩ := ownIn_cell3 HC6.out.wrd (K + 2 + k) (by omega)
                have hdf := (hdd.2).2
                have hgl6 := hdd.1
                have hd6 := (hdd.2).1
                have HC9 : Hid (CS w2 ((w6.setCell ⟨g, q + (K + 2 + k), none⟩ (.int .i64 (Y))).drew) b3 g q (m : Int) (1 - ac) ((totO X : Nat) : Int) (2 * m) c3 (.slice (some ⟨pb, po, none⟩) Q.length pc) Q (upd G (K + 2 + k) (Y))) := Lib.hid
                  ((HC6.out.put hw2 (keeps_setCell (p := ⟨g, q + (K + 2 + k), none⟩) hgl (by show g < b3 + 1; omega) (.int .i64 (Y))) (HC6.out.arn.other hgb _) (ownIn_put HC6.out.wrd (K + 2 + k) (by omega) (Y))).below (Below.refl _ _).drew)
                have HON9 : Hid (ColOn f R P X (fun j d => d < 2 ∨ j < i ∨ (j = i ∧ d < 2 + (k + 1))) (upd G (K + 2 + k) (Y))) := Lib.hid (by
                  have q1 := HONQ.out.put hiX (d := 2 + k) (by rw [HWO.out]; omega) (K := K + 2 + k) (by rw [HKK.out]; omega) (v := Y) (by
                    unfold colAt
                    rw [if_neg (by omega), if_neg (by omega), show 2 + k - 2 = k by omega, HXX.out]
                    unfold mapF; rw [if_neg (fun h => HB1'.out h.1), HY.out])
                  exact q1.less (fun j d _ _ h => by omega))
                have HDD := Lib.hid hdd
                clear hpc hdd
                have hwA : IntKind.i64.wrap ((K : Int) + 2) = (K : Int) + 2 := IntWalk.i64_in _ (by omega)
                have hwB : IntKind.i64.wrap ((K : Int) + 2 + (k : Int)) = (K : Int) + 2 + (k : Int) := IntWalk.i64_in _ (by omega)
                have hwC : ((K : Int) + 2 + (k : Int)).toNat = K + 2 + k := by omega
                go_region_held3 (fun w' => w'.cell? ⟨b3, 1, none⟩ = some (.slice (some ⟨g, q, none⟩) (2 * m) c3) ∧ w'.cell? ⟨pb, po + i, none⟩ = some (.int .i64 (K : Int)))
                  (first | (with_reducible exact two_cells A6.out hci) | (with_reducible exact two_cells Ad.out hcd) | (with_reducible exact two_cells Aw.out hcw) | (with_reducible exact two_cells Aw2.out hcw2))
                  (fail)
                clear hwA hwB hwC hcw hcw2 hcd a1 A6 Ad Aw Aw2 hd6 hdf
                generalize (w6.setCell ⟨g, q + (K + 2 + k), none⟩ (.int .i64 (Y))).drew = w9 at *
                go_wp2
                go_roundw
                case rel => first | exact ⟨k + 1, _, by omega, by go_num, HC9, HON9⟩ | ((repeat apply Exists.intro); exact ⟨⟨k + 1, _, by omega, by go_num, HC9, HON9⟩, rfl⟩)
                case measure => simp [intOf]; omega
            · have HON2 : Hid (ColOn f R P X (fun j d => d < 2 ∨ j < i + 1) G) := Lib.hid (HONQ.out.less (fun j d hj hd h => by
                by_cases hji : j = i
                · subst hji
                  have := HWO.out
                  omega
                · omega))
              go_wp2
              go_roundw
              case rel => first | exact ⟨i + 1, G, by omega, by go_num, HCQ, HON2⟩ | ((repeat apply Exists.intro); exact ⟨⟨i + 1, G, by omega, by go_num, HCQ, HON2⟩, rfl⟩)
              case measure => simp [intOf]; omega
        · have hlt' : ¬ (i : Int) < (R.length : Int) := by omega
          obtain rfl : i = R.length := by omega
          have HCOL : Hid (IsCol f L R P G) := Lib.hid (isCol_of (by rw [HX.out]; exact HON.out.less (fun j d hj _ _ => by have := HLEN.out; omega)))
          clear hbw hbl HON
          generalize wr = w7 at *
          have HB7 := Lib.hid (HB2.out.trans (HC.out.bel.mono HB2.out.size))
          have hz7 := HB7.out.size
          have hz72 := HC.out.bel.size
          have hb37 := HC.out.arn.1
          have OW7 : Hid ((w7.alloc (.cells #[] 2)).ownsRow w7.heap.size 2 1 (.slice (some ⟨w7.heap.size, 0, none⟩) 0 0) ([] : List Int).length (nums ([] : List Int).length (lf []))) := Lib.hid (by
            have h9 := World.ownsRow_lit w7 #[] 0 (e := 2) (size := 1) (Nat.le_refl _) (by simp [maxLen]) rfl
            simpa [nums] using h9)
          have HA7 : Hid (Below w7.heap.size w7 (w7.alloc (.cells #[] 2))) := Lib.hid ((Below.refl _ _).alloc (Nat.le_refl _) _)
          go_wp2
          generalize w7.alloc (.cells #[] 2) = w8 at *
          go_loopw [16, 17] (fun u p wr => ∃ (i : Nat) (l : List Int), i ≤ roots.length ∧ p = .int .i64 (i : Int) ∧ l.length = i ∧ Hid (Below w7.heap.size w7 wr) ∧ Hid (wr.ownsRow w7.heap.size 2 1 u l.length (nums l.length (lf l))) ∧ Hid (l = (roots.map (goes R (newPlaces P X))).take i)) (fun _ p _ => roots.length - (intOf p).toNat)
          case atStart => exact ⟨0, [], by omega, rfl, rfl, HA7, OW7, Lib.hid (by simp)⟩
          case round =>
            clear HA7 OW7
            obtain ⟨i, l, hi, rfl, hll, HB, OW, HLL⟩ := hrel
            have hl4 : l.length ≤ 400 := by omega
            have HLI := Lib.hid hll
            have hzr := HB.out.size
            clear hll
            by_cases hlt : i < roots.length
            · have hlt' : (i : Int) < (roots.length : Int) := by omega
              have hi0 : (0 : Int) ≤ (i : Int) := by omega
              obtain ⟨rb, ro, rfl, hrb, hrc⟩ := src_some ((HRS.out.below HB7.out).below HB.out) (by omega)
              have c0 := hrc i hlt
              have HYR : Hid (lf roots i ∈ R) := Lib.hid (by rw [← HR.out]; exact reachO_roots f L roots _ (lf_mem hlt))
              have HLA : Hid ((roots.map (goes R (newPlaces P X))).take (i + 1) = (roots.map (goes R (newPlaces P X))).take i ++ [goes R (newPlaces P X) (lf roots i)]) := Lib.hid (by
                rw [List.take_succ_eq_append_getElem (by simpa using hlt), lf_at hlt]; simp)
              obtain ⟨y, hy⟩ : ∃ y, lf roots i = y := ⟨_, rfl⟩
              rw [hy] at c0 HYR HLA
              obtain ⟨t, ht1, ht2, ht3⟩ := goes_mem (Q := newPlaces P X) HYR.out
              have HNI : Hid (numI R y = (t : Int)) := Lib.hid (by unfold numI; rw [ht1])
              obtain ⟨z, hz⟩ : ∃ z : Nat, placeAt P X t = z := ⟨_, rfl⟩
              have HG3 : Hid (goes R (newPlaces P X) y = (z : Int)) := Lib.hid (by rw [ht3, newPlaces_get P X (by rw [HLEN.out]; exact ht2), hz])
              have HZ := Lib.hid hz
              clear hrc hy ht1 ht3 hz
              have HR7 := Lib.hid ((HR2.out.below HC.out.bel).below HB.out)
              obtain ⟨pb, po, rfl, hpb, hpl, hpc⟩ : ∃ pb po, pa = some ⟨pb, po, none⟩ ∧ b3 + 1 ≤ pb ∧ pb < w7.heap.size ∧ ∀ i, i < Q.length → w7.cell? ⟨pb, po + i, none⟩ = some (.int .i64 (lf Q i)) := by
                rcases own_of_row HC.out.row with h0 | ⟨pb, po, e1, e2, e3, e4⟩
                · have := HQL.out; omega
                · exact ⟨pb, po, e1, e2, e3, fun i hi => (e4 i hi).1⟩
              have hzc := hpc t (by have := HQL.out; omega)
              rw [HQA.out t ht2, HZ.out] at hzc
              have hzd := (HB.out.cell (p := ⟨pb, po + t, none⟩) hpl).trans hzc
              have hplr : pb < wr.heap.size := by omega
              have htq : (t : Int) < (Q.length : Int) := by have := HQL.out; omega
              have ht0 : (0 : Int) ≤ (t : Int) := by omega
              clear hpc hzc
              obtain ⟨la, lc, rfl, -⟩ := row_src OW.out
              have HGE : Hid (∀ k, (Value.slice la l.length lc).ownBlock = some k → w7.heap.size ≤ k) := Lib.hid (fun k hk => (OW.out.lt k hk).1)
              go_wp2_with fail
              refine (l4Number_any a2 R c2 y _ HR7.out (by omega)).mono ?_
              rintro e w' ⟨rfl, rfl⟩
              rw [HNI.out]
              go_wp2_with (at_builtin; go_loud (refine wpList_append_lies _ rfl _ _ 24 rfl (w7.heap.size) 2 i0 (.int .i64 0) 1 8 Try.underlying24 hif hz0 hz1 hz2 rfl (by decide) (.slice la l.length lc) l.length (nums l.length (lf l)) rfl (ownsRow_below OW.out ((Below.refl _ _).alloc (Nat.le_refl _) _)) ⟨wr.heap.size, 0, none⟩ 1 1 [.int .i64 (z : Int)] rfl rfl (news1 wr (z : Int)) (by intro u hu; simp only [List.mem_cons, List.mem_nil_iff, or_false] at hu; subst hu; rfl) (by omega) (by unfold maxLen; omega) (by omega) (by simp; omega) (wr.heap.size + 1) (by simp) ?_); intro g9 cap9 w9 hown9 hgrow9 hat9 hlt9)
              have HB9 : Hid (Below w7.heap.size w7 w9) := Lib.hid ((HB.out.alloc hzr _).grown hgrow9 (by simp; omega) (fun k hk => HGE.out k hk))
              have OW9 : Hid (w9.ownsRow w7.heap.size 2 1 (.slice (some ⟨g9, 0, none⟩) (l.length + 1) cap9) (l ++ [(z : Int)]).length (nums (l ++ [(z : Int)]).length (lf (l ++ [(z : Int)])))) := Lib.hid (by rw [show (l ++ [(z : Int)]).length = l.length + 1 by simp, ← nums_snoc]; exact hown9)
              have HLL9 : Hid (l ++ [(z : Int)] = (roots.map (goes R (newPlaces P X))).take (i + 1)) := Lib.hid (by rw [HLA.out, ← HLL.out, HG3.out])
              clear hown9 hgrow9 hat9 hzd c0
              go_wp2
              go_roundw
              case rel => first | exact ⟨i + 1, l ++ [(z : Int)], by omega, by go_num, by rw [List.length_append, HLI.out]; rfl, HB9, OW9, HLL9⟩ | ((repeat apply Exists.intro); exact ⟨⟨i + 1, l ++ [(z : Int)], by omega, by go_num, by rw [List.length_append, HLI.out]; rfl, HB9, OW9, HLL9⟩, rfl⟩)
              case measure => simp [intOf]; omega
            · have hlt' : ¬ (i : Int) < (roots.length : Int) := by omega
              obtain rfl : i = roots.length := by omega
              have hle : l = roots.map (goes R (newPlaces P X)) := by rw [HLL.out, List.take_of_length_le (by simp)]
              have HLE := Lib.hid hle
              clear hle
              have AF := Lib.hid (HC.out.arn.below HB.out)
              have XF := Lib.hid ((X2.out.below HC.out.bel).below HB.out)
              have WF := Lib.hid (HC.out.wrd.below HB.out)
              have HBF := Lib.hid (HB7.out.trans (HB.out.mono hz7))
              obtain ⟨la, lc, rfl, hlo⟩ := own_of_row' OW.out
              have HLO := Lib.hid hlo
              clear hlo
              have lA := AF.out.1; have cA0 := AF.out.at 0 rfl; have cA1 := AF.out.at 1 rfl; have cA2 := AF.out.at 2 rfl; have cA3 := AF.out.at 3 rfl
              have lX := XF.out.1; have cX0 := XF.out.at 0 rfl; have fX0 := XF.out.free 0 rfl; have cX1 := XF.out.at 1 rfl; have fX1 := XF.out.free 1 rfl; have cX2 := XF.out.at 2 rfl; have fX2 := XF.out.free 2 rfl; have cX3 := XF.out.at 3 rfl; have fX3 := XF.out.free 3 rfl
              go_wp2
              have hneX : ∀ k, (⟨w.heap.size, k, none⟩ : Addr).block < w2.heap.size := fun k => by show w.heap.size < w2.heap.size; omega
              refine bodyPost_ret (v := .tuple #[.agg #[.int .i64 (m : Int), .slice (some ⟨g, q, none⟩) (2 * m) c3, .int .i64 (1 - ac), .int .i64 ((totO X : Nat) : Int)], .slice la l.length lc]) (by simp [results, Try.results67, go_sem, cX0, cX1, cX2, cX3]) rfl ⟨some ⟨g, q, none⟩, c3, la, lc, w7.heap.size, G, by rw [HLI.out], HCOL.out, ?_, ?_, ?_, hz7, ?_, HC3.out⟩
              · refine OwnIn.widen (lo := w2.heap.size) (hi := b3 + 1) ?_ (by omega) (by omega)
                repeat (with_reducible refine OwnIn.setCell ?_ (.inl (hneX _)) _)
                exact WF.out
              · rw [← HLE.out, ← HLI.out]
                refine OwnIn.widen (lo := w7.heap.size) (hi := wr.heap.size) ?_ (by omega) (by simp)
                repeat (with_reducible refine OwnIn.setCell ?_ (.inl (by show w.heap.size < w7.heap.size; omega)) _)
                exact HLO.out.into'
              · simp; omega
              · repeat (first | (with_reducible refine Below.setCell ?_ (by (try simp); (try omega)) _) | (with_reducible refine Below.alloc ?_ (by (try simp); (try omega)) _) | (with_reducible refine Below.drew ?_))
                exact HBF.out
end Go.Proofs.Ytbhjmomphajnnaa

namespace Go.Proofs.Ytbhjmomphajnnaa
open Go.RowKit Go.Maps
set_option linter.unusedVariables false

structure CR where
  co : Int
  h : Int
  n : Nat
  f : Nat → Int
  ac : Int
  bu : Int
  rl : List Int
  mv : Int

def errCR (k : Int) : CR := ⟨k, 0, 0, fun _ => 0, 0, 0, [], 0⟩

def RetCR (W : World) (r : CR) (e : Ending) (w' : World) : Prop :=
  ∃ a c ra rc mid, e = .returned (.agg #[.int .i64 r.co, .int .i64 r.h, .slice a r.n c, .int .i64 r.ac, .int .i64 r.bu, .slice ra r.rl.length rc, .int .i64 r.mv]) ∧ OwnIn w' W.heap.size mid a r.n r.f ∧ OwnIn w' mid w'.heap.size ra r.rl.length (lf r.rl) ∧ W.heap.size ≤ mid ∧ mid ≤ w'.heap.size ∧ Below W.heap.size W w' ∧ (r.co = 0 → r.n ≤ c ∧ c ≤ maxLen)

/-- What a collection tells. -/
def IsCR (h : Int) (n : Nat) (f : Nat → Int) (ac bu : Int) (roots : List Int) (co : Int) (L : List Ob) (r : CR) : Prop :=
  (¬ co = 0 ∧ r = errCR co) ∨ (co = 0 ∧ ∃ g, IsCol f L (reachO f L roots) (baseI (1 - ac) h).toNat g ∧ r = ⟨0, h, n, g, 1 - ac, (totO (objsO L (reachO f L roots)) : Int), roots.map (goes (reachO f L roots) (newPlaces (baseI (1 - ac) h).toNat (objsO L (reachO f L roots)))), (totO (objsO L (reachO f L roots)) : Int)⟩)

theorem isCR_some (h : Int) (n : Nat) (f : Nat → Int) (ac bu : Int) (roots : List Int) (co : Int) (L : List Ob) : ∃ r, IsCR h n f ac bu roots co L r := by
  by_cases h0 : co = 0
  · obtain ⟨g, hg⟩ := col_some f L (reachO f L roots) (baseI (1 - ac) h).toNat
    exact ⟨_, .inr ⟨h0, g, hg, rfl⟩⟩
  · exact ⟨_, .inl ⟨h0, rfl⟩⟩

set_option maxRecDepth 100000 in
set_option maxHeartbeats 1600000 in
theorem implCol_code (h ac bu : Int) (a : Option Addr) (n c : Nat) (f : Nat → Int) (ra : Option Addr) (roots : List Int) (rc : Nat) (co : Int) (L : List Ob) (w : World) (hs : Src w a n f) (hcn : n ≤ c) (hcm : c ≤ maxLen) (hrs : Src w ra roots.length (lf roots)) (hk : IsAsk h n f ac bu roots co L) (h0 : ¬ co = 0) :
    Calls Try.prog 12 #[.agg #[.int .i64 h, .slice a n c, .int .i64 ac, .int .i64 bu], .slice ra roots.length rc] w (RetCR w (errCR co)) := by
  have hd : (co != 0) = true := by simpa using h0
  have HS := Lib.hid hs; have HK := Lib.hid hk; have HCM := Lib.hid hcm; have HRS := Lib.hid hrs; have H0 := Lib.hid h0
  clear hs hk hcm hrs h0
  go_enter Try.func12, Try.ntmps12
  go_wp2_with fail
  refine (reachIn_any h ac bu a n c f ra roots rc co L _ ((HS.out.alloc _).alloc _) hcn HCM.out ((HRS.out.alloc _).alloc _) HK.out).mono ?_
  rintro e w1 ⟨hb, hr⟩
  have HB1 := Lib.hid (thru2 (Below.refl _ _) hb)
  have R_1 := Lib.hid ((Blk.new_at (w := w.alloc (.cells #[.int .i64 h, .slice a n c, .int .i64 ac, .int .i64 bu] 26)) (cs := #[.int .i64 0, .int .i64 0, .slice none 0 0, .int .i64 0, .int .i64 0, .slice none 0 0, .int .i64 0]) (t := 30) (w.heap.size + 1) (by simp)).below hb)
  have z1 : w.heap.size + 2 ≤ w1.heap.size := by have := hb.size; simp at this; omega
  clear hb
  rcases hr with ⟨_, rfl⟩ | ⟨h0, _⟩
  · have HB2 := Lib.hid (HB1.out.alloc HB1.out.size (.cells #[.int .i64 co, .slice none 0 0, .map none] 101))
    have R_2 := Lib.hid (R_1.out.alloc (.cells #[.int .i64 co, .slice none 0 0, .map none] 101))
    have X_2 := Lib.hid (Blk.new_at (w := w1) (cs := #[.int .i64 co, .slice none 0 0, .map none]) (t := 101) w1.heap.size rfl)
    have z2 : w1.heap.size + 1 = (w1.alloc (.cells #[.int .i64 co, .slice none 0 0, .map none] 101)).heap.size := by simp
    go_upto_region 2 with (fail)
    generalize w1.alloc (.cells #[.int .i64 co, .slice none 0 0, .map none] 101) = w2 at *
    have lR := R_2.out.1; have cR0 := R_2.out.at 0 rfl; have cR1 := R_2.out.at 1 rfl; have cR2 := R_2.out.at 2 rfl; have cR3 := R_2.out.at 3 rfl; have cR4 := R_2.out.at 4 rfl; have cR5 := R_2.out.at 5 rfl; have cR6 := R_2.out.at 6 rfl; have fR0 := R_2.out.free 0 rfl; have fR1 := R_2.out.free 1 rfl; have fR2 := R_2.out.free 2 rfl; have fR3 := R_2.out.free 3 rfl; have fR4 := R_2.out.free 4 rfl; have fR5 := R_2.out.free 5 rfl; have fR6 := R_2.out.free 6 rfl
    have lX := X_2.out.1; have cX0 := X_2.out.at 0 rfl; have cX1 := X_2.out.at 1 rfl; have cX2 := X_2.out.at 2 rfl
    go_wp2
    refine bodyPost_ret (v := .agg #[.int .i64 co, .int .i64 0, .slice none 0 0, .int .i64 0, .int .i64 0, .slice none 0 0, .int .i64 0]) (by simp [results, Try.results12, go_sem, cR0, cR1, cR2, cR3, cR4, cR5, cR6]) rfl ⟨none, 0, none, 0, w2.heap.size, rfl, .inl rfl, .inl rfl, by omega, by simp, ?_, fun h => absurd h H0.out⟩
    repeat (first | (with_reducible refine Below.setCell ?_ (by (try simp); (try omega)) _) | (with_reducible refine Below.alloc ?_ (by (try simp); (try omega)) _) | (with_reducible refine Below.drew ?_))
    exact HB2.out
  · exact absurd h0 H0.out

theorem rest_zero {h : Int} {n : Nat} {f : Nat → Int} {ac bu : Int} (hk : IsSF h n f ac bu 0) : ∀ k, k < n → zeroR f (baseI ac h).toNat h.toNat k = 0 := by
  intro k hk'
  have hok := hk
  obtain ⟨L0, ho0⟩ := isSF_zero hk
  obtain ⟨⟨⟨g1, g2⟩, ⟨g3, g4⟩, g5, g6⟩, gn, gw⟩ := isFault_ok (isOI_zero ho0).1
  rcases hok with ⟨L, hL, h0⟩ | ⟨L, hL, hs, h0⟩ | ⟨L, hL, hs, _⟩
  · exact absurd rfl h0
  · cases h0
  · rcases hs with ⟨_, hr, _⟩ | ⟨_, h9⟩
    · unfold zeroR
      by_cases hin : (baseI ac h).toNat ≤ k ∧ k < (baseI ac h).toNat + h.toNat
      · rw [if_pos hin]
      · rw [if_neg hin]
        exact hr k hk' (by omega)
    · cases h9

theorem tot_fits2 {h : Int} {n : Nat} {f : Nat → Int} {ac bu : Int} {L : List Ob} {roots : List Int} (hk : IsSF h n f ac bu 0) (ho : IsOI h n f ac bu 0 L) (hroots : ∀ p ∈ roots, p ∈ placesO L) : (totO (objsO L (reachO f L roots)) : Int) ≤ bu := by
  have hr := right_of hk ho
  have h1 := tot_le (L := L) (R := reachO f L roots) hr.apart (reachO_nodup f L roots) (reachO_sub hr.points hr.size hroots)
  obtain ⟨h4, h5⟩ := isOI_zero ho
  obtain ⟨⟨⟨g1, g2⟩, ⟨g3, g4⟩, g5, g6⟩, gn, gw⟩ := isFault_ok h4
  have := parse_tot_eq _ _ L (Nat.le_refl _) (by omega) h5
  omega

theorem fld_ars (v0 v1 v2 v3 v4 v5 : Value) (w : World) : (Instr.field 104 (.agg #[v0, v1, v2, v3, v4, v5]) 1).run Try.prog w = .ok (.agg #[v1, v2, v3, v4]) w := by kernel_rfl

theorem fld_irs (x y : Value) (w : World) : (Instr.field 35 (.agg #[x, y]) 1).run Try.prog w = .ok y w := by kernel_rfl

theorem baseOf_eq (X h ac bu : Int) (a : Option Addr) (n c : Nat) (w : World) (hX : baseI ac h = X) (h1 : 8 ≤ h) (h2 : h ≤ 200) (h3 : 0 ≤ ac) (h4 : ac ≤ 1) :
    Calls Try.prog 60 #[.agg #[.int .i64 h, .slice a n c, .int .i64 ac, .int .i64 bu]] w (RetInt w X) := hX ▸ baseOf_any h ac bu a n c w h1 h2 h3 h4

theorem three_four {w : World} {b d : Nat} {u0 u1 u2 v0 v1 v2 v3 : Value} (h : Blk w b [u0, u1, u2]) (k : Blk w d [v0, v1, v2, v3]) : w.cell? ⟨b, 0, none⟩ = some u0 ∧ w.cell? ⟨b, 1, none⟩ = some u1 ∧ w.cell? ⟨b, 2, none⟩ = some u2 ∧ w.cell? ⟨d, 0, none⟩ = some v0 ∧ w.cell? ⟨d, 1, none⟩ = some v1 ∧ w.cell? ⟨d, 2, none⟩ = some v2 ∧ w.cell? ⟨d, 3, none⟩ = some v3 := ⟨h.at 0 rfl, h.at 1 rfl, h.at 2 rfl, k.at 0 rfl, k.at 1 rfl, k.at 2 rfl, k.at 3 rfl⟩

theorem five_t {w : World} {b : Nat} {v0 v1 v2 v3 v4 v5 : Value} (h : Blk w b [v0, v1, v2, v3, v4, v5]) : w.cell? ⟨b, 1, none⟩ = some v1 ∧ w.cell? ⟨b, 2, none⟩ = some v2 ∧ w.cell? ⟨b, 3, none⟩ = some v3 ∧ w.cell? ⟨b, 4, none⟩ = some v4 ∧ w.cell? ⟨b, 5, none⟩ = some v5 := ⟨h.at 1 rfl, h.at 2 rfl, h.at 3 rfl, h.at 4 rfl, h.at 5 rfl⟩

theorem four_c {w : World} {d : Nat} {v0 v1 v2 v3 : Value} (k : Blk w d [v0, v1, v2, v3]) : w.cell? ⟨d, 0, none⟩ = some v0 ∧ w.cell? ⟨d, 1, none⟩ = some v1 ∧ w.cell? ⟨d, 2, none⟩ = some v2 ∧ w.cell? ⟨d, 3, none⟩ = some v3 := ⟨k.at 0 rfl, k.at 1 rfl, k.at 2 rfl, k.at 3 rfl⟩
end Go.Proofs.Ytbhjmomphajnnaa

namespace Go.Proofs.Ytbhjmomphajnnaa
open Go.RowKit Go.Maps
set_option linter.unusedVariables false

/-- The words while the program collects. -/
structure PW (W w : World) (g q n : Nat) (G : Nat → Int) : Prop where
  kp : Keeps W w g (g + 1)
  wrd : OwnIn w g (g + 1) (some ⟨g, q, none⟩) n G

theorem PW.below {W w w' : World} {g q n : Nat} {G : Nat → Int} (d : PW W w g q n G) (hb : Below w.heap.size w w') : PW W w' g q n G := ⟨d.kp.trans (keeps_of_below hb g (g + 1)), d.wrd.below hb⟩

theorem MapT.keeps {w w' : World} {b n lo hi : Nat} {R : List Int} {v : Nat → Int} (h : MapT w b n R v) (hk : Keeps w w' lo hi) (hd : b < lo ∨ hi ≤ b) : MapT w' b n R v := h.block (hk.block b h.lt hd)

set_option maxRecDepth 100000 in
set_option maxHeartbeats 6400000 in
theorem implCol_ok (m : Nat) (ac bu : Int) (a : Option Addr) (c : Nat) (f : Nat → Int) (ra : Option Addr) (roots : List Int) (rc : Nat) (L : List Ob) (w : World) (hs : Src w a (2 * m) f) (hcn : 2 * m ≤ c) (hcm : c ≤ maxLen) (hrs : Src w ra roots.length (lf roots)) (hk : IsSF (m : Int) (2 * m) f ac bu 0) (ho : IsOI (m : Int) (2 * m) f ac bu 0 L) (h60 : roots.length ≤ 60) (hall : ∀ p ∈ roots, p ∈ placesO L) (g0 : Nat → Int) (hg0 : IsCol f L (reachO f L roots) (baseI (1 - ac) (m : Int)).toNat g0) :
    Calls Try.prog 12 #[.agg #[.int .i64 (m : Int), .slice a (2 * m) c, .int .i64 ac, .int .i64 bu], .slice ra roots.length rc] w (RetCR w ⟨0, (m : Int), 2 * m, g0, 1 - ac, (totO (objsO L (reachO f L roots)) : Int), roots.map (goes (reachO f L roots) (newPlaces (baseI (1 - ac) (m : Int)).toNat (objsO L (reachO f L roots)))), (totO (objsO L (reachO f L roots)) : Int)⟩) := by
  have hri := right_of hk ho
  have hsub := reachO_sub hri.points hri.size hall
  have hlen := objsO_length hsub
  have htot := tot_fits2 hk ho hall
  have hka : IsAsk (m : Int) (2 * m) f ac bu roots 0 L := .inr (.inr (.inr ⟨hk, ho, h60, hall, rfl⟩))
  have hsm := reach_small hka
  rw [outR_zero] at hsm
  have hrl := hsm.1
  have hisf := (isOI_zero ho).1
  obtain ⟨⟨⟨g1, g2⟩, ⟨g3, g4⟩, g5, g6⟩, gn, gw⟩ := isFault_ok hisf
  obtain ⟨P, hP⟩ : ∃ P : Nat, baseI (1 - ac) (m : Int) = (P : Int) := ⟨(baseI (1 - ac) (m : Int)).toNat, by have := baseI_bd (ac := 1 - ac) g1; omega⟩
  have hPm : P ≤ m := by have := baseI_bd (ac := 1 - ac) g1; omega
  have hPt : (baseI (1 - ac) (m : Int)).toNat = P := by omega
  have hmv := fun (t u : GM) (i : Nat) (hi : i < (reachO f L roots).length) (hi' : i < (objsO L (reachO f L roots)).length) (x : Ob) (hx : findO L (lf (reachO f L roots) i) = some x) (hs : GSame t (obG f x)) (hu : GSame u (mvT (reachO f L roots) (fun i => (placeAt P (objsO L (reachO f L roots)) i : Int)) t)) => mv_word hk ho hall P hi hi' hx hs hu
  have hmvb := fun (w : World) (t : GM) (v : Nat → Int) (y : Int) (hy : y ∈ reachO f L roots) (x : Ob) (hx : findO L y = some x) (hs : GSame t (obG f x)) (hw : Src w t.a t.n t.f) => movable_of (R := reachO f L roots) (v := v) hk ho hall hy hx hs hw
  have hto := tot_objs (L := L) hsub
  have hnd := reachO_nodup f L roots
  have hrr := reachO_roots f L roots
  obtain ⟨R, hR⟩ : ∃ R, reachO f L roots = R := ⟨_, rfl⟩
  obtain ⟨X, hX⟩ : ∃ X, objsO L R = X := ⟨_, rfl⟩
  rw [hPt, hR, hX]
  rw [hPt] at hg0
  rw [hR] at hsub hlen htot hrl hmv hmvb hg0 hto hnd hrr
  rw [hX] at hlen htot hmv hto
  have hfit : P + totO X ≤ 2 * m := by omega
  have HS := Lib.hid hs; have HK := Lib.hid hk; have HCM := Lib.hid hcm; have HRS := Lib.hid hrs; have HO := Lib.hid ho; have HALL := Lib.hid hall; have HRI := Lib.hid hri; have HSUB := Lib.hid hsub; have HLEN := Lib.hid hlen; have HP := Lib.hid hP; have HR := Lib.hid hR; have HX := Lib.hid hX
  have HKA := Lib.hid hka; have HISF := Lib.hid hisf; have HMV := Lib.hid hmv; have HMVB := Lib.hid hmvb; have HG0 := Lib.hid hg0; have HTO := Lib.hid hto; have HND := Lib.hid hnd; have HRR := Lib.hid hrr
  have HRZ := Lib.hid (rest_zero hk)
  clear hs hk hcm hrs ho hall hri hsub hlen hP hR hX hPt gn gw hsm htot hka hisf hmv hmvb hg0 hto hnd hrr
  go_enter Try.func12, Try.ntmps12
  go_wp2_with fail
  refine (reachIn_any (m : Int) ac bu a (2 * m) c f ra roots rc 0 L _ ((HS.out.alloc _).alloc _) hcn HCM.out ((HRS.out.alloc _).alloc _) HKA.out).mono ?_
  rintro e w1 ⟨hb, hr⟩
  have HB1 := Lib.hid (thru2 (Below.refl _ _) hb)
  have A_1 := Lib.hid (((Blk.new_at (w := w) (cs := #[.int .i64 (m : Int), .slice a (2 * m) c, .int .i64 ac, .int .i64 bu]) (t := 26) w.heap.size rfl).alloc (.cells #[.int .i64 0, .int .i64 0, .slice none 0 0, .int .i64 0, .int .i64 0, .slice none 0 0, .int .i64 0] 30)).below hb)
  have R_1 := Lib.hid ((Blk.new_at (w := w.alloc (.cells #[.int .i64 (m : Int), .slice a (2 * m) c, .int .i64 ac, .int .i64 bu] 26)) (cs := #[.int .i64 0, .int .i64 0, .slice none 0 0, .int .i64 0, .int .i64 0, .slice none 0 0, .int .i64 0]) (t := 30) (w.heap.size + 1) (by simp)).below hb)
  have z1 : w.heap.size + 2 ≤ w1.heap.size := by have := hb.size; simp at this; omega
  clear hb
  rcases hr with ⟨h0, _⟩ | ⟨_, a1, c1, mb, T, rfl, hg, hm, hsm⟩
  · exact absurd rfl h0
  rw [HR.out] at hg hm hsm ⊢
  have HB2 := Lib.hid (HB1.out.alloc HB1.out.size (.cells #[.int .i64 0, .slice a1 R.length c1, .map (some mb)] 101))
  have A_2 := Lib.hid (A_1.out.alloc (.cells #[.int .i64 0, .slice a1 R.length c1, .map (some mb)] 101))
  have R_2 := Lib.hid (R_1.out.alloc (.cells #[.int .i64 0, .slice a1 R.length c1, .map (some mb)] 101))
  have X_2 := Lib.hid (Blk.new_at (w := w1) (cs := #[.int .i64 0, .slice a1 R.length c1, .map (some mb)]) (t := 101) w1.heap.size rfl)
  have HG2 := Lib.hid (hg.below ((Below.refl w1.heap.size w1).alloc (Nat.le_refl _) (.cells #[.int .i64 0, .slice a1 R.length c1, .map (some mb)] 101)))
  have HSM := Lib.hid hsm
  have z2 : w1.heap.size + 1 = (w1.alloc (.cells #[.int .i64 0, .slice a1 R.length c1, .map (some mb)] 101)).heap.size := by simp
  have hfl := fld_ars
  clear hg hm hsm HB1 A_1 R_1
  have lA := A_2.out.1
  have lX := X_2.out.1; have cX0 := X_2.out.at 0 rfl; have cX1 := X_2.out.at 1 rfl; have cX2 := X_2.out.at 2 rfl
  go_upto_region 4 with (fail)
  generalize w1.alloc (.cells #[.int .i64 0, .slice a1 R.length c1, .map (some mb)] 101) = w2 at *
  have cA0 := A_2.out.at 0 rfl; have cA1 := A_2.out.at 1 rfl; have cA2 := A_2.out.at 2 rfl; have cA3 := A_2.out.at 3 rfl
  go_wp2_with fail
  refine (implFlipC_any (m : Int) ac bu a (2 * m) c f ⟨0, (m : Int), 2 * m, zeroR f (baseI ac (m : Int)).toNat (m : Int).toNat, 1 - ac, 0, 0⟩ _ (HS.out.below HB2.out) hcn HCM.out (.inr ⟨HISF.out, rfl⟩)).mono ?_
  rintro e w3 ⟨a3, c3, rfl, ho3, hb, hroom⟩
  obtain ⟨g, q, rfl, hgl, hgs⟩ : ∃ g q, a3 = some ⟨g, q, none⟩ ∧ w2.heap.size ≤ g ∧ g < w3.heap.size := by
    rcases ho3 with h0 | ⟨g, q, e1, e2, e3, _⟩
    · have h0' : 2 * m = 0 := h0
      omega
    · exact ⟨g, q, e1, e2, e3⟩
  have HRM := Lib.hid (hroom rfl)
  have HO3 : Hid (OwnIn w3 g (g + 1) (some ⟨g, q, none⟩) (2 * m) (fun _ => 0)) := Lib.hid (by
    have h9 := ho3.congr HRZ.out
    rcases h9 with h0 | ⟨g', q', e1, e2, e3, e4⟩
    · exact .inl h0
    · cases e1
      exact .inr ⟨g, q, rfl, ⟨Nat.le_refl _, Nat.lt_succ_self _⟩, e3, e4⟩)
  have HB23 := Lib.hid hb
  have z3 := hb.size
  clear hb ho3 hroom cA0 cA1 cA2 cA3 lA lX cX0 cX1 cX2
  dsimp only
  have C_4 := Lib.hid (Blk.new_at (w := w3) (cs := #[.int .i64 (m : Int), .slice (some ⟨g, q, none⟩) (2 * m) c3, .int .i64 (1 - ac), .int .i64 0]) (t := 26) w3.heap.size rfl)
  have hAL := (Below.refl w3.heap.size w3).alloc (Nat.le_refl _) (.cells #[.int .i64 (m : Int), .slice (some ⟨g, q, none⟩) (2 * m) c3, .int .i64 (1 - ac), .int .i64 0] 26)
  have HB24 := Lib.hid (HB23.out.trans (hAL.mono z3))
  have HO4 := Lib.hid (HO3.out.below hAL)
  have X_4 := Lib.hid (X_2.out.below HB24.out)
  have z4 : w3.heap.size + 1 = (w3.alloc (.cells #[.int .i64 (m : Int), .slice (some ⟨g, q, none⟩) (2 * m) c3, .int .i64 (1 - ac), .int .i64 0] 26)).heap.size := by simp
  clear hAL HO3
  go_wp2_with fail
  clear hfl
  generalize w3.alloc (.cells #[.int .i64 (m : Int), .slice (some ⟨g, q, none⟩) (2 * m) c3, .int .i64 (1 - ac), .int .i64 0] 26) = w4 at *
  generalize hcb : w3.heap.size = cb at *
  have Xd := Lib.hid X_4.out.drew; have Cd := Lib.hid C_4.out.drew
  have HDR : Hid (Below w4.heap.size w4 w4.drew) := Lib.hid ((Below.refl _ _).drew)
  have HGd := Lib.hid ((HG2.out.below HB24.out).drew)
  have HPL : Hid (∀ p ∈ R, 0 ≤ p ∧ p ≤ 1000000) := Lib.hid (fun p hp => place_bound HK.out HO.out (HSUB.out p hp))
  have HOT : Hid (∀ i, i < R.length → (T i).at_ = lf R i ∧ ∃ x, findO L (lf R i) = some x ∧ GSame (T i) (obG f x)) := Lib.hid (fun i hi => by
    obtain ⟨x, h1, h2⟩ := HSM.out i hi
    exact ⟨h2.1.trans (findO_place h1), x, h1, h2⟩)
  go_region_held3 (fun w' => w'.cell? ⟨w1.heap.size, 0, none⟩ = some (.int .i64 0) ∧ w'.cell? ⟨w1.heap.size, 1, none⟩ = some (.slice a1 R.length c1) ∧ w'.cell? ⟨w1.heap.size, 2, none⟩ = some (.map (some mb)) ∧ w'.cell? ⟨cb, 0, none⟩ = some (.int .i64 (m : Int)) ∧ w'.cell? ⟨cb, 1, none⟩ = some (.slice (some ⟨g, q, none⟩) (2 * m) c3) ∧ w'.cell? ⟨cb, 2, none⟩ = some (.int .i64 (1 - ac)) ∧ w'.cell? ⟨cb, 3, none⟩ = some (.int .i64 0))
    (first | (with_reducible exact three_four X_4.out C_4.out) | (with_reducible exact three_four Xd.out Cd.out) | (with_reducible exact three_four X_5.out C_5.out) | (with_reducible exact three_four X_6.out C_6.out))
    (first | (go_at_call 60; (refine (baseOf_eq (P : Int) (m : Int) (1 - ac) 0 (some ⟨g, q, none⟩) (2 * m) c3 _ HP.out g1 g2 (by omega) (by omega)).mono ?_; rintro e w5 ⟨rfl, hb⟩; have HB5 := Lib.hid (thru0 HDR.out hb); have X_5 := Lib.hid (Xd.out.below hb); have C_5 := Lib.hid (Cd.out.below hb); have HG5 := Lib.hid (HGd.out.below hb); have z5 := hb.size; clear hb)) | (go_at_call 59; (refine (placesFrom_any 0 (.map (some mb)) a1 R c1 P T L f _ HG5.out hrl HND.out HOT.out HRI.out.ok HPL.out HSUB.out (by omega)).mono ?_; rintro e w6 ⟨mb6, nn6, rfl, hm6, hlo6, hb⟩; have HB6 := Lib.hid (thru0 HB5.out hb); have X_6 := Lib.hid (X_5.out.below hb); have C_6 := Lib.hid (C_5.out.below hb); have HG6 := Lib.hid (HG5.out.below hb); have HM6 := Lib.hid hm6; have z6 := hb.size; clear hb hm6)))
  have hz26 : w2.heap.size ≤ w6.heap.size := by have : w4.heap.size ≤ w5.heap.size := by simpa using z5
                                                omega
  have HB26 := Lib.hid (HB24.out.trans (HB6.out.mono HB24.out.size))
  have HVB : Hid (∀ p, 0 ≤ (tab R (fun i => (placeAt P X i : Int)) p).getD 0 ∧ (tab R (fun i => (placeAt P X i : Int)) p).getD 0 ≤ 1000000) := Lib.hid (tab_bound (by omega) (fun i => by have := placeAt_top P X i; constructor <;> omega))
  rw [HX.out] at HM6
  have HO6 := Lib.hid (HO4.out.below HB6.out)
  have HMVT : Hid (∀ i, i < R.length → Movable w6 R (fun i => (placeAt P X i : Int)) (T i)) := Lib.hid (fun i hi => by
    obtain ⟨x, h1, h2⟩ := HSM.out i hi
    obtain ⟨b9, q9, e9, l9, s9⟩ := gv_get HG6.out hi
    refine HMVB.out w6 (T i) _ _ (lf_mem hi) x h1 h2 ?_
    rcases HG6.out with h0 | ⟨b8, q8, e8, hsrc⟩
    · omega
    · exact hsrc.flds i hi)
  have lX6 := X_6.out.1; have cX1 := X_6.out.at 1 rfl
  clear X_4 C_4 Xd Cd HDR HGd X_5 C_5 HG5 HB5 HO4
  go_wp2_with fail
  refine (movedAll_any a1 R.length c1 mb6 nn6 T R (fun i => (placeAt P X i : Int)) _ HG6.out hrl HM6.out HMVT.out HVB.out).mono ?_
  rintro e w7 ⟨a7, c7, U, rfl, hgv, hsm7, hb⟩
  have HB7 := Lib.hid hb
  have HU7 := Lib.hid hgv
  have HSU := Lib.hid hsm7
  have z7 := hb.size
  have HP7 : Hid (PW w7 w7 g q (2 * m) (fun _ => 0)) := Lib.hid ⟨Keeps.refl _ _ _, HO6.out.below hb⟩
  have X_7 := Lib.hid (X_6.out.below hb); have C_7 := Lib.hid (C_6.out.below hb); have HG7 := Lib.hid (HG6.out.below hb); have HM7 := Lib.hid (HM6.out.below hb)
  have HB27 := Lib.hid (HB26.out.trans (hb.mono hz26))
  have HWU : Hid (∀ i, i < R.length → ∀ hi' : i < X.length, ∃ x, x ∈ L ∧ X[i] = x ∧ (U i).at_ = (placeAt P X i : Int) ∧ (U i).s = x.s ∧ (U i).m = x.m ∧ (U i).o = x.o ∧ (U i).h = x.h ∧ (U i).n = x.s.toNat ∧ ∀ d, d < wordsO x → cat 2 (two (1 + 2 * (x.s + 16 * (x.m + 4096 * x.o))) x.h) (U i).f d = colAt f R P X x d) := Lib.hid (fun i hi hi' => by
    obtain ⟨x, h1, h2⟩ := HSM.out i hi
    exact ⟨x, List.mem_of_find?_eq_some h1, HMV.out (T i) (U i) i hi hi' x h1 h2 (HSU.out i hi)⟩)
  clear hb hgv hsm7 X_6 C_6 HG6 HM6 HO6 HMVT lX6 cX1 HB6 HMV HMVB
  have hgcb : g < cb := by omega
  have hcb7 : cb < w6.heap.size := by have : w4.heap.size ≤ w5.heap.size := by simpa using z5
                                      omega
  have hg6 : g + 1 ≤ w6.heap.size := by omega
  have hmb6 : g + 1 ≤ mb6 := by have : w4.heap.size ≤ w5.heap.size := by simpa using z5
                                omega
  have hmbc : cb < mb6 := by have : w4.heap.size ≤ w5.heap.size := by simpa using z5
                             omega
  have hON0 : Hid (ColOn f R P X (fun j _ => j < 0) (fun _ => 0)) := Lib.hid (colOn_zero.less (fun j d _ _ h => by omega))
  go_wp2
  go_loopw [32] (fun p wr => ∃ (i : Nat) (G : Nat → Int), i ≤ R.length ∧ p = .int .i64 (i : Int) ∧ Hid (PW w7 wr g q (2 * m) G) ∧ Hid (ColOn f R P X (fun j _ => j < i) G)) (fun p _ => R.length - (intOf p).toNat)
  case atStart => exact ⟨0, _, by omega, rfl, HP7, hON0⟩
  case round =>
    clear HP7 hON0
    obtain ⟨i, G, hi, rfl, HPW, HON⟩ := hrel
    have hzr := HPW.out.kp.size
    have C_r := Lib.hid (C_7.out.keeps HPW.out.kp (.inr (by omega)))
    by_cases hlt : i < R.length
    · have hlt' : (i : Int) < (R.length : Int) := by omega
      have hi0 : (0 : Int) ≤ (i : Int) := by omega
      have hiX : i < X.length := by rw [HLEN.out]; exact hlt
      have HUr := Lib.hid (HU7.out.keeps HPW.out.kp hg6)
      obtain ⟨b7, q7, rfl, lb7, hsix⟩ := gv_get HUr.out.gv hlt
      obtain ⟨x, hxL, hXx, u1, u2, u3, u4, u5, u6, u7⟩ := HWU.out i hlt hiX
      have hSF : Src wr (U i).a (U i).n (U i).f := by
        rcases HUr.out.gv with h0 | ⟨b8, q8, e8, hsrc⟩
        · omega
        · exact hsrc.flds i hlt
      have hxok := HRI.out.ok x hxL
      have hend := placeAt_end P X hiX
      have HWO : Hid (wordsO X[i] = 2 + x.s.toNat) := Lib.hid (by rw [hXx]; rfl)
      rw [HWO.out] at hend
      have HOKU : Hid (HOk (U i).s (U i).m (U i).o (U i).h) := Lib.hid (by rw [u2, u3, u4, u5]; exact hxok.1)
      have hs12 : x.s.toNat ≤ 12 := by have := hxok.1.1; omega
      have hn12 : (U i).n ≤ 12 := by rw [u6]; exact hs12
      have hK400 : placeAt P X i + 2 + (U i).n ≤ 2 * m := by rw [u6]; omega
      have HWD : Hid (∀ d, d < wordsO X[i] → cat 2 (two (1 + 2 * ((U i).s + 16 * ((U i).m + 4096 * (U i).o))) (U i).h) (U i).f d = colAt f R P X X[i] d) := Lib.hid (fun d hd => by rw [u2, u3, u4, u5, hXx]; rw [hXx] at hd; exact u7 d hd)
      have HWN : Hid (wordsO X[i] = 2 + (U i).n) := Lib.hid (by rw [HWO.out, u6])
      obtain ⟨K, hK⟩ : ∃ K, placeAt P X i = K := ⟨_, rfl⟩
      rw [hK] at u1 hend hK400
      have HKK := Lib.hid hK
      have HUA := Lib.hid u1
      clear u1 u2 u3 u4 u5 u6 u7 hXx hK hxok HUr
      generalize U i = t at *
      have X9 := Lib.hid (Blk.new_at (w := wr) (cs := #[.int .i64 t.at_, .int .i64 t.s, .int .i64 t.m, .int .i64 t.o, .int .i64 t.h, .slice t.a t.n t.c]) (t := 111) wr.heap.size rfl)
      have hA9 := (Below.refl wr.heap.size wr).alloc (Nat.le_refl _) (.cells #[.int .i64 t.at_, .int .i64 t.s, .int .i64 t.m, .int .i64 t.o, .int .i64 t.h, .slice t.a t.n t.c] 111)
      have HPA := Lib.hid (HPW.out.below hA9)
      have C_9 := Lib.hid (C_r.out.below hA9)
      have S_9 := Lib.hid (hSF.below hA9)
      have z9 : wr.heap.size + 1 = (wr.alloc (.cells #[.int .i64 t.at_, .int .i64 t.s, .int .i64 t.m, .int .i64 t.o, .int .i64 t.h, .slice t.a t.n t.c] 111)).heap.size := by simp
      clear hA9 hSF
      obtain ⟨s0, s1, s2, s3, s4, s5⟩ := hsix
      have hfi := fld_irs
      go_wp2_with fail
      clear s0 s1 s2 s3 s4 s5
      generalize wr.alloc (.cells #[.int .i64 t.at_, .int .i64 t.s, .int .i64 t.m, .int .i64 t.o, .int .i64 t.h, .slice t.a t.n t.c] 111) = wa at *
      have X9d := Lib.hid X9.out.drew; have HPd := Lib.hid (HPA.out.below (Below.refl _ _).drew); have C9d := Lib.hid C_9.out.drew; have S9d := Lib.hid S_9.out.drew
      have zd : wr.heap.size + 1 = wa.drew.heap.size := by simpa using z9
      go_region_held3 (fun w' => w'.cell? ⟨wr.heap.size, 1, none⟩ = some (.int .i64 t.s) ∧ w'.cell? ⟨wr.heap.size, 2, none⟩ = some (.int .i64 t.m) ∧ w'.cell? ⟨wr.heap.size, 3, none⟩ = some (.int .i64 t.o) ∧ w'.cell? ⟨wr.heap.size, 4, none⟩ = some (.int .i64 t.h) ∧ w'.cell? ⟨wr.heap.size, 5, none⟩ = some (.slice t.a t.n t.c))
        (first | (with_reducible exact five_t X9.out) | (with_reducible exact five_t X9d.out) | (with_reducible exact five_t X_b.out) | (with_reducible exact five_t X_bb.out) | (with_reducible exact five_t X_c.out))
        (first | (go_at_call 63; (refine (implPH_any t.s t.m t.o t.h 0 2 _ _ (.inl ⟨HOKU.out, rfl, rfl, rfl⟩)).mono ?_; rintro e wb ⟨pa, pc, rfl, hpo, hb⟩; have HPB := Lib.hid (HPd.out.below hb); have X_b := Lib.hid (X9d.out.below hb); have C_b := Lib.hid (C9d.out.below hb); have S_b := Lib.hid ((S9d.out.below hb).alloc (.cells #[.slice pa 2 pc, .slice t.a t.n t.c] 24)); have HPO := Lib.hid (hpo.src.alloc (.cells #[.slice pa 2 pc, .slice t.a t.n t.c] 24)); have q0 := Lib.hid (Blk.new_at (w := wb) (cs := #[.slice pa 2 pc, .slice t.a t.n t.c]) (t := 24) wb.heap.size rfl); have X_bb := Lib.hid (X_b.out.alloc (.cells #[.slice pa 2 pc, .slice t.a t.n t.c] 24)); have zb := hb.size; clear hb hpo)) | (go_at_call 62; (refine (concat_opt wb.heap.size pa t.a 2 t.n pc t.c (two (1 + 2 * (t.s + 16 * (t.m + 4096 * t.o))) t.h) t.f _ (by simp) (q0.out.at 0 rfl) (q0.out.at 1 rfl) HPO.out S_b.out (by omega) (by omega) (by omega)).mono ?_; rintro e wc ⟨pa2, pc2, rfl, ho2, hb, hpc1, hpc2, _⟩; have hbc := ((Below.refl wb.heap.size wb).alloc (Nat.le_refl _) (.cells #[.slice pa 2 pc, .slice t.a t.n t.c] 24)).trans (hb.mono (by simp)); have HPC := Lib.hid (HPB.out.below hbc); have X_c := Lib.hid (X_b.out.below hbc); have C_c := Lib.hid (C_b.out.below hbc); have HO2 := Lib.hid ho2.src; have zc := hbc.size; clear hb hbc ho2)))
      have hz7c : w7.heap.size ≤ wc.heap.size := HPC.out.kp.size
      obtain ⟨pb2, pf2, rfl, lpb2, hpc⟩ : ∃ b o, pa2 = some ⟨b, o, none⟩ ∧ b < wc.heap.size ∧ ∀ k, k < 2 + t.n → wc.cell? ⟨b, o + k, none⟩ = some (.int .i64 (cat 2 (two (1 + 2 * (t.s + 16 * (t.m + 4096 * t.o))) t.h) t.f k)) := by
        rcases HO2.out with h0 | h0
        · omega
        · exact h0
      obtain ⟨F, hF⟩ : ∃ F, cat 2 (two (1 + 2 * (t.s + 16 * (t.m + 4096 * t.o))) t.h) t.f = F := ⟨_, rfl⟩
      rw [hF] at hpc HWD
      have hcells := own_get HPC.out.wrd.out (by omega)
      have hsrc : Hid (∀ (j : Nat) (v : Value), (nums (2 + t.n) F)[j]? = some v → wc.cell? ((⟨pb2, pf2, none⟩ : Addr).add j) = some v) := Lib.hid (news_at hpc)
      have hcc : Hid (∀ j, j < (nums (2 + t.n) F).length → (wc.cell? ⟨g, q + K + j, none⟩).isSome = true) := Lib.hid (fun j hj => by
        rw [nums_length] at hj
        have := (hcells.2 (K + j) (by omega)).1
        rw [Nat.add_assoc, this]; rfl)
      have hff : Hid (∀ j, j < (nums (2 + t.n) F).length → wc.frozen? ⟨g, q + K + j, none⟩ = false) := Lib.hid (fun j hj => by
        rw [nums_length] at hj
        have := (hcells.2 (K + j) (by omega)).2
        rw [Nat.add_assoc]; exact this)
      have hmin : Hid ((nums (2 + t.n) F).length = Nat.min (2 + t.n) (2 * m - K)) := Lib.hid (by rw [nums_length]; show 2 + t.n = min (2 + t.n) (2 * m - K); omega)
      have HPN : Hid (PW w7 (wc.setCells g (q + K) (nums (2 + t.n) F)) g q (2 * m) (fun i => if K ≤ i ∧ i < K + (2 + t.n) then F (i - K) else G i)) := Lib.hid ⟨keeps_copy (Nat.le_refl _) (Nat.lt_succ_self _) _ _ _ HPC.out.kp, own_copy HPC.out.wrd K (2 + t.n) F (by omega)⟩
      have HONN : Hid (ColOn f R P X (fun j _ => j < i + 1) (fun i => if K ≤ i ∧ i < K + (2 + t.n) then F (i - K) else G i)) := Lib.hid (by
        refine (HON.out.obj hiX (fun d hd => ?_) (fun k hk => ?_)).less (fun j d _ _ h => by omega)
        · rw [HWN.out] at hd
          rw [HKK.out]
          rw [if_pos ⟨by omega, by omega⟩, show K + d - K = d by omega]
          exact HWD.out d (by rw [HWN.out]; exact hd)
        · rw [HKK.out, HWN.out] at hk
          exact if_neg hk)
      have HRM1 := HRM.out.1
      have hK0 : (0 : Int) ≤ (K : Int) := by omega
      have hKc2 : (K : Int) ≤ 2 * (m : Int) := by omega
      have hKc1 : (K : Int) ≤ ((2 * m : Nat) : Int) := by omega
      have hKtc : ¬ c3 = K := by have h9 : 2 * m ≤ c3 := HRM1
                                 omega
      have lC := C_c.out.1; have cC1 := C_c.out.at 1 rfl
      have lT := X_c.out.1; have cT0 := X_c.out.at 0 rfl
      rw [HUA.out] at cT0
      clear hpc hcells hF HRM1 X9 X9d HPA HPd C_9 C9d S_9 S9d HPB X_b C_b S_b HPO q0 X_bb
      go_wp2_with (with_reducible refine wpList_copy_cells rfl (.tmp 48) (.tmp 49) 24 24 rfl 2 Try.underlying24 (by kernel_rfl) g (q + K) (2 * m - K) (c3 - K) ⟨pb2, pf2, none⟩ (2 + t.n) pc2 rfl rfl (nums (2 + t.n) F) hmin.out hsrc.out hcc.out hff.out (nums_one _ _) ?_)
      clear hsrc hcc hff hmin lC cC1 lT cT0
      generalize wc.setCells g (q + K) (nums (2 + t.n) F) = we at *
      go_roundw
      case rel => first | exact ⟨i + 1, _, by omega, by go_num, HPN, HONN⟩ | ((repeat apply Exists.intro); exact ⟨⟨i + 1, _, by omega, by go_num, HPN, HONN⟩, rfl⟩)
      case measure => simp [intOf]; omega
    · have hlt' : ¬ (i : Int) < (R.length : Int) := by omega
      obtain rfl : i = R.length := by omega
      have HCOL : Hid (IsCol f L R P G) := Lib.hid (isCol_of (by rw [HX.out]; exact HON.out.less (fun j d hj _ _ => by have := HLEN.out; omega)))
      have hBr := HPW.out.kp.below (B := w2.heap.size) hgl (by omega)
      have HBr := Lib.hid (HB27.out.trans hBr)
      have HWr := Lib.hid HPW.out.wrd
      have X_r := Lib.hid (X_7.out.keeps HPW.out.kp (.inl (by omega)))
      have HGr := Lib.hid (HG2.out.below (HB27.out.trans hBr))
      have HMr := Lib.hid (HM7.out.keeps HPW.out.kp (.inr hmb6))
      have R_r := Lib.hid ((R_2.out.below HB27.out).keeps HPW.out.kp (.inl (by omega)))
      have lX := X_r.out.1; have cX0 := X_r.out.at 0 rfl; have cX1 := X_r.out.at 1 rfl; have cX2 := X_r.out.at 2 rfl
      have hzr2 := HBr.out.size
      clear hBr HPW HON
      go_wp2_with fail
      refine (words_any 0 (.map (some mb)) a1 R c1 T L f _ HGr.out hrl HSM.out HRI.out.ok).mono ?_
      rintro e wk ⟨rfl, hb⟩
      rw [← HTO.out]
      have C_k := Lib.hid (C_r.out.below hb)
      have HBk := Lib.hid (HBr.out.trans (hb.mono HBr.out.size))
      have HWk := Lib.hid (HWr.out.below hb)
      have HMk := Lib.hid (HMr.out.below hb)
      have R_k := Lib.hid (R_r.out.below hb)
      have hzk := hb.size
      have C_S := Lib.hid (C_k.out.set 3 (by simp) (.int .i64 ((totO X : Nat) : Int)))
      have HBS := Lib.hid (HBk.out.setCell (p := ⟨cb, 3, none⟩) (by show w2.heap.size ≤ cb; omega) (.int .i64 ((totO X : Nat) : Int)))
      have HWS := Lib.hid (HWk.out.setCell (p := ⟨cb, 3, none⟩) (.inr (by show g + 1 ≤ cb; omega)) (.int .i64 ((totO X : Nat) : Int)))
      have HMS := Lib.hid (HMk.out.set (p := ⟨cb, 3, none⟩) (by show mb6 ≠ cb; omega) (.int .i64 ((totO X : Nat) : Int)))
      have R_S := Lib.hid (R_k.out.other (p := ⟨cb, 3, none⟩) (by show cb ≠ w.heap.size + 1; omega) (.int .i64 ((totO X : Nat) : Int)))
      have zS : wk.heap.size = (wk.setCell ⟨cb, 3, none⟩ (.int .i64 ((totO X : Nat) : Int))).heap.size := by simp
      have lC := C_k.out.1; have cC3 := C_k.out.at 3 rfl; have fC3 := C_k.out.free 3 rfl
      clear hb lX cX0 cX1 cX2
      go_upto_region 13 with (fail)
      clear lC cC3 fC3 C_k HBk HWk HMk R_k
      dsimp only [List.set] at C_S
      generalize wk.setCell ⟨cb, 3, none⟩ (.int .i64 ((totO X : Nat) : Int)) = wS at *
      have HRSS := Lib.hid ((HRS.out.below HB2.out).below HBS.out)
      have C_d := Lib.hid C_S.out.drew; have R_d := Lib.hid R_S.out.drew; have HM_d := Lib.hid HMS.out.drew; have HR_d := Lib.hid HRSS.out.drew
      have HB_d := Lib.hid HBS.out.drew
      have HW_d := Lib.hid HWS.out.drew
      have zd : wS.heap.size = wS.drew.heap.size := by simp
      have HPLr : Hid (∀ p ∈ roots, 0 ≤ p ∧ p ≤ 1000000) := Lib.hid (fun p hp => place_bound HK.out HO.out (HALL.out p hp))
      have hne : cb ≠ w.heap.size + 1 := by omega
      go_region_held3 (fun w' => w'.cell? ⟨cb, 0, none⟩ = some (.int .i64 (m : Int)) ∧ w'.cell? ⟨cb, 1, none⟩ = some (.slice (some ⟨g, q, none⟩) (2 * m) c3) ∧ w'.cell? ⟨cb, 2, none⟩ = some (.int .i64 (1 - ac)) ∧ w'.cell? ⟨cb, 3, none⟩ = some (.int .i64 ((totO X : Nat) : Int)))
        (first | (with_reducible exact four_c C_S.out) | (with_reducible exact four_c C_d.out) | (with_reducible exact four_c C_t.out) | (exact four_c (blk_seven C_t.out hne _ _ _ _ _ _ _)))
        (first | (go_at_call 65; (refine (movedRoots_any ra roots rc mb6 nn6 R (fun i => (placeAt P X i : Int)) _ HR_d.out (by omega) HM_d.out HPLr.out).mono ?_; rintro e wt ⟨ra2, rc2, rfl, ho2, hb, hrc1, hrc2, _⟩; have HB_t := Lib.hid (HB_d.out.trans (hb.mono (by omega))); have C_t := Lib.hid (C_d.out.below hb); have R_t := Lib.hid (R_d.out.below hb); have HW_t := Lib.hid (HW_d.out.below hb); have HO_t := Lib.hid ho2; have zt := hb.size; clear hb ho2; have lR := R_t.out.1; have cR0 := R_t.out.at 0 rfl; have cR1 := R_t.out.at 1 rfl; have cR2 := R_t.out.at 2 rfl; have cR3 := R_t.out.at 3 rfl; have cR4 := R_t.out.at 4 rfl; have cR5 := R_t.out.at 5 rfl; have cR6 := R_t.out.at 6 rfl; have fR0 := R_t.out.free 0 rfl; have fR1 := R_t.out.free 1 rfl; have fR2 := R_t.out.free 2 rfl; have fR3 := R_t.out.free 3 rfl; have fR4 := R_t.out.free 4 rfl; have fR5 := R_t.out.free 5 rfl; have fR6 := R_t.out.free 6 rfl)))
      have HRL : Hid ((roots.map fun p => (tab R (fun i => (placeAt P X i : Int)) p).getD 0) = roots.map (goes R (newPlaces P X))) := Lib.hid (List.map_congr_left fun p hp => tab_goes HLEN.out (HRR.out p hp))
      rw [HRL.out] at HO_t
      go_wp2
      refine bodyPost_ret (v := .agg #[.int .i64 0, .int .i64 (m : Int), .slice (some ⟨g, q, none⟩) (2 * m) c3, .int .i64 (1 - ac), .int .i64 ((totO X : Nat) : Int), .slice ra2 roots.length rc2, .int .i64 ((totO X : Nat) : Int)]) (by simp [results, Try.results12, go_sem, cR0, cR1, cR2, cR3, cR4, cR5, cR6]) rfl ⟨some ⟨g, q, none⟩, c3, ra2, rc2, wS.heap.size, by simp, ?_, ?_, by omega, by simp; omega, ?_, fun _ => HRM.out⟩
      · have h9 : OwnIn wt g (g + 1) (some ⟨g, q, none⟩) (2 * m) g0 := by
          rcases HW_t.out with h0 | ⟨b, o, e1, e2, e3, e4⟩
          · exact .inl h0
          · exact .inr ⟨b, o, e1, e2, e3, fun k hk => by rw [← isCol_same HCOL.out HG0.out k]; exact e4 k hk⟩
        refine OwnIn.widen (lo := g) (hi := g + 1) ?_ (by omega) (by omega)
        repeat (with_reducible refine OwnIn.setCell ?_ (.inl (by show w.heap.size + 1 < g; omega)) _)
        exact h9
      · show OwnIn _ wS.heap.size _ ra2 (roots.map (goes R (newPlaces P X))).length _
        rw [List.length_map]
        refine OwnIn.widen (lo := wS.heap.size) (hi := wt.heap.size) ?_ (by omega) (by simp)
        repeat (with_reducible refine OwnIn.setCell ?_ (.inl (by show w.heap.size + 1 < wS.heap.size; omega)) _)
        rw [zd]
        exact HO_t.out.into
      · repeat (first | (with_reducible refine Below.setCell ?_ (by (try simp); (try omega)) _) | (with_reducible refine Below.alloc ?_ (by (try simp); (try omega)) _) | (with_reducible refine Below.drew ?_))
        exact HB2.out.trans (HB_t.out.mono HB2.out.size)
end Go.Proofs.Ytbhjmomphajnnaa

