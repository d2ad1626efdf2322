/- Texts merged: BM1 to CM5. -/
import Derived.Test.YtnacdhnnpddccaaPV3
import Derived.Laws.IdiomCopy
import Derived.ScopeJumps
namespace Go.Proofs.Ytnacdhnnpddccaa
open Go.RowKit
set_option linter.unusedVariables false

theorem cells15 {w : World} {b g q n i j : Nat} {F : Nat → Int} {v0 v1 v2 v3 v4 v5 v6 v7 : Value} (h : Blk w b [v0, v1, v2, v3, v4, v5, v6, v7]) (k : Wrd w g q n F) (hi : i < n) (hj : j < n) : w.cell? ⟨b, 1, none⟩ = some v1 ∧ w.cell? ⟨g, q + i, none⟩ = some (.int .i64 (F i)) ∧ w.cell? ⟨g, q + j, none⟩ = some (.int .i64 (F j)) := ⟨h.at 1 rfl, k.cell i hi, k.cell j hj⟩

set_option maxRecDepth 100000 in
set_option maxHeartbeats 3200000 in
theorem l11Places_any (b g q n c N : Nat) (rv : Value) (h ac bu nx sc fr : Int) (F : Nat → Int) (pl : Nat → Nat) (w : World) (hB : Blk w b [.int .i64 h, .slice (some ⟨g, q, none⟩) n c, .int .i64 ac, .int .i64 bu, rv, .int .i64 nx, .int .i64 sc, .int .i64 fr]) (hW : Wrd w g q n F) (hn : n ≤ 400) (hN : N ≤ 400) (hpl : ∀ i, i < N → ∃ x : Ob, ObOk x ∧ F (pl i) = packO x ∧ F (pl i + 1) = x.h ∧ Word (F (pl i)) ∧ pl (i + 1) = pl i + 2 + x.s.toNat ∧ pl i < pl N ∧ pl (i + 1) ≤ n) :
    Calls Try.prog 67 #[.pointer (some ⟨b, 0, none⟩), .int .i64 (pl 0 : Int), .int .i64 (pl N : Int)] w (RetInts w N (fun j => (pl j : Int))) := by
  have B0 := Lib.hid hB; have W0 := Lib.hid hW; have HPL := Lib.hid hpl
  obtain ⟨i0, hif, hz0, hz1, hz2⟩ := info_parts Try.info2
  have lb0 := hB.1; have lg0 := hW.lt
  clear hB hW hpl
  go_enter Try.func67, Try.ntmps67
  go_wp2_with fail
  have HBa : Hid (Below w.heap.size w (w.alloc (.cells #[] 2))) := (Below.refl _ _).alloc (Nat.le_refl _) _
  have OWa : Hid ((w.alloc (.cells #[] 2)).ownsRow w.heap.size 2 1 (.slice (some ⟨w.heap.size, 0, none⟩) 0 0) 0 (nums 0 (fun j => (pl j : Int)))) := World.ownsRow_lit w #[] 0 (Nat.le_refl _) (by simp [maxLen]) rfl
  generalize w.alloc (.cells #[] 2) = wa at *
  go_loopw [7, 8] (fun u s wr => ∃ i : Nat, i ≤ N ∧ s = .int .i64 (pl i : Int) ∧ Hid (Below w.heap.size w wr) ∧ Hid (wr.ownsRow w.heap.size 2 1 u i (nums i (fun j => (pl j : Int))))) (fun _ s _ => pl N - (intOf s).toNat)
  case atStart => exact ⟨0, by omega, rfl, HBa, OWa⟩
  case round =>
   obtain ⟨i, hi, rfl, HBr, OWr⟩ := hrel
   clear HBa OWa
   have hzr := HBr.out.size
   by_cases hlt : i < N
   · obtain ⟨x, hok, e1, e2, hwd, e3, hl, e4⟩ := HPL.out i hlt
     obtain ⟨p, hp⟩ : ∃ p, pl i = p := ⟨_, rfl⟩
     rw [hp] at e1 e2 hwd e3 hl ⊢
     have HP := Lib.hid hp
     obtain ⟨y1, y2, y3, y4⟩ := pack_read hok
     have hro : ROk (F p) (F (p + 1)) := by unfold ROk; rw [e1, e2, y1, y2, y3]; exact ⟨y4, hok.1⟩
     have hF64 : F p ≤ 9223372036854775807 := by unfold Word at hwd; omega
     obtain ⟨sN, hS⟩ : ∃ sN : Nat, x.s = (sN : Int) := ⟨x.s.toNat, by have := hok.1.1.1; omega⟩
     have hsN : sN ≤ 12 := by have := hok.1.1.2; omega
     have hsz : x.s.toNat = sN := by omega
     rw [← e1] at y1 y2 y3
     rw [hS] at y1
     rw [hsz] at e3
     obtain ⟨xo, hxo⟩ : ∃ xo, x.o = xo := ⟨_, rfl⟩
     rw [hxo] at y3
     have HPN := Lib.hid e3
     have hp1 : p < n := by omega
     have hp2 : p + 1 < n := by omega
     have hi0 : (0 : Int) ≤ (p : Int) := by omega
     have hi1 : (p : Int) < (n : Int) := by omega
     have hi2 : (p : Int) + 1 < (n : Int) := by omega
     have hi3 : (0 : Int) ≤ (p : Int) + 1 := by omega
     have ht1 : ((p : Int) + 1).toNat = p + 1 := by omega
     have hwi : IntKind.i64.wrap ((p : Int) + 1) = (p : Int) + 1 := IntWalk.i64_in _ (by omega)
     have hlt' : (p : Int) < (pl N : Int) := by omega
     have hm9 : p + 2 + sN ≤ n := by omega
     have Br := Lib.hid (B0.out.below HBr.out); have Wr := Lib.hid (W0.out.below HBr.out)
     have Bd := Lib.hid Br.out.drew; have Wd := Lib.hid Wr.out.drew
     have HBd : Hid (Below wr.heap.size wr wr.drew) := Lib.hid (Below.refl _ _).drew
     have lb2 := Br.out.1; have lg2 := Wr.out.lt
     have HRO := Lib.hid hro; have HF64 := Lib.hid hF64; have Y1 := Lib.hid y1; have Y2 := Lib.hid y2; have Y3 := Lib.hid y3
     clear hro hF64 y1 y2 y3 y4 hok e1 e2 e3 e4 hwd hS hsz hxo hp hl
     go_upto_region 4 with (fail)
     go_region_held3 (fun w' => w'.cell? ⟨b, 1, none⟩ = some (.slice (some ⟨g, q, none⟩) n c) ∧ w'.cell? ⟨g, q + p, none⟩ = some (.int .i64 (F p)) ∧ w'.cell? ⟨g, q + (p + 1), none⟩ = some (.int .i64 (F (p + 1))))
     (first | (with_reducible exact cells15 Br.out Wr.out hp1 hp2) | (with_reducible exact cells15 Bd.out Wd.out hp1 hp2) | (with_reducible exact cells15 (Br.out.alloc _).drew (Wr.out.alloc _).drew hp1 hp2) | (with_reducible exact cells15 B5.out W5.out hp1 hp2) | (with_reducible exact cells15 (B5.out.alloc _) (W5.out.alloc _) hp1 hp2) | (with_reducible exact cells15 (((((B5.out.other (by (try simp); (try omega)) _).other (by (try simp); (try omega)) _).other (by (try simp); (try omega)) _).other (by (try simp); (try omega)) _)) (((((W5.out.other (by (try simp); (try omega)) _).other (by (try simp); (try omega)) _).other (by (try simp); (try omega)) _).other (by (try simp); (try omega)) _)) hp1 hp2))
     (first | (go_at_call 86; refine (l2Read_yes (F p) (F (p + 1)) _ HF64.out HRO.out).mono ?_; rintro e w5 ⟨s1, m1, o1, h5, rfl, hb, hv⟩; obtain ⟨rfl, rfl, rfl, rfl⟩ := hv (by trivial); have HB5 := Lib.hid (thru0 (below_ext (Below.refl wr.heap.size wr).drew (by first | exact .inl rfl | exact ext_drew _ _ | exact .inr ⟨_, rfl⟩)) hb); have W5 := Lib.hid ((Wd.out.ext (by first | exact .inl rfl | exact ext_drew _ _ | exact .inr ⟨_, rfl⟩)).below hb); have B5 := Lib.hid ((Bd.out.ext (by first | exact .inl rfl | exact ext_drew _ _ | exact .inr ⟨_, rfl⟩)).below hb); have z5 : wr.heap.size ≤ w5.heap.size := (by have := hb.size; simp at this; omega); (first | (have T5 := Lib.hid ((Blk.new_at (w := wr) (cs := #[.int .i64 0, .int .i64 0, .int .i64 0, .int .i64 0]) (t := 85) (wr.heap.size) rfl).drew.below hb)) | skip); clear hb; (first | (have lT := T5.out.1; have cT0 := T5.out.at 0 rfl; have fT0 := T5.out.free 0 rfl; have cT1 := T5.out.at 1 rfl; have fT1 := T5.out.free 1 rfl; have cT2 := T5.out.at 2 rfl; have fT2 := T5.out.free 2 rfl; have cT3 := T5.out.at 3 rfl; have fT3 := T5.out.free 3 rfl) | skip)))
     all_goals (have Y1' := Y1.out; have Y2' := Y2.out; have Y3' := Y3.out)
     all_goals rw [Y1', Y2', Y3'] at *
     all_goals clear Y1 Y2 Y3 Y1' Y2' Y3'
     · refine then_named (fun w6 => Hid (Below wr.heap.size wr w6) ∧ Hid (Blk w6 (w5.heap.size) [.int .i64 (sN : Int), .int .i64 x.m, .int .i64 xo, .int .i64 (F (p + 1))])) ⟨HB5.out.alloc HB5.out.size _, Blk.new_at _ rfl⟩ (fun w6 hF => ?_)
       obtain ⟨HB6, T6⟩ := hF
       have z6 := HB6.out.size
       have T6lt := T6.out.1
       have HW6 := Lib.hid (HBr.out.trans (HB6.out.mono hzr))
       have OW6 := Lib.hid (ownsRow_below OWr.out HB6.out)
       have HNE : Hid (∀ k, u7.ownBlock = some k → k ≠ w5.heap.size ∧ w.heap.size ≤ k) := Lib.hid (fun k hk => ⟨by have := (OWr.out.lt k hk).2; omega, (OWr.out.lt k hk).1⟩)
       have hz6 : w.heap.size ≤ w6.heap.size := by omega
       clear HB5 W5 B5 Wd Bd HBd hv Br Wr HB6 HRO HF64 hwi ht1 hi2 hi3 HBr OWr
       generalize w5.heap.size = hd at *
       go_wp2_with (at_builtin; go_loud (refine wpList_append_lies _ rfl _ _ 22 rfl w.heap.size 2 i0 (.int .i64 0) 1 8 Try.underlying22 hif hz0 hz1 hz2 rfl (by decide) u7 i (nums i (fun j => (pl j : Int))) rfl (OW6.out.alloc _) ⟨w6.heap.size, 0, none⟩ 1 1 [.int .i64 (p : Int)] rfl rfl (news1b w6 (p : Int) (w6.heap.size) (by simp)) (by intro u hu; simp only [List.mem_cons, List.mem_nil_iff, or_false] at hu; subst hu; rfl) (by omega) (by unfold maxLen; omega) (by omega) (by simp; omega) (w6.heap.size + 1) (by simp) ?_); intro g9 cap9 w9 hown9 hgrow9 hat9 hlt9)
       have HB9 : Hid (Below w.heap.size w w9) := (HW6.out.alloc hz6 _).grown hgrow9 (by simp; omega) (fun k hk => (HNE.out k hk).2)
       have OW9 : Hid (w9.ownsRow w.heap.size 2 1 (.slice (some ⟨g9, 0, none⟩) (i + 1) cap9) (i + 1) (nums (i + 1) (fun j => (pl j : Int)))) := Lib.hid (by rw [nums_succ, HP.out]; exact hown9)
       have T9 := Lib.hid (blk_grown (T6.out.alloc (.cells #[.int .i64 (p : Int)] 2)) hgrow9 (fun e => (HNE.out _ e).1 rfl))
       clear hown9 hgrow9 hat9 T6
       go_wp2_with fail
       refine (l2Words_any hd (sN : Int) x.m xo _ _ T9.out ⟨by omega, by omega⟩).mono ?_
       rintro e w' ⟨rfl, rfl⟩
       go_wp2
       go_roundw
       case rel => first | exact ⟨i + 1, by omega, by rw [HPN.out]; go_num, HB9, OW9⟩ | ((repeat apply Exists.intro); exact ⟨⟨i + 1, by omega, by rw [HPN.out]; go_num, HB9, OW9⟩, rfl⟩)
       case measure => simp [intOf]; omega
     · refine then_named (fun w6 => Hid (Below wr.heap.size wr w6) ∧ Hid (Blk w6 (wr.heap.size) [.int .i64 (sN : Int), .int .i64 x.m, .int .i64 xo, .int .i64 (F (p + 1))])) ⟨((((HB5.out.setCell (by (try simp); (try omega)) _).setCell (by (try simp); (try omega)) _).setCell (by (try simp); (try omega)) _).setCell (by (try simp); (try omega)) _), ((((T5.out.set 0 (by simp) _).set 1 (by simp) _).set 2 (by simp) _).set 3 (by simp) _)⟩ (fun w6 hF => ?_)
       clear T5 lT cT0 fT0 cT1 fT1 cT2 fT2 cT3 fT3
       obtain ⟨HB6, T6⟩ := hF
       have z6 := HB6.out.size
       have T6lt := T6.out.1
       have HW6 := Lib.hid (HBr.out.trans (HB6.out.mono hzr))
       have OW6 := Lib.hid (ownsRow_below OWr.out HB6.out)
       have HNE : Hid (∀ k, u7.ownBlock = some k → k ≠ wr.heap.size ∧ w.heap.size ≤ k) := Lib.hid (fun k hk => ⟨by have := (OWr.out.lt k hk).2; omega, (OWr.out.lt k hk).1⟩)
       have hz6 : w.heap.size ≤ w6.heap.size := by omega
       clear HB5 W5 B5 Wd Bd HBd hv Br Wr HB6 HRO HF64 hwi ht1 hi2 hi3 HBr OWr
       generalize wr.heap.size = hd at *
       go_wp2_with (at_builtin; go_loud (refine wpList_append_lies _ rfl _ _ 22 rfl w.heap.size 2 i0 (.int .i64 0) 1 8 Try.underlying22 hif hz0 hz1 hz2 rfl (by decide) u7 i (nums i (fun j => (pl j : Int))) rfl (OW6.out.alloc _) ⟨w6.heap.size, 0, none⟩ 1 1 [.int .i64 (p : Int)] rfl rfl (news1b w6 (p : Int) (w6.heap.size) (by simp)) (by intro u hu; simp only [List.mem_cons, List.mem_nil_iff, or_false] at hu; subst hu; rfl) (by omega) (by unfold maxLen; omega) (by omega) (by simp; omega) (w6.heap.size + 1) (by simp) ?_); intro g9 cap9 w9 hown9 hgrow9 hat9 hlt9)
       have HB9 : Hid (Below w.heap.size w w9) := (HW6.out.alloc hz6 _).grown hgrow9 (by simp; omega) (fun k hk => (HNE.out k hk).2)
       have OW9 : Hid (w9.ownsRow w.heap.size 2 1 (.slice (some ⟨g9, 0, none⟩) (i + 1) cap9) (i + 1) (nums (i + 1) (fun j => (pl j : Int)))) := Lib.hid (by rw [nums_succ, HP.out]; exact hown9)
       have T9 := Lib.hid (blk_grown (T6.out.alloc (.cells #[.int .i64 (p : Int)] 2)) hgrow9 (fun e => (HNE.out _ e).1 rfl))
       clear hown9 hgrow9 hat9 T6
       go_wp2_with fail
       refine (l2Words_any hd (sN : Int) x.m xo _ _ T9.out ⟨by omega, by omega⟩).mono ?_
       rintro e w' ⟨rfl, rfl⟩
       go_wp2
       go_roundw
       case rel => first | exact ⟨i + 1, by omega, by rw [HPN.out]; go_num, HB9, OW9⟩ | ((repeat apply Exists.intro); exact ⟨⟨i + 1, by omega, by rw [HPN.out]; go_num, HB9, OW9⟩, rfl⟩)
       case measure => simp [intOf]; omega
   · have hie : i = N := by omega
     subst hie
     have hlt' : ¬ (pl i : Int) < (pl i : Int) := by omega
     have HRet := Lib.hid (retInts_of_row OWr.out HBr.out)
     go_wp2
     go_ret
     exact HRet.out
end Go.Proofs.Ytnacdhnnpddccaa

namespace Go.Proofs.Ytnacdhnnpddccaa
open Go.RowKit
set_option linter.unusedVariables false

theorem nanC_any (x : Int) (w : World) : Calls Try.prog 124 #[.int .i64 x] w (RetBool w false) := by
  go_enter Try.func124, Try.ntmps124
  go_wp2
  go_ret
  exact ⟨by simp, Below.refl _ _⟩

theorem nanS_any (x : Int) (w : World) : Calls Try.prog 111 #[.int .i64 x] w (RetBool w false) := by
  go_enter Try.func111, Try.ntmps111
  go_wp2
  go_ret
  exact ⟨by simp, Below.refl _ _⟩

set_option maxRecDepth 100000 in
theorem less_any (x y : Int) (w : World) : Calls Try.prog 110 #[.int .i64 x, .int .i64 y] w (RetBool w (decide (x < y))) := by
  go_enter Try.func110, Try.ntmps110
  go_wp2_with (refine (nanC_any x _).mono ?_; rintro e w1 ⟨rfl, hb⟩; have HB1 := Lib.hid hb; clear hb)
  go_ret
  exact ⟨rfl, HB1.out⟩

/-- The search stands between two places. -/
def CutI (f : Nat → Int) (N : Nat) (x : Int) (lo hi : Nat) : Prop := (∀ j, j < lo → f j < x) ∧ (∀ j, hi ≤ j → j < N → x ≤ f j)

def RetBS (W : World) (N : Nat) (f : Nat → Int) (x : Int) (e : Ending) (w' : World) : Prop := ∃ (i : Nat) (d : Bool), i ≤ N ∧ CutI f N x i i ∧ e = .returned (.tuple #[.int .i64 (i : Int), .bool d]) ∧ Below W.heap.size W w'

set_option maxRecDepth 100000 in
set_option maxHeartbeats 1600000 in
theorem bsi_any (a : Option Addr) (N k : Nat) (f : Nat → Int) (x : Int) (w : World) (hs : Src w a N f) (hN : N ≤ 1048576) (hm : ∀ i j, i < j → j < N → f i < f j) :
    Calls Try.prog 93 #[.slice a N k, .int .i64 x] w (RetBS w N f x) := by
  have S := Lib.hid hs; have HM := Lib.hid hm
  clear hs hm
  go_enter Try.func93, Try.ntmps93
  go_wp2
  go_loopw [7, 8] (fun p r wr => ∃ lo hi : Nat, p = .int .i64 (lo : Int) ∧ r = .int .i64 (hi : Int) ∧ lo ≤ hi ∧ hi ≤ N ∧ Hid (CutI f N x lo hi) ∧ Hid (Below w.heap.size w wr)) (fun p r _ => (intOf r).toNat - (intOf p).toNat)
  case atStart => exact ⟨0, N, rfl, rfl, Nat.zero_le _, Nat.le_refl _, ⟨fun j hj => by omega, fun j h1 h2 => by omega⟩, Below.refl _ _⟩
  case round =>
    obtain ⟨lo, hi, rfl, rfl, hlh, hin, HC, HBr⟩ := hrel
    by_cases hlt : lo < hi
    · have hlt' : (lo : Int) < (hi : Int) := by omega
      obtain ⟨b, q, rfl, hb, hc⟩ := src_some (S.out.below HBr.out) (by omega)
      have c1 := hc ((lo + hi) / 2) (by omega)
      clear hc
      by_cases hx : f ((lo + hi) / 2) < x
      · have C1 : Hid (CutI f N x ((lo + hi) / 2 + 1) hi) := Lib.hid ⟨fun j hj => by
          rcases Nat.lt_or_ge j ((lo + hi) / 2) with h | h
          · exact Int.lt_trans (HM.out j _ h (by omega)) hx
          · rw [show j = (lo + hi) / 2 by omega]; exact hx, HC.out.2⟩
        have hd := Lib.hid (decide_eq_true hx)
        clear hx HC
        go_wp2_with (refine (less_any (f ((lo + hi) / 2)) x _).mono ?_; rintro e w1 ⟨rfl, hb1⟩; rw [hd.out]; have HB1 := Lib.hid (thru0 HBr.out hb1); clear hb1)
        clear c1
        go_roundw
        case measure => simp [intOf]; omega
        case rel => exact ⟨(lo + hi) / 2 + 1, hi, by go_num, rfl, by omega, hin, C1, HB1⟩
      · have C1 : Hid (CutI f N x lo ((lo + hi) / 2)) := Lib.hid ⟨HC.out.1, fun j h1 h2 => by
          rcases Nat.lt_or_ge ((lo + hi) / 2) j with h | h
          · exact Int.le_of_lt (Int.lt_of_le_of_lt (by omega) (HM.out _ j h h2))
          · rw [show j = (lo + hi) / 2 by omega]; omega⟩
        have hd := Lib.hid (decide_eq_false hx)
        clear hx HC
        go_wp2_with (refine (less_any (f ((lo + hi) / 2)) x _).mono ?_; rintro e w1 ⟨rfl, hb1⟩; rw [hd.out]; have HB1 := Lib.hid (thru0 HBr.out hb1); clear hb1)
        clear c1
        go_roundw
        case measure => simp [intOf]; omega
        case rel => exact ⟨lo, (lo + hi) / 2, rfl, by go_num, by omega, by omega, C1, HB1⟩
    · obtain rfl : hi = lo := by omega
      have hlt' : ¬ (hi : Int) < (hi : Int) := by omega
      by_cases hn : hi < N
      · have hn' : (hi : Int) < (N : Int) := by omega
        obtain ⟨b, q, rfl, hb, hc⟩ := src_some (S.out.below HBr.out) (by omega)
        have c1 := hc hi hn
        clear hc
        go_wp2_with (refine (nanS_any _ _).mono ?_; rintro e w1 ⟨rfl, hb1⟩; have HB1 := Lib.hid (thru0 HBr.out hb1); clear hb1)
        all_goals go_ret2
        all_goals first | exact ⟨hi, _, hin, HC.out, rfl, HB1.out⟩ | exact ⟨hi, _, hin, HC.out, rfl, HBr.out⟩
      · have hn' : ¬ (hi : Int) < (N : Int) := by omega
        go_wp2
        go_ret2
        exact ⟨hi, _, hin, HC.out, rfl, HBr.out⟩
end Go.Proofs.Ytnacdhnnpddccaa

namespace Go.Proofs.Ytnacdhnnpddccaa
open Go.RowKit
set_option linter.unusedVariables false

/-- A code and a row of the call's own. -/
def RetIR (W : World) (c : Int) (n : Nat) (f : Nat → Int) (e : Ending) (w' : World) : Prop :=
  ∃ a cap, e = .returned (.agg #[.int .i64 c, .slice a n cap]) ∧ Own w' W.heap.size a n f ∧ Below W.heap.size W w'
end Go.Proofs.Ytnacdhnnpddccaa

namespace Go.Proofs.Ytnacdhnnpddccaa
open Go.RowKit
set_option linter.unusedVariables false

/-- The six cells of an object are written. -/
def sixW (w : World) (b o : Nat) (t : GM) : World := ((((((w.setCell ⟨b, o, none⟩ (.int .i64 t.at_)).setCell ⟨b, o + 1, none⟩ (.int .i64 t.s)).setCell ⟨b, o + 2, none⟩ (.int .i64 t.m)).setCell ⟨b, o + 3, none⟩ (.int .i64 t.o)).setCell ⟨b, o + 4, none⟩ (.int .i64 t.h)).setCell ⟨b, o + 5, none⟩ (.slice t.a t.n t.c))

theorem sixW_at {w : World} {b o : Nat} {t0 : GM} (h : SixG w b o t0) (t : GM) : SixG (sixW w b o t) b o t := by
  obtain ⟨x0, x1, x2, x3, x4, x5⟩ := h
  simp [sixW, SixG, x0, x1, x2, x3, x4, x5, World.cell?_setCell_other, World.cell?_setCell_same']

theorem sixW_other {w : World} {b o o' : Nat} {u : GM} (h : SixG w b o u) (hd : o + 6 ≤ o' ∨ o' + 6 ≤ o) (t : GM) : SixG (sixW w b o' t) b o u := by
  have g : ∀ x, x < 6 → ∀ y, y < 6 → (⟨b, o' + y, none⟩ : Addr) ≠ ⟨b, o + x, none⟩ := fun x hx y hy e => by simp at e; try omega
  have k : ∀ x, x < 6 → (sixW w b o' t).cell? ⟨b, o + x, none⟩ = w.cell? ⟨b, o + x, none⟩ := fun x hx => by
    unfold sixW
    rw [World.cell?_setCell_other _ _ _ _ (g x hx 5 (by omega)), World.cell?_setCell_other _ _ _ _ (g x hx 4 (by omega)), World.cell?_setCell_other _ _ _ _ (g x hx 3 (by omega)), World.cell?_setCell_other _ _ _ _ (g x hx 2 (by omega)), World.cell?_setCell_other _ _ _ _ (g x hx 1 (by omega)), World.cell?_setCell_other _ _ _ _ (show (⟨b, o', none⟩ : Addr) ≠ ⟨b, o + x, none⟩ from g x hx 0 (by omega))]
  exact ⟨(k 0 (by omega)).trans h.1, (k 1 (by omega)).trans h.2.1, (k 2 (by omega)).trans h.2.2.1, (k 3 (by omega)).trans h.2.2.2.1, (k 4 (by omega)).trans h.2.2.2.2.1, (k 5 (by omega)).trans h.2.2.2.2.2⟩

theorem sixW_frozen (w : World) (b o : Nat) (t : GM) (p : Addr) : (sixW w b o t).frozen? p = w.frozen? p := by simp [sixW, World.frozen?_setCell]

theorem sixW_keeps (w : World) (b o : Nat) (t : GM) : Keeps w (sixW w b o t) b (b + 1) := by
  unfold sixW
  refine Keeps.trans ?_ (keeps_setCell (p := ⟨b, o + 5, none⟩) (Nat.le_refl b) (Nat.lt_succ_self b) _)
  refine Keeps.trans ?_ (keeps_setCell (p := ⟨b, o + 4, none⟩) (Nat.le_refl b) (Nat.lt_succ_self b) _)
  refine Keeps.trans ?_ (keeps_setCell (p := ⟨b, o + 3, none⟩) (Nat.le_refl b) (Nat.lt_succ_self b) _)
  refine Keeps.trans ?_ (keeps_setCell (p := ⟨b, o + 2, none⟩) (Nat.le_refl b) (Nat.lt_succ_self b) _)
  refine Keeps.trans ?_ (keeps_setCell (p := ⟨b, o + 1, none⟩) (Nat.le_refl b) (Nat.lt_succ_self b) _)
  refine Keeps.trans ?_ (keeps_setCell (p := ⟨b, o, none⟩) (Nat.le_refl b) (Nat.lt_succ_self b) _)
  exact Keeps.refl _ _ _
end Go.Proofs.Ytnacdhnnpddccaa

namespace Go.Proofs.Ytnacdhnnpddccaa
open Go.RowKit
set_option linter.unusedVariables false

theorem l3Objs_any (b : Nat) (h ac bu : Int) (a : Option Addr) (n c : Nat) (f : Nat → Int) (L : List Ob) (w : World) (hB : Blk w b [.int .i64 h, .slice a n c, .int .i64 ac, .int .i64 bu]) (hs : Src w a n f) (hcn : n ≤ c) (hcm : c ≤ maxLen) (ho : IsOI h n f ac bu 0 L) :
    Calls Try.prog 59 #[.pointer (some ⟨b, 0, none⟩)] w fun e w' => Below w.heap.size w w' ∧ ∃ v M, L = M.map OM.x ∧ e = .returned (.tuple #[v, .bool true]) ∧ OMS w' w.heap.size w.heap.size f v M := by
  obtain ⟨h4, h5⟩ := isOI_zero ho
  obtain ⟨⟨⟨g1, g2⟩, ⟨g3, g4⟩, g5, g6⟩, gn, gw⟩ := isFault_ok h4
  have hb := baseI_bd (ac := ac) g1
  obtain ⟨P, hP⟩ : ∃ P : Nat, baseI ac h = (P : Int) := ⟨(baseI ac h).toNat, by omega⟩
  obtain ⟨U, rfl⟩ : ∃ U : Nat, bu = (U : Int) := ⟨bu.toNat, by omega⟩
  obtain ⟨ab, ao, rfl, hab, hac⟩ := src_some hs (by omega)
  rw [hP, Int.toNat_natCast, Int.toNat_natCast] at h5
  have hPU : P + U ≤ n := by rcases (by omega : ac = 0 ∨ ac = 1) with rfl | rfl <;> simp [baseI] at hP <;> omega
  have hok := parse_ok h5 hPU gw
  have hln := parse_length (P + U - P) P L (Nat.le_refl _) h5
  refine (l3Objects_any b P U h ac ab ao n c f w hB hs g1 g2 g3 g4 hP hPU (by omega) hcn hcm (fun i hi => by have := gw i hi; unfold Word at this; omega)).mono ?_
  rintro e w' ⟨hb1, hr⟩
  rw [h5] at hr
  refine ⟨hb1, ?_⟩
  obtain ⟨hx, _⟩ | ⟨v, M, hx, rfl, hown, hfl⟩ := hr
  · cases hx
  obtain rfl := Option.some.inj hx
  refine ⟨v, M, rfl, rfl, hown, hfl, by have : M.length = (M.map OM.x).length := (by simp); omega, fun t ht => ?_⟩
  have h9 := hok t.x (List.mem_map_of_mem ht)
  exact ⟨h9.1, h9.2.1, ⟨h9.2.2.2.1.1, by omega⟩, h9.2.2.2.2⟩

/-- What is asked of an arena and roots. -/
def IsAsk (h : Int) (n : Nat) (f : Nat → Int) (ac bu : Int) (roots : List Int) (co : Int) (L : List Ob) : Prop :=
  (IsSF h n f ac bu co ∧ ¬ co = 0) ∨ (IsSF h n f ac bu 0 ∧ 60 < roots.length ∧ co = 2) ∨ (IsSF h n f ac bu 0 ∧ IsOI h n f ac bu 0 L ∧ roots.length ≤ 60 ∧ (∃ p ∈ roots, p ∉ placesO L) ∧ co = 4) ∨ (IsSF h n f ac bu 0 ∧ IsOI h n f ac bu 0 L ∧ roots.length ≤ 60 ∧ (∀ p ∈ roots, p ∈ placesO L) ∧ co = 0)

theorem isAsk_some (h : Int) (n : Nat) (f : Nat → Int) (ac bu : Int) (roots : List Int) : ∃ co L, IsAsk h n f ac bu roots co L := by
  obtain ⟨k, hk⟩ := isSF_some h n f ac bu
  by_cases h0 : k = 0
  · subst h0
    by_cases h1 : 60 < roots.length
    · exact ⟨2, [], .inr (.inl ⟨hk, h1, rfl⟩)⟩
    · obtain ⟨L, hL⟩ := isSF_zero hk
      by_cases h2 : ∀ p ∈ roots, p ∈ placesO L
      · exact ⟨0, L, .inr (.inr (.inr ⟨hk, hL, by omega, h2, rfl⟩))⟩
      · refine ⟨4, L, .inr (.inr (.inl ⟨hk, hL, by omega, ?_, rfl⟩))⟩
        apply Classical.byContradiction
        intro hn
        exact h2 fun p hp => Classical.byContradiction fun hq => hn ⟨p, hp, hq⟩
  · exact ⟨k, [], .inl ⟨hk, h0⟩⟩

theorem isAsk_zero {h : Int} {n : Nat} {f : Nat → Int} {ac bu : Int} {roots : List Int} {L : List Ob} (hk : IsAsk h n f ac bu roots 0 L) : IsSF h n f ac bu 0 ∧ IsOI h n f ac bu 0 L ∧ roots.length ≤ 60 ∧ ∀ p ∈ roots, p ∈ placesO L := by
  rcases hk with ⟨_, h⟩ | ⟨_, _, h⟩ | ⟨_, _, _, _, h⟩ | ⟨h1, h2, h3, h4, _⟩
  · exact absurd rfl h
  · cases h
  · cases h
  · exact ⟨h1, h2, h3, h4⟩

def RetAsk (W : World) (f : Nat → Int) (roots : List Int) (co : Int) (L : List Ob) (e : Ending) (w' : World) : Prop :=
  Below W.heap.size W w' ∧ ((¬ co = 0 ∧ e = .returned (.tuple #[.slice none 0 0, .slice none 0 0, .int .i64 co])) ∨ (co = 0 ∧ ∃ v M a c, L = M.map OM.x ∧ e = .returned (.tuple #[v, .slice a (reachO f L roots).length c, .int .i64 0]) ∧ OMS w' W.heap.size W.heap.size f v M ∧ Own w' W.heap.size a (reachO f L roots).length (lf (reachO f L roots)) ∧ (reachO f L roots).length ≤ c ∧ c ≤ maxLen))

theorem OMS.lo {w : World} {base lo base' lo' : Nat} {f : Nat → Int} {v : Value} {M : List OM} (h : OMS w base lo f v M) (h1 : base' ≤ base) (h2 : lo' ≤ lo) : OMS w base' lo' f v M := by
  refine ⟨?_, ⟨fun t ht => ?_, h.fl.2⟩, h.len, h.ok⟩
  · refine ⟨h.row.1, ?_⟩
    rcases h.row.2 with h0 | ⟨g, cap, cur, e1, e2, e3⟩
    · exact .inl h0
    · exact .inr ⟨g, cap, cur, e1, Nat.le_trans h1 e2, e3⟩
  · obtain ⟨e1, e2⟩ := h.fl.1 t ht
    exact ⟨Nat.le_trans h2 e1, e2⟩

set_option maxRecDepth 100000 in
set_option maxHeartbeats 1600000 in
theorem l4Ask_code (b : Nat) (h ac bu : Int) (a : Option Addr) (n c : Nat) (f : Nat → Int) (ra : Option Addr) (roots : List Int) (rc : Nat) (co : Int) (L : List Ob) (w : World) (hB : Blk w b [.int .i64 h, .slice a n c, .int .i64 ac, .int .i64 bu]) (hs : Src w a n f) (hcn : n ≤ c) (hcm : c ≤ maxLen) (hk : IsSF h n f ac bu co) (h0 : ¬ co = 0) :
    Calls Try.prog 55 #[.pointer (some ⟨b, 0, none⟩), .slice ra roots.length rc] w (RetAsk w f roots co L) := by
  have hd : (co != 0) = true := by simpa using h0
  have HB0 := Lib.hid hB; have HS := Lib.hid hs; have HK := Lib.hid hk; have HCM := Lib.hid hcm; have H0 := Lib.hid h0
  have lb := HB0.out.1; have cb0 := HB0.out.at 0 rfl; have cb1 := HB0.out.at 1 rfl; have cb2 := HB0.out.at 2 rfl; have cb3 := HB0.out.at 3 rfl
  clear hB hs hk hcm h0
  go_enter Try.func55, Try.ntmps55
  go_wp2_with fail
  refine (specSF_any h ac bu a n c f co _ HS.out hcn HCM.out HK.out).mono ?_
  rintro e w1 ⟨rfl, hb⟩
  have HB1 := Lib.hid hb
  clear hb cb0 cb1 cb2 cb3 lb
  go_wp2
  exact bodyPost_ret (v := .tuple #[.slice none 0 0, .slice none 0 0, .int .i64 co]) (by simp [results, Try.results55, go_sem]) rfl ⟨HB1.out, .inl ⟨H0.out, rfl⟩⟩

set_option maxRecDepth 100000 in
set_option maxHeartbeats 1600000 in
theorem l4Ask_many (b : Nat) (h ac bu : Int) (a : Option Addr) (n c : Nat) (f : Nat → Int) (ra : Option Addr) (roots : List Int) (rc : Nat) (L : List Ob) (w : World) (hB : Blk w b [.int .i64 h, .slice a n c, .int .i64 ac, .int .i64 bu]) (hs : Src w a n f) (hcn : n ≤ c) (hcm : c ≤ maxLen) (hk : IsSF h n f ac bu 0) (h0 : 60 < roots.length) :
    Calls Try.prog 55 #[.pointer (some ⟨b, 0, none⟩), .slice ra roots.length rc] w (RetAsk w f roots 2 L) := by
  have hd : (60 : Int) < (roots.length : Int) := by omega
  have HB0 := Lib.hid hB; have HS := Lib.hid hs; have HK := Lib.hid hk; have HCM := Lib.hid hcm
  have lb := HB0.out.1; have cb0 := HB0.out.at 0 rfl; have cb1 := HB0.out.at 1 rfl; have cb2 := HB0.out.at 2 rfl; have cb3 := HB0.out.at 3 rfl
  clear hB hs hk hcm h0
  go_enter Try.func55, Try.ntmps55
  go_wp2_with fail
  refine (specSF_any h ac bu a n c f 0 _ HS.out hcn HCM.out HK.out).mono ?_
  rintro e w1 ⟨rfl, hb⟩
  have HB1 := Lib.hid hb
  clear hb cb0 cb1 cb2 cb3 lb
  go_wp2
  exact bodyPost_ret (v := .tuple #[.slice none 0 0, .slice none 0 0, .int .i64 2]) (by simp [results, Try.results55, go_sem]) rfl ⟨HB1.out, .inl ⟨by decide, rfl⟩⟩

set_option maxRecDepth 100000 in
set_option maxHeartbeats 3200000 in
theorem l4Ask_rest (b : Nat) (h ac bu : Int) (a : Option Addr) (n c : Nat) (f : Nat → Int) (ra : Option Addr) (roots : List Int) (rc : Nat) (co : Int) (L : List Ob) (w : World) (hB : Blk w b [.int .i64 h, .slice a n c, .int .i64 ac, .int .i64 bu]) (hs : Src w a n f) (hcn : n ≤ c) (hcm : c ≤ maxLen) (hrs : Src w ra roots.length (lf roots)) (hk : IsSF h n f ac bu 0) (ho : IsOI h n f ac bu 0 L) (h60 : roots.length ≤ 60) (hco : ((∃ p ∈ roots, p ∉ placesO L) ∧ co = 4) ∨ ((∀ p ∈ roots, p ∈ placesO L) ∧ co = 0)) :
    Calls Try.prog 55 #[.pointer (some ⟨b, 0, none⟩), .slice ra roots.length rc] w (RetAsk w f roots co L) := by
  have hd : ¬ (60 : Int) < (roots.length : Int) := by omega
  have HB0 := Lib.hid hB; have HS := Lib.hid hs; have HK := Lib.hid hk; have HCM := Lib.hid hcm; have HRS := Lib.hid hrs; have HO := Lib.hid ho; have HCO := Lib.hid hco
  have HRI := Lib.hid (right_of hk ho)
  have lb := HB0.out.1; have cb0 := HB0.out.at 0 rfl; have cb1 := HB0.out.at 1 rfl; have cb2 := HB0.out.at 2 rfl; have cb3 := HB0.out.at 3 rfl
  clear hB hs hk hcm hrs ho hco
  go_enter Try.func55, Try.ntmps55
  go_wp2_with fail
  refine (specSF_any h ac bu a n c f 0 _ HS.out hcn HCM.out HK.out).mono ?_
  rintro e w1 ⟨rfl, hb⟩
  have HB1 := Lib.hid hb
  clear hb cb0 cb1 cb2 cb3 lb
  go_wp2_with fail
  refine (l3Objs_any b h ac bu a n c f L _ (HB0.out.below HB1.out) (HS.out.below HB1.out) hcn HCM.out HO.out).mono ?_
  rintro e w2 ⟨hb, v, M, hL, rfl, hm⟩
  have HB2 := Lib.hid (thru0 HB1.out hb)
  have z1 := HB1.out.size
  have HM := Lib.hid (hm.lo z1 z1)
  have HL := Lib.hid hL
  clear hb hm hL HB1 z1
  go_wp2
  go_loop [10] (fun q => ∃ i : Nat, i ≤ roots.length ∧ q = .int .i64 (i : Int) ∧ Hid (∀ j, j < i → lf roots j ∈ placesO L)) (fun q => roots.length - (intOf q).toNat)
  case atStart => exact ⟨0, by omega, rfl, Lib.hid (fun j hj => by omega)⟩
  case round =>
    obtain ⟨i, hi, rfl, HD⟩ := hrel
    by_cases hlt : i < roots.length
    · have hlt' : (i : Int) < (roots.length : Int) := by omega
      have hi0 : (0 : Int) ≤ (i : Int) := by omega
      obtain ⟨rb, ro, rfl, hrb, hrc⟩ := src_some (HRS.out.below HB2.out) (by omega)
      have c0 := hrc i hlt
      obtain ⟨y, hy⟩ : ∃ y, lf roots i = y := ⟨_, rfl⟩
      have HME := Lib.hid (lf_mem hlt)
      have HY := Lib.hid hy
      rw [hy] at c0 HME
      clear hrc hy
      go_wp2_with fail
      refine (HM.out.find y).mono ?_
      rintro e w' ⟨rfl, hf⟩
      rcases hf with ⟨hf, rfl⟩ | ⟨j, x, hf, hx, rfl⟩
      · have hn : y ∉ placesO L := fun hp => by
          obtain ⟨z, hz⟩ := mem_placesO.1 hp
          rw [HL.out, hf] at hz; cases hz
        have hc4 : co = 4 := by
          rcases HCO.out with ⟨_, h4⟩ | ⟨hq, _⟩
          · exact h4
          · exact absurd (hq y HME.out) hn
        subst hc4
        clear hf hn
        go_wp2
        exact bodyPost_ret (v := .tuple #[.slice none 0 0, .slice none 0 0, .int .i64 4]) (by simp [results, Try.results55, go_sem]) rfl ⟨HB2.out, .inl ⟨by decide, rfl⟩⟩
      · have HP : Hid (y ∈ placesO L) := Lib.hid (mem_placesO.2 ⟨x, by rw [HL.out]; exact hf⟩)
        have hj0 : ¬ (j : Int) < 0 := by omega
        clear hf hx
        go_wp2
        go_round
        case rel => first | exact ⟨i + 1, by omega, by go_num, Lib.hid (fun j hj => by rcases Nat.lt_succ_iff_lt_or_eq.mp hj with h1 | h1; exact HD.out j h1; subst h1; rw [HY.out]; exact HP.out)⟩ | ((repeat apply Exists.intro); exact ⟨⟨i + 1, by omega, by go_num, Lib.hid (fun j hj => by rcases Nat.lt_succ_iff_lt_or_eq.mp hj with h1 | h1; exact HD.out j h1; subst h1; rw [HY.out]; exact HP.out)⟩, rfl⟩)
        case measure => simp [intOf]; omega
    · have hlt' : ¬ (i : Int) < (roots.length : Int) := by omega
      have hall : ∀ p ∈ roots, p ∈ placesO L := fun p hp => by
        obtain ⟨j, hj, rfl⟩ := List.getElem_of_mem hp
        rw [← lf_at hj]; exact HD.out j (by omega)
      have hc0 : co = 0 := by
        rcases HCO.out with ⟨⟨p, hp, hq⟩, _⟩ | ⟨_, h0⟩
        · exact absurd (hall p hp) hq
        · exact h0
      subst hc0
      have HALL := Lib.hid hall
      clear hall
      go_wp2_with fail
      refine (l4Reach_any v M w.heap.size w.heap.size ra roots rc f _ HM.out (by rw [← HL.out]; exact HRI.out.points) (HRS.out.below HB2.out) (by omega) (by rw [← HL.out]; exact HALL.out)).mono ?_
      rintro e w3 ⟨a3, c3, rfl, ho3, hb, h31, h32, h33⟩
      have HB3 := Lib.hid (thru0 HB2.out hb)
      have HM3 := Lib.hid (HM.out.below hb)
      have HO3 := Lib.hid (ho3.mono HB2.out.size)
      have HQ3 := Lib.hid (show (reachO f (M.map OM.x) roots).length ≤ c3 ∧ c3 ≤ maxLen from ⟨h31, h32⟩)
      clear hb ho3 h31 h32 h33
      go_wp2
      exact bodyPost_ret (v := .tuple #[v, .slice a3 (reachO f (M.map OM.x) roots).length c3, .int .i64 0]) (by simp [results, Try.results55, go_sem]) rfl ⟨HB3.out, .inr ⟨rfl, v, M, a3, c3, HL.out, by rw [HL.out], HM3.out, by rw [HL.out]; exact HO3.out, by rw [HL.out]; exact HQ3.out⟩⟩

theorem l4Ask_any (b : Nat) (h ac bu : Int) (a : Option Addr) (n c : Nat) (f : Nat → Int) (ra : Option Addr) (roots : List Int) (rc : Nat) (co : Int) (L : List Ob) (w : World) (hB : Blk w b [.int .i64 h, .slice a n c, .int .i64 ac, .int .i64 bu]) (hs : Src w a n f) (hcn : n ≤ c) (hcm : c ≤ maxLen) (hrs : Src w ra roots.length (lf roots)) (hk : IsAsk h n f ac bu roots co L) :
    Calls Try.prog 55 #[.pointer (some ⟨b, 0, none⟩), .slice ra roots.length rc] w (RetAsk w f roots co L) := by
  rcases hk with ⟨h1, h2⟩ | ⟨h1, h2, rfl⟩ | ⟨h1, h2, h3, h4, rfl⟩ | ⟨h1, h2, h3, h4, rfl⟩
  · exact l4Ask_code b h ac bu a n c f ra roots rc co L w hB hs hcn hcm h1 h2
  · exact l4Ask_many b h ac bu a n c f ra roots rc L w hB hs hcn hcm h1 h2
  · exact l4Ask_rest b h ac bu a n c f ra roots rc 4 L w hB hs hcn hcm hrs h1 h2 h3 (.inl ⟨h4, rfl⟩)
  · exact l4Ask_rest b h ac bu a n c f ra roots rc 0 L w hB hs hcn hcm hrs h1 h2 h3 (.inr ⟨h4, rfl⟩)
end Go.Proofs.Ytnacdhnnpddccaa

namespace Go.Proofs.Ytnacdhnnpddccaa
open Go.RowKit Go.Maps
set_option linter.unusedVariables false

/-- What the closure reads. -/
structure Cap (w : World) (rb mb nn : Nat) (v : Value) (O : List Int) : Prop where
  blk : Blk w rb [.int .i64 0, v, .map (some mb)]
  map : MapT w mb nn O (fun i => (i : Int))

theorem Cap.below {w w' : World} {rb mb nn : Nat} {v : Value} {O : List Int} (h : Cap w rb mb nn v O) (hb : Below w.heap.size w w') : Cap w' rb mb nn v O := ⟨h.blk.below hb, h.map.below hb⟩
end Go.Proofs.Ytnacdhnnpddccaa

namespace Go.Proofs.Ytnacdhnnpddccaa
open Go.RowKit Go.Maps
set_option linter.unusedVariables false

/-- A row of objects that may be written. -/
structure RW (w : World) (b q N : Nat) (V : Nat → GM) : Prop where
  lt : b < w.heap.size
  six : ∀ k, k < N → SixG w b (q + k * 6) (V k)
  free : ∀ k, k < N → SixF w b (q + k * 6)
  flds : ∀ k, k < N → Src w (V k).a (V k).n (V k).f
  off : ∀ k, k < N → (V k).n = 0 ∨ (V k).g ≠ b

theorem RW.below {w w' : World} {b q N : Nat} {V : Nat → GM} (h : RW w b q N V) (hb : Below w.heap.size w w') : RW w' b q N V :=
  ⟨Nat.lt_of_lt_of_le h.lt hb.size, fun k hk => (h.six k hk).below hb h.lt, fun k hk => (h.free k hk).below hb h.lt, fun k hk => (h.flds k hk).below hb, h.off⟩

theorem src_six {w : World} {b o : Nat} {t u : GM} (h : Src w u.a u.n u.f) (hb : u.n = 0 ∨ u.g ≠ b) : Src (sixW w b o t) u.a u.n u.f := by
  rcases h with h0 | ⟨b', o', e, h1, h2⟩
  · exact .inl h0
  · rcases hb with h0 | hb
    · exact .inl h0
    · have hg : u.g = b' := by simp [GM.g, e]
      have hk := (sixW_keeps w b o t).block b' h1 (by omega)
      exact .inr ⟨b', o', e, Nat.lt_of_lt_of_le h1 (sixW_keeps w b o t).size, fun i hi => (World.cell?_of_block (w := w) (a := ⟨b', o' + i, none⟩) hk).trans (h2 i hi)⟩

theorem sixF_six {w : World} {b o o' : Nat} {t : GM} (h : SixF w b o) : SixF (sixW w b o' t) b o :=
  ⟨(sixW_frozen _ _ _ _ _).trans h.1, (sixW_frozen _ _ _ _ _).trans h.2.1, (sixW_frozen _ _ _ _ _).trans h.2.2.1, (sixW_frozen _ _ _ _ _).trans h.2.2.2.1, (sixW_frozen _ _ _ _ _).trans h.2.2.2.2.1, (sixW_frozen _ _ _ _ _).trans h.2.2.2.2.2⟩

theorem RW.set {w : World} {b q N i : Nat} {V : Nat → GM} {t : GM} (h : RW w b q N V) (hi : i < N) (hs : Src w t.a t.n t.f) (ho : t.n = 0 ∨ t.g ≠ b) : RW (sixW w b (q + i * 6) t) b q N (fun k => if k = i then t else V k) := by
  refine ⟨Nat.lt_of_lt_of_le h.lt (sixW_keeps w b _ t).size, fun k hk => ?_, fun k hk => sixF_six (h.free k hk), fun k hk => ?_, fun k hk => ?_⟩
  · by_cases e : k = i
    · subst e; rw [if_pos rfl]; exact sixW_at (h.six k hk) t
    · rw [if_neg e]; exact sixW_other (h.six k hk) (by omega) t
  · by_cases e : k = i
    · rw [if_pos e]; exact src_six hs ho
    · rw [if_neg e]; exact src_six (h.flds k hk) (h.off k hk)
  · by_cases e : k = i
    · rw [if_pos e]; exact ho
    · rw [if_neg e]; exact h.off k hk

def ki (T : Nat → GM) (O : List Int) (j : Nat) : List Nat := (List.range j).filter (fun k => decide ((T k).at_ ∉ O))

theorem ki_succ (T : Nat → GM) (O : List Int) (j : Nat) : ki T O (j + 1) = if (T j).at_ ∉ O then ki T O j ++ [j] else ki T O j := by
  unfold ki
  rw [List.range_succ, List.filter_append]
  by_cases h : (T j).at_ ∉ O
  · rw [if_pos h]; simp [h]
  · rw [if_neg h]; simp [h]

/-- What the row is like when the objects ahead of j have been looked at. -/
def KI (T : Nat → GM) (O : List Int) (N i j : Nat) (V : Nat → GM) : Prop := i = (ki T O j).length ∧ (∀ k (hk : k < (ki T O j).length), V k = T (ki T O j)[k]) ∧ ∀ k, j ≤ k → k < N → V k = T k

theorem KI.skip {T : Nat → GM} {O : List Int} {N i j : Nat} {V : Nat → GM} (h : KI T O N i j V) (hj : (T j).at_ ∈ O) : KI T O N i (j + 1) V := by
  have e : ki T O (j + 1) = ki T O j := by rw [ki_succ, if_neg (fun hn => hn hj)]
  refine ⟨by rw [e]; exact h.1, fun k hk => ?_, fun k hk => h.2.2 k (by omega)⟩
  have hk' : k < (ki T O j).length := by rw [e] at hk; exact hk
  rw [h.2.1 k hk']
  simp only [e]
end Go.Proofs.Ytnacdhnnpddccaa

namespace Go.Proofs.Ytnacdhnnpddccaa
open Go.RowKit Go.Maps
set_option linter.unusedVariables false

theorem setCells_size (b : Nat) : ∀ (vs : List Value) (o : Nat) (w : World), (w.setCells b o vs).heap.size = w.heap.size
  | [], o, w => rfl
  | v :: vs, o, w => by
    have h1 := setCells_size b vs (o + 1) (w.setCell ⟨b, o, none⟩ v)
    exact h1.trans (by simp)
end Go.Proofs.Ytnacdhnnpddccaa

namespace Go.Proofs.Ytnacdhnnpddccaa
open Go.RowKit
set_option linter.unusedVariables false

/-- The word of number d of an object, behind a collection. -/
def colAt (f : Nat → Int) (R : List Int) (P : Nat) (X : List Ob) (x : Ob) (d : Nat) : Int := if d = 0 then packO x else if d = 1 then x.h else mapF f R (newPlaces P X) x (d - 2)

/-- The words of a set are so; beside the objects there is nothing. -/
structure ColOn (f : Nat → Int) (R : List Int) (P : Nat) (X : List Ob) (D : Nat → Nat → Prop) (g : Nat → Int) : Prop where
  on : ∀ j (hj : j < X.length) d, D j d → d < wordsO X[j] → g (placeAt P X j + d) = colAt f R P X X[j] d
  rest : ∀ i, ¬ (P ≤ i ∧ i < P + totO X) → g i = 0

theorem placeAt_mono (P : Nat) (X : List Ob) {i j : Nat} (h : i ≤ j) (hj : j ≤ X.length) : placeAt P X i ≤ placeAt P X j := by
  rcases Nat.lt_or_eq_of_le h with h1 | rfl
  · have := placeAt_lt P X i j h1 hj; omega
  · exact Nat.le_refl _

theorem placeAt_next (P : Nat) (X : List Ob) {i j : Nat} (h : i < j) (hj : j < X.length) : placeAt P X i + wordsO (X[i]'(by omega)) ≤ placeAt P X j := by
  rw [← placeAt_step P X (show i < X.length by omega)]
  exact placeAt_mono P X h (by omega)

theorem place_apart {P : Nat} {X : List Ob} {i j d e : Nat} (hi : i < X.length) (hj : j < X.length) (hd : d < wordsO X[i]) (he : e < wordsO X[j]) (h : placeAt P X i + d = placeAt P X j + e) : i = j ∧ d = e := by
  rcases Nat.lt_trichotomy i j with h1 | rfl | h1
  · have := placeAt_next P X h1 hj; omega
  · exact ⟨rfl, by omega⟩
  · have := placeAt_next P X h1 hi; omega

theorem placeAt_ge (P : Nat) (X : List Ob) (i : Nat) : P ≤ placeAt P X i := by unfold placeAt; omega

section

variable {f g : Nat → Int} {R : List Int} {P : Nat} {X : List Ob} {D E : Nat → Nat → Prop} {i d : Nat}

theorem ColOn.set (h : ColOn f R P X D g) (hi : i < X.length) (hd : d < wordsO X[i]) {v : Int} (hv : v = colAt f R P X X[i] d) : ColOn f R P X (fun j e => D j e ∨ (j = i ∧ e = d)) (upd g (placeAt P X i + d) v) := by
  refine ⟨fun j hj e h1 h2 => ?_, fun k hk => ?_⟩
  · unfold upd
    by_cases he : placeAt P X j + e = placeAt P X i + d
    · obtain ⟨rfl, rfl⟩ := place_apart hj hi h2 hd he
      rw [if_pos rfl, hv]
    · rw [if_neg he]
      rcases h1 with h1 | ⟨rfl, rfl⟩
      · exact h.on j hj e h1 h2
      · exact absurd rfl he
  · unfold upd
    have := placeAt_end P X hi
    have := placeAt_ge P X i
    rw [if_neg (by omega)]
    exact h.rest k hk

theorem ColOn.put (h : ColOn f R P X D g) (hi : i < X.length) (hd : d < wordsO X[i]) {K : Nat} (hK : K = placeAt P X i + d) {v : Int} (hv : v = colAt f R P X X[i] d) : ColOn f R P X (fun j e => D j e ∨ (j = i ∧ e = d)) (upd g K v) := by rw [hK]; exact h.set hi hd hv

/-- All the words of an object at once. -/
theorem ColOn.obj (h : ColOn f R P X D g) (hi : i < X.length) {g' : Nat → Int} (hin : ∀ d, d < wordsO X[i] → g' (placeAt P X i + d) = colAt f R P X X[i] d) (hout : ∀ k, ¬ (placeAt P X i ≤ k ∧ k < placeAt P X i + wordsO X[i]) → g' k = g k) : ColOn f R P X (fun j e => D j e ∨ j = i) g' := by
  refine ⟨fun j hj e h1 h2 => ?_, fun k hk => ?_⟩
  · by_cases he : j = i
    · subst he; exact hin e h2
    · rw [hout _ (fun hq => he (place_apart (P := P) (d := e) (e := placeAt P X j + e - placeAt P X i) hj hi h2 (by omega) (by omega)).1)]
      rcases h1 with h1 | h1
      · exact h.on j hj e h1 h2
      · exact absurd h1 he
  · have := placeAt_end P X hi
    have := placeAt_ge P X i
    rw [hout k (by omega)]
    exact h.rest k hk

theorem ColOn.congr {g' : Nat → Int} (h : ColOn f R P X D g) (e : ∀ k, g' k = g k) : ColOn f R P X D g' := ⟨fun j hj d h1 h2 => (e _).trans (h.on j hj d h1 h2), fun i hi => (e i).trans (h.rest i hi)⟩

end
end Go.Proofs.Ytnacdhnnpddccaa

namespace Go.Proofs.Ytnacdhnnpddccaa
open Go.RowKit Go.Maps
set_option linter.unusedVariables false

/-- What is carried through the draw: the source, the bytes, the arena, the answer's block, the arena's words, the roots. -/
structure DS (W w : World) (ca : Option Addr) (k kc : Nat) (B : Nat → Int) (t P : Nat) (h ac bu : Int) (a : Option Addr) (n c : Nat) (f : Nat → Int) (u : Value) (l : List Int) : Prop where
  bel : Below W.heap.size W w
  src : Blk w (W.heap.size + 1) [.slice ca k kc, .int .i64 (t : Int)]
  byt : SrcB w (W.heap.size + 1) ca k B
  arn : Blk w P [.int .i64 h, .slice a n c, .int .i64 ac, .int .i64 bu]
  res : Blk w W.heap.size [.int .i64 0, .slice none 0 0, .int .i64 0, .int .i64 0]
  wrd : OwnIn w (W.heap.size + 2) P a n f
  row : w.ownsRow (P + 1) 2 1 u l.length (nums l.length (lf l))
  hP : W.heap.size + 2 ≤ P

theorem DS.below {W w w' : World} {ca : Option Addr} {k kc t P : Nat} {B f : Nat → Int} {h ac bu : Int} {a : Option Addr} {n c : Nat} {u : Value} {l : List Int} (d : DS W w ca k kc B t P h ac bu a n c f u l) (hb : Below w.heap.size w w') : DS W w' ca k kc B t P h ac bu a n c f u l :=
  ⟨d.bel.trans (hb.mono d.bel.size), d.src.below hb, d.byt.below hb, d.arn.below hb, d.res.below hb, d.wrd.below hb, ownsRow_below d.row hb, d.hP⟩
end Go.Proofs.Ytnacdhnnpddccaa

namespace Go.Proofs.Ytnacdhnnpddccaa
open Go.RowKit Go.Maps
set_option linter.unusedVariables false

/-- What the law of what is reached has at hand. -/
structure LR (W w : World) (P P5 P6 P7 : Nat) (h ac bu : Int) (a : Option Addr) (n c : Nat) (f : Nat → Int) (ra : Option Addr) (l : List Int) (co : Int) (R : List Int) (ua : Option Addr) (uc : Nat) (G : List Int) (ga : Option Addr) (gc : Nat) (wv : Int) : Prop where
  bel : Below W.heap.size W w
  arn : Blk w P [.int .i64 h, .slice a n c, .int .i64 ac, .int .i64 bu]
  wrd : Src w a n f
  rts : Src w ra l.length (lf l)
  rb : Blk w P5 [.int .i64 co, .slice ua R.length uc]
  rl : Src w ua R.length (lf R)
  gb : Blk w P6 [.int .i64 co, .slice ga G.length gc]
  gl : Src w ga G.length (lf G)
  wb : Blk w P7 [.int .i64 co, .int .i64 wv]

section

variable {W w w' : World} {P P5 P6 P7 : Nat} {h ac bu : Int} {a : Option Addr} {n c : Nat} {f : Nat → Int} {ra : Option Addr} {l : List Int} {co : Int} {R : List Int} {ua : Option Addr} {uc : Nat} {G : List Int} {ga : Option Addr} {gc : Nat} {wv : Int}

theorem LR.below (d : LR W w P P5 P6 P7 h ac bu a n c f ra l co R ua uc G ga gc wv) (hb : Below w.heap.size w w') : LR W w' P P5 P6 P7 h ac bu a n c f ra l co R ua uc G ga gc wv :=
  ⟨d.bel.trans (hb.mono d.bel.size), d.arn.below hb, d.wrd.below hb, d.rts.below hb, d.rb.below hb, d.rl.below hb, d.gb.below hb, d.gl.below hb, d.wb.below hb⟩

theorem LR.drew (d : LR W w P P5 P6 P7 h ac bu a n c f ra l co R ua uc G ga gc wv) : LR W w.drew P P5 P6 P7 h ac bu a n c f ra l co R ua uc G ga gc wv := d.below (Below.refl _ _).drew

theorem LR.c7 (d : LR W w P P5 P6 P7 h ac bu a n c f ra l co R ua uc G ga gc wv) : w.cell? ⟨P, 0, none⟩ = some (.int .i64 h) ∧ w.cell? ⟨P, 1, none⟩ = some (.slice a n c) ∧ w.cell? ⟨P, 2, none⟩ = some (.int .i64 ac) ∧ w.cell? ⟨P, 3, none⟩ = some (.int .i64 bu) ∧ w.cell? ⟨P5, 0, none⟩ = some (.int .i64 co) ∧ w.cell? ⟨P6, 0, none⟩ = some (.int .i64 co) ∧ w.cell? ⟨P7, 0, none⟩ = some (.int .i64 co) ∧ w.cell? ⟨P7, 1, none⟩ = some (.int .i64 wv) :=
  ⟨d.arn.at 0 rfl, d.arn.at 1 rfl, d.arn.at 2 rfl, d.arn.at 3 rfl, d.rb.at 0 rfl, d.gb.at 0 rfl, d.wb.at 0 rfl, d.wb.at 1 rfl⟩

end
end Go.Proofs.Ytnacdhnnpddccaa

namespace Go.Proofs.Ytnacdhnnpddccaa
open Go.RowKit
set_option linter.unusedVariables false

/-- A head lies amid a block. -/
structure HdAt (w : World) (d q : Nat) (s m o h : Int) : Prop where
  lt : d < w.heap.size
  c0 : w.cell? ⟨d, q, none⟩ = some (.int .i64 s)
  c1 : w.cell? ⟨d, q + 1, none⟩ = some (.int .i64 m)
  c2 : w.cell? ⟨d, q + 2, none⟩ = some (.int .i64 o)
  c3 : w.cell? ⟨d, q + 3, none⟩ = some (.int .i64 h)

theorem HdAt.block {w w' : World} {d q : Nat} {s m o h : Int} (x : HdAt w d q s m o h) (e : w'.heap[d]? = w.heap[d]?) (z : w.heap.size ≤ w'.heap.size) : HdAt w' d q s m o h :=
  ⟨Nat.lt_of_lt_of_le x.lt z, (World.cell?_of_block (a := ⟨d, q, none⟩) e).trans x.c0, (World.cell?_of_block (a := ⟨d, q + 1, none⟩) e).trans x.c1, (World.cell?_of_block (a := ⟨d, q + 2, none⟩) e).trans x.c2, (World.cell?_of_block (a := ⟨d, q + 3, none⟩) e).trans x.c3⟩

theorem HdAt.below {w w' : World} {d q : Nat} {s m o h : Int} (x : HdAt w d q s m o h) (hb : Below w.heap.size w w') : HdAt w' d q s m o h := x.block (hb.block d x.lt) hb.size

theorem HdAt.drew {w : World} {d q : Nat} {s m o h : Int} (x : HdAt w d q s m o h) : HdAt w.drew d q s m o h := x.below (Below.refl _ _).drew

theorem HdAt.alloc {w : World} {d q : Nat} {s m o h : Int} (x : HdAt w d q s m o h) (ob : Obj) : HdAt (w.alloc ob) d q s m o h := x.below ((Below.refl _ _).alloc (Nat.le_refl _) ob)

theorem HdAt.other {w : World} {d q : Nat} {s m o h : Int} (x : HdAt w d q s m o h) {p : Addr} (hp : p.block ≠ d) (u : Value) : HdAt (w.setCell p u) d q s m o h := x.block (Below.heap_setCell w p u d (fun e => hp e.symm)) (by simp)
end Go.Proofs.Ytnacdhnnpddccaa

namespace Go.Proofs.Ytnacdhnnpddccaa
open Go.RowKit Go.Maps
set_option linter.unusedVariables false

theorem pto_any (p : Int) (w : World) (h : 0 ≤ p ∧ p ≤ 1000000) : Calls Try.prog 117 #[.int .i64 p] w (fun e w' => e = .returned (.int .i64 (p + 1)) ∧ w = w') := by
  obtain ⟨h1, h2⟩ := h
  go_enter Try.func117, Try.ntmps117
  go_wp2
  go_ret
  exact ⟨rfl, rfl⟩

/-- Where a field leads, once all stands where a table says. -/
def mvF (R : List Int) (v : Nat → Int) (t : GM) (k : Nat) : Int := if t.m / P2 (k : Int) % 2 = 1 ∧ ¬ t.f k = 0 then (tab R v (t.f k - 1)).getD 0 + 1 else t.f k

def mvT (R : List Int) (v : Nat → Int) (t : GM) : GM := ⟨(tab R v t.at_).getD 0, t.s, t.m, t.o, t.h, none, t.n, 0, mvF R v t⟩
end Go.Proofs.Ytnacdhnnpddccaa

namespace Go.Proofs.Ytnacdhnnpddccaa
open Go.RowKit Go.Maps
set_option linter.unusedVariables false

/-- A list of objects that stand where a table says, while it is made. -/
structure ML (w : World) (base : Nat) (u : Value) (M : List GM) (R : List Int) (v : Nat → Int) (T : Nat → GM) : Prop where
  row : w.ownsRow base 87 6 u M.length (rowG M)
  src : ∀ t ∈ M, Src w t.a t.n t.f ∧ (t.n = 0 ∨ u.ownBlock ≠ some t.g)
  far : ∀ t ∈ M, t.n = 0 ∨ base ≤ t.g
  same : ∀ i t, M[i]? = some t → GSame t (mvT R v (T i))

theorem ML.below {w w' : World} {base : Nat} {u : Value} {M : List GM} {R : List Int} {v : Nat → Int} {T : Nat → GM} (h : ML w base u M R v T) (hb : Below w.heap.size w w') : ML w' base u M R v T := ⟨ownsRow_below h.row hb, fun t ht => ⟨(h.src t ht).1.below hb, (h.src t ht).2⟩, h.far, h.same⟩

/-- A row of objects in blocks from a place on. -/
def GVB (w : World) (base : Nat) (a : Option Addr) (N : Nat) (T : Nat → GM) : Prop := N = 0 ∨ ∃ b q, a = some ⟨b, q, none⟩ ∧ base ≤ b ∧ GSrc w b q N T ∧ ∀ i, i < N → (T i).n = 0 ∨ base ≤ (T i).g

theorem GVB.keeps {w w' : World} {base lo hi : Nat} {a : Option Addr} {N : Nat} {T : Nat → GM} (h : GVB w base a N T) (hk : Keeps w w' lo hi) (hb : hi ≤ base) : GVB w' base a N T := by
  rcases h with h | ⟨b, q, h1, h2, h3, h4⟩
  · exact .inl h
  · exact .inr ⟨b, q, h1, h2, h3.keeps hk (.inr (by omega)) (fun i hi => by rcases h4 i hi with h5 | h5; exact .inl h5; exact .inr (.inr (by omega))), h4⟩

theorem GVB.below {w w' : World} {base : Nat} {a : Option Addr} {N : Nat} {T : Nat → GM} (h : GVB w base a N T) (hb : Below w.heap.size w w') : GVB w' base a N T := by
  rcases h with h | ⟨b, q, h1, h2, h3, h4⟩
  · exact .inl h
  · exact .inr ⟨b, q, h1, h2, h3.below hb, h4⟩
end Go.Proofs.Ytnacdhnnpddccaa

namespace Go.Proofs.Ytnacdhnnpddccaa
open Go.RowKit Go.Maps
set_option linter.unusedVariables false

/-- copy, one number behind the other, as a law for the walk. -/
theorem wpList_copy_cells {P : Program} {w : World} {ops : Array Oper} {rest : List Oper} {o : Oper} {a : Act} {Q : Exit → Act → World → Prop} (hgd : o.guard = none) (d s : Operand) (dT sT : TypeId)
    (ho : o.op = .call { callee := .builtin .copy, args := #[d, s], argTypes := #[dT, sT] }) (elem : TypeId) (hu : P.underlying dT = some (.slice elem)) (hsz : (P.info? elem).map (·.size) = some 1)
    (b off dLen dCap : Nat) (ad : Addr) (sLen sCap : Nat) (hd : a.eval d = .slice (some ⟨b, off, none⟩) dLen dCap) (hs : a.eval s = .slice (some ad) sLen sCap)
    (cs : List Value) (hn : cs.length = Nat.min sLen dLen) (hsrc : ∀ j v, cs[j]? = some v → w.cell? (ad.add j) = some v) (hc : ∀ j, j < cs.length → (w.cell? ⟨b, off + j, none⟩).isSome = true) (hf : ∀ j, j < cs.length → w.frozen? ⟨b, off + j, none⟩ = false) (h1 : ∀ v ∈ cs, v.oneCell' = true)
    (h : wpList P ops Q rest (a.put o.dst (goInt cs.length)) (w.setCells b off cs)) : wpList P ops Q (o :: rest) a w := by
  refine wpList_plain hgd fun K hK => ?_
  have hrun := run_copy_cells (P := P) w dT sT o.type elem b off dLen dCap ad sLen sCap cs hu hsz hn hsrc hc hf h1
  unfold Oper.wp
  simp [execOp, ho, resolve, invoke, builtin, hd, hs, hrun, Result.andThen]
  exact hK _ _ h

theorem own_copy {w : World} {lo hi g q n : Nat} {G : Nat → Int} (h : OwnIn w lo hi (some ⟨g, q, none⟩) n G) (K m : Nat) (F : Nat → Int) (hK : K + m ≤ n) : OwnIn (w.setCells g (q + K) (nums m F)) lo hi (some ⟨g, q, none⟩) n (fun i => if K ≤ i ∧ i < K + m then F (i - K) else G i) := by
  rcases h with h0 | ⟨b', o', e1, h1, hb, hc⟩
  · exact .inl h0
  · cases e1
    refine .inr ⟨g, q, rfl, h1, by rw [setCells_size]; exact hb, fun i hi => ⟨?_, ?_⟩⟩
    · dsimp only
      by_cases hin : K ≤ i ∧ i < K + m
      · rw [if_pos hin]
        obtain ⟨j, rfl⟩ : ∃ j, i = K + j := ⟨i - K, by omega⟩
        have hj : j < (nums m F).length := by rw [nums_length]; omega
        have := World.cell?_setCells_in g (nums m F) (q + K) w (fun k hk => by
          rw [nums_length] at hk
          rw [Nat.add_assoc, (hc (K + k) (by omega)).1]; rfl) j hj
        rw [← Nat.add_assoc, this]
        have h9 := nums_get m F j (by omega)
        rw [List.getElem?_eq_getElem hj] at h9
        rw [h9, show K + j - K = j by omega]
      · rw [if_neg hin, World.cell?_setCells_out g (nums m F) (q + K) w ⟨g, q + i, none⟩ (fun _ _ => by rw [nums_length]; show q + i < q + K ∨ q + K + m ≤ q + i; omega)]
        exact (hc i hi).1
    · rw [World.frozen?_setCells]; exact (hc i hi).2

theorem keeps_copy {w : World} {lo hi g : Nat} (h1 : lo ≤ g) (h2 : g < hi) : ∀ (vs : List Value) (o : Nat) (w' : World), Keeps w w' lo hi → Keeps w (w'.setCells g o vs) lo hi
  | [], _, _, h => h
  | v :: vs, o, w', h => keeps_copy h1 h2 vs (o + 1) _ (h.trans (keeps_setCell (p := ⟨g, o, none⟩) h1 h2 v))

section

variable {h ac bu : Int} {n : Nat} {f : Nat → Int} {L : List Ob} {roots : List Int}

end
end Go.Proofs.Ytnacdhnnpddccaa

namespace Go.Proofs.Ytnacdhnnpddccaa
open Go.RowKit Go.Maps
set_option linter.unusedVariables false

theorem four_c {w : World} {d : Nat} {v0 v1 v2 v3 : Value} (k : Blk w d [v0, v1, v2, v3]) : w.cell? ⟨d, 0, none⟩ = some v0 ∧ w.cell? ⟨d, 1, none⟩ = some v1 ∧ w.cell? ⟨d, 2, none⟩ = some v2 ∧ w.cell? ⟨d, 3, none⟩ = some v3 := ⟨k.at 0 rfl, k.at 1 rfl, k.at 2 rfl, k.at 3 rfl⟩
end Go.Proofs.Ytnacdhnnpddccaa

namespace Go.Proofs.Ytnacdhnnpddccaa
open Go.RowKit Go.Maps
set_option linter.unusedVariables false

theorem reachIn_any (h ac bu : Int) (a : Option Addr) (n c : Nat) (f : Nat → Int) (ra : Option Addr) (roots : List Int) (rc : Nat) (co : Int) (L : List Ob) (w : World) (hs : Src w a n f) (hcn : n ≤ c) (hcm : c ≤ maxLen) (hrs : Src w ra roots.length (lf roots)) (hk : IsAsk h n f ac bu roots co L) :
    Calls Try.prog 104 #[.agg #[.int .i64 h, .slice a n c, .int .i64 ac, .int .i64 bu], .slice ra roots.length rc] w (RetIn w f roots co L) := by
  rcases hk with ⟨h1, h2⟩ | ⟨h1, h2, rfl⟩ | ⟨h1, h2, h3, h4, rfl⟩ | ⟨h1, h2, h3, h4, rfl⟩
  · exact reachIn_code h ac bu a n c f ra roots rc co L w hs hcn hcm hrs h1 h2
  · obtain ⟨L0, hL0⟩ := isSF_zero h1
    exact reachIn_many h ac bu a n c f ra roots rc 2 L w hs hcn hcm hrs h1 L0 hL0 h2
  · exact reachIn_rest h ac bu a n c f ra roots rc 4 L w hs hcn hcm hrs h1 h2 h3 (.inl ⟨h4, rfl⟩)
  · exact reachIn_rest h ac bu a n c f ra roots rc 0 L w hs hcn hcm hrs h1 h2 h3 (.inr ⟨h4, rfl⟩)

theorem two3 {w : World} {b : Nat} {v0 v1 v2 : Value} (h : Blk w b [v0, v1, v2]) : w.cell? ⟨b, 0, none⟩ = some v0 ∧ w.cell? ⟨b, 1, none⟩ = some v1 := ⟨h.at 0 rfl, h.at 1 rfl⟩
end Go.Proofs.Ytnacdhnnpddccaa

namespace Go.Proofs.Ytnacdhnnpddccaa
open Go.RowKit
set_option linter.unusedVariables false

set_option maxRecDepth 100000 in
set_option maxHeartbeats 800000 in
theorem hasRoots_any (co h ac bu nx sc : Int) (wa : Option Addr) (wn wc : Nat) (ra : Option Addr) (N rc : Nat) (r : Bool) (w : World) (hr : r = decide (nx < (N : Int))) :
    Calls Try.prog 80 #[.agg #[.int .i64 co, .int .i64 h, .slice wa wn wc, .int .i64 ac, .int .i64 bu, .slice ra N rc, .int .i64 nx, .int .i64 sc]] w (fun e w' => e = .returned (.bool r) ∧ Below w.heap.size w w') := by
  subst hr
  go_enter Try.func80, Try.ntmps80
  go_wp2
  go_ret
  exact ⟨rfl, (Below.refl _ _).alloc (Nat.le_refl _) _⟩

theorem cells1234 {w : World} {b : Nat} {v0 v1 v2 v3 v4 v5 v6 v7 : Value} (h : Blk w b [v0, v1, v2, v3, v4, v5, v6, v7]) : w.cell? ⟨b, 1, none⟩ = some v1 ∧ w.cell? ⟨b, 2, none⟩ = some v2 ∧ w.cell? ⟨b, 3, none⟩ = some v3 ∧ w.cell? ⟨b, 4, none⟩ = some v4 := ⟨h.at 1 rfl, h.at 2 rfl, h.at 3 rfl, h.at 4 rfl⟩

theorem cells8 {w : World} {b : Nat} {v0 v1 v2 v3 v4 v5 v6 v7 : Value} (h : Blk w b [v0, v1, v2, v3, v4, v5, v6, v7]) : w.cell? ⟨b, 0, none⟩ = some v0 ∧ w.cell? ⟨b, 1, none⟩ = some v1 ∧ w.cell? ⟨b, 2, none⟩ = some v2 ∧ w.cell? ⟨b, 3, none⟩ = some v3 ∧ w.cell? ⟨b, 4, none⟩ = some v4 ∧ w.cell? ⟨b, 5, none⟩ = some v5 ∧ w.cell? ⟨b, 6, none⟩ = some v6 ∧ w.cell? ⟨b, 7, none⟩ = some v7 := ⟨h.at 0 rfl, h.at 1 rfl, h.at 2 rfl, h.at 3 rfl, h.at 4 rfl, h.at 5 rfl, h.at 6 rfl, h.at 7 rfl⟩

/-- The base of an arena, or of none. -/
theorem baseOf_is (X h ac bu : Int) (a : Option Addr) (n c : Nat) (w : World) (hX : baseI ac h = X) (h1 : 0 ≤ h) (h2 : h ≤ 200) (h3 : 0 ≤ ac) (h4 : ac ≤ 1) :
    Calls Try.prog 73 #[.agg #[.int .i64 h, .slice a n c, .int .i64 ac, .int .i64 bu]] w (RetInt w X) := by
  subst hX
  rcases (by omega : ac = 0 ∨ ac = 1) with rfl | rfl
  all_goals
    go_enter Try.func73, Try.ntmps73
    go_wp2
    go_ret
    exact ⟨rfl, (Below.refl _ _).alloc (Nat.le_refl _) _⟩

set_option maxRecDepth 100000 in
set_option maxHeartbeats 1600000 in
theorem cfree_any (co h ac bu nx sc X Y : Int) (wa : Option Addr) (wn wc : Nat) (ra : Option Addr) (N rc : Nat) (w : World) (hX : baseI ac h = X) (hY : X + bu = Y) (h1 : 0 ≤ h) (h2 : h ≤ 200) (h3 : 0 ≤ ac) (h4 : ac ≤ 1) (h5 : 0 ≤ bu) (h6 : bu ≤ 200) :
    Calls Try.prog 52 #[.agg #[.int .i64 co, .int .i64 h, .slice wa wn wc, .int .i64 ac, .int .i64 bu, .slice ra N rc, .int .i64 nx, .int .i64 sc]] w (fun e w' => e = .returned (.int .i64 Y) ∧ Below w.heap.size w w') := by
  have hXb : 0 ≤ X ∧ X ≤ 200 := by
    rw [← hX]; unfold baseI
    by_cases h0 : ac = 0
    · rw [if_pos h0]; omega
    · rw [if_neg h0]; omega
  have hwr : IntKind.i64.wrap (X + bu) = X + bu := IntWalk.i64_in _ (by omega)
  subst hY
  go_enter Try.func52, Try.ntmps52
  have T0 := Lib.hid (Blk.new_at (w := w) (cs := #[.int .i64 co, .int .i64 h, .slice wa wn wc, .int .i64 ac, .int .i64 bu, .slice ra N rc, .int .i64 nx, .int .i64 sc]) (t := 72) w.heap.size rfl)
  have HB0 : Hid (Below w.heap.size w (w.alloc (.cells #[.int .i64 co, .int .i64 h, .slice wa wn wc, .int .i64 ac, .int .i64 bu, .slice ra N rc, .int .i64 nx, .int .i64 sc] 72))) := Lib.hid ((Below.refl _ _).alloc (Nat.le_refl _) _)
  have z0 : w.heap.size + 1 = (w.alloc (.cells #[.int .i64 co, .int .i64 h, .slice wa wn wc, .int .i64 ac, .int .i64 bu, .slice ra N rc, .int .i64 nx, .int .i64 sc] 72)).heap.size := by simp
  go_wp2_with fail
  generalize w.alloc (.cells #[.int .i64 co, .int .i64 h, .slice wa wn wc, .int .i64 ac, .int .i64 bu, .slice ra N rc, .int .i64 nx, .int .i64 sc] 72) = w1 at *
  have Td := Lib.hid T0.out.drew; have HBd := Lib.hid HB0.out.drew
  have HZ := Lib.hid z0
  have HX := Lib.hid hX
  clear z0 hX
  go_region_held3 (fun w' => w'.cell? ⟨w.heap.size, 1, none⟩ = some (.int .i64 h) ∧ w'.cell? ⟨w.heap.size, 2, none⟩ = some (.slice wa wn wc) ∧ w'.cell? ⟨w.heap.size, 3, none⟩ = some (.int .i64 ac) ∧ w'.cell? ⟨w.heap.size, 4, none⟩ = some (.int .i64 bu))
    (first | (with_reducible exact cells1234 T0.out) | (with_reducible exact cells1234 Td.out) | (with_reducible exact cells1234 T2.out))
    (first | (go_at_call 73; refine (baseOf_is X h ac bu wa wn wc _ HX.out h1 h2 h3 h4).mono ?_; rintro e w2 ⟨rfl, hb⟩; have T2 := Lib.hid (Td.out.below hb); have HB2 := Lib.hid (HBd.out.trans (hb.mono HBd.out.size)); clear hb))
  go_wp2
  go_ret
  exact ⟨rfl, HB2.out⟩

set_option maxRecDepth 100000 in
set_option maxHeartbeats 1600000 in
theorem whereIs_any (co h ac bu nx sc : Int) (g q n c : Nat) (rv : Value) (F : Nat → Int) (pn : Nat) (k v : Int) (w : World) (hW : Wrd w g q n F) (hp : pn < n) (hn : n ≤ 400) (hI : I64 (F pn)) (hk : IsRF (F pn) k v) :
    Calls Try.prog 63 #[.agg #[.int .i64 co, .int .i64 h, .slice (some ⟨g, q, none⟩) n c, .int .i64 ac, .int .i64 bu, rv, .int .i64 nx, .int .i64 sc], .int .i64 (pn : Int)] w (RetPair w k v) := by
  have hi0 : (0 : Int) ≤ (pn : Int) := by omega
  have hi1 : (pn : Int) < (n : Int) := by omega
  have W0 := Lib.hid hW; have HI := Lib.hid hI; have HK := Lib.hid hk
  clear hW hI hk
  go_enter Try.func63, Try.ntmps63
  have HB0 : Hid (Below w.heap.size w ((w.alloc (.cells #[.int .i64 co, .int .i64 h, .slice (some ⟨g, q, none⟩) n c, .int .i64 ac, .int .i64 bu, rv, .int .i64 nx, .int .i64 sc] 72)).alloc (.cells #[.int .i64 0, .int .i64 0] 44))) := Lib.hid (((Below.refl _ _).alloc (Nat.le_refl _) _).alloc (by simp) _)
  have W1 := Lib.hid (W0.out.below HB0.out)
  have c1 := W1.out.cell pn hp
  go_wp2_with fail
  refine (implRF_any (F pn) k v _ HI.out HK.out).mono ?_
  rintro e w2 ⟨rfl, hb⟩
  have T2 := Lib.hid ((Blk.new_at (w := w.alloc (.cells #[.int .i64 co, .int .i64 h, .slice (some ⟨g, q, none⟩) n c, .int .i64 ac, .int .i64 bu, rv, .int .i64 nx, .int .i64 sc] 72)) (cs := #[.int .i64 0, .int .i64 0]) (t := 44) (w.heap.size + 1) (by simp)).below hb)
  have HB2 := Lib.hid (thru0 HB0.out hb)
  clear hb c1 W1 HB0
  have l2 := T2.out.1; have t0 := T2.out.at 0 rfl; have t1 := T2.out.at 1 rfl; have f0 := T2.out.free 0 rfl; have f1 := T2.out.free 1 rfl
  go_wp2
  refine bodyPost_ret (v := .agg #[.int .i64 k, .int .i64 v]) (by simp [results, Try.results63, go_sem, t0, t1]) rfl ⟨rfl, ?_⟩
  exact (HB2.out.setCell (by show w.heap.size ≤ w.heap.size + 1; omega) _).setCell (by show w.heap.size ≤ w.heap.size + 1; omega) _

theorem fld_objr (v0 v1 v2 v3 v4 v5 v6 : Value) (w : World) : (Instr.field 124 (.agg #[v0, v1, v2, v3, v4, v5, v6]) 1).run Try.prog w = .ok (.agg #[v1, v2, v3, v4, v5, v6]) w := by kernel_rfl

/-- The object at a place comes back. -/
def RetOb (W : World) (x : Ob) (F : Nat → Int) (pn : Nat) (e : Ending) (w' : World) : Prop :=
  ∃ a c, e = .returned (.agg #[.int .i64 0, .int .i64 x.s, .int .i64 x.m, .int .i64 x.o, .int .i64 x.h, .slice a x.s.toNat c]) ∧ Own w' W.heap.size a x.s.toNat (fun k => F (pn + 2 + k)) ∧ Below W.heap.size W w'

set_option maxRecDepth 100000 in
set_option maxHeartbeats 1600000 in
theorem objectAt_any (co h ac bu nx sc : Int) (g q n c : Nat) (rv : Value) (F : Nat → Int) (pn : Nat) (x : Ob) (w : World) (hW : Wrd w g q n F) (hn : n ≤ 400) (hnc : n ≤ c) (hcm : c ≤ maxLen) (hx : ObOk x) (h1 : F pn = packO x) (h2 : F (pn + 1) = x.h) (hp : pn + 2 + x.s.toNat ≤ n) :
    Calls Try.prog 115 #[.agg #[.int .i64 co, .int .i64 h, .slice (some ⟨g, q, none⟩) n c, .int .i64 ac, .int .i64 bu, rv, .int .i64 nx, .int .i64 sc], .int .i64 (pn : Int)] w (RetOb w x F pn) := by
  obtain ⟨b1, b2, b3, b4, b5, b6⟩ := shift_obj hx h1 h2 hp
  have hi0 : (0 : Int) ≤ (pn : Int) := by omega
  have hi1 : (pn : Int) < (n : Int) := by omega
  have hi2 : (pn : Int) ≤ (n : Int) := by omega
  have hi3 : (pn : Int) ≤ (c : Int) := by omega
  have hcn : c - pn ≠ 0 := by omega
  have W0 := Lib.hid hW; have BG := Lib.hid b1; have B2 := Lib.hid b2; have B3 := Lib.hid b3; have B4 := Lib.hid b4; have B5 := Lib.hid b5; have B6 := Lib.hid b6; have HCM := Lib.hid hcm
  have hcp : ¬ c = pn := by omega
  clear hW b1 b2 b3 b4 b5 b6 hx h1 h2 hcm
  go_enter Try.func115, Try.ntmps115
  have HB0 : Hid (Below w.heap.size w ((w.alloc (.cells #[.int .i64 co, .int .i64 h, .slice (some ⟨g, q, none⟩) n c, .int .i64 ac, .int .i64 bu, rv, .int .i64 nx, .int .i64 sc] 72)).alloc (.cells #[.int .i64 0, .int .i64 0, .int .i64 0, .int .i64 0, .int .i64 0, .slice none 0 0] 87))) := Lib.hid (((Below.refl _ _).alloc (Nat.le_refl _) _).alloc (by simp) _)
  have W1 := Lib.hid (W0.out.below HB0.out)
  have hfl := fld_objr
  go_wp2_with fail
  refine (implFirst_any g (q + pn) (n - pn) (c - pn) (fun j => F (pn + j)) _ (src_sub W1.out.src (by omega)) (by omega) (by omega) (by have := HCM.out; omega)).mono ?_
  rintro e w2 ⟨hb, hr⟩
  rcases hr with ⟨_, a, c', rfl, ho⟩ | ⟨hbad, _⟩
  · dsimp only at ho ⊢
    rw [B6.out] at ho ⊢
    rw [B2.out, B3.out, B4.out, B5.out]
    have T2 := Lib.hid ((Blk.new_at (w := w.alloc (.cells #[.int .i64 co, .int .i64 h, .slice (some ⟨g, q, none⟩) n c, .int .i64 ac, .int .i64 bu, rv, .int .i64 nx, .int .i64 sc] 72)) (cs := #[.int .i64 0, .int .i64 0, .int .i64 0, .int .i64 0, .int .i64 0, .slice none 0 0]) (t := 87) (w.heap.size + 1) (by simp)).below hb)
    have HB2 := Lib.hid (thru0 HB0.out hb)
    have HO := Lib.hid (ho.mono (B' := w.heap.size + 2) (by simp))
    clear hb ho W1 HB0
    have t0 := T2.out.at 0 rfl; have t1 := T2.out.at 1 rfl; have t2 := T2.out.at 2 rfl; have t3 := T2.out.at 3 rfl; have t4 := T2.out.at 4 rfl; have t5 := T2.out.at 5 rfl; have f0 := T2.out.free 0 rfl; have f1 := T2.out.free 1 rfl; have f2 := T2.out.free 2 rfl; have f3 := T2.out.free 3 rfl; have f4 := T2.out.free 4 rfl; have f5 := T2.out.free 5 rfl
    have l2 := T2.out.1
    go_wp2
    refine bodyPost_ret (v := .agg #[.int .i64 0, .int .i64 x.s, .int .i64 x.m, .int .i64 x.o, .int .i64 x.h, .slice a x.s.toNat c']) (by simp [results, Try.results115, go_sem, t0, t1, t2, t3, t4, t5]) rfl ⟨a, c', rfl, ?_, ?_⟩
    · refine Own.mono (B := w.heap.size + 2) ?_ (by omega)
      repeat (first | (with_reducible refine Own.setCell ?_ (by (try simp); (try omega)) _))
      exact HO.out.congr fun k _ => by rw [Nat.add_assoc]
    · repeat (first | (with_reducible refine Below.setCell ?_ (by (try simp); (try omega)) _))
      exact HB2.out
  · exact absurd BG.out hbad
end Go.Proofs.Ytnacdhnnpddccaa

namespace Go.Proofs.Ytnacdhnnpddccaa
open Go.RowKit
set_option linter.unusedVariables false

theorem fld_objh (v0 v1 v2 v3 v4 v5 : Value) (w : World) : (Instr.field 87 (.agg #[v0, v1, v2, v3, v4, v5]) 1).run Try.prog w = .ok (.agg #[v1, v2, v3, v4]) w := by kernel_rfl

set_option maxRecDepth 100000 in
set_option maxHeartbeats 1600000 in
theorem bring_old (b g q n c : Nat) (co h ac bu nx sc : Int) (rv : Value) (F : Nat → Int) (pn : Nat) (f : Nat → Int) (L : List Ob) (B U P H : Nat) (R : List Int) (s kk : Nat) (w : World) (hB : Blk w b [.int .i64 co, .int .i64 h, .slice (some ⟨g, q, none⟩) n c, .int .i64 ac, .int .i64 bu, rv, .int .i64 nx, .int .i64 sc]) (hW : Wrd w g q n F) (hn : n = 2 * H) (cw : CW f L P R s kk F) (a : Cop f L B U P H) (hp : (pn : Int) ∈ placesO L) (hR : (pn : Int) ∈ R) :
    Calls Try.prog 99 #[.pointer (some ⟨b, 0, none⟩), .int .i64 (pn : Int)] w fun e w' => e = .returned (.int .i64 (goes R (newPlaces P (objsO L R)) (pn : Int))) ∧ Below w.heap.size w w' := by
  have hwx := a.word_x hp
  have hfw := cw.forward a hR
  have hwd := cw.words a pn (by omega)
  simp only [Int.toNat_natCast] at hfw
  obtain ⟨V, hV⟩ : ∃ V, goes R (newPlaces P (objsO L R)) (pn : Int) = V := ⟨_, rfl⟩
  rw [hV] at hfw ⊢
  have hpn : pn < n := by omega
  have hn4 : n ≤ 400 := by have := a.room; omega
  have hI : I64 (F pn) := by unfold Word at hwd; unfold I64; omega
  have HFW := Lib.hid hfw; have HI := Lib.hid hI; have W0 := Lib.hid hW
  have c0 := hB.at 0 rfl; have c1 := hB.at 1 rfl; have c2 := hB.at 2 rfl; have c3 := hB.at 3 rfl; have c4 := hB.at 4 rfl; have c5 := hB.at 5 rfl; have c6 := hB.at 6 rfl; have c7 := hB.at 7 rfl; have lB := hB.1
  clear hB hW cw a hp hR hfw hwd hI hV hn hwx
  go_enter Try.func99, Try.ntmps99
  go_wp2_with fail
  refine (whereIs_any co h ac bu nx sc g q n c rv F pn 0 V _ W0.out hpn hn4 HI.out HFW.out).mono ?_
  rintro e w1 ⟨rfl, hb⟩
  have HB1 := Lib.hid hb
  clear hb
  have T1 := Lib.hid (Blk.new_at (w := w1) (cs := #[.int .i64 0, .int .i64 V]) (t := 44) w1.heap.size rfl)
  have t0 := T1.out.at 0 rfl; have t1 := T1.out.at 1 rfl
  clear c0 c1 c2 c3 c4 c5 c6 c7
  go_wp2
  go_ret
  exact ⟨rfl, HB1.out.alloc HB1.out.size _⟩

set_option maxRecDepth 100000 in
set_option maxHeartbeats 6400000 in
theorem bring_new (b g q n c : Nat) (co h ac nx sc : Int) (tot fr : Nat) (ra : Option Addr) (N rc : Nat) (F : Nat → Int) (pn : Nat) (x : Ob) (f : Nat → Int) (L : List Ob) (B U P H : Nat) (R : List Int) (s kk : Nat) (w : World) (hB : Blk w b [.int .i64 co, .int .i64 h, .slice (some ⟨g, q, none⟩) n c, .int .i64 ac, .int .i64 (tot : Int), .slice ra N rc, .int .i64 nx, .int .i64 sc]) (hW : Wrd w g q n F) (hbg : b ≠ g) (hn : n = 2 * H) (hnc : n ≤ c) (hcm : c ≤ maxLen) (cw : CW f L P R s kk F) (a : Cop f L B U P H) (hp : (pn : Int) ∈ placesO L) (hR : (pn : Int) ∉ R) (hx : findO L (pn : Int) = some x) (htot : tot = totO (objsO L R)) (hfr : fr = P + totO (objsO L R)) (hP : baseI ac h = (P : Int)) (h1 : 0 ≤ h) (h2 : h ≤ 200) (h3 : 0 ≤ ac) (h4 : ac ≤ 1) :
    Calls Try.prog 99 #[.pointer (some ⟨b, 0, none⟩), .int .i64 (pn : Int)] w fun e w' => e = .returned (.int .i64 (fr : Int)) ∧ Wrd w' g q n (brF F fr pn (wordsO x)) ∧ Blk w' b [.int .i64 co, .int .i64 h, .slice (some ⟨g, q, none⟩) n c, .int .i64 ac, .int .i64 ((tot + wordsO x : Nat) : Int), .slice ra N rc, .int .i64 nx, .int .i64 sc] ∧ Kep w w' b g := by
  have hwx := a.word_x hp
  have hfw := cw.noForward a hp hR
  have hwd := cw.words a pn (by omega)
  obtain ⟨z1, z2, z3, z4, z5, z6, z7, z8⟩ := cw.fits a hx hR
  obtain ⟨r1, r2, r3⟩ := a.room
  simp only [Int.toNat_natCast] at hfw
  rw [← hfr] at z1 z5
  rw [← htot] at z4
  have hI : I64 (F pn) := by unfold Word at hwd; unfold I64; omega
  obtain ⟨sN, hS⟩ : ∃ sN : Nat, x.s = (sN : Int) := ⟨x.s.toNat, by have := z8.1.1.1; omega⟩
  have hsN : sN ≤ 12 := by have := z8.1.1.2; omega
  have hws : wordsO x = sN + 2 := by unfold wordsO; omega
  have hsz : x.s.toNat = sN := by omega
  rw [hws] at z1 z3 z4 z5 ⊢
  have hWO : IsWO x.s x.m x.o x.h 0 ((sN : Int) + 2) := .inl ⟨z8.1, rfl, by rw [hS]⟩
  have hFW : IsFW (fr : Int) 0 (2 * (fr : Int) + 2) := .inl ⟨⟨by omega, by omega⟩, rfl, rfl⟩
  have hpn : pn < n := by omega
  have n1 : fr + (sN + 2) ≤ n := by omega
  have n3 : pn + (sN + 2) ≤ n := by omega
  have n4 : n ≤ 400 := by omega
  have hY : (P : Int) + (tot : Int) = (fr : Int) := by omega
  have hb5 : (tot : Int) ≤ 200 := by omega
  have HFW := Lib.hid hfw; have HI := Lib.hid hI; have W0 := Lib.hid hW; have B0 := Lib.hid hB; have Z5 := Lib.hid z5; have Z6 := Lib.hid z6; have Z7 := Lib.hid z7; have Z8 := Lib.hid z8; have HWO := Lib.hid hWO; have HFWO := Lib.hid hFW; have HY := Lib.hid hY; have HP := Lib.hid hP; have HCM := Lib.hid hcm; have HSZ := Lib.hid hsz
  have c0 := hB.at 0 rfl; have c1 := hB.at 1 rfl; have c2 := hB.at 2 rfl; have c3 := hB.at 3 rfl; have c4 := hB.at 4 rfl; have c5 := hB.at 5 rfl; have c6 := hB.at 6 rfl; have c7 := hB.at 7 rfl; have lB := hB.1; have lg := hW.lt
  clear hB hW cw a hp hR hfw hwd hI hn hwx z1 z2 z3 z4 z5 z6 z7 z8 r1 r2 r3 hx htot hfr hS hws hWO hFW hY hP hcm hsz
  go_enter Try.func99, Try.ntmps99
  go_wp2_with fail
  refine (whereIs_any co h ac (tot : Int) nx sc g q n c (.slice ra N rc) F pn 1 0 _ W0.out hpn n4 HI.out HFW.out).mono ?_
  rintro e w1 ⟨rfl, hb⟩
  have HB1 := Lib.hid hb
  have hz1 := hb.size
  have T1 := Lib.hid (Blk.new_at (w := w1) (cs := #[.int .i64 1, .int .i64 0]) (t := 44) w1.heap.size rfl)
  have t0 := T1.out.at 0 rfl
  have HB2 := Lib.hid (HB1.out.alloc hz1 (.cells #[.int .i64 1, .int .i64 0] 44))
  have B2 := Lib.hid (B0.out.below HB2.out); have W2 := Lib.hid (W0.out.below HB2.out)
  clear hb c0 c1 c2 c3 c4 c5 c6 c7
  go_wp2_with fail
  generalize w1.alloc (.cells #[.int .i64 1, .int .i64 0] 44) = w2 at *
  clear t0 T1 HB1
  have Bd := Lib.hid B2.out.drew; have Wd := Lib.hid W2.out.drew
  have HBd : Hid (Below w2.heap.size w2 w2.drew) := Lib.hid (Below.refl _ _).drew
  have hz2 := HB2.out.size
  have lb2 := B2.out.1; have lg2 := W2.out.lt
  have hfl1 := fld_objh
  have hfl2 := fld_ir
  go_region_held3 (fun w' => w'.cell? ⟨b, 0, none⟩ = some (.int .i64 co) ∧ w'.cell? ⟨b, 1, none⟩ = some (.int .i64 h) ∧ w'.cell? ⟨b, 2, none⟩ = some (.slice (some ⟨g, q, none⟩) n c) ∧ w'.cell? ⟨b, 3, none⟩ = some (.int .i64 ac) ∧ w'.cell? ⟨b, 4, none⟩ = some (.int .i64 (tot : Int)) ∧ w'.cell? ⟨b, 5, none⟩ = some (.slice ra N rc) ∧ w'.cell? ⟨b, 6, none⟩ = some (.int .i64 nx) ∧ w'.cell? ⟨b, 7, none⟩ = some (.int .i64 sc))
    (first | (with_reducible exact cells8 B2.out) | (with_reducible exact cells8 Bd.out) | (with_reducible exact cells8 B5.out) | (with_reducible exact cells8 B6.out) | (with_reducible exact cells8 B7.out))
    (first | (go_at_call 52; (refine (cfree_any co h ac (tot : Int) nx sc (P : Int) (fr : Int) (some ⟨g, q, none⟩) n c ra N rc _ HP.out HY.out h1 h2 h3 h4 (by omega) hb5).mono ?_; rintro e w5 ⟨rfl, hb⟩; have B5 := Lib.hid ((by first | exact B7.out | exact B6.out | exact Bd.out : Blk _ b _).below hb); have W5 := Lib.hid ((by first | exact W7.out | exact W6.out | exact Wd.out : Wrd _ g q n F).below hb); have H5 := Lib.hid (thru0 (by first | exact H7.out | exact H6.out | exact HBd.out) hb); clear hb)) | (go_at_call 115; (refine (objectAt_any co h ac (tot : Int) nx sc g q n c (.slice ra N rc) F pn x _ (by first | exact W5.out | exact Wd.out) n4 hnc HCM.out Z8.out Z6.out Z7.out (by rw [HSZ.out]; omega)).mono ?_; rintro e w6 ⟨oa, oc, rfl, ho, hb⟩; have B6 := Lib.hid ((by first | exact B5.out | exact Bd.out : Blk _ b _).below hb); have W6 := Lib.hid ((by first | exact W5.out | exact Wd.out : Wrd _ g q n F).below hb); have H6 := Lib.hid (thru0 (by first | exact H5.out | exact HBd.out) hb); clear hb ho)) | (go_at_call 114; (refine (implWO_any x.s x.m x.o x.h 0 ((sN : Int) + 2) _ HWO.out).mono ?_; rintro e w7 ⟨rfl, hb⟩; have B7 := Lib.hid ((by first | exact B5.out | exact B6.out : Blk _ b _).below hb); have W7 := Lib.hid ((by first | exact W5.out | exact W6.out : Wrd _ g q n F).below hb); have H7 := Lib.hid (thru0 (by first | exact H5.out | exact H6.out) hb); clear hb)))
  have c2 := B7.out.at 2 rfl; have lb7 := B7.out.1
  have hz7 := H7.out.size
  clear hfl1
  go_upto_region 6 with (fail)
  clear c2
  have Be := Lib.hid B7.out.drew; have We := Lib.hid W7.out.drew
  have He : Hid (Below w.heap.size w w7.drew) := Lib.hid ((HB2.out.trans (H7.out.mono hz2)).drew)
  have i0 : (0 : Int) ≤ (fr : Int) := by omega
  have i1 : (fr : Int) ≤ (n : Int) := by omega
  have i2 : (n : Int) ≤ (c : Int) := by omega
  have i3 : (0 : Int) ≤ (pn : Int) := by omega
  have i4 : (pn : Int) ≤ (pn : Int) + ((sN : Int) + 2) := by omega
  have i5 : (pn : Int) + ((sN : Int) + 2) ≤ (c : Int) := by omega
  have i6 : ((pn : Int) + ((sN : Int) + 2)).toNat = pn + (sN + 2) := by omega
  have i7 : IntKind.i64.wrap ((pn : Int) + ((sN : Int) + 2)) = (pn : Int) + ((sN : Int) + 2) := IntWalk.i64_in _ (by omega)
  have i8 : pn + (sN + 2) - pn = sN + 2 := by omega
  have i9 : ¬ c = fr := by omega
  have i10 : ¬ c = pn := by omega
  have hmin : Hid ((nums (sN + 2) (fun k => F (pn + k))).length = Nat.min (sN + 2) (n - fr)) := Lib.hid (by rw [nums_length]; show sN + 2 = min (sN + 2) (n - fr); omega)
  have hsrc : Hid (∀ j v, (nums (sN + 2) (fun k => F (pn + k)))[j]? = some v → w7.drew.cell? ((⟨g, q + pn, none⟩ : Addr).add j) = some v) := Lib.hid (fun j v hv => by
    by_cases hj : j < sN + 2
    · rw [nums_get _ _ _ hj] at hv
      have := We.out.cell (pn + j) (by omega)
      rw [← Nat.add_assoc] at this
      rw [← Option.some.inj hv]
      by_cases h0 : j = 0
      · subst h0
        simpa [Addr.add] using this
      · simpa [Addr.add, h0] using this
    · rw [List.getElem?_eq_none (by rw [nums_length]; omega)] at hv
      cases hv)
  have hcc : Hid (∀ j, j < (nums (sN + 2) (fun k => F (pn + k))).length → (w7.drew.cell? ⟨g, q + fr + j, none⟩).isSome = true) := Lib.hid (fun j hj => by
    rw [nums_length] at hj
    have := We.out.cell (fr + j) (by omega)
    rw [Nat.add_assoc, this]; rfl)
  have hff : Hid (∀ j, j < (nums (sN + 2) (fun k => F (pn + k))).length → w7.drew.frozen? ⟨g, q + fr + j, none⟩ = false) := Lib.hid (fun j hj => by
    rw [nums_length] at hj
    rw [Nat.add_assoc]
    exact We.out.free (fr + j) (by omega))
  have HPN : Hid (Wrd (w7.drew.setCells g (q + fr) (nums (sN + 2) (fun k => F (pn + k)))) g q n (cpF F fr pn (sN + 2))) := Lib.hid (wrd_of (own_copy We.out.own fr (sN + 2) (fun k => F (pn + k)) (by omega)) (by omega)).1
  have HKN : Hid (Kep w7.drew (w7.drew.setCells g (q + fr) (nums (sN + 2) (fun k => F (pn + k)))) b g) := Lib.hid (kep_of_keeps (keeps_copy (Nat.le_refl _) (Nat.lt_succ_self _) _ _ _ (Keeps.refl _ _ _)))
  have HKK : Hid (Kep w (w7.drew.setCells g (q + fr) (nums (sN + 2) (fun k => F (pn + k)))) b g) := Lib.hid ((kep_of_below He.out b g).trans HKN.out)
  have BN : Hid (Blk (w7.drew.setCells g (q + fr) (nums (sN + 2) (fun k => F (pn + k)))) b [.int .i64 co, .int .i64 h, .slice (some ⟨g, q, none⟩) n c, .int .i64 ac, .int .i64 (tot : Int), .slice ra N rc, .int .i64 nx, .int .i64 sc]) := Lib.hid (Be.out.keeps (lo := g) (hi := g + 1) (keeps_copy (Nat.le_refl _) (Nat.lt_succ_self _) _ _ _ (Keeps.refl _ _ _)) (by omega))
  go_still_tail 9, (by kernel_rfl)
  try refine wpStill_nil ?_
  change wpList _ _ _ _ _ w7.drew
  with_reducible refine wpList_copy_cells rfl (.tmp 38) (.tmp 44) 22 22 rfl 2 Try.underlying22 (by kernel_rfl) g (q + fr) (n - fr) (c - fr) ⟨g, q + pn, none⟩ (sN + 2) (c - pn) rfl rfl (nums (sN + 2) (fun k => F (pn + k))) hmin.out hsrc.out hcc.out hff.out (nums_one _ _) ?_
  clear hsrc hcc hff hmin i0 i1 i2 i4 i5 i6 i7 i8 i9 i10 We Be He HKN
  generalize w7.drew.setCells g (q + fr) (nums (sN + 2) (fun k => F (pn + k))) = wz at *
  go_wp2_with fail
  refine (implFW_any (fr : Int) 0 (2 * (fr : Int) + 2) _ HFWO.out).mono ?_
  rintro e w9 ⟨rfl, hb⟩
  have B9 := Lib.hid (BN.out.below hb); have W9 := Lib.hid (HPN.out.below hb); have K9 := Lib.hid (HKK.out.trans (kep_of_below hb b g))
  clear hb HPN HKK BN
  have hi1 : (pn : Int) < (n : Int) := by omega
  have v9 := W9.out.cell pn hpn; have u9 := W9.out.free pn hpn; have lg9 := W9.out.lt
  have c4 := B9.out.at 4 rfl; have f4 := B9.out.free 4 rfl; have lb9 := B9.out.1
  go_wp2
  go_ret
  obtain ⟨hp1, hp2⟩ := W9.out.put pn hpn (2 * (fr : Int) + 2)
  have B10 := (B9.out.other (p := ⟨g, q + pn, none⟩) (by show g ≠ b; omega) (.int .i64 (2 * (fr : Int) + 2))).set 4 (by simp) (.int .i64 ((tot : Int) + ((sN : Int) + 2)))
  refine ⟨rfl, hp1.other (by show b ≠ g; omega) _, ?_, K9.out.trans ((hp2 b).trans (kep_set (p := ⟨b, 4, none⟩) (.inl rfl) _))⟩
  have he : ((tot + (sN + 2) : Nat) : Int) = (tot : Int) + ((sN : Int) + 2) := by omega
  rw [he]
  exact B10

/-- What is brought over in the program. -/
def RetBrP (W : World) (b g q n c : Nat) (co h ac nx sc : Int) (rv : Value) (f : Nat → Int) (L : List Ob) (P : Nat) (R : List Int) (s kk : Nat) (p : Int) (e : Ending) (w' : World) : Prop :=
  ∃ F', e = .returned (.int .i64 (goes R (newPlaces P (objsO L R)) p)) ∧ Wrd w' g q n F' ∧ CW f L P R s kk F' ∧ Blk w' b [.int .i64 co, .int .i64 h, .slice (some ⟨g, q, none⟩) n c, .int .i64 ac, .int .i64 ((totO (objsO L R) : Nat) : Int), rv, .int .i64 nx, .int .i64 sc] ∧ Kep W w' b g

theorem bring_any (b g q n c : Nat) (co h ac nx sc : Int) (ra : Option Addr) (N rc : Nat) (F : Nat → Int) (p : Int) (f : Nat → Int) (L : List Ob) (B U P H : Nat) (R : List Int) (s kk : Nat) (w : World) (hB : Blk w b [.int .i64 co, .int .i64 h, .slice (some ⟨g, q, none⟩) n c, .int .i64 ac, .int .i64 ((totO (objsO L R) : Nat) : Int), .slice ra N rc, .int .i64 nx, .int .i64 sc]) (hW : Wrd w g q n F) (hbg : b ≠ g) (hn : n = 2 * H) (hnc : n ≤ c) (hcm : c ≤ maxLen) (cw : CW f L P R s kk F) (a : Cop f L B U P H) (hp : p ∈ placesO L) (hP : baseI ac h = (P : Int)) (h1 : 0 ≤ h) (h2 : h ≤ 200) (h3 : 0 ≤ ac) (h4 : ac ≤ 1) :
    Calls Try.prog 99 #[.pointer (some ⟨b, 0, none⟩), .int .i64 p] w (RetBrP w b g q n c co h ac nx sc (.slice ra N rc) f L P (addNew R [p]) s kk p) := by
  obtain ⟨pn, rfl⟩ : ∃ pn : Nat, p = (pn : Int) := ⟨p.toNat, by have := (a.word_x hp).1; omega⟩
  by_cases hR : (pn : Int) ∈ R
  · have e : addNew R [(pn : Int)] = R := by rw [addNew_one, if_pos hR]
    rw [e]
    refine (bring_old b g q n c co h ac _ nx sc _ F pn f L B U P H R s kk w hB hW hn cw a hp hR).mono ?_
    rintro e w' ⟨rfl, hb⟩
    exact ⟨F, rfl, hW.below hb, cw, hB.below hb, kep_of_below hb b g⟩
  · have e : addNew R [(pn : Int)] = R ++ [(pn : Int)] := by rw [addNew_one, if_neg hR]
    rw [e]
    obtain ⟨x, hx⟩ := mem_placesO.1 hp
    obtain ⟨z1, z2, z3, z4, z5, z6, z7, z8⟩ := cw.fits a hx hR
    refine (bring_new b g q n c co h ac nx sc _ _ ra N rc F pn x f L B U P H R s kk w hB hW hbg hn hnc hcm cw a hp hR hx rfl rfl hP h1 h2 h3 h4).mono ?_
    rintro e w' ⟨rfl, h1, h2, h3⟩
    refine ⟨_, ?_, h1, cw.brought a hx hR rfl, ?_, h3⟩
    · rw [objsO_snoc hx, goes_new cw.len hR]
    · rw [z2]
      exact h2
end Go.Proofs.Ytnacdhnnpddccaa

namespace Go.Proofs.Ytnacdhnnpddccaa
open Go.RowKit
set_option linter.unusedVariables false

/-- As Q; by a goto: J. -/
def jumpsX (J : Nat → Act → World → Prop) (Q : Exit → Act → World → Prop) : Exit → Act → World → Prop
  | .goto l, a, w => J l a w
  | e, a, w => Q e a w

section

variable {P : Program} {a : Act} {w : World} {Q : Exit → Act → World → Prop}

theorem wp_scope_many {c : Code} (J : Nat → Act → World → Prop) (μ : Nat → Act → World → Nat)
    (first : c.wp P (jumpsX J Q) a w)
    (pass : ∀ l a w, J l a w → ∃ rest, findLabel c l = some rest ∧ rest.wp P (jumpsX (fun l' a' w' => J l' a' w' ∧ μ l' a' w' < μ l a w) Q) a w) : (Code.scope c).wp P Q a w := by
  intro b k cs
  have key : ∀ n l a w rest, μ l a w = n → J l a w → findLabel c l = some rest → ∃ e a' w', Q e a' w' ∧ Arrives P (lone (b.at a (.code rest :: .inScope c :: k)) cs w) b k cs e a' w' := by
    intro n
    induction n using Nat.strongRecOn with
    | _ n ih =>
      intro l a w rest hn hJ hf
      obtain ⟨rest', hf', hp⟩ := pass l a w hJ
      rw [hf] at hf'
      obtain rfl := Option.some.inj hf'
      obtain ⟨e, a₁, w₁, hq, harr⟩ := hp b (.inScope c :: k) cs
      cases e with
      | normal => exact ⟨.normal, a₁, w₁, hq, Steps.trans harr (.one step_inScope)⟩
      | exit id => exact ⟨.exit id, a₁, w₁, hq, fun k' hk => harr k' (by simp [exitTo, hk])⟩
      | goto l' =>
        obtain ⟨hJ', hlt⟩ := hq
        obtain ⟨rest2, hf2, _⟩ := pass l' a₁ w₁ hJ'
        have hg : gotoIn l' (.inScope c :: k) = some (.code rest2 :: .inScope c :: k) := by simp [gotoIn, hf2]
        obtain ⟨e₂, a₂, w₂, hq₂, harr₂⟩ := ih _ (by omega) l' a₁ w₁ rest2 rfl hJ' hf2
        exact ⟨e₂, a₂, w₂, hq₂, .of_steps (harr _ hg) harr₂⟩
      | ret => exact ⟨_, a₁, w₁, hq, harr⟩
      | panic ch => exact ⟨_, a₁, w₁, hq, harr⟩
      | outgrown => exact ⟨_, a₁, w₁, hq, harr⟩
  obtain ⟨e, a₁, w₁, hq, harr⟩ := first b (.inScope c :: k) cs
  cases e with
  | normal => exact ⟨.normal, a₁, w₁, hq, .head step_scope (Steps.trans harr (.one step_inScope))⟩
  | exit id => exact ⟨.exit id, a₁, w₁, hq, fun k' hk => .head step_scope (harr k' (by simp [exitTo, hk]))⟩
  | goto l' =>
    have hJ' : J l' a₁ w₁ := hq
    obtain ⟨rest2, hf2, _⟩ := pass l' a₁ w₁ hJ'
    have hg : gotoIn l' (.inScope c :: k) = some (.code rest2 :: .inScope c :: k) := by simp [gotoIn, hf2]
    obtain ⟨e₂, a₂, w₂, hq₂, harr₂⟩ := key _ l' a₁ w₁ rest2 rfl hJ' hf2
    exact ⟨e₂, a₂, w₂, hq₂, .of_steps (.head step_scope (harr _ hg)) harr₂⟩
  | ret => exact ⟨_, a₁, w₁, hq, .of_steps (.one step_scope) harr⟩
  | panic ch => exact ⟨_, a₁, w₁, hq, .of_steps (.one step_scope) harr⟩
  | outgrown => exact ⟨_, a₁, w₁, hq, .of_steps (.one step_scope) harr⟩

theorem wp_scope_many2 {c : Code} (J : Nat → Act → World → Prop) (μ : Nat → Act → World → Nat)
    (pass : ∀ l a w, J l a w → ∃ rest, findLabel c l = some (Code.skip.seq rest) ∧ rest.wp P (jumpsX (fun l' a' w' => J l' a' w' ∧ μ l' a' w' < μ l a w) Q) a w)
    (first : (∀ l a w, J l a w → ∃ rest, findLabel c l = some (Code.skip.seq rest) ∧ rest.wp P (jumpsX (fun l' a' w' => J l' a' w' ∧ μ l' a' w' < μ l a w) Q) a w) → c.wp P (jumpsX J Q) a w) : (Code.scope c).wp P Q a w :=
  wp_scope_many J μ (first pass) fun l a w h => by
    obtain ⟨rest, h1, h2⟩ := pass l a w h
    exact ⟨_, h1, wp_seq (wp_skip h2)⟩

theorem jumpsX_mono {J J' : Nat → Act → World → Prop} (h : ∀ l a w, J l a w → J' l a w) : ∀ e a w, jumpsX J Q e a w → jumpsX J' Q e a w
  | .goto l, a, w, hq => h l a w hq
  | .normal, _, _, hq => hq
  | .exit _, _, _, hq => hq
  | .ret, _, _, hq => hq
  | .panic _, _, _, hq => hq
  | .outgrown, _, _, hq => hq

end
end Go.Proofs.Ytnacdhnnpddccaa

namespace Go.Proofs.Ytnacdhnnpddccaa
open Go.RowKit
set_option linter.unusedVariables false

/-- The load of where it is looked through (a name of its own: the walk looks at it when its turn comes). -/
def opSc : Oper := { dst := some 31, op := .load 2 (.tmp 30), type := 2, pos := "l11_step.go:103", after := #[{ on := 2, ground := .data }], guard := none }
end Go.Proofs.Ytnacdhnnpddccaa

namespace Go.Proofs.Ytnacdhnnpddccaa
open Go.RowKit Go.Maps
set_option linter.unusedVariables false
attribute [local go_sem] opSc

theorem cells1234o {w : World} {b : Nat} {v0 v1 v2 v3 v4 v5 : Value} (h : Blk w b [v0, v1, v2, v3, v4, v5]) : w.cell? ⟨b, 1, none⟩ = some v1 ∧ w.cell? ⟨b, 2, none⟩ = some v2 ∧ w.cell? ⟨b, 3, none⟩ = some v3 ∧ w.cell? ⟨b, 4, none⟩ = some v4 := ⟨h.at 1 rfl, h.at 2 rfl, h.at 3 rfl, h.at 4 rfl⟩

theorem cells27 {w : World} {b : Nat} {v0 v1 v2 v3 v4 v5 v6 v7 : Value} (h : Blk w b [v0, v1, v2, v3, v4, v5, v6, v7]) : w.cell? ⟨b, 2, none⟩ = some v2 ∧ w.cell? ⟨b, 7, none⟩ = some v7 := ⟨h.at 2 rfl, h.at 7 rfl⟩

/-- What lies in memory while an object is looked through. -/
structure LTS (w w' : World) (b g q n c : Nat) (co h ac nx : Int) (ra : Option Addr) (N rc sc : Nat) (f : Nat → Int) (L : List Ob) (P : Nat) (R : List Int) (s : Nat) (x : Ob) (sN ob : Nat) (oa : Option Addr) (oc i : Nat) (G : Nat → Int) : Prop where
  blk : Blk w' b [.int .i64 co, .int .i64 h, .slice (some ⟨g, q, none⟩) n c, .int .i64 ac, .int .i64 ((totO (objsO L (addNew R (ptrsK f x i))) : Nat) : Int), .slice ra N rc, .int .i64 nx, .int .i64 (sc : Int)]
  wrd : Wrd w' g q n G
  cw : CW f L P (addNew R (ptrsK f x i)) s i G
  obj : Blk w' ob [.int .i64 0, .int .i64 x.s, .int .i64 x.m, .int .i64 x.o, .int .i64 x.h, .slice oa sN oc]
  fld : Own w' w.heap.size oa sN (fun k => f (x.at_.toNat + 2 + k))
  kep : Kep w w' b g
  obl : w.heap.size ≤ ob

theorem LTS.below {w w' w'' : World} {b g q n c : Nat} {co h ac nx : Int} {ra : Option Addr} {N rc sc : Nat} {f : Nat → Int} {L : List Ob} {P : Nat} {R : List Int} {s : Nat} {x : Ob} {sN ob : Nat} {oa : Option Addr} {oc i : Nat} {G : Nat → Int} (d : LTS w w' b g q n c co h ac nx ra N rc sc f L P R s x sN ob oa oc i G) (hb : Below w'.heap.size w' w'') : LTS w w'' b g q n c co h ac nx ra N rc sc f L P R s x sN ob oa oc i G :=
  ⟨d.blk.below hb, d.wrd.below hb, d.cw, d.obj.below hb, d.fld.below hb, d.kep.trans (kep_of_below hb b g), d.obl⟩

theorem Own.kep {w w' : World} {B b g : Nat} {a : Option Addr} {n : Nat} {F : Nat → Int} (h : Own w B a n F) (hk : Kep w w' b g) (h1 : b < B) (h2 : g < B) : Own w' B a n F := by
  rcases h with h | ⟨k, off, e, hB, hl, hc⟩
  · exact .inl h
  · have eb := hk.block k hl (by omega) (by omega)
    exact .inr ⟨k, off, e, hB, Nat.lt_of_lt_of_le hl hk.size, fun i hi => ⟨(World.cell?_of_block (w := w) (a := ⟨k, off + i, none⟩) eb).trans (hc i hi).1, (World.frozen?_of_block (w := w) (a := ⟨k, off + i, none⟩) eb).trans (hc i hi).2⟩⟩

/-- What holds at a jump. -/
def JL (w : World) (b g q n c : Nat) (co h ac nx : Int) (ra : Option Addr) (N rc sc : Nat) (f : Nat → Int) (L : List Ob) (P : Nat) (R : List Int) (s : Nat) (x : Ob) (sN : Nat) (l : Nat) (a' : Act) (w' : World) : Prop :=
  (l = 1 ∧ ∃ (ob : Nat) (oa : Option Addr) (oc i : Nat) (G : Nat → Int) (u1 u4 u5 u6 u7 u8 u9 u10 u11 u12 u13 u14 u15 u16 u17 u18 u19 u20 u21 u22 u23 u24 u25 u26 u27 u28 u29 u30 u31 u32 u33 u34 u35 u36 u37 u38 u39 u40 u41 u42 u43 u44 u45 u46 u47 u48 u49 u50 u51 u52 u53 u54 u55 u56 u57 u58 : Value), i ≤ sN ∧ Hid (LTS w w' b g q n c co h ac nx ra N rc sc f L P R s x sN ob oa oc i G) ∧ a' = { tmps := #[.pointer (some ⟨b, 0, none⟩), u1, .pointer (some ⟨ob, 0, none⟩), .int .i64 (i : Int), u4, u5, u6, u7, u8, u9, u10, u11, u12, u13, u14, u15, u16, u17, u18, u19, u20, u21, u22, u23, u24, u25, u26, u27, u28, u29, u30, u31, u32, u33, u34, u35, u36, u37, u38, u39, u40, u41, u42, u43, u44, u45, u46, u47, u48, u49, u50, u51, u52, u53, u54, u55, u56, u57, u58], defers := [] }) ∨
  (l = 0 ∧ ∃ (ob : Nat) (oa : Option Addr) (oc i : Nat) (G : Nat → Int) (u1 u5 u6 u7 u8 u9 u10 u11 u12 u13 u14 u15 u16 u17 u18 u19 u20 u21 u22 u23 u24 u25 u26 u27 u28 u29 u30 u31 u32 u33 u34 u35 u36 u37 u38 u39 u40 u41 u42 u43 u44 u45 u46 u47 u48 u49 u50 u51 u52 u53 u54 u55 u56 u57 u58 : Value), i < sN ∧ Hid (LTS w w' b g q n c co h ac nx ra N rc sc f L P R s x sN ob oa oc i G) ∧ Hid (x.m / P2 (i : Int) % 2 = 1 ∧ ¬ f (x.at_.toNat + 2 + i) = 0) ∧ a' = { tmps := #[.pointer (some ⟨b, 0, none⟩), u1, .pointer (some ⟨ob, 0, none⟩), .int .i64 (i : Int), .int .i64 (f (x.at_.toNat + 2 + i) - 1), u5, u6, u7, u8, u9, u10, u11, u12, u13, u14, u15, u16, u17, u18, u19, u20, u21, u22, u23, u24, u25, u26, u27, u28, u29, u30, u31, u32, u33, u34, u35, u36, u37, u38, u39, u40, u41, u42, u43, u44, u45, u46, u47, u48, u49, u50, u51, u52, u53, u54, u55, u56, u57, u58], defers := [] })

def μL (sN l : Nat) (a' : Act) : Nat := if l = 1 then 2 * (sN - (intOf (a'.tmps.getD 3 undef)).toNat) + 1 else 2 * (sN - (intOf (a'.tmps.getD 3 undef)).toNat)

set_option maxRecDepth 100000 in
set_option maxHeartbeats 6400000 in
theorem lookThrough_any (b g q n c : Nat) (co h ac nx : Int) (ra : Option Addr) (N rc : Nat) (F : Nat → Int) (f : Nat → Int) (L : List Ob) (B U P H sc : Nat) (R : List Int) (s : Nat) (x : Ob) (w : World) (hB : Blk w b [.int .i64 co, .int .i64 h, .slice (some ⟨g, q, none⟩) n c, .int .i64 ac, .int .i64 ((totO (objsO L R) : Nat) : Int), .slice ra N rc, .int .i64 nx, .int .i64 (sc : Int)]) (hW : Wrd w g q n F) (hbg : b ≠ g) (hn : n = 2 * H) (hnc : n ≤ c) (hcm : c ≤ maxLen) (cw : CW f L P R s 0 F) (a : Cop f L B U P H) (hs : s < R.length) (hx : findO L R[s] = some x) (hsc : sc = placeAt P (objsO L R) s) (hP : baseI ac h = (P : Int)) (h1 : 0 ≤ h) (h2 : h ≤ 200) (h3 : 0 ≤ ac) (h4 : ac ≤ 1) :
    Calls Try.prog 100 #[.pointer (some ⟨b, 0, none⟩)] w fun e w' => e = .returned (.tuple #[]) ∧ ∃ F', Wrd w' g q n F' ∧ CW f L P (addNew R (ptrs f x)) (s + 1) 0 F' ∧ Blk w' b [.int .i64 co, .int .i64 h, .slice (some ⟨g, q, none⟩) n c, .int .i64 ac, .int .i64 ((totO (objsO L (addNew R (ptrs f x))) : Nat) : Int), .slice ra N rc, .int .i64 nx, .int .i64 ((placeAt P (objsO L (addNew R (ptrs f x))) (s + 1) : Nat) : Int)] ∧ Kep w w' b g := by
  have hsub := cw.sub
  have hxL := List.mem_of_find?_eq_some hx
  have hok := a.right.ok x hxL
  have cw0 : CW f L P (addNew R (ptrsK f x 0)) s 0 F := cw
  obtain ⟨_, _, _, _, k4, k5, _, k7, k8⟩ := cw0.lookK a hsub hs hx
  rw [← hsc] at k4 k5 k7 k8
  obtain ⟨sN, hS⟩ : ∃ sN : Nat, x.s = (sN : Int) := ⟨x.s.toNat, by have := hok.1.1.1; omega⟩
  have hsN : sN ≤ 12 := by have := hok.1.1.2; omega
  have hsz : x.s.toNat = sN := by omega
  have hend : ptrsK f x sN = ptrs f x := by rw [← hsz]; exact ptrsK_all f x
  have hfl0 : ∀ k, k < sN → F (sc + 2 + k) = f (x.at_.toNat + 2 + k) := by
    intro k hk
    have hl0 : CW f L P (addNew R (ptrsK f x 0)) s 0 F := cw
    obtain ⟨y, _, y1, _, _, _, _, _, _, y8⟩ := cw.look a hs
    have : y = x := by rw [hx] at y1; exact (Option.some.inj y1).symm
    subst this
    rw [hsc]
    exact y8 k (Nat.zero_le _) (by omega)
  have hWO : IsWO x.s x.m x.o x.h 0 ((sN : Int) + 2) := .inl ⟨hok.1, rfl, by rw [hS]⟩
  have n1 : sc + 2 + sN ≤ n := by omega
  have n4 : n ≤ 400 := by have := a.room; omega
  have B0 := Lib.hid hB; have W0 := Lib.hid hW; have CWH := Lib.hid cw0; have AH := Lib.hid a; have HN := Lib.hid hn; have HSC := Lib.hid hsc; have HSUB := Lib.hid hsub; have HX := Lib.hid hx; have HXL := Lib.hid hxL; have HSZ := Lib.hid hsz; have HEND := Lib.hid hend; have HFL0 := Lib.hid hfl0; have HOK := Lib.hid hok; have HWO := Lib.hid hWO; have HP := Lib.hid hP; have HCM := Lib.hid hcm; have K7 := Lib.hid k7; have K8 := Lib.hid k8; have HSS := Lib.hid hS
  have lB := hB.1; have lg := hW.lt
  clear hB hW cw cw0 a hn hsc hsub hx hxL hsz hend hfl0 hok hWO hP hcm k4 k5 k7 k8 hS
  go_enter Try.func100, Try.ntmps100
  refine wp_scope_many2 (JL w b g q n c co h ac nx ra N rc sc f L P R s x sN) (fun l a' _ => μL sN l a') ?_ ?_
  · intro l a' w' hJ
    rcases hJ with ⟨rfl, ob, oa, oc, i, G, u1, u4, u5, u6, u7, u8, u9, u10, u11, u12, u13, u14, u15, u16, u17, u18, u19, u20, u21, u22, u23, u24, u25, u26, u27, u28, u29, u30, u31, u32, u33, u34, u35, u36, u37, u38, u39, u40, u41, u42, u43, u44, u45, u46, u47, u48, u49, u50, u51, u52, u53, u54, u55, u56, u57, u58, hi, HS, rfl⟩ | ⟨rfl, ob, oa, oc, i, G, u1, u5, u6, u7, u8, u9, u10, u11, u12, u13, u14, u15, u16, u17, u18, u19, u20, u21, u22, u23, u24, u25, u26, u27, u28, u29, u30, u31, u32, u33, u34, u35, u36, u37, u38, u39, u40, u41, u42, u43, u44, u45, u46, u47, u48, u49, u50, u51, u52, u53, u54, u55, u56, u57, u58, hi, HS, HLD, rfl⟩
    · refine ⟨_, rfl, ?_⟩
      go_wp2
      go_loopw [3] (fun k wr => ∃ j : Nat, i ≤ j ∧ j ≤ sN ∧ k = .int .i64 (j : Int) ∧ Hid (LTS w wr b g q n c co h ac nx ra N rc sc f L P R s x sN ob oa oc j G)) (fun k _ => sN - (intOf k).toNat)
      case atStart => exact ⟨i, Nat.le_refl _, hi, rfl, HS⟩
      case round =>
        obtain ⟨j, hij, hj, rfl, HR⟩ := hrel
        have o0 := HR.out.obj.at 0 rfl; have o1 := HR.out.obj.at 1 rfl; have o2 := HR.out.obj.at 2 rfl; have o3 := HR.out.obj.at 3 rfl; have o4 := HR.out.obj.at 4 rfl; have o5 := HR.out.obj.at 5 rfl; have lob := HR.out.obj.1
        by_cases hlt : j < sN
        · have hlt' : (j : Int) < (sN : Int) := by omega
          have hWv := Lib.hid (show Word (f (x.at_.toNat + 2 + j)) from by
            have := AH.out.bounds x HXL.out; have := AH.out.room; have := HSZ.out
            exact AH.out.word _ (by omega))
          go_wp2_with fail
          refine (target_any ⟨0, x.s, x.m, x.o, x.h, oa, sN, oc, fun k => f (x.at_.toNat + 2 + k)⟩ j _ HR.out.fld.src hlt HOK.out.1 HSZ.out.symm hWv.out).mono ?_
          rintro e w2 ⟨hb, rfl⟩
          have HR2 := Lib.hid (HR.out.below hb)
          clear hb o0 o1 o2 o3 o4 o5
          by_cases hld : x.m / P2 (j : Int) % 2 = 1 ∧ ¬ f (x.at_.toNat + 2 + j) = 0
          · have htv : tgtV ⟨0, x.s, x.m, x.o, x.h, oa, sN, oc, fun k => f (x.at_.toNat + 2 + k)⟩ j = some (f (x.at_.toNat + 2 + j) - 1) := if_pos hld
            have HLD := Lib.hid hld
            rw [htv]
            dsimp only [Option.getD, Option.isSome]
            clear hld htv
            go_wp2
            go_step3
            refine ⟨.inr ⟨rfl, ob, oa, oc, j, G, u1, _, _, _, _, _, _, _, _, _, _, _, _, _, _, _, _, _, _, _, _, _, _, _, _, _, _, _, _, _, _, _, _, _, _, _, _, _, _, _, _, _, _, _, _, _, _, _, _, _, _, _, _, _, _, hlt, HR2, HLD, rfl⟩, ?_⟩
            simp [μL, intOf]; omega
          · have htv : tgtV ⟨0, x.s, x.m, x.o, x.h, oa, sN, oc, fun k => f (x.at_.toNat + 2 + k)⟩ j = none := if_neg hld
            have HLD := Lib.hid hld
            rw [htv]
            dsimp only [Option.getD, Option.isSome]
            clear hld htv
            go_wp2
            go_roundw
            case rel => exact ⟨j + 1, by omega, by omega, by go_num, Lib.hid ⟨by rw [addK_no R HLD.out]; exact HR2.out.blk, HR2.out.wrd, HR2.out.cw.lookStay AH.out HSUB.out hs HX.out (by rw [HSZ.out]; exact hlt) HLD.out, HR2.out.obj, HR2.out.fld, HR2.out.kep, HR2.out.obl⟩⟩
            case measure => simp [intOf]; omega
        · have hlt' : ¬ (j : Int) < (sN : Int) := by omega
          obtain rfl : j = sN := by omega
          go_upto_region 6 with (fail)
          have HRd := Lib.hid (HR.out.below (Below.refl _ _).drew)
          have d7 := HRd.out.blk.at 7 rfl; have ld7 := HRd.out.blk.1
          clear o0 o1 o2 o3 o4 o5
          have hfl := fld_ir
          have hwv : IntKind.i64.wrap ((sc : Int) + ((j : Int) + 2)) = (sc : Int) + ((j : Int) + 2) := IntWalk.i64_in _ (by omega)
          change Code.wp Try.prog (Code.region 6 #[_, _, _, opSc, _, _, _, _, _, _, _, _] true) _ _ _
          go_region_held3 (fun w' => w'.cell? ⟨ob, 1, none⟩ = some (.int .i64 x.s) ∧ w'.cell? ⟨ob, 2, none⟩ = some (.int .i64 x.m) ∧ w'.cell? ⟨ob, 3, none⟩ = some (.int .i64 x.o) ∧ w'.cell? ⟨ob, 4, none⟩ = some (.int .i64 x.h))
            (first | (with_reducible exact cells1234o HR.out.obj) | (with_reducible exact cells1234o HRd.out.obj) | (with_reducible exact cells1234o HR9.out.obj) | (with_reducible exact cells1234o (HR9.out.obj.other (by have := HR9.out.obl; show b ≠ ob; omega) _)))
            (first | (go_at_call 114; (refine (implWO_any x.s x.m x.o x.h 0 ((j : Int) + 2) _ HWO.out).mono ?_; rintro e w9 ⟨rfl, hb⟩; have HR9 := Lib.hid (HRd.out.below hb); clear hb; have e7 := HR9.out.blk.at 7 rfl; have f7 := HR9.out.blk.free 7 rfl; have le7 := HR9.out.blk.1)))
          all_goals go_wp2
          all_goals simp only [jumpsX]
          all_goals
            refine bodyPost_ret (v := .tuple #[]) (by simp [results, Try.results100, go_sem]) rfl ⟨rfl, G, HR9.out.wrd.other (by show b ≠ g; omega) _, ?_, ?_, HR9.out.kep.trans (kep_set (.inl rfl) _)⟩
            · exact HR9.out.cw.lookEnd AH.out HSUB.out hs HX.out HSZ.out.symm
            · obtain ⟨_, _, _, _, _, _, q7, _, _⟩ := HR9.out.cw.lookK AH.out HSUB.out hs HX.out
              have h9 := HR9.out.blk.set 7 (by simp) (.int .i64 ((sc : Int) + ((j : Int) + 2)))
              rw [HEND.out] at h9 q7
              have e9 : ((placeAt P (objsO L (addNew R (ptrs f x))) (s + 1) : Nat) : Int) = (sc : Int) + ((j : Int) + 2) := by
                have := HSC.out; have := HSZ.out
                omega
              rw [e9]
              exact h9
    · refine ⟨_, rfl, ?_⟩
      go_wp2
      go_upto_region 7 with (fail)
      have HRd := Lib.hid (HS.out.below (Below.refl _ _).drew)
      have lbb := HS.out.blk.1
      have hat : sc + 2 + i < n := by omega
      have j0 : (0 : Int) ≤ (sc : Int) + 2 + (i : Int) := by omega
      have j1 : (sc : Int) + 2 + (i : Int) < (n : Int) := by omega
      have j2 : ((sc : Int) + 2 + (i : Int)).toNat = sc + 2 + i := by omega
      have j3 : IntKind.i64.wrap ((sc : Int) + 2) = (sc : Int) + 2 := IntWalk.i64_in _ (by omega)
      have j4 : IntKind.i64.wrap ((sc : Int) + 2 + (i : Int)) = (sc : Int) + 2 + (i : Int) := IntWalk.i64_in _ (by omega)
      have HPL := Lib.hid (AH.out.leads HXL.out (by rw [HSZ.out]; exact hi) HLD.out)
      obtain ⟨v, hv⟩ : ∃ v, f (x.at_.toNat + 2 + i) = v := ⟨_, rfl⟩
      rw [hv] at HPL ⊢
      have HV := Lib.hid hv
      clear hv
      go_region_held3 (fun w' => w'.cell? ⟨b, 2, none⟩ = some (.slice (some ⟨g, q, none⟩) n c) ∧ w'.cell? ⟨b, 7, none⟩ = some (.int .i64 (sc : Int)))
        (first | (with_reducible exact cells27 HS.out.blk) | (with_reducible exact cells27 HRd.out.blk) | (with_reducible exact cells27 B8.out) | (with_reducible exact cells27 B9.out) | (with_reducible exact cells27 (B9.out.other (by show g ≠ b; omega) _)))
        (first | (go_at_call 99; (refine (bring_any b g q n c co h ac nx (sc : Int) ra N rc G (v - 1) f L B U P H (addNew R (ptrsK f x i)) s i _ HRd.out.blk HRd.out.wrd hbg HN.out hnc HCM.out HRd.out.cw AH.out HPL.out HP.out h1 h2 h3 h4).mono ?_; rintro e w8 ⟨G', rfl, hw, hc, hb, hk⟩; have hg9 := hc.goes AH.out ((mem_addNew _ _ _).2 (.inr (by simp)) : v - 1 ∈ addNew (addNew R (ptrsK f x i)) [v - 1]); have ht9 := hc.tot AH.out; have hm9 := AH.out.room; have B8 := Lib.hid hb; have W8 := Lib.hid hw; have C8 := Lib.hid hc; have K8 := Lib.hid (HRd.out.kep.trans hk); have O8 := Lib.hid (HRd.out.obj.kep hk (by have := HRd.out.obl; omega) (by have := HRd.out.obl; omega)); have F8 := Lib.hid (HRd.out.fld.kep hk (by omega) (by omega)); clear hb hw hc hk; obtain ⟨V, hV⟩ : ∃ V, goes (addNew (addNew R (ptrsK f x i)) [v - 1]) (newPlaces P (objsO L (addNew (addNew R (ptrsK f x i)) [v - 1]))) (v - 1) = V := ⟨_, rfl⟩; rw [hV] at hg9 ⊢; have hVb : 0 ≤ V ∧ V ≤ 1000000 := (by omega); have HVV := Lib.hid hV; clear hV hg9 ht9 hm9)) | (go_at_call 117; (refine (pto_any V _ hVb).mono ?_; rintro e wq ⟨rfl, rfl⟩)) | (go_at_call 118; (refine (word_ptr (V + 1) _).mono ?_; rintro e w9 ⟨rfl, hb⟩; have B9 := Lib.hid (B8.out.below hb); have W9 := Lib.hid (W8.out.below hb); have K9 := Lib.hid (K8.out.trans (kep_of_below hb b g)); have O9 := Lib.hid (O8.out.below hb); have F9 := Lib.hid (F8.out.below hb); clear hb; have l9 := W9.out.lt; have r9 := W9.out.cell (sc + 2 + i) hat; have f9 := W9.out.free (sc + 2 + i) hat)))
      go_wp2
      go_step3
      refine ⟨.inl ⟨rfl, ob, oa, oc, i + 1, (fun j => if j = sc + 2 + i then V + 1 else G' j), _, _, _, _, _, _, _, _, _, _, _, _, _, _, _, _, _, _, _, _, _, _, _, _, _, _, _, _, _, _, _, _, _, _, _, _, _, _, _, _, _, _, _, _, _, _, _, _, _, _, _, _, _, _, _, _, by omega, Lib.hid ?_, by go_num⟩, ?_⟩
      · have h9 := CW.lookLead (W' := G') AH.out HSUB.out hs HX.out (by rw [HSZ.out]; exact hi) HLD.out (by rw [HV.out]; exact C8.out)
        have e9 : addNew R (ptrsK f x (i + 1)) = addNew (addNew R (ptrsK f x i)) [v - 1] := by rw [addK_yes R HLD.out, HV.out]
        rw [HV.out, ← HSC.out, e9, HVV.out] at h9
        obtain ⟨hp1, hp2⟩ := W9.out.put (sc + 2 + i) hat (V + 1)
        have hob := HS.out.obl
        exact ⟨by rw [e9]; exact B9.out.other (by show g ≠ b; omega) _, hp1, by rw [e9]; exact h9, O9.out.other (by show g ≠ ob; omega) _, F9.out.kep (hp2 b) (by omega) (by omega), K9.out.trans (hp2 b), hob⟩
      · simp [μL, intOf]; omega
  intro pass
  go_upto_region 0 with (fail)
  have Bd := Lib.hid B0.out.drew; have Wd := Lib.hid W0.out.drew
  have HBd : Hid (Below w.heap.size w w.drew) := Lib.hid (Below.refl _ _).drew
  go_region_held3 (fun w' => w'.cell? ⟨b, 0, none⟩ = some (.int .i64 co) ∧ w'.cell? ⟨b, 1, none⟩ = some (.int .i64 h) ∧ w'.cell? ⟨b, 2, none⟩ = some (.slice (some ⟨g, q, none⟩) n c) ∧ w'.cell? ⟨b, 3, none⟩ = some (.int .i64 ac) ∧ w'.cell? ⟨b, 4, none⟩ = some (.int .i64 ((totO (objsO L R) : Nat) : Int)) ∧ w'.cell? ⟨b, 5, none⟩ = some (.slice ra N rc) ∧ w'.cell? ⟨b, 6, none⟩ = some (.int .i64 nx) ∧ w'.cell? ⟨b, 7, none⟩ = some (.int .i64 (sc : Int)))
    (first | (with_reducible exact cells8 B0.out) | (with_reducible exact cells8 Bd.out) | (with_reducible exact cells8 (B0.out.alloc _).drew) | (with_reducible exact cells8 (Bd.out.alloc _)) | (with_reducible exact cells8 B5.out) | (with_reducible exact cells8 (B5.out.alloc _)) | (with_reducible exact cells8 (((((((B5.out.other (by (try simp); (try omega)) _).other (by (try simp); (try omega)) _).other (by (try simp); (try omega)) _).other (by (try simp); (try omega)) _).other (by (try simp); (try omega)) _).other (by (try simp); (try omega)) _))))
    (first | (go_at_call 115; refine (objectAt_any co h ac ((totO (objsO L R) : Nat) : Int) nx (sc : Int) g q n c (.slice ra N rc) F sc x _ (Wd.out.ext (by first | exact .inl rfl | exact ext_drew _ _ | exact .inr ⟨_, rfl⟩)) n4 hnc HCM.out HOK.out K7.out K8.out (by rw [HSZ.out]; omega)).mono ?_; rintro e w5 ⟨oa, oc, rfl, ho, hb⟩; have HB5 := Lib.hid (thru0 (below_ext (Below.refl w.heap.size w).drew (by first | exact .inl rfl | exact ext_drew _ _ | exact .inr ⟨_, rfl⟩)) hb); have W5 := Lib.hid ((Wd.out.ext (by first | exact .inl rfl | exact ext_drew _ _ | exact .inr ⟨_, rfl⟩)).below hb); have B5 := Lib.hid ((Bd.out.ext (by first | exact .inl rfl | exact ext_drew _ _ | exact .inr ⟨_, rfl⟩)).below hb); have z5 : w.heap.size ≤ w5.heap.size := (by have := hb.size; simp at this; omega); have HO5 := Lib.hid (ho.mono (B' := w.heap.size) (by simp)); have HO5b := Lib.hid ho; (first | (have T5 := Lib.hid ((Blk.new_at (w := w) (cs := #[.int .i64 0, .int .i64 0, .int .i64 0, .int .i64 0, .int .i64 0, .slice none 0 0]) (t := 87) (w.heap.size) rfl).drew.below hb)) | skip); clear hb ho; (first | (have lT := T5.out.1; have cT0 := T5.out.at 0 rfl; have fT0 := T5.out.free 0 rfl; have cT1 := T5.out.at 1 rfl; have fT1 := T5.out.free 1 rfl; have cT2 := T5.out.at 2 rfl; have fT2 := T5.out.free 2 rfl; have cT3 := T5.out.at 3 rfl; have fT3 := T5.out.free 3 rfl; have cT4 := T5.out.at 4 rfl; have fT4 := T5.out.free 4 rfl; have cT5 := T5.out.at 5 rfl; have fT5 := T5.out.free 5 rfl) | skip)))
  · have O6 := Lib.hid (HO5.out.alloc (.cells #[.int .i64 0, .int .i64 x.s, .int .i64 x.m, .int .i64 x.o, .int .i64 x.h, .slice oa x.s.toNat oc] 87))
    refine then_named (fun w6 => Hid (Below w.heap.size w w6) ∧ Hid (Blk w6 (w5.heap.size) [.int .i64 0, .int .i64 x.s, .int .i64 x.m, .int .i64 x.o, .int .i64 x.h, .slice oa x.s.toNat oc]) ∧ Hid (Own w6 w.heap.size oa x.s.toNat (fun k => F (sc + 2 + k)))) ⟨HB5.out.alloc HB5.out.size _, Blk.new_at _ rfl, O6⟩ (fun w6 hF => ?_)
    clear O6
    obtain ⟨HB6, T6, O6⟩ := hF
    have O6 : Hid (Own w6 w.heap.size oa sN (fun k => f (x.at_.toNat + 2 + k))) := Lib.hid (by have := O6.out; rw [HSZ.out] at this; exact this.congr HFL0.out)
    have z6 := HB6.out.size
    have B6 := Lib.hid (B0.out.below HB6.out); have W6 := Lib.hid (W0.out.below HB6.out)
    rw [HSZ.out] at T6
    obtain ⟨rest, hr, hw⟩ := pass 1 { tmps := #[.pointer (some ⟨b, 0, none⟩), undef, .pointer (some ⟨w5.heap.size, 0, none⟩), .int .i64 0, .int .i64 0, .bool false, .pointer (some ⟨b, 0, none⟩), .pointer (some ⟨b, 0, none⟩), .agg #[.int .i64 co, .int .i64 h, .slice (some ⟨g, q, none⟩) n c, .int .i64 ac, .int .i64 ((totO (objsO L R) : Nat) : Int), .slice ra N rc, .int .i64 nx, .int .i64 (sc : Int)], .pointer (some ⟨b, 0, none⟩), .pointer (some ⟨b, 0, none⟩), .pointer (some ⟨b, 7, none⟩), .int .i64 (sc : Int), .agg #[.int .i64 0, .int .i64 x.s, .int .i64 x.m, .int .i64 x.o, .int .i64 x.h, .slice oa sN oc], undef, undef, undef, undef, undef, undef, undef, undef, undef, undef, undef, undef, undef, undef, undef, undef, undef, undef, undef, undef, undef, undef, undef, undef, undef, undef, undef, undef, undef, undef, undef, undef, undef, undef, undef, undef, undef, undef, undef, undef, undef, undef, undef, undef, undef], defers := [] } w6 (.inl ⟨rfl, w5.heap.size, oa, oc, 0, F, _, _, _, _, _, _, _, _, _, _, _, _, _, _, _, _, _, _, _, _, _, _, _, _, _, _, _, _, _, _, _, _, _, _, _, _, _, _, _, _, _, _, _, _, _, _, _, _, _, _, _, _, _, _, _, _, Nat.zero_le _, Lib.hid ⟨B6.out, W6.out, CWH.out, T6.out, O6.out, kep_of_below HB6.out b g, by omega⟩, rfl⟩)
    cases hr
    go_wp2_with fail
    go_step3
    rw [HSZ.out]
    simp only [Exit.then]
    rename_i hK
    exact hK _ _ (Code.wp_mono (jumpsX_mono (fun _ _ _ h => h.1)) hw)
  · have O6 : Hid (Own ((((((w5.setCell ⟨w.heap.size, 0, none⟩ (.int .i64 0)).setCell ⟨w.heap.size, 1, none⟩ (.int .i64 x.s)).setCell ⟨w.heap.size, 2, none⟩ (.int .i64 x.m)).setCell ⟨w.heap.size, 3, none⟩ (.int .i64 x.o)).setCell ⟨w.heap.size, 4, none⟩ (.int .i64 x.h)).setCell ⟨w.heap.size, 5, none⟩ (.slice oa x.s.toNat oc)) w.heap.size oa x.s.toNat (fun k => F (sc + 2 + k))) := Lib.hid (by
      refine Own.mono (B := w.heap.size + 1) ?_ (by omega)
      repeat (first | (with_reducible refine Own.setCell ?_ (by (try simp); (try omega)) _))
      exact HO5b.out.mono (by simp))
    refine then_named (fun w6 => Hid (Below w.heap.size w w6) ∧ Hid (Blk w6 (w.heap.size) [.int .i64 0, .int .i64 x.s, .int .i64 x.m, .int .i64 x.o, .int .i64 x.h, .slice oa x.s.toNat oc]) ∧ Hid (Own w6 w.heap.size oa x.s.toNat (fun k => F (sc + 2 + k)))) ⟨((((((HB5.out.setCell (by (try simp); (try omega)) _).setCell (by (try simp); (try omega)) _).setCell (by (try simp); (try omega)) _).setCell (by (try simp); (try omega)) _).setCell (by (try simp); (try omega)) _).setCell (by (try simp); (try omega)) _), ((((((T5.out.set 0 (by simp) _).set 1 (by simp) _).set 2 (by simp) _).set 3 (by simp) _).set 4 (by simp) _).set 5 (by simp) _), O6⟩ (fun w6 hF => ?_)
    clear T5 lT cT0 fT0 cT1 fT1 cT2 fT2 cT3 fT3 cT4 fT4 cT5 fT5
    clear O6
    obtain ⟨HB6, T6, O6⟩ := hF
    have O6 : Hid (Own w6 w.heap.size oa sN (fun k => f (x.at_.toNat + 2 + k))) := Lib.hid (by have := O6.out; rw [HSZ.out] at this; exact this.congr HFL0.out)
    have z6 := HB6.out.size
    have B6 := Lib.hid (B0.out.below HB6.out); have W6 := Lib.hid (W0.out.below HB6.out)
    rw [HSZ.out] at T6
    obtain ⟨rest, hr, hw⟩ := pass 1 { tmps := #[.pointer (some ⟨b, 0, none⟩), undef, .pointer (some ⟨w.heap.size, 0, none⟩), .int .i64 0, .int .i64 0, .bool false, .pointer (some ⟨b, 0, none⟩), .pointer (some ⟨b, 0, none⟩), .agg #[.int .i64 co, .int .i64 h, .slice (some ⟨g, q, none⟩) n c, .int .i64 ac, .int .i64 ((totO (objsO L R) : Nat) : Int), .slice ra N rc, .int .i64 nx, .int .i64 (sc : Int)], .pointer (some ⟨b, 0, none⟩), .pointer (some ⟨b, 0, none⟩), .pointer (some ⟨b, 7, none⟩), .int .i64 (sc : Int), .agg #[.int .i64 0, .int .i64 x.s, .int .i64 x.m, .int .i64 x.o, .int .i64 x.h, .slice oa sN oc], undef, undef, undef, undef, undef, undef, undef, undef, undef, undef, undef, undef, undef, undef, undef, undef, undef, undef, undef, undef, undef, undef, undef, undef, undef, undef, undef, undef, undef, undef, undef, undef, undef, undef, undef, undef, undef, undef, undef, undef, undef, undef, undef, undef, undef], defers := [] } w6 (.inl ⟨rfl, w.heap.size, oa, oc, 0, F, _, _, _, _, _, _, _, _, _, _, _, _, _, _, _, _, _, _, _, _, _, _, _, _, _, _, _, _, _, _, _, _, _, _, _, _, _, _, _, _, _, _, _, _, _, _, _, _, _, _, _, _, _, _, _, _, Nat.zero_le _, Lib.hid ⟨B6.out, W6.out, CWH.out, T6.out, O6.out, kep_of_below HB6.out b g, by omega⟩, rfl⟩)
    cases hr
    go_wp2_with fail
    go_step3
    rw [HSZ.out]
    simp only [Exit.then]
    rename_i hK
    exact hK _ _ (Code.wp_mono (jumpsX_mono (fun _ _ _ h => h.1)) hw)
end Go.Proofs.Ytnacdhnnpddccaa

namespace Go.Proofs.Ytnacdhnnpddccaa
open Go.RowKit Go.Maps
set_option linter.unusedVariables false

/-- The roots lie apart. -/
def RtS (w : World) (b g : Nat) (ra : Option Addr) (N : Nat) (F : Nat → Int) : Prop :=
  N = 0 ∨ ∃ r o, ra = some ⟨r, o, none⟩ ∧ r ≠ b ∧ r ≠ g ∧ r < w.heap.size ∧ ∀ i, i < N → w.cell? ⟨r, o + i, none⟩ = some (.int .i64 (F i))

theorem RtS.kep {w w' : World} {b g N : Nat} {ra : Option Addr} {F : Nat → Int} (h : RtS w b g ra N F) (hk : Kep w w' b g) : RtS w' b g ra N F := by
  rcases h with h | ⟨r, o, e, h1, h2, h3, h4⟩
  · exact .inl h
  · have eb := hk.block r h3 h1 h2
    exact .inr ⟨r, o, e, h1, h2, Nat.lt_of_lt_of_le h3 hk.size, fun i hi => (World.cell?_of_block (w := w) (a := ⟨r, o + i, none⟩) eb).trans (h4 i hi)⟩

theorem RtS.below {w w' : World} {b g N : Nat} {ra : Option Addr} {F : Nat → Int} (h : RtS w b g ra N F) (hb : Below w.heap.size w w') : RtS w' b g ra N F := h.kep (kep_of_below hb b g)

/-- A copying of the program in memory. -/
structure PSt (w : World) (b g q n c : Nat) (h ac : Int) (ra : Option Addr) (rc : Nat) (f : Nat → Int) (L : List Ob) (P : Nat) (roots : List Int) (t : GT) : Prop where
  ex : ∃ F, Wrd w g q n F ∧ CW f L P t.R t.s 0 F
  blk : Blk w b [.int .i64 0, .int .i64 h, .slice (some ⟨g, q, none⟩) n c, .int .i64 ac, .int .i64 ((totO (objsO L t.R) : Nat) : Int), .slice ra roots.length rc, .int .i64 (t.nx : Int), .int .i64 ((placeAt P (objsO L t.R) t.s : Nat) : Int)]
  rt : RtS w b g ra roots.length (lf roots)

theorem PSt.below {w w' : World} {b g q n c : Nat} {h ac : Int} {ra : Option Addr} {rc : Nat} {f : Nat → Int} {L : List Ob} {P : Nat} {roots : List Int} {t : GT} (d : PSt w b g q n c h ac ra rc f L P roots t) (hb : Below w.heap.size w w') : PSt w' b g q n c h ac ra rc f L P roots t := by
  obtain ⟨F, h1, h2⟩ := d.ex
  exact ⟨⟨F, h1.below hb, h2⟩, d.blk.below hb, d.rt.below hb⟩

/-- What does not change while it is copied. -/
structure Fixed (b g n c : Nat) (h ac : Int) (f : Nat → Int) (L : List Ob) (B U P H : Nat) (roots : List Int) : Prop where
  ne : b ≠ g
  len : n = 2 * H
  cap : n ≤ c ∧ c ≤ maxLen
  cop : Cop f L B U P H
  base : baseI ac h = (P : Int)
  h : 0 ≤ h ∧ h ≤ 200
  ac : 0 ≤ ac ∧ ac ≤ 1
  many : roots.length ≤ 60
  roots : ∀ p ∈ roots, p ∈ placesO L

theorem Fixed.succ {b g n c : Nat} {h ac : Int} {f : Nat → Int} {L : List Ob} {B U P H : Nat} {roots : List Int} (x : Fixed b g n c h ac f L B U P H roots) : ∀ p ∈ placesO L, ∀ y ∈ succO f L p, y ∈ placesO L := succO_sub x.cop.right.points x.cop.right.size

theorem Fixed.gi {b g n c : Nat} {h ac : Int} {f : Nat → Int} {L : List Ob} {B U P H : Nat} {roots : List Int} (x : Fixed b g n c h ac f L B U P H roots) (k : Nat) : GI L roots (gst (succO f L) roots k) := gst_gi x.roots x.succ k

set_option maxRecDepth 100000 in
set_option maxHeartbeats 3200000 in
theorem step_root (b g q n c rc nx : Nat) (h ac sc : Int) (ra : Option Addr) (F f : Nat → Int) (L : List Ob) (B U P H : Nat) (roots R : List Int) (s : Nat) (w : World) (hB : Blk w b [.int .i64 0, .int .i64 h, .slice (some ⟨g, q, none⟩) n c, .int .i64 ac, .int .i64 ((totO (objsO L R) : Nat) : Int), .slice ra roots.length rc, .int .i64 (nx : Int), .int .i64 sc]) (hW : Wrd w g q n F) (hr : RtS w b g ra roots.length (lf roots)) (cw : CW f L P R s 0 F) (fx : Fixed b g n c h ac f L B U P H roots) (hnx : nx < roots.length) :
    Calls Try.prog 79 #[.pointer (some ⟨b, 0, none⟩)] w fun e w' => e = .returned (.tuple #[]) ∧ ∃ F', Wrd w' g q n F' ∧ CW f L P (addNew R [lf roots nx]) s 0 F' ∧ Blk w' b [.int .i64 0, .int .i64 h, .slice (some ⟨g, q, none⟩) n c, .int .i64 ac, .int .i64 ((totO (objsO L (addNew R [lf roots nx])) : Nat) : Int), .slice ra roots.length rc, .int .i64 ((nx + 1 : Nat) : Int), .int .i64 sc] ∧ Kep w w' b g := by
  obtain ⟨r, o, rfl, hrb, hrg, hrl, hrc⟩ : ∃ r o, ra = some ⟨r, o, none⟩ ∧ r ≠ b ∧ r ≠ g ∧ r < w.heap.size ∧ ∀ i, i < roots.length → w.cell? ⟨r, o + i, none⟩ = some (.int .i64 (lf roots i)) := by
    rcases hr with h0 | h0
    · omega
    · exact h0
  have hp := fx.roots _ (lf_mem hnx)
  have hnx' : (nx : Int) < (roots.length : Int) := by omega
  have hnx0 : (0 : Int) ≤ (nx : Int) := by omega
  have hbg := fx.ne
  have h60 := fx.many
  have HR : Hid (true = decide ((nx : Int) < (roots.length : Int))) := Lib.hid (by simp [hnx])
  have B0 := Lib.hid hB; have W0 := Lib.hid hW; have CWH := Lib.hid cw; have FX := Lib.hid fx; have HP := Lib.hid hp; have HRC := Lib.hid (hrc nx hnx); have HRL := Lib.hid hrl
  have c0 := hB.at 0 rfl; have c1 := hB.at 1 rfl; have c2 := hB.at 2 rfl; have c3 := hB.at 3 rfl; have c4 := hB.at 4 rfl; have c5 := hB.at 5 rfl; have c6 := hB.at 6 rfl; have c7 := hB.at 7 rfl; have lB := hB.1
  clear hB hW cw fx hp hr hrc
  go_enter Try.func79, Try.ntmps79
  go_wp2_with fail
  refine (hasRoots_any 0 h ac _ (nx : Int) sc (some ⟨g, q, none⟩) n c (some ⟨r, o, none⟩) roots.length rc true _ HR.out).mono ?_
  rintro e w1 ⟨rfl, hb⟩
  have B1 := Lib.hid (B0.out.below hb); have W1 := Lib.hid (W0.out.below hb); have K1 := Lib.hid (kep_of_below hb b g)
  have r1 := (hb.cell (p := ⟨r, o + nx, none⟩) HRL.out).trans HRC.out
  have lr1 : r < w1.heap.size := Nat.lt_of_lt_of_le HRL.out hb.size
  clear hb c0 c1 c2 c3 c4 c5 c6 c7
  have d5 := B1.out.at 5 rfl; have d6 := B1.out.at 6 rfl; have lB1 := B1.out.1
  go_upto_region 1 with (fail)
  go_still_tail 11, (by kernel_rfl)
  try refine wpStill_nil ?_
  change wpList _ _ _ _ _ w1.drew
  have Bd := Lib.hid B1.out.drew; have Wd := Lib.hid W1.out.drew; have Kd : Hid (Kep w w1.drew b g) := Lib.hid (K1.out.trans (kep_of_below (Below.refl _ _).drew b g))
  clear d5 d6 r1
  generalize w1.drew = w2 at *
  go_wp2_with fail
  refine (bring_any b g q n c 0 h ac (nx : Int) sc (some ⟨r, o, none⟩) roots.length rc F (lf roots nx) f L B U P H R s 0 _ Bd.out Wd.out hbg FX.out.len FX.out.cap.1 FX.out.cap.2 CWH.out FX.out.cop HP.out FX.out.base FX.out.h.1 FX.out.h.2 FX.out.ac.1 FX.out.ac.2).mono ?_
  rintro e w5 ⟨F', rfl, hw, hc, hb, hk⟩
  have B5 := Lib.hid hb; have W5 := Lib.hid hw; have C5 := Lib.hid hc; have K5 := Lib.hid (Kd.out.trans hk)
  clear hb hw hc hk
  have d6 := B5.out.at 6 rfl; have f6 := B5.out.free 6 rfl; have lb5 := B5.out.1
  go_wp2
  refine bodyPost_end (v := .tuple #[]) (by simp [results, Try.results79, go_sem]) rfl ⟨rfl, F', W5.out.other (by show b ≠ g; omega) _, C5.out, ?_, K5.out.trans (kep_set (.inl rfl) _)⟩
  rw [show ((nx + 1 : Nat) : Int) = (nx : Int) + 1 by omega]
  exact B5.out.set 6 (by simp) _

/-- What a step leaves where no root is left. -/
def LookOut (w' : World) (b g q n c rc sc : Nat) (h ac : Int) (ra : Option Addr) (F' f : Nat → Int) (L : List Ob) (P : Nat) (roots R : List Int) (s : Nat) : Prop :=
  ((¬ s < R.length ∧ CW f L P R s 0 F' ∧ Blk w' b [.int .i64 0, .int .i64 h, .slice (some ⟨g, q, none⟩) n c, .int .i64 ac, .int .i64 ((totO (objsO L R) : Nat) : Int), .slice ra roots.length rc, .int .i64 (roots.length : Int), .int .i64 (sc : Int)]) ∨
      (∃ hs : s < R.length, CW f L P (addNew R (succO f L (lf R s))) (s + 1) 0 F' ∧ Blk w' b [.int .i64 0, .int .i64 h, .slice (some ⟨g, q, none⟩) n c, .int .i64 ac, .int .i64 ((totO (objsO L (addNew R (succO f L (lf R s)))) : Nat) : Int), .slice ra roots.length rc, .int .i64 (roots.length : Int), .int .i64 ((placeAt P (objsO L (addNew R (succO f L (lf R s)))) (s + 1) : Nat) : Int)]))

set_option maxRecDepth 100000 in
set_option maxHeartbeats 3200000 in
theorem step_look (b g q n c rc sc fr : Nat) (h ac : Int) (ra : Option Addr) (F f : Nat → Int) (L : List Ob) (B U P H : Nat) (roots R : List Int) (s : Nat) (w : World) (hB : Blk w b [.int .i64 0, .int .i64 h, .slice (some ⟨g, q, none⟩) n c, .int .i64 ac, .int .i64 ((totO (objsO L R) : Nat) : Int), .slice ra roots.length rc, .int .i64 (roots.length : Int), .int .i64 (sc : Int)]) (hW : Wrd w g q n F) (cw : CW f L P R s 0 F) (fx : Fixed b g n c h ac f L B U P H roots) (hsc : sc = placeAt P (objsO L R) s) (hfr : fr = P + totO (objsO L R)) :
    Calls Try.prog 79 #[.pointer (some ⟨b, 0, none⟩)] w fun e w' => e = .returned (.tuple #[]) ∧ ∃ F', Wrd w' g q n F' ∧ Kep w w' b g ∧ LookOut w' b g q n c rc sc h ac ra F' f L P roots R s := by
  have hbg := fx.ne
  have ht := cw.tot fx.cop
  have hroom := fx.cop.room
  have hY : (P : Int) + ((totO (objsO L R) : Nat) : Int) = (fr : Int) := by omega
  have htb : 0 ≤ ((totO (objsO L R) : Nat) : Int) ∧ ((totO (objsO L R) : Nat) : Int) ≤ 200 := by omega
  have hlt : sc < fr ↔ s < R.length := by
    rw [hsc, hfr, ← placeAt_all]
    constructor
    · intro h0
      rcases cw.pos with h1 | ⟨h1, _⟩
      · exact h1
      · rw [h1, ← cw.len] at h0; omega
    · intro h0
      have := placeAt_lt P (objsO L R) s _ (by rw [cw.len]; exact h0) (Nat.le_refl _)
      omega
  have HR : Hid (false = decide ((roots.length : Int) < (roots.length : Int))) := Lib.hid (by simp)
  have B0 := Lib.hid hB; have W0 := Lib.hid hW; have CWH := Lib.hid cw; have FX := Lib.hid fx; have HY := Lib.hid hY; have HTB := Lib.hid htb; have HSC := Lib.hid hsc; have HLT := Lib.hid hlt
  have c0 := hB.at 0 rfl; have c1 := hB.at 1 rfl; have c2 := hB.at 2 rfl; have c3 := hB.at 3 rfl; have c4 := hB.at 4 rfl; have c5 := hB.at 5 rfl; have c6 := hB.at 6 rfl; have c7 := hB.at 7 rfl; have lB := hB.1
  clear hB hW cw fx ht hroom hY htb hsc hfr hlt
  go_enter Try.func79, Try.ntmps79
  go_wp2_with fail
  refine (hasRoots_any 0 h ac _ (roots.length : Int) (sc : Int) (some ⟨g, q, none⟩) n c ra roots.length rc false _ HR.out).mono ?_
  rintro e w1 ⟨rfl, hb⟩
  have B1 := Lib.hid (B0.out.below hb); have W1 := Lib.hid (W0.out.below hb); have K1 := Lib.hid (kep_of_below hb b g)
  clear hb c0 c1 c2 c3 c4 c5 c6 c7
  have lB1 := B1.out.1
  have Bd := Lib.hid B1.out.drew; have Wd := Lib.hid W1.out.drew; have Kd : Hid (Kep w w1.drew b g) := Lib.hid (K1.out.trans (kep_of_below (Below.refl _ _).drew b g))
  go_upto_region 3 with (fail)
  go_region_held3 (fun w' => w'.cell? ⟨b, 0, none⟩ = some (.int .i64 0) ∧ w'.cell? ⟨b, 1, none⟩ = some (.int .i64 h) ∧ w'.cell? ⟨b, 2, none⟩ = some (.slice (some ⟨g, q, none⟩) n c) ∧ w'.cell? ⟨b, 3, none⟩ = some (.int .i64 ac) ∧ w'.cell? ⟨b, 4, none⟩ = some (.int .i64 ((totO (objsO L R) : Nat) : Int)) ∧ w'.cell? ⟨b, 5, none⟩ = some (.slice ra roots.length rc) ∧ w'.cell? ⟨b, 6, none⟩ = some (.int .i64 (roots.length : Int)) ∧ w'.cell? ⟨b, 7, none⟩ = some (.int .i64 (sc : Int)))
    (first | (with_reducible exact cells8 B1.out) | (with_reducible exact cells8 Bd.out) | (with_reducible exact cells8 B2.out))
    (first | (go_at_call 52; (refine (cfree_any 0 h ac _ (roots.length : Int) (sc : Int) (P : Int) (fr : Int) (some ⟨g, q, none⟩) n c ra roots.length rc _ FX.out.base HY.out FX.out.h.1 FX.out.h.2 FX.out.ac.1 FX.out.ac.2 HTB.out.1 HTB.out.2).mono ?_; rintro e w2 ⟨rfl, hb⟩; have B2 := Lib.hid (Bd.out.below hb); have W2 := Lib.hid (Wd.out.below hb); have K2 := Lib.hid (Kd.out.trans (kep_of_below hb b g)); clear hb)))
  by_cases hs : s < R.length
  · have hlt' : (sc : Int) < (fr : Int) := by have := HLT.out.2 hs; omega
    have hx0 : ∃ x, findO L R[s] = some x := mem_placesO.1 (CWH.out.sub _ (List.getElem_mem hs))
    obtain ⟨x, hx⟩ := hx0
    have HX := Lib.hid hx
    have HSA := Lib.hid (succ_at (f := f) hs hx)
    clear hx
    go_wp2_with fail
    refine (lookThrough_any b g q n c 0 h ac (roots.length : Int) ra roots.length rc F f L B U P H sc R s x _ B2.out W2.out hbg FX.out.len FX.out.cap.1 FX.out.cap.2 CWH.out FX.out.cop hs HX.out HSC.out FX.out.base FX.out.h.1 FX.out.h.2 FX.out.ac.1 FX.out.ac.2).mono ?_
    rintro e w5 ⟨rfl, F', hw, hc, hb, hk⟩
    have B5 := Lib.hid hb; have W5 := Lib.hid hw; have C5 := Lib.hid hc; have K5 := Lib.hid (K2.out.trans hk)
    clear hb hw hc hk
    go_wp2
    refine bodyPost_end (v := .tuple #[]) (by simp [results, Try.results79, go_sem]) rfl ⟨rfl, F', W5.out, K5.out, .inr ⟨hs, ?_, ?_⟩⟩
    · rw [HSA.out]; exact C5.out
    · rw [HSA.out]; exact B5.out
  · have hlt' : ¬ (sc : Int) < (fr : Int) := by have := HLT.out.1; omega
    go_wp2
    refine bodyPost_end (v := .tuple #[]) (by simp [results, Try.results79, go_sem]) rfl ⟨rfl, F, W2.out, K2.out, .inl ⟨hs, CWH.out, B2.out⟩⟩

/-- One step of the program. -/
theorem step_any (b g q n c rc : Nat) (h ac : Int) (ra : Option Addr) (f : Nat → Int) (L : List Ob) (B U P H : Nat) (roots : List Int) (t : GT) (w : World) (hp : PSt w b g q n c h ac ra rc f L P roots t) (fx : Fixed b g n c h ac f L B U P H roots) (gi : GI L roots t) :
    Calls Try.prog 79 #[.pointer (some ⟨b, 0, none⟩)] w fun e w' => e = .returned (.tuple #[]) ∧ PSt w' b g q n c h ac ra rc f L P roots (gstep (succO f L) roots t) ∧ Kep w w' b g := by
  obtain ⟨F, hW, cw⟩ := hp.ex
  obtain ⟨R, nx, s⟩ := t
  by_cases h1 : nx < roots.length
  · refine (step_root b g q n c rc nx h ac _ ra F f L B U P H roots R s w hp.blk hW hp.rt cw fx h1).mono ?_
    rintro e w' ⟨rfl, F', hw, hc, hb, hk⟩
    have e : gstep (succO f L) roots ⟨R, nx, s⟩ = ⟨addNew R [lf roots nx], nx + 1, s⟩ := by unfold gstep; rw [if_pos h1]
    rw [e]
    refine ⟨rfl, ⟨⟨F', hw, hc⟩, ?_, hp.rt.kep hk⟩, hk⟩
    have hpl : placeAt P (objsO L (addNew R [lf roots nx])) s = placeAt P (objsO L R) s := placeAt_prefix P (addNew_prefix _ _) cw.sub gi.s
    show Blk w' b [_, _, _, _, _, _, _, .int .i64 ((placeAt P (objsO L (addNew R [lf roots nx])) s : Nat) : Int)]
    rw [hpl]
    exact hb
  · have hnx : nx = roots.length := by have := gi.nx; simp only at this; omega
    subst hnx
    refine (step_look b g q n c rc _ _ h ac ra F f L B U P H roots R s w hp.blk hW cw fx rfl rfl).mono ?_
    rintro e w' ⟨rfl, F', hw, hk, hc⟩
    refine ⟨rfl, ?_, hk⟩
    rcases hc with ⟨hs, hc, hb⟩ | ⟨hs, hc, hb⟩
    · have e : gstep (succO f L) roots ⟨R, roots.length, s⟩ = ⟨R, roots.length, s⟩ := by
        unfold gstep; rw [if_neg h1]
        exact if_neg hs
      rw [e]
      exact ⟨⟨F', hw, hc⟩, hb, hp.rt.kep hk⟩
    · have e : gstep (succO f L) roots ⟨R, roots.length, s⟩ = ⟨addNew R (succO f L (lf R s)), roots.length, s + 1⟩ := by
        unfold gstep; rw [if_neg h1]
        exact if_pos hs
      rw [e]
      exact ⟨⟨F', hw, hc⟩, hb, hp.rt.kep hk⟩
end Go.Proofs.Ytnacdhnnpddccaa

namespace Go.Proofs.Ytnacdhnnpddccaa
open Go.RowKit
set_option linter.unusedVariables false

def outR (f : Nat → Int) (L : List Ob) (roots : List Int) (co : Int) : List Int := if co = 0 then reachO f L roots else []

theorem outR_zero (f : Nat → Int) (L : List Ob) (roots : List Int) : outR f L roots 0 = reachO f L roots := rfl

theorem outR_no (f : Nat → Int) (L : List Ob) (roots : List Int) {co : Int} (h : ¬ co = 0) : outR f L roots co = [] := if_neg h
end Go.Proofs.Ytnacdhnnpddccaa

namespace Go.Proofs.Ytnacdhnnpddccaa
open Go.RowKit
set_option linter.unusedVariables false

set_option maxRecDepth 100000 in
set_option maxHeartbeats 3200000 in
theorem implReach_any (h ac bu : Int) (a : Option Addr) (n c : Nat) (f : Nat → Int) (ra : Option Addr) (roots : List Int) (rc : Nat) (co : Int) (L : List Ob) (w : World) (hs : Src w a n f) (hcn : n ≤ c) (hcm : c ≤ maxLen) (hrs : Src w ra roots.length (lf roots)) (hk : IsAsk h n f ac bu roots co L) :
    Calls Try.prog 84 #[.agg #[.int .i64 h, .slice a n c, .int .i64 ac, .int .i64 bu], .slice ra roots.length rc] w (RetIR w co (outR f L roots co).length (lf (outR f L roots co))) := by
  have HS := Lib.hid hs; have HK := Lib.hid hk; have HCM := Lib.hid hcm; have HRS := Lib.hid hrs
  clear hs hk hcm hrs
  go_enter Try.func84, Try.ntmps84
  go_wp2_with fail
  refine (reachIn_any h ac bu a n c f ra roots rc co L _ ((HS.out.alloc _).alloc _) hcn HCM.out ((HRS.out.alloc _).alloc _) HK.out).mono ?_
  rintro e w1 ⟨hb, hr⟩
  have HB1 := Lib.hid (thru2 (Below.refl _ _) hb)
  have R_1 := Lib.hid ((Blk.new_at (w := w.alloc (.cells #[.int .i64 h, .slice a n c, .int .i64 ac, .int .i64 bu] 34)) (cs := #[.int .i64 0, .slice none 0 0]) (t := 55) (w.heap.size + 1) (by simp)).below hb)
  have z1 : w.heap.size + 2 ≤ w1.heap.size := by have := hb.size; simp at this; omega
  clear hb
  have hz := HB1.out.size
  rcases hr with ⟨h0, rfl⟩ | ⟨rfl, a1, c1, mb, T, rfl, hg, hm, hsm⟩
  · have HE := Lib.hid (outR_no f L roots h0)
    clear h0
    have HB2 := Lib.hid (HB1.out.alloc hz (.cells #[.int .i64 co, .slice none 0 0, .map none] 142))
    have R_2 := Lib.hid (R_1.out.alloc (.cells #[.int .i64 co, .slice none 0 0, .map none] 142))
    have X_2 := Lib.hid (Blk.new_at (w := w1) (cs := #[.int .i64 co, .slice none 0 0, .map none]) (t := 142) w1.heap.size rfl)
    have hz2 : w1.heap.size + 1 = (w1.alloc (.cells #[.int .i64 co, .slice none 0 0, .map none] 142)).heap.size := by simp
    go_wp2_with fail
    clear HB1 R_1 hz
    generalize w1.alloc (.cells #[.int .i64 co, .slice none 0 0, .map none] 142) = w2 at *
    have X_d := Lib.hid X_2.out.drew; have R_d := Lib.hid R_2.out.drew; have HB_d := Lib.hid HB2.out.drew
    have hz2' : w1.heap.size + 1 = w2.drew.heap.size := by simpa using hz2
    skip
    have lR := R_d.out.1; have cR0 := R_d.out.at 0 rfl; have fR0 := R_d.out.free 0 rfl; have cR1 := R_d.out.at 1 rfl; have fR1 := R_d.out.free 1 rfl
    clear lR cR0 fR0 cR1 fR1
    go_region_held3 (fun w' => w'.cell? ⟨w1.heap.size, 0, none⟩ = some (.int .i64 co) ∧ w'.cell? ⟨w1.heap.size, 1, none⟩ = some (.slice none 0 0))
      (first | (with_reducible exact two3 X_2.out) | (with_reducible exact two3 X_d.out) | (with_reducible exact two3 X_3.out) | (exact two3 ((X_3.out.other (by (try simp); (try omega)) _).other (by (try simp); (try omega)) _)))
      (first | (go_at_call 61; (refine (places_any none [] 0 (fun _ => gzero) _ (.inl rfl) (by simp) (fun i hi => (by simp at hi))).mono ?_; rintro e w3 ⟨a3, c3, rfl, ho3, hb, h31, h32, h33⟩; have HB3 := Lib.hid (thru0 HB_d.out hb); have X_3 := Lib.hid (X_d.out.below hb); have R_3 := Lib.hid (R_d.out.below hb); have HO3 := Lib.hid ho3; have z3 := hb.size; clear hb ho3 h31 h32 h33; have lR := R_3.out.1; have cR0 := R_3.out.at 0 rfl; have fR0 := R_3.out.free 0 rfl; have cR1 := R_3.out.at 1 rfl; have fR1 := R_3.out.free 1 rfl)))
    have hz3 := HB3.out.size
    go_wp2
    refine bodyPost_ret (v := .agg #[.int .i64 co, .slice a3 ([] : List Int).length c3]) (by simp [results, Try.results84, go_sem, cR0, cR1]) rfl ?_
    rw [HE.out]
    refine ⟨a3, c3, rfl, .inl rfl, ?_⟩
    repeat (first | (with_reducible refine Below.setCell ?_ (by (try simp); (try omega)) _) | (with_reducible refine Below.alloc ?_ (by (try simp); (try omega)) _) | (with_reducible refine Below.drew ?_))
    exact HB3.out
  · have HKZ := Lib.hid (isAsk_zero HK.out)
    have HRI := Lib.hid (right_of HKZ.out.1 HKZ.out.2.1)
    have hrl : (reachO f L roots).length ≤ 1000000 := by
      have h9 := reachO_length HRI.out.points HRI.out.size HKZ.out.2.2.2
      have := (shaped_of (w := w1) (a := none) (T := obT f L) HKZ.out.1 HKZ.out.2.1)
      have h8 := isOI_small HKZ.out.2.1
      omega
    have HPL := Lib.hid (fun i hi => (by obtain ⟨x, hx, hs⟩ := hsm i hi; rw [hs.1]; show x.at_ = _; have := List.find?_some hx; simpa using this : (T i).at_ = lf (reachO f L roots) i))
    have HG := Lib.hid hg
    clear hg hm hsm
    have HB2 := Lib.hid (HB1.out.alloc hz (.cells #[.int .i64 0, .slice a1 (reachO f L roots).length c1, .map (some mb)] 142))
    have R_2 := Lib.hid (R_1.out.alloc (.cells #[.int .i64 0, .slice a1 (reachO f L roots).length c1, .map (some mb)] 142))
    have X_2 := Lib.hid (Blk.new_at (w := w1) (cs := #[.int .i64 0, .slice a1 (reachO f L roots).length c1, .map (some mb)]) (t := 142) w1.heap.size rfl)
    have hz2 : w1.heap.size + 1 = (w1.alloc (.cells #[.int .i64 0, .slice a1 (reachO f L roots).length c1, .map (some mb)] 142)).heap.size := by simp
    have HW12 := Lib.hid ((Below.refl w1.heap.size w1).alloc (Nat.le_refl _) (.cells #[.int .i64 0, .slice a1 (reachO f L roots).length c1, .map (some mb)] 142))
    go_wp2_with fail
    clear HB1 R_1 hz
    generalize w1.alloc (.cells #[.int .i64 0, .slice a1 (reachO f L roots).length c1, .map (some mb)] 142) = w2 at *
    have X_d := Lib.hid X_2.out.drew; have R_d := Lib.hid R_2.out.drew; have HB_d := Lib.hid HB2.out.drew
    have hz2' : w1.heap.size + 1 = w2.drew.heap.size := by simpa using hz2
    have HG2 := Lib.hid ((HG.out.below (show Below w1.heap.size w1 w2 from HW12.out)).drew)
    have lR := R_d.out.1; have cR0 := R_d.out.at 0 rfl; have fR0 := R_d.out.free 0 rfl; have cR1 := R_d.out.at 1 rfl; have fR1 := R_d.out.free 1 rfl
    clear lR cR0 fR0 cR1 fR1
    go_region_held3 (fun w' => w'.cell? ⟨w1.heap.size, 0, none⟩ = some (.int .i64 0) ∧ w'.cell? ⟨w1.heap.size, 1, none⟩ = some (.slice a1 (reachO f L roots).length c1))
      (first | (with_reducible exact two3 X_2.out) | (with_reducible exact two3 X_d.out) | (with_reducible exact two3 X_3.out) | (exact two3 ((X_3.out.other (by (try simp); (try omega)) _).other (by (try simp); (try omega)) _)))
      (first | (go_at_call 61; (refine (places_any a1 (reachO f L roots) c1 T _ HG2.out hrl HPL.out).mono ?_; rintro e w3 ⟨a3, c3, rfl, ho3, hb, h31, h32, h33⟩; have HB3 := Lib.hid (thru0 HB_d.out hb); have X_3 := Lib.hid (X_d.out.below hb); have R_3 := Lib.hid (R_d.out.below hb); have HO3 := Lib.hid ho3; have z3 := hb.size; clear hb ho3 h31 h32 h33; have lR := R_3.out.1; have cR0 := R_3.out.at 0 rfl; have fR0 := R_3.out.free 0 rfl; have cR1 := R_3.out.at 1 rfl; have fR1 := R_3.out.free 1 rfl)))
    have hz3 := HB3.out.size
    go_wp2
    refine bodyPost_ret (v := .agg #[.int .i64 0, .slice a3 (reachO f L roots).length c3]) (by simp [results, Try.results84, go_sem, cR0, cR1]) rfl ?_
    rw [outR_zero]
    refine ⟨a3, c3, rfl, ?_, ?_⟩
    · refine Own.mono (B := w2.drew.heap.size) ?_ (by have := HB_d.out.size; exact this)
      repeat (first | (with_reducible refine Own.setCell ?_ (by (try simp); (try omega)) _) | (with_reducible refine Own.alloc ?_ _) | (with_reducible refine Own.drew ?_))
      exact HO3.out
    · repeat (first | (with_reducible refine Below.setCell ?_ (by (try simp); (try omega)) _) | (with_reducible refine Below.alloc ?_ (by (try simp); (try omega)) _) | (with_reducible refine Below.drew ?_))
      exact HB3.out
end Go.Proofs.Ytnacdhnnpddccaa

namespace Go.Proofs.Ytnacdhnnpddccaa
open Go.RowKit Go.Maps
set_option linter.unusedVariables false

theorem fld_irsc (x y : Value) (w : World) : (Instr.field 55 (.agg #[x, y]) 0).run Try.prog w = .ok x w := by kernel_rfl

/-- A copying that begins. -/
def RetBegin (W : World) (h ac : Int) (n : Nat) (f : Nat → Int) (ra : Option Addr) (rn rc : Nat) (P : Nat) (co : Int) (e : Ending) (w' : World) : Prop :=
  Below W.heap.size W w' ∧ ((¬ co = 0 ∧ e = .returned (.agg #[.int .i64 co, .int .i64 0, .slice none 0 0, .int .i64 0, .int .i64 0, .slice none 0 0, .int .i64 0, .int .i64 0])) ∨
    (co = 0 ∧ ∃ g q c, e = .returned (.agg #[.int .i64 0, .int .i64 h, .slice (some ⟨g, q, none⟩) n c, .int .i64 (1 - ac), .int .i64 0, .slice ra rn rc, .int .i64 0, .int .i64 (P : Int)]) ∧ Wrd w' g q n f ∧ W.heap.size ≤ g ∧ n ≤ c ∧ c ≤ maxLen))

theorem cells012 {w : World} {b : Nat} {v0 v1 v2 v3 : Value} (h : Blk w b [v0, v1, v2, v3]) : w.cell? ⟨b, 0, none⟩ = some v0 ∧ w.cell? ⟨b, 1, none⟩ = some v1 ∧ w.cell? ⟨b, 2, none⟩ = some v2 := ⟨h.at 0 rfl, h.at 1 rfl, h.at 2 rfl⟩

set_option maxRecDepth 100000 in
set_option maxHeartbeats 3200000 in
theorem begin_any (h ac bu : Int) (a : Option Addr) (n c : Nat) (f : Nat → Int) (ra : Option Addr) (roots : List Int) (rc : Nat) (co : Int) (L : List Ob) (P : Nat) (w : World) (hs : Src w a n f) (hcn : n ≤ c) (hcm : c ≤ maxLen) (hrs : Src w ra roots.length (lf roots)) (hk : IsAsk h n f ac bu roots co L) (hP : co = 0 → baseI (1 - ac) h = (P : Int)) :
    Calls Try.prog 57 #[.agg #[.int .i64 h, .slice a n c, .int .i64 ac, .int .i64 bu], .slice ra roots.length rc] w (RetBegin w h ac n f ra roots.length rc P co) := by
  have HS := Lib.hid hs; have HK := Lib.hid hk; have HCM := Lib.hid hcm; have HRS := Lib.hid hrs; have HP := Lib.hid hP
  clear hs hk hcm hrs hP
  go_enter Try.func57, Try.ntmps57
  have hfl := fld_irsc
  go_wp2_with fail
  refine (implReach_any h ac bu a n c f ra roots rc co L _ ((HS.out.alloc _).alloc _) hcn HCM.out ((HRS.out.alloc _).alloc _) HK.out).mono ?_
  rintro e w1 ⟨a1, c1, rfl, _, hb⟩
  have HB1 := Lib.hid (thru2 (Below.refl _ _) hb)
  have A_1 := Lib.hid (((Blk.new_at (w := w) (cs := #[.int .i64 h, .slice a n c, .int .i64 ac, .int .i64 bu]) (t := 34) w.heap.size rfl).alloc (.cells #[.int .i64 0, .int .i64 0, .slice none 0 0, .int .i64 0, .int .i64 0, .slice none 0 0, .int .i64 0, .int .i64 0] 72)).below hb)
  have R_1 := Lib.hid ((Blk.new_at (w := w.alloc (.cells #[.int .i64 h, .slice a n c, .int .i64 ac, .int .i64 bu] 34)) (cs := #[.int .i64 0, .int .i64 0, .slice none 0 0, .int .i64 0, .int .i64 0, .slice none 0 0, .int .i64 0, .int .i64 0]) (t := 72) (w.heap.size + 1) (by simp)).below hb)
  have z1 : w.heap.size + 2 ≤ w1.heap.size := by have := hb.size; simp at this; omega
  clear hb
  by_cases h0 : co = 0
  · subst h0
    have HPP := Lib.hid (HP.out (by first | rfl | trivial))
    clear HP
    obtain ⟨hk1, hk2, hk3, hk4⟩ := isAsk_zero HK.out
    obtain ⟨⟨⟨g1, g2⟩, ⟨g3, g4⟩, g5, g6⟩, gn, gw⟩ := isFault_ok (isOI_zero hk2).1
    clear hk1 hk2 hk3 hk4 gw
    have hn400 : n ≤ 1048576 := by omega
    have hn0 : 0 < n := by omega
    clear gn g5 g6
    have S1 := Lib.hid (HS.out.below HB1.out)
    have S1d := Lib.hid S1.out.drew
    have A_d := Lib.hid A_1.out.drew; have R_d := Lib.hid R_1.out.drew; have HBd := Lib.hid HB1.out.drew
    have hwr : IntKind.i64.wrap (1 - ac) = 1 - ac := IntWalk.i64_in _ (by omega)
    have hz1 := HB1.out.size
    go_upto_region 4 with (fail)
    clear hfl
    go_region_held3 (fun w' => w'.cell? ⟨w.heap.size, 0, none⟩ = some (.int .i64 h) ∧ w'.cell? ⟨w.heap.size, 1, none⟩ = some (.slice a n c) ∧ w'.cell? ⟨w.heap.size, 2, none⟩ = some (.int .i64 ac))
      (first | (with_reducible exact cells012 A_1.out) | (with_reducible exact cells012 A_d.out) | (with_reducible exact cells012 (A_1.out.alloc _).drew) | (with_reducible exact cells012 (A_d.out.alloc _)) | (with_reducible exact cells012 A_2.out) | (with_reducible exact cells012 (A_2.out.alloc _)) | (with_reducible exact cells012 (((((A_2.out.other (by (try simp); (try omega)) _).other (by (try simp); (try omega)) _).other (by (try simp); (try omega)) _).other (by (try simp); (try omega)) _))))
      (first | (go_at_call 85; refine (clone_any a n c f _ (S1d.out.ext (by first | exact .inl rfl | exact ext_drew _ _ | exact .inr ⟨_, rfl⟩)) hn0 hn400).mono ?_; rintro e w2 ⟨ga, gc, rfl, ho, hb, hgc, hgm, _⟩; have HB2 := Lib.hid (thru0 (below_ext HBd.out (by first | exact .inl rfl | exact ext_drew _ _ | exact .inr ⟨_, rfl⟩)) hb); have A_2 := Lib.hid ((A_d.out.ext (by first | exact .inl rfl | exact ext_drew _ _ | exact .inr ⟨_, rfl⟩)).below hb); have R_2 := Lib.hid ((R_d.out.ext (by first | exact .inl rfl | exact ext_drew _ _ | exact .inr ⟨_, rfl⟩)).below hb); have z2 : w1.heap.size ≤ w2.heap.size := (by have := hb.size; simp at this; omega); have HO2 := Lib.hid (ho.mono (B' := w1.heap.size) (by simp)); have HO2b := Lib.hid ho; have HGC := Lib.hid (And.intro hgc hgm); (first | (have T2 := Lib.hid ((Blk.new_at (w := w1) (cs := #[.int .i64 0, .slice none 0 0, .int .i64 0, .int .i64 0]) (t := 34) (w1.heap.size) rfl).drew.below hb)) | skip); clear hb ho hgc hgm; (first | (have lT := T2.out.1; have cT0 := T2.out.at 0 rfl; have fT0 := T2.out.free 0 rfl; have cT1 := T2.out.at 1 rfl; have fT1 := T2.out.free 1 rfl; have cT2 := T2.out.at 2 rfl; have fT2 := T2.out.free 2 rfl; have cT3 := T2.out.at 3 rfl; have fT3 := T2.out.free 3 rfl) | skip)))
    · refine then_named (fun w6 => Hid (Below w.heap.size w w6) ∧ Hid (Blk w6 (w2.heap.size) [.int .i64 h, .slice ga n gc, .int .i64 (1 - ac), .int .i64 0]) ∧ Hid (Own w6 (w.heap.size + 2) ga n f) ∧ Hid (Blk w6 (w.heap.size + 1) [.int .i64 0, .int .i64 0, .slice none 0 0, .int .i64 0, .int .i64 0, .slice none 0 0, .int .i64 0, .int .i64 0]) ∧ w2.heap.size < w6.heap.size) ⟨HB2.out.alloc HB2.out.size _, Blk.new_at _ rfl, (HO2.out.mono z1).alloc _, R_2.out.alloc _, by simp⟩ (fun w6 hF => ?_)
      obtain ⟨HB6, T6, O6, R6, hz6⟩ := hF
      clear HB2 A_2 R_2 HO2 HO2b A_1 R_1 A_d R_d HBd S1 S1d HB1
      obtain ⟨q1, q2, q3⟩ : (8 ≤ h ∧ h ≤ 200) ∧ (0 ≤ 1 - ac ∧ 1 - ac ≤ 1) ∧ 0 < n := by omega
      have HZB := Lib.hid (by omega : w.heap.size + 1 ≠ w2.heap.size)
      have HGE := Lib.hid (by omega : w.heap.size ≤ w2.heap.size)
      generalize hab : w2.heap.size = ab at *
      clear hab
      have Td := Lib.hid T6.out.drew; have Rd := Lib.hid R6.out.drew; have HB6d := Lib.hid HB6.out.drew; have O6d := Lib.hid O6.out.drew
      go_upto_region 5 with (fail)
      go_region_held3 (fun w' => w'.cell? ⟨ab, 0, none⟩ = some (.int .i64 h) ∧ w'.cell? ⟨ab, 1, none⟩ = some (.slice ga n gc) ∧ w'.cell? ⟨ab, 2, none⟩ = some (.int .i64 (1 - ac)) ∧ w'.cell? ⟨ab, 3, none⟩ = some (.int .i64 0))
        (first | (with_reducible exact four_c T6.out) | (with_reducible exact four_c Td.out) | (with_reducible exact four_c T7.out) | (with_reducible exact four_c ((((((((T7.out.other (by exact HZB.out) _).other (by exact HZB.out) _).other (by exact HZB.out) _).other (by exact HZB.out) _).other (by exact HZB.out) _).other (by exact HZB.out) _).other (by exact HZB.out) _).other (by exact HZB.out) _)))
        (first | (go_at_call 73; (refine (baseOf_is (P : Int) h (1 - ac) 0 ga n gc _ HPP.out (by omega) q1.2 q2.1 q2.2).mono ?_; rintro e w7 ⟨rfl, hb⟩; have T7 := Lib.hid (Td.out.below hb); have R7 := Lib.hid (Rd.out.below hb); have O7 := Lib.hid (O6d.out.below hb); have HB7 := Lib.hid (HB6d.out.trans (hb.mono HB6d.out.size)); clear hb; have lr := R7.out.1; have r0 := R7.out.at 0 rfl; have rf0 := R7.out.free 0 rfl; have r1 := R7.out.at 1 rfl; have rf1 := R7.out.free 1 rfl; have r2 := R7.out.at 2 rfl; have rf2 := R7.out.free 2 rfl; have r3 := R7.out.at 3 rfl; have rf3 := R7.out.free 3 rfl; have r4 := R7.out.at 4 rfl; have rf4 := R7.out.free 4 rfl; have r5 := R7.out.at 5 rfl; have rf5 := R7.out.free 5 rfl; have r6 := R7.out.at 6 rfl; have rf6 := R7.out.free 6 rfl; have r7 := R7.out.at 7 rfl; have rf7 := R7.out.free 7 rfl)))
      go_wp2
      obtain ⟨g, q, rfl, hge, hlt, hcell⟩ : ∃ g q, ga = some ⟨g, q, none⟩ ∧ w.heap.size + 2 ≤ g ∧ g < w7.heap.size ∧ ∀ i, i < n → w7.cell? ⟨g, q + i, none⟩ = some (.int .i64 (f i)) ∧ w7.frozen? ⟨g, q + i, none⟩ = false := by
        rcases O7.out with h9 | h9
        · omega
        · exact h9
      refine bodyPost_ret (v := .agg #[.int .i64 0, .int .i64 h, .slice (some ⟨g, q, none⟩) n gc, .int .i64 (1 - ac), .int .i64 0, .slice ra roots.length rc, .int .i64 0, .int .i64 (P : Int)]) (by simp [results, Try.results57, go_sem, r0, r1, r2, r3, r4, r5, r6, r7]) rfl ⟨?_, .inr ⟨rfl, g, q, gc, rfl, ?_, by omega, HGC.out.1, HGC.out.2⟩⟩
      · repeat (first | (with_reducible refine Below.setCell ?_ (by (try simp); (try omega)) _))
        exact HB7.out
      · have hw7 : Wrd w7 g q n f := ⟨hlt, fun i hi => (hcell i hi).1, fun i hi => (hcell i hi).2⟩
        repeat (first | (with_reducible refine Wrd.other ?_ (by show w.heap.size + 1 ≠ g; omega) _))
        exact hw7
    · refine then_named (fun w6 => Hid (Below w.heap.size w w6) ∧ Hid (Blk w6 (w1.heap.size) [.int .i64 h, .slice ga n gc, .int .i64 (1 - ac), .int .i64 0]) ∧ Hid (Own w6 (w.heap.size + 2) ga n f) ∧ Hid (Blk w6 (w.heap.size + 1) [.int .i64 0, .int .i64 0, .slice none 0 0, .int .i64 0, .int .i64 0, .slice none 0 0, .int .i64 0, .int .i64 0]) ∧ w1.heap.size < w6.heap.size) ⟨((((HB2.out.setCell (by (try simp); (try omega)) _).setCell (by (try simp); (try omega)) _).setCell (by (try simp); (try omega)) _).setCell (by (try simp); (try omega)) _), ((((T2.out.set 0 (by simp) _).set 1 (by simp) _).set 2 (by simp) _).set 3 (by simp) _), Own.mono (B := w1.heap.size + 1) (((((HO2b.out.mono (B' := w1.heap.size + 1) (by simp)).setCell (by (try simp); (try omega)) _).setCell (by (try simp); (try omega)) _).setCell (by (try simp); (try omega)) _).setCell (by (try simp); (try omega)) _) (by omega), ((((R_2.out.other (by (try simp); (try omega)) _).other (by (try simp); (try omega)) _).other (by (try simp); (try omega)) _).other (by (try simp); (try omega)) _), by have := T2.out.1; simpa using this⟩ (fun w6 hF => ?_)
      clear T2 lT cT0 fT0 cT1 fT1 cT2 fT2 cT3 fT3
      obtain ⟨HB6, T6, O6, R6, hz6⟩ := hF
      clear HB2 A_2 R_2 HO2 HO2b A_1 R_1 A_d R_d HBd S1 S1d HB1
      obtain ⟨q1, q2, q3⟩ : (8 ≤ h ∧ h ≤ 200) ∧ (0 ≤ 1 - ac ∧ 1 - ac ≤ 1) ∧ 0 < n := by omega
      have HZB := Lib.hid (by omega : w.heap.size + 1 ≠ w1.heap.size)
      have HGE := Lib.hid (by omega : w.heap.size ≤ w1.heap.size)
      generalize hab : w1.heap.size = ab at *
      clear hab
      have Td := Lib.hid T6.out.drew; have Rd := Lib.hid R6.out.drew; have HB6d := Lib.hid HB6.out.drew; have O6d := Lib.hid O6.out.drew
      go_upto_region 5 with (fail)
      go_region_held3 (fun w' => w'.cell? ⟨ab, 0, none⟩ = some (.int .i64 h) ∧ w'.cell? ⟨ab, 1, none⟩ = some (.slice ga n gc) ∧ w'.cell? ⟨ab, 2, none⟩ = some (.int .i64 (1 - ac)) ∧ w'.cell? ⟨ab, 3, none⟩ = some (.int .i64 0))
        (first | (with_reducible exact four_c T6.out) | (with_reducible exact four_c Td.out) | (with_reducible exact four_c T7.out) | (with_reducible exact four_c ((((((((T7.out.other (by exact HZB.out) _).other (by exact HZB.out) _).other (by exact HZB.out) _).other (by exact HZB.out) _).other (by exact HZB.out) _).other (by exact HZB.out) _).other (by exact HZB.out) _).other (by exact HZB.out) _)))
        (first | (go_at_call 73; (refine (baseOf_is (P : Int) h (1 - ac) 0 ga n gc _ HPP.out (by omega) q1.2 q2.1 q2.2).mono ?_; rintro e w7 ⟨rfl, hb⟩; have T7 := Lib.hid (Td.out.below hb); have R7 := Lib.hid (Rd.out.below hb); have O7 := Lib.hid (O6d.out.below hb); have HB7 := Lib.hid (HB6d.out.trans (hb.mono HB6d.out.size)); clear hb; have lr := R7.out.1; have r0 := R7.out.at 0 rfl; have rf0 := R7.out.free 0 rfl; have r1 := R7.out.at 1 rfl; have rf1 := R7.out.free 1 rfl; have r2 := R7.out.at 2 rfl; have rf2 := R7.out.free 2 rfl; have r3 := R7.out.at 3 rfl; have rf3 := R7.out.free 3 rfl; have r4 := R7.out.at 4 rfl; have rf4 := R7.out.free 4 rfl; have r5 := R7.out.at 5 rfl; have rf5 := R7.out.free 5 rfl; have r6 := R7.out.at 6 rfl; have rf6 := R7.out.free 6 rfl; have r7 := R7.out.at 7 rfl; have rf7 := R7.out.free 7 rfl)))
      go_wp2
      obtain ⟨g, q, rfl, hge, hlt, hcell⟩ : ∃ g q, ga = some ⟨g, q, none⟩ ∧ w.heap.size + 2 ≤ g ∧ g < w7.heap.size ∧ ∀ i, i < n → w7.cell? ⟨g, q + i, none⟩ = some (.int .i64 (f i)) ∧ w7.frozen? ⟨g, q + i, none⟩ = false := by
        rcases O7.out with h9 | h9
        · omega
        · exact h9
      refine bodyPost_ret (v := .agg #[.int .i64 0, .int .i64 h, .slice (some ⟨g, q, none⟩) n gc, .int .i64 (1 - ac), .int .i64 0, .slice ra roots.length rc, .int .i64 0, .int .i64 (P : Int)]) (by simp [results, Try.results57, go_sem, r0, r1, r2, r3, r4, r5, r6, r7]) rfl ⟨?_, .inr ⟨rfl, g, q, gc, rfl, ?_, by omega, HGC.out.1, HGC.out.2⟩⟩
      · repeat (first | (with_reducible refine Below.setCell ?_ (by (try simp); (try omega)) _))
        exact HB7.out
      · have hw7 : Wrd w7 g q n f := ⟨hlt, fun i hi => (hcell i hi).1, fun i hi => (hcell i hi).2⟩
        repeat (first | (with_reducible refine Wrd.other ?_ (by show w.heap.size + 1 ≠ g; omega) _))
        exact hw7
  · have lr := R_1.out.1; have r0 := R_1.out.at 0 rfl; have rf0 := R_1.out.free 0 rfl; have r1 := R_1.out.at 1 rfl; have rf1 := R_1.out.free 1 rfl; have r2 := R_1.out.at 2 rfl; have rf2 := R_1.out.free 2 rfl; have r3 := R_1.out.at 3 rfl; have rf3 := R_1.out.free 3 rfl; have r4 := R_1.out.at 4 rfl; have rf4 := R_1.out.free 4 rfl; have r5 := R_1.out.at 5 rfl; have rf5 := R_1.out.free 5 rfl; have r6 := R_1.out.at 6 rfl; have rf6 := R_1.out.free 6 rfl; have r7 := R_1.out.at 7 rfl; have rf7 := R_1.out.free 7 rfl
    go_wp2
    refine bodyPost_ret (v := .agg #[.int .i64 co, .int .i64 0, .slice none 0 0, .int .i64 0, .int .i64 0, .slice none 0 0, .int .i64 0, .int .i64 0]) (by simp [results, Try.results57, go_sem, r0, r1, r2, r3, r4, r5, r6, r7]) rfl ⟨?_, .inl ⟨h0, rfl⟩⟩
    repeat (first | (with_reducible refine Below.setCell ?_ (by (try simp); (try omega)) _))
    exact HB1.out
end Go.Proofs.Ytnacdhnnpddccaa

namespace Go.Proofs.Ytnacdhnnpddccaa
open Go.RowKit Go.Maps
set_option linter.unusedVariables false

theorem rts_of_src {w : World} {ra : Option Addr} {N : Nat} {F : Nat → Int} (h : Src w ra N F) {b g : Nat} (hb : w.heap.size ≤ b) (hg : w.heap.size ≤ g) : RtS w b g ra N F := by
  rcases h with h | ⟨r, o, e, hl, hc⟩
  · exact .inl h
  · exact .inr ⟨r, o, e, by omega, by omega, hl, hc⟩

/-- The code of a copying behind some steps. -/
def IsAft (co m k : Int) : Prop := (¬ co = 0 ∧ k = co) ∨ (co = 0 ∧ ¬ (0 ≤ m ∧ m ≤ 500) ∧ k = 3) ∨ (co = 0 ∧ (0 ≤ m ∧ m ≤ 500) ∧ k = 0)

theorem isAft_some (co m : Int) : ∃ k, IsAft co m k := by
  by_cases h : co = 0
  · by_cases h1 : 0 ≤ m ∧ m ≤ 500
    · exact ⟨0, .inr (.inr ⟨h, h1, rfl⟩)⟩
    · exact ⟨3, .inr (.inl ⟨h, h1, rfl⟩)⟩
  · exact ⟨co, .inl ⟨h, rfl⟩⟩

/-- A copying behind some steps. -/
def RetAft (W : World) (h ac : Int) (n : Nat) (f : Nat → Int) (L : List Ob) (P : Nat) (ra : Option Addr) (roots : List Int) (rc : Nat) (m k : Int) (e : Ending) (w' : World) : Prop :=
  Below W.heap.size W w' ∧ ((¬ k = 0 ∧ e = .returned (.agg #[.int .i64 k, .int .i64 0, .slice none 0 0, .int .i64 0, .int .i64 0, .slice none 0 0, .int .i64 0, .int .i64 0])) ∨
    (k = 0 ∧ ∃ g q c F, e = .returned (.agg #[.int .i64 0, .int .i64 h, .slice (some ⟨g, q, none⟩) n c, .int .i64 (1 - ac), .int .i64 ((totO (objsO L (gst (succO f L) roots m.toNat).R) : Nat) : Int), .slice ra roots.length rc, .int .i64 ((gst (succO f L) roots m.toNat).nx : Int), .int .i64 ((placeAt P (objsO L (gst (succO f L) roots m.toNat).R) (gst (succO f L) roots m.toNat).s : Nat) : Int)]) ∧ Wrd w' g q n F ∧ W.heap.size ≤ g ∧ CW f L P (gst (succO f L) roots m.toNat).R (gst (succO f L) roots m.toNat).s 0 F ∧ n ≤ c ∧ c ≤ maxLen))

/-- What is fixed while an arena is copied. -/
theorem fixed_of {h : Int} {n : Nat} {f : Nat → Int} {ac bu : Int} {roots : List Int} {L : List Ob} (hk : IsAsk h n f ac bu roots 0 L) {b g c : Nat} (hne : b ≠ g) (hc : n ≤ c ∧ c ≤ maxLen) : Fixed b g n c h (1 - ac) f L (baseI ac h).toNat bu.toNat (baseI (1 - ac) h).toNat h.toNat roots := by
  obtain ⟨hk1, hk2, hk3, hk4⟩ := isAsk_zero hk
  obtain ⟨⟨⟨g1, g2⟩, ⟨g3, g4⟩, g5, g6⟩, gn, gw⟩ := isFault_ok (isOI_zero hk2).1
  have hb := baseI_bd (ac := 1 - ac) g1
  exact ⟨hne, by omega, hc, cop_of hk1 hk2, by omega, ⟨by omega, by omega⟩, ⟨by omega, by omega⟩, hk3, hk4⟩

set_option maxRecDepth 100000 in
set_option maxHeartbeats 3200000 in
theorem copyAfter_any (h ac bu : Int) (a : Option Addr) (n c : Nat) (f : Nat → Int) (ra : Option Addr) (roots : List Int) (rc : Nat) (co : Int) (L : List Ob) (m k : Int) (w : World) (hs : Src w a n f) (hcn : n ≤ c) (hcm : c ≤ maxLen) (hrs : Src w ra roots.length (lf roots)) (hk : IsAsk h n f ac bu roots co L) (hm : IsAft co m k) :
    Calls Try.prog 51 #[.agg #[.int .i64 h, .slice a n c, .int .i64 ac, .int .i64 bu], .slice ra roots.length rc, .int .i64 m] w (RetAft w h ac n f L (baseI (1 - ac) h).toNat ra roots rc m k) := by
  have HS := Lib.hid hs; have HK := Lib.hid hk; have HCM := Lib.hid hcm; have HRS := Lib.hid hrs; have HM := Lib.hid hm
  have HP : Hid (co = 0 → baseI (1 - ac) h = (((baseI (1 - ac) h).toNat : Nat) : Int)) := Lib.hid (fun h0 => by
    subst h0
    obtain ⟨hk1, hk2, hk3, hk4⟩ := isAsk_zero hk
    obtain ⟨⟨⟨g1, g2⟩, _, _, _⟩, _, _⟩ := isFault_ok (isOI_zero hk2).1
    have := baseI_bd (ac := 1 - ac) g1
    omega)
  obtain ⟨P, hP⟩ : ∃ P, (baseI (1 - ac) h).toNat = P := ⟨_, rfl⟩
  have HPE := Lib.hid hP
  rw [hP] at HP ⊢
  clear hs hk hcm hrs hm hP
  go_enter Try.func51, Try.ntmps51
  go_wp2_with fail
  refine (begin_any h ac bu a n c f ra roots rc co L P _ ((HS.out.alloc _).alloc _) hcn HCM.out ((HRS.out.alloc _).alloc _) HK.out HP.out).mono ?_
  rintro e w1 ⟨hb, hr⟩
  have HB1 := Lib.hid (thru2 (Below.refl _ _) hb)
  have R_1 := Lib.hid ((Blk.new_at (w := w.alloc (.cells #[.int .i64 h, .slice a n c, .int .i64 ac, .int .i64 bu] 34)) (cs := #[.int .i64 0, .int .i64 0, .slice none 0 0, .int .i64 0, .int .i64 0, .slice none 0 0, .int .i64 0, .int .i64 0]) (t := 72) (w.heap.size + 1) (by simp)).below hb)
  have z1 : w.heap.size + 2 ≤ w1.heap.size := by have := hb.size; simp at this; omega
  clear hb
  rcases hr with ⟨h0, rfl⟩ | ⟨rfl, g, q, gc, rfl, hw, hge, hgc, hgm⟩
  · have hkc : k = co := by
      rcases HM.out with ⟨_, h1⟩ | ⟨h1, _⟩ | ⟨h1, _⟩
      · exact h1
      · exact absurd h1 h0
      · exact absurd h1 h0
    subst hkc
    have H0 := Lib.hid h0
    have R_2 := Lib.hid (R_1.out.alloc (.cells #[.int .i64 k, .int .i64 0, .slice none 0 0, .int .i64 0, .int .i64 0, .slice none 0 0, .int .i64 0, .int .i64 0] 72))
    have X_2 := Lib.hid (Blk.new_at (w := w1) (cs := #[.int .i64 k, .int .i64 0, .slice none 0 0, .int .i64 0, .int .i64 0, .slice none 0 0, .int .i64 0, .int .i64 0]) (t := 72) w1.heap.size rfl)
    have lr := R_2.out.1; have r0 := R_2.out.at 0 rfl; have rf0 := R_2.out.free 0 rfl; have r1 := R_2.out.at 1 rfl; have rf1 := R_2.out.free 1 rfl; have r2 := R_2.out.at 2 rfl; have rf2 := R_2.out.free 2 rfl; have r3 := R_2.out.at 3 rfl; have rf3 := R_2.out.free 3 rfl; have r4 := R_2.out.at 4 rfl; have rf4 := R_2.out.free 4 rfl; have r5 := R_2.out.at 5 rfl; have rf5 := R_2.out.free 5 rfl; have r6 := R_2.out.at 6 rfl; have rf6 := R_2.out.free 6 rfl; have r7 := R_2.out.at 7 rfl; have rf7 := R_2.out.free 7 rfl
    have lx := X_2.out.1; have x0 := X_2.out.at 0 rfl; have xf0 := X_2.out.free 0 rfl; have x1 := X_2.out.at 1 rfl; have xf1 := X_2.out.free 1 rfl; have x2 := X_2.out.at 2 rfl; have xf2 := X_2.out.free 2 rfl; have x3 := X_2.out.at 3 rfl; have xf3 := X_2.out.free 3 rfl; have x4 := X_2.out.at 4 rfl; have xf4 := X_2.out.free 4 rfl; have x5 := X_2.out.at 5 rfl; have xf5 := X_2.out.free 5 rfl; have x6 := X_2.out.at 6 rfl; have xf6 := X_2.out.free 6 rfl; have x7 := X_2.out.at 7 rfl; have xf7 := X_2.out.free 7 rfl
    go_wp2
    refine bodyPost_ret (v := .agg #[.int .i64 k, .int .i64 0, .slice none 0 0, .int .i64 0, .int .i64 0, .slice none 0 0, .int .i64 0, .int .i64 0]) (by simp [results, Try.results51, go_sem, r0, r1, r2, r3, r4, r5, r6, r7]) rfl ⟨?_, .inl ⟨H0.out, rfl⟩⟩
    repeat (first | (with_reducible refine Below.setCell ?_ (by (try simp); (try omega)) _))
    exact HB1.out.alloc HB1.out.size _
  · have HGC := Lib.hid (And.intro hgc hgm)
    have HGE := Lib.hid (show w.heap.size + 2 ≤ g by simpa using hge)
    have HW := Lib.hid hw
    clear hw hge hgc hgm
    have R_2 := Lib.hid (R_1.out.alloc (.cells #[.int .i64 0, .int .i64 h, .slice (some ⟨g, q, none⟩) n gc, .int .i64 (1 - ac), .int .i64 0, .slice ra roots.length rc, .int .i64 0, .int .i64 (P : Int)] 72))
    have X_2 := Lib.hid (Blk.new_at (w := w1) (cs := #[.int .i64 0, .int .i64 h, .slice (some ⟨g, q, none⟩) n gc, .int .i64 (1 - ac), .int .i64 0, .slice ra roots.length rc, .int .i64 0, .int .i64 (P : Int)]) (t := 72) w1.heap.size rfl)
    have W_2 := Lib.hid (HW.out.alloc (.cells #[.int .i64 0, .int .i64 h, .slice (some ⟨g, q, none⟩) n gc, .int .i64 (1 - ac), .int .i64 0, .slice ra roots.length rc, .int .i64 0, .int .i64 (P : Int)] 72))
    have HB2 := Lib.hid (HB1.out.alloc HB1.out.size (.cells #[.int .i64 0, .int .i64 h, .slice (some ⟨g, q, none⟩) n gc, .int .i64 (1 - ac), .int .i64 0, .slice ra roots.length rc, .int .i64 0, .int .i64 (P : Int)] 72))
    have hbg := HW.out.lt
    clear HB1 R_1
    have lx := X_2.out.1; have x0 := X_2.out.at 0 rfl; have xf0 := X_2.out.free 0 rfl; have x1 := X_2.out.at 1 rfl; have xf1 := X_2.out.free 1 rfl; have x2 := X_2.out.at 2 rfl; have xf2 := X_2.out.free 2 rfl; have x3 := X_2.out.at 3 rfl; have xf3 := X_2.out.free 3 rfl; have x4 := X_2.out.at 4 rfl; have xf4 := X_2.out.free 4 rfl; have x5 := X_2.out.at 5 rfl; have xf5 := X_2.out.free 5 rfl; have x6 := X_2.out.at 6 rfl; have xf6 := X_2.out.free 6 rfl; have x7 := X_2.out.at 7 rfl; have xf7 := X_2.out.free 7 rfl
    go_wp2_with fail
    clear lx x0 xf0 x1 xf1 x2 xf2 x3 xf3 x4 xf4 x5 xf5 x6 xf6 x7 xf7
    have hgeo := HGE.out
    have hzz : (w1.alloc (.cells #[.int .i64 0, .int .i64 h, .slice (some ⟨g, q, none⟩) n gc, .int .i64 (1 - ac), .int .i64 0, .slice ra roots.length rc, .int .i64 0, .int .i64 (P : Int)] 72)).heap.size = w1.heap.size + 1 := by simp
    have HZZ := Lib.hid hzz
    clear hzz
    generalize hbb : w1.heap.size = bb at *
    have HGE := Lib.hid hgeo
    generalize w1.alloc (.cells #[.int .i64 0, .int .i64 h, .slice (some ⟨g, q, none⟩) n gc, .int .i64 (1 - ac), .int .i64 0, .slice ra roots.length rc, .int .i64 0, .int .i64 (P : Int)] 72) = w2 at *
    clear hbb HW
    have hz2 := HB2.out.size
    have hbl2 := X_2.out.1
    by_cases hm : 0 ≤ m ∧ m ≤ 500
    · have hk0 : k = 0 := by
        rcases HM.out with ⟨h1, _⟩ | ⟨_, h1, _⟩ | ⟨_, _, h1⟩
        · exact absurd rfl h1
        · exact absurd hm h1
        · exact h1
      subst hk0
      have HFX : Hid (Fixed bb g n gc h (1 - ac) f L (baseI ac h).toNat bu.toNat P h.toNat roots) := Lib.hid (by rw [← HPE.out]; exact fixed_of HK.out (by omega) HGC.out)
      obtain ⟨M, rfl⟩ : ∃ M : Nat, m = (M : Int) := ⟨m.toNat, by omega⟩
      have HMM := Lib.hid hm
      clear hm HM
      refine (isOut1 _ _ _ _ _ false (by have := HZZ.out; omega) (.inl ⟨rfl, HMM.out⟩)).mono ?_
      rintro e w3 ⟨rfl, hb⟩
      have HB3 := Lib.hid (thru1 HB2.out hb)
      have hb23 := Lib.hid (thru1 (Below.refl _ _) hb)
      have R_3 := Lib.hid (R_2.out.below hb23.out); have X_3 := Lib.hid (X_2.out.below hb23.out); have W_3 := Lib.hid (W_2.out.below hb23.out)
      clear hb
      have hz3 := hb23.out.size
      have HPS : Hid (PSt w3 bb g q n gc h (1 - ac) ra rc f L P roots (gst (succO f L) roots 0)) := Lib.hid ⟨⟨f, W_3.out, cw_init f L P⟩, X_3.out, (rts_of_src HRS.out (by omega) (by omega)).below HB3.out⟩
      have hM5 := HMM.out.2
      go_wp2
      go_loopw [21] (fun k wr => ∃ i : Nat, i ≤ M ∧ k = .int .i64 (i : Int) ∧ Hid (PSt wr bb g q n gc h (1 - ac) ra rc f L P roots (gst (succO f L) roots i)) ∧ Hid (Kep w3 wr bb g)) (fun k _ => M - (intOf k).toNat)
      case atStart => exact ⟨0, Nat.zero_le _, rfl, HPS, Lib.hid (Kep.refl _ _ _)⟩
      case round =>
        obtain ⟨i, hi, rfl, HR, HKP⟩ := hrel
        by_cases hlt : i < M
        · have hlt' : (i : Int) < (M : Int) := by omega
          have HE : Hid (gst (succO f L) roots (i + 1) = gstep (succO f L) roots (gst (succO f L) roots i)) := Lib.hid rfl
          go_wp2_with fail
          refine (step_any bb g q n gc rc h (1 - ac) ra f L _ _ P _ roots (gst (succO f L) roots i) _ HR.out HFX.out (HFX.out.gi i)).mono ?_
          rintro e w4 ⟨rfl, hs, hk⟩
          rw [← HE.out] at hs
          have HR4 := Lib.hid hs; have HK4 := Lib.hid (HKP.out.trans hk)
          clear hs hk
          go_wp2
          go_roundw
          case rel => exact ⟨i + 1, by omega, by go_num, HR4, HK4⟩
          case measure => simp [intOf]; omega
        · have hlt' : ¬ (i : Int) < (M : Int) := by omega
          obtain rfl : i = M := by omega
          have R_4 := Lib.hid (R_3.out.kep HKP.out (by omega) (by omega)); have X_4 := Lib.hid HR.out.blk
          have lr := R_4.out.1; have r0 := R_4.out.at 0 rfl; have rf0 := R_4.out.free 0 rfl; have r1 := R_4.out.at 1 rfl; have rf1 := R_4.out.free 1 rfl; have r2 := R_4.out.at 2 rfl; have rf2 := R_4.out.free 2 rfl; have r3 := R_4.out.at 3 rfl; have rf3 := R_4.out.free 3 rfl; have r4 := R_4.out.at 4 rfl; have rf4 := R_4.out.free 4 rfl; have r5 := R_4.out.at 5 rfl; have rf5 := R_4.out.free 5 rfl; have r6 := R_4.out.at 6 rfl; have rf6 := R_4.out.free 6 rfl; have r7 := R_4.out.at 7 rfl; have rf7 := R_4.out.free 7 rfl
          have lx := X_4.out.1; have x0 := X_4.out.at 0 rfl; have xf0 := X_4.out.free 0 rfl; have x1 := X_4.out.at 1 rfl; have xf1 := X_4.out.free 1 rfl; have x2 := X_4.out.at 2 rfl; have xf2 := X_4.out.free 2 rfl; have x3 := X_4.out.at 3 rfl; have xf3 := X_4.out.free 3 rfl; have x4 := X_4.out.at 4 rfl; have xf4 := X_4.out.free 4 rfl; have x5 := X_4.out.at 5 rfl; have xf5 := X_4.out.free 5 rfl; have x6 := X_4.out.at 6 rfl; have xf6 := X_4.out.free 6 rfl; have x7 := X_4.out.at 7 rfl; have xf7 := X_4.out.free 7 rfl
          go_wp2
          obtain ⟨F, hw, hc⟩ := HR.out.ex
          refine bodyPost_ret (v := .agg #[.int .i64 0, .int .i64 h, .slice (some ⟨g, q, none⟩) n gc, .int .i64 (1 - ac), .int .i64 ((totO (objsO L (gst (succO f L) roots i).R) : Nat) : Int), .slice ra roots.length rc, .int .i64 ((gst (succO f L) roots i).nx : Int), .int .i64 ((placeAt P (objsO L (gst (succO f L) roots i).R) (gst (succO f L) roots i).s : Nat) : Int)]) (by simp [results, Try.results51, go_sem, r0, r1, r2, r3, r4, r5, r6, r7]) rfl ⟨?_, .inr ⟨rfl, g, q, gc, F, ?_, ?_, by have := HGE.out; omega, ?_, HGC.out.1, HGC.out.2⟩⟩
          · repeat (first | (with_reducible refine Below.setCell ?_ (by (try simp); (try omega)) _))
            exact HB3.out.trans (HKP.out.below (by omega) (by omega) HB3.out.size)
          · simp only [Int.toNat_natCast]
          · repeat (first | (with_reducible refine Wrd.other ?_ (by show w.heap.size + 1 ≠ g; have := HGE.out; omega) _))
            exact hw
          · simp only [Int.toNat_natCast]
            exact hc
    · have hk3 : k = 3 := by
        rcases HM.out with ⟨h1, _⟩ | ⟨_, _, h1⟩ | ⟨_, h1, _⟩
        · exact absurd rfl h1
        · exact h1
        · exact absurd h1 hm
      subst hk3
      have HMM := Lib.hid hm
      clear hm HM
      refine (isOut1 _ _ _ _ _ true (by have := HZZ.out; omega) (.inr ⟨rfl, HMM.out⟩)).mono ?_
      rintro e w3 ⟨rfl, hb⟩
      have HB3 := Lib.hid (thru1 HB2.out hb)
      have hb23 := Lib.hid (thru1 (Below.refl _ _) hb)
      have R_3 := Lib.hid (R_2.out.below hb23.out)
      clear hb
      have lr := R_3.out.1; have r0 := R_3.out.at 0 rfl; have rf0 := R_3.out.free 0 rfl; have r1 := R_3.out.at 1 rfl; have rf1 := R_3.out.free 1 rfl; have r2 := R_3.out.at 2 rfl; have rf2 := R_3.out.free 2 rfl; have r3 := R_3.out.at 3 rfl; have rf3 := R_3.out.free 3 rfl; have r4 := R_3.out.at 4 rfl; have rf4 := R_3.out.free 4 rfl; have r5 := R_3.out.at 5 rfl; have rf5 := R_3.out.free 5 rfl; have r6 := R_3.out.at 6 rfl; have rf6 := R_3.out.free 6 rfl; have r7 := R_3.out.at 7 rfl; have rf7 := R_3.out.free 7 rfl
      go_wp2
      refine bodyPost_ret (v := .agg #[.int .i64 3, .int .i64 0, .slice none 0 0, .int .i64 0, .int .i64 0, .slice none 0 0, .int .i64 0, .int .i64 0]) (by simp [results, Try.results51, go_sem, r0, r1, r2, r3, r4, r5, r6, r7]) rfl ⟨?_, .inl ⟨by decide, rfl⟩⟩
      repeat (first | (with_reducible refine Below.setCell ?_ (by (try simp); (try omega)) _))
      exact HB3.out
end Go.Proofs.Ytnacdhnnpddccaa

namespace Go.Proofs.Ytnacdhnnpddccaa
open Go.RowKit
set_option linter.unusedVariables false

theorem own_pre {w : World} {B : Nat} {a : Option Addr} {n s : Nat} {f : Nat → Int} (h : Own w B a n f) (hs : s ≤ n) : Own w B a s f := by
  rcases h with h | ⟨b, q, h1, h2, h3, h4⟩
  · exact .inl (by omega)
  · exact .inr ⟨b, q, h1, h2, h3, fun i hi => h4 i (by omega)⟩

theorem own_suf {w : World} {B b q : Nat} {n s : Nat} {f : Nat → Int} (h : Own w B (some ⟨b, q, none⟩) n f) (hs : s ≤ n) : Own w B (some ⟨b, q + s, none⟩) (n - s) (fun j => f (s + j)) := by
  rcases h with h | ⟨b', q', h1, h2, h3, h4⟩
  · exact .inl (by omega)
  · simp only [Option.some.injEq, Addr.mk.injEq, and_true] at h1
    obtain ⟨rfl, rfl⟩ := h1
    exact .inr ⟨b, q + s, rfl, h2, h3, fun i hi => by rw [Nat.add_assoc]; exact h4 (s + i) (by omega)⟩

theorem cutI_one {f : Nat → Int} {N : Nat} {x : Int} {i s : Nat} (hi : i ≤ N) (hs : s ≤ N) (h1 : CutI f N x i i) (h2 : CutI f N x s s) : i = s := by
  rcases Nat.lt_trichotomy i s with h | h | h
  · have a := h2.1 i h; have b := h1.2 i (Nat.le_refl _) (by omega); omega
  · exact h
  · have a := h1.1 s h; have b := h2.2 s (Nat.le_refl _) (by omega); omega

/-- The places of what is done with, and of what is not. -/
def RetBG (W : World) (O : List Int) (s : Nat) (e : Ending) (w' : World) : Prop := ∃ x y c1 c2, e = .returned (.tuple #[.slice x s c1, .slice y (O.length - s) c2]) ∧ Own w' W.heap.size x s (lf O) ∧ Own w' W.heap.size y (O.length - s) (fun j => lf O (s + j)) ∧ Below W.heap.size W w'

theorem at_lf {F : Nat → Int} {T : List Ob} {i : Nat} (hi : i < T.length) : (obT F T i).at_ = lf (placesO T) i := by
  unfold obT lf placesO
  rw [List.getD_eq_getElem?_getD, List.getElem?_map, List.getElem?_eq_getElem hi]
  rfl

theorem fld_bg (k : Int) (a : Option Addr) (n c : Nat) (w : World) : (Instr.field 92 (.agg #[.int .i64 k, .slice a n c]) 1).run Try.prog w = .ok (.slice a n c) w := by kernel_rfl

set_option maxRecDepth 100000 in
set_option maxHeartbeats 1600000 in
theorem bag_any (co h ac bu : Int) (a : Option Addr) (n c : Nat) (F : Nat → Int) (rv : Value) (nx sc k : Int) (T : List Ob) (O : List Int) (s : Nat) (w : World) (hs : Src w a n F) (hnc : n ≤ c) (hcm : c ≤ maxLen) (ho : IsOI h n F ac bu k T) (hO : O = placesO T) (hm : ∀ i j, i < j → j < O.length → lf O i < lf O j) (hl : O.length ≤ 1000000) (hsl : s ≤ O.length) (hc : CutI (lf O) O.length sc s s) :
    Calls Try.prog 68 #[.agg #[.int .i64 co, .int .i64 h, .slice a n c, .int .i64 ac, .int .i64 bu, rv, .int .i64 nx, .int .i64 sc]] w (RetBG w O s) := by
  have HOT := Lib.hid (show O.length = T.length by rw [hO]; simp [placesO])
  have S0 := Lib.hid hs; have HO := Lib.hid ho; have HM := Lib.hid hm; have HC := Lib.hid hc; have HCM := Lib.hid hcm; have HOE := Lib.hid hO
  clear hs ho hm hc hcm hO
  go_enter Try.func68, Try.ntmps68
  have HB0 : Hid (Below w.heap.size w (w.alloc (.cells #[.int .i64 co, .int .i64 h, .slice a n c, .int .i64 ac, .int .i64 bu, rv, .int .i64 nx, .int .i64 sc] 72))) := Lib.hid ((Below.refl _ _).alloc (Nat.le_refl _) _)
  have X0 := Lib.hid (Blk.new_at (w := w) (cs := #[.int .i64 co, .int .i64 h, .slice a n c, .int .i64 ac, .int .i64 bu, rv, .int .i64 nx, .int .i64 sc]) (t := 72) w.heap.size rfl)
  have hfl := fld_bg
  go_wp2_with fail
  refine (implOI h ac bu a n c F k T _ (S0.out.below HB0.out) hnc HCM.out HO.out).mono ?_
  rintro e w1 ⟨a1, c1, G, rfl, hg, hsm, hb, _, _⟩
  have HB1 := Lib.hid (thru0 HB0.out hb); have X1 := Lib.hid (X0.out.below hb)
  have HG : Hid (GV w1 a1 O.length G) := Lib.hid (by rw [HOT.out]; exact hg.src)
  have HAT : Hid (∀ i, i < O.length → (G i).at_ = lf O i) := Lib.hid fun i hi => by have := HOT.out; rw [(hsm i (by omega)).1, HOE.out]; exact at_lf (by omega)
  clear hb hg hsm X0 HB0
  rw [← HOT.out]
  go_wp2_with fail
  refine (places_any a1 O c1 G _ HG.out hl HAT.out).mono ?_
  rintro e w2 ⟨a2, c2, rfl, ho2, hb, h1, h2, h3⟩
  have HB2 := Lib.hid (thru0 HB1.out hb); have X2 := Lib.hid (X1.out.below hb); have O2 := Lib.hid (ho2.mono (B' := w.heap.size) HB1.out.size)
  clear hb ho2 X1 HB1 HG HAT
  have x7 := X2.out.at 7 rfl; have lx := X2.out.1
  go_wp2_with fail
  refine (bsi_any a2 O.length c2 (lf O) sc _ O2.out.src (by omega) HM.out).mono ?_
  rintro e w3 ⟨i, d, hi, hcut, rfl, hb⟩
  obtain rfl : i = s := cutI_one hi hsl hcut HC.out
  have HB3 := Lib.hid (thru0 HB2.out hb); have O3 := Lib.hid (O2.out.below hb)
  clear hb hcut x7 lx X2 HB2 O2
  go_upto_region 3 with (fail)
  have hi0 : (0 : Int) ≤ (i : Int) := by omega
  have hi1 : (i : Int) ≤ (O.length : Int) := by omega
  have hi2 : (i : Int) ≤ (c2 : Int) := by omega
  have hi3 : (O.length : Int) ≤ (c2 : Int) := by omega
  rcases a2 with _ | ad
  · obtain ⟨z1, z2⟩ := h3 rfl
    obtain rfl : i = 0 := by omega
    subst z2
    clear hi1 hi2 hi3 hi0
    go_quiet (fail)
    go_wp2
    go_ret2
    exact ⟨none, none, 0, 0, by simp [z1], .inl rfl, .inl (by omega), thru0 HB3.out (drewN_below _ _)⟩
  · by_cases hcs : c2 = i
    · have hcs' : c2 - i = 0 := by omega
      go_quiet (fail)
      go_wp2
      go_ret2
      exact ⟨some ad, some ad, i, 0, rfl, own_pre (O3.out.below (drewN_below _ _)) hi, .inl (by omega), thru0 HB3.out (drewN_below _ _)⟩
    · have hcs' : ¬ c2 - i = 0 := by omega
      go_quiet (fail)
      go_wp2
      go_ret2
      refine ⟨some ad, some (ad.add i), c2, c2 - i, rfl, own_pre (O3.out.below (drewN_below _ _)) hi, ?_, thru0 HB3.out (drewN_below _ _)⟩
      by_cases hz : O.length = 0
      · exact .inl (by omega)
      · rcases O3.out with h | ⟨b, q, he, _, _, _⟩
        · exact absurd h hz
        · simp only [Option.some.injEq] at he
          subst he
          rw [show (⟨b, q, none⟩ : Addr).add i = ⟨b, q + i, none⟩ by first | rfl | simp [Addr.add]]
          exact own_suf (O3.out.below (drewN_below _ _)) hi
end Go.Proofs.Ytnacdhnnpddccaa

namespace Go.Proofs.Ytnacdhnnpddccaa
open Go.RowKit Go.Maps
set_option linter.unusedVariables false

theorem isAft_zero {co m : Int} (h : IsAft co m 0) : co = 0 ∧ 0 ≤ m ∧ m ≤ 500 := by
  rcases h with ⟨h1, h2⟩ | ⟨_, _, h3⟩ | ⟨h1, h2, _⟩
  · exact absurd h2.symm h1
  · omega
  · exact ⟨h1, h2⟩
end Go.Proofs.Ytnacdhnnpddccaa

namespace Go.Proofs.Ytnacdhnnpddccaa
open Go.RowKit Go.Maps
set_option linter.unusedVariables false

/-- The places of what was brought over. -/
def bgO (L : List Ob) (P : Nat) (t : GT) : List Int := newPlaces P (objsO L t.R)

def grN (L : List Ob) (P : Nat) (t : GT) (k : Int) : Nat := if k = 0 then (bgO L P t).length - t.s else 0

def grF (L : List Ob) (P : Nat) (t : GT) : Nat → Int := fun j => lf (bgO L P t) (t.s + j)

def blN (t : GT) (k : Int) : Nat := if k = 0 then t.s else 0

def blF (L : List Ob) (P : Nat) (t : GT) : Nat → Int := lf (bgO L P t)

theorem bgO_get (L : List Ob) (P : Nat) (t : GT) {i : Nat} (hi : i < (objsO L t.R).length) : lf (bgO L P t) i = (placeAt P (objsO L t.R) i : Int) := newPlaces_get P _ hi

theorem bgO_length (L : List Ob) (P : Nat) (t : GT) : (bgO L P t).length = (objsO L t.R).length := newPlaces_length P _

theorem bg_facts {f W : Nat → Int} {L : List Ob} {P : Nat} {t : GT} (c : CW f L P t.R t.s 0 W) : t.s ≤ (bgO L P t).length ∧ (∀ i j, i < j → j < (bgO L P t).length → lf (bgO L P t) i < lf (bgO L P t) j) ∧ CutI (lf (bgO L P t)) (bgO L P t).length (placeAt P (objsO L t.R) t.s : Int) t.s t.s := by
  have hl := c.len
  have hs : t.s ≤ (objsO L t.R).length := by rcases c.pos with h | ⟨h, _⟩ <;> omega
  rw [bgO_length]
  refine ⟨hs, fun i j h1 h2 => ?_, fun j h1 => ?_, fun j h1 h2 => ?_⟩
  · rw [bgO_get L P t (by omega), bgO_get L P t h2]
    have := placeAt_lt P (objsO L t.R) i j h1 (by omega)
    omega
  · rw [bgO_get L P t (by omega)]
    have := placeAt_lt P (objsO L t.R) j t.s h1 hs
    omega
  · rw [bgO_get L P t h2]
    rcases Nat.lt_or_ge t.s j with h | h
    · have := placeAt_lt P (objsO L t.R) t.s j h (by omega)
      omega
    · rw [show j = t.s by omega]; omega

theorem zero_oi : ∃ k, IsOI 0 0 (fun _ => 0) 0 0 k [] := by
  obtain ⟨k, T, h⟩ := isOI_some 0 0 (fun _ => 0) 0 0
  rcases h with ⟨k', h1, h2, h3, rfl⟩ | ⟨h1, _, _, _⟩ | ⟨h1, _, _⟩
  · exact ⟨k, .inl ⟨k', h1, h2, h3, rfl⟩⟩
  · obtain ⟨⟨⟨g1, g2⟩, _⟩, _⟩ := isFault_ok h1
    omega
  · obtain ⟨⟨⟨g1, g2⟩, _⟩, _⟩ := isFault_ok h1
    omega

set_option maxRecDepth 100000 in
set_option maxHeartbeats 3200000 in
theorem implGA_any (h ac bu : Int) (a : Option Addr) (n c : Nat) (f : Nat → Int) (ra : Option Addr) (roots : List Int) (rc : Nat) (co : Int) (L : List Ob) (m k : Int) (P : Nat) (t : GT) (w : World) (hs : Src w a n f) (hcn : n ≤ c) (hcm : c ≤ maxLen) (hrs : Src w ra roots.length (lf roots)) (hk : IsAsk h n f ac bu roots co L) (hm : IsAft co m k) (hP : (baseI (1 - ac) h).toNat = P) (ht : gst (succO f L) roots m.toNat = t) :
    Calls Try.prog 35 #[.agg #[.int .i64 h, .slice a n c, .int .i64 ac, .int .i64 bu], .slice ra roots.length rc, .int .i64 m] w (RetIR w k (grN L P t k) (grF L P t)) := by
  have HS := Lib.hid hs; have HCM := Lib.hid hcm; have HRS := Lib.hid hrs; have HK := Lib.hid hk; have HM := Lib.hid hm; have HP := Lib.hid hP; have HT := Lib.hid ht
  clear hs hcm hrs hk hm hP ht
  go_enter Try.func35, Try.ntmps35
  go_wp2_with fail
  refine (copyAfter_any h ac bu a n c f ra roots rc co L m k _ ((HS.out.alloc _).alloc _) hcn HCM.out ((HRS.out.alloc _).alloc _) HK.out HM.out).mono ?_
  rintro e w1 ⟨hb, hr⟩
  rw [HP.out, HT.out] at hr
  have HB1 := Lib.hid (thru2 (Below.refl _ _) hb)
  have R_1 := Lib.hid ((Blk.new_at (w := w.alloc (.cells #[.int .i64 h, .slice a n c, .int .i64 ac, .int .i64 bu] 34)) (cs := #[.int .i64 0, .slice none 0 0]) (t := 55) (w.heap.size + 1) (by simp)).below hb)
  have z1 : w.heap.size + 2 ≤ w1.heap.size := by have := hb.size; simp at this; omega
  clear hb
  rcases hr with ⟨h0, rfl⟩ | ⟨rfl, g, q, gc, F, rfl, hw, hge, hc, hgc, hgm⟩
  · have HN := Lib.hid (show grN L P t k = 0 by unfold grN; rw [if_neg h0])
    obtain ⟨kz, hz⟩ := zero_oi
    have HZ := Lib.hid hz
    clear hz
    have R_2 := Lib.hid (R_1.out.alloc (.cells #[.int .i64 k, .int .i64 0, .slice none 0 0, .int .i64 0, .int .i64 0, .slice none 0 0, .int .i64 0, .int .i64 0] 72))
    have X_2 := Lib.hid (Blk.new_at (w := w1) (cs := #[.int .i64 k, .int .i64 0, .slice none 0 0, .int .i64 0, .int .i64 0, .slice none 0 0, .int .i64 0, .int .i64 0]) (t := 72) w1.heap.size rfl)
    have HB2 := Lib.hid (HB1.out.alloc HB1.out.size (.cells #[.int .i64 k, .int .i64 0, .slice none 0 0, .int .i64 0, .int .i64 0, .slice none 0 0, .int .i64 0, .int .i64 0] 72))
    have z2 : w1.heap.size < (w1.alloc (.cells #[.int .i64 k, .int .i64 0, .slice none 0 0, .int .i64 0, .int .i64 0, .slice none 0 0, .int .i64 0, .int .i64 0] 72)).heap.size := by simp
    have lx := X_2.out.1; have x0 := X_2.out.at 0 rfl; have xf0 := X_2.out.free 0 rfl; have x1 := X_2.out.at 1 rfl; have xf1 := X_2.out.free 1 rfl; have x2 := X_2.out.at 2 rfl; have xf2 := X_2.out.free 2 rfl; have x3 := X_2.out.at 3 rfl; have xf3 := X_2.out.free 3 rfl; have x4 := X_2.out.at 4 rfl; have xf4 := X_2.out.free 4 rfl; have x5 := X_2.out.at 5 rfl; have xf5 := X_2.out.free 5 rfl; have x6 := X_2.out.at 6 rfl; have xf6 := X_2.out.free 6 rfl; have x7 := X_2.out.at 7 rfl; have xf7 := X_2.out.free 7 rfl
    clear HB1 R_1
    go_upto_region 2 with (fail)
    generalize w1.alloc (.cells #[.int .i64 k, .int .i64 0, .slice none 0 0, .int .i64 0, .int .i64 0, .slice none 0 0, .int .i64 0, .int .i64 0] 72) = w2 at *
    go_wp2_with fail
    refine (bag_any k 0 0 0 none 0 0 (fun _ => 0) (.slice none 0 0) 0 0 kz [] [] 0 _ (.inl rfl) (Nat.le_refl _) (Nat.zero_le _) HZ.out rfl (fun i j _ hj => absurd hj (Nat.not_lt_zero _)) (Nat.zero_le _) (Nat.le_refl _) ⟨fun j hj => absurd hj (Nat.not_lt_zero _), fun j _ hj => absurd hj (Nat.not_lt_zero _)⟩).mono ?_
    rintro e w3 ⟨xx, yy, c1, c2, rfl, ox, oy, hb⟩
    have HB3 := Lib.hid (thru0 HB2.out hb); have R_3 := Lib.hid (R_2.out.below hb); have X_3 := Lib.hid (X_2.out.below hb)
    clear hb ox oy lx x0 xf0 x1 xf1 x2 xf2 x3 xf3 x4 xf4 x5 xf5 x6 xf6 x7 xf7 HB2 R_2 X_2
    have lr := R_3.out.1; have r0 := R_3.out.at 0 rfl; have rf0 := R_3.out.free 0 rfl; have r1 := R_3.out.at 1 rfl; have rf1 := R_3.out.free 1 rfl
    have lx := X_3.out.1; have x0 := X_3.out.at 0 rfl; have xf0 := X_3.out.free 0 rfl; have x1 := X_3.out.at 1 rfl; have xf1 := X_3.out.free 1 rfl; have x2 := X_3.out.at 2 rfl; have xf2 := X_3.out.free 2 rfl; have x3 := X_3.out.at 3 rfl; have xf3 := X_3.out.free 3 rfl; have x4 := X_3.out.at 4 rfl; have xf4 := X_3.out.free 4 rfl; have x5 := X_3.out.at 5 rfl; have xf5 := X_3.out.free 5 rfl; have x6 := X_3.out.at 6 rfl; have xf6 := X_3.out.free 6 rfl; have x7 := X_3.out.at 7 rfl; have xf7 := X_3.out.free 7 rfl
    go_wp2
    refine bodyPost_ret (v := .agg #[.int .i64 k, .slice yy 0 c2]) (by simp [results, Try.results35, go_sem, r0, r1]) rfl ⟨yy, c2, (by rw [HN.out]), .inl HN.out, ?_⟩
    repeat (first | (with_reducible refine Below.setCell ?_ (by (try simp); (try omega)) _))
    exact HB3.out
  · have HN := Lib.hid (show grN L P t 0 = (bgO L P t).length - t.s by unfold grN; rw [if_pos rfl])
    obtain ⟨hco, hm⟩ := isAft_zero HM.out
    have hkz := HK.out
    rw [hco] at hkz
    obtain ⟨hk1, hk2, hk3, hk4⟩ := isAsk_zero hkz
    have HOI := Lib.hid (hc.isOI hk1 hk2 HP.out.symm)
    have HOE := Lib.hid (show bgO L P t = placesO (moved P (objsO L t.R)) from (moved_places P _).symm)
    have HL := Lib.hid (show (bgO L P t).length ≤ 400 by have := (isOI_small HOI.out).1; rw [moved_length] at this; rw [bgO_length]; exact this)
    have HF := Lib.hid (bg_facts hc)
    have R_2 := Lib.hid (R_1.out.alloc (.cells #[.int .i64 0, .int .i64 h, .slice (some ⟨g, q, none⟩) n gc, .int .i64 (1 - ac), .int .i64 ((totO (objsO L t.R) : Nat) : Int), .slice ra roots.length rc, .int .i64 (t.nx : Int), .int .i64 ((placeAt P (objsO L t.R) t.s : Nat) : Int)] 72))
    have X_2 := Lib.hid (Blk.new_at (w := w1) (cs := #[.int .i64 0, .int .i64 h, .slice (some ⟨g, q, none⟩) n gc, .int .i64 (1 - ac), .int .i64 ((totO (objsO L t.R) : Nat) : Int), .slice ra roots.length rc, .int .i64 (t.nx : Int), .int .i64 ((placeAt P (objsO L t.R) t.s : Nat) : Int)]) (t := 72) w1.heap.size rfl)
    have W_2 := Lib.hid (hw.alloc (.cells #[.int .i64 0, .int .i64 h, .slice (some ⟨g, q, none⟩) n gc, .int .i64 (1 - ac), .int .i64 ((totO (objsO L t.R) : Nat) : Int), .slice ra roots.length rc, .int .i64 (t.nx : Int), .int .i64 ((placeAt P (objsO L t.R) t.s : Nat) : Int)] 72))
    have HB2 := Lib.hid (HB1.out.alloc HB1.out.size (.cells #[.int .i64 0, .int .i64 h, .slice (some ⟨g, q, none⟩) n gc, .int .i64 (1 - ac), .int .i64 ((totO (objsO L t.R) : Nat) : Int), .slice ra roots.length rc, .int .i64 (t.nx : Int), .int .i64 ((placeAt P (objsO L t.R) t.s : Nat) : Int)] 72))
    have z2 : w1.heap.size < (w1.alloc (.cells #[.int .i64 0, .int .i64 h, .slice (some ⟨g, q, none⟩) n gc, .int .i64 (1 - ac), .int .i64 ((totO (objsO L t.R) : Nat) : Int), .slice ra roots.length rc, .int .i64 (t.nx : Int), .int .i64 ((placeAt P (objsO L t.R) t.s : Nat) : Int)] 72)).heap.size := by simp
    have lx := X_2.out.1; have x0 := X_2.out.at 0 rfl; have xf0 := X_2.out.free 0 rfl; have x1 := X_2.out.at 1 rfl; have xf1 := X_2.out.free 1 rfl; have x2 := X_2.out.at 2 rfl; have xf2 := X_2.out.free 2 rfl; have x3 := X_2.out.at 3 rfl; have xf3 := X_2.out.free 3 rfl; have x4 := X_2.out.at 4 rfl; have xf4 := X_2.out.free 4 rfl; have x5 := X_2.out.at 5 rfl; have xf5 := X_2.out.free 5 rfl; have x6 := X_2.out.at 6 rfl; have xf6 := X_2.out.free 6 rfl; have x7 := X_2.out.at 7 rfl; have xf7 := X_2.out.free 7 rfl
    clear HB1 R_1 hw hge hc hco hm hkz hk1 hk2 hk3 hk4
    go_upto_region 2 with (fail)
    generalize w1.alloc (.cells #[.int .i64 0, .int .i64 h, .slice (some ⟨g, q, none⟩) n gc, .int .i64 (1 - ac), .int .i64 ((totO (objsO L t.R) : Nat) : Int), .slice ra roots.length rc, .int .i64 (t.nx : Int), .int .i64 ((placeAt P (objsO L t.R) t.s : Nat) : Int)] 72) = w2 at *
    go_wp2_with fail
    refine (bag_any 0 h (1 - ac) ((totO (objsO L t.R) : Nat) : Int) (some ⟨g, q, none⟩) n gc F (.slice ra roots.length rc) (t.nx : Int) ((placeAt P (objsO L t.R) t.s : Nat) : Int) 0 (moved P (objsO L t.R)) (bgO L P t) t.s _ W_2.out.src hgc hgm HOI.out HOE.out HF.out.2.1 (Nat.le_trans HL.out (by decide)) HF.out.1 HF.out.2.2).mono ?_
    rintro e w3 ⟨xx, yy, c1, c2, rfl, ox, oy, hb⟩
    have HB3 := Lib.hid (thru0 HB2.out hb); have R_3 := Lib.hid (R_2.out.below hb); have X_3 := Lib.hid (X_2.out.below hb)
    have OA := Lib.hid (oy.mono (B' := w.heap.size + 2) (by omega))
    clear hb ox oy lx x0 xf0 x1 xf1 x2 xf2 x3 xf3 x4 xf4 x5 xf5 x6 xf6 x7 xf7 HB2 R_2 X_2 W_2
    have lr := R_3.out.1; have r0 := R_3.out.at 0 rfl; have rf0 := R_3.out.free 0 rfl; have r1 := R_3.out.at 1 rfl; have rf1 := R_3.out.free 1 rfl
    have lx := X_3.out.1; have x0 := X_3.out.at 0 rfl; have xf0 := X_3.out.free 0 rfl; have x1 := X_3.out.at 1 rfl; have xf1 := X_3.out.free 1 rfl; have x2 := X_3.out.at 2 rfl; have xf2 := X_3.out.free 2 rfl; have x3 := X_3.out.at 3 rfl; have xf3 := X_3.out.free 3 rfl; have x4 := X_3.out.at 4 rfl; have xf4 := X_3.out.free 4 rfl; have x5 := X_3.out.at 5 rfl; have xf5 := X_3.out.free 5 rfl; have x6 := X_3.out.at 6 rfl; have xf6 := X_3.out.free 6 rfl; have x7 := X_3.out.at 7 rfl; have xf7 := X_3.out.free 7 rfl
    go_wp2
    refine bodyPost_ret (v := .agg #[.int .i64 0, .slice yy ((bgO L P t).length - t.s) c2]) (by simp [results, Try.results35, go_sem, r0, r1]) rfl ⟨yy, c2, (by rw [HN.out]), ?_, ?_⟩
    · rw [HN.out]
      refine Own.mono (B := w.heap.size + 2) ?_ (by omega)
      repeat (first | (with_reducible refine Own.setCell ?_ (by (try simp); (try omega)) _))
      exact OA.out
    · repeat (first | (with_reducible refine Below.setCell ?_ (by (try simp); (try omega)) _))
      exact HB3.out

set_option maxRecDepth 100000 in
set_option maxHeartbeats 3200000 in
theorem implBA_any (h ac bu : Int) (a : Option Addr) (n c : Nat) (f : Nat → Int) (ra : Option Addr) (roots : List Int) (rc : Nat) (co : Int) (L : List Ob) (m k : Int) (P : Nat) (t : GT) (w : World) (hs : Src w a n f) (hcn : n ≤ c) (hcm : c ≤ maxLen) (hrs : Src w ra roots.length (lf roots)) (hk : IsAsk h n f ac bu roots co L) (hm : IsAft co m k) (hP : (baseI (1 - ac) h).toNat = P) (ht : gst (succO f L) roots m.toNat = t) :
    Calls Try.prog 40 #[.agg #[.int .i64 h, .slice a n c, .int .i64 ac, .int .i64 bu], .slice ra roots.length rc, .int .i64 m] w (RetIR w k (blN t k) (blF L P t)) := by
  have HS := Lib.hid hs; have HCM := Lib.hid hcm; have HRS := Lib.hid hrs; have HK := Lib.hid hk; have HM := Lib.hid hm; have HP := Lib.hid hP; have HT := Lib.hid ht
  clear hs hcm hrs hk hm hP ht
  go_enter Try.func40, Try.ntmps40
  go_wp2_with fail
  refine (copyAfter_any h ac bu a n c f ra roots rc co L m k _ ((HS.out.alloc _).alloc _) hcn HCM.out ((HRS.out.alloc _).alloc _) HK.out HM.out).mono ?_
  rintro e w1 ⟨hb, hr⟩
  rw [HP.out, HT.out] at hr
  have HB1 := Lib.hid (thru2 (Below.refl _ _) hb)
  have R_1 := Lib.hid ((Blk.new_at (w := w.alloc (.cells #[.int .i64 h, .slice a n c, .int .i64 ac, .int .i64 bu] 34)) (cs := #[.int .i64 0, .slice none 0 0]) (t := 55) (w.heap.size + 1) (by simp)).below hb)
  have z1 : w.heap.size + 2 ≤ w1.heap.size := by have := hb.size; simp at this; omega
  clear hb
  rcases hr with ⟨h0, rfl⟩ | ⟨rfl, g, q, gc, F, rfl, hw, hge, hc, hgc, hgm⟩
  · have HN := Lib.hid (show blN t k = 0 by unfold blN; rw [if_neg h0])
    obtain ⟨kz, hz⟩ := zero_oi
    have HZ := Lib.hid hz
    clear hz
    have R_2 := Lib.hid (R_1.out.alloc (.cells #[.int .i64 k, .int .i64 0, .slice none 0 0, .int .i64 0, .int .i64 0, .slice none 0 0, .int .i64 0, .int .i64 0] 72))
    have X_2 := Lib.hid (Blk.new_at (w := w1) (cs := #[.int .i64 k, .int .i64 0, .slice none 0 0, .int .i64 0, .int .i64 0, .slice none 0 0, .int .i64 0, .int .i64 0]) (t := 72) w1.heap.size rfl)
    have HB2 := Lib.hid (HB1.out.alloc HB1.out.size (.cells #[.int .i64 k, .int .i64 0, .slice none 0 0, .int .i64 0, .int .i64 0, .slice none 0 0, .int .i64 0, .int .i64 0] 72))
    have z2 : w1.heap.size < (w1.alloc (.cells #[.int .i64 k, .int .i64 0, .slice none 0 0, .int .i64 0, .int .i64 0, .slice none 0 0, .int .i64 0, .int .i64 0] 72)).heap.size := by simp
    have lx := X_2.out.1; have x0 := X_2.out.at 0 rfl; have xf0 := X_2.out.free 0 rfl; have x1 := X_2.out.at 1 rfl; have xf1 := X_2.out.free 1 rfl; have x2 := X_2.out.at 2 rfl; have xf2 := X_2.out.free 2 rfl; have x3 := X_2.out.at 3 rfl; have xf3 := X_2.out.free 3 rfl; have x4 := X_2.out.at 4 rfl; have xf4 := X_2.out.free 4 rfl; have x5 := X_2.out.at 5 rfl; have xf5 := X_2.out.free 5 rfl; have x6 := X_2.out.at 6 rfl; have xf6 := X_2.out.free 6 rfl; have x7 := X_2.out.at 7 rfl; have xf7 := X_2.out.free 7 rfl
    clear HB1 R_1
    go_upto_region 2 with (fail)
    generalize w1.alloc (.cells #[.int .i64 k, .int .i64 0, .slice none 0 0, .int .i64 0, .int .i64 0, .slice none 0 0, .int .i64 0, .int .i64 0] 72) = w2 at *
    go_wp2_with fail
    refine (bag_any k 0 0 0 none 0 0 (fun _ => 0) (.slice none 0 0) 0 0 kz [] [] 0 _ (.inl rfl) (Nat.le_refl _) (Nat.zero_le _) HZ.out rfl (fun i j _ hj => absurd hj (Nat.not_lt_zero _)) (Nat.zero_le _) (Nat.le_refl _) ⟨fun j hj => absurd hj (Nat.not_lt_zero _), fun j _ hj => absurd hj (Nat.not_lt_zero _)⟩).mono ?_
    rintro e w3 ⟨xx, yy, c1, c2, rfl, ox, oy, hb⟩
    have HB3 := Lib.hid (thru0 HB2.out hb); have R_3 := Lib.hid (R_2.out.below hb); have X_3 := Lib.hid (X_2.out.below hb)
    clear hb ox oy lx x0 xf0 x1 xf1 x2 xf2 x3 xf3 x4 xf4 x5 xf5 x6 xf6 x7 xf7 HB2 R_2 X_2
    have lr := R_3.out.1; have r0 := R_3.out.at 0 rfl; have rf0 := R_3.out.free 0 rfl; have r1 := R_3.out.at 1 rfl; have rf1 := R_3.out.free 1 rfl
    have lx := X_3.out.1; have x0 := X_3.out.at 0 rfl; have xf0 := X_3.out.free 0 rfl; have x1 := X_3.out.at 1 rfl; have xf1 := X_3.out.free 1 rfl; have x2 := X_3.out.at 2 rfl; have xf2 := X_3.out.free 2 rfl; have x3 := X_3.out.at 3 rfl; have xf3 := X_3.out.free 3 rfl; have x4 := X_3.out.at 4 rfl; have xf4 := X_3.out.free 4 rfl; have x5 := X_3.out.at 5 rfl; have xf5 := X_3.out.free 5 rfl; have x6 := X_3.out.at 6 rfl; have xf6 := X_3.out.free 6 rfl; have x7 := X_3.out.at 7 rfl; have xf7 := X_3.out.free 7 rfl
    go_wp2
    refine bodyPost_ret (v := .agg #[.int .i64 k, .slice xx 0 c1]) (by simp [results, Try.results40, go_sem, r0, r1]) rfl ⟨xx, c1, (by rw [HN.out]), .inl HN.out, ?_⟩
    repeat (first | (with_reducible refine Below.setCell ?_ (by (try simp); (try omega)) _))
    exact HB3.out
  · have HN := Lib.hid (show blN t 0 = t.s by unfold blN; rw [if_pos rfl])
    obtain ⟨hco, hm⟩ := isAft_zero HM.out
    have hkz := HK.out
    rw [hco] at hkz
    obtain ⟨hk1, hk2, hk3, hk4⟩ := isAsk_zero hkz
    have HOI := Lib.hid (hc.isOI hk1 hk2 HP.out.symm)
    have HOE := Lib.hid (show bgO L P t = placesO (moved P (objsO L t.R)) from (moved_places P _).symm)
    have HL := Lib.hid (show (bgO L P t).length ≤ 400 by have := (isOI_small HOI.out).1; rw [moved_length] at this; rw [bgO_length]; exact this)
    have HF := Lib.hid (bg_facts hc)
    have R_2 := Lib.hid (R_1.out.alloc (.cells #[.int .i64 0, .int .i64 h, .slice (some ⟨g, q, none⟩) n gc, .int .i64 (1 - ac), .int .i64 ((totO (objsO L t.R) : Nat) : Int), .slice ra roots.length rc, .int .i64 (t.nx : Int), .int .i64 ((placeAt P (objsO L t.R) t.s : Nat) : Int)] 72))
    have X_2 := Lib.hid (Blk.new_at (w := w1) (cs := #[.int .i64 0, .int .i64 h, .slice (some ⟨g, q, none⟩) n gc, .int .i64 (1 - ac), .int .i64 ((totO (objsO L t.R) : Nat) : Int), .slice ra roots.length rc, .int .i64 (t.nx : Int), .int .i64 ((placeAt P (objsO L t.R) t.s : Nat) : Int)]) (t := 72) w1.heap.size rfl)
    have W_2 := Lib.hid (hw.alloc (.cells #[.int .i64 0, .int .i64 h, .slice (some ⟨g, q, none⟩) n gc, .int .i64 (1 - ac), .int .i64 ((totO (objsO L t.R) : Nat) : Int), .slice ra roots.length rc, .int .i64 (t.nx : Int), .int .i64 ((placeAt P (objsO L t.R) t.s : Nat) : Int)] 72))
    have HB2 := Lib.hid (HB1.out.alloc HB1.out.size (.cells #[.int .i64 0, .int .i64 h, .slice (some ⟨g, q, none⟩) n gc, .int .i64 (1 - ac), .int .i64 ((totO (objsO L t.R) : Nat) : Int), .slice ra roots.length rc, .int .i64 (t.nx : Int), .int .i64 ((placeAt P (objsO L t.R) t.s : Nat) : Int)] 72))
    have z2 : w1.heap.size < (w1.alloc (.cells #[.int .i64 0, .int .i64 h, .slice (some ⟨g, q, none⟩) n gc, .int .i64 (1 - ac), .int .i64 ((totO (objsO L t.R) : Nat) : Int), .slice ra roots.length rc, .int .i64 (t.nx : Int), .int .i64 ((placeAt P (objsO L t.R) t.s : Nat) : Int)] 72)).heap.size := by simp
    have lx := X_2.out.1; have x0 := X_2.out.at 0 rfl; have xf0 := X_2.out.free 0 rfl; have x1 := X_2.out.at 1 rfl; have xf1 := X_2.out.free 1 rfl; have x2 := X_2.out.at 2 rfl; have xf2 := X_2.out.free 2 rfl; have x3 := X_2.out.at 3 rfl; have xf3 := X_2.out.free 3 rfl; have x4 := X_2.out.at 4 rfl; have xf4 := X_2.out.free 4 rfl; have x5 := X_2.out.at 5 rfl; have xf5 := X_2.out.free 5 rfl; have x6 := X_2.out.at 6 rfl; have xf6 := X_2.out.free 6 rfl; have x7 := X_2.out.at 7 rfl; have xf7 := X_2.out.free 7 rfl
    clear HB1 R_1 hw hge hc hco hm hkz hk1 hk2 hk3 hk4
    go_upto_region 2 with (fail)
    generalize w1.alloc (.cells #[.int .i64 0, .int .i64 h, .slice (some ⟨g, q, none⟩) n gc, .int .i64 (1 - ac), .int .i64 ((totO (objsO L t.R) : Nat) : Int), .slice ra roots.length rc, .int .i64 (t.nx : Int), .int .i64 ((placeAt P (objsO L t.R) t.s : Nat) : Int)] 72) = w2 at *
    go_wp2_with fail
    refine (bag_any 0 h (1 - ac) ((totO (objsO L t.R) : Nat) : Int) (some ⟨g, q, none⟩) n gc F (.slice ra roots.length rc) (t.nx : Int) ((placeAt P (objsO L t.R) t.s : Nat) : Int) 0 (moved P (objsO L t.R)) (bgO L P t) t.s _ W_2.out.src hgc hgm HOI.out HOE.out HF.out.2.1 (Nat.le_trans HL.out (by decide)) HF.out.1 HF.out.2.2).mono ?_
    rintro e w3 ⟨xx, yy, c1, c2, rfl, ox, oy, hb⟩
    have HB3 := Lib.hid (thru0 HB2.out hb); have R_3 := Lib.hid (R_2.out.below hb); have X_3 := Lib.hid (X_2.out.below hb)
    have OA := Lib.hid (ox.mono (B' := w.heap.size + 2) (by omega))
    clear hb ox oy lx x0 xf0 x1 xf1 x2 xf2 x3 xf3 x4 xf4 x5 xf5 x6 xf6 x7 xf7 HB2 R_2 X_2 W_2
    have lr := R_3.out.1; have r0 := R_3.out.at 0 rfl; have rf0 := R_3.out.free 0 rfl; have r1 := R_3.out.at 1 rfl; have rf1 := R_3.out.free 1 rfl
    have lx := X_3.out.1; have x0 := X_3.out.at 0 rfl; have xf0 := X_3.out.free 0 rfl; have x1 := X_3.out.at 1 rfl; have xf1 := X_3.out.free 1 rfl; have x2 := X_3.out.at 2 rfl; have xf2 := X_3.out.free 2 rfl; have x3 := X_3.out.at 3 rfl; have xf3 := X_3.out.free 3 rfl; have x4 := X_3.out.at 4 rfl; have xf4 := X_3.out.free 4 rfl; have x5 := X_3.out.at 5 rfl; have xf5 := X_3.out.free 5 rfl; have x6 := X_3.out.at 6 rfl; have xf6 := X_3.out.free 6 rfl; have x7 := X_3.out.at 7 rfl; have xf7 := X_3.out.free 7 rfl
    go_wp2
    refine bodyPost_ret (v := .agg #[.int .i64 0, .slice xx (t.s) c1]) (by simp [results, Try.results40, go_sem, r0, r1]) rfl ⟨xx, c1, (by rw [HN.out]), ?_, ?_⟩
    · rw [HN.out]
      refine Own.mono (B := w.heap.size + 2) ?_ (by omega)
      repeat (first | (with_reducible refine Own.setCell ?_ (by (try simp); (try omega)) _))
      exact OA.out
    · repeat (first | (with_reducible refine Below.setCell ?_ (by (try simp); (try omega)) _))
      exact HB3.out
end Go.Proofs.Ytnacdhnnpddccaa

namespace Go.Proofs.Ytnacdhnnpddccaa
open Go.RowKit
set_option linter.unusedVariables false

theorem l1Ints_opt2 (a : Option Addr) (n cap : Nat) (f : Nat → Int) (w : World) (hs : Src w a n f) (hn : n ≤ 1048576) :
    Calls Try.prog 88 #[.slice a n cap] w (fun e w' => ∃ a' c', e = .returned (.slice a' n c') ∧ Own w' w.heap.size a' n f ∧ Below w.heap.size w w') := by
  cases a with
  | some ad =>
    refine (l1Ints_all ad n cap f w hs hn).mono ?_
    rintro e w' ⟨g, c', rfl, h1, h2, h3, h4, _, _⟩
    refine ⟨_, c', rfl, ?_, h4⟩
    rcases Nat.eq_zero_or_pos n with h0 | h0
    · exact .inl h0
    · exact .inr ⟨g, 0, rfl, h1, h2, fun k hk => by rw [Nat.zero_add]; exact h3 k hk⟩
  | none =>
    have h0 : n = 0 := by
      rcases hs with h | ⟨b, off, h, _⟩
      · exact h
      · cases h
    subst h0
    clear hs
    go_enter Try.func88, Try.ntmps88
    go_wp2
    go_ret
    exact ⟨_, _, rfl, .inl rfl, (Below.refl _ _).alloc (Nat.le_refl _) _⟩

/-- The roots of a copying of the model: where those are that were seen, and the others. -/
def rtF (L : List Ob) (P : Nat) (roots : List Int) (t : GT) : Nat → Int := fun i => if i < t.nx then goes t.R (newPlaces P (objsO L t.R)) (lf roots i) else lf roots i

/-- A copying of the model in memory. -/
structure MSt (w : World) (b g q n c rg : Nat) (h ac bu : Int) (ra : Option Addr) (rc : Nat) (f : Nat → Int) (L : List Ob) (P : Nat) (roots : List Int) (t : GT) : Prop where
  ex : ∃ F, Wrd w g q n F ∧ CW f L P t.R t.s 0 F
  blk : Blk w b [.int .i64 h, .slice (some ⟨g, q, none⟩) n c, .int .i64 ac, .int .i64 bu, .slice ra roots.length rc, .int .i64 (t.nx : Int), .int .i64 ((placeAt P (objsO L t.R) t.s : Nat) : Int), .int .i64 ((P + totO (objsO L t.R) : Nat) : Int)]
  rt : roots.length = 0 ∨ ∃ ro, ra = some ⟨rg, ro, none⟩ ∧ Wrd w rg ro roots.length (rtF L P roots t)

theorem MSt.below {w w' : World} {b g q n c rg : Nat} {h ac bu : Int} {ra : Option Addr} {rc : Nat} {f : Nat → Int} {L : List Ob} {P : Nat} {roots : List Int} {t : GT} (d : MSt w b g q n c rg h ac bu ra rc f L P roots t) (hb : Below w.heap.size w w') : MSt w' b g q n c rg h ac bu ra rc f L P roots t := by
  obtain ⟨F, h1, h2⟩ := d.ex
  refine ⟨⟨F, h1.below hb, h2⟩, d.blk.below hb, ?_⟩
  rcases d.rt with h0 | ⟨ro, e, hr⟩
  · exact .inl h0
  · exact .inr ⟨ro, e, hr.below hb⟩

theorem rtF_grow {L : List Ob} {P : Nat} {roots : List Int} {t : GT} {succ : Int → List Int} (gi : GI L roots t) (hr : ∀ p ∈ roots, p ∈ placesO L) (hs : ∀ p ∈ placesO L, ∀ y ∈ succ p, y ∈ placesO L) (h1 : ¬ t.nx < roots.length) : ∀ i, rtF L P roots t i = rtF L P roots (gstep succ roots t) i := by
  intro i
  have gi' := gi.step hr hs
  unfold gstep at gi' ⊢
  rw [if_neg h1] at gi' ⊢
  by_cases h2 : t.s < t.R.length
  · rw [if_pos h2] at gi' ⊢
    unfold rtF
    by_cases hi : i < t.nx
    · rw [if_pos hi, if_pos hi]
      exact (goes_prefix (addNew_prefix _ _) gi.sub gi'.sub (gi.seen i hi)).symm
    · rw [if_neg hi, if_neg hi]
  · rw [if_neg h2]

theorem rtF_next {L : List Ob} {P : Nat} {roots : List Int} {t : GT} {succ : Int → List Int} (gi : GI L roots t) (hr : ∀ p ∈ roots, p ∈ placesO L) (hs : ∀ p ∈ placesO L, ∀ y ∈ succ p, y ∈ placesO L) (h1 : t.nx < roots.length) : ∀ i, (if i = t.nx then goes (addNew t.R [lf roots t.nx]) (newPlaces P (objsO L (addNew t.R [lf roots t.nx]))) (lf roots t.nx) else rtF L P roots t i) = rtF L P roots (gstep succ roots t) i := by
  intro i
  have gi' := gi.step hr hs
  unfold gstep at gi' ⊢
  rw [if_pos h1] at gi' ⊢
  unfold rtF
  by_cases e : i = t.nx
  · subst e
    rw [if_pos rfl, if_pos (Nat.lt_succ_self _)]
  · rw [if_neg e]
    by_cases hi : i < t.nx
    · rw [if_pos hi, if_pos (Nat.lt_succ_of_lt hi)]
      exact (goes_prefix (addNew_prefix _ _) gi.sub gi'.sub (gi.seen i hi)).symm
    · rw [if_neg hi, if_neg (show ¬ i < t.nx + 1 by omega)]

theorem Kep3.kep {w w' : World} {b g q n d : Nat} {F : Nat → Int} (h : Wrd w d q n F) {r : Nat} (hk : Kep3 w w' b g r) (h1 : d ≠ b) (h2 : d ≠ g) (h3 : d ≠ r) : Wrd w' d q n F := h.block (hk.block d h.lt h1 h2 h3) hk.size

set_option maxRecDepth 100000 in
set_option maxHeartbeats 1600000 in
/-- A step where nothing is left. -/
theorem l11Step_none (b g q n c N rc : Nat) (ra : Option Addr) (h ac bu sc : Int) (w : World) (hB : Blk w b [.int .i64 h, .slice (some ⟨g, q, none⟩) n c, .int .i64 ac, .int .i64 bu, .slice ra N rc, .int .i64 (N : Int), .int .i64 sc, .int .i64 sc]) (hN : N ≤ 60) :
    Calls Try.prog 77 #[.pointer (some ⟨b, 0, none⟩)] w fun e w' => e = .returned (.tuple #[]) ∧ Below w.heap.size w w' := by
  have B0 := Lib.hid hB
  have hnN : ¬ (N : Int) < (N : Int) := by omega
  have c4 := hB.at 4 rfl; have c5 := hB.at 5 rfl; have lB := hB.1
  clear hB
  go_enter Try.func77, Try.ntmps77
  go_wp2
  go_quiet (fail)
  go_upto_region 3 with (fail)
  have HB1 := Lib.hid (drewN_below w nq)
  have B1 := Lib.hid (B0.out.below HB1.out)
  clear c4 c5
  generalize w.drewN nq = w1 at *
  have c6 := B1.out.at 6 rfl; have c7 := B1.out.at 7 rfl; have lB1 := B1.out.1
  go_quiet (fail)
  go_wp2
  refine bodyPost_ret (v := .tuple #[]) (by simp [results, Try.results77, go_sem]) rfl ⟨rfl, ?_⟩
  exact HB1.out.trans ((drewN_below w1 _).mono HB1.out.size)

/-- One step of the model. -/
theorem l11Step_any (b g q n c rg rc : Nat) (h ac bu : Int) (ra : Option Addr) (f : Nat → Int) (L : List Ob) (B U P H : Nat) (roots : List Int) (t : GT) (w : World) {hh hc : Int} {cc : Nat} (hm : MSt w b g q n c rg h ac bu ra rc f L P roots t) (fx : Fixed b g n cc hh hc f L B U P H roots) (hbr : b ≠ rg) (hgr : g ≠ rg) (gi : GI L roots t) :
    Calls Try.prog 77 #[.pointer (some ⟨b, 0, none⟩)] w fun e w' => e = .returned (.tuple #[]) ∧ MSt w' b g q n c rg h ac bu ra rc f L P roots (gstep (succO f L) roots t) ∧ Kep3 w w' b g rg := by
  obtain ⟨F, hW, cw⟩ := hm.ex
  have hrt := rtF_grow (P := P) (succ := succO f L) gi fx.roots fx.succ
  have hrn := rtF_next (P := P) (succ := succO f L) gi fx.roots fx.succ
  obtain ⟨R, nx, s⟩ := t
  by_cases h1 : nx < roots.length
  · obtain ⟨ro, rfl, hr⟩ : ∃ ro, ra = some ⟨rg, ro, none⟩ ∧ Wrd w rg ro roots.length (rtF L P roots ⟨R, nx, s⟩) := by
      rcases hm.rt with h0 | h0
      · omega
      · exact h0
    have hrv : rtF L P roots ⟨R, nx, s⟩ nx = lf roots nx := by
      unfold rtF
      exact if_neg (Nat.lt_irrefl _)
    refine (l11Step_root b g q n c rg ro roots.length rc nx h ac bu _ (rtF L P roots ⟨R, nx, s⟩) F f L B U P H R s 0 w hm.blk hW hr fx.ne hbr hgr fx.len cw fx.cop h1 fx.many (by rw [hrv]; exact fx.roots _ (lf_mem h1))).mono ?_
    rw [hrv]
    rintro e w' ⟨rfl, F', hw, hc, hr', hb, hk⟩
    have e : gstep (succO f L) roots ⟨R, nx, s⟩ = ⟨addNew R [lf roots nx], nx + 1, s⟩ := by unfold gstep; rw [if_pos h1]
    have hn := hrn h1
    rw [e] at hn ⊢
    refine ⟨rfl, ⟨⟨F', hw, hc⟩, ?_, .inr ⟨ro, rfl, hr'.congr fun i _ => hn i⟩⟩, hk⟩
    have hpl : placeAt P (objsO L (addNew R [lf roots nx])) s = placeAt P (objsO L R) s := placeAt_prefix P (addNew_prefix _ _) cw.sub gi.s
    show Blk w' b [_, _, _, _, _, _, .int .i64 ((placeAt P (objsO L (addNew R [lf roots nx])) s : Nat) : Int), _]
    rw [hpl]
    exact hb
  · have hnx : nx = roots.length := by have := gi.nx; simp only at this; omega
    subst hnx
    by_cases hs : s < R.length
    · obtain ⟨x, hx⟩ := mem_placesO.1 (cw.sub _ (List.getElem_mem hs))
      refine (l11Step_look b g q n c roots.length rc ra h ac bu F f L B U P H _ _ R s x w hm.blk hW fx.ne fx.len cw fx.cop hs hx fx.many rfl rfl).mono ?_
      rintro e w' ⟨rfl, F', hw, hc, hb, hk⟩
      have e : gstep (succO f L) roots ⟨R, roots.length, s⟩ = ⟨addNew R (succO f L (lf R s)), roots.length, s + 1⟩ := by
        unfold gstep; rw [if_neg h1]
        exact if_pos hs
      have hn := hrt h1
      rw [e, succ_at hs hx] at hn
      rw [e, succ_at hs hx]
      refine ⟨rfl, ⟨⟨F', hw, hc⟩, hb, ?_⟩, hk.three rg⟩
      rcases hm.rt with h0 | ⟨ro, e2, hr⟩
      · exact .inl h0
      · exact .inr ⟨ro, e2, (hr.kep hk (fun e => hbr e.symm) (fun e => hgr e.symm)).congr fun i _ => hn i⟩
    · have hsl : s = R.length := by have := gi.s; simp only at this; omega
      have hpe : placeAt P (objsO L R) s = P + totO (objsO L R) := by rw [hsl, ← cw.len, placeAt_all]
      have hb := hm.blk
      simp only at hb
      rw [hpe] at hb
      refine (l11Step_none b g q n c roots.length rc ra h ac bu _ w hb fx.many).mono ?_
      rintro e w' ⟨rfl, hbl⟩
      have e : gstep (succO f L) roots ⟨R, roots.length, s⟩ = ⟨R, roots.length, s⟩ := by
        unfold gstep; rw [if_neg h1]
        exact if_neg hs
      rw [e]
      exact ⟨rfl, hm.below hbl, (kep_of_below hbl b g).three rg⟩
end Go.Proofs.Ytnacdhnnpddccaa

