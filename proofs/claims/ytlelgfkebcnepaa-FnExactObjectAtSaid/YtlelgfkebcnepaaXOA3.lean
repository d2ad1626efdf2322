/- Texts merged: Q13 to Q13. -/
import Derived.Test.YtlelgfkebcnepaaXOA2
namespace Go.Proofs.Ytlelgfkebcnepaa
open Go.RowKit
set_option linter.unusedVariables false

theorem gvo_own {w : World} {lo hi N i : Nat} {a : Option Addr} {T : Nat → GM} (h : GVO w lo hi a N T) (hi' : i < N) : Own w lo (T i).a (T i).n (T i).f := by
  rcases h with h0 | ⟨b, q, e, h⟩
  · omega
  · exact (h.flds i hi').out

set_option maxRecDepth 100000 in
set_option maxHeartbeats 1600000 in
theorem oa_code (h ac bu at_ : Int) (a : Option Addr) (n c : Nat) (f : Nat → Int) (w : World) (hs : Src w a n f) (hnc : n ≤ c) (hcm : c ≤ maxLen) (k : Int) (hk : IsSF h n f ac bu k) (h0 : ¬ k = 0) : Calls Try.prog 18 #[.agg #[.int .i64 h, .slice a n c, .int .i64 ac, .int .i64 bu], .int .i64 at_] w (RetOAG w f k none) := by
  have HS := Lib.hid hs; have HCM := Lib.hid hcm; have HK := Lib.hid hk
  clear hs hcm hk
  go_enter Try.func18, Try.ntmps18
  go_wp2_with fail
  refine (shaped_any h ac bu a n c f _ ((HS.out.alloc _).alloc _) hnc HCM.out k [] (.inl ⟨HK.out, h0, rfl⟩)).mono ?_
  rintro e w1 ⟨a1, c1, T, rfl, hg, hs1, hb, hc1, hc2⟩
  have HB1 := Lib.hid (thru2 (Below.refl _ _) hb)
  have R_1 := Lib.hid ((Blk.new_at (w := w.alloc (.cells #[.int .i64 h, .slice a n c, .int .i64 ac, .int .i64 bu] 26)) (cs := #[.int .i64 0, .int .i64 0, .int .i64 0, .int .i64 0, .int .i64 0, .int .i64 0, .slice none 0 0]) (t := 44) (w.heap.size + 1) (by simp)).below hb)
  have z1 : w.heap.size + 2 ≤ w1.heap.size := by have := hb.size; simp at this; omega
  have HG := Lib.hid (gvo_mono hg (show w.heap.size + 2 ≤ _ by simp))
  have HT := Lib.hid hs1
  clear hb hg hs1 hc1 hc2
  have hd : (k != 0) = true := by simpa using h0
  have lR := R_1.out.1; have cR0 := R_1.out.at 0 rfl; have fR0 := R_1.out.free 0 rfl; have cR1 := R_1.out.at 1 rfl; have fR1 := R_1.out.free 1 rfl; have cR2 := R_1.out.at 2 rfl; have fR2 := R_1.out.free 2 rfl; have cR3 := R_1.out.at 3 rfl; have fR3 := R_1.out.free 3 rfl; have cR4 := R_1.out.at 4 rfl; have fR4 := R_1.out.free 4 rfl; have cR5 := R_1.out.at 5 rfl; have fR5 := R_1.out.free 5 rfl; have cR6 := R_1.out.at 6 rfl; have fR6 := R_1.out.free 6 rfl
  go_wp2
  refine bodyPost_ret (v := .agg #[.int .i64 k, .int .i64 0, .int .i64 0, .int .i64 0, .int .i64 0, .int .i64 0, .slice none 0 0]) (by simp [results, Try.results18, go_sem, lR, cR0, cR1, cR2, cR3, cR4, cR5, cR6]) rfl ⟨gzero, GSame.refl _, rfl, .inl rfl, ?_⟩
  repeat (first | (with_reducible refine Below.setCell ?_ (by (try simp); (try omega)) _) | (with_reducible refine Below.alloc ?_ (by (try simp); (try omega)) _) | (with_reducible refine Below.drew ?_))
  exact HB1.out

set_option maxRecDepth 100000 in
set_option maxHeartbeats 1600000 in
theorem oa_find (h ac bu at_ : Int) (a : Option Addr) (n c : Nat) (f : Nat → Int) (w : World) (hs : Src w a n f) (hnc : n ≤ c) (hcm : c ≤ maxLen) (co : Int) (x : Option Ob) (L : List Ob) (hk : IsSF h n f ac bu 0) (ho : IsOI h n f ac bu 0 L) (hx : (findO L at_ = none ∧ co = 4 ∧ x = none) ∨ ∃ y, findO L at_ = some y ∧ co = 0 ∧ x = some y) : Calls Try.prog 18 #[.agg #[.int .i64 h, .slice a n c, .int .i64 ac, .int .i64 bu], .int .i64 at_] w (RetOAG w f co x) := by
  have hpz := (isOI_zero ho).2
  have HSRT := Lib.hid (fun (T : Nat → GM) (hT : ∀ i, i < L.length → GSame (T i) (obT f L i)) => sorted_T hpz hT)
  have hL4 : L.length ≤ 1048576 := by have := (isOI_small ho).1; omega
  have HPZ := Lib.hid hpz
  have HS := Lib.hid hs; have HCM := Lib.hid hcm; have HK := Lib.hid hk; have HO := Lib.hid ho; have HX := Lib.hid hx
  clear hs hcm hk ho hx hpz
  go_enter Try.func18, Try.ntmps18
  go_wp2_with fail
  refine (shaped_any h ac bu a n c f _ ((HS.out.alloc _).alloc _) hnc HCM.out 0 L (.inr ⟨rfl, HK.out, HO.out⟩)).mono ?_
  rintro e w1 ⟨a1, c1, T, rfl, hg, hs1, hb, hc1, hc2⟩
  have HB1 := Lib.hid (thru2 (Below.refl _ _) hb)
  have R_1 := Lib.hid ((Blk.new_at (w := w.alloc (.cells #[.int .i64 h, .slice a n c, .int .i64 ac, .int .i64 bu] 26)) (cs := #[.int .i64 0, .int .i64 0, .int .i64 0, .int .i64 0, .int .i64 0, .int .i64 0, .slice none 0 0]) (t := 44) (w.heap.size + 1) (by simp)).below hb)
  have z1 : w.heap.size + 2 ≤ w1.heap.size := by have := hb.size; simp at this; omega
  have HG := Lib.hid (gvo_mono hg (show w.heap.size + 2 ≤ _ by simp))
  have HT := Lib.hid hs1
  clear hb hg hs1 hc1 hc2
  go_wp2_with fail
  refine (find_any a1 L.length c1 T at_ _ (HG.out.src.alloc _) hL4 (HSRT.out T HT.out)).mono ?_
  rintro e w2 ⟨hb, hc⟩
  have HB2 := Lib.hid (thru1 HB1.out hb)
  have R_2 := Lib.hid ((R_1.out.alloc _).below hb)
  have G_2 := Lib.hid ((HG.out.alloc (.cells #[.int .i64 0, .slice a1 L.length c1] 37)).below hb)
  have z2 : w1.heap.size + 1 ≤ w2.heap.size := by have := hb.size; simp at this; omega
  clear hb HB1 R_1 HG
  have lR := R_2.out.1; have cR0 := R_2.out.at 0 rfl; have fR0 := R_2.out.free 0 rfl; have cR1 := R_2.out.at 1 rfl; have fR1 := R_2.out.free 1 rfl; have cR2 := R_2.out.at 2 rfl; have fR2 := R_2.out.free 2 rfl; have cR3 := R_2.out.at 3 rfl; have fR3 := R_2.out.free 3 rfl; have cR4 := R_2.out.at 4 rfl; have fR4 := R_2.out.free 4 rfl; have cR5 := R_2.out.at 5 rfl; have fR5 := R_2.out.free 5 rfl; have cR6 := R_2.out.at 6 rfl; have fR6 := R_2.out.free 6 rfl
  rcases hc with ⟨i, hi, hat, rfl⟩ | ⟨hno, rfl⟩
  · have hsm := HT.out i hi
    have hf : findO L at_ = some L[i] := by
      have e1 : L[i].at_ = at_ := by rw [← hat, hsm.1, obT_get f hi]; rfl
      rw [← e1]; exact findO_at HPZ.out hi
    obtain ⟨rfl, rfl⟩ : co = 0 ∧ x = some L[i] := by
      rcases HX.out with ⟨h1, _⟩ | ⟨y, h1, h2, h3⟩
      · rw [hf] at h1; cases h1
      · rw [hf] at h1; cases h1; exact ⟨h2, h3⟩
    rw [obT_get f hi] at hsm
    have HO2 := Lib.hid (gvo_own G_2.out hi)
    have HSM : Hid (GSame (T i) (xT f (some L[i]))) := Lib.hid hsm
    clear hsm hf hat
    generalize T i = t at *
    go_wp2
    refine bodyPost_ret (v := .agg #[.int .i64 0, .int .i64 t.at_, .int .i64 t.s, .int .i64 t.m, .int .i64 t.o, .int .i64 t.h, .slice t.a t.n t.c]) (by simp [results, Try.results18, go_sem, cR0, cR1, cR2, cR3, cR4, cR5, cR6]) rfl ⟨t, HSM.out, rfl, ?_, ?_⟩
    · refine Own.mono (B := w.heap.size + 2) ?_ (by omega)
      repeat (first | (with_reducible refine Own.setCell ?_ (by (try simp); (try omega)) _) | (with_reducible refine Own.alloc ?_ _) | (with_reducible refine Own.drew ?_))
      exact HO2.out
    · repeat (first | (with_reducible refine Below.setCell ?_ (by (try simp); (try omega)) _) | (with_reducible refine Below.alloc ?_ (by (try simp); (try omega)) _) | (with_reducible refine Below.drew ?_))
      exact HB2.out
  · have hf : findO L at_ = none := findO_none fun i hi he => hno i hi (by rw [(HT.out i hi).1, obT_get f hi]; exact he)
    obtain ⟨rfl, rfl⟩ : co = 4 ∧ x = none := by
      rcases HX.out with ⟨_, h1⟩ | ⟨y, h1, _⟩
      · exact h1
      · rw [hf] at h1; cases h1
    clear hf hno
    go_wp2
    refine bodyPost_ret (v := .agg #[.int .i64 4, .int .i64 0, .int .i64 0, .int .i64 0, .int .i64 0, .int .i64 0, .slice none 0 0]) (by simp [results, Try.results18, go_sem, cR0, cR1, cR2, cR3, cR4, cR5, cR6]) rfl ⟨gzero, GSame.refl _, rfl, .inl rfl, ?_⟩
    repeat (first | (with_reducible refine Below.setCell ?_ (by (try simp); (try omega)) _) | (with_reducible refine Below.alloc ?_ (by (try simp); (try omega)) _) | (with_reducible refine Below.drew ?_))
    exact HB2.out

theorem implOA : ImplOA := fun h ac bu a n c f at_ co x w hs hnc hcm hk => by
  rcases hk with ⟨h1, h2, rfl⟩ | ⟨L, h1, h2, h3, h4, h5⟩ | ⟨L, y, h1, h2, h3, h4, h5⟩
  · exact oa_code h ac bu at_ a n c f w hs hnc hcm co h1 h2
  · exact oa_find h ac bu at_ a n c f w hs hnc hcm co x L h1 h2 (.inl ⟨h3, h4, h5⟩)
  · exact oa_find h ac bu at_ a n c f w hs hnc hcm co x L h1 h2 (.inr ⟨y, h3, h4, h5⟩)
end Go.Proofs.Ytlelgfkebcnepaa

