/- Contracts: WriteAt, the program, with the room of its words. -/
import Derived.Test.YthejbgmhfajcpaaA15C
import Derived.Deep.Cut
namespace Go.Proofs.Ythejbgmhfajcpaa
open Go.RowKit
set_option linter.unusedVariables false


theorem retHalfC {w w' : World} {m : Nat} {G : Nat → Int} {h ac bu at_ : Int} {u : Option Addr} {cu : Nat} (hc : m + m ≤ cu) (hcm : cu ≤ maxLen) (ho : Own w' w.heap.size u (m + m) (cat m G (fun i => G (m + i)))) (hb : Below w.heap.size w w') :
    RetResC w ⟨0, h, 2 * m, G, ac, bu, at_⟩ (.returned (.agg #[.int .i64 0, .int .i64 h, .slice u (m + m) cu, .int .i64 ac, .int .i64 bu, .int .i64 at_])) w' := by
  obtain ⟨a, c, h1, h2, h3⟩ := retHalf (h := h) (ac := ac) (bu := bu) (at_ := at_) (cu := cu) ho hb
  have e : m + m = 2 * m := by omega
  refine ⟨u, cu, by rw [e], ?_, hb, fun _ => ⟨by show 2 * m ≤ cu; omega, hcm⟩⟩
  show Own w' w.heap.size u (2 * m) G
  rw [← e]
  exact ho.congr fun i hi => by
    simp only [cat]
    by_cases h : i < m
    · rw [if_pos h]
    · rw [if_neg h]; congr 1; omega

set_option maxHeartbeats 1600000 in
theorem implWriteC_ok (m k : Nat) (ac bu v : Int) (a : Option Addr) (c : Nat) (f : Nat → Int) (w : World) (hs : Src w a (2 * m) f) (hcn : 2 * m ≤ c) (hcm : c ≤ maxLen) (hk : IsFault (m : Int) (2 * m) f ac bu 0) (hkm : k < 2 * m) (hw : -1000000000 ≤ v ∧ v ≤ 1000000000) :
    Calls Try.prog 15 #[.agg #[.int .i64 (m : Int), .slice a (2 * m) c, .int .i64 ac, .int .i64 bu], .int .i64 (k : Int), .int .i64 v] w (RetResC w ⟨0, m, 2 * m, upd f k v, ac, bu, 0⟩) := by
  obtain ⟨⟨⟨g1, g2⟩, _, _⟩, _, _⟩ := isFault_ok hk
  obtain ⟨ab, ao, rfl, hab, hac⟩ := src_some hs (by omega)
  clear hac
  have HS := Lib.hid hs
  have HK := Lib.hid hk
  have HW := Lib.hid hw
  have HCM := Lib.hid hcm
  clear hs hk hw hcm
  go_enter Try.func15, Try.ntmps15
  go_wp2_with fail
  refine (implFault_any _ _ _ _ _ _ f 0 _ ((HS.out.alloc _).alloc _) HK.out).mono ?_
  rintro e w1 ⟨rfl, hb⟩
  have HB1 : Hid (Below w.heap.size w w1) := thru2 (Below.refl _ _) hb
  have z1 : w.heap.size + 2 ≤ w1.heap.size := by have := hb.size; simp at this; omega
  have HS_1 := Lib.hid (((HS.out.alloc _).alloc _).below hb)
  have A_1 := Lib.hid (((Blk.new_at (w.heap.size) (by simp)).alloc _).below hb)
  have R_1 := Lib.hid ((Blk.new_at (w.heap.size + 1) (by simp)).below hb)
  clear hb HS
  have lA := A_1.out.1
  have cA0 := A_1.out.at 0 rfl
  have cA1 := A_1.out.at 1 rfl
  have cA2 := A_1.out.at 2 rfl
  have cA3 := A_1.out.at 3 rfl
  go_wp2_with fail
  refine (placeBound_any _ _ _ _ _ _ _ _ g1 g2).mono ?_
  rintro e w2 ⟨rfl, hb⟩
  have HB2 : Hid (Below w.heap.size w w2) := thru0 HB1.out hb
  have z2 : w1.heap.size ≤ w2.heap.size := hb.size
  have HS_2 := Lib.hid (HS_1.out.below hb)
  have A_2 := Lib.hid (A_1.out.below hb)
  have R_2 := Lib.hid (R_1.out.below hb)
  clear hb lA cA0 cA1 cA2 cA3 HS_1 A_1 R_1 HB1
  go_wp2_with fail
  refine (wordBound_any _ _).mono ?_
  rintro e w3 ⟨rfl, hb⟩
  have HB3 : Hid (Below w.heap.size w w3) := thru0 HB2.out hb
  have z3 : w2.heap.size ≤ w3.heap.size := hb.size
  have HS_3 := Lib.hid (HS_2.out.below hb)
  have A_3 := Lib.hid (A_2.out.below hb)
  have R_3 := Lib.hid (R_2.out.below hb)
  clear hb HS_2 A_2 R_2 HB2
  go_wp2_with fail
  refine (isOut2 _ _ _ _ _ _ _ _ false rfl (.inl ⟨rfl, ⟨by omega, by omega⟩, HW.out⟩)).mono ?_
  rintro e w4 ⟨rfl, hb⟩
  have HB4 : Hid (Below w.heap.size w w4) := thru1 HB3.out hb
  have z4 : w3.heap.size + 1 ≤ w4.heap.size := by have := hb.size; simp at this; omega
  have HS_4 := Lib.hid ((HS_3.out.alloc _).below hb)
  have A_4 := Lib.hid ((A_3.out.alloc _).below hb)
  have R_4 := Lib.hid ((R_3.out.alloc _).below hb)
  clear hb HS_3 A_3 R_3 HB3
  have lA := A_4.out.1
  have cA0 := A_4.out.at 0 rfl
  have cA1 := A_4.out.at 1 rfl
  have cA2 := A_4.out.at 2 rfl
  have cA3 := A_4.out.at 3 rfl
  go_wp2_with fail
  refine (halvesOf_any _ _ _ _ _ _ f _ HS_4.out (by omega) (by omega) hcn HCM.out).mono ?_
  rintro e w5 ⟨u1, e1, u2, e2, mid, rfl, ho, hb, hm1, hm2⟩
  have HB5 : Hid (Below w.heap.size w w5) := thru0 HB4.out hb
  have z5 : w4.heap.size ≤ w5.heap.size := hb.size
  have HS_5 := Lib.hid (HS_4.out.below hb)
  have A_5 := Lib.hid (A_4.out.below hb)
  have R_5 := Lib.hid (R_4.out.below hb)
  have HL_5 : Hid (Halves w5 w4.heap.size mid w5.heap.size u1 u2 m f) := ho
  clear hb lA cA0 cA1 cA2 cA3 HS_4 A_4 R_4 HB4 ho
  go_wp2_with fail
  clear HS_5
  refine (put_any _ _ _ u1 u2 _ _ m k f v _ (HL_5.out.alloc _) (by omega) (by omega) (by simp) (by omega) hkm).mono ?_
  rintro e w6 ⟨rfl, ho, hk⟩
  have HB6 : Hid (Below w.heap.size w w6) := (HB5.out.alloc HB5.out.size _).trans (hk.below (by omega) (by simp; omega))
  have z6 : w5.heap.size + 1 ≤ w6.heap.size := by have := hk.size; simp at this; omega
  have A_6 := Lib.hid ((A_5.out.alloc _).keeps hk (by omega))
  have R_6 := Lib.hid ((R_5.out.alloc _).keeps hk (by omega))
  have H_6 := Lib.hid ((Blk.new_at (w5.heap.size) (by simp)).keeps hk (by omega))
  have HL_6 : Hid (Halves w6 w4.heap.size mid w5.heap.size u1 u2 m (upd f k v)) := ho
  clear hk A_5 R_5 HL_5 HB5 ho
  have lA := A_6.out.1
  have cA0 := A_6.out.at 0 rfl
  have cA1 := A_6.out.at 1 rfl
  have cA2 := A_6.out.at 2 rfl
  have cA3 := A_6.out.at 3 rfl
  have lH := H_6.out.1
  have cH0 := H_6.out.at 0 rfl
  have cH1 := H_6.out.at 1 rfl
  go_wp2_with fail
  refine (withHalves_any _ _ _ _ u1 u2 _ _ m m _ _ (upd f k v) (fun i => upd f k v (m + i)) _ HL_6.out.1.src HL_6.out.2.src (by omega) (by omega) (by omega) (by omega)).mono ?_
  rintro e w7 ⟨u7, e7, rfl, ho, hb, hc7, hcm7, hn7⟩
  have HB7 : Hid (Below w.heap.size w w7) := thru0 HB6.out hb
  have z7 : w6.heap.size ≤ w7.heap.size := hb.size
  have A_7 := Lib.hid (A_6.out.below hb)
  have R_7 := Lib.hid (R_6.out.below hb)
  have H_7 := Lib.hid (H_6.out.below hb)
  have HL_7 := Lib.hid (HL_6.out.below hb)
  have RW_7 : Hid (OwnIn w7 w6.heap.size w7.heap.size u7 (m + m) (cat m (upd f k v) (fun i => upd f k v (m + i)))) := ho.into
  clear hb lA cA0 cA1 cA2 cA3 lH cH0 cH1 A_6 R_6 H_6 HL_6 HB6 ho
  have lR := R_7.out.1
  have cR0 := R_7.out.at 0 rfl
  have cR1 := R_7.out.at 1 rfl
  have cR2 := R_7.out.at 2 rfl
  have cR3 := R_7.out.at 3 rfl
  have cR4 := R_7.out.at 4 rfl
  have cR5 := R_7.out.at 5 rfl
  have fR0 := R_7.out.free 0 rfl
  have fR1 := R_7.out.free 1 rfl
  have fR2 := R_7.out.free 2 rfl
  have fR3 := R_7.out.free 3 rfl
  have fR4 := R_7.out.free 4 rfl
  have fR5 := R_7.out.free 5 rfl
  go_wp2
  have hz := HB7.out.size
  refine bodyPost_ret (v := .agg #[.int .i64 0, .int .i64 (m : Int), .slice u7 (m + m) e7, .int .i64 ac, .int .i64 bu, .int .i64 0]) (by simp [results, Try.results15, go_sem, cR0, cR1, cR2, cR3, cR4, cR5]) rfl (retHalfC hc7 hcm7 ?_ ?_)
  · refine Own.mono (B := w.heap.size + 2) ?_ (by omega)
    repeat (with_reducible refine Own.setCell ?_ (by (try simp); (try omega)) _)
    exact (RW_7.out.widen (by omega) (Nat.le_refl _)).out
  · repeat (with_reducible refine Below.setCell ?_ (by (try simp); (try omega)) _)
    exact HB7.out


theorem implWriteC_any (h ac bu at_ v : Int) (a : Option Addr) (n c : Nat) (f : Nat → Int) (r : AR) (w : World) (hs : Src w a n f) (hcn : n ≤ c) (hcm : c ≤ maxLen) (hr : IsWrite h n f ac bu at_ v r) :
    Calls Try.prog 15 #[.agg #[.int .i64 h, .slice a n c, .int .i64 ac, .int .i64 bu], .int .i64 at_, .int .i64 v] w (RetResC w r) := by
  rcases hr with ⟨k, h1, h2, rfl⟩ | ⟨h1, h2, rfl⟩ | ⟨h1, h2, rfl⟩
  · refine (implWrite_fault h ac bu at_ v a n c f k w hs hcn hcm h1 h2).mono ?_
    rintro e w' ⟨a', c', h3, h4, h5⟩
    exact ⟨a', c', h3, h4, h5, fun h => absurd h h2⟩
  · refine (implWrite_range h ac bu at_ v a n c f w hs hcn hcm h1 h2).mono ?_
    rintro e w' ⟨a', c', h3, h4, h5⟩
    exact ⟨a', c', h3, h4, h5, fun h => by simp [errAR] at h⟩
  · obtain ⟨⟨⟨g1, g2⟩, _, _⟩, gn, _⟩ := isFault_ok h1
    obtain ⟨m, rfl⟩ : ∃ m : Nat, h = m := ⟨h.toNat, by omega⟩
    obtain rfl : n = 2 * m := by omega
    obtain ⟨k, rfl⟩ : ∃ k : Nat, at_ = k := ⟨at_.toNat, by omega⟩
    exact implWriteC_ok m k ac bu v a c f w hs hcn hcm h1 (by omega) h2.2

end Go.Proofs.Ythejbgmhfajcpaa
