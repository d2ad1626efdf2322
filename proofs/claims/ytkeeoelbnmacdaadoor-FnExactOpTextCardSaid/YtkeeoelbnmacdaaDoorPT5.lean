/- Texts merged: OT9 to LOT. -/
import Derived.Test.YtkeeoelbnmacdaaDoorPT4
namespace Go.Proofs.YtkeeoelbnmacdaaDoor
open Go.RowKit
set_option linter.unusedVariables false

theorem valO_at {w : World} {b : Nat} {te k h i v t : Int} {fo : Bool} (hB : Blk w b [.int .i64 te, .int .i64 k, .int .i64 h, .int .i64 t, .int .i64 i, .int .i64 v, .bool fo]) {o : Nat} (ho : o = 2 ∨ o = 3 ∨ o = 4 ∨ o = 5) : w.cell? ⟨b, o, none⟩ = some (.int .i64 (valO h i v t o)) := by
  rcases ho with rfl | rfl | rfl | rfl
  · exact hB.at 2 rfl
  · exact hB.at 3 rfl
  · exact hB.at 4 rfl
  · exact hB.at 5 rfl

theorem blk_same {w w' : World} {b : Nat} {cs : List Value} (h : Blk w b cs) (e : w'.heap[b]? = w.heap[b]?) (hs : w.heap.size ≤ w'.heap.size) : Blk w' b cs :=
  ⟨Nat.lt_of_lt_of_le h.1 hs, fun i u hu => ⟨(World.cell?_of_block (w := w) (a := ⟨b, i, none⟩) e).trans (h.2 i u hu).1, (World.frozen?_of_block (w := w) (a := ⟨b, i, none⟩) e).trans (h.2 i u hu).2⟩⟩

theorem words_at {w : World} {base cap : Nat} {a : Option Addr} {W : List ByteArray} (h : w.ownsRow base 9 1 (.slice a W.length cap) W.length (strs W)) (hp : 0 < W.length) : ∃ g, a = some ⟨g, 0, none⟩ ∧ g < w.heap.size ∧ ∀ j x, W[j]? = some x → w.cell? ⟨g, j, none⟩ = some (.string x) := by
  have h0 := h
  rcases h.2 with ⟨_, h2⟩ | ⟨g, cap', cur, h1, hB, hg, _⟩
  · omega
  · simp at h1
    obtain ⟨rfl, rfl⟩ := h1
    refine ⟨g, rfl, (Array.getElem?_eq_some_iff.mp hg).1, fun j x hx => ?_⟩
    have hj : j < W.length := (List.getElem?_eq_some_iff.1 hx).1
    have := h0.cellAt j (by omega)
    rw [show (strs W)[j]? = some (.string x) by simp [strs, hx]] at this
    exact this

theorem join_len (W : List ByteArray) (h : W.length ≤ 7) (hs : ∀ x ∈ W, x.size ≤ 100) : (Lib.join (W.map (·.data.toList)) (⟨#[32]⟩ : ByteArray).data.toList).length ≤ 140737488355328 := by
  cases W with
  | nil => simp [Lib.join]
  | cons a l =>
    rw [List.map_cons, Lib.join_cons, List.length_append]
    have h1 : a.data.toList.length ≤ 100 := by have := hs a (by simp); simpa using this
    have h2 : ∀ (l : List ByteArray), (∀ x ∈ l, x.size ≤ 100) → (Lib.joinTail (⟨#[32]⟩ : ByteArray).data.toList (l.map (·.data.toList))).length ≤ 101 * l.length := by
      intro l
      induction l with
      | nil => intro _; simp [Lib.joinTail]
      | cons b l ih =>
        intro hb
        have e1 := ih fun x hx => hb x (by simp [hx])
        have e2 : b.data.toList.length ≤ 100 := by have := hb b (by simp); simpa using this
        simp only [Lib.joinTail, List.map_cons, List.flatten_cons, List.length_append] at e1 ⊢
        have e3 : (⟨#[32]⟩ : ByteArray).data.toList.length = 1 := rfl
        rw [e3]
        simp only [List.length_cons]
        omega
    have h3 := h2 l fun x hx => hs x (by simp [hx])
    have h4 : l.length ≤ 6 := by simp at h; omega
    omega

/-- what stays over a round -/
structure Stay (g p : Nat) (w wr : World) : Prop where
  sz : w.heap.size ≤ wr.heap.size
  sg : wr.heap[g]? = w.heap[g]?
  sp : wr.heap[p]? = w.heap[p]?
  sr : wr.heap[p + 1]? = w.heap[p + 1]?

theorem Stay.below {g p : Nat} {w wr w' : World} (h : Stay g p w wr) (hg : g < w.heap.size) (hp : p + 1 < w.heap.size) (hb : Below wr.heap.size wr w') : Stay g p w w' := by
  have hz := h.sz
  exact ⟨Nat.le_trans hz hb.size, (hb.block g (by omega)).trans h.sg, (hb.block p (by omega)).trans h.sp, (hb.block (p + 1) (by omega)).trans h.sr⟩

theorem Stay.grown {g p : Nat} {w wr w' : World} {row : Option Nat} (h : Stay g p w wr) (hg : g < w.heap.size) (hp : p + 1 < w.heap.size) (hgr : wr.grownBy w' row) (hr : ∀ k, row = some k → k ≠ g ∧ k ≠ p ∧ k ≠ p + 1) : Stay g p w w' := by
  have hz := h.sz
  exact ⟨Nat.le_trans hz hgr.size, (hgr.block g (by omega) fun e => (hr g e.symm).1 rfl).trans h.sg, (hgr.block p (by omega) fun e => (hr p e.symm).2.1 rfl).trans h.sp, (hgr.block (p + 1) (by omega) fun e => (hr (p + 1) e.symm).2.2 rfl).trans h.sr⟩

set_option maxRecDepth 100000 in
set_option maxHeartbeats 6400000 in
theorem implOT_ok (te : Int) (kn : Nat) (h t i v : Int) (fo : Bool) (w : World) (hk : IsOF kn h t i v 0) (h1 : WideV te) (h2 : WideV h) (h3 : WideV t) (hT : PT w) : Calls Tryd.prog 17 #[.agg #[.int .i64 te, .int .i64 (kn : Int), .int .i64 h, .int .i64 t, .int .i64 i, .int .i64 v, .bool fo]] w (RetTR w 0 (otS 0 te kn h t i v fo)) := by
  have HK := Lib.hid hk
  have HT := Lib.hid hT
  obtain ⟨hk1, hi1, hv1⟩ := ot_ok hk
  have hkn : 1 ≤ kn ∧ kn ≤ 11 := ⟨by omega, by omega⟩
  have HB0 := Lib.hid (((Below.refl _ w).alloc (Nat.le_refl _) (.cells #[.int .i64 te, .int .i64 (kn : Int), .int .i64 h, .int .i64 t, .int .i64 i, .int .i64 v, .bool fo] 38)).alloc (by simp) (.cells #[.int .i64 0, .string ⟨#[]⟩] 36))
  have R_0 := Lib.hid (Blk.new_at (w := w.alloc (.cells #[.int .i64 te, .int .i64 (kn : Int), .int .i64 h, .int .i64 t, .int .i64 i, .int .i64 v, .bool fo] 38)) (cs := #[.int .i64 0, .string ⟨#[]⟩]) (t := 36) (w.heap.size + 1) (by simp))
  have A_0 := Lib.hid ((Blk.new_at (w := w) (cs := #[.int .i64 te, .int .i64 (kn : Int), .int .i64 h, .int .i64 t, .int .i64 i, .int .i64 v, .bool fo]) (t := 38) w.heap.size rfl).alloc (.cells #[.int .i64 0, .string ⟨#[]⟩] 36))
  obtain ⟨q, hq⟩ : ∃ q : Bool, q = false := ⟨_, rfl⟩
  have HQ : Hid ((q = false ∧ (-9999999999 ≤ te ∧ te ≤ 9999999999) ∧ (-9999999999 ≤ h ∧ h ≤ 9999999999) ∧ (-9999999999 ≤ t ∧ t ≤ 9999999999)) ∨ (q = true ∧ ¬ ((-9999999999 ≤ te ∧ te ≤ 9999999999) ∧ (-9999999999 ≤ h ∧ h ≤ 9999999999) ∧ (-9999999999 ≤ t ∧ t ≤ 9999999999)))) := Lib.hid (.inl ⟨hq, h1, h2, h3⟩)
  have HQT := Lib.hid hq
  have HS : Hid (otS 0 te kn h t i v fo = txW (itoaB te) (lineW te kn h i v t fo)) := Lib.hid (otS_line h1 h2 h3)
  have HWO : Hid (∀ o ∈ ptrL kn, -9999999999 ≤ valO h i v t o ∧ valO h i v t o ≤ 9999999999) := Lib.hid (by
    intro o ho
    unfold valO
    repeat' split
    · exact h2
    · omega
    · omega
    · exact h3)
  have HH1 : Hid (-9999999999 ≤ te ∧ te ≤ 9999999999) := Lib.hid h1
  have HKN := Lib.hid hkn
  have HK1 := Lib.hid hk1
  obtain ⟨S, hS⟩ : ∃ S, otS 0 te kn h t i v fo = S := ⟨_, rfl⟩
  rw [hS] at HS ⊢
  clear hk hq hS h1 h2 h3 hi1 hv1 hk1 hT hkn
  go_enter Tryd.func17, Tryd.ntmps17
  go_wp2_with fail
  refine (implOF_any te kn h t i v fo 0 _ HK.out).mono ?_
  rintro e w1 ⟨rfl, hb⟩
  have HB1 := Lib.hid (HB0.out.trans (hb.mono (by simp; omega)))
  have R_1 := Lib.hid (R_0.out.below hb)
  have A_1 := Lib.hid (A_0.out.below hb)
  clear hb
  have r0 := R_1.out.at 0 rfl; have r1 := R_1.out.at 1 rfl; have f0 := R_1.out.free 0 rfl; have f1 := R_1.out.free 1 rfl; have lR := R_1.out.1
  have c0 := A_1.out.at 0 rfl; have c1 := A_1.out.at 1 rfl; have c2 := A_1.out.at 2 rfl; have c3 := A_1.out.at 3 rfl; have c4 := A_1.out.at 4 rfl; have c5 := A_1.out.at 5 rfl; have c6 := A_1.out.at 6 rfl; have lA := A_1.out.1
  go_upto_region 4 with (fail)
  clear c0 c1 c2 c3 c4 c5 c6 lA r0 r1 f0 f1 lR
  have A_d := Lib.hid A_1.out.drew; have R_d := Lib.hid R_1.out.drew; have HB_d := Lib.hid HB1.out.drew
  go_region_held3 (fun w' => w'.cell? ⟨w.heap.size, 0, none⟩ = some (.int .i64 te) ∧ w'.cell? ⟨w.heap.size, 2, none⟩ = some (.int .i64 h) ∧ w'.cell? ⟨w.heap.size, 3, none⟩ = some (.int .i64 t))
    (first | (with_reducible exact capO5 A_1.out) | (with_reducible exact capO5 A_d.out) | (with_reducible exact capO5 A_5.out) | (with_reducible exact capO5 (A_5.out.alloc _)) | (with_reducible exact capO5 A_6.out))
    (first | (go_at_call 37; (with_reducible refine (numberBound_any _ _).mono ?_); rintro e w5 ⟨rfl, hb⟩; have HB_d := Lib.hid (thru0 HB_d.out hb); have A_d := Lib.hid (A_d.out.below hb); have R_d := Lib.hid (R_d.out.below hb); have HB5 := HB_d; have A_5 := A_d; have R_5 := R_d; clear hb) | (go_at_call 36; refine (isOut3b _ _ _ _ _ _ _ _ _ _ _ q (Blk.new_at (w5.heap.size) rfl) HQ.out).mono ?_; rintro e w6 ⟨rfl, hb⟩; have HB6 := Lib.hid (thru1 HB5.out hb); have A_6 := Lib.hid ((A_5.out.alloc _).below hb); have R_6 := Lib.hid ((R_5.out.alloc _).below hb); clear hb))
  have hqt := HQT.out
  subst hqt
  clear HQ HQT A_5 R_5 HB5 A_d R_d HB_d A_1 R_1 HB1 A_0 R_0 HB0
  have HT6 := Lib.hid (HT.out.below HB6.out)
  have q0 : (0 : Int) ≤ (kn : Int) := by omega
  have q1 : (kn : Int) < 12 := by have := HKN.out; omega
  go_upto_region 6 with (fail)
  have A_d := Lib.hid A_6.out.drew; have R_d := Lib.hid R_6.out.drew; have HB_d := Lib.hid HB6.out.drew
  have HT_d : Hid (PT w6.drew) := HT6
  have c0 := A_d.out.at 0 rfl; have c1 := A_d.out.at 1 rfl; have lA := A_d.out.1
  go_region_with (first | (go_at_call 38; (with_reducible refine (textOf_any te _ HH1.out HT_d.out).mono ?_); rintro e w7 ⟨rfl, hb⟩; have HB7 := Lib.hid (thru0 HB_d.out hb); have A_7 := Lib.hid (A_d.out.below hb); have R_7 := Lib.hid (R_d.out.below hb); clear hb; have c1b := A_7.out.at 1 rfl; have lAb := A_7.out.1) | (go_at_call 39; (with_reducible refine (kindNames_any _).mono ?_); rintro e w8 ⟨rfl, rfl⟩; have HB8 := Lib.hid (HB7.out.alloc HB7.out.size (.cells nmCells 9)); have A_8 := Lib.hid (A_7.out.alloc (.cells nmCells 9)); have R_8 := Lib.hid (R_7.out.alloc (.cells nmCells 9)); have x8 : (w7.alloc (.cells nmCells 9)).cell? ⟨w7.heap.size, kn, none⟩ = some (.string (nmB kn)) := ((World.cell?_alloc_at _ _ _ _ rfl).trans (nmCells_at HKN.out))))
  all_goals
    clear c0 c1 lA c1b lAb x8
    have hz8 : (w7.alloc (.cells nmCells 9)).heap.size = w7.heap.size + 1 := by simp
    have lR7 := R_7.out.1
    generalize w7.alloc (.cells nmCells 9) = w8 at *
    have HZ8 := Lib.hid hz8
    clear hz8
    have OW9 : Hid ((w8.alloc (.cells #[.string (itoaB te), .string (nmB kn)] 9)).ownsRow w8.heap.size 9 1 (.slice (some ⟨w8.heap.size, 0, none⟩) 2 2) [itoaB te, nmB kn].length (strs [itoaB te, nmB kn])) := Lib.hid (World.ownsRow_lit w8 #[.string (itoaB te), .string (nmB kn)] 2 (Nat.le_refl _) (by simp [maxLen]) rfl)
    have HB9 := Lib.hid (HB8.out.alloc HB8.out.size (.cells #[.string (itoaB te), .string (nmB kn)] 9))
    have A_9 := Lib.hid (A_8.out.alloc (.cells #[.string (itoaB te), .string (nmB kn)] 9))
    have R_9 := Lib.hid (R_8.out.alloc (.cells #[.string (itoaB te), .string (nmB kn)] 9))
    have lA8 := A_8.out.1
    have lR8 := R_8.out.1
    go_wp2_with fail
    refine (numbersOf_any w.heap.size te kn h t i v fo _ A_9.out HK1.out).mono ?_
    rintro e w10 ⟨vp, rfl, hrow, hb⟩
    obtain ⟨a, cp, rfl, hpr⟩ := txvo_row_at hrow
    have HB10 := Lib.hid (thru0 HB9.out hb)
    have A_10 := Lib.hid (A_9.out.below hb); have R_10 := Lib.hid (R_9.out.below hb); have OW10 := Lib.hid (ownsRow_below OW9.out hb)
    have hzz := hb.size
    simp only [World.size_alloc] at hzz
    have HPR := Lib.hid hpr
    clear hrow hpr hb OW9 HB9 A_9 R_9 A_8 R_8 HB8 A_7 R_7 HB7 A_d R_d HB_d A_6 R_6 HB6
    have hz8 := HZ8.out
    rw [hz8] at OW10
    generalize w7.heap.size = z7 at *
    have hmem : Hid (∀ j (hj : j < (ptrL kn).length), (ptrL kn)[j] = 2 ∨ (ptrL kn)[j] = 3 ∨ (ptrL kn)[j] = 4 ∨ (ptrL kn)[j] = 5) := Lib.hid fun j hj => ptrL_mem (List.getElem_mem hj)
    have HLN : Hid (lineW te kn h i v t fo = nmB kn :: ((ptrL kn).map (fun o => itoaB (valO h i v t o)) ++ if fo then [⟨#[110, 111, 119]⟩] else [])) := Lib.hid rfl
    have hl4 := ptrL_len kn
    generalize ptrL kn = L at *
    obtain ⟨g, hg1, hg2, hg3⟩ : ∃ g, g < w10.heap.size ∧ z7 + 1 ≠ g ∧ ∀ j (hj : j < L.length), a = some ⟨g, 0, none⟩ ∧ w10.cell? ⟨g, j, none⟩ = some (.pointer (some ⟨w.heap.size, L[j], none⟩)) := by
      rcases HPR.out with h0 | ⟨g, ha, hgb, hgl, hc⟩
      · exact ⟨w.heap.size, by omega, by omega, fun j hj => by omega⟩
      · exact ⟨g, hgl, by simp at hgb; omega, fun j hj => ⟨ha, hc j hj⟩⟩
    have HG3 := Lib.hid hg3
    clear hg3 HPR
    have hz7 : z7 + 2 ≤ w10.heap.size := by have := HZ8.out; omega
    have lA10 := A_10.out.1
    have lR10 := R_10.out.1
    clear hz8
    go_wp2_with fail
    go_loopw [4, 36] (fun u p wr => ∃ (j : Nat) (W : List ByteArray), j ≤ L.length ∧ p = .int .i64 (j : Int) ∧ W.length ≤ j + 2 ∧ Hid (W = [itoaB te, nmB kn] ++ (L.take j).map (fun o => itoaB (valO h i v t o))) ∧ Hid (Below w.heap.size w wr) ∧ Hid (Stay g w.heap.size w10 wr) ∧ Hid (∀ k', u.ownBlock = some k' → k' ≠ g) ∧ Hid (wr.ownsRow (z7 + 1) 9 1 u W.length (strs W))) (fun _ p _ => L.length - (intOf p).toNat)
    case atStart => exact ⟨0, [itoaB te, nmB kn], Nat.zero_le _, rfl, Nat.le_refl _, Lib.hid rfl, HB10, ⟨Nat.le_refl _, rfl, rfl, rfl⟩, Lib.hid (fun k' hk' => by simp [Value.ownBlock] at hk'; omega), OW10⟩
    case round =>
      obtain ⟨j, W, hj, rfl, hWl, HW, HBr, HST, HOG, OWr⟩ := hrel
      have zS := HST.out.sz
      by_cases hlt : j < L.length
      · have p0 : (0 : Int) ≤ (j : Int) := by omega
        have p1 : (j : Int) < (L.length : Int) := by omega
        obtain ⟨rfl, x0⟩ := HG3.out j hlt
        have x1 : wr.cell? ⟨g, j, none⟩ = some (.pointer (some ⟨w.heap.size, L[j], none⟩)) := (World.cell?_of_block (w := w10) (a := ⟨g, j, none⟩) HST.out.sg).trans x0
        have y1 := valO_at (blk_same A_10.out HST.out.sp HST.out.sz) (hmem.out j hlt)
        have hwv := Lib.hid (HWO.out L[j] (List.getElem_mem hlt))
        have HTk : Hid (L.take (j + 1) = L.take j ++ [L[j]]) := Lib.hid (List.take_succ_eq_append_getElem hlt)
        have HTr := Lib.hid (HT.out.below HBr.out)
        have lg : g < wr.heap.size := by omega
        have lp : w.heap.size < wr.heap.size := by omega
        clear x0
        generalize L[j]'hlt = o at *
        go_wp2_with fail
        refine (textOf_any _ _ hwv.out HTr.out).mono ?_
        rintro e w11 ⟨rfl, hb⟩
        have HB11 := Lib.hid (thru0 HBr.out hb); have ST11 := Lib.hid (HST.out.below hg1 lR10 hb); have OW11 := Lib.hid (ownsRow_below OWr.out hb)
        have z11 := HB11.out.size
        have zz11 := ST11.out.sz
        clear hb x1 y1
        go_wp2_with (at_builtin; go_loud (refine append_str_lies rfl _ _ rfl (z7 + 1) u4 W rfl (OW11.out.alloc _) w11.heap.size (itoaB (valO h i v t o)) rfl (by simp) (by omega) (by simp; omega) ?_); intro g9 cap9 w12 hown9 hgrow9 hor9)
        have HGE : ∀ k', u4.ownBlock = some k' → z7 + 1 ≤ k' := fun k' hk' => (OW11.out.lt k' hk').1
        have HB12 : Hid (Below w.heap.size w w12) := (HB11.out.alloc z11 _).grown hgrow9 (by simp; omega) (fun k' hk' => by have := HGE k' hk'; omega)
        have ST12 : Hid (Stay g w.heap.size w10 w12) := Lib.hid ((ST11.out.below hg1 lR10 ((Below.refl _ _).alloc (Nat.le_refl _) _)).grown hg1 lR10 hgrow9 (fun k' hk' => ⟨HOG.out k' hk', by have := HGE k' hk'; omega, by have := HGE k' hk'; omega⟩))
        have hl9 : (W ++ [itoaB (valO h i v t o)]).length = W.length + 1 := by simp
        have OW12 : Hid (w12.ownsRow (z7 + 1) 9 1 (.slice (some ⟨g9, 0, none⟩) (W.length + 1) cap9) (W ++ [itoaB (valO h i v t o)]).length (strs (W ++ [itoaB (valO h i v t o)]))) := Lib.hid hown9
        have OG12 : Hid (∀ k', (Value.slice (some ⟨g9, 0, none⟩) (W.length + 1) cap9).ownBlock = some k' → k' ≠ g) := Lib.hid (fun k' hk' => by
          simp [Value.ownBlock] at hk'
          subst hk'
          rcases hor9 with h9 | h9
          · exact HOG.out _ h9
          · simp at h9; omega)
        have HW12 : Hid (W ++ [itoaB (valO h i v t o)] = [itoaB te, nmB kn] ++ (L.take (j + 1)).map (fun o => itoaB (valO h i v t o))) := Lib.hid (by rw [HTk.out, List.map_append, HW.out]; simp)
        have hl9b : (W ++ [itoaB (valO h i v t o)]).length ≤ j + 1 + 2 := by rw [hl9]; omega
        have HLN9 := Lib.hid hl9
        clear hown9 hgrow9 hor9 hl9 HGE
        generalize W.length + 1 = n9 at *
        generalize W ++ [itoaB (valO h i v t o)] = W9 at *
        have hln := HLN9.out
        subst hln
        go_wp2
        go_roundw
        case rel => first | exact ⟨j + 1, W9, by omega, by go_num, hl9b, HW12, HB12, ST12, OG12, OW12⟩ | ((repeat apply Exists.intro); exact ⟨⟨j + 1, W9, by omega, by go_num, hl9b, HW12, HB12, ST12, OG12, OW12⟩, rfl⟩)
        case measure => simp [intOf]; omega
      · obtain rfl : j = L.length := by omega
        have A_r := Lib.hid (blk_same A_10.out HST.out.sp HST.out.sz); have R_r := Lib.hid (blk_same R_10.out HST.out.sr HST.out.sz)
        have HWf : Hid (W = [itoaB te, nmB kn] ++ L.map (fun o => itoaB (valO h i v t o))) := Lib.hid (by rw [HW.out, List.take_of_length_le (Nat.le_refl _)])
        clear HW
        have HSW : Hid (∀ x ∈ W, x.size ≤ 100) := Lib.hid (by
          intro x hx
          rw [HWf.out] at hx
          simp only [List.cons_append, List.nil_append, List.mem_cons, List.mem_map] at hx
          rcases hx with rfl | rfl | ⟨o, ho, rfl⟩
          · have := itoaB_size te HH1.out; omega
          · have := nmB_size kn; omega
          · have := itoaB_size _ (HWO.out o ho); omega)
        cases fo with
        | false =>
          have c6 := A_r.out.at 6 rfl; have lA := A_r.out.1
          have HWS : Hid (itoaB te :: lineW te kn h i v t false = W) := Lib.hid (by rw [HWf.out, HLN.out]; simp)
          obtain ⟨aw, cw, rfl, hcw1, hcw2, _⟩ := row_shape OWr.out
          obtain ⟨gw, hgw, hgl, hcells⟩ := words_at (W := W) OWr.out (by rw [← HWS.out]; simp)
          subst hgw
          have hJ := join_txW (itoaB te) (lineW te kn h i v t false)
          rw [HWS.out] at hJ
          have HJ := Lib.hid hJ
          have HJL := Lib.hid (join_len W (by omega) HSW.out)
          have HCE := Lib.hid hcells
          clear hJ hcells
          go_wp2_with fail
          refine (Tryd.strings_Join gw 0 cw W _ _ (fun j x hx => by simpa using HCE.out j x hx) hgl (by omega) hcw1 HJL.out).mono ?_
          rintro e w13 ⟨rfl, hb⟩
          rw [HJ.out]
          have HB13 := Lib.hid (thru0 HBr.out hb); have R_13 := Lib.hid (R_r.out.below hb)
          clear hb
          have r0 := R_13.out.at 0 rfl; have r1 := R_13.out.at 1 rfl; have f0 := R_13.out.free 0 rfl; have f1 := R_13.out.free 1 rfl; have lR := R_13.out.1
          have HS2 := Lib.hid HS.out
          generalize txW (itoaB te) (lineW te kn h i v t false) = T at *
          go_wp2
          refine bodyPost_ret (v := .agg #[.int .i64 0, .string T]) (by simp [results, Tryd.results17, go_sem, r0, r1, World.cell?_setCell_other, World.cell?_setCell_same']) rfl ⟨by rw [HS2.out], ?_⟩
          repeat (first | (with_reducible refine Below.setCell ?_ (by (try simp); (try omega)) _) | (with_reducible refine Below.alloc ?_ (by (try simp); (try omega)) _))
          exact HB13.out
        | true =>
          have c6 := A_r.out.at 6 rfl; have lA := A_r.out.1
          have HGE : ∀ k', u4.ownBlock = some k' → z7 + 1 ≤ k' := fun k' hk' => (OWr.out.lt k' hk').1
          have HGH := Lib.hid HGE
          clear HGE
          go_wp2_with (at_builtin; go_loud (refine append_str rfl _ _ rfl (z7 + 1) u4 W rfl (OWr.out.alloc _) wr.heap.size (⟨#[110, 111, 119]⟩ : ByteArray) rfl (by simp) (by omega) (by simp; omega) ?_); intro v9 w12 hown9 hgrow9)
          have HB9 : Hid (Below w.heap.size w w12) := (HBr.out.alloc HBr.out.size _).grown hgrow9 (by simp; omega) (fun k' hk' => by have := HGH.out k' hk'; omega)
          have R_9 := Lib.hid (nb_grown (R_r.out.alloc _) hgrow9 (fun k' hk' => by have := HGH.out k' hk'; omega))
          have OW9 : Hid (w12.ownsRow (z7 + 1) 9 1 v9 (W ++ [(⟨#[110, 111, 119]⟩ : ByteArray)]).length (strs (W ++ [(⟨#[110, 111, 119]⟩ : ByteArray)]))) := Lib.hid hown9
          have HWS : Hid (itoaB te :: lineW te kn h i v t true = W ++ [(⟨#[110, 111, 119]⟩ : ByteArray)]) := Lib.hid (by rw [HWf.out, HLN.out]; simp)
          have HSW9 : Hid (∀ x ∈ W ++ [(⟨#[110, 111, 119]⟩ : ByteArray)], x.size ≤ 100) := Lib.hid (by
            intro x hx
            rcases List.mem_append.1 hx with h9 | h9
            · exact HSW.out x h9
            · simp at h9; subst h9; decide)
          have hl9 : (W ++ [(⟨#[110, 111, 119]⟩ : ByteArray)]).length ≤ 7 := by simp; omega
          clear hown9 hgrow9 c6 lA
          generalize W ++ [(⟨#[110, 111, 119]⟩ : ByteArray)] = W9 at *
          obtain ⟨aw, cw, rfl, hcw1, hcw2, _⟩ := row_shape OW9.out
          obtain ⟨gw, hgw, hgl, hcells⟩ := words_at (W := W9) OW9.out (by rw [← HWS.out]; simp)
          subst hgw
          have hJ := join_txW (itoaB te) (lineW te kn h i v t true)
          rw [HWS.out] at hJ
          have HJ := Lib.hid hJ
          have HJL := Lib.hid (join_len W9 (by omega) HSW9.out)
          have HCE := Lib.hid hcells
          clear hJ hcells
          go_wp2_with fail
          refine (Tryd.strings_Join gw 0 cw W9 _ _ (fun j x hx => by simpa using HCE.out j x hx) hgl (by omega) hcw1 HJL.out).mono ?_
          rintro e w13 ⟨rfl, hb⟩
          rw [HJ.out]
          have HB13 := Lib.hid (thru0 HB9.out hb); have R_13 := Lib.hid (R_9.out.below hb)
          clear hb
          have r0 := R_13.out.at 0 rfl; have r1 := R_13.out.at 1 rfl; have f0 := R_13.out.free 0 rfl; have f1 := R_13.out.free 1 rfl; have lR := R_13.out.1
          have HS2 := Lib.hid HS.out
          generalize txW (itoaB te) (lineW te kn h i v t true) = T at *
          go_wp2
          refine bodyPost_ret (v := .agg #[.int .i64 0, .string T]) (by simp [results, Tryd.results17, go_sem, r0, r1, World.cell?_setCell_other, World.cell?_setCell_same']) rfl ⟨by rw [HS2.out], ?_⟩
          repeat (first | (with_reducible refine Below.setCell ?_ (by (try simp); (try omega)) _) | (with_reducible refine Below.alloc ?_ (by (try simp); (try omega)) _))
          exact HB13.out
end Go.Proofs.YtkeeoelbnmacdaaDoor

namespace Go.Proofs.YtkeeoelbnmacdaaDoor
open Go.RowKit
set_option linter.unusedVariables false

set_option maxRecDepth 100000 in
set_option maxHeartbeats 800000 in
theorem toOp_any (te k h t i v : Int) (fo : Bool) (w : World) :
    Calls Tryd.prog 16 #[.agg #[.int .i64 te, .int .i64 k, .int .i64 h, .int .i64 t, .int .i64 i, .int .i64 v, .bool fo]] w fun e w' => e = .returned (.agg #[.int .i64 te, .int .i64 k, .int .i64 h, .int .i64 t, .int .i64 i, .int .i64 v, .bool fo]) ∧ Below w.heap.size w w' := by
  go_enter Tryd.func16, Tryd.ntmps16
  go_wp2
  refine bodyPost_ret (v := .agg #[.int .i64 te, .int .i64 k, .int .i64 h, .int .i64 t, .int .i64 i, .int .i64 v, .bool fo]) (by simp [results, Tryd.results16, go_sem]) rfl ⟨rfl, ?_⟩
  repeat (first | (with_reducible refine Below.setCell ?_ (by (try simp); (try omega)) _) | (with_reducible refine Below.alloc ?_ (by (try simp); (try omega)) _))
  exact Below.refl _ _
end Go.Proofs.YtkeeoelbnmacdaaDoor

namespace Go.Proofs.YtkeeoelbnmacdaaDoor
open Go.RowKit
set_option linter.unusedVariables false

set_option maxHeartbeats 1600000 in
theorem eqTR_same (c : Int) (s : ByteArray) (w : World) : Calls Tryd.prog 18 #[.agg #[.int .i64 c, .string s], .agg #[.int .i64 c, .string s]] w (RetBool w true) := by
  have hq2 : (s.toList != s.toList) = false := by simp
  go_enter Tryd.func18, Tryd.ntmps18
  go_wp2
  go_ret
  exact ⟨rfl, ((Below.refl _ _).alloc (Nat.le_refl _) _).alloc (by simp) _⟩
end Go.Proofs.YtkeeoelbnmacdaaDoor

namespace Go.Proofs.YtkeeoelbnmacdaaDoor
open Go.RowKit
set_option linter.unusedVariables false
open Classical in
noncomputable def otR (c te h t : Int) : Int := if c = 0 then (if WideV te ∧ WideV h ∧ WideV t then 0 else 3) else c

theorem otS_no {te k h t i v : Int} {fo : Bool} (hn : ¬ (WideV te ∧ WideV h ∧ WideV t)) : otS 0 te k h t i v fo = ⟨#[]⟩ := by
  unfold otS; rw [if_neg (fun x => hn x.2)]

theorem otS_bad {c te k h t i v : Int} {fo : Bool} (hn : c ≠ 0) : otS c te k h t i v fo = ⟨#[]⟩ := by
  unfold otS; rw [if_neg (fun x => hn x.1)]

theorem specOT_any (te k h t i v : Int) (fo : Bool) (c : Int) (w : World) (hk : IsOF k h t i v c) : Calls Tryd.prog 15 #[.agg #[.int .i64 te, .int .i64 k, .int .i64 h, .int .i64 t, .int .i64 i, .int .i64 v, .bool fo]] w (RetTR w (otR c te h t) (otS c te k h t i v fo)) := by
  by_cases hc : c = 0
  · subst hc
    by_cases hw : WideV te ∧ WideV h ∧ WideV t
    · rw [show otR 0 te h t = 0 by unfold otR; rw [if_pos rfl, if_pos hw]]
      exact specOT_ok te k h t i v fo w hk hw.1 hw.2.1 hw.2.2
    · rw [show otR 0 te h t = 3 by unfold otR; rw [if_pos rfl, if_neg hw], otS_no hw]
      exact specOT_far te k h t i v fo w hk hw
  · rw [show otR c te h t = c by unfold otR; rw [if_neg hc], otS_bad hc]
    exact specOT_bad te k h t i v fo c w hk hc

theorem implOT_any (te k h t i v : Int) (fo : Bool) (c : Int) (w : World) (hk : IsOF k h t i v c) (hT : PT w) : Calls Tryd.prog 17 #[.agg #[.int .i64 te, .int .i64 k, .int .i64 h, .int .i64 t, .int .i64 i, .int .i64 v, .bool fo]] w (RetTR w (otR c te h t) (otS c te k h t i v fo)) := by
  by_cases hc : c = 0
  · subst hc
    by_cases hw : WideV te ∧ WideV h ∧ WideV t
    · rw [show otR 0 te h t = 0 by unfold otR; rw [if_pos rfl, if_pos hw]]
      have h1 := (ot_ok hk).1
      obtain ⟨kn, rfl⟩ : ∃ n : Nat, k = (n : Int) := ⟨k.toNat, by omega⟩
      exact implOT_ok te kn h t i v fo w hk hw.1 hw.2.1 hw.2.2 hT
    · rw [show otR 0 te h t = 3 by unfold otR; rw [if_pos rfl, if_neg hw], otS_no hw]
      exact implOT_far te k h t i v fo w hk hw
  · rw [show otR c te h t = c by unfold otR; rw [if_neg hc], otS_bad hc]
    exact implOT_bad te k h t i v fo c w hk hc

set_option maxRecDepth 100000 in
set_option maxHeartbeats 1600000 in
theorem e5_any (te k h t i v : Int) (fo : Bool) (w : World) (hT : PT w) : Calls Tryd.prog 5 #[.agg #[.int .i64 te, .int .i64 k, .int .i64 h, .int .i64 t, .int .i64 i, .int .i64 v, .bool fo]] w (RetBool w true) := by
  have HT := Lib.hid hT
  obtain ⟨c, hc⟩ := isOF_some k h t i v
  have hsp := fun w => specOT_any te k h t i v fo c w hc
  have him := fun w hT => implOT_any te k h t i v fo c w hc hT
  generalize otR c te h t = C at *
  generalize otS c te k h t i v fo = S at *
  have HS := Lib.hid hsp; have HI := Lib.hid him
  have HB0 := Lib.hid ((Below.refl w.heap.size w).alloc (Nat.le_refl _) (.cells #[.int .i64 te, .int .i64 k, .int .i64 h, .int .i64 t, .int .i64 i, .int .i64 v, .bool fo] 34))
  have A_0 := Lib.hid (Blk.new_at (w := w) (cs := #[.int .i64 te, .int .i64 k, .int .i64 h, .int .i64 t, .int .i64 i, .int .i64 v, .bool fo]) (t := 34) w.heap.size rfl)
  clear hT hsp him hc
  go_enter Tryd.func5, Tryd.ntmps5
  go_wp2_with fail
  refine (toOp_any te k h t i v fo _).mono ?_
  rintro e w1 ⟨rfl, hb⟩
  have HB1 := Lib.hid (thru0 HB0.out hb); have A_1 := Lib.hid (A_0.out.below hb)
  clear hb HB0 A_0
  go_wp2_with fail
  refine (HS.out _).mono ?_
  rintro e w2 ⟨rfl, hb⟩
  have HB2 := Lib.hid ((thru0 HB1.out hb).alloc (thru0 HB1.out hb).size (.cells #[.int .i64 C, .string S] 36)); have A_2 := Lib.hid ((A_1.out.below hb).alloc (.cells #[.int .i64 C, .string S] 36))
  have W_2 := Lib.hid (Blk.new_at (w := w2) (cs := #[.int .i64 C, .string S]) (t := 36) w2.heap.size rfl)
  clear hb HB1 A_1
  have c0 := A_2.out.at 0 rfl; have c1 := A_2.out.at 1 rfl; have c2 := A_2.out.at 2 rfl; have c3 := A_2.out.at 3 rfl; have c4 := A_2.out.at 4 rfl; have c5 := A_2.out.at 5 rfl; have c6 := A_2.out.at 6 rfl; have lc := A_2.out.1
  have zW : w2.heap.size + 1 = (w2.alloc (.cells #[.int .i64 C, .string S] 36)).heap.size := by simp
  go_wp2_with fail
  clear c0 c1 c2 c3 c4 c5 c6 lc
  generalize w2.alloc (.cells #[.int .i64 C, .string S] 36) = w2a at *
  generalize w2.heap.size = W0 at *
  refine (toOp_any te k h t i v fo _).mono ?_
  rintro e w3 ⟨rfl, hb⟩
  have HB3 := Lib.hid (thru0 HB2.out hb); have W_3 := Lib.hid (W_2.out.below hb)
  clear hb HB2 A_2 W_2
  go_wp2_with fail
  refine (HI.out _ (HT.out.below HB3.out)).mono ?_
  rintro e w4 ⟨rfl, hb⟩
  have HB4 := Lib.hid ((thru0 HB3.out hb).alloc (thru0 HB3.out hb).size (.cells #[.int .i64 C, .string S] 36))
  have W_4b := Lib.hid (W_3.out.below hb)
  clear hb HB3 W_3
  have d0 := W_4b.out.at 0 rfl; have d1 := W_4b.out.at 1 rfl; have ld := W_4b.out.1
  go_wp2_with fail
  refine (eqTR_same C S _).mono ?_
  rintro e w5 ⟨rfl, hb⟩
  have HB5 := Lib.hid (thru0 HB4.out hb)
  clear hb d0 d1 ld
  go_wp2
  go_ret
  exact ⟨rfl, HB5.out⟩
end Go.Proofs.YtkeeoelbnmacdaaDoor

