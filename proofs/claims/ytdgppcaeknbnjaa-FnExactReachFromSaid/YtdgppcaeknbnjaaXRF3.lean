/- Texts merged: S3 to S15. -/
import Derived.Test.YtdgppcaeknbnjaaXRF2
import Derived.Maps.Own
import Derived.Maps.OwnOps
import Derived.Maps.OwnSet
import Derived.OneCell
import Derived.WalkMore
namespace Go.Proofs.Ytdgppcaeknbnjaa
open Go.RowKit
set_option linter.unusedVariables false

theorem row_src {w : World} {B e : Nat} {v : Value} {l : List Int} (h : w.ownsRow B e 1 v l.length (nums l.length (lf l))) : ∃ a c, v = .slice a l.length c ∧ Src w a l.length (lf l) := by
  obtain ⟨a, c, rfl, _⟩ := row_shape h
  exact ⟨a, c, rfl, (own_of_row h).src⟩

/-- The objects of a list in memory, as the model walks need them. -/
structure OMS (w : World) (base lo : Nat) (f : Nat → Int) (v : Value) (M : List OM) : Prop where
  row : w.ownsRow base 44 6 v M.length (rowCells M)
  fl : Flds w lo f v M
  len : M.length ≤ 400
  ok : ∀ t ∈ M, (0 ≤ t.x.s ∧ t.x.s ≤ 12) ∧ (0 ≤ t.x.m ∧ t.x.m ≤ 4095) ∧ (0 ≤ t.x.at_ ∧ t.x.at_ ≤ 1000000) ∧ ∀ k, k < t.x.s.toNat → -1000000000 ≤ f (t.x.at_.toNat + 2 + k) ∧ f (t.x.at_.toNat + 2 + k) ≤ 1000000000

theorem OMS.below {w w' : World} {base lo : Nat} {f : Nat → Int} {v : Value} {M : List OM} (h : OMS w base lo f v M) (hb : Below w.heap.size w w') : OMS w' base lo f v M := ⟨ownsRow_below h.row hb, h.fl.below hb, h.len, h.ok⟩

/-- The object of a place, in memory. -/
theorem OMS.get {w : World} {base lo : Nat} {f : Nat → Int} {v : Value} {M : List OM} (h : OMS w base lo f v M) {i : Nat} {x : Ob} (hx : (M.map OM.x)[i]? = some x) :
    ∃ (g1 c1 g c : Nat), v = .slice (some ⟨g1, 0, none⟩) M.length c1 ∧ i < M.length ∧ g1 < w.heap.size ∧ w.cell? ⟨g1, i * 6, none⟩ = some (.int .i64 x.at_) ∧ w.cell? ⟨g1, i * 6 + 1, none⟩ = some (.int .i64 x.s) ∧ w.cell? ⟨g1, i * 6 + 2, none⟩ = some (.int .i64 x.m) ∧ w.cell? ⟨g1, i * 6 + 3, none⟩ = some (.int .i64 x.o) ∧ w.cell? ⟨g1, i * 6 + 4, none⟩ = some (.int .i64 x.h) ∧ w.cell? ⟨g1, i * 6 + 5, none⟩ = some (.slice (some ⟨g, 0, none⟩) x.s.toNat c) ∧ g < w.heap.size ∧ (∀ k, k < x.s.toNat → w.cell? ⟨g, k, none⟩ = some (.int .i64 (f (x.at_.toNat + 2 + k)))) ∧
      (0 ≤ x.s ∧ x.s ≤ 12) ∧ (0 ≤ x.m ∧ x.m ≤ 4095) ∧ (0 ≤ x.at_ ∧ x.at_ ≤ 1000000) ∧ ∀ k, k < x.s.toNat → -1000000000 ≤ f (x.at_.toNat + 2 + k) ∧ f (x.at_.toNat + 2 + k) ≤ 1000000000 := by
  have hlt : i < M.length := by have := (List.getElem?_eq_some_iff.mp hx).1; simpa using this
  obtain ⟨g1, c1, rfl, _, l1, o1⟩ := row_form h.row (by omega)
  have ht := (o1 i M[i] (List.getElem?_eq_getElem hlt)).six
  have hx' : M[i].x = x := by simpa [hlt] using hx
  have hfs := h.fl.1 M[i] (List.getElem_mem hlt)
  have hk := h.ok M[i] (List.getElem_mem hlt)
  generalize M[i] = t at *
  obtain ⟨x', g, c⟩ := t
  obtain rfl : x' = x := hx'
  obtain ⟨t0, t1, t2, t3, t4, t5⟩ := ht
  exact ⟨g1, c1, g, c, rfl, hlt, l1, t0, t1, t2, t3, t4, t5, hfs.2.1, fun k hk => (hfs.2.2.2 k hk).1, hk.1, hk.2.1, hk.2.2.1, hk.2.2.2⟩

theorem OMS.find {w : World} {base lo : Nat} {f : Nat → Int} {v : Value} {M : List OM} (h : OMS w base lo f v M) (p : Int) : Calls Try.prog 74 #[v, .int .i64 p] w (RetFind w (M.map OM.x) p) := l3Find_any v M base p w h.row h.len

theorem OMS.size {w : World} {base lo : Nat} {f : Nat → Int} {v : Value} {M : List OM} (h : OMS w base lo f v M) : ∀ x ∈ M.map OM.x, 0 ≤ x.s := fun x hx => by
  obtain ⟨t, ht, rfl⟩ := List.mem_map.mp hx
  exact (h.ok t ht).1.1

theorem OMS.place {w : World} {base lo : Nat} {f : Nat → Int} {v : Value} {M : List OM} (h : OMS w base lo f v M) : ∀ p ∈ placesO (M.map OM.x), 0 ≤ p ∧ p ≤ 1000000 := fun p hp => by
  obtain ⟨y, hy, rfl⟩ := List.mem_map.mp hp
  obtain ⟨t, ht, rfl⟩ := List.mem_map.mp hy
  exact (h.ok t ht).2.2.1

theorem roots_snoc {l : List Int} {i : Nat} (h : i < l.length) (O : List Int) : addNew O (l.take (i + 1)) = add1 (addNew O (l.take i)) (lf l i) := by
  rw [List.take_succ_eq_append_getElem h, addNew_append, lf_at h]; rfl

theorem addNew_len (xs : List Int) : ∀ O : List Int, (addNew O xs).length ≤ O.length + xs.length := by
  induction xs with
  | nil => intro O; exact Nat.le_refl _
  | cons x xs ih => intro O; have := ih (add1 O x); rw [addNew_cons]; have h2 : (add1 O x).length ≤ O.length + 1 := (by unfold add1; split <;> simp); simp only [List.length_cons]; omega

set_option maxRecDepth 100000 in
set_option maxHeartbeats 3200000 in
theorem l4Reach_any (v : Value) (M : List OM) (base lo : Nat) (ra : Option Addr) (roots : List Int) (rc : Nat) (f : Nat → Int) (w : World) (hm : OMS w base lo f v M) (hp : Points f (M.map OM.x)) (hrs : Src w ra roots.length (lf roots)) (hrn : roots.length ≤ 1048576) (hr : ∀ p ∈ roots, p ∈ placesO (M.map OM.x)) :
    Calls Try.prog 94 #[v, .slice ra roots.length rc] w (RetInts w (reachO f (M.map OM.x) roots).length (lf (reachO f (M.map OM.x) roots))) := by
  have HM := Lib.hid hm; have HP := Lib.hid hp; have HRS := Lib.hid hrs; have HR := Lib.hid hr
  have HSZ := Lib.hid hm.size
  have HPL := Lib.hid hm.place
  have hml := hm.len
  obtain ⟨a1, k1, rfl⟩ := row_nil hm.row
  obtain ⟨i0, hif, hz0, hz1, hz2⟩ := info_parts Try.info2
  clear hm hp hrs hr
  go_enter Try.func94, Try.ntmps94
  go_wp2_with fail
  have HBa : Hid (Below w.heap.size w (w.alloc (.cells #[] 2))) := (Below.refl _ _).alloc (Nat.le_refl _) _
  have OWa : Hid ((w.alloc (.cells #[] 2)).ownsRow w.heap.size 2 1 (.slice (some ⟨w.heap.size, 0, none⟩) 0 0) ([] : List Int).length (nums ([] : List Int).length (lf []))) := World.ownsRow_lit w #[] 0 (Nat.le_refl _) (by simp [maxLen]) rfl
  have za : w.heap.size + 1 ≤ (w.alloc (.cells #[] 2)).heap.size := by simp
  generalize w.alloc (.cells #[] 2) = wa at *
  go_loopw [5, 6] (fun u q wr => ∃ (i : Nat) (O : List Int), i ≤ roots.length ∧ q = .int .i64 (i : Int) ∧ Hid (Below w.heap.size w wr) ∧ Hid (wr.ownsRow w.heap.size 2 1 u O.length (nums O.length (lf O))) ∧ Hid (O = addNew [] (roots.take i)) ∧ O.length ≤ i) (fun _ q _ => roots.length - (intOf q).toNat)
  case atStart => exact ⟨0, [], by omega, rfl, HBa, OWa, Lib.hid rfl, by simp⟩
  case round =>
    obtain ⟨i, O, hi, rfl, HB_r, OW_r, HO, hol⟩ := hrel
    clear HBa OWa za
    by_cases hlt : i < roots.length
    · have hlt' : (i : Int) < (roots.length : Int) := by omega
      have hi0 : (0 : Int) ≤ (i : Int) := by omega
      have hzr := HB_r.out.size
      have RS := Lib.hid (HRS.out.below HB_r.out)
      obtain ⟨rb, ro, rfl, hrb, hrc⟩ := src_some RS.out (by omega)
      have c0 := hrc i hlt
      obtain ⟨a5, c5, rfl, hs5⟩ := row_src OW_r.out
      have HS5 := Lib.hid hs5
      have HSN := Lib.hid (roots_snoc hlt [])
      obtain ⟨y, hy⟩ : ∃ y, lf roots i = y := ⟨_, rfl⟩
      rw [hy] at c0
      have HY := Lib.hid hy
      clear hrc hs5 hy
      go_wp2_with fail
      refine (l1Has_any a5 O c5 y _ HS5.out (by omega)).mono ?_
      rintro e w' ⟨rfl, rfl⟩
      by_cases hin : y ∈ O
      · have hd : decide (y ∈ O) = true := decide_eq_true hin
        rw [hd]
        have HO' : Hid (O = addNew [] (roots.take (i + 1))) := Lib.hid (by rw [HSN.out, HY.out, ← HO.out, add1, if_pos hin])
        clear hin hd
        go_wp2
        go_roundw
        case rel => first | exact ⟨i + 1, O, by omega, by go_num, HB_r, OW_r, HO', by omega⟩ | ((repeat apply Exists.intro); exact ⟨⟨i + 1, O, by omega, by go_num, HB_r, OW_r, HO', by omega⟩, rfl⟩)
        case measure => simp [intOf]; omega
      · have hd : decide (y ∈ O) = false := decide_eq_false hin
        rw [hd]
        have HO' : Hid (O ++ [y] = addNew [] (roots.take (i + 1))) := Lib.hid (by rw [HSN.out, HY.out, ← HO.out, add1, if_neg hin])
        have HGE : Hid (∀ k, (Value.slice a5 O.length c5).ownBlock = some k → w.heap.size ≤ k) := Lib.hid (fun k hk => ownBlock_ge OW_r.out hk)
        clear hin hd
        go_wp2_with (at_builtin; go_loud (refine wpList_append_lies _ rfl _ _ 24 rfl w.heap.size 2 i0 (.int .i64 0) 1 8 Try.underlying24 hif hz0 hz1 hz2 rfl (by decide) (.slice a5 O.length c5) O.length (nums O.length (lf O)) rfl (ownsRow_below OW_r.out ((Below.refl _ _).alloc (Nat.le_refl _) _)) ⟨wr.heap.size, 0, none⟩ 1 1 [.int .i64 y] rfl rfl (news1 wr y) (by intro u hu; simp only [List.mem_cons, List.mem_nil_iff, or_false] at hu; subst hu; rfl) (by omega) (by unfold maxLen; omega) (by omega) (by simp; omega) (wr.heap.size + 1) (by simp) ?_); intro g9 cap9 w9 hown9 hgrow9 hat9 hlt9)
        have HB9 : Hid (Below w.heap.size w w9) := (HB_r.out.alloc hzr _).grown hgrow9 (by simp; omega) (fun k hk => HGE.out k hk)
        have OW9 : Hid (w9.ownsRow w.heap.size 2 1 (.slice (some ⟨g9, 0, none⟩) (O.length + 1) cap9) (O ++ [y]).length (nums (O ++ [y]).length (lf (O ++ [y])))) := Lib.hid (by
          rw [show (O ++ [y]).length = O.length + 1 by simp, ← nums_snoc]; exact hown9)
        clear hown9 hgrow9 hat9
        go_wp2
        go_roundw
        case rel => first | exact ⟨i + 1, O ++ [y], by omega, by go_num, HB9, OW9, HO', by simp; omega⟩ | ((repeat apply Exists.intro); exact ⟨⟨i + 1, O ++ [y], by omega, by go_num, HB9, OW9, HO', by simp; omega⟩, rfl⟩)
        case measure => simp [intOf]; omega
    · have hlt' : ¬ (i : Int) < (roots.length : Int) := by omega
      obtain rfl : i = roots.length := by omega
      have HSC : Hid (SC f (M.map OM.x) roots 0 O) := Lib.hid (by have e := HO.out; rw [List.take_length] at e; rw [e]; exact sc_start HR.out)
      clear HO
      go_wp2
      go_loopw [5, 7] (fun u q wq => ∃ (i : Nat) (O : List Int), q = .int .i64 (i : Int) ∧ i ≤ M.length ∧ Hid (Below w.heap.size w wq) ∧ Hid (wq.ownsRow w.heap.size 2 1 u O.length (nums O.length (lf O))) ∧ Hid (SC f (M.map OM.x) roots i O)) (fun _ q _ => M.length - (intOf q).toNat)
      case atStart => exact ⟨0, O, rfl, by omega, HB_r, OW_r, HSC⟩
      case round =>
        clear HB_r OW_r HSC
        obtain ⟨i, O, rfl, him, HB_r, OW_r, HSC⟩ := hrel
        have hom : O.length ≤ M.length := by have := HSC.out.len; simpa using this
        have hzr := HB_r.out.size
        obtain ⟨a5, c5, rfl, hs5⟩ := row_src OW_r.out
        by_cases hio : i < O.length
        · have hlt' : (i : Int) < (O.length : Int) := by omega
          have hi0 : (0 : Int) ≤ (i : Int) := by omega
          obtain ⟨ob, oo, rfl, hob, hoc⟩ := src_some hs5 (by omega)
          have c0 := hoc i hio
          obtain ⟨x, hx, hsi⟩ := sc_in HSC.out hio
          have HSI := Lib.hid hsi
          obtain ⟨y, hy⟩ : ∃ y, lf O i = y := ⟨_, rfl⟩
          rw [hy] at c0 hx
          have HX := Lib.hid hx
          clear hs5 hoc hy hsi hx
          go_wp2_with fail
          refine ((HM.out.below HB_r.out).find y).mono ?_
          rintro e w' ⟨rfl, hf⟩
          rcases hf with ⟨hf, rfl⟩ | ⟨j, x', hf, hx, rfl⟩
          · rw [HX.out] at hf; cases hf
          rw [HX.out] at hf
          obtain rfl := Option.some.inj hf
          obtain ⟨g1, c1, g, c, e1, hjm, l1, x0, x1, x2, x3, x4, x5, lg, hfc, ⟨s0, s1⟩, hmm, hat, hwd⟩ := HM.out.get hx
          simp only [Value.slice.injEq] at e1
          obtain ⟨rfl, -, rfl⟩ := e1
          have hj' : (j : Int) < (M.length : Int) := by omega
          have hj0 : (0 : Int) ≤ (j : Int) := by omega
          have HFC := Lib.hid hfc; have HWD := Lib.hid hwd; have HAT := Lib.hid hat
          clear hf hx hfc hwd hat
          go_wp2
          go_loopw [5, 9] (fun u q wq => ∃ (k : Nat) (O : List Int), (k : Int) ≤ x.s ∧ q = .int .i64 (k : Int) ∧ Hid (Below w.heap.size w wq) ∧ Hid (wq.ownsRow w.heap.size 2 1 u O.length (nums O.length (lf O))) ∧ Hid (SI f (M.map OM.x) roots i k x O)) (fun _ q _ => x.s.toNat - (intOf q).toNat)
          case atStart => exact ⟨0, O, by omega, rfl, HB_r, OW_r, HSI⟩
          case round =>
            clear OW_r HSI HSC HX c0 hom hio hlt' HB_r hzr
            obtain ⟨k, O, hks, rfl, HB_q, OW_q, HSI⟩ := hrel
            have hwz := HB_q.out.size
            have x1q := (HB_q.out.cell (p := ⟨g1, j * 6 + 1, none⟩) l1).trans x1
            have x2q := (HB_q.out.cell (p := ⟨g1, j * 6 + 2, none⟩) l1).trans x2
            have x5q := (HB_q.out.cell (p := ⟨g1, j * 6 + 5, none⟩) l1).trans x5
            have hom : O.length ≤ M.length := by have := HSI.out.len; simpa using this
            obtain ⟨a5, c5, rfl, hs5⟩ := row_src OW_q.out
            have HS5 := Lib.hid hs5
            have HSD := Lib.hid (fun q => hs5.below (drewN_below wr q))
            have l1q : g1 < wr.heap.size := by omega
            clear hs5
            by_cases hlt : (k : Int) < x.s
            · have hkt : k < x.s.toNat := by omega
              have hkn : (k : Int) < (x.s.toNat : Int) := by omega
              have hk0 : (0 : Int) ≤ (k : Int) := by omega
              have fk := (HB_q.out.cell (p := ⟨g, k, none⟩) lg).trans (HFC.out k hkt)
              obtain ⟨w1', w2'⟩ := HWD.out k hkt
              have HIN := Lib.hid (si_in HP.out HSZ.out HSI.out hkt)
              have HYES := Lib.hid (si_yes HP.out HSZ.out HSI.out hkt)
              have HNO := Lib.hid (si_no HSI.out hkt)
              obtain ⟨y, hy⟩ : ∃ y, f (x.at_.toNat + 2 + k) = y := ⟨_, rfl⟩
              rw [hy] at fk w1' w2' HIN HYES HNO
              clear hy
              have HQ9 := Lib.hid (fun q => below_drewN HB_q.out q)
              have OWD := Lib.hid (fun q => ownsRow_below OW_q.out (drewN_below wr q))
              have hdd : x.m / P2 k % 2 = 1 ∨ x.m / P2 k % 2 = 0 := by omega
              rcases hdd with hd | hd
              · by_cases h0 : y = 0
                · have HSI' := Lib.hid (HNO.out (fun h => h.2 h0))
                  have hge : ¬ (0 : Int) ≤ y - 1 := by omega
                  clear HIN HYES HNO
                  go_wp2_with fail
                  refine (l2Pointer_at g1 (j * 6 + 1) k x.m true _ x2q hmm (by omega) (by rw [hd]; rfl)).mono ?_
                  rintro e w5 ⟨rfl, q5, rfl⟩
                  have HB6 := Lib.hid (HQ9.out q5)
                  have OW6 := Lib.hid (OWD.out q5)
                  have SR6 := Lib.hid (HSD.out q5)
                  clear HQ9 OWD HSD
                  generalize wr.drewN q5 = w6 at *
                  go_wp2
                  go_roundw
                  case rel => first | exact ⟨k + 1, O, by omega, by go_num, HB6, OW6, HSI'⟩ | ((repeat apply Exists.intro); exact ⟨⟨k + 1, O, by omega, by go_num, HB6, OW6, HSI'⟩, rfl⟩)
                  case measure => simp [intOf]; omega
                · have hpl := HPL.out _ (HIN.out hd h0)
                  have hge : (0 : Int) ≤ y - 1 := by omega
                  have HSI' := Lib.hid (HYES.out hd h0)
                  clear HIN HYES HNO
                  by_cases hmem : y - 1 ∈ O
                  · have hdc : decide (y - 1 ∈ O) = true := decide_eq_true hmem
                    rw [add1, if_pos hmem] at HSI'
                    clear hmem
                    go_wp2_with fail
                    refine (l2Pointer_at g1 (j * 6 + 1) k x.m true _ x2q hmm (by omega) (by rw [hd]; rfl)).mono ?_
                    rintro e w5 ⟨rfl, q5, rfl⟩
                    have HB6 := Lib.hid (HQ9.out q5)
                    have OW6 := Lib.hid (OWD.out q5)
                    have SR6 := Lib.hid (HSD.out q5)
                    clear HQ9 OWD HSD
                    generalize wr.drewN q5 = w6 at *
                    go_wp2_with fail
                    refine (l1Has_any a5 O c5 (y - 1) _ SR6.out (by omega)).mono ?_
                    rintro e w' ⟨rfl, rfl⟩
                    rw [hdc]
                    go_wp2
                    go_roundw
                    case rel => first | exact ⟨k + 1, O, by omega, by go_num, HB6, OW6, HSI'⟩ | ((repeat apply Exists.intro); exact ⟨⟨k + 1, O, by omega, by go_num, HB6, OW6, HSI'⟩, rfl⟩)
                    case measure => simp [intOf]; omega
                  · have hdc : decide (y - 1 ∈ O) = false := decide_eq_false hmem
                    rw [add1, if_neg hmem] at HSI'
                    clear hmem
                    go_wp2_with fail
                    refine (l2Pointer_at g1 (j * 6 + 1) k x.m true _ x2q hmm (by omega) (by rw [hd]; rfl)).mono ?_
                    rintro e w5 ⟨rfl, q5, rfl⟩
                    have HB6 := Lib.hid (HQ9.out q5)
                    have OW6 := Lib.hid (OWD.out q5)
                    have SR6 := Lib.hid (HSD.out q5)
                    clear HQ9 OWD HSD
                    generalize wr.drewN q5 = w6 at *
                    go_wp2_with fail
                    refine (l1Has_any a5 O c5 (y - 1) _ SR6.out (by omega)).mono ?_
                    rintro e w' ⟨rfl, rfl⟩
                    rw [hdc]
                    have z6 := HB6.out.size
                    have HGE : Hid (∀ k, (Value.slice a5 O.length c5).ownBlock = some k → w.heap.size ≤ k) := Lib.hid (fun k hk => ownBlock_ge OW6.out hk)
                    clear x1q x2q x5q fk HS5 OW_q SR6
                    go_wp2_with (at_builtin; go_loud (refine wpList_append_lies _ rfl _ _ 24 rfl w.heap.size 2 i0 (.int .i64 0) 1 8 Try.underlying24 hif hz0 hz1 hz2 rfl (by decide) (.slice a5 O.length c5) O.length (nums O.length (lf O)) rfl (ownsRow_below OW6.out ((Below.refl _ _).alloc (Nat.le_refl _) _)) ⟨w6.heap.size, 0, none⟩ 1 1 [.int .i64 (y - 1)] rfl rfl (news1 w6 (y - 1)) (by intro u hu; simp only [List.mem_cons, List.mem_nil_iff, or_false] at hu; subst hu; rfl) (by omega) (by unfold maxLen; omega) (by omega) (by simp; omega) (w6.heap.size + 1) (by simp) ?_); intro g9 cap9 w9 hown9 hgrow9 hat9 hlt9)
                    have HB9 : Hid (Below w.heap.size w w9) := (HB6.out.alloc z6 _).grown hgrow9 (by simp; omega) (fun k hk => HGE.out k hk)
                    have OW9 : Hid (w9.ownsRow w.heap.size 2 1 (.slice (some ⟨g9, 0, none⟩) (O.length + 1) cap9) (O ++ [y - 1]).length (nums (O ++ [y - 1]).length (lf (O ++ [y - 1])))) := Lib.hid (by
                      rw [show (O ++ [y - 1]).length = O.length + 1 by simp, ← nums_snoc]; exact hown9)
                    clear hown9 hgrow9 hat9
                    go_wp2
                    go_roundw
                    case rel => first | exact ⟨k + 1, (O ++ [y - 1]), by omega, by go_num, HB9, OW9, HSI'⟩ | ((repeat apply Exists.intro); exact ⟨⟨k + 1, (O ++ [y - 1]), by omega, by go_num, HB9, OW9, HSI'⟩, rfl⟩)
                    case measure => simp [intOf]; omega
              · have HSI' := Lib.hid (HNO.out (fun h => by have := h.1; omega))
                clear HIN HYES HNO
                go_wp2_with fail
                refine (l2Pointer_at g1 (j * 6 + 1) k x.m false _ x2q hmm (by omega) (by rw [hd]; rfl)).mono ?_
                rintro e w5 ⟨rfl, q5, rfl⟩
                have HB6 := Lib.hid (HQ9.out q5)
                have OW6 := Lib.hid (OWD.out q5)
                have SR6 := Lib.hid (HSD.out q5)
                clear HQ9 OWD HSD
                generalize wr.drewN q5 = w6 at *
                go_wp2
                go_roundw
                case rel => first | exact ⟨k + 1, O, by omega, by go_num, HB6, OW6, HSI'⟩ | ((repeat apply Exists.intro); exact ⟨⟨k + 1, O, by omega, by go_num, HB6, OW6, HSI'⟩, rfl⟩)
                case measure => simp [intOf]; omega
            · have hio2 := HSI.out.lt
              have HSC' := Lib.hid (si_end HSI.out (by omega))
              go_wp2
              go_roundw
              case rel => first | exact ⟨i + 1, O, by go_num, by omega, HB_q, OW_q, HSC'⟩ | ((repeat apply Exists.intro); exact ⟨⟨i + 1, O, by go_num, by omega, HB_q, OW_q, HSC'⟩, rfl⟩)
              case measure => simp [intOf]; omega
        · have hlt' : ¬ (i : Int) < (O.length : Int) := by omega
          have HE := Lib.hid (sc_end HSC.out hio)
          have HRet := Lib.hid (retInts_of_row OW_r.out HB_r.out)
          clear hs5
          go_wp2
          go_ret
          rw [HE.out]
          exact HRet.out
end Go.Proofs.Ytdgppcaeknbnjaa

namespace Go.Proofs.Ytdgppcaeknbnjaa
open Go.RowKit
set_option linter.unusedVariables false

theorem l3Objs_any (b : Nat) (h ac bu : Int) (a : Option Addr) (n c : Nat) (f : Nat → Int) (L : List Ob) (w : World) (hB : Blk w b [.int .i64 h, .slice a n c, .int .i64 ac, .int .i64 bu]) (hs : Src w a n f) (hcn : n ≤ c) (hcm : c ≤ maxLen) (ho : IsOI h n f ac bu 0 L) :
    Calls Try.prog 59 #[.pointer (some ⟨b, 0, none⟩)] w fun e w' => Below w.heap.size w w' ∧ ∃ v M, L = M.map OM.x ∧ e = .returned (.tuple #[v, .bool true]) ∧ OMS w' w.heap.size w.heap.size f v M := by
  obtain ⟨h4, h5⟩ := isOI_zero ho
  obtain ⟨⟨⟨g1, g2⟩, ⟨g3, g4⟩, g5, g6⟩, gn, gw⟩ := isFault_ok h4
  have hb := baseI_bd (ac := ac) g1
  obtain ⟨P, hP⟩ : ∃ P : Nat, baseI ac h = (P : Int) := ⟨(baseI ac h).toNat, by omega⟩
  obtain ⟨U, rfl⟩ : ∃ U : Nat, bu = (U : Int) := ⟨bu.toNat, by omega⟩
  obtain ⟨ab, ao, rfl, hab, hac⟩ := src_some hs (by omega)
  rw [hP, Int.toNat_natCast, Int.toNat_natCast] at h5
  have hPU : P + U ≤ n := by rcases (by omega : ac = 0 ∨ ac = 1) with rfl | rfl <;> simp [baseI] at hP <;> omega
  have hok := parse_ok h5 hPU gw
  have hln := parse_length (P + U - P) P L (Nat.le_refl _) h5
  refine (l3Objects_any b P U h ac ab ao n c f w hB hs g1 g2 g3 g4 hP hPU (by omega) hcn hcm (fun i hi => by have := gw i hi; unfold Word at this; omega)).mono ?_
  rintro e w' ⟨hb1, hr⟩
  rw [h5] at hr
  refine ⟨hb1, ?_⟩
  obtain ⟨hx, _⟩ | ⟨v, M, hx, rfl, hown, hfl⟩ := hr
  · cases hx
  obtain rfl := Option.some.inj hx
  refine ⟨v, M, rfl, rfl, hown, hfl, by have : M.length = (M.map OM.x).length := (by simp); omega, fun t ht => ?_⟩
  have h9 := hok t.x (List.mem_map_of_mem ht)
  exact ⟨h9.1, h9.2.1, ⟨h9.2.2.2.1.1, by omega⟩, h9.2.2.2.2⟩

/-- What is asked of an arena and roots. -/
def IsAsk (h : Int) (n : Nat) (f : Nat → Int) (ac bu : Int) (roots : List Int) (co : Int) (L : List Ob) : Prop :=
  (IsSF h n f ac bu co ∧ ¬ co = 0) ∨ (IsSF h n f ac bu 0 ∧ 60 < roots.length ∧ co = 2) ∨ (IsSF h n f ac bu 0 ∧ IsOI h n f ac bu 0 L ∧ roots.length ≤ 60 ∧ (∃ p ∈ roots, p ∉ placesO L) ∧ co = 4) ∨ (IsSF h n f ac bu 0 ∧ IsOI h n f ac bu 0 L ∧ roots.length ≤ 60 ∧ (∀ p ∈ roots, p ∈ placesO L) ∧ co = 0)

theorem isAsk_some (h : Int) (n : Nat) (f : Nat → Int) (ac bu : Int) (roots : List Int) : ∃ co L, IsAsk h n f ac bu roots co L := by
  obtain ⟨k, hk⟩ := isSF_some h n f ac bu
  by_cases h0 : k = 0
  · subst h0
    by_cases h1 : 60 < roots.length
    · exact ⟨2, [], .inr (.inl ⟨hk, h1, rfl⟩)⟩
    · obtain ⟨L, hL⟩ := isSF_zero hk
      by_cases h2 : ∀ p ∈ roots, p ∈ placesO L
      · exact ⟨0, L, .inr (.inr (.inr ⟨hk, hL, by omega, h2, rfl⟩))⟩
      · refine ⟨4, L, .inr (.inr (.inl ⟨hk, hL, by omega, ?_, rfl⟩))⟩
        apply Classical.byContradiction
        intro hn
        exact h2 fun p hp => Classical.byContradiction fun hq => hn ⟨p, hp, hq⟩
  · exact ⟨k, [], .inl ⟨hk, h0⟩⟩

theorem isAsk_zero {h : Int} {n : Nat} {f : Nat → Int} {ac bu : Int} {roots : List Int} {L : List Ob} (hk : IsAsk h n f ac bu roots 0 L) : IsSF h n f ac bu 0 ∧ IsOI h n f ac bu 0 L ∧ roots.length ≤ 60 ∧ ∀ p ∈ roots, p ∈ placesO L := by
  rcases hk with ⟨_, h⟩ | ⟨_, _, h⟩ | ⟨_, _, _, _, h⟩ | ⟨h1, h2, h3, h4, _⟩
  · exact absurd rfl h
  · cases h
  · cases h
  · exact ⟨h1, h2, h3, h4⟩

def RetAsk (W : World) (f : Nat → Int) (roots : List Int) (co : Int) (L : List Ob) (e : Ending) (w' : World) : Prop :=
  Below W.heap.size W w' ∧ ((¬ co = 0 ∧ e = .returned (.tuple #[.slice none 0 0, .slice none 0 0, .int .i64 co])) ∨ (co = 0 ∧ ∃ v M a c, L = M.map OM.x ∧ e = .returned (.tuple #[v, .slice a (reachO f L roots).length c, .int .i64 0]) ∧ OMS w' W.heap.size W.heap.size f v M ∧ Own w' W.heap.size a (reachO f L roots).length (lf (reachO f L roots)) ∧ (reachO f L roots).length ≤ c ∧ c ≤ maxLen))

theorem OMS.lo {w : World} {base lo base' lo' : Nat} {f : Nat → Int} {v : Value} {M : List OM} (h : OMS w base lo f v M) (h1 : base' ≤ base) (h2 : lo' ≤ lo) : OMS w base' lo' f v M := by
  refine ⟨?_, ⟨fun t ht => ?_, h.fl.2⟩, h.len, h.ok⟩
  · refine ⟨h.row.1, ?_⟩
    rcases h.row.2 with h0 | ⟨g, cap, cur, e1, e2, e3⟩
    · exact .inl h0
    · exact .inr ⟨g, cap, cur, e1, Nat.le_trans h1 e2, e3⟩
  · obtain ⟨e1, e2⟩ := h.fl.1 t ht
    exact ⟨Nat.le_trans h2 e1, e2⟩

set_option maxRecDepth 100000 in
set_option maxHeartbeats 1600000 in
theorem l4Ask_code (b : Nat) (h ac bu : Int) (a : Option Addr) (n c : Nat) (f : Nat → Int) (ra : Option Addr) (roots : List Int) (rc : Nat) (co : Int) (L : List Ob) (w : World) (hB : Blk w b [.int .i64 h, .slice a n c, .int .i64 ac, .int .i64 bu]) (hs : Src w a n f) (hcn : n ≤ c) (hcm : c ≤ maxLen) (hk : IsSF h n f ac bu co) (h0 : ¬ co = 0) :
    Calls Try.prog 57 #[.pointer (some ⟨b, 0, none⟩), .slice ra roots.length rc] w (RetAsk w f roots co L) := by
  have hd : (co != 0) = true := by simpa using h0
  have HB0 := Lib.hid hB; have HS := Lib.hid hs; have HK := Lib.hid hk; have HCM := Lib.hid hcm; have H0 := Lib.hid h0
  have lb := HB0.out.1; have cb0 := HB0.out.at 0 rfl; have cb1 := HB0.out.at 1 rfl; have cb2 := HB0.out.at 2 rfl; have cb3 := HB0.out.at 3 rfl
  clear hB hs hk hcm h0
  go_enter Try.func57, Try.ntmps57
  go_wp2_with fail
  refine (specSF_any h ac bu a n c f co _ HS.out hcn HCM.out HK.out).mono ?_
  rintro e w1 ⟨rfl, hb⟩
  have HB1 := Lib.hid hb
  clear hb cb0 cb1 cb2 cb3 lb
  go_wp2
  exact bodyPost_ret (v := .tuple #[.slice none 0 0, .slice none 0 0, .int .i64 co]) (by simp [results, Try.results57, go_sem]) rfl ⟨HB1.out, .inl ⟨H0.out, rfl⟩⟩

set_option maxRecDepth 100000 in
set_option maxHeartbeats 1600000 in
theorem l4Ask_many (b : Nat) (h ac bu : Int) (a : Option Addr) (n c : Nat) (f : Nat → Int) (ra : Option Addr) (roots : List Int) (rc : Nat) (L : List Ob) (w : World) (hB : Blk w b [.int .i64 h, .slice a n c, .int .i64 ac, .int .i64 bu]) (hs : Src w a n f) (hcn : n ≤ c) (hcm : c ≤ maxLen) (hk : IsSF h n f ac bu 0) (h0 : 60 < roots.length) :
    Calls Try.prog 57 #[.pointer (some ⟨b, 0, none⟩), .slice ra roots.length rc] w (RetAsk w f roots 2 L) := by
  have hd : (60 : Int) < (roots.length : Int) := by omega
  have HB0 := Lib.hid hB; have HS := Lib.hid hs; have HK := Lib.hid hk; have HCM := Lib.hid hcm
  have lb := HB0.out.1; have cb0 := HB0.out.at 0 rfl; have cb1 := HB0.out.at 1 rfl; have cb2 := HB0.out.at 2 rfl; have cb3 := HB0.out.at 3 rfl
  clear hB hs hk hcm h0
  go_enter Try.func57, Try.ntmps57
  go_wp2_with fail
  refine (specSF_any h ac bu a n c f 0 _ HS.out hcn HCM.out HK.out).mono ?_
  rintro e w1 ⟨rfl, hb⟩
  have HB1 := Lib.hid hb
  clear hb cb0 cb1 cb2 cb3 lb
  go_wp2
  exact bodyPost_ret (v := .tuple #[.slice none 0 0, .slice none 0 0, .int .i64 2]) (by simp [results, Try.results57, go_sem]) rfl ⟨HB1.out, .inl ⟨by decide, rfl⟩⟩

set_option maxRecDepth 100000 in
set_option maxHeartbeats 3200000 in
theorem l4Ask_rest (b : Nat) (h ac bu : Int) (a : Option Addr) (n c : Nat) (f : Nat → Int) (ra : Option Addr) (roots : List Int) (rc : Nat) (co : Int) (L : List Ob) (w : World) (hB : Blk w b [.int .i64 h, .slice a n c, .int .i64 ac, .int .i64 bu]) (hs : Src w a n f) (hcn : n ≤ c) (hcm : c ≤ maxLen) (hrs : Src w ra roots.length (lf roots)) (hk : IsSF h n f ac bu 0) (ho : IsOI h n f ac bu 0 L) (h60 : roots.length ≤ 60) (hco : ((∃ p ∈ roots, p ∉ placesO L) ∧ co = 4) ∨ ((∀ p ∈ roots, p ∈ placesO L) ∧ co = 0)) :
    Calls Try.prog 57 #[.pointer (some ⟨b, 0, none⟩), .slice ra roots.length rc] w (RetAsk w f roots co L) := by
  have hd : ¬ (60 : Int) < (roots.length : Int) := by omega
  have HB0 := Lib.hid hB; have HS := Lib.hid hs; have HK := Lib.hid hk; have HCM := Lib.hid hcm; have HRS := Lib.hid hrs; have HO := Lib.hid ho; have HCO := Lib.hid hco
  have HRI := Lib.hid (right_of hk ho)
  have lb := HB0.out.1; have cb0 := HB0.out.at 0 rfl; have cb1 := HB0.out.at 1 rfl; have cb2 := HB0.out.at 2 rfl; have cb3 := HB0.out.at 3 rfl
  clear hB hs hk hcm hrs ho hco
  go_enter Try.func57, Try.ntmps57
  go_wp2_with fail
  refine (specSF_any h ac bu a n c f 0 _ HS.out hcn HCM.out HK.out).mono ?_
  rintro e w1 ⟨rfl, hb⟩
  have HB1 := Lib.hid hb
  clear hb cb0 cb1 cb2 cb3 lb
  go_wp2_with fail
  refine (l3Objs_any b h ac bu a n c f L _ (HB0.out.below HB1.out) (HS.out.below HB1.out) hcn HCM.out HO.out).mono ?_
  rintro e w2 ⟨hb, v, M, hL, rfl, hm⟩
  have HB2 := Lib.hid (thru0 HB1.out hb)
  have z1 := HB1.out.size
  have HM := Lib.hid (hm.lo z1 z1)
  have HL := Lib.hid hL
  clear hb hm hL HB1 z1
  go_wp2
  go_loop [10] (fun q => ∃ i : Nat, i ≤ roots.length ∧ q = .int .i64 (i : Int) ∧ Hid (∀ j, j < i → lf roots j ∈ placesO L)) (fun q => roots.length - (intOf q).toNat)
  case atStart => exact ⟨0, by omega, rfl, Lib.hid (fun j hj => by omega)⟩
  case round =>
    obtain ⟨i, hi, rfl, HD⟩ := hrel
    by_cases hlt : i < roots.length
    · have hlt' : (i : Int) < (roots.length : Int) := by omega
      have hi0 : (0 : Int) ≤ (i : Int) := by omega
      obtain ⟨rb, ro, rfl, hrb, hrc⟩ := src_some (HRS.out.below HB2.out) (by omega)
      have c0 := hrc i hlt
      obtain ⟨y, hy⟩ : ∃ y, lf roots i = y := ⟨_, rfl⟩
      have HME := Lib.hid (lf_mem hlt)
      have HY := Lib.hid hy
      rw [hy] at c0 HME
      clear hrc hy
      go_wp2_with fail
      refine (HM.out.find y).mono ?_
      rintro e w' ⟨rfl, hf⟩
      rcases hf with ⟨hf, rfl⟩ | ⟨j, x, hf, hx, rfl⟩
      · have hn : y ∉ placesO L := fun hp => by
          obtain ⟨z, hz⟩ := mem_placesO.1 hp
          rw [HL.out, hf] at hz; cases hz
        have hc4 : co = 4 := by
          rcases HCO.out with ⟨_, h4⟩ | ⟨hq, _⟩
          · exact h4
          · exact absurd (hq y HME.out) hn
        subst hc4
        clear hf hn
        go_wp2
        exact bodyPost_ret (v := .tuple #[.slice none 0 0, .slice none 0 0, .int .i64 4]) (by simp [results, Try.results57, go_sem]) rfl ⟨HB2.out, .inl ⟨by decide, rfl⟩⟩
      · have HP : Hid (y ∈ placesO L) := Lib.hid (mem_placesO.2 ⟨x, by rw [HL.out]; exact hf⟩)
        have hj0 : ¬ (j : Int) < 0 := by omega
        clear hf hx
        go_wp2
        go_round
        case rel => first | exact ⟨i + 1, by omega, by go_num, Lib.hid (fun j hj => by rcases Nat.lt_succ_iff_lt_or_eq.mp hj with h1 | h1; exact HD.out j h1; subst h1; rw [HY.out]; exact HP.out)⟩ | ((repeat apply Exists.intro); exact ⟨⟨i + 1, by omega, by go_num, Lib.hid (fun j hj => by rcases Nat.lt_succ_iff_lt_or_eq.mp hj with h1 | h1; exact HD.out j h1; subst h1; rw [HY.out]; exact HP.out)⟩, rfl⟩)
        case measure => simp [intOf]; omega
    · have hlt' : ¬ (i : Int) < (roots.length : Int) := by omega
      have hall : ∀ p ∈ roots, p ∈ placesO L := fun p hp => by
        obtain ⟨j, hj, rfl⟩ := List.getElem_of_mem hp
        rw [← lf_at hj]; exact HD.out j (by omega)
      have hc0 : co = 0 := by
        rcases HCO.out with ⟨⟨p, hp, hq⟩, _⟩ | ⟨_, h0⟩
        · exact absurd (hall p hp) hq
        · exact h0
      subst hc0
      have HALL := Lib.hid hall
      clear hall
      go_wp2_with fail
      refine (l4Reach_any v M w.heap.size w.heap.size ra roots rc f _ HM.out (by rw [← HL.out]; exact HRI.out.points) (HRS.out.below HB2.out) (by omega) (by rw [← HL.out]; exact HALL.out)).mono ?_
      rintro e w3 ⟨a3, c3, rfl, ho3, hb, h31, h32, h33⟩
      have HB3 := Lib.hid (thru0 HB2.out hb)
      have HM3 := Lib.hid (HM.out.below hb)
      have HO3 := Lib.hid (ho3.mono HB2.out.size)
      have HQ3 := Lib.hid (show (reachO f (M.map OM.x) roots).length ≤ c3 ∧ c3 ≤ maxLen from ⟨h31, h32⟩)
      clear hb ho3 h31 h32 h33
      go_wp2
      exact bodyPost_ret (v := .tuple #[v, .slice a3 (reachO f (M.map OM.x) roots).length c3, .int .i64 0]) (by simp [results, Try.results57, go_sem]) rfl ⟨HB3.out, .inr ⟨rfl, v, M, a3, c3, HL.out, by rw [HL.out], HM3.out, by rw [HL.out]; exact HO3.out, by rw [HL.out]; exact HQ3.out⟩⟩

theorem l4Ask_any (b : Nat) (h ac bu : Int) (a : Option Addr) (n c : Nat) (f : Nat → Int) (ra : Option Addr) (roots : List Int) (rc : Nat) (co : Int) (L : List Ob) (w : World) (hB : Blk w b [.int .i64 h, .slice a n c, .int .i64 ac, .int .i64 bu]) (hs : Src w a n f) (hcn : n ≤ c) (hcm : c ≤ maxLen) (hrs : Src w ra roots.length (lf roots)) (hk : IsAsk h n f ac bu roots co L) :
    Calls Try.prog 57 #[.pointer (some ⟨b, 0, none⟩), .slice ra roots.length rc] w (RetAsk w f roots co L) := by
  rcases hk with ⟨h1, h2⟩ | ⟨h1, h2, rfl⟩ | ⟨h1, h2, h3, h4, rfl⟩ | ⟨h1, h2, h3, h4, rfl⟩
  · exact l4Ask_code b h ac bu a n c f ra roots rc co L w hB hs hcn hcm h1 h2
  · exact l4Ask_many b h ac bu a n c f ra roots rc L w hB hs hcn hcm h1 h2
  · exact l4Ask_rest b h ac bu a n c f ra roots rc 4 L w hB hs hcn hcm hrs h1 h2 h3 (.inl ⟨h4, rfl⟩)
  · exact l4Ask_rest b h ac bu a n c f ra roots rc 0 L w hB hs hcn hcm hrs h1 h2 h3 (.inr ⟨h4, rfl⟩)
end Go.Proofs.Ytdgppcaeknbnjaa

namespace Go.Proofs.Ytdgppcaeknbnjaa
open Go.RowKit
set_option linter.unusedVariables false

def outR (f : Nat → Int) (L : List Ob) (roots : List Int) (co : Int) : List Int := if co = 0 then reachO f L roots else []

def outG (f : Nat → Int) (L : List Ob) (roots : List Int) (co : Int) : List Int := if co = 0 then (placesO L).filter (fun p => decide (p ∉ reachO f L roots)) else []

theorem outR_zero (f : Nat → Int) (L : List Ob) (roots : List Int) : outR f L roots 0 = reachO f L roots := rfl

theorem outR_no (f : Nat → Int) (L : List Ob) (roots : List Int) {co : Int} (h : ¬ co = 0) : outR f L roots co = [] := if_neg h

theorem outG_no (f : Nat → Int) (L : List Ob) (roots : List Int) {co : Int} (h : ¬ co = 0) : outG f L roots co = [] := if_neg h

set_option maxRecDepth 100000 in
set_option maxHeartbeats 3200000 in
theorem specRF_any (h ac bu : Int) (a : Option Addr) (n c : Nat) (f : Nat → Int) (ra : Option Addr) (roots : List Int) (rc : Nat) (co : Int) (L : List Ob) (w : World) (hs : Src w a n f) (hcn : n ≤ c) (hcm : c ≤ maxLen) (hrs : Src w ra roots.length (lf roots)) (hk : IsAsk h n f ac bu roots co L) :
    Calls Try.prog 16 #[.agg #[.int .i64 h, .slice a n c, .int .i64 ac, .int .i64 bu], .slice ra roots.length rc] w (RetIR w co (outR f L roots co).length (lf (outR f L roots co))) := by
  have HS := Lib.hid hs; have HK := Lib.hid hk; have HCM := Lib.hid hcm; have HRS := Lib.hid hrs
  clear hs hk hcm hrs
  go_enter Try.func16, Try.ntmps16
  go_wp2_with fail
  refine (l4Ask_any (w.heap.size) h ac bu a n c f ra roots rc co L _ ((((Blk.new_at (w := w) (cs := #[.int .i64 h, .slice a n c, .int .i64 ac, .int .i64 bu]) (t := 26) (w.heap.size) rfl)).alloc _)) ((HS.out.alloc _).alloc _) hcn HCM.out ((HRS.out.alloc _).alloc _) HK.out).mono ?_
  rintro e w1 ⟨hb, hr⟩
  have HB1 := Lib.hid (thru2 (Below.refl _ _) hb)
  have R_1 := Lib.hid ((Blk.new_at (w := w.alloc (.cells #[.int .i64 h, .slice a n c, .int .i64 ac, .int .i64 bu] 26)) (cs := #[.int .i64 0, .slice none 0 0]) (t := 30) (w.heap.size + 1) (by simp)).below hb)
  have z1 : w.heap.size + 2 ≤ w1.heap.size := by have := hb.size; simp at this; omega
  clear hb
  have hz := HB1.out.size
  rcases hr with ⟨h0, rfl⟩ | ⟨rfl, v, M, a1, c1, hL, rfl, hm, ho, hc1, hc2⟩
  · have HE := Lib.hid (outR_no f L roots h0)
    have lR := R_1.out.1; have cR0 := R_1.out.at 0 rfl; have fR0 := R_1.out.free 0 rfl; have cR1 := R_1.out.at 1 rfl; have fR1 := R_1.out.free 1 rfl
    clear h0
    go_wp2
    refine bodyPost_ret (v := .agg #[.int .i64 co, .slice none 0 0]) (by simp [results, Try.results16, go_sem, cR0, cR1]) rfl ?_
    rw [HE.out]
    refine ⟨none, 0, rfl, .inl rfl, ?_⟩
    repeat (first | (with_reducible refine Below.setCell ?_ (by (try simp); (try omega)) _) | (with_reducible refine Below.alloc ?_ (by (try simp); (try omega)) _) | (with_reducible refine Below.drew ?_))
    exact HB1.out
  · have HO := Lib.hid ho
    clear hL hm ho hc1 hc2
    have lR := R_1.out.1; have cR0 := R_1.out.at 0 rfl; have fR0 := R_1.out.free 0 rfl; have cR1 := R_1.out.at 1 rfl; have fR1 := R_1.out.free 1 rfl
    go_wp2
    refine bodyPost_ret (v := .agg #[.int .i64 0, .slice a1 (reachO f L roots).length c1]) (by simp [results, Try.results16, go_sem, cR0, cR1]) rfl ⟨a1, c1, rfl, ?_, ?_⟩
    · rw [outR_zero]
      refine Own.mono (B := w.heap.size + 2) ?_ (by omega)
      repeat (first | (with_reducible refine Own.setCell ?_ (by (try simp); (try omega)) _) | (with_reducible refine Own.alloc ?_ _) | (with_reducible refine Own.drew ?_))
      have := HO.out
      simpa using this
    · repeat (first | (with_reducible refine Below.setCell ?_ (by (try simp); (try omega)) _) | (with_reducible refine Below.alloc ?_ (by (try simp); (try omega)) _) | (with_reducible refine Below.drew ?_))
      exact HB1.out
end Go.Proofs.Ytdgppcaeknbnjaa

namespace Go.Proofs.Ytdgppcaeknbnjaa
open Go.RowKit Go.Maps
set_option linter.unusedVariables false

theorem Try.underlyingMap : Try.prog.underlying 74 = some (.map 2 2) := by kernel_rfl

theorem Try.underlyingI : Try.prog.underlying 2 = some (.int .i64) := by kernel_rfl

theorem keyI : Keyed Try.prog 2 := int_keyed Try.underlyingI

theorem zeroI (w : World) : (zeroValue 2).run Try.prog w = .ok (.int .i64 0) w := by kernel_rfl

theorem wfI {p : Int} (h : -1000000000 ≤ p ∧ p ≤ 1000000000) : (Lit.int .i64 p).wf = true := WalkArith.wf_i64 (by omega)

/-- A block is a map in which the i-th of a list has the i-th value, and nothing else is there. -/
def MapT (w : World) (b n : Nat) (R : List Int) (v : Nat → Int) : Prop :=
  ∃ D : DataW Unit, w.ownsMap Try.prog 2 (plainElem Try.prog 2) b n D ∧ ∀ p, (Lit.int .i64 p).wf = true → Maps.has D (.int .i64 p) = decide (p ∈ R) ∧ D.atKey (.int .i64 p) (.lit (.int .i64 0)) = .lit (.int .i64 ((tab R v p).getD 0))

section

variable {w : World} {b n : Nat} {R : List Int} {v : Nat → Int} {p : Int}

theorem MapT.lt (h : MapT w b n R v) : b < w.heap.size := by obtain ⟨D, h1, _⟩ := h; exact h1.lt

theorem MapT.block {w' : World} (h : MapT w b n R v) (hb : w'.heap[b]? = w.heap[b]?) : MapT w' b n R v := by
  obtain ⟨D, ⟨es, clock, h1, h2⟩, h3⟩ := h
  exact ⟨D, ⟨es, clock, hb.trans h1, h2⟩, h3⟩

theorem MapT.below {w' : World} (h : MapT w b n R v) (hb : Below w.heap.size w w') : MapT w' b n R v := h.block (hb.block b h.lt)

theorem MapT.alloc (h : MapT w b n R v) (o : Obj) : MapT (w.alloc o) b n R v := h.below ((Below.refl _ _).alloc (Nat.le_refl _) o)

theorem MapT.drew (h : MapT w b n R v) : MapT w.drew b n R v := h.below (Below.refl _ _).drew

theorem MapT.drewN (h : MapT w b n R v) (q : Nat) : MapT (w.drewN q) b n R v := h.below (drewN_below w q)

theorem MapT.grown {w' : World} {row : Option Nat} (h : MapT w b n R v) (hg : w.grownBy w' row) (hne : row ≠ some b) : MapT w' b n R v := h.block (hg.block b h.lt (fun e => hne e.symm))

theorem MapT.set (h : MapT w b n R v) {p : Addr} (hp : b ≠ p.block) (u : Value) : MapT (w.setCell p u) b n R v := h.block (Below.heap_setCell _ _ _ b hp)

theorem MapT.made (w : World) (v : Nat → Int) : MapT (w.alloc (.map #[] 0)) w.heap.size 0 [] v := ⟨.map [], World.ownsMap_made _ _ _ _, fun p _ => ⟨by simp [Maps.has_eq], by simp [tab_nil]; rfl⟩⟩

theorem MapT.look_ok (h : MapT w b n R v) (hp : -1000000000 ≤ p ∧ p ≤ 1000000000) : (Instr.lookup 74 (.map (some b)) (.int .i64 p) true).run Try.prog w = .ok (.tuple #[.int .i64 ((tab R v p).getD 0), .bool (decide (p ∈ R))]) w := by
  obtain ⟨D, h1, h2⟩ := h
  obtain ⟨x, ps, hr, hx⟩ := h1.look_ok keyI Try.underlyingMap (zeroI w) (plainElem_int Try.underlyingI (wfI (p := 0) (by omega))) (keyOf_int_mk Try.underlyingI (wfI hp))
  obtain ⟨h3, h4⟩ := h2 p (wfI hp)
  rw [h4] at hx
  obtain ⟨c, rfl, hc, _⟩ := plainElem_int_inv Try.underlyingI hx
  have : (tab R v p).getD 0 = c := by simpa using congrArg Prod.fst hc
  rw [hr, h3, this]

theorem MapT.update (h : MapT w b n R v) (hn : n < maxLen) (hp : -1000000000 ≤ p ∧ p ≤ 1000000000) (hv : -1000000000 ≤ v R.length ∧ v R.length ≤ 1000000000) (hq : p ∉ R) : ∃ w', (Instr.mapUpdate 74 (.map (some b)) (.int .i64 p) (.int .i64 (v R.length))).run Try.prog w = .ok () w' ∧ MapT w' b (n + 1) (R ++ [p]) v ∧ w.grownBy w' (some b) := by
  obtain ⟨D, h1, h2⟩ := h
  obtain ⟨w', hr, h3, h4⟩ := h1.update keyI Try.underlyingMap hn (keyOf_int_mk Try.underlyingI (wfI hp)) (plainElem_int Try.underlyingI (wfI hv))
  refine ⟨w', hr, ⟨_, h3, fun q hwq => ?_⟩, h4⟩
  have hk : WideAt.IsKeyLit (Lit.int .i64 p) := by trivial
  by_cases e : q = p
  · subst e
    refine ⟨by rw [Maps.has_put_same h1.isMap hk]; simp, ?_⟩
    rw [Maps.atKey_put_same h1.isMap hk, tab_snoc hq, if_pos rfl]; rfl
  · have hne : Lit.int .i64 q ≠ Lit.int .i64 p := fun h => e (by simpa using h)
    refine ⟨by rw [Maps.has_put_other hne, (h2 q hwq).1]; simp [e], ?_⟩
    rw [Maps.atKey_put_other hne, (h2 q hwq).2, tab_snoc hq, if_neg e]

end

/-- A row of objects is read. -/
theorem rowG_GV {w : World} {base : Nat} {v : Value} {M : List GM} (h : w.ownsRow base 44 6 v M.length (rowG M)) (hf : ∀ t ∈ M, Src w t.a t.n t.f) : ∃ a c, v = .slice a M.length c ∧ GV w a M.length (gT M) := by
  rcases Nat.eq_zero_or_pos M.length with h0 | hp
  · rcases h.2 with ⟨h1, h2⟩ | ⟨g, cap, cur, h1, _⟩
    · exact ⟨none, 0, by rw [h1, h2], .inl h0⟩
    · exact ⟨_, _, h1, .inl h0⟩
  · obtain ⟨g, cap, rfl, hb, hlt⟩ := h.form hp
    have hce : ∀ i t, M[i]? = some t → ∀ j u, (gcells t)[j]? = some u → w.cell? ⟨g, i * 6 + j, none⟩ = some u := fun i t ht j u hu => by
      have hi : i < M.length := (List.getElem?_eq_some_iff.mp ht).1
      have hj : j < 6 := by
        have := (List.getElem?_eq_some_iff.mp hu).1
        simpa [gcells] using this
      have hc := h.cellAt (i * 6 + j) (by omega)
      rw [rowG_get M i t ht j hj, hu] at hc
      simpa using hc
    refine ⟨_, _, rfl, .inr ⟨g, 0, rfl, hlt, fun i hi => ?_, fun i hi => ?_⟩⟩
    · have ht := List.getElem?_eq_getElem hi
      rw [gT_at ht, Nat.zero_add]
      exact ⟨hce i _ ht 0 _ rfl, hce i _ ht 1 _ rfl, hce i _ ht 2 _ rfl, hce i _ ht 3 _ rfl, hce i _ ht 4 _ rfl, hce i _ ht 5 _ rfl⟩
    · rw [gT_at (List.getElem?_eq_getElem hi)]
      exact hf _ (List.getElem_mem hi)
end Go.Proofs.Ytdgppcaeknbnjaa

namespace Go.Proofs.Ytdgppcaeknbnjaa
open Go.RowKit Go.Maps
set_option linter.unusedVariables false

/-- Where a field of an object leads, in the program's words. -/
def tgtV (t : GM) (k : Nat) : Option Int := if t.m / P2 (k : Int) % 2 = 1 ∧ ¬ t.f k = 0 then some (t.f k - 1) else none

def RetTgt (W : World) (r : Option Int) (e : Ending) (w' : World) : Prop := Below W.heap.size W w' ∧ e = .returned (.tuple #[.int .i64 (r.getD 0), .bool r.isSome])

theorem mid5 {w : World} {b : Nat} {v0 v1 v2 v3 v4 v5 u : Value} {p : Addr} (h : Blk w b [v0, v1, v2, v3, v4, v5]) (hp : w.cell? p = some u) : w.cell? ⟨b, 1, none⟩ = some v1 ∧ w.cell? ⟨b, 2, none⟩ = some v2 ∧ w.cell? ⟨b, 3, none⟩ = some v3 ∧ w.cell? ⟨b, 4, none⟩ = some v4 ∧ w.cell? ⟨b, 5, none⟩ = some v5 ∧ w.cell? p = some u := ⟨h.at 1 rfl, h.at 2 rfl, h.at 3 rfl, h.at 4 rfl, h.at 5 rfl, hp⟩

set_option maxRecDepth 100000 in
set_option maxHeartbeats 3200000 in
theorem target_any (t : GM) (k : Nat) (w : World) (hs : Src w t.a t.n t.f) (hk : k < t.n) (hok : HOk t.s t.m t.o t.h) (htn : t.n = t.s.toNat) (hwd : -1000000000 ≤ t.f k ∧ t.f k ≤ 1000000000) :
    Calls Try.prog 114 #[.agg #[.int .i64 t.at_, .int .i64 t.s, .int .i64 t.m, .int .i64 t.o, .int .i64 t.h, .slice t.a t.n t.c], .int .i64 (k : Int)] w (RetTgt w (tgtV t k)) := by
  have ht12 : t.n ≤ 12 := by have := hok.1; omega
  have hst : t.s = (t.n : Int) := by have := hok.1; omega
  obtain ⟨tb, tf, hta, ltb, hck⟩ : ∃ tb tf, t.a = some ⟨tb, tf, none⟩ ∧ tb < w.heap.size ∧ w.cell? ⟨tb, tf + k, none⟩ = some (.int .i64 (t.f k)) := by
    rcases hs with h0 | ⟨tb, tf, h1, h2, h3⟩
    · omega
    · exact ⟨tb, tf, h1, h2, h3 k hk⟩
  obtain ⟨hw1, hw2⟩ := hwd
  have hk' : (k : Int) < (t.n : Int) := by omega
  have hk0 : (0 : Int) ≤ (k : Int) := by omega
  have hkI : (0 : Int) ≤ (k : Int) ∧ (k : Int) ≤ t.s - 1 := by omega
  have HIP : Hid (∃ r, IsIP t.s t.m t.o t.h (k : Int) r ∧ r = (t.m / P2 (k : Int) % 2 == 1)) := Lib.hid ⟨_, .inl ⟨⟨hok, hkI⟩, rfl⟩, rfl⟩
  obtain ⟨r, hip, hr⟩ := HIP.out
  have HI := Lib.hid hip; have HR := Lib.hid hr
  obtain ⟨y, hy⟩ : ∃ y, t.f k = y := ⟨_, rfl⟩
  have HY := Lib.hid hy
  rw [hy] at hck hw1 hw2
  rw [hta]
  have ha1 : ∀ (v : Int) (w : World), (Instr.typeAssert (fieldV true v) 156 151 true).run Try.prog w = .ok (.tuple #[.int .i64 v, .bool true]) w := fun v w => as_ptr _ w
  have ha2 : ∀ (v : Int) (w : World), (Instr.typeAssert (fieldV false v) 156 151 true).run Try.prog w = .ok (.tuple #[.int .i64 0, .bool false]) w := fun v w => as_plain _ w
  have X0 := Lib.hid (Blk.new_at (w := w) (cs := #[.int .i64 t.at_, .int .i64 t.s, .int .i64 t.m, .int .i64 t.o, .int .i64 t.h, .slice (some ⟨tb, tf, none⟩) t.n t.c]) (t := 44) w.heap.size rfl)
  have HB0 := Lib.hid ((Below.refl w.heap.size w).alloc (Nat.le_refl _) (.cells #[.int .i64 t.at_, .int .i64 t.s, .int .i64 t.m, .int .i64 t.o, .int .i64 t.h, .slice (some ⟨tb, tf, none⟩) t.n t.c] 44))
  have c0 := HB0.out.cell (p := ⟨tb, tf + k, none⟩) ltb
  rw [hck] at c0
  clear hip hr hs hok hta hck hkI HIP hy htn hst
  go_enter Try.func114, Try.ntmps114
  go_wp2_with fail
  have Xd := Lib.hid X0.out.drew
  have zz : w.heap.size + 1 ≤ (w.alloc (.cells #[.int .i64 t.at_, .int .i64 t.s, .int .i64 t.m, .int .i64 t.o, .int .i64 t.h, .slice (some ⟨tb, tf, none⟩) t.n t.c] 44)).heap.size := by simp
  have lt0 : tb < (w.alloc (.cells #[.int .i64 t.at_, .int .i64 t.s, .int .i64 t.m, .int .i64 t.o, .int .i64 t.h, .slice (some ⟨tb, tf, none⟩) t.n t.c] 44)).heap.size := by omega
  generalize w.alloc (.cells #[.int .i64 t.at_, .int .i64 t.s, .int .i64 t.m, .int .i64 t.o, .int .i64 t.h, .slice (some ⟨tb, tf, none⟩) t.n t.c] 44) = w0 at *
  have cd : w0.drew.cell? ⟨tb, tf + k, none⟩ = some (.int .i64 y) := by simpa using c0
  have ltd : tb < w0.drew.heap.size := by simpa using lt0
  cases r with
  | true =>
    have hd : t.m / P2 (k : Int) % 2 = 1 := by have := HR.out; simpa using this.symm
    go_region_held3 (fun w' => w'.cell? ⟨w.heap.size, 1, none⟩ = some (.int .i64 t.s) ∧ w'.cell? ⟨w.heap.size, 2, none⟩ = some (.int .i64 t.m) ∧ w'.cell? ⟨w.heap.size, 3, none⟩ = some (.int .i64 t.o) ∧ w'.cell? ⟨w.heap.size, 4, none⟩ = some (.int .i64 t.h) ∧ w'.cell? ⟨w.heap.size, 5, none⟩ = some (.slice (some ⟨tb, tf, none⟩) t.n t.c) ∧ w'.cell? ⟨tb, tf + k, none⟩ = some (.int .i64 y))
      (first | (with_reducible exact mid5 X0.out c0) | (with_reducible exact mid5 Xd.out cd) | (with_reducible exact mid5 X2.out c2))
      (first | (go_at_call 125; (refine (fieldOf_any t.s t.m t.o t.h (k : Int) y true _ HI.out).mono ?_; rintro e w2 ⟨rfl, hb⟩; have HB2 := Lib.hid ((HB0.out.drew).trans (hb.mono (by simp; omega))); have X2 := Lib.hid (Xd.out.below hb); have c2 := (hb.cell (p := ⟨tb, tf + k, none⟩) ltd).trans cd; clear hb)))
    by_cases h0 : y = 0
    · have HT : Hid (tgtV t k = none) := Lib.hid (by unfold tgtV; rw [HY.out, if_neg (fun h => h.2 h0)])
      subst h0
      go_wp2
      refine bodyPost_ret (v := .tuple #[.int .i64 0, .bool false]) (by simp [results, Try.results114, go_sem]) rfl ?_
      rw [HT.out]
      exact ⟨HB2.out, rfl⟩
    · have HT : Hid (tgtV t k = some (y - 1)) := Lib.hid (by unfold tgtV; rw [HY.out, if_pos ⟨hd, h0⟩])
      have h0' : (y == 0) = false := by simpa using h0
      clear hd
      go_wp2_with fail
      refine (place_any y _ hw1 hw2).mono ?_
      rintro e w3 ⟨rfl, hb⟩
      have HB3 := Lib.hid (HB2.out.trans (hb.mono HB2.out.size))
      clear hb
      go_wp2
      refine bodyPost_ret (v := .tuple #[.int .i64 (y - 1), .bool true]) (by simp [results, Try.results114, go_sem]) rfl ?_
      rw [HT.out]
      exact ⟨HB3.out, rfl⟩
  | false =>
    have hd : ¬ t.m / P2 (k : Int) % 2 = 1 := by have := HR.out; simpa using this.symm
    have HT : Hid (tgtV t k = none) := Lib.hid (by unfold tgtV; rw [if_neg (fun h => hd h.1)])
    clear hd
    go_region_held3 (fun w' => w'.cell? ⟨w.heap.size, 1, none⟩ = some (.int .i64 t.s) ∧ w'.cell? ⟨w.heap.size, 2, none⟩ = some (.int .i64 t.m) ∧ w'.cell? ⟨w.heap.size, 3, none⟩ = some (.int .i64 t.o) ∧ w'.cell? ⟨w.heap.size, 4, none⟩ = some (.int .i64 t.h) ∧ w'.cell? ⟨w.heap.size, 5, none⟩ = some (.slice (some ⟨tb, tf, none⟩) t.n t.c) ∧ w'.cell? ⟨tb, tf + k, none⟩ = some (.int .i64 y))
      (first | (with_reducible exact mid5 X0.out c0) | (with_reducible exact mid5 Xd.out cd) | (with_reducible exact mid5 X2.out c2))
      (first | (go_at_call 125; (refine (fieldOf_any t.s t.m t.o t.h (k : Int) y false _ HI.out).mono ?_; rintro e w2 ⟨rfl, hb⟩; have HB2 := Lib.hid ((HB0.out.drew).trans (hb.mono (by simp; omega))); have X2 := Lib.hid (Xd.out.below hb); have c2 := (hb.cell (p := ⟨tb, tf + k, none⟩) ltd).trans cd; clear hb)))
    go_wp2
    refine bodyPost_ret (v := .tuple #[.int .i64 0, .bool false]) (by simp [results, Try.results114, go_sem]) rfl ?_
    rw [HT.out]
    exact ⟨HB2.out, rfl⟩
end Go.Proofs.Ytdgppcaeknbnjaa

namespace Go.Proofs.Ytdgppcaeknbnjaa
open Go.RowKit Go.Maps
set_option linter.unusedVariables false

theorem Try.infoOb9 : (Try.prog.info? 44).map (fun i => (i.zero, i.size, i.bytes)) = some (some (.agg #[.int .i64 0, .int .i64 0, .int .i64 0, .int .i64 0, .int .i64 0, .slice none 0 0]), 6, 64) := by kernel_rfl

/-- What is reached so far, as the program has it: in the block rb, with the map mb and the row v. -/
structure RS (w : World) (base rb mb : Nat) (v : Value) (M : List GM) (f : Nat → Int) (L : List Ob) (O : List Int) : Prop where
  blk : Blk w rb [.int .i64 0, v, .map (some mb)]
  hrb : base ≤ rb
  hmb : base ≤ mb
  hne : mb ≠ rb
  vr : v.ownBlock ≠ some rb
  vm : v.ownBlock ≠ some mb
  row : w.ownsRow base 44 6 v M.length (rowG M)
  map : MapT w mb O.length O (fun i => (i : Int))
  len : M.length = O.length
  src : ∀ t ∈ M, Src w t.a t.n t.f ∧ (t.n = 0 ∨ t.g + 1 < base)
  same : ∀ i t, M[i]? = some t → ∃ x, findO L (lf O i) = some x ∧ GSame t (obG f x)

section

variable {w w' : World} {base rb mb : Nat} {v : Value} {M : List GM} {f : Nat → Int} {L : List Ob} {O : List Int}

theorem RS.below (h : RS w base rb mb v M f L O) (hb : Below w.heap.size w w') : RS w' base rb mb v M f L O :=
  ⟨h.blk.below hb, h.hrb, h.hmb, h.hne, h.vr, h.vm, ownsRow_below h.row hb, h.map.below hb, h.len, fun t ht => ⟨(h.src t ht).1.below hb, (h.src t ht).2⟩, h.same⟩

theorem src_far {base : Nat} {t : GM} (h : Src w t.a t.n t.f) (hg : t.n = 0 ∨ t.g + 1 < base) (hb : Below base w w') (hz : w.heap.size ≤ w'.heap.size) : Src w' t.a t.n t.f := by
  rcases h with h0 | ⟨b, o, e1, h2, h3⟩
  · exact .inl h0
  · rcases hg with h0 | hg
    · exact .inl h0
    · have hg' : b < base := by have : t.g = b := (by simp [GM.g, e1]); omega
      exact .inr ⟨b, o, e1, by omega, fun i hi => (World.cell?_of_block (w := w) (a := ⟨b, o + i, none⟩) (hb.block b hg')).trans (h3 i hi)⟩

theorem RS.set (h : RS w base rb mb v M f L O) {p : Addr} (hp : p.block + 1 = base) (u : Value) : RS (w.setCell p u) base rb mb v M f L O := by
  have h1 := h.hrb; have h2 := h.hmb
  refine ⟨h.blk.other (by omega) _, h.hrb, h.hmb, h.hne, h.vr, h.vm, row_set h.row (by omega) _, h.map.set (by omega) _, h.len, fun t ht => ⟨?_, (h.src t ht).2⟩, h.same⟩
  obtain ⟨h3, h4⟩ := h.src t ht
  rcases h3 with h0 | ⟨b, o, e1, h5, h6⟩
  · exact .inl h0
  · rcases h4 with h0 | h4
    · exact .inl h0
    · have : t.g = b := (by simp [GM.g, e1])
      exact .inr ⟨b, o, e1, by simpa using h5, fun i hi => (World.cell?_of_block (w := w) (a := ⟨b, o + i, none⟩) (Below.heap_setCell _ _ _ b (by omega))).trans (h6 i hi)⟩

theorem RS.out (h : RS w base rb mb v M f L O) : ∃ a c, v = .slice a M.length c ∧ GV w a M.length (gT M) := rowG_GV h.row (fun t ht => (h.src t ht).1)

end

set_option maxRecDepth 100000 in
set_option maxHeartbeats 1600000 in
theorem add_old (base rb mb : Nat) (v : Value) (M : List GM) (f : Nat → Int) (L : List Ob) (O : List Int) (t : GM) (w : World) (h : RS w base rb mb v M f L O) (hp : -1000000000 ≤ t.at_ ∧ t.at_ ≤ 1000000000) (hin : t.at_ ∈ O) (hz : base ≤ w.heap.size) :
    Calls Try.prog 113 #[.pointer (some ⟨rb, 0, none⟩), .agg #[.int .i64 t.at_, .int .i64 t.s, .int .i64 t.m, .int .i64 t.o, .int .i64 t.h, .slice t.a t.n t.c]] w fun e w' => e = .returned (.tuple #[]) ∧ Below base w w' ∧ w.heap.size ≤ w'.heap.size ∧ RS w' base rb mb v M f L O := by
  have H := Lib.hid h
  have hd : decide (t.at_ ∈ O) = true := decide_eq_true hin
  have X0 := Lib.hid (Blk.new_at (w := w) (cs := #[.int .i64 t.at_, .int .i64 t.s, .int .i64 t.m, .int .i64 t.o, .int .i64 t.h, .slice t.a t.n t.c]) (t := 44) w.heap.size rfl)
  have B0 := Lib.hid (h.blk.alloc (.cells #[.int .i64 t.at_, .int .i64 t.s, .int .i64 t.m, .int .i64 t.o, .int .i64 t.h, .slice t.a t.n t.c] 44))
  have HB0 := Lib.hid ((Below.refl w.heap.size w).alloc (Nat.le_refl _) (.cells #[.int .i64 t.at_, .int .i64 t.s, .int .i64 t.m, .int .i64 t.o, .int .i64 t.h, .slice t.a t.n t.c] 44))
  have hlk := fun q => ((h.map.alloc (.cells #[.int .i64 t.at_, .int .i64 t.s, .int .i64 t.m, .int .i64 t.o, .int .i64 t.h, .slice t.a t.n t.c] 44)).drewN q).look_ok hp
  rw [hd] at hlk
  clear h
  go_enter Try.func113, Try.ntmps113
  go_wp2_with fail
  have zz : w.heap.size + 1 ≤ (w.alloc (.cells #[.int .i64 t.at_, .int .i64 t.s, .int .i64 t.m, .int .i64 t.o, .int .i64 t.h, .slice t.a t.n t.c] 44)).heap.size := by simp
  generalize w.alloc (.cells #[.int .i64 t.at_, .int .i64 t.s, .int .i64 t.m, .int .i64 t.o, .int .i64 t.h, .slice t.a t.n t.c] 44) = w0 at *
  have lX := X0.out.1; have cX0 := X0.out.at 0 rfl; have cX1 := X0.out.at 1 rfl; have cX2 := X0.out.at 2 rfl; have cX3 := X0.out.at 3 rfl; have cX4 := X0.out.at 4 rfl; have cX5 := X0.out.at 5 rfl
  have lB := B0.out.1; have cB0 := B0.out.at 0 rfl; have cB1 := B0.out.at 1 rfl; have cB2 := B0.out.at 2 rfl
  go_quiet (fail)
  clear hlk
  go_wp2
  refine bodyPost_ret (v := .tuple #[]) (by simp [results, Try.results113, go_sem]) rfl ?_
  have hb := below_drewN HB0.out
  exact ⟨rfl, (hb _).mono hz, (hb _).size, H.out.below (hb _)⟩
end Go.Proofs.Ytdgppcaeknbnjaa

namespace Go.Proofs.Ytdgppcaeknbnjaa
open Go.RowKit Go.Maps
set_option linter.unusedVariables false

theorem rowG_val {w : World} {base : Nat} {v : Value} {M : List GM} (h : w.ownsRow base 44 6 v M.length (rowG M)) : ∃ a c, v = .slice a M.length c := by
  rcases h.2 with ⟨e1, e2⟩ | ⟨g, cap, cur, e1, _⟩
  · exact ⟨none, 0, by rw [e1, e2]⟩
  · exact ⟨_, _, e1⟩

theorem obj_one (t : GM) : ∀ u ∈ gcells t, u.oneCell' = true := by
  intro u hu
  simp [gcells] at hu
  rcases hu with rfl | rfl | rfl | rfl | rfl | rfl <;> rfl

set_option maxRecDepth 100000 in
set_option maxHeartbeats 3200000 in
theorem add_new (base rb mb : Nat) (v : Value) (M : List GM) (f : Nat → Int) (L : List Ob) (O : List Int) (t : GM) (x : Ob) (w : World) (h : RS w base rb mb v M f L O) (hp : -1000000000 ≤ t.at_ ∧ t.at_ ≤ 1000000000) (hin : t.at_ ∉ O) (hz : base ≤ w.heap.size) (hx : findO L t.at_ = some x) (hsm : GSame t (obG f x)) (hsr : Src w t.a t.n t.f) (hfar : t.n = 0 ∨ t.g + 1 < base) (hl : O.length ≤ 400) :
    Calls Try.prog 113 #[.pointer (some ⟨rb, 0, none⟩), .agg #[.int .i64 t.at_, .int .i64 t.s, .int .i64 t.m, .int .i64 t.o, .int .i64 t.h, .slice t.a t.n t.c]] w fun e w' => e = .returned (.tuple #[]) ∧ Below base w w' ∧ w.heap.size ≤ w'.heap.size ∧ ∃ v', RS w' base rb mb v' (M ++ [t]) f L (O ++ [t.at_]) := by
  have HML := Lib.hid h.len
  have hml4 : M.length ≤ 400 := by rw [h.len]; exact hl
  have H := Lib.hid h; have HX := Lib.hid hx; have HSM := Lib.hid hsm; have HSR := Lib.hid hsr; have HFAR := Lib.hid hfar; have HP := Lib.hid hp; have HIN := Lib.hid hin
  have hd : decide (t.at_ ∈ O) = false := decide_eq_false hin
  have X0 := Lib.hid (Blk.new_at (w := w) (cs := #[.int .i64 t.at_, .int .i64 t.s, .int .i64 t.m, .int .i64 t.o, .int .i64 t.h, .slice t.a t.n t.c]) (t := 44) w.heap.size rfl)
  have B0 := Lib.hid (h.blk.alloc (.cells #[.int .i64 t.at_, .int .i64 t.s, .int .i64 t.m, .int .i64 t.o, .int .i64 t.h, .slice t.a t.n t.c] 44))
  have HB0 := Lib.hid ((Below.refl w.heap.size w).alloc (Nat.le_refl _) (.cells #[.int .i64 t.at_, .int .i64 t.s, .int .i64 t.m, .int .i64 t.o, .int .i64 t.h, .slice t.a t.n t.c] 44))
  have hlk := fun q => ((h.map.alloc (.cells #[.int .i64 t.at_, .int .i64 t.s, .int .i64 t.m, .int .i64 t.o, .int .i64 t.h, .slice t.a t.n t.c] 44)).drewN q).look_ok hp
  rw [hd] at hlk
  have hrbl : rb < w.heap.size := h.blk.1
  have hmbl : mb < w.heap.size := h.map.lt
  have hr1 := h.hrb; have hm1 := h.hmb; have hne := h.hne
  obtain ⟨j0, hif, hj0, hj1, hj2⟩ := info_parts Try.infoOb9
  obtain ⟨av, kv, hv⟩ := rowG_val h.row
  subst hv
  clear h hx hsm hsr hfar hp hin
  go_enter Try.func113, Try.ntmps113
  go_wp2_with fail
  have zz : w.heap.size + 1 = (w.alloc (.cells #[.int .i64 t.at_, .int .i64 t.s, .int .i64 t.m, .int .i64 t.o, .int .i64 t.h, .slice t.a t.n t.c] 44)).heap.size := by simp
  
  generalize w.alloc (.cells #[.int .i64 t.at_, .int .i64 t.s, .int .i64 t.m, .int .i64 t.o, .int .i64 t.h, .slice t.a t.n t.c] 44) = w0 at *
  have lX := X0.out.1; have cX0 := X0.out.at 0 rfl; have cX1 := X0.out.at 1 rfl; have cX2 := X0.out.at 2 rfl; have cX3 := X0.out.at 3 rfl; have cX4 := X0.out.at 4 rfl; have cX5 := X0.out.at 5 rfl
  have lB := B0.out.1; have cB0 := B0.out.at 0 rfl; have cB1 := B0.out.at 1 rfl; have cB2 := B0.out.at 2 rfl
  go_quiet (fail)
  clear hlk
  have M0 := Lib.hid (H.out.map.below (by rw [show w.heap.size = w.heap.size from rfl]; exact HB0.out))
  have HB1 := Lib.hid (below_drewN HB0.out nq)
  have X1 := Lib.hid (X0.out.below (drewN_below w0 nq)); have B1 := Lib.hid (B0.out.below (drewN_below w0 nq)); have M1 := Lib.hid (M0.out.drewN nq)
  have z1 : w.heap.size + 1 = (w0.drewN nq).heap.size := by simpa using zz
  clear lX cX0 cX1 cX2 cX3 cX4 cX5
  clear lB cB0 cB1 cB2
  clear X0 B0 HB0 M0 zz
  generalize w0.drewN nq = w1 at *
  go_wp2_with fail
  have lX := X1.out.1; have cX0 := X1.out.at 0 rfl; have cX1 := X1.out.at 1 rfl; have cX2 := X1.out.at 2 rfl; have cX3 := X1.out.at 3 rfl; have cX4 := X1.out.at 4 rfl; have cX5 := X1.out.at 5 rfl
  have lB := B1.out.1; have cB0 := B1.out.at 0 rfl; have cB1 := B1.out.at 1 rfl; have cB2 := B1.out.at 2 rfl
  go_still_tail 11, (by kernel_rfl)
  change wpList _ _ _ _ _ w1.drew
  clear lX cX0 cX1 cX2 cX3 cX4 cX5
  clear lB cB0 cB1 cB2
  have HB2 := Lib.hid HB1.out.drew; have X2 := Lib.hid X1.out.drew; have B2 := Lib.hid B1.out.drew; have M2 := Lib.hid M1.out.drew
  have z2 : w.heap.size + 1 = w1.drew.heap.size := by simpa using z1
  clear HB1 X1 B1 M1 z1
  generalize w1.drew = w2 at *
  obtain ⟨w3, hr3, hm3, hg3⟩ := M2.out.update (by unfold maxLen; omega) HP.out (by constructor <;> omega) HIN.out
  rw [← HML.out] at hr3
  have HB3 : Hid (Below base w w3) := Lib.hid ((HB2.out.mono hz).grown hg3 (by omega) (fun k hk => by cases hk; exact hm1))
  have hz3 : w.heap.size + 1 ≤ w3.heap.size := by have := hg3.size; omega
  have X3 := Lib.hid (blk_grown X2.out hg3 (by simp; omega))
  have B3 := Lib.hid (blk_grown B2.out hg3 (by simp; omega))
  have M3 := Lib.hid hm3
  have OW3 : Hid (w3.ownsRow base 44 6 (.slice av M.length kv) M.length (rowG M)) := Lib.hid ((ownsRow_below H.out.row HB2.out).kept hg3 (.inr H.out.vm))
  clear X2 B2 M2 HB2 hm3 hg3
  go_wp2_with fail
  clear hr3
  have lX := X3.out.1; have cX0 := X3.out.at 0 rfl; have cX1 := X3.out.at 1 rfl; have cX2 := X3.out.at 2 rfl; have cX3 := X3.out.at 3 rfl; have cX4 := X3.out.at 4 rfl; have cX5 := X3.out.at 5 rfl
  have lB := B3.out.1; have cB0 := B3.out.at 0 rfl; have fB0 := B3.out.free 0 rfl; have cB1 := B3.out.at 1 rfl; have fB1 := B3.out.free 1 rfl; have cB2 := B3.out.at 2 rfl; have fB2 := B3.out.free 2 rfl
  have hnew := cells_new6 w3.drew t
  go_region_law (first | (refine step_append_lies _ rfl (.tmp 32) (.tmp 34) 35 rfl base 44 j0 _ 6 64 Try.underlying35 hif hj0 hj1 hj2 rfl (by decide) (.slice av M.length kv) M.length (rowG M) rfl (OW3.out.drew.alloc _) ⟨w3.drew.heap.size, 0, none⟩ 1 1 (gcells t) rfl rfl hnew (obj_one t) (by omega) (by unfold maxLen; omega) (by omega) (by simp; omega) (w3.heap.size + 1) (by simp) ?_; intro g9 cap9 w9 hown9 hgrow9 hat9 hlt9; have T9 := Lib.hid (blk_grown (B3.out.drew.alloc _) hgrow9 H.out.vr); have l9 := T9.out.1; have d91 := T9.out.at 1 rfl; have e91 := T9.out.free 1 rfl))
  all_goals (
    have HB9 : Hid (Below base w w9) := Lib.hid ((HB3.out.drew.alloc (by simp; omega) _).grown hgrow9 (by simp; omega) (fun k hk => (OW3.out.lt k hk).1))
    have hz9 : w.heap.size ≤ w9.heap.size := (by have := hgrow9.size; simp at this; omega)
    have hg9r : g9 ≠ rb := (by rcases hat9 with he | he; (intro e; exact H.out.vr (by rw [he, e])); omega)
    have hg9m : g9 ≠ mb := (by rcases hat9 with he | he; (intro e; exact H.out.vm (by rw [he, e])); omega)
    have M9 := Lib.hid ((M3.out.drew.alloc (.cells #[.int .i64 t.at_, .int .i64 t.s, .int .i64 t.m, .int .i64 t.o, .int .i64 t.h, .slice t.a t.n t.c] 44)).grown hgrow9 H.out.vm)
    have OW9 := Lib.hid hown9
    clear hown9 hgrow9 hat9 l9 d91 e91 hnew
    clear lX cX0 cX1 cX2 cX3 cX4 cX5
    clear lB cB0 fB0 cB1 fB1 cB2 fB2
    go_wp2
    refine bodyPost_end (v := .tuple #[]) (by simp [results, Try.results113, go_sem]) rfl ?_
    have hbF : Below base w (w9.setCell ⟨rb, 1, none⟩ (.slice (some ⟨g9, 0, none⟩) (M.length + 1) cap9)) := HB9.out.setCell hr1 _
    have hzF : w.heap.size ≤ (w9.setCell ⟨rb, 1, none⟩ (.slice (some ⟨g9, 0, none⟩) (M.length + 1) cap9)).heap.size := (by simpa using hz9)
    refine ⟨rfl, hbF, hzF, .slice (some ⟨g9, 0, none⟩) (M.length + 1) cap9, T9.out.set 1 (by simp) _, hr1, hm1, hne, fun e => hg9r (by simpa [Value.ownBlock] using e), fun e => hg9m (by simpa [Value.ownBlock] using e), ?_, ?_, by rw [List.length_append, List.length_append, HML.out]; rfl, fun u hu => ?_, fun i u hu => ?_⟩
    · rw [rowG_snoc, List.length_append]
      exact ownsRow_setCell_other OW9.out (fun e => hg9r (by simpa [Value.ownBlock] using e)) _
    · rw [List.length_append]
      exact M9.out.set hne _
    · rcases List.mem_append.mp hu with hu | hu
      · exact ⟨src_far (H.out.src u hu).1 (H.out.src u hu).2 hbF hzF, (H.out.src u hu).2⟩
      · simp only [List.mem_singleton] at hu
        subst hu
        exact ⟨src_far HSR.out HFAR.out hbF hzF, HFAR.out⟩
    · rcases Nat.lt_or_ge i M.length with hi | hi
      · rw [List.getElem?_append_left hi] at hu
        obtain ⟨z, h1, h2⟩ := H.out.same i u hu
        exact ⟨z, by rw [lf_left (by rw [← HML.out]; exact hi)]; exact h1, h2⟩
      · have hi' : i = M.length := (by have := (List.getElem?_eq_some_iff.mp hu).1; simp at this; omega)
        subst hi'
        rw [List.getElem?_append_right (Nat.le_refl _), Nat.sub_self] at hu
        have hu' : t = u := (by simpa using hu)
        subst hu'
        exact ⟨x, by rw [HML.out, lf_last]; exact HX.out, HSM.out⟩)

theorem add_any (base rb mb : Nat) (v : Value) (M : List GM) (f : Nat → Int) (L : List Ob) (O : List Int) (t : GM) (x : Ob) (w : World) (h : RS w base rb mb v M f L O) (hp : -1000000000 ≤ t.at_ ∧ t.at_ ≤ 1000000000) (hz : base ≤ w.heap.size) (hx : findO L t.at_ = some x) (hsm : GSame t (obG f x)) (hsr : Src w t.a t.n t.f) (hfar : t.n = 0 ∨ t.g + 1 < base) (hl : O.length ≤ 400) :
    Calls Try.prog 113 #[.pointer (some ⟨rb, 0, none⟩), .agg #[.int .i64 t.at_, .int .i64 t.s, .int .i64 t.m, .int .i64 t.o, .int .i64 t.h, .slice t.a t.n t.c]] w fun e w' => e = .returned (.tuple #[]) ∧ Below base w w' ∧ w.heap.size ≤ w'.heap.size ∧ ∃ v' M', RS w' base rb mb v' M' f L (add1 O t.at_) := by
  by_cases hin : t.at_ ∈ O
  · refine (add_old base rb mb v M f L O t w h hp hin hz).mono ?_
    rintro e w' ⟨h1, h2, h3, h4⟩
    exact ⟨h1, h2, h3, v, M, by rw [add1, if_pos hin]; exact h4⟩
  · refine (add_new base rb mb v M f L O t x w h hp hin hz hx hsm hsr hfar hl).mono ?_
    rintro e w' ⟨h1, h2, h3, v', h4⟩
    exact ⟨h1, h2, h3, v', _, by rw [add1, if_neg hin]; exact h4⟩
end Go.Proofs.Ytdgppcaeknbnjaa

namespace Go.Proofs.Ytdgppcaeknbnjaa
open Go.RowKit Go.Maps
set_option linter.unusedVariables false

theorem fld_obj7 (v0 v1 v2 v3 v4 v5 v6 : Value) (w : World) : (Instr.field 119 (.agg #[v0, v1, v2, v3, v4, v5, v6]) 1).run Try.prog w = .ok (.agg #[v1, v2, v3, v4, v5, v6]) w := by kernel_rfl

/-- What is known of the objects of an arena without a fault, as the program reads them. -/
structure Shaped (w : World) (a : Option Addr) (T : Nat → GM) (f : Nat → Int) (L : List Ob) : Prop where
  gv : GV w a L.length T
  same : ∀ i, i < L.length → GSame (T i) (obT f L i)
  sort : ∀ i j, i < j → j < L.length → (T i).at_ < (T j).at_
  right : Right f L
  len : L.length ≤ 400
  place : ∀ x ∈ L, 0 ≤ x.at_ ∧ x.at_ ≤ 1000000
  word : ∀ x ∈ L, ∀ k, k < x.s.toNat → -1000000000 ≤ f (x.at_.toNat + 2 + k) ∧ f (x.at_.toNat + 2 + k) ≤ 1000000000

section

variable {w w' : World} {a : Option Addr} {T : Nat → GM} {f : Nat → Int} {L : List Ob}

theorem Shaped.below (h : Shaped w a T f L) (hb : Below w.heap.size w w') : Shaped w' a T f L := ⟨h.gv.below hb, h.same, h.sort, h.right, h.len, h.place, h.word⟩

theorem Shaped.src (h : Shaped w a T f L) {i : Nat} (hi : i < L.length) : Src w (T i).a (T i).n (T i).f := by
  rcases h.gv with h0 | ⟨b, q, _, g⟩
  · omega
  · exact g.flds i hi

theorem gm_lt {t : GM} (h : Src w t.a t.n t.f) : t.n = 0 ∨ t.g < w.heap.size := by
  rcases h with h0 | ⟨b, o, e, hb, _⟩
  · exact .inl h0
  · exact .inr (by simpa [GM.g, e] using hb)

theorem Shaped.obj (h : Shaped w a T f L) {i : Nat} (hi : i < L.length) : findO L (T i).at_ = some L[i] ∧ GSame (T i) (obG f L[i]) ∧ (0 ≤ (T i).at_ ∧ (T i).at_ ≤ 1000000) := by
  have hs := h.same i hi
  rw [obT_get f hi] at hs
  have e : (T i).at_ = L[i].at_ := hs.1
  exact ⟨by rw [e]; exact h.right.apart _ (List.getElem_mem hi), hs, by rw [e]; exact h.place _ (List.getElem_mem hi)⟩

theorem Shaped.nope (h : Shaped w a T f L) {p : Int} (hn : ∀ i, i < L.length → ¬ (T i).at_ = p) : p ∉ placesO L := fun hp => by
  obtain ⟨x, hx, rfl⟩ := List.mem_map.mp hp
  obtain ⟨i, hi, rfl⟩ := List.getElem_of_mem hx
  have hs := h.same i hi
  rw [obT_get f hi] at hs
  exact hn i hi hs.1

theorem Shaped.yes (h : Shaped w a T f L) {i : Nat} (hi : i < L.length) : (T i).at_ ∈ placesO L := mem_placesO.2 ⟨_, (h.obj hi).1⟩

end

/-- The program's scan: at a field of an object, or at the end. -/
def ST (f : Nat → Int) (L : List Ob) (roots : List Int) (n i : Nat) (O : List Int) : Prop := (n = O.length ∧ i = 0 ∧ SC f L roots n O) ∨ ∃ x, i ≤ x.s.toNat ∧ SI f L roots n i x O

theorem st_of_sc {f : Nat → Int} {L : List Ob} {roots O : List Int} {n : Nat} (h : SC f L roots n O) : ST f L roots n 0 O := by
  rcases Nat.lt_or_ge n O.length with h1 | h1
  · obtain ⟨x, _, hx⟩ := sc_in h h1
    exact .inr ⟨x, Nat.zero_le _, hx⟩
  · have := h.le
    exact .inl ⟨by omega, rfl, h⟩

theorem ST.len {f : Nat → Int} {L : List Ob} {roots O : List Int} {n i : Nat} (h : ST f L roots n i O) : O.length ≤ L.length := by
  rcases h with ⟨_, _, h⟩ | ⟨_, _, h⟩
  · exact h.len
  · exact h.len

theorem tgt_eq {t : GM} {f : Nat → Int} {x : Ob} (h : GSame t (obG f x)) {k : Nat} (hk : k < x.s.toNat) : tgtV t k = if x.m / P2 (k : Int) % 2 = 1 ∧ ¬ f (x.at_.toNat + 2 + k) = 0 then some (f (x.at_.toNat + 2 + k) - 1) else none := by
  obtain ⟨h1, h2, h3, h4, h5, h6, h7⟩ := h
  have e := h7 k (by rw [h6]; exact hk)
  have e' : t.f k = f (x.at_.toNat + 2 + k) := e
  have e3 : t.m = x.m := h3
  unfold tgtV
  rw [e', e3]

def RetReach (W : World) (f : Nat → Int) (L : List Ob) (roots : List Int) (e : Ending) (w' : World) : Prop :=
  Below W.heap.size W w' ∧ (((∃ p ∈ roots, p ∉ placesO L) ∧ e = .returned (.agg #[.int .i64 4, .slice none 0 0, .map none])) ∨
    ((∀ p ∈ roots, p ∈ placesO L) ∧ ∃ a c mb T, e = .returned (.agg #[.int .i64 0, .slice a (reachO f L roots).length c, .map (some mb)]) ∧ GV w' a (reachO f L roots).length T ∧ MapT w' mb (reachO f L roots).length (reachO f L roots) (fun i => (i : Int)) ∧ ∀ i, i < (reachO f L roots).length → ∃ x, findO L (lf (reachO f L roots) i) = some x ∧ GSame (T i) (obG f x)))

theorem ret_of_rs {W w : World} {base rb mb : Nat} {av : Option Addr} {kv : Nat} {M : List GM} {f : Nat → Int} {L : List Ob} {O roots : List Int} (hall : ∀ p ∈ roots, p ∈ placesO L) (he : reachO f L roots = O) (h : RS w base rb mb (.slice av M.length kv) M f L O) (hb : Below W.heap.size W w) : RetReach W f L roots (.returned (.agg #[.int .i64 0, .slice av M.length kv, .map (some mb)])) w := by
  obtain ⟨a, c, e, hg⟩ := h.out
  simp only [Value.slice.injEq] at e
  obtain ⟨rfl, -, rfl⟩ := e
  have hl := h.len
  rw [hl] at hg
  refine ⟨hb, .inr ⟨hall, av, kv, mb, gT M, by rw [he, hl], by rw [he]; exact hg, by rw [he]; exact h.map, fun i hi => ?_⟩⟩
  rw [he] at hi ⊢
  have hi' : i < M.length := by omega
  rw [gT_at (List.getElem?_eq_getElem hi')]
  exact h.same i _ (List.getElem?_eq_getElem hi')

set_option maxRecDepth 100000 in
set_option maxHeartbeats 1600000 in
theorem reachOf_any (a : Option Addr) (kc : Nat) (T : Nat → GM) (f : Nat → Int) (L : List Ob) (ra : Option Addr) (roots : List Int) (rc : Nat) (w : World) (hsh : Shaped w a T f L) (hrs : Src w ra roots.length (lf roots)) (hrn : roots.length ≤ 60) :
    Calls Try.prog 88 #[.slice a L.length kc, .slice ra roots.length rc] w (RetReach w f L roots) := by
  have HSH := Lib.hid hsh; have HRS := Lib.hid hrs
  have hL4 := hsh.len
  have hmk := @run_makeMap Try.prog
  clear hsh hrs
  go_enter Try.func88, Try.ntmps88
  go_wp2_with fail
  go_step3
  have HW0 := Lib.hid ((Below.refl w.heap.size w).alloc (Nat.le_refl _) (.cells #[.int .i64 0, .slice none 0 0, .map none] 76))
  have R0 := Lib.hid (Blk.new_at (w := w) (cs := #[.int .i64 0, .slice none 0 0, .map none]) (t := 76) w.heap.size rfl)
  have z0 : (w.alloc (.cells #[.int .i64 0, .slice none 0 0, .map none] 76)).heap.size = w.heap.size + 1 := by simp
  have HM1 := Lib.hid ((MapT.made (w.alloc (.cells #[.int .i64 0, .slice none 0 0, .map none] 76)) (fun i => (i : Int))).alloc (.cells #[.int .i64 0, .slice none 0 0, .map (some (w.heap.size + 1))] 76))
  have B1 := Lib.hid (Blk.new_at (w := (w.alloc (.cells #[.int .i64 0, .slice none 0 0, .map none] 76)).alloc (.map #[] 0)) (cs := #[.int .i64 0, .slice none 0 0, .map (some (w.heap.size + 1))]) (t := 76) (w.heap.size + 1 + 1) (by simp))
  go_wp2_with fail
  generalize w.alloc (.cells #[.int .i64 0, .slice none 0 0, .map none] 76) = W0 at *
  rw [z0] at HM1
  have RS0 : Hid (RS ((W0.alloc (.map #[] 0)).alloc (.cells #[.int .i64 0, .slice none 0 0, .map (some (w.heap.size + 1))] 76)) (w.heap.size + 1) (w.heap.size + 1 + 1) (w.heap.size + 1) (.slice none 0 0) [] f L []) := Lib.hid
    ⟨B1.out, by omega, Nat.le_refl _, by omega, by simp [Value.ownBlock], by simp [Value.ownBlock], World.ownsRow_nil _ _ _ _, HM1.out, rfl, fun t ht => (by cases ht), fun i t ht => (by simp at ht)⟩
  have HB0 : Hid (Below (w.heap.size + 1) W0 ((W0.alloc (.map #[] 0)).alloc (.cells #[.int .i64 0, .slice none 0 0, .map (some (w.heap.size + 1))] 76))) := Lib.hid (((Below.refl _ _).alloc (by omega) _).alloc (by simp; omega) _)
  have zz : w.heap.size + 3 ≤ ((W0.alloc (.map #[] 0)).alloc (.cells #[.int .i64 0, .slice none 0 0, .map (some (w.heap.size + 1))] 76)).heap.size := by simp; omega
  generalize (W0.alloc (.map #[] 0)).alloc (.cells #[.int .i64 0, .slice none 0 0, .map (some (w.heap.size + 1))] 76) = W3 at *
  clear HM1 B1
  generalize hrb : w.heap.size + 1 + 1 = rb at *
  generalize hmb : w.heap.size + 1 = mb at *
  have HBW : Hid (∀ wr, Below mb W0 wr → Below w.heap.size w wr) := Lib.hid (fun wr hb => HW0.out.trans (hb.mono (by omega)))
  go_loopw [17] (fun p wr => ∃ (i : Nat) (v : Value) (M : List GM), i ≤ roots.length ∧ p = .int .i64 (i : Int) ∧ Hid (Below mb W0 wr) ∧ Hid (RS wr mb rb mb v M f L (addNew [] (roots.take i))) ∧ Hid (∀ j, j < i → lf roots j ∈ placesO L)) (fun p _ => roots.length - (intOf p).toNat)
  case atStart => exact ⟨0, _, [], by omega, rfl, HB0, RS0, Lib.hid (fun j hj => by omega)⟩
  case round =>
    clear HB0 RS0 zz
    obtain ⟨i, v, M, hi, rfl, HB_r, RS_r, HD⟩ := hrel
    have hzr : mb ≤ wr.heap.size := by have := RS_r.out.map.lt; omega
    by_cases hlt : i < roots.length
    · have hlt' : (i : Int) < (roots.length : Int) := by omega
      have hi0 : (0 : Int) ≤ (i : Int) := by omega
      obtain ⟨xb, xo, rfl, hxb, hxc⟩ := src_some (HRS.out.below (HBW.out _ HB_r.out)) (by omega)
      have c0 := hxc i hlt
      obtain ⟨y, hy⟩ : ∃ y, lf roots i = y := ⟨_, rfl⟩
      have HY := Lib.hid hy
      have HME := Lib.hid (lf_mem hlt)
      have HSN := Lib.hid (roots_snoc hlt [])
      rw [hy] at c0 HME HSN
      clear hxc hy
      go_wp2_with fail
      refine (find_any a L.length kc T y _ (HSH.out.below (HBW.out _ HB_r.out)).gv (by omega) HSH.out.sort).mono ?_
      rintro e w1 ⟨hb, hr⟩
      have HB1 := Lib.hid (HB_r.out.trans (hb.mono hzr))
      have RS1 := Lib.hid (RS_r.out.below hb)
      have z1 := hb.size
      clear hb
      rcases hr with ⟨j, hj, hat, rfl⟩ | ⟨hn, rfl⟩
      · obtain ⟨ho1, ho2, ho3⟩ := HSH.out.obj hj
        have HO := Lib.hid (And.intro ho1 (And.intro ho2 (And.intro ho3 (And.intro (HSH.out.src hj) (HSH.out.yes hj)))))
        have HL6 := Lib.hid (addNew_len (roots.take i) [])
        have HAT := Lib.hid hat
        clear ho1 ho2 ho3 hat
        generalize T j = t at *
        go_wp2_with fail
        have RS2 := Lib.hid (RS1.out.below ((Below.refl _ _).alloc (Nat.le_refl _) (.cells #[.int .i64 0, .int .i64 t.at_, .int .i64 t.s, .int .i64 t.m, .int .i64 t.o, .int .i64 t.h, .slice t.a t.n t.c] 119)))
        have HB2 := Lib.hid (HB1.out.alloc (by omega) (.cells #[.int .i64 0, .int .i64 t.at_, .int .i64 t.s, .int .i64 t.m, .int .i64 t.o, .int .i64 t.h, .slice t.a t.n t.c] 119))
        have z2 : w1.heap.size + 1 = (w1.alloc (.cells #[.int .i64 0, .int .i64 t.at_, .int .i64 t.s, .int .i64 t.m, .int .i64 t.o, .int .i64 t.h, .slice t.a t.n t.c] 119)).heap.size := by simp
        clear RS1 HB1
        generalize w1.alloc (.cells #[.int .i64 0, .int .i64 t.at_, .int .i64 t.s, .int .i64 t.m, .int .i64 t.o, .int .i64 t.h, .slice t.a t.n t.c] 119) = w2 at *
        have hs2 := HO.out.2.2.2.1
        refine (add_any mb rb mb v M f L _ t L[j] _ RS2.out (by have := HO.out.2.2.1; omega) (by omega) HO.out.1 HO.out.2.1 (HO.out.2.2.2.1.below (HBW.out _ HB2.out)) (by rcases gm_lt hs2 with h0 | h0; exact .inl h0; exact .inr (by omega)) (by have := HL6.out; simp at this; omega)).mono ?_
        rintro e w3 ⟨rfl, hb, hz, v', M', hrs⟩
        have HB3 := Lib.hid (HB2.out.trans hb)
        have RS3 : Hid (RS w3 mb rb mb v' M' f L (addNew [] (roots.take (i + 1)))) := Lib.hid (by rw [HSN.out, ← HAT.out]; exact hrs)
        have HP := Lib.hid (show y ∈ placesO L by rw [← HAT.out]; exact HO.out.2.2.2.2)
        clear hb hrs hs2 HB2 RS2 HO
        go_wp2
        go_roundw
        case rel => first | exact ⟨i + 1, v', M', by omega, by go_num, HB3, RS3, Lib.hid (fun j hj => by rcases Nat.lt_succ_iff_lt_or_eq.mp hj with h1 | h1; exact HD.out j h1; subst h1; rw [HY.out]; exact HP.out)⟩ | ((repeat apply Exists.intro); exact ⟨⟨i + 1, v', M', by omega, by go_num, HB3, RS3, Lib.hid (fun j hj => by rcases Nat.lt_succ_iff_lt_or_eq.mp hj with h1 | h1; exact HD.out j h1; subst h1; rw [HY.out]; exact HP.out)⟩, rfl⟩)
        case measure => simp [intOf]; omega
      · have hnp := HSH.out.nope hn
        have HNP := Lib.hid hnp
        have R_1 := Lib.hid (blk_under R0.out HB1.out (by omega))
        clear hn hnp
        have lR := R_1.out.1; have cR0 := R_1.out.at 0 rfl; have fR0 := R_1.out.free 0 rfl; have cR1 := R_1.out.at 1 rfl; have fR1 := R_1.out.free 1 rfl; have cR2 := R_1.out.at 2 rfl; have fR2 := R_1.out.free 2 rfl
        go_wp2
        refine bodyPost_ret (v := .agg #[.int .i64 4, .slice none 0 0, .map none]) (by simp [results, Try.results88, go_sem, cR0, cR1, cR2, lR]) rfl ⟨?_, .inl ⟨⟨y, HME.out, HNP.out⟩, rfl⟩⟩
        repeat (first | (with_reducible refine Below.setCell ?_ (by (try simp); (try omega)) _) | (with_reducible refine Below.alloc ?_ (by (try simp); (try omega)) _) | (with_reducible refine Below.drew ?_))
        exact HBW.out _ HB1.out
    · have hlt' : ¬ (i : Int) < (roots.length : Int) := by omega
      obtain rfl : i = roots.length := by omega
      have HALL : Hid (∀ p ∈ roots, p ∈ placesO L) := Lib.hid (fun p hp => by
        obtain ⟨j, hj, rfl⟩ := List.getElem_of_mem hp
        rw [← lf_at hj]; exact HD.out j hj)
      have HSC : Hid (SC f L roots 0 (addNew [] roots)) := Lib.hid (sc_start HALL.out)
      have RS4 : Hid (RS wr mb rb mb v M f L (addNew [] roots)) := Lib.hid (by have := RS_r.out; rw [List.take_length] at this; exact this)
      clear HD RS_r
      have st0 := st_of_sc HSC.out
      have ST0 := Lib.hid st0
      clear hlt hlt' HSC HRS st0 hrn hi
      go_wp2
      go_step3
      go_wp2_with fail
      go_loopw [9, 10] (fun p q wr => ∃ (n i : Nat) (v : Value) (M : List GM) (O : List Int), p = .int .i64 (n : Int) ∧ q = .int .i64 (i : Int) ∧ n ≤ L.length ∧ i ≤ 12 ∧ Hid (Below mb W0 wr) ∧ Hid (RS wr mb rb mb v M f L O) ∧ Hid (ST f L roots n i O)) (fun p q _ => (L.length - (intOf p).toNat) * 14 + (13 - (intOf q).toNat))
      case atStart => exact ⟨0, 0, v, M, _, rfl, rfl, by omega, by omega, HB_r, RS4, ST0⟩
      case round =>
        clear HB_r RS4 ST0 hzr
        obtain ⟨n, i, v, M, O, rfl, rfl, hnl, hi12, HB_r, RS_r, STT⟩ := hrel
        have hzr : mb ≤ wr.heap.size := by have := RS_r.out.map.lt; omega
        have hml := Lib.hid RS_r.out.len
        have hol := ST.len STT.out
        have hB := RS_r.out.blk
        obtain ⟨av, kv, hv⟩ := rowG_val RS_r.out.row
        subst hv
        have lB := hB.1; have cB0 := hB.at 0 rfl; have cB1 := hB.at 1 rfl; have cB2 := hB.at 2 rfl
        clear hB
        rcases STT.out with ⟨hn, hi0, hsc⟩ | ⟨x, hix, hsi⟩
        · have hnm : n = M.length := by rw [hml.out]; exact hn
          subst hi0
          have HSC := Lib.hid hsc
          have R_r := Lib.hid (blk_under R0.out HB_r.out (by omega))
          have HE : Hid (reachO f L roots = O) := Lib.hid (sc_end hsc (by omega))
          obtain ⟨a', c', he, hg⟩ := rowG_GV RS_r.out.row (fun t ht => (RS_r.out.src t ht).1)
          have HGV := Lib.hid hg; have HEE := Lib.hid he
          clear hsc hg he hn
          subst hnm
          have lR := R_r.out.1; have cR0 := R_r.out.at 0 rfl; have fR0 := R_r.out.free 0 rfl; have cR1 := R_r.out.at 1 rfl; have fR1 := R_r.out.free 1 rfl; have cR2 := R_r.out.at 2 rfl; have fR2 := R_r.out.free 2 rfl
          go_wp2
          rw [Exit.noGoto_ret]
          refine bodyPost_ret (v := .agg #[.int .i64 0, .slice av M.length kv, .map (some mb)]) (by simp [results, Try.results88, go_sem, cR0, cR1, cR2]) rfl ?_
          have hRF := ((RS_r.out.set (p := ⟨w.heap.size, 0, none⟩) hmb (.int .i64 0)).set (p := ⟨w.heap.size, 1, none⟩) hmb (.slice av M.length kv)).set (p := ⟨w.heap.size, 2, none⟩) hmb (.map (some mb))
          have hBF : Below w.heap.size w (((wr.setCell ⟨w.heap.size, 0, none⟩ (.int .i64 0)).setCell ⟨w.heap.size, 1, none⟩ (.slice av M.length kv)).setCell ⟨w.heap.size, 2, none⟩ (.map (some mb))) := (((HBW.out _ HB_r.out).setCell (Nat.le_refl _) _).setCell (Nat.le_refl _) _).setCell (Nat.le_refl _) _
          exact ret_of_rs HALL.out HE.out hRF hBF
        · have hnO : n < O.length := hsi.lt
          have hnM : n < M.length := by rw [hml.out]; exact hnO
          have hnm : ¬ n = M.length := by omega
          have hnm' : ((n : Int) == (M.length : Int)) = false := by simp; omega
          have hn0 : (0 : Int) ≤ (n : Int) := by omega
          have hnI : (n : Int) < (M.length : Int) := by omega
          obtain ⟨a', c', he, hg⟩ := RS_r.out.out
          simp only [Value.slice.injEq] at he
          obtain ⟨rfl, -, rfl⟩ := he
          obtain ⟨gb, gq, rfl, gs⟩ : ∃ b q, av = some ⟨b, q, none⟩ ∧ GSrc wr b q M.length (gT M) := by
            rcases hg with h0 | h
            · omega
            · exact h
          have hMn : M[n]? = some M[n] := List.getElem?_eq_getElem hnM
          obtain ⟨x', hx', hsame⟩ := RS_r.out.same n M[n] hMn
          rw [hsi.at_] at hx'
          obtain rfl := Option.some.inj hx'
          have hsx := gs.six n hnM
          have hfx := gs.flds n hnM
          rw [gT_at hMn] at hsx hfx
          have hxL : x ∈ L := List.mem_of_find?_eq_some hsi.at_
          have hok := HSH.out.right.ok x hxL
          have hwd := HSH.out.word x hxL
          generalize M[n] = t at *
          obtain ⟨s0, s1, s2, s3, s4, s5⟩ := hsx
          have htn : t.n = x.s.toNat := hsame.2.2.2.2.2.1
          have htx : t.s = x.s ∧ t.m = x.m ∧ t.o = x.o ∧ t.h = x.h := ⟨hsame.2.1, hsame.2.2.1, hsame.2.2.2.1, hsame.2.2.2.2.1⟩
          have HSM := Lib.hid hsame; have HFX := Lib.hid hfx; have HOK := Lib.hid hok; have HWD := Lib.hid hwd; have HSI := Lib.hid hsi; have HTX := Lib.hid htx
          have hs12 : x.s.toNat ≤ 12 := by have := hok.1.1; omega
          have HTN := Lib.hid htn
          clear hsame hfx hok hwd hsi htx gs hg hMn hxL htn hml
          by_cases hie : i = t.n
          · have hie' : ((i : Int) == (t.n : Int)) = true := by simp; omega
            have STN := Lib.hid (st_of_sc (si_end HSI.out (by rw [← HTN.out, hie]; exact Nat.le_refl _)))
            go_wp2
            go_roundw
            case rel => first | exact ⟨n + 1, 0, _, M, O, by go_num, rfl, by omega, by omega, HB_r, RS_r, STN⟩ | ((repeat apply Exists.intro); exact ⟨⟨n + 1, 0, _, M, O, by go_num, rfl, by omega, by omega, HB_r, RS_r, STN⟩, rfl⟩)
            case measure => simp [intOf]; omega
          · have hie' : ((i : Int) == (t.n : Int)) = false := by simp; omega
            have hit : i < t.n := by have := HTN.out; omega
            have hkx : i < x.s.toNat := by have := HTN.out; omega
            have HTG := Lib.hid (tgt_eq HSM.out hkx)
            go_wp2_with fail
            clear s0 s1 s2 s3 s4 s5
            refine (target_any t i _ HFX.out hit (by rw [HTX.out.1, HTX.out.2.1, HTX.out.2.2.1, HTX.out.2.2.2]; exact HOK.out.1) (by rw [HTX.out.1]; exact HTN.out) (by rw [show t.f i = f (x.at_.toNat + 2 + i) from HSM.out.2.2.2.2.2.2 i hit]; exact HWD.out i hkx)).mono ?_
            rintro e w1 ⟨hb, rfl⟩
            have HB1 := Lib.hid (HB_r.out.trans (hb.mono hzr))
            have RS1 := Lib.hid (RS_r.out.below hb)
            have z1 := hb.size
            clear hb
            rw [HTG.out]
            by_cases hd : x.m / P2 (i : Int) % 2 = 1 ∧ ¬ f (x.at_.toNat + 2 + i) = 0
            · rw [if_pos hd]
              have hsy := si_yes HSH.out.right.points HSH.out.right.size HSI.out hkx hd.1 hd.2
              have hin := si_in HSH.out.right.points HSH.out.right.size HSI.out hkx hd.1 hd.2
              obtain ⟨y, hy⟩ : ∃ y, f (x.at_.toNat + 2 + i) - 1 = y := ⟨_, rfl⟩
              rw [hy] at hsy hin ⊢
              have HSY := Lib.hid hsy; have HIN := Lib.hid hin
              clear hsy hin hd hy
              simp only [Option.getD_some, Option.isSome_some]
              go_wp2_with fail
              refine (find_any _ L.length kc T y _ (HSH.out.below (HBW.out _ HB1.out)).gv (by omega) HSH.out.sort).mono ?_
              rintro e w2 ⟨hb, hr⟩
              have HB2 := Lib.hid (HB1.out.trans (hb.mono (by omega)))
              have RS2 := Lib.hid (RS1.out.below hb)
              have z2 := hb.size
              clear hb
              rcases hr with ⟨j, hj, hat, rfl⟩ | ⟨hn, rfl⟩
              case inr => exact absurd HIN.out (HSH.out.nope hn)
              obtain ⟨ho1, ho2, ho3⟩ := HSH.out.obj hj
              have HO := Lib.hid (And.intro ho1 (And.intro ho2 (And.intro ho3 (HSH.out.src hj))))
              have HAT := Lib.hid hat
              clear ho1 ho2 ho3 hat
              have hf7 := fld_obj7
              generalize T j = u at *
              go_wp2_with fail
              have hs2 := HO.out.2.2.2
              refine (add_any mb rb mb _ M f L O u L[j] _ RS2.out (by have := HO.out.2.2.1; omega) (by omega) HO.out.1 HO.out.2.1 (HO.out.2.2.2.below (HBW.out _ HB2.out)) (by rcases gm_lt hs2 with h0 | h0; exact .inl h0; exact .inr (by omega)) (by omega)).mono ?_
              rintro e w3 ⟨rfl, hb, hz, v', M', hrs⟩
              have HB3 := Lib.hid (HB2.out.trans hb)
              have RS3 : Hid (RS w3 mb rb mb v' M' f L (add1 O y)) := Lib.hid (by rw [← HAT.out]; exact hrs)
              have STN : Hid (ST f L roots n (i + 1) (add1 O y)) := Lib.hid (.inr ⟨x, by omega, HSY.out⟩)
              clear hb hrs hs2 HB2 RS2 HO hf7
              go_wp2
              go_roundw
              case rel => first | exact ⟨n, i + 1, v', M', _, rfl, by go_num, by omega, by omega, HB3, RS3, STN⟩ | ((repeat apply Exists.intro); exact ⟨⟨n, i + 1, v', M', _, rfl, by go_num, by omega, by omega, HB3, RS3, STN⟩, rfl⟩)
              case measure => simp [intOf]; omega
            · rw [if_neg hd]
              have STN : Hid (ST f L roots n (i + 1) O) := Lib.hid (.inr ⟨x, by omega, si_no HSI.out hkx hd⟩)
              simp only [Option.getD_none, Option.isSome_none]
              clear hd
              go_wp2
              go_roundw
              case rel => first | exact ⟨n, i + 1, _, M, O, rfl, by go_num, by omega, by omega, HB1, RS1, STN⟩ | ((repeat apply Exists.intro); exact ⟨⟨n, i + 1, _, M, O, rfl, by go_num, by omega, by omega, HB1, RS1, STN⟩, rfl⟩)
              case measure => simp [intOf]; omega
end Go.Proofs.Ytdgppcaeknbnjaa

namespace Go.Proofs.Ytdgppcaeknbnjaa
open Go.RowKit Go.Maps
set_option linter.unusedVariables false

theorem shaped_of {h : Int} {n : Nat} {f : Nat → Int} {ac bu : Int} {L : List Ob} {w : World} {a : Option Addr} {T : Nat → GM} (hk : IsSF h n f ac bu 0) (ho : IsOI h n f ac bu 0 L) (hg : GV w a L.length T) (hT : ∀ i, i < L.length → GSame (T i) (obT f L i)) : Shaped w a T f L := by
  obtain ⟨h4, h5⟩ := isOI_zero ho
  obtain ⟨⟨⟨g1, g2⟩, ⟨g3, g4⟩, g5, g6⟩, gn, gw⟩ := isFault_ok h4
  have hb := baseI_bd (ac := ac) g1
  have hPU : (baseI ac h).toNat + bu.toNat ≤ n := by
    have hb0 : 0 ≤ baseI ac h ∧ baseI ac h ≤ h ∧ baseI ac h + h ≤ 2 * h := by rcases (by omega : ac = 0 ∨ ac = 1) with rfl | rfl <;> simp [baseI] <;> omega
    omega
  have hok := parse_ok h5 hPU gw
  have hln := parse_length _ _ L (Nat.le_refl _) h5
  refine ⟨hg, hT, fun i j hij hj => sorted_T h5 hT i j hij hj, right_of hk ho, by omega, fun x hx => ?_, fun x hx => (hok x hx).2.2.2.2⟩
  have := (hok x hx).2.2.2.1
  omega

/-- A block that holds no more than a code, an empty row and no map. -/
def Dead (w : World) (R : Nat) : Prop := ∃ t fr, w.heap[R]? = some (.cells #[.int .i64 0, .slice none 0 0, .map none] t fr)

theorem dead_new {w : World} {t : TypeId} (R : Nat) (hR : R = w.heap.size) : Dead (w.alloc (.cells #[.int .i64 0, .slice none 0 0, .map none] t)) R := by
  subst hR
  exact ⟨t, _, (heap_alloc_new w _)⟩

theorem Dead.below {w w' : World} {R : Nat} (h : Dead w R) (hb : Below w.heap.size w w') : Dead w' R := by
  obtain ⟨t, fr, h1⟩ := h
  exact ⟨t, fr, (hb.block R (Array.getElem?_eq_some_iff.1 h1).1).trans h1⟩

def lain (w : World) (R : Nat) (x y : Value) : World := ((w.setCell ⟨R, 0, none⟩ (.int .i64 0)).setCell ⟨R, 1, none⟩ x).setCell ⟨R, 2, none⟩ y

theorem lain_block {w : World} {R b : Nat} {x y : Value} (h : b ≠ R) : (lain w R x y).heap[b]? = w.heap[b]? :=
  (Below.heap_setCell _ _ _ b h).trans ((Below.heap_setCell _ _ _ b h).trans (Below.heap_setCell _ _ _ b h))

theorem dead_cell {w : World} {R : Nat} (h : Dead w R) (o : Nat) : w.cell? ⟨R, o, none⟩ = (#[.int .i64 0, .slice none 0 0, .map none] : Array Value)[o]? := by
  obtain ⟨t, fr, h1⟩ := h
  exact cell_of_row w R o _ t fr h1

theorem dead_int {w : World} {R b o : Nat} {v : Int} (h : Dead w R) (hc : w.cell? ⟨b, o, none⟩ = some (.int .i64 v)) (x y : Value) : (lain w R x y).cell? ⟨b, o, none⟩ = some (.int .i64 v) := by
  by_cases e : b = R
  · subst e
    have h0 := dead_cell h o
    rw [hc] at h0
    match o, h0 with
    | 0, h0 =>
      have h9 : v = 0 := by simpa using h0
      subst h9
      have hc' : (w.setCell ⟨b, 0, none⟩ (.int .i64 0)).cell? ⟨b, 0, none⟩ = some (.int .i64 0) := by rw [World.cell?_setCell_same' _ _ _ (by rw [hc]; rfl)]
      unfold lain
      rw [World.cell?_setCell_other _ _ _ _ (by simp), World.cell?_setCell_other _ _ _ _ (by simp)]
      exact hc'
    | 1, h0 => simp at h0
    | 2, h0 => simp at h0
    | o + 3, h0 => simp at h0
  · exact (World.cell?_of_block (w := w) (a := ⟨b, o, none⟩) (lain_block e)).trans hc

theorem dead_src {w : World} {R : Nat} {a : Option Addr} {n : Nat} {f : Nat → Int} (h : Dead w R) (hs : Src w a n f) (x y : Value) : Src (lain w R x y) a n f := by
  rcases hs with h0 | ⟨b, o, e, hb, hc⟩
  · exact .inl h0
  · exact .inr ⟨b, o, e, by simpa [lain] using hb, fun i hi => dead_int h (hc i hi) x y⟩

theorem dead_gv {w : World} {R : Nat} {a : Option Addr} {N : Nat} {T : Nat → GM} (h : Dead w R) (hg : GV w a N T) (x y : Value) : GV (lain w R x y) a N T := by
  rcases hg with h0 | ⟨b, q, e, g⟩
  · exact .inl h0
  · rcases Nat.eq_zero_or_pos N with h0 | hp
    · exact .inl h0
    have hne : b ≠ R := fun e => by
      subst e
      have h0 := (g.six 0 hp).1
      have h1 := (g.six 0 hp).2.1
      rw [dead_cell h] at h0 h1
      match q, h0, h1 with
      | 0, h0, h1 => simp at h1
      | 1, h0, h1 => simp at h0
      | 2, h0, h1 => simp at h0
      | q + 3, h0, h1 => simp at h0
    exact .inr ⟨b, q, e, by have := g.lt; simpa [lain] using this, fun i hi => (g.six i hi).block (lain_block hne), fun i hi => dead_src h (g.flds i hi) x y⟩

theorem dead_map {w : World} {R mb n : Nat} {O : List Int} {v : Nat → Int} (h : Dead w R) (hm : MapT w mb n O v) (x y : Value) : MapT (lain w R x y) mb n O v := by
  refine hm.block (lain_block fun e => ?_)
  subst e
  obtain ⟨t, fr, h1⟩ := h
  obtain ⟨D, ⟨es, clock, h2, _⟩, _⟩ := hm
  rw [h1] at h2; cases h2

def RetIn (W : World) (f : Nat → Int) (roots : List Int) (co : Int) (L : List Ob) (e : Ending) (w' : World) : Prop :=
  Below W.heap.size W w' ∧ ((¬ co = 0 ∧ e = .returned (.agg #[.int .i64 co, .slice none 0 0, .map none])) ∨
    (co = 0 ∧ ∃ a c mb T, e = .returned (.agg #[.int .i64 0, .slice a (reachO f L roots).length c, .map (some mb)]) ∧ GV w' a (reachO f L roots).length T ∧ MapT w' mb (reachO f L roots).length (reachO f L roots) (fun i => (i : Int)) ∧ ∀ i, i < (reachO f L roots).length → ∃ x, findO L (lf (reachO f L roots) i) = some x ∧ GSame (T i) (obG f x)))

set_option maxRecDepth 100000 in
set_option maxHeartbeats 1600000 in
theorem reachIn_code (h ac bu : Int) (a : Option Addr) (n c : Nat) (f : Nat → Int) (ra : Option Addr) (roots : List Int) (rc : Nat) (co : Int) (L : List Ob) (w : World) (hs : Src w a n f) (hcn : n ≤ c) (hcm : c ≤ maxLen) (hrs : Src w ra roots.length (lf roots)) (hk : IsSF h n f ac bu co) (h0 : ¬ co = 0) :
    Calls Try.prog 51 #[.agg #[.int .i64 h, .slice a n c, .int .i64 ac, .int .i64 bu], .slice ra roots.length rc] w (RetIn w f roots co L) := by
  have HS := Lib.hid hs; have HK := Lib.hid hk; have HCM := Lib.hid hcm; have HRS := Lib.hid hrs
  clear hs hk hcm hrs
  go_enter Try.func51, Try.ntmps51
  go_wp2_with fail
  refine (shaped_any h ac bu a n c f _ ((HS.out.alloc _).alloc _) hcn HCM.out co [] (.inl ⟨HK.out, h0, rfl⟩)).mono ?_
  rintro e w1 ⟨a1, c1, T, rfl, hg, hT, hb, hc1, hc2⟩
  have HB1 := Lib.hid (thru2 (Below.refl _ _) hb)
  have R_1 := Lib.hid ((Blk.new_at (w := w.alloc (.cells #[.int .i64 h, .slice a n c, .int .i64 ac, .int .i64 bu] 26)) (cs := #[.int .i64 0, .slice none 0 0, .map none]) (t := 76) (w.heap.size + 1) (by simp)).below hb)
  have z1 : w.heap.size + 2 ≤ w1.heap.size := by have := hb.size; simp at this; omega
  have HG := Lib.hid hg; have HT := Lib.hid hT
  have HBb := Lib.hid hb
  clear hb hg hT hc1 hc2
  have hz := HB1.out.size
  have hd : (co != 0) = true := by simpa using h0
  have H0 := Lib.hid h0
  clear h0
  have lR := R_1.out.1; have cR0 := R_1.out.at 0 rfl; have fR0 := R_1.out.free 0 rfl; have cR1 := R_1.out.at 1 rfl; have fR1 := R_1.out.free 1 rfl; have cR2 := R_1.out.at 2 rfl; have fR2 := R_1.out.free 2 rfl
  go_wp2
  refine bodyPost_ret (v := .agg #[.int .i64 co, .slice none 0 0, .map none]) (by simp [results, Try.results51, go_sem, cR0, cR1, cR2, lR]) rfl ⟨?_, .inl ⟨H0.out, rfl⟩⟩
  repeat (first | (with_reducible refine Below.setCell ?_ (by (try simp); (try omega)) _) | (with_reducible refine Below.alloc ?_ (by (try simp); (try omega)) _) | (with_reducible refine Below.drew ?_))
  exact HB1.out

set_option maxRecDepth 100000 in
set_option maxHeartbeats 1600000 in
theorem reachIn_many (h ac bu : Int) (a : Option Addr) (n c : Nat) (f : Nat → Int) (ra : Option Addr) (roots : List Int) (rc : Nat) (co : Int) (L : List Ob) (w : World) (hs : Src w a n f) (hcn : n ≤ c) (hcm : c ≤ maxLen) (hrs : Src w ra roots.length (lf roots)) (hk : IsSF h n f ac bu 0) (L0 : List Ob) (ho : IsOI h n f ac bu 0 L0) (h0 : 60 < roots.length) :
    Calls Try.prog 51 #[.agg #[.int .i64 h, .slice a n c, .int .i64 ac, .int .i64 bu], .slice ra roots.length rc] w (RetIn w f roots 2 L) := by
  have HS := Lib.hid hs; have HK := Lib.hid hk; have HCM := Lib.hid hcm; have HRS := Lib.hid hrs
  clear hs hk hcm hrs
  go_enter Try.func51, Try.ntmps51
  go_wp2_with fail
  refine (shaped_any h ac bu a n c f _ ((HS.out.alloc _).alloc _) hcn HCM.out 0 L0 (.inr ⟨rfl, HK.out, ho⟩)).mono ?_
  rintro e w1 ⟨a1, c1, T, rfl, hg, hT, hb, hc1, hc2⟩
  have HB1 := Lib.hid (thru2 (Below.refl _ _) hb)
  have R_1 := Lib.hid ((Blk.new_at (w := w.alloc (.cells #[.int .i64 h, .slice a n c, .int .i64 ac, .int .i64 bu] 26)) (cs := #[.int .i64 0, .slice none 0 0, .map none]) (t := 76) (w.heap.size + 1) (by simp)).below hb)
  have z1 : w.heap.size + 2 ≤ w1.heap.size := by have := hb.size; simp at this; omega
  have HG := Lib.hid hg; have HT := Lib.hid hT
  have HBb := Lib.hid hb
  clear hb hg hT hc1 hc2
  have hz := HB1.out.size
  have hd : (60 : Int) < (roots.length : Int) := by omega
  clear h0 ho
  have lR := R_1.out.1; have cR0 := R_1.out.at 0 rfl; have fR0 := R_1.out.free 0 rfl; have cR1 := R_1.out.at 1 rfl; have fR1 := R_1.out.free 1 rfl; have cR2 := R_1.out.at 2 rfl; have fR2 := R_1.out.free 2 rfl
  go_wp2
  refine bodyPost_ret (v := .agg #[.int .i64 2, .slice none 0 0, .map none]) (by simp [results, Try.results51, go_sem, cR0, cR1, cR2, lR]) rfl ⟨?_, .inl ⟨by decide, rfl⟩⟩
  repeat (first | (with_reducible refine Below.setCell ?_ (by (try simp); (try omega)) _) | (with_reducible refine Below.alloc ?_ (by (try simp); (try omega)) _) | (with_reducible refine Below.drew ?_))
  exact HB1.out

set_option maxRecDepth 100000 in
set_option maxHeartbeats 1600000 in
theorem reachIn_rest (h ac bu : Int) (a : Option Addr) (n c : Nat) (f : Nat → Int) (ra : Option Addr) (roots : List Int) (rc : Nat) (co : Int) (L : List Ob) (w : World) (hs : Src w a n f) (hcn : n ≤ c) (hcm : c ≤ maxLen) (hrs : Src w ra roots.length (lf roots)) (hk : IsSF h n f ac bu 0) (ho : IsOI h n f ac bu 0 L) (h60 : roots.length ≤ 60) (hco : ((∃ p ∈ roots, p ∉ placesO L) ∧ co = 4) ∨ ((∀ p ∈ roots, p ∈ placesO L) ∧ co = 0)) :
    Calls Try.prog 51 #[.agg #[.int .i64 h, .slice a n c, .int .i64 ac, .int .i64 bu], .slice ra roots.length rc] w (RetIn w f roots co L) := by
  have HS := Lib.hid hs; have HK := Lib.hid hk; have HCM := Lib.hid hcm; have HRS := Lib.hid hrs
  have HO := Lib.hid ho; have HCO := Lib.hid hco
  clear hs hk hcm hrs ho hco
  go_enter Try.func51, Try.ntmps51
  go_wp2_with fail
  refine (shaped_any h ac bu a n c f _ ((HS.out.alloc _).alloc _) hcn HCM.out 0 L (.inr ⟨rfl, HK.out, HO.out⟩)).mono ?_
  rintro e w1 ⟨a1, c1, T, rfl, hg, hT, hb, hc1, hc2⟩
  have HB1 := Lib.hid (thru2 (Below.refl _ _) hb)
  have R_1 := Lib.hid ((Blk.new_at (w := w.alloc (.cells #[.int .i64 h, .slice a n c, .int .i64 ac, .int .i64 bu] 26)) (cs := #[.int .i64 0, .slice none 0 0, .map none]) (t := 76) (w.heap.size + 1) (by simp)).below hb)
  have z1 : w.heap.size + 2 ≤ w1.heap.size := by have := hb.size; simp at this; omega
  have HG := Lib.hid hg; have HT := Lib.hid hT
  have HBb := Lib.hid hb
  clear hb hg hT hc1 hc2
  have hz := HB1.out.size
  have hd : ¬ (60 : Int) < (roots.length : Int) := by omega
  have DE_1 := Lib.hid ((dead_new (w := w.alloc (.cells #[.int .i64 h, .slice a n c, .int .i64 ac, .int .i64 bu] 26)) (t := 76) (w.heap.size + 1) (by simp)).below HBb.out)
  have HSH := Lib.hid (shaped_of HK.out HO.out HG.out.src HT.out)
  clear HG HT
  go_wp2_with fail
  have HB2 := Lib.hid (HB1.out.alloc hz (.cells #[.int .i64 0, .slice a1 L.length c1] 37))
  have DE2 := Lib.hid (DE_1.out.below ((Below.refl _ _).alloc (Nat.le_refl _) (.cells #[.int .i64 0, .slice a1 L.length c1] 37)))
  have R_2 := Lib.hid (R_1.out.alloc (.cells #[.int .i64 0, .slice a1 L.length c1] 37))
  have SH2 := Lib.hid (HSH.out.below ((Below.refl _ _).alloc (Nat.le_refl _) (.cells #[.int .i64 0, .slice a1 L.length c1] 37)))
  have hz2 : w.heap.size + 2 ≤ (w1.alloc (.cells #[.int .i64 0, .slice a1 L.length c1] 37)).heap.size := by simp; omega
  clear HB1 R_1 HSH
  generalize w1.alloc (.cells #[.int .i64 0, .slice a1 L.length c1] 37) = w2 at *
  refine (reachOf_any a1 c1 T f L ra roots rc _ SH2.out (HRS.out.below HB2.out) h60).mono ?_
  rintro e w3 ⟨hb, hr⟩
  have HB3 := Lib.hid (thru0 HB2.out hb)
  have R_3 := Lib.hid (R_2.out.below hb)
  have DE3 := Lib.hid (DE2.out.below hb)
  have z3 := hb.size
  clear hb
  have lR := R_3.out.1; have cR0 := R_3.out.at 0 rfl; have fR0 := R_3.out.free 0 rfl; have cR1 := R_3.out.at 1 rfl; have fR1 := R_3.out.free 1 rfl; have cR2 := R_3.out.at 2 rfl; have fR2 := R_3.out.free 2 rfl
  rcases hr with ⟨hbad, rfl⟩ | ⟨hall, a3, c3, mb, U, rfl, hgv, hmp, hsm⟩
  · have hc4 : co = 4 := by
      rcases HCO.out with ⟨_, h4⟩ | ⟨hq, _⟩
      · exact h4
      · obtain ⟨p, hp, hq'⟩ := hbad; exact absurd (hq p hp) hq'
    subst hc4
    clear hbad
    go_wp2
    refine bodyPost_ret (v := .agg #[.int .i64 4, .slice none 0 0, .map none]) (by simp [results, Try.results51, go_sem, cR0, cR1, cR2]) rfl ⟨?_, .inl ⟨by decide, rfl⟩⟩
    repeat (first | (with_reducible refine Below.setCell ?_ (by (try simp); (try omega)) _) | (with_reducible refine Below.alloc ?_ (by (try simp); (try omega)) _) | (with_reducible refine Below.drew ?_))
    exact HB3.out
  · have hc0 : co = 0 := by
      rcases HCO.out with ⟨⟨p, hp, hq⟩, _⟩ | ⟨_, h0⟩
      · exact absurd (hall p hp) hq
      · exact h0
    subst hc0
    have HGV := Lib.hid hgv; have HMP := Lib.hid hmp; have HSM := Lib.hid hsm
    clear hall hgv hmp hsm
    go_wp2
    refine bodyPost_ret (v := .agg #[.int .i64 0, .slice a3 (reachO f L roots).length c3, .map (some mb)]) (by simp [results, Try.results51, go_sem, cR0, cR1, cR2]) rfl ⟨?_, .inr ⟨rfl, a3, c3, mb, U, rfl, dead_gv DE3.out HGV.out _ _, dead_map DE3.out HMP.out _ _, HSM.out⟩⟩
    repeat (first | (with_reducible refine Below.setCell ?_ (by (try simp); (try omega)) _) | (with_reducible refine Below.alloc ?_ (by (try simp); (try omega)) _) | (with_reducible refine Below.drew ?_))
    exact HB3.out
end Go.Proofs.Ytdgppcaeknbnjaa

namespace Go.Proofs.Ytdgppcaeknbnjaa
open Go.RowKit Go.Maps
set_option linter.unusedVariables false

theorem news1b (w : World) (x : Int) (B : Nat) (hB : B = w.heap.size) : ∀ (j : Nat) (u : Value), ([.int .i64 x] : List Value)[j]? = some u → (w.alloc (.cells #[.int .i64 x] 2)).cell? ((⟨B, 0, none⟩ : Addr).add j) = some u := hB ▸ news1 w x

theorem nums_succ (n : Nat) (f : Nat → Int) : nums (n + 1) f = nums n f ++ [.int .i64 (f n)] := by simp [nums, List.range_succ]

theorem gv_get {w : World} {a : Option Addr} {N : Nat} {T : Nat → GM} (h : GV w a N T) {i : Nat} (hi : i < N) : ∃ b q, a = some ⟨b, q, none⟩ ∧ b < w.heap.size ∧ SixG w b (q + i * 6) (T i) := by
  rcases h with h0 | ⟨b, q, e, g⟩
  · omega
  · exact ⟨b, q, e, g.lt, g.six i hi⟩

set_option maxRecDepth 100000 in
set_option maxHeartbeats 1600000 in
theorem places_any (a : Option Addr) (O : List Int) (c : Nat) (T : Nat → GM) (w : World) (hg : GV w a O.length T) (hl : O.length ≤ 1000000) (hO : ∀ i, i < O.length → (T i).at_ = lf O i) :
    Calls Try.prog 52 #[.slice a O.length c] w (RetInts w O.length (lf O)) := by
  have G := Lib.hid hg; have HO := Lib.hid hO
  obtain ⟨i0, hif, hz0, hz1, hz2⟩ := info_parts Try.info2
  clear hg hO
  go_enter Try.func52, Try.ntmps52
  go_wp2
  go_loopw [3, 8] (fun u p wr => ∃ i : Nat, i ≤ O.length ∧ p = .int .i64 (i : Int) ∧ Hid (Below w.heap.size w wr) ∧ Hid (wr.ownsRow w.heap.size 2 1 u i (nums i (lf O)))) (fun _ p _ => O.length - (intOf p).toNat)
  case atStart => exact ⟨0, Nat.zero_le _, rfl, Below.refl _ _, World.ownsRow_nil _ _ _ _⟩
  case round =>
    obtain ⟨i, hi, rfl, HB_r, OW_r⟩ := hrel
    have hzr := HB_r.out.size
    by_cases hlt : i < O.length
    · have hlt' : (i : Int) < (O.length : Int) := by omega
      have hi0 : (0 : Int) ≤ (i : Int) := by omega
      obtain ⟨b, q, rfl, lb, hsix⟩ := gv_get (G.out.below HB_r.out) hlt
      have HAT := Lib.hid (HO.out i hlt)
      have HAL : Hid (Below w.heap.size w (wr.alloc (.cells #[.int .i64 (T i).at_, .int .i64 (T i).s, .int .i64 (T i).m, .int .i64 (T i).o, .int .i64 (T i).h, .slice (T i).a (T i).n (T i).c] 44))) := Lib.hid (HB_r.out.alloc hzr _)
      have OWA := Lib.hid (OW_r.out.alloc (.cells #[.int .i64 (T i).at_, .int .i64 (T i).s, .int .i64 (T i).m, .int .i64 (T i).o, .int .i64 (T i).h, .slice (T i).a (T i).n (T i).c] 44))
      have HGE : Hid (∀ k, u3.ownBlock = some k → w.heap.size ≤ k) := Lib.hid (fun k hk => (OW_r.out.lt k hk).1)
      generalize T i = t at *
      obtain ⟨s0, s1, s2, s3, s4, s5⟩ := hsix
      go_wp2_with (at_builtin; go_loud (refine wpList_append_lies _ rfl _ _ 24 rfl w.heap.size 2 i0 (.int .i64 0) 1 8 Try.underlying24 hif hz0 hz1 hz2 rfl (by decide) u3 i (nums i (lf O)) rfl (OWA.out.alloc _) ⟨wr.heap.size + 1, 0, none⟩ 1 1 [.int .i64 t.at_] rfl rfl (news1b (wr.alloc (.cells #[.int .i64 t.at_, .int .i64 t.s, .int .i64 t.m, .int .i64 t.o, .int .i64 t.h, .slice t.a t.n t.c] 44)) t.at_ (wr.heap.size + 1) (by simp)) (by intro u hu; simp only [List.mem_cons, List.mem_nil_iff, or_false] at hu; subst hu; rfl) (by omega) (by unfold maxLen; omega) (by omega) (by simp; omega) (wr.heap.size + 1 + 1) (by simp) ?_); intro g9 cap9 w9 hown9 hgrow9 hat9 hlt9)
      have HB9 : Hid (Below w.heap.size w w9) := (HAL.out.alloc (by simp; omega) _).grown hgrow9 (by simp; omega) (fun k hk => HGE.out k hk)
      have OW9 : Hid (w9.ownsRow w.heap.size 2 1 (.slice (some ⟨g9, 0, none⟩) (i + 1) cap9) (i + 1) (nums (i + 1) (lf O))) := Lib.hid (by rw [nums_succ, ← HAT.out]; exact hown9)
      clear hown9 hgrow9 hat9 s0 s1 s2 s3 s4 s5
      go_wp2
      go_roundw
      case rel => first | exact ⟨i + 1, by omega, by go_num, HB9, OW9⟩ | ((repeat apply Exists.intro); exact ⟨⟨i + 1, by omega, by go_num, HB9, OW9⟩, rfl⟩)
      case measure => simp [intOf]; omega
    · have hlt' : ¬ (i : Int) < (O.length : Int) := by omega
      obtain rfl : i = O.length := by omega
      have HRet := Lib.hid (retInts_of_row OW_r.out HB_r.out)
      go_wp2
      go_ret
      exact HRet.out
end Go.Proofs.Ytdgppcaeknbnjaa

namespace Go.Proofs.Ytdgppcaeknbnjaa
open Go.RowKit Go.Maps
set_option linter.unusedVariables false

theorem reachIn_any (h ac bu : Int) (a : Option Addr) (n c : Nat) (f : Nat → Int) (ra : Option Addr) (roots : List Int) (rc : Nat) (co : Int) (L : List Ob) (w : World) (hs : Src w a n f) (hcn : n ≤ c) (hcm : c ≤ maxLen) (hrs : Src w ra roots.length (lf roots)) (hk : IsAsk h n f ac bu roots co L) :
    Calls Try.prog 51 #[.agg #[.int .i64 h, .slice a n c, .int .i64 ac, .int .i64 bu], .slice ra roots.length rc] w (RetIn w f roots co L) := by
  rcases hk with ⟨h1, h2⟩ | ⟨h1, h2, rfl⟩ | ⟨h1, h2, h3, h4, rfl⟩ | ⟨h1, h2, h3, h4, rfl⟩
  · exact reachIn_code h ac bu a n c f ra roots rc co L w hs hcn hcm hrs h1 h2
  · obtain ⟨L0, hL0⟩ := isSF_zero h1
    exact reachIn_many h ac bu a n c f ra roots rc 2 L w hs hcn hcm hrs h1 L0 hL0 h2
  · exact reachIn_rest h ac bu a n c f ra roots rc 4 L w hs hcn hcm hrs h1 h2 h3 (.inl ⟨h4, rfl⟩)
  · exact reachIn_rest h ac bu a n c f ra roots rc 0 L w hs hcn hcm hrs h1 h2 h3 (.inr ⟨h4, rfl⟩)

theorem two3 {w : World} {b : Nat} {v0 v1 v2 : Value} (h : Blk w b [v0, v1, v2]) : w.cell? ⟨b, 0, none⟩ = some v0 ∧ w.cell? ⟨b, 1, none⟩ = some v1 := ⟨h.at 0 rfl, h.at 1 rfl⟩

set_option maxRecDepth 100000 in
set_option maxHeartbeats 3200000 in
theorem implRF_any (h ac bu : Int) (a : Option Addr) (n c : Nat) (f : Nat → Int) (ra : Option Addr) (roots : List Int) (rc : Nat) (co : Int) (L : List Ob) (w : World) (hs : Src w a n f) (hcn : n ≤ c) (hcm : c ≤ maxLen) (hrs : Src w ra roots.length (lf roots)) (hk : IsAsk h n f ac bu roots co L) :
    Calls Try.prog 13 #[.agg #[.int .i64 h, .slice a n c, .int .i64 ac, .int .i64 bu], .slice ra roots.length rc] w (RetIR w co (outR f L roots co).length (lf (outR f L roots co))) := by
  have HS := Lib.hid hs; have HK := Lib.hid hk; have HCM := Lib.hid hcm; have HRS := Lib.hid hrs
  clear hs hk hcm hrs
  go_enter Try.func13, Try.ntmps13
  go_wp2_with fail
  refine (reachIn_any h ac bu a n c f ra roots rc co L _ ((HS.out.alloc _).alloc _) hcn HCM.out ((HRS.out.alloc _).alloc _) HK.out).mono ?_
  rintro e w1 ⟨hb, hr⟩
  have HB1 := Lib.hid (thru2 (Below.refl _ _) hb)
  have R_1 := Lib.hid ((Blk.new_at (w := w.alloc (.cells #[.int .i64 h, .slice a n c, .int .i64 ac, .int .i64 bu] 26)) (cs := #[.int .i64 0, .slice none 0 0]) (t := 30) (w.heap.size + 1) (by simp)).below hb)
  have z1 : w.heap.size + 2 ≤ w1.heap.size := by have := hb.size; simp at this; omega
  clear hb
  have hz := HB1.out.size
  rcases hr with ⟨h0, rfl⟩ | ⟨rfl, a1, c1, mb, T, rfl, hg, hm, hsm⟩
  · have HE := Lib.hid (outR_no f L roots h0)
    clear h0
    have HB2 := Lib.hid (HB1.out.alloc hz (.cells #[.int .i64 co, .slice none 0 0, .map none] 76))
    have R_2 := Lib.hid (R_1.out.alloc (.cells #[.int .i64 co, .slice none 0 0, .map none] 76))
    have X_2 := Lib.hid (Blk.new_at (w := w1) (cs := #[.int .i64 co, .slice none 0 0, .map none]) (t := 76) w1.heap.size rfl)
    have hz2 : w1.heap.size + 1 = (w1.alloc (.cells #[.int .i64 co, .slice none 0 0, .map none] 76)).heap.size := by simp
    go_wp2_with fail
    clear HB1 R_1 hz
    generalize w1.alloc (.cells #[.int .i64 co, .slice none 0 0, .map none] 76) = w2 at *
    have X_d := Lib.hid X_2.out.drew; have R_d := Lib.hid R_2.out.drew; have HB_d := Lib.hid HB2.out.drew
    have hz2' : w1.heap.size + 1 = w2.drew.heap.size := by simpa using hz2
    skip
    have lR := R_d.out.1; have cR0 := R_d.out.at 0 rfl; have fR0 := R_d.out.free 0 rfl; have cR1 := R_d.out.at 1 rfl; have fR1 := R_d.out.free 1 rfl
    clear lR cR0 fR0 cR1 fR1
    go_region_held3 (fun w' => w'.cell? ⟨w1.heap.size, 0, none⟩ = some (.int .i64 co) ∧ w'.cell? ⟨w1.heap.size, 1, none⟩ = some (.slice none 0 0))
      (first | (with_reducible exact two3 X_2.out) | (with_reducible exact two3 X_d.out) | (with_reducible exact two3 X_3.out) | (exact two3 ((X_3.out.other (by (try simp); (try omega)) _).other (by (try simp); (try omega)) _)))
      (first | (go_at_call 52; (refine (places_any none [] 0 (fun _ => gzero) _ (.inl rfl) (by simp) (fun i hi => (by simp at hi))).mono ?_; rintro e w3 ⟨a3, c3, rfl, ho3, hb, h31, h32, h33⟩; have HB3 := Lib.hid (thru0 HB_d.out hb); have X_3 := Lib.hid (X_d.out.below hb); have R_3 := Lib.hid (R_d.out.below hb); have HO3 := Lib.hid ho3; have z3 := hb.size; clear hb ho3 h31 h32 h33; have lR := R_3.out.1; have cR0 := R_3.out.at 0 rfl; have fR0 := R_3.out.free 0 rfl; have cR1 := R_3.out.at 1 rfl; have fR1 := R_3.out.free 1 rfl)))
    have hz3 := HB3.out.size
    go_wp2
    refine bodyPost_ret (v := .agg #[.int .i64 co, .slice a3 ([] : List Int).length c3]) (by simp [results, Try.results13, go_sem, cR0, cR1]) rfl ?_
    rw [HE.out]
    refine ⟨a3, c3, rfl, .inl rfl, ?_⟩
    repeat (first | (with_reducible refine Below.setCell ?_ (by (try simp); (try omega)) _) | (with_reducible refine Below.alloc ?_ (by (try simp); (try omega)) _) | (with_reducible refine Below.drew ?_))
    exact HB3.out
  · have HKZ := Lib.hid (isAsk_zero HK.out)
    have HRI := Lib.hid (right_of HKZ.out.1 HKZ.out.2.1)
    have hrl : (reachO f L roots).length ≤ 1000000 := by
      have h9 := reachO_length HRI.out.points HRI.out.size HKZ.out.2.2.2
      have := (shaped_of (w := w1) (a := none) (T := obT f L) HKZ.out.1 HKZ.out.2.1)
      have h8 := isOI_small HKZ.out.2.1
      omega
    have HPL := Lib.hid (fun i hi => (by obtain ⟨x, hx, hs⟩ := hsm i hi; rw [hs.1]; show x.at_ = _; have := List.find?_some hx; simpa using this : (T i).at_ = lf (reachO f L roots) i))
    have HG := Lib.hid hg
    clear hg hm hsm
    have HB2 := Lib.hid (HB1.out.alloc hz (.cells #[.int .i64 0, .slice a1 (reachO f L roots).length c1, .map (some mb)] 76))
    have R_2 := Lib.hid (R_1.out.alloc (.cells #[.int .i64 0, .slice a1 (reachO f L roots).length c1, .map (some mb)] 76))
    have X_2 := Lib.hid (Blk.new_at (w := w1) (cs := #[.int .i64 0, .slice a1 (reachO f L roots).length c1, .map (some mb)]) (t := 76) w1.heap.size rfl)
    have hz2 : w1.heap.size + 1 = (w1.alloc (.cells #[.int .i64 0, .slice a1 (reachO f L roots).length c1, .map (some mb)] 76)).heap.size := by simp
    have HW12 := Lib.hid ((Below.refl w1.heap.size w1).alloc (Nat.le_refl _) (.cells #[.int .i64 0, .slice a1 (reachO f L roots).length c1, .map (some mb)] 76))
    go_wp2_with fail
    clear HB1 R_1 hz
    generalize w1.alloc (.cells #[.int .i64 0, .slice a1 (reachO f L roots).length c1, .map (some mb)] 76) = w2 at *
    have X_d := Lib.hid X_2.out.drew; have R_d := Lib.hid R_2.out.drew; have HB_d := Lib.hid HB2.out.drew
    have hz2' : w1.heap.size + 1 = w2.drew.heap.size := by simpa using hz2
    have HG2 := Lib.hid ((HG.out.below (show Below w1.heap.size w1 w2 from HW12.out)).drew)
    have lR := R_d.out.1; have cR0 := R_d.out.at 0 rfl; have fR0 := R_d.out.free 0 rfl; have cR1 := R_d.out.at 1 rfl; have fR1 := R_d.out.free 1 rfl
    clear lR cR0 fR0 cR1 fR1
    go_region_held3 (fun w' => w'.cell? ⟨w1.heap.size, 0, none⟩ = some (.int .i64 0) ∧ w'.cell? ⟨w1.heap.size, 1, none⟩ = some (.slice a1 (reachO f L roots).length c1))
      (first | (with_reducible exact two3 X_2.out) | (with_reducible exact two3 X_d.out) | (with_reducible exact two3 X_3.out) | (exact two3 ((X_3.out.other (by (try simp); (try omega)) _).other (by (try simp); (try omega)) _)))
      (first | (go_at_call 52; (refine (places_any a1 (reachO f L roots) c1 T _ HG2.out hrl HPL.out).mono ?_; rintro e w3 ⟨a3, c3, rfl, ho3, hb, h31, h32, h33⟩; have HB3 := Lib.hid (thru0 HB_d.out hb); have X_3 := Lib.hid (X_d.out.below hb); have R_3 := Lib.hid (R_d.out.below hb); have HO3 := Lib.hid ho3; have z3 := hb.size; clear hb ho3 h31 h32 h33; have lR := R_3.out.1; have cR0 := R_3.out.at 0 rfl; have fR0 := R_3.out.free 0 rfl; have cR1 := R_3.out.at 1 rfl; have fR1 := R_3.out.free 1 rfl)))
    have hz3 := HB3.out.size
    go_wp2
    refine bodyPost_ret (v := .agg #[.int .i64 0, .slice a3 (reachO f L roots).length c3]) (by simp [results, Try.results13, go_sem, cR0, cR1]) rfl ?_
    rw [outR_zero]
    refine ⟨a3, c3, rfl, ?_, ?_⟩
    · refine Own.mono (B := w2.drew.heap.size) ?_ (by have := HB_d.out.size; exact this)
      repeat (first | (with_reducible refine Own.setCell ?_ (by (try simp); (try omega)) _) | (with_reducible refine Own.alloc ?_ _) | (with_reducible refine Own.drew ?_))
      exact HO3.out
    · repeat (first | (with_reducible refine Below.setCell ?_ (by (try simp); (try omega)) _) | (with_reducible refine Below.alloc ?_ (by (try simp); (try omega)) _) | (with_reducible refine Below.drew ?_))
      exact HB3.out
end Go.Proofs.Ytdgppcaeknbnjaa

namespace Go.Proofs.Ytdgppcaeknbnjaa
open Go.RowKit Go.Maps
set_option linter.unusedVariables false

theorem src_list {w : World} {a : Option Addr} {n : Nat} {f : Nat → Int} (h : Src w a n f) : ∃ l : List Int, l.length = n ∧ Src w a l.length (lf l) := by
  refine ⟨(List.range n).map f, by simp, ?_⟩
  rw [show ((List.range n).map f).length = n by simp]
  refine h.congr fun i hi => ?_
  unfold lf
  rw [List.getD_eq_getElem?_getD]
  simp [hi]

theorem reach_small {h : Int} {n : Nat} {f : Nat → Int} {ac bu : Int} {roots : List Int} {co : Int} {L : List Ob} (hk : IsAsk h n f ac bu roots co L) : (outR f L roots co).length ≤ 400 ∧ (outG f L roots co).length ≤ 400 := by
  by_cases h0 : co = 0
  · subst h0
    obtain ⟨h1, h2, h3, h4⟩ := isAsk_zero hk
    have hri := right_of h1 h2
    have h9 := reachO_length hri.points hri.size h4
    have h8 := isOI_small h2
    refine ⟨by rw [outR_zero]; omega, ?_⟩
    unfold outG
    rw [if_pos rfl]
    have := List.length_filter_le (fun p => decide (p ∉ reachO f L roots)) (placesO L)
    simp [placesO] at this ⊢
    omega
  · rw [outR_no f L roots h0, outG_no f L roots h0]; simp

/-- What model and program answer to the same arena and roots: a code and a list. -/
def Both (sp im : Nat) (h : Int) (n : Nat) (f : Nat → Int) (ac bu : Int) (roots : List Int) (co : Int) (n1 : Nat) (f1 : Nat → Int) : Prop :=
  n1 ≤ 1048576 ∧ (∀ (a : Option Addr) (c : Nat) (ra : Option Addr) (rc : Nat) (w : World), Src w a n f → n ≤ c → c ≤ maxLen → Src w ra roots.length (lf roots) → Calls Try.prog sp #[.agg #[.int .i64 h, .slice a n c, .int .i64 ac, .int .i64 bu], .slice ra roots.length rc] w (RetIR w co n1 f1)) ∧
  (∀ (a : Option Addr) (c : Nat) (ra : Option Addr) (rc : Nat) (w : World), Src w a n f → n ≤ c → c ≤ maxLen → Src w ra roots.length (lf roots) → Calls Try.prog im #[.agg #[.int .i64 h, .slice a n c, .int .i64 ac, .int .i64 bu], .slice ra roots.length rc] w (RetIR w co n1 f1))

set_option maxRecDepth 100000 in
set_option maxHeartbeats 400000 in
theorem markInts_big (a : Option Addr) (n c lo hi : Nat) (f : Nat → Int) (k : Int) (w : World) (ho : OwnIn w lo hi a n f) (hn : n ≤ 1048576) (hk0 : 0 ≤ k) (hk1 : k ≤ 4194304) :
    Calls Try.prog 37 #[.slice a n c, .int .i64 k] w (RetMark w lo hi a n k) := by
  have HO := Lib.hid ho
  clear ho
  go_enter Try.func37, Try.ntmps37
  go_wp2
  go_loopw [1, 5] (fun q p wr => ∃ i : Nat, i ≤ n ∧ p = .int .i64 i ∧ q = .int .i64 (k + i) ∧ Hid (Keeps w wr lo hi) ∧ Hid (OwnIn wr lo hi a n (fun j => if j < i then k + j else f j))) (fun _ p _ => n - (intOf p).toNat)
  case atStart => exact ⟨0, Nat.zero_le _, rfl, by simp, Keeps.refl _ _ _, by simpa using HO⟩
  case round =>
    obtain ⟨i, hi', rfl, rfl, HK, HR⟩ := hrel
    by_cases hlt : i < n
    · obtain ⟨b, off, rfl, hb, hc⟩ := src_some HR.out.src (by omega)
      have c1 := hc i hlt
      have hfz : wr.frozen? ⟨b, off + i, none⟩ = false := by
        rcases HR.out with h | ⟨b', off', h1, _, _, h4⟩
        · omega
        · simp only [Option.some.injEq, Addr.mk.injEq, and_true] at h1
          obtain ⟨rfl, rfl⟩ := h1
          exact (h4 i hlt).2
      have hst := Lib.hid (HR.out.stored i hlt (k + i))
      have hlt' : (i : Int) < (n : Int) := by omega
      clear hc
      go_wp2
      go_roundw
      case rel =>
        refine ⟨i + 1, by omega, by go_num, by go_num, HK.out.trans hst.out.2, hst.out.1.congr fun j hj => ?_⟩
        by_cases h1 : j = i
        · subst h1; simp
        · have h2 : (j < i + 1) = (j < i) := by simp only [eq_iff_iff]; omega
          simp only [h1, if_false, h2]
      case measure => simp [intOf]; omega
    · go_wp2
      go_ret
      obtain rfl : i = n := by omega
      exact ⟨rfl, HR.out.congr fun j hj => by simp [hj], HK.out⟩

theorem both_rf (h : Int) (n : Nat) (f : Nat → Int) (ac bu : Int) (roots : List Int) : ∃ co n1 f1, Both 16 13 h n f ac bu roots co n1 f1 := by
  obtain ⟨co, L, hk⟩ := isAsk_some h n f ac bu roots
  have hsm := (reach_small hk).1
  exact ⟨co, _, _, by omega, fun a c ra rc w h1 h2 h3 h4 => specRF_any h ac bu a n c f ra roots rc co L w h1 h2 h3 h4 hk, fun a c ra rc w h1 h2 h3 h4 => implRF_any h ac bu a n c f ra roots rc co L w h1 h2 h3 h4 hk⟩

set_option maxRecDepth 100000 in
set_option maxHeartbeats 800000 in
theorem e6_farA (h ac bu : Int) (a : Option Addr) (n c : Nat) (f : Nat → Int) (ra : Option Addr) (roots : List Int) (rc : Nat) (w : World) (hn : n ≤ maxLen) (hbig : 1048576 < n) (hrb : roots.length ≤ 1048576) :
    Calls Try.prog 6 #[.agg #[.int .i64 h, .slice a n c, .int .i64 ac, .int .i64 bu], .slice ra roots.length rc] w (RetBool w true) := by
  have hrd : ¬ (1048576 : Int) < (roots.length : Int) := by omega
  go_enter Try.func6, Try.ntmps6
  go_wp2_with (go_at_call 30; (with_reducible refine (szArena_no _ _ _ _ _ _ _ _ (by omega) (by omega) hn (by omega)).mono ?_); rintro e w1 ⟨rfl, hb⟩; obtain ⟨hc, hf⟩ := bcell hb; have HB := Lib.hid hb; have hz := hb.size; clear hb)
  go_ret
  exact ⟨rfl, ((Below.refl _ _).alloc (Nat.le_refl _) _).trans (HB.out.mono (by simp; try omega))⟩

set_option maxRecDepth 100000 in
set_option maxHeartbeats 400000 in
theorem e6_farR (h ac bu : Int) (a : Option Addr) (n c : Nat) (f : Nat → Int) (ra : Option Addr) (roots : List Int) (rc : Nat) (w : World) (hrb : 1048576 < roots.length) :
    Calls Try.prog 6 #[.agg #[.int .i64 h, .slice a n c, .int .i64 ac, .int .i64 bu], .slice ra roots.length rc] w (RetBool w true) := by
  have hrd : (1048576 : Int) < (roots.length : Int) := by omega
  go_enter Try.func6, Try.ntmps6
  go_wp2
  go_ret
  exact ⟨rfl, (Below.refl _ _).alloc (Nat.le_refl _) _⟩

set_option maxRecDepth 100000 in
set_option maxHeartbeats 6400000 in
theorem e6_near (h ac bu : Int) (a : Option Addr) (n c : Nat) (f : Nat → Int) (ra : Option Addr) (roots : List Int) (rc : Nat) (w : World) (hs : Src w a n f) (hq : Src w ra roots.length (lf roots)) (hbig : n ≤ 1048576) (hrb : roots.length ≤ 1048576) :
    Calls Try.prog 6 #[.agg #[.int .i64 h, .slice a n c, .int .i64 ac, .int .i64 bu], .slice ra roots.length rc] w (RetBool w true) := by
  obtain ⟨co, n1, f1, hbo⟩ := both_rf h n f ac bu roots
  have hn1 : n1 ≤ 1048576 := hbo.1
  have HSP := Lib.hid hbo.2.1; have HIM := Lib.hid hbo.2.2
  have hrd : ¬ (1048576 : Int) < (roots.length : Int) := by omega
  clear hbo
  have HS := Lib.hid hs
  have HQ := Lib.hid hq
  clear hs hq
  have HS0 := HS; have HQ0 := HQ
  go_enter Try.func6, Try.ntmps6
  go_wp2_with fail
  refine (szArena_ok _ _ _ _ _ _ _ _ (by omega) (by omega) (by unfold maxLen; omega) (by omega)).mono ?_
  rintro e w1 ⟨rfl, hb⟩
  have HB1 : Hid (Below w.heap.size w w1) := thru1 (Below.refl _ _) hb
  have z1 : w.heap.size + 1 ≤ w1.heap.size := by have := hb.size; simp at this; omega
  have HS_1 := Lib.hid ((HS.out.alloc _).below hb)
  have HQ_1 := Lib.hid ((HQ.out.alloc _).below hb)
  have A_1 := Lib.hid ((Blk.new_at (w.heap.size) (by simp)).below hb)
  clear hb HS HQ
  have lA := A_1.out.1
  have cA0 := A_1.out.at 0 rfl
  have cA1 := A_1.out.at 1 rfl
  have cA2 := A_1.out.at 2 rfl
  have cA3 := A_1.out.at 3 rfl
  go_wp2_with fail
  refine (toArena_any _ _ _ _ _ _ f _ HS_1.out hbig).mono ?_
  rintro e w2 ⟨u2, c2, rfl, ho, hb, hc2, hcm2, hn2⟩
  have HB2 : Hid (Below w.heap.size w w2) := thru0 HB1.out hb
  have z2 : w1.heap.size ≤ w2.heap.size := hb.size
  have HS_2 := Lib.hid (HS_1.out.below hb)
  have HQ_2 := Lib.hid (HQ_1.out.below hb)
  have A_2 := Lib.hid (A_1.out.below hb)
  have RA_2 : Hid (OwnIn w2 (w1.heap.size) w2.heap.size u2 n f) := ho.into
  clear hb lA cA0 cA1 cA2 cA3 HS_1 HQ_1 A_1 HB1 ho
  go_wp2_with fail
  refine (toInts_any _ _ _ (lf roots) _ HQ_2.out hrb).mono ?_
  rintro e w3 ⟨u3, c3, rfl, ho, hb, hc3, hcm3, hn3⟩
  have HB3 : Hid (Below w.heap.size w w3) := thru0 HB2.out hb
  have z3 : w2.heap.size ≤ w3.heap.size := hb.size
  have HS_3 := Lib.hid (HS_2.out.below hb)
  have HQ_3 := Lib.hid (HQ_2.out.below hb)
  have A_3 := Lib.hid (A_2.out.below hb)
  have RA_3 := Lib.hid (RA_2.out.below hb)
  have QA_3 : Hid (OwnIn w3 (w2.heap.size) w3.heap.size u3 roots.length (lf roots)) := ho.into
  clear hb HS_2 HQ_2 A_2 RA_2 HB2 ho
  go_wp2_with fail
  refine (HSP.out _ _ _ _ _ RA_3.out.src hc2 hcm2 QA_3.out.src).mono ?_
  rintro e w4 ⟨u4, c4, rfl, ho, hb⟩
  have HB4 : Hid (Below w.heap.size w w4) := thru0 HB3.out hb
  have z4 : w3.heap.size ≤ w4.heap.size := hb.size
  have HS_4 := Lib.hid (HS_3.out.below hb)
  have HQ_4 := Lib.hid (HQ_3.out.below hb)
  have A_4 := Lib.hid (A_3.out.below hb)
  have RA_4 := Lib.hid (RA_3.out.below hb)
  have QA_4 := Lib.hid (QA_3.out.below hb)
  have RW_4 : Hid (OwnIn w4 (w3.heap.size) w4.heap.size u4 n1 f1) := ho.into
  clear hb HS_3 HQ_3 A_3 RA_3 QA_3 HB3 ho
  clear RA_4 QA_4
  have lA := A_4.out.1
  have cA0 := A_4.out.at 0 rfl
  have cA1 := A_4.out.at 1 rfl
  have cA2 := A_4.out.at 2 rfl
  have cA3 := A_4.out.at 3 rfl
  go_wp2_with fail
  refine (toArena_any _ _ _ _ _ _ f _ (HS_4.out.alloc _) hbig).mono ?_
  rintro e w5 ⟨u5, c5, rfl, ho, hb, hc5, hcm5, hn5⟩
  have HB5 : Hid (Below w.heap.size w w5) := thru1 HB4.out hb
  have z5 : w4.heap.size + 1 ≤ w5.heap.size := by have := hb.size; simp at this; omega
  have HS_5 := Lib.hid ((HS_4.out.alloc _).below hb)
  have HQ_5 := Lib.hid ((HQ_4.out.alloc _).below hb)
  have A_5 := Lib.hid ((A_4.out.alloc _).below hb)
  have RW_5 := Lib.hid ((RW_4.out.alloc _).below hb)
  have W_5 := Lib.hid ((Blk.new_at (w4.heap.size) (by simp)).below hb)
  have RX_5 : Hid (OwnIn w5 (w4.heap.size + 1) w5.heap.size u5 n f) := (ho.mono (by simp)).into
  clear hb lA cA0 cA1 cA2 cA3 HS_4 HQ_4 A_4 RW_4 HB4 ho
  go_wp2_with fail
  refine (toInts_any _ _ _ (lf roots) _ (HQ_5.out.alloc _) hrb).mono ?_
  rintro e w6 ⟨u6, c6, rfl, ho, hb, hc6, hcm6, hn6⟩
  have HB6 : Hid (Below w.heap.size w w6) := thru1 HB5.out hb
  have z6 : w5.heap.size + 1 ≤ w6.heap.size := by have := hb.size; simp at this; omega
  have HS_6 := Lib.hid ((HS_5.out.alloc _).below hb)
  have HQ_6 := Lib.hid ((HQ_5.out.alloc _).below hb)
  have A_6 := Lib.hid ((A_5.out.alloc _).below hb)
  have RW_6 := Lib.hid ((RW_5.out.alloc _).below hb)
  have W_6 := Lib.hid ((W_5.out.alloc _).below hb)
  have RX_6 := Lib.hid ((RX_5.out.alloc _).below hb)
  have X_6 := Lib.hid ((Blk.new_at (w5.heap.size) (by simp)).below hb)
  have RQ_6 : Hid (OwnIn w6 (w5.heap.size + 1) w6.heap.size u6 roots.length (lf roots)) := (ho.mono (by simp)).into
  clear hb HS_5 HQ_5 A_5 RW_5 W_5 RX_5 HB5 ho
  have lX := X_6.out.1
  have cX0 := X_6.out.at 0 rfl
  have cX1 := X_6.out.at 1 rfl
  have cX2 := X_6.out.at 2 rfl
  have cX3 := X_6.out.at 3 rfl
  go_wp2_with fail
  refine (HIM.out _ _ _ _ _ RX_6.out.src hc5 hcm5 RQ_6.out.src).mono ?_
  rintro e w7 ⟨u7, c7, rfl, ho, hb⟩
  have HB7 : Hid (Below w.heap.size w w7) := thru0 HB6.out hb
  have z7 : w6.heap.size ≤ w7.heap.size := hb.size
  have HS_7 := Lib.hid (HS_6.out.below hb)
  have HQ_7 := Lib.hid (HQ_6.out.below hb)
  have A_7 := Lib.hid (A_6.out.below hb)
  have RW_7 := Lib.hid (RW_6.out.below hb)
  have W_7 := Lib.hid (W_6.out.below hb)
  have RX_7 := Lib.hid (RX_6.out.below hb)
  have X_7 := Lib.hid (X_6.out.below hb)
  have RQ_7 := Lib.hid (RQ_6.out.below hb)
  have RG_7 : Hid (OwnIn w7 (w6.heap.size) w7.heap.size u7 n1 f1) := ho.into
  clear hb lX cX0 cX1 cX2 cX3 HS_6 HQ_6 A_6 RW_6 W_6 RX_6 X_6 RQ_6 HB6 ho
  have lW := W_7.out.1
  have cW0 := W_7.out.at 0 rfl
  have cW1 := W_7.out.at 1 rfl
  go_wp2_with fail
  refine (eqIR_same _ _ _ _ _ _ f1 f1 _ (RG_7.out.alloc _).src (RW_7.out.alloc _).src hn1 (fun _ _ => rfl)).mono ?_
  rintro e w8 ⟨rfl, hb⟩
  have HB8 : Hid (Below w.heap.size w w8) := thru1 HB7.out hb
  have z8 : w7.heap.size + 1 ≤ w8.heap.size := by have := hb.size; simp at this; omega
  have HS_8 := Lib.hid ((HS_7.out.alloc _).below hb)
  have HQ_8 := Lib.hid ((HQ_7.out.alloc _).below hb)
  have A_8 := Lib.hid ((A_7.out.alloc _).below hb)
  have RW_8 := Lib.hid ((RW_7.out.alloc _).below hb)
  have W_8 := Lib.hid ((W_7.out.alloc _).below hb)
  have RX_8 := Lib.hid ((RX_7.out.alloc _).below hb)
  have X_8 := Lib.hid ((X_7.out.alloc _).below hb)
  have RQ_8 := Lib.hid ((RQ_7.out.alloc _).below hb)
  have RG_8 := Lib.hid ((RG_7.out.alloc _).below hb)
  have G_8 := Lib.hid ((Blk.new_at (w7.heap.size) (by simp)).below hb)
  clear hb lW cW0 cW1 HS_7 HQ_7 A_7 RW_7 W_7 RX_7 X_7 RQ_7 RG_7 HB7
  have lA := A_8.out.1
  have cA0 := A_8.out.at 0 rfl
  have cA1 := A_8.out.at 1 rfl
  have cA2 := A_8.out.at 2 rfl
  have cA3 := A_8.out.at 3 rfl
  have lX := X_8.out.1
  have cX0 := X_8.out.at 0 rfl
  have cX1 := X_8.out.at 1 rfl
  have cX2 := X_8.out.at 2 rfl
  have cX3 := X_8.out.at 3 rfl
  go_wp2_with fail
  have HS_8d := Lib.hid HS_8.out.drew
  have HQ_8d := Lib.hid HQ_8.out.drew
  have A_8d := Lib.hid A_8.out.drew
  have RW_8d := Lib.hid RW_8.out.drew
  have W_8d := Lib.hid W_8.out.drew
  have RX_8d := Lib.hid RX_8.out.drew
  have X_8d := Lib.hid X_8.out.drew
  have RQ_8d := Lib.hid RQ_8.out.drew
  have RG_8d := Lib.hid RG_8.out.drew
  have G_8d := Lib.hid G_8.out.drew
  have HB8d := Lib.hid HB8.out.drew
  go_region_held3 (fun w' => w'.cell? ⟨w.heap.size, 0, none⟩ = some (.int .i64 h) ∧ w'.cell? ⟨w.heap.size, 1, none⟩ = some (.slice a n c) ∧ w'.cell? ⟨w.heap.size, 2, none⟩ = some (.int .i64 ac) ∧ w'.cell? ⟨w.heap.size, 3, none⟩ = some (.int .i64 bu) ∧ w'.cell? ⟨w5.heap.size, 0, none⟩ = some (.int .i64 h) ∧ w'.cell? ⟨w5.heap.size, 1, none⟩ = some (.slice u5 n c5) ∧ w'.cell? ⟨w5.heap.size, 2, none⟩ = some (.int .i64 ac) ∧ w'.cell? ⟨w5.heap.size, 3, none⟩ = some (.int .i64 bu))
    (first | exact ⟨A_8d.out.at 0 rfl, A_8d.out.at 1 rfl, A_8d.out.at 2 rfl, A_8d.out.at 3 rfl, X_8d.out.at 0 rfl, X_8d.out.at 1 rfl, X_8d.out.at 2 rfl, X_8d.out.at 3 rfl⟩ | exact ⟨A_9.out.at 0 rfl, A_9.out.at 1 rfl, A_9.out.at 2 rfl, A_9.out.at 3 rfl, X_9.out.at 0 rfl, X_9.out.at 1 rfl, X_9.out.at 2 rfl, X_9.out.at 3 rfl⟩ | exact ⟨A_10.out.at 0 rfl, A_10.out.at 1 rfl, A_10.out.at 2 rfl, A_10.out.at 3 rfl, X_10.out.at 0 rfl, X_10.out.at 1 rfl, X_10.out.at 2 rfl, X_10.out.at 3 rfl⟩)
    (first | (go_at_call 31; refine (toArena_any _ _ _ _ _ _ f _ HS_8d.out hbig).mono ?_; rintro e w9 ⟨u9, c9, rfl, ho, hb, hc9, hcm9, hn9⟩; have HB9 := Lib.hid (thru0 HB8d.out hb); have z9 : w8.heap.size ≤ w9.heap.size := hb.size; have HS_9 := Lib.hid (HS_8d.out.below hb); have HQ_9 := Lib.hid (HQ_8d.out.below hb); have A_9 := Lib.hid (A_8d.out.below hb); have RW_9 := Lib.hid (RW_8d.out.below hb); have W_9 := Lib.hid (W_8d.out.below hb); have RX_9 := Lib.hid (RX_8d.out.below hb); have X_9 := Lib.hid (X_8d.out.below hb); have RQ_9 := Lib.hid (RQ_8d.out.below hb); have RG_9 := Lib.hid (RG_8d.out.below hb); have G_9 := Lib.hid (G_8d.out.below hb); have RT_9 : Hid (OwnIn w9 w8.heap.size w9.heap.size u9 n f) := ho.into; clear hb ho) | (go_at_call 34; refine (eqArena_same _ _ _ _ _ _ _ _ f f _ RX_9.out.src RT_9.out.src hbig (fun _ _ => rfl)).mono ?_; rintro e w10 ⟨rfl, hb⟩; have HB10 := Lib.hid (thru0 HB9.out hb); have z10 : w9.heap.size ≤ w10.heap.size := hb.size; have HS_10 := Lib.hid (HS_9.out.below hb); have HQ_10 := Lib.hid (HQ_9.out.below hb); have A_10 := Lib.hid (A_9.out.below hb); have RW_10 := Lib.hid (RW_9.out.below hb); have W_10 := Lib.hid (W_9.out.below hb); have RX_10 := Lib.hid (RX_9.out.below hb); have X_10 := Lib.hid (X_9.out.below hb); have RQ_10 := Lib.hid (RQ_9.out.below hb); have RG_10 := Lib.hid (RG_9.out.below hb); have G_10 := Lib.hid (G_9.out.below hb); have RT_10 := Lib.hid (RT_9.out.below hb); clear hb))

  go_wp2_with fail
  refine (toInts_any _ _ _ (lf roots) _ HQ_10.out hrb).mono ?_
  rintro e w11 ⟨u11, c11, rfl, ho, hb, hc11, hcm11, hn11⟩
  have HB11 : Hid (Below w.heap.size w w11) := thru0 HB10.out hb
  have z11 : w10.heap.size ≤ w11.heap.size := hb.size
  have HS_11 := Lib.hid (HS_10.out.below hb)
  have HQ_11 := Lib.hid (HQ_10.out.below hb)
  have A_11 := Lib.hid (A_10.out.below hb)
  have RW_11 := Lib.hid (RW_10.out.below hb)
  have W_11 := Lib.hid (W_10.out.below hb)
  have RX_11 := Lib.hid (RX_10.out.below hb)
  have X_11 := Lib.hid (X_10.out.below hb)
  have RQ_11 := Lib.hid (RQ_10.out.below hb)
  have RG_11 := Lib.hid (RG_10.out.below hb)
  have G_11 := Lib.hid (G_10.out.below hb)
  have QT_11 : Hid (OwnIn w11 (w10.heap.size) w11.heap.size u11 roots.length (lf roots)) := ho.into
  clear hb HS_10 HQ_10 A_10 RW_10 W_10 RX_10 X_10 RQ_10 RG_10 G_10 HB10 ho
  go_wp2_with fail
  refine (eqInts_same _ _ _ _ _ (lf roots) (lf roots) _ RQ_11.out.src QT_11.out.src hrb).mono ?_
  rintro e w12 ⟨hret, hb⟩
  have HB12 : Hid (Below w.heap.size w w12) := thru0 HB11.out hb
  have z12 : w11.heap.size ≤ w12.heap.size := hb.size
  have HS_12 := Lib.hid (HS_11.out.below hb)
  have HQ_12 := Lib.hid (HQ_11.out.below hb)
  have A_12 := Lib.hid (A_11.out.below hb)
  have RW_12 := Lib.hid (RW_11.out.below hb)
  have W_12 := Lib.hid (W_11.out.below hb)
  have RX_12 := Lib.hid (RX_11.out.below hb)
  have X_12 := Lib.hid (X_11.out.below hb)
  have RQ_12 := Lib.hid (RQ_11.out.below hb)
  have RG_12 := Lib.hid (RG_11.out.below hb)
  have G_12 := Lib.hid (G_11.out.below hb)
  have QT_12 := Lib.hid (QT_11.out.below hb)
  rw [eqB_yes (fun _ _ => rfl)] at hret
  subst hret
  clear hb HS_11 HQ_11 A_11 RW_11 W_11 RX_11 X_11 RQ_11 RG_11 G_11 QT_11 HB11
  clear QT_12
  have lX := X_12.out.1
  have cX0 := X_12.out.at 0 rfl
  have cX1 := X_12.out.at 1 rfl
  have cX2 := X_12.out.at 2 rfl
  have cX3 := X_12.out.at 3 rfl
  go_wp2_with fail
  clear HS_12 HQ_12
  refine (markArena_any _ _ _ _ _ _ _ _ _ _ _ RX_12.out hbig (by omega) (by omega)).mono ?_
  rintro e w13 ⟨rfl, ho, hk⟩
  have HB13 : Hid (Below w.heap.size w w13) := HB12.out.trans (hk.below (by omega) HB12.out.size)
  have z13 : w12.heap.size ≤ w13.heap.size := hk.size
  have A_13 := Lib.hid (A_12.out.keeps hk (by omega))
  have RW_13 := Lib.hid (RW_12.out.keeps hk (by omega))
  have W_13 := Lib.hid (W_12.out.keeps hk (by omega))
  have X_13 := Lib.hid (X_12.out.keeps hk (by omega))
  have RQ_13 := Lib.hid (RQ_12.out.keeps hk (by omega))
  have RG_13 := Lib.hid (RG_12.out.keeps hk (by omega))
  have G_13 := Lib.hid (G_12.out.keeps hk (by omega))
  have RX_13 : Hid (OwnIn w13 (w4.heap.size + 1) w5.heap.size u5 n (fun i => 1 + i)) := ho
  clear hk lX cX0 cX1 cX2 cX3 A_12 RW_12 W_12 RX_12 X_12 RQ_12 RG_12 G_12 HB12 ho
  go_wp2_with fail
  refine (markInts_big _ _ _ _ _ _ _ _ RQ_13.out hrb (by omega) (by omega)).mono ?_
  rintro e w14 ⟨rfl, ho, hk⟩
  have HB14 : Hid (Below w.heap.size w w14) := HB13.out.trans (hk.below (by omega) HB13.out.size)
  have z14 : w13.heap.size ≤ w14.heap.size := hk.size
  have A_14 := Lib.hid (A_13.out.keeps hk (by omega))
  have RW_14 := Lib.hid (RW_13.out.keeps hk (by omega))
  have W_14 := Lib.hid (W_13.out.keeps hk (by omega))
  have X_14 := Lib.hid (X_13.out.keeps hk (by omega))
  have RG_14 := Lib.hid (RG_13.out.keeps hk (by omega))
  have G_14 := Lib.hid (G_13.out.keeps hk (by omega))
  have RX_14 := Lib.hid (RX_13.out.keeps hk (by omega))
  have RQ_14 : Hid (OwnIn w14 (w5.heap.size + 1) w6.heap.size u6 roots.length (fun i => (1 + (n : Int)) + i)) := ho
  clear hk A_13 RW_13 W_13 X_13 RQ_13 RG_13 G_13 RX_13 HB13 ho
  have lW := W_14.out.1
  have cW0 := W_14.out.at 0 rfl
  have cW1 := W_14.out.at 1 rfl
  have lG := G_14.out.1
  have cG0 := G_14.out.at 0 rfl
  have cG1 := G_14.out.at 1 rfl
  go_wp2_with fail
  refine (eqIR_same _ _ _ _ _ _ f1 f1 _ RG_14.out.src RW_14.out.src hn1 (fun _ _ => rfl)).mono ?_
  rintro e w15 ⟨rfl, hb⟩
  have HB15 : Hid (Below w.heap.size w w15) := thru0 HB14.out hb
  have z15 : w14.heap.size ≤ w15.heap.size := hb.size
  have A_15 := Lib.hid (A_14.out.below hb)
  have RW_15 := Lib.hid (RW_14.out.below hb)
  have W_15 := Lib.hid (W_14.out.below hb)
  have X_15 := Lib.hid (X_14.out.below hb)
  have RG_15 := Lib.hid (RG_14.out.below hb)
  have G_15 := Lib.hid (G_14.out.below hb)
  have RX_15 := Lib.hid (RX_14.out.below hb)
  have RQ_15 := Lib.hid (RQ_14.out.below hb)
  clear hb lW cW0 cW1 lG cG0 cG1 A_14 RW_14 W_14 X_14 RG_14 G_14 RX_14 RQ_14 HB14
  have lG := G_15.out.1
  have cG0 := G_15.out.at 0 rfl
  have cG1 := G_15.out.at 1 rfl
  go_wp2_with fail
  refine (markIR_any _ _ _ _ _ _ _ _ _ RG_15.out hn1 (by omega) (by omega)).mono ?_
  rintro e w16 ⟨rfl, ho, hk⟩
  have HB16 : Hid (Below w.heap.size w w16) := HB15.out.trans (hk.below (by omega) HB15.out.size)
  have z16 : w15.heap.size ≤ w16.heap.size := hk.size
  have A_16 := Lib.hid (A_15.out.keeps hk (by omega))
  have RW_16 := Lib.hid (RW_15.out.keeps hk (by omega))
  have W_16 := Lib.hid (W_15.out.keeps hk (by omega))
  have X_16 := Lib.hid (X_15.out.keeps hk (by omega))
  have G_16 := Lib.hid (G_15.out.keeps hk (by omega))
  have RX_16 := Lib.hid (RX_15.out.keeps hk (by omega))
  have RQ_16 := Lib.hid (RQ_15.out.keeps hk (by omega))
  have RG_16 : Hid (OwnIn w16 (w6.heap.size) w7.heap.size u7 n1 (fun i => 1 + i)) := ho
  clear hk lG cG0 cG1 A_15 RW_15 W_15 X_15 RG_15 G_15 RX_15 RQ_15 HB15 ho
  have lG := G_16.out.1
  have cG0 := G_16.out.at 0 rfl
  have cG1 := G_16.out.at 1 rfl
  go_wp2_with fail
  refine (heldIR_any _ _ _ _ 1 _ RG_16.out.src hn1 (by omega) (by omega)).mono ?_
  rintro e w17 ⟨rfl, hb⟩
  have HB17 : Hid (Below w.heap.size w w17) := thru0 HB16.out hb
  have z17 : w16.heap.size ≤ w17.heap.size := hb.size
  have A_17 := Lib.hid (A_16.out.below hb)
  have RW_17 := Lib.hid (RW_16.out.below hb)
  have W_17 := Lib.hid (W_16.out.below hb)
  have X_17 := Lib.hid (X_16.out.below hb)
  have G_17 := Lib.hid (G_16.out.below hb)
  have RX_17 := Lib.hid (RX_16.out.below hb)
  have RQ_17 := Lib.hid (RQ_16.out.below hb)
  have RG_17 := Lib.hid (RG_16.out.below hb)
  clear hb lG cG0 cG1 A_16 RW_16 W_16 X_16 G_16 RX_16 RQ_16 RG_16 HB16
  have lA := A_17.out.1
  have cA0 := A_17.out.at 0 rfl
  have cA1 := A_17.out.at 1 rfl
  have cA2 := A_17.out.at 2 rfl
  have cA3 := A_17.out.at 3 rfl
  have HSk := Lib.hid (HS0.out.below HB17.out); have HQk := Lib.hid (HQ0.out.below HB17.out)
  go_wp2_with fail
  refine (toArena_any _ _ _ _ _ _ f _ HSk.out hbig).mono ?_
  rintro e w18 ⟨u18, c18, rfl, ho, hb, hc18, hcm18, hn18⟩
  have HB18 : Hid (Below w.heap.size w w18) := thru0 HB17.out hb
  have z18 : w17.heap.size ≤ w18.heap.size := hb.size
  have A_18 := Lib.hid (A_17.out.below hb)
  have RW_18 := Lib.hid (RW_17.out.below hb)
  have W_18 := Lib.hid (W_17.out.below hb)
  have X_18 := Lib.hid (X_17.out.below hb)
  have G_18 := Lib.hid (G_17.out.below hb)
  have RX_18 := Lib.hid (RX_17.out.below hb)
  have RQ_18 := Lib.hid (RQ_17.out.below hb)
  have RG_18 := Lib.hid (RG_17.out.below hb)
  have HS_18 := Lib.hid (HSk.out.below hb)
  have HQ_18 := Lib.hid (HQk.out.below hb)
  have RT_18 : Hid (OwnIn w18 (w17.heap.size) w18.heap.size u18 n f) := ho.into
  clear hb lA cA0 cA1 cA2 cA3 A_17 RW_17 W_17 X_17 G_17 RX_17 RQ_17 RG_17 HSk HQk HB17 ho
  go_wp2_with fail
  refine (toInts_any _ _ _ (lf roots) _ HQ_18.out hrb).mono ?_
  rintro e w19 ⟨u19, c19, rfl, ho, hb, hc19, hcm19, hn19⟩
  have HB19 : Hid (Below w.heap.size w w19) := thru0 HB18.out hb
  have z19 : w18.heap.size ≤ w19.heap.size := hb.size
  have A_19 := Lib.hid (A_18.out.below hb)
  have RW_19 := Lib.hid (RW_18.out.below hb)
  have W_19 := Lib.hid (W_18.out.below hb)
  have X_19 := Lib.hid (X_18.out.below hb)
  have G_19 := Lib.hid (G_18.out.below hb)
  have RX_19 := Lib.hid (RX_18.out.below hb)
  have RQ_19 := Lib.hid (RQ_18.out.below hb)
  have RG_19 := Lib.hid (RG_18.out.below hb)
  have HS_19 := Lib.hid (HS_18.out.below hb)
  have HQ_19 := Lib.hid (HQ_18.out.below hb)
  have RT_19 := Lib.hid (RT_18.out.below hb)
  have QT_19 : Hid (OwnIn w19 (w18.heap.size) w19.heap.size u19 roots.length (lf roots)) := ho.into
  clear hb A_18 RW_18 W_18 X_18 G_18 RX_18 RQ_18 RG_18 HS_18 HQ_18 RT_18 HB18 ho
  go_wp2_with fail
  refine (HIM.out _ _ _ _ _ RT_19.out.src hc18 hcm18 QT_19.out.src).mono ?_
  rintro e w20 ⟨u20, c20, rfl, ho, hb⟩
  have HB20 : Hid (Below w.heap.size w w20) := thru0 HB19.out hb
  have z20 : w19.heap.size ≤ w20.heap.size := hb.size
  have A_20 := Lib.hid (A_19.out.below hb)
  have RW_20 := Lib.hid (RW_19.out.below hb)
  have W_20 := Lib.hid (W_19.out.below hb)
  have X_20 := Lib.hid (X_19.out.below hb)
  have G_20 := Lib.hid (G_19.out.below hb)
  have RX_20 := Lib.hid (RX_19.out.below hb)
  have RQ_20 := Lib.hid (RQ_19.out.below hb)
  have RG_20 := Lib.hid (RG_19.out.below hb)
  have HS_20 := Lib.hid (HS_19.out.below hb)
  have HQ_20 := Lib.hid (HQ_19.out.below hb)
  have RT_20 := Lib.hid (RT_19.out.below hb)
  have QT_20 := Lib.hid (QT_19.out.below hb)
  have RH_20 : Hid (OwnIn w20 (w19.heap.size) w20.heap.size u20 n1 f1) := ho.into
  clear hb A_19 RW_19 W_19 X_19 G_19 RX_19 RQ_19 RG_19 HS_19 HQ_19 RT_19 QT_19 HB19 ho
  clear RT_20 QT_20
  have lW := W_20.out.1
  have cW0 := W_20.out.at 0 rfl
  have cW1 := W_20.out.at 1 rfl
  have lG := G_20.out.1
  have cG0 := G_20.out.at 0 rfl
  have cG1 := G_20.out.at 1 rfl
  go_wp2_with fail
  refine (eqIR_same _ _ _ _ _ _ f1 f1 _ (RH_20.out.alloc _).src (RW_20.out.alloc _).src hn1 (fun _ _ => rfl)).mono ?_
  rintro e w21 ⟨rfl, hb⟩
  have HB21 : Hid (Below w.heap.size w w21) := thru1 HB20.out hb
  have z21 : w20.heap.size + 1 ≤ w21.heap.size := by have := hb.size; simp at this; omega
  have A_21 := Lib.hid ((A_20.out.alloc _).below hb)
  have RW_21 := Lib.hid ((RW_20.out.alloc _).below hb)
  have W_21 := Lib.hid ((W_20.out.alloc _).below hb)
  have X_21 := Lib.hid ((X_20.out.alloc _).below hb)
  have G_21 := Lib.hid ((G_20.out.alloc _).below hb)
  have RX_21 := Lib.hid ((RX_20.out.alloc _).below hb)
  have RQ_21 := Lib.hid ((RQ_20.out.alloc _).below hb)
  have RG_21 := Lib.hid ((RG_20.out.alloc _).below hb)
  have HS_21 := Lib.hid ((HS_20.out.alloc _).below hb)
  have HQ_21 := Lib.hid ((HQ_20.out.alloc _).below hb)
  have RH_21 := Lib.hid ((RH_20.out.alloc _).below hb)
  clear hb lW cW0 cW1 lG cG0 cG1 A_20 RW_20 W_20 X_20 G_20 RX_20 RQ_20 RG_20 HS_20 HQ_20 RH_20 HB20
  have lG := G_21.out.1
  have cG0 := G_21.out.at 0 rfl
  have cG1 := G_21.out.at 1 rfl
  go_wp2_with fail
  refine (heldIR_any _ _ _ _ 1 _ RG_21.out.src hn1 (by omega) (by omega)).mono ?_
  rintro e w22 ⟨rfl, hb⟩
  have HB22 : Hid (Below w.heap.size w w22) := thru0 HB21.out hb
  have z22 : w21.heap.size ≤ w22.heap.size := hb.size
  have A_22 := Lib.hid (A_21.out.below hb)
  have RW_22 := Lib.hid (RW_21.out.below hb)
  have W_22 := Lib.hid (W_21.out.below hb)
  have X_22 := Lib.hid (X_21.out.below hb)
  have G_22 := Lib.hid (G_21.out.below hb)
  have RX_22 := Lib.hid (RX_21.out.below hb)
  have RQ_22 := Lib.hid (RQ_21.out.below hb)
  have RG_22 := Lib.hid (RG_21.out.below hb)
  have HS_22 := Lib.hid (HS_21.out.below hb)
  have HQ_22 := Lib.hid (HQ_21.out.below hb)
  have RH_22 := Lib.hid (RH_21.out.below hb)
  clear hb lG cG0 cG1 A_21 RW_21 W_21 X_21 G_21 RX_21 RQ_21 RG_21 HS_21 HQ_21 RH_21 HB21
  go_wp2
  go_ret
  exact ⟨rfl, HB22.out⟩

theorem e6_any (h ac bu : Int) (a : Option Addr) (n c : Nat) (f : Nat → Int) (ra : Option Addr) (rn rc : Nat) (rf : Nat → Int) (w : World) (hs : Src w a n f) (hn : n ≤ maxLen) (hq : Src w ra rn rf) (hqn : rn ≤ maxLen) : Calls Try.prog 6 #[.agg #[.int .i64 h, .slice a n c, .int .i64 ac, .int .i64 bu], .slice ra rn rc] w (RetBool w true) := by
  obtain ⟨roots, rfl, hq'⟩ := src_list hq
  by_cases hr : roots.length ≤ 1048576
  · by_cases hb : n ≤ 1048576
    · exact e6_near h ac bu a n c f ra roots rc w hs hq' hb hr
    · exact e6_farA h ac bu a n c f ra roots rc w hn (by omega) hr
  · exact e6_farR h ac bu a n c f ra roots rc w (by omega)
end Go.Proofs.Ytdgppcaeknbnjaa

