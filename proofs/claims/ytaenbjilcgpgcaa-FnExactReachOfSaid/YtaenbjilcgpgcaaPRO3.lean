/- Texts merged: Z1 to Z12. -/
import Derived.Test.YtaenbjilcgpgcaaPRO2
namespace Go.Proofs.Ytaenbjilcgpgcaa
open Go.RowKit
set_option linter.unusedVariables false

/-- The cells of a machine, from a place of a block on. -/
structure MAt (w : World) (g o : Nat) (te qu ha : Int) (sa : Option Addr) (M kc : Nat) (na : Option Addr) (K nc : Nat) : Prop where
  lt : g < w.heap.size
  c0 : w.cell? ⟨g, o, none⟩ = some (.int .i64 te)
  c1 : w.cell? ⟨g, o + 1, none⟩ = some (.int .i64 qu)
  c2 : w.cell? ⟨g, o + 2, none⟩ = some (.int .i64 ha)
  c3 : w.cell? ⟨g, o + 3, none⟩ = some (.slice sa M kc)
  c4 : w.cell? ⟨g, o + 4, none⟩ = some (.slice na K nc)

section

variable {w w' : World} {g o : Nat} {te qu ha : Int} {sa : Option Addr} {M kc : Nat} {na : Option Addr} {K nc : Nat}

theorem MAt.below (h : MAt w g o te qu ha sa M kc na K nc) (hb : Below w.heap.size w w') : MAt w' g o te qu ha sa M kc na K nc :=
  ⟨Nat.lt_of_lt_of_le h.lt hb.size, (hb.cell (p := ⟨g, o, none⟩) h.lt).trans h.c0, (hb.cell (p := ⟨g, o + 1, none⟩) h.lt).trans h.c1, (hb.cell (p := ⟨g, o + 2, none⟩) h.lt).trans h.c2, (hb.cell (p := ⟨g, o + 3, none⟩) h.lt).trans h.c3, (hb.cell (p := ⟨g, o + 4, none⟩) h.lt).trans h.c4⟩

theorem mat_blk (h : Blk w g [.int .i64 te, .int .i64 qu, .int .i64 ha, .slice sa M kc, .slice na K nc]) : MAt w g 0 te qu ha sa M kc na K nc := ⟨h.1, h.at 0 rfl, h.at 1 rfl, h.at 2 rfl, h.at 3 rfl, h.at 4 rfl⟩

end

theorem isFd_ix {K : Nat} {T : Nat → GM} {x : Int} (hr : MRise K T) (h : Has K T x) : IsFd K T x (ixN T x K : Int) := by
  have h1 := ixN_has h
  have h2 := ixN_at h1
  refine .inl ⟨ixN T x K, h1, h2, fun j hj he => ?_, rfl⟩
  have := rise_lt hr _ _ hj h1
  omega

/-- A node whose numbers are right, of any number. -/
def Nd (t : GM) : Prop := HOk t.s t.m 0 t.h ∧ (t.n : Int) = t.s

theorem Nd.mask {t : GM} (h : Nd t) : 0 ≤ t.m ∧ t.m ≤ 4095 := by have h1 := h.1.2.1; have h2 := P2_le h.1.1.2; omega

theorem MWk.nd {M : Nat} {S : Nat → SL} {K : Nat} {T : Nat → GM} (h : MWk M S K T) : ∀ i, i < K → Nd (T i) := fun i hi => (h.node i hi).2

theorem ptz_yes {t : GM} {k : Nat} (h : t.m / P2 (k : Int) % 2 = 1) (O : List Int) : addNew O (nz (ptL t (k + 1))) = add1z (addNew O (nz (ptL t k))) (t.f k) := by rw [ptL_yes h, addz_snoc]

theorem mc_pre_len {M : Nat} {S : Nat → SL} {K : Nat} {T : Nat → GM} {i k : Nat} {O : List Int} (hl : MLead M S K T) (h : MC M S K T i O) (hi : i < O.length) (hk : k ≤ (nodeM K T (lf O i)).n) : (addNew O (nz (ptL (nodeM K T (lf O i)) k))).length ≤ K := by
  have hs : ∀ p ∈ addNew O (nz (ptL (nodeM K T (lf O i)) k)), Has K T p := fun p hp => by
    rcases (mem_addNew _ _ _).1 hp with h1 | h1
    · exact h.sub p h1
    · obtain ⟨h2, h3⟩ := mem_nz.1 h1
      obtain ⟨j, hj, hpj, rfl⟩ := mem_ptL.1 h2
      exact mem_idsM.1 (ptrM_sub hl (lf O i) (mem_idsM.2 (h.sub _ (lf_mem hi))) _ (mem_nz.2 ⟨mem_ptL.2 ⟨j, by omega, hpj, rfl⟩, h3⟩))
  have := nodup_length (nodup_addNew (nz (ptL (nodeM K T (lf O i)) k)) O h.nd) (U := idsM K T) (fun x hx => mem_idsM.2 (hs x hx))
  rwa [idsM_len] at this

theorem add1z_zero (O : List Int) : add1z O 0 = O := if_pos rfl

theorem add1z_in {O : List Int} {p : Int} (h0 : ¬ p = 0) (h : p ∈ O) : add1z O p = O := by rw [add1z, if_neg h0, add1, if_pos h]

theorem add1z_new {O : List Int} {p : Int} (h0 : ¬ p = 0) (h : p ∉ O) : add1z O p = O ++ [p] := by rw [add1z, if_neg h0, add1, if_neg h]

set_option maxRecDepth 100000 in
set_option maxHeartbeats 3200000 in
theorem l5Reach_any (g o : Nat) (te qu ha : Int) (sa : Option Addr) (M kc : Nat) (S : Nat → SL) (na : Option Addr) (K nc : Nat) (T : Nat → GM) (w : World)
    (hB : MAt w g o te qu ha sa M kc na K nc) (hp : PV w sa M S) (hg : NV w na K T) (hM : M ≤ 1000) (hK : K ≤ 1000) (hn : ∀ i, i < K → Nd (T i)) (hr : MRise K T) (hl : MLead M S K T) :
    Calls Try.prog 107 #[.pointer (some ⟨g, o, none⟩)] w (RetInts w (reachM M S K T).length (lf (reachM M S K T))) := by
  have B := Lib.hid hB; have P := Lib.hid hp; have G := Lib.hid hg; have HN := Lib.hid hn; have HRI := Lib.hid hr; have HL := Lib.hid hl
  obtain ⟨i0, hif, hz0, hz1, hz2⟩ := info_parts Try.info2
  clear hB hp hg hn hr hl
  go_enter Try.func107, Try.ntmps107
  go_wp2_with fail
  have HBa : Hid (Below w.heap.size w (w.alloc (.cells #[] 2))) := (Below.refl _ _).alloc (Nat.le_refl _) _
  have OWa : Hid ((w.alloc (.cells #[] 2)).ownsRow w.heap.size 2 1 (.slice (some ⟨w.heap.size, 0, none⟩) 0 0) ([] : List Int).length (nums ([] : List Int).length (lf []))) := World.ownsRow_lit w #[] 0 (Nat.le_refl _) (by simp [maxLen]) rfl
  have za : w.heap.size + 1 ≤ (w.alloc (.cells #[] 2)).heap.size := by simp
  generalize w.alloc (.cells #[] 2) = wa at *
  go_loopw [3, 4] (fun u q wr => ∃ (i : Nat) (O : List Int), i ≤ M ∧ q = .int .i64 (i : Int) ∧ Hid (Below w.heap.size w wr) ∧ Hid (wr.ownsRow w.heap.size 2 1 u O.length (nums O.length (lf O))) ∧ Hid (O = addNew [] (nz ((slotL M S).take i))) ∧ O.length ≤ i) (fun _ q _ => M - (intOf q).toNat)
  case atStart => exact ⟨0, [], by omega, rfl, HBa, OWa, Lib.hid rfl, by simp⟩
  case round =>
    obtain ⟨i, O, hi, rfl, HB_r, OW_r, HO, hol⟩ := hrel
    clear HBa OWa za
    have hzr := HB_r.out.size
    have b3 := (B.out.below HB_r.out).c3; have lB := (B.out.below HB_r.out).lt
    by_cases hlt : i < M
    · have hlt' : (i : Int) < (M : Int) := by omega
      have hi0 : (0 : Int) ≤ (i : Int) := by omega
      obtain ⟨pb, pq, rfl, lp, s0, s1⟩ := pv_get (P.out.below HB_r.out) hlt
      obtain ⟨a5, c5, rfl, hs5⟩ := row_src OW_r.out
      have HS5 := Lib.hid hs5
      have HSN := Lib.hid (addz_take (l := slotL M S) (i := i) (by rw [slotL_len]; exact hlt) [])
      obtain ⟨y, hy⟩ : ∃ y, (S i).nd = y := ⟨_, rfl⟩
      have HY : Hid (lf (slotL M S) i = y) := Lib.hid (by rw [slotL_lf hlt, hy])
      rw [hy] at s1
      clear hs5 hy
      by_cases h0 : y = 0
      · have HO' : Hid (O = addNew [] (nz ((slotL M S).take (i + 1)))) := Lib.hid (by rw [HSN.out, HY.out, h0, add1z_zero]; exact HO.out)
        subst h0
        go_wp2
        go_roundw
        case rel => first | exact ⟨i + 1, O, by omega, by go_num, HB_r, OW_r, HO', by omega⟩ | ((repeat apply Exists.intro); exact ⟨⟨i + 1, O, by omega, by go_num, HB_r, OW_r, HO', by omega⟩, rfl⟩)
        case measure => simp [intOf]; omega
      · have h0' : (y != 0) = true := by simpa using h0
        have H0 := Lib.hid h0
        clear h0
        by_cases hin : y ∈ O
        · have hd : decide (y ∈ O) = true := decide_eq_true hin
          have HO' : Hid (O = addNew [] (nz ((slotL M S).take (i + 1)))) := Lib.hid (by rw [HSN.out, HY.out, ← HO.out, add1z_in H0.out hin])
          clear hin
          go_wp2_with fail
          refine (l1Has_any a5 O c5 y _ HS5.out (by omega)).mono ?_
          rintro e w' ⟨rfl, rfl⟩
          rw [hd]
          go_wp2
          go_roundw
          case rel => first | exact ⟨i + 1, O, by omega, by go_num, HB_r, OW_r, HO', by omega⟩ | ((repeat apply Exists.intro); exact ⟨⟨i + 1, O, by omega, by go_num, HB_r, OW_r, HO', by omega⟩, rfl⟩)
          case measure => simp [intOf]; omega
        · have hd : decide (y ∈ O) = false := decide_eq_false hin
          have HO' : Hid (O ++ [y] = addNew [] (nz ((slotL M S).take (i + 1)))) := Lib.hid (by rw [HSN.out, HY.out, ← HO.out, add1z_new H0.out hin])
          have HGE : Hid (∀ k, (Value.slice a5 O.length c5).ownBlock = some k → w.heap.size ≤ k) := Lib.hid (fun k hk => ownBlock_ge OW_r.out hk)
          clear hin
          go_wp2_with fail
          refine (l1Has_any a5 O c5 y _ HS5.out (by omega)).mono ?_
          rintro e w' ⟨rfl, rfl⟩
          rw [hd]
          go_wp2_with (at_builtin; go_loud (refine wpList_append_lies _ rfl _ _ 24 rfl w.heap.size 2 i0 (.int .i64 0) 1 8 Try.underlying24 hif hz0 hz1 hz2 rfl (by decide) (.slice a5 O.length c5) O.length (nums O.length (lf O)) rfl (ownsRow_below OW_r.out ((Below.refl _ _).alloc (Nat.le_refl _) _)) ⟨wr.heap.size, 0, none⟩ 1 1 [.int .i64 y] rfl rfl (news1 wr y) (by intro u hu; simp only [List.mem_cons, List.mem_nil_iff, or_false] at hu; subst hu; rfl) (by omega) (by unfold maxLen; omega) (by omega) (by simp; omega) (wr.heap.size + 1) (by simp) ?_); intro g9 cap9 w9 hown9 hgrow9 hat9 hlt9)
          have HB9 : Hid (Below w.heap.size w w9) := (HB_r.out.alloc hzr _).grown hgrow9 (by simp; omega) (fun k hk => HGE.out k hk)
          have OW9 : Hid (w9.ownsRow w.heap.size 2 1 (.slice (some ⟨g9, 0, none⟩) (O.length + 1) cap9) (O ++ [y]).length (nums (O ++ [y]).length (lf (O ++ [y])))) := Lib.hid (by
            rw [show (O ++ [y]).length = O.length + 1 by simp, ← nums_snoc]; exact hown9)
          clear hown9 hgrow9 hat9 s0 s1 b3 lB
          go_wp2
          go_roundw
          case rel => first | exact ⟨i + 1, O ++ [y], by omega, by go_num, HB9, OW9, HO', by simp; omega⟩ | ((repeat apply Exists.intro); exact ⟨⟨i + 1, O ++ [y], by omega, by go_num, HB9, OW9, HO', by simp; omega⟩, rfl⟩)
          case measure => simp [intOf]; omega
    · have hlt' : ¬ (i : Int) < (M : Int) := by omega
      obtain rfl : i = M := by omega
      have HMC : Hid (MC i S K T 0 O) := Lib.hid (by
        have e := HO.out
        rw [List.take_of_length_le (by rw [slotL_len]; exact Nat.le_refl _)] at e
        rw [e]; exact mc_start HL.out)
      clear HO
      go_wp2
      go_loopw [3, 6] (fun u q wq => ∃ (j : Nat) (O : List Int), q = .int .i64 (j : Int) ∧ j ≤ K ∧ Hid (Below w.heap.size w wq) ∧ Hid (wq.ownsRow w.heap.size 2 1 u O.length (nums O.length (lf O))) ∧ Hid (MC i S K T j O)) (fun _ q _ => K - (intOf q).toNat)
      case atStart => exact ⟨0, O, rfl, by omega, HB_r, OW_r, HMC⟩
      case round =>
        clear HB_r OW_r HMC b3 lB hzr hol
        obtain ⟨j, O, rfl, hjK, HB_r, OW_r, HMC⟩ := hrel
        have hoK : O.length ≤ K := mc_len HMC.out
        have hzr := HB_r.out.size
        obtain ⟨a5, c5, rfl, hs5⟩ := row_src OW_r.out
        by_cases hjo : j < O.length
        · have hlt' : (j : Int) < (O.length : Int) := by omega
          have hj0 : (0 : Int) ≤ (j : Int) := by omega
          obtain ⟨ob, oo, rfl, hob, hoc⟩ := src_some hs5 (by omega)
          have o0 := hoc j hjo
          have hhas := HMC.out.sub _ (lf_mem hjo)
          obtain ⟨y, hy⟩ : ∃ y, lf O j = y := ⟨_, rfl⟩
          have HY := Lib.hid hy
          rw [hy] at o0 hhas
          have hix := ixN_has hhas
          have HFD := Lib.hid (isFd_ix HRI.out hhas)
          have HND := Lib.hid (HN.out _ hix)
          have HT : Hid (nodeM K T y = T (ixN T y K)) := Lib.hid rfl
          obtain ⟨x, hx⟩ : ∃ x, ixN T y K = x := ⟨_, rfl⟩
          rw [hx] at hix HFD HND HT
          have HSTEP := Lib.hid (mc_step HL.out HMC.out hjo)
          have HPRE := Lib.hid (fun k hk => mc_pre_len (k := k) HL.out HMC.out hjo hk)
          rw [hy] at HSTEP HPRE
          unfold ptrM at HSTEP
          rw [HT.out] at HSTEP HPRE
          obtain ⟨t, ht⟩ : ∃ t, T x = t := ⟨_, rfl⟩
          rw [ht] at HND HSTEP HPRE
          have b4 := (B.out.below HB_r.out).c4; have lB := (B.out.below HB_r.out).lt
          have hx' : (x : Int) < (K : Int) := by omega
          have hx0 : (0 : Int) ≤ (x : Int) := by omega
          have G1 := Lib.hid (G.out.below HB_r.out)
          obtain ⟨b, q, rfl, hgs⟩ : ∃ b q, na = some ⟨b, q, none⟩ ∧ NSrc w b q K T := by
            rcases G.out with h0 | ⟨b, q, e, hg⟩
            · omega
            · exact ⟨b, q, e, hg⟩
          have HGS := Lib.hid hgs
          have HTX := Lib.hid ht
          clear hs5 hoc hy hhas hx ht hgs HMC HT
          go_wp2_with fail
          go_quiet (first | exact Calls.quiet_of_same (Calls.mono (l5Find_any _ K nc T y (x : Int) _ (G1.out.below (drewN_below _ _)) (show K ≤ 1048576 by omega) HFD.out) fun _ _ h => ⟨h.1, h.2.symm⟩))
          have HB5 := Lib.hid (below_drewN HB_r.out nq)
          have OW5 := Lib.hid (ownsRow_below OW_r.out (drewN_below wr nq))
          clear b4 lB o0 hob G1 HB_r OW_r
          generalize wr.drewN nq = w5 at *
          have FV : Hid (FivG w5 b (q + x * 5) t) := Lib.hid (by rw [← HTX.out]; exact (HGS.out.below HB5.out).six x hix)
          have lb5 := (HGS.out.below HB5.out).lt
          go_wp2_with fail
          refine (l5Head_any b (q + x * 5) t _ FV.out lb5).mono ?_
          rintro e w1 ⟨rfl, hb⟩
          have HB1 := Lib.hid (thru0 HB5.out hb)
          have OW1 := Lib.hid (ownsRow_below OW5.out hb)
          have HB2 : Hid (Below w.heap.size w (w1.alloc (.cells #[.int .i64 t.s, .int .i64 t.m, .int .i64 0, .int .i64 t.h] 93))) := Lib.hid (HB1.out.alloc HB1.out.size _)
          have OW2 := Lib.hid (OW1.out.alloc (.cells #[.int .i64 t.s, .int .i64 t.m, .int .i64 0, .int .i64 t.h] 93))
          have K1 := Lib.hid (Blk.new_at (w := w1) (cs := #[.int .i64 t.s, .int .i64 t.m, .int .i64 0, .int .i64 t.h]) (t := 93) w1.heap.size rfl)
          have NE1 : Hid ((Value.slice (some ⟨ob, oo, none⟩) O.length c5).ownBlock ≠ some w1.heap.size) := Lib.hid (fun e => by have := (OW1.out.lt _ e).2; omega)
          have zz1 : w1.heap.size < (w1.alloc (.cells #[.int .i64 t.s, .int .i64 t.m, .int .i64 0, .int .i64 t.h] 93)).heap.size := by simp
          clear hb FV lb5 HB5 OW5 HB1 OW1
          obtain ⟨ta, hta⟩ : ∃ ta, t.a = ta := ⟨_, rfl⟩
          have HTA := Lib.hid hta
          clear hta
          have hsz : (t.n : Int) = t.s := HND.out.2
          have hs12 : t.s ≤ 12 := HND.out.1.1.2
          have HM := Lib.hid HND.out.mask
          have HSZ := Lib.hid hsz
          clear hsz
          go_wp2
          generalize w1.heap.size = B1 at *
          go_loopw [3, 9] (fun u p wr => ∃ (k : Nat) (Q : List Int), k ≤ t.n ∧ p = .int .i64 (k : Int) ∧ Hid (Below w.heap.size w wr) ∧ Hid (wr.ownsRow w.heap.size 2 1 u Q.length (nums Q.length (lf Q))) ∧ Hid (Blk wr B1 [.int .i64 t.s, .int .i64 t.m, .int .i64 0, .int .i64 t.h]) ∧ Hid (u.ownBlock ≠ some B1) ∧ Hid (Q = addNew O (nz (ptL t k)))) (fun _ p _ => t.n - (intOf p).toNat)
          case atStart => exact ⟨0, O, Nat.zero_le _, rfl, HB2, OW2, K1, NE1, Lib.hid rfl⟩
          case round =>
            clear HB2 OW2 K1 NE1 zz1
            obtain ⟨k, Q, hk, rfl, HBr, OWr, BK, NE, HQ⟩ := hrel
            have hzr := HBr.out.size
            have hqK : Q.length ≤ K := by rw [HQ.out]; exact HPRE.out k hk
            have FV : Hid (FivG wr b (q + x * 5) t) := Lib.hid (by rw [← HTX.out]; exact (HGS.out.below HBr.out).six x hix)
            have lb := (HGS.out.below HBr.out).lt
            have hsr : Src wr ta t.n t.f := by rw [← HTA.out, ← HTX.out]; exact (HGS.out.below HBr.out).flds x hix
            obtain ⟨x0, x1, x2, x3, x4⟩ := FV.out
            rw [HTA.out] at x4
            have z1 := BK.out.at 1 rfl; have lB1 := BK.out.1
            have hk0 : (0 : Int) ≤ (k : Int) := by omega
            obtain ⟨a6, c6, rfl, hs6⟩ := row_src OWr.out
            have HS6 := Lib.hid (fun q => hs6.below (drewN_below wr q))
            clear hs6
            by_cases hkn : k < t.n
            · have hks : (k : Int) < t.s := by have := HSZ.out; omega
              have hkn' : (k : Int) < (t.n : Int) := by omega
              rcases hsr with h0 | ⟨b', o', rfl, hb', hc'⟩
              · omega
              have hck := hc' k hkn
              have HDR := Lib.hid (fun q => below_drewN HBr.out q)
              have OWD := Lib.hid (fun q => ownsRow_below OWr.out (drewN_below wr q))
              have BKD := Lib.hid (fun q => BK.out.below (drewN_below wr q))
              obtain ⟨y, hy⟩ : ∃ y, t.f k = y := ⟨_, rfl⟩
              have HYK := Lib.hid hy
              rw [hy] at hck
              clear hc' hy
              rcases (show t.m / P2 (k : Int) % 2 = 1 ∨ t.m / P2 (k : Int) % 2 = 0 by omega) with hd | hd
              · have HYES : Hid (addNew O (nz (ptL t (k + 1))) = add1z Q y) := Lib.hid (by rw [ptz_yes hd, ← HQ.out, HYK.out])
                have HR1 : Hid (true = (t.m / P2 k % 2 == 1)) := Lib.hid (by rw [hd]; rfl)
                clear hd
                by_cases h0 : y = 0
                · have HQ' : Hid (Q = addNew O (nz (ptL t (k + 1)))) := Lib.hid (by rw [HYES.out, h0, add1z_zero])
                  subst h0
                  clear HYES
                  go_wp2_with fail
                  refine (l2Pointer_at B1 0 k t.m true _ z1 HM.out (by omega) HR1.out).mono ?_
                  rintro e w5 ⟨rfl, q5, rfl⟩
                  have HB6 := Lib.hid (HDR.out q5); have OW6 := Lib.hid (OWD.out q5); have BK6 := Lib.hid (BKD.out q5)
                  clear x0 x1 x2 x3 x4 z1 lB1 hck FV HDR OWD BKD
                  generalize wr.drewN q5 = w6 at *
                  go_wp2
                  go_roundw
                  case rel => first | exact ⟨k + 1, Q, by omega, by go_num, HB6, OW6, BK6, NE, HQ'⟩ | ((repeat apply Exists.intro); exact ⟨⟨k + 1, Q, by omega, by go_num, HB6, OW6, BK6, NE, HQ'⟩, rfl⟩)
                  case measure => simp [intOf]; omega
                · have h0' : (y != 0) = true := by simpa using h0
                  have H0 := Lib.hid h0
                  clear h0
                  by_cases hin : y ∈ Q
                  · have hdc : decide (y ∈ Q) = true := decide_eq_true hin
                    have HQ' : Hid (Q = addNew O (nz (ptL t (k + 1)))) := Lib.hid (by rw [HYES.out, add1z_in H0.out hin])
                    clear HYES hin
                    go_wp2_with fail
                    refine (l2Pointer_at B1 0 k t.m true _ z1 HM.out (by omega) HR1.out).mono ?_
                    rintro e w5 ⟨rfl, q5, rfl⟩
                    have HB6 := Lib.hid (HDR.out q5); have OW6 := Lib.hid (OWD.out q5); have BK6 := Lib.hid (BKD.out q5); have SR6 := Lib.hid (HS6.out q5)
                    clear x0 x1 x2 x3 x4 z1 lB1 hck FV HDR OWD BKD HS6
                    generalize wr.drewN q5 = w6 at *
                    go_wp2_with fail
                    refine (l1Has_any a6 Q c6 y _ SR6.out (by omega)).mono ?_
                    rintro e w' ⟨rfl, rfl⟩
                    rw [hdc]
                    go_wp2
                    go_roundw
                    case rel => first | exact ⟨k + 1, Q, by omega, by go_num, HB6, OW6, BK6, NE, HQ'⟩ | ((repeat apply Exists.intro); exact ⟨⟨k + 1, Q, by omega, by go_num, HB6, OW6, BK6, NE, HQ'⟩, rfl⟩)
                    case measure => simp [intOf]; omega
                  · have hdc : decide (y ∈ Q) = false := decide_eq_false hin
                    have HQ' : Hid (Q ++ [y] = addNew O (nz (ptL t (k + 1)))) := Lib.hid (by rw [HYES.out, add1z_new H0.out hin])
                    clear HYES hin
                    go_wp2_with fail
                    refine (l2Pointer_at B1 0 k t.m true _ z1 HM.out (by omega) HR1.out).mono ?_
                    rintro e w5 ⟨rfl, q5, rfl⟩
                    have HB6 := Lib.hid (HDR.out q5); have OW6 := Lib.hid (OWD.out q5); have BK6 := Lib.hid (BKD.out q5); have SR6 := Lib.hid (HS6.out q5)
                    clear x0 x1 x2 x3 x4 z1 lB1 hck FV HDR OWD BKD HS6
                    generalize wr.drewN q5 = w6 at *
                    go_wp2_with fail
                    refine (l1Has_any a6 Q c6 y _ SR6.out (by omega)).mono ?_
                    rintro e w' ⟨rfl, rfl⟩
                    rw [hdc]
                    have z6 := HB6.out.size
                    have HGE : Hid (∀ k, (Value.slice a6 Q.length c6).ownBlock = some k → w.heap.size ≤ k) := Lib.hid (fun k hk => ownBlock_ge OW6.out hk)
                    have lB6 := BK6.out.1
                    clear SR6
                    go_wp2_with (at_builtin; go_loud (refine wpList_append_lies _ rfl _ _ 24 rfl w.heap.size 2 i0 (.int .i64 0) 1 8 Try.underlying24 hif hz0 hz1 hz2 rfl (by decide) (.slice a6 Q.length c6) Q.length (nums Q.length (lf Q)) rfl (ownsRow_below OW6.out ((Below.refl _ _).alloc (Nat.le_refl _) _)) ⟨w6.heap.size, 0, none⟩ 1 1 [.int .i64 y] rfl rfl (news1 w6 y) (by intro u hu; simp only [List.mem_cons, List.mem_nil_iff, or_false] at hu; subst hu; rfl) (by omega) (by unfold maxLen; omega) (by omega) (by simp; omega) (w6.heap.size + 1) (by simp) ?_); intro g9 cap9 w9 hown9 hgrow9 hat9 hlt9)
                    have HB9 : Hid (Below w.heap.size w w9) := (HB6.out.alloc z6 _).grown hgrow9 (by simp; omega) (fun k hk => HGE.out k hk)
                    have OW9 : Hid (w9.ownsRow w.heap.size 2 1 (.slice (some ⟨g9, 0, none⟩) (Q.length + 1) cap9) (Q ++ [y]).length (nums (Q ++ [y]).length (lf (Q ++ [y])))) := Lib.hid (by
                      rw [show (Q ++ [y]).length = Q.length + 1 by simp, ← nums_snoc]; exact hown9)
                    have BK9 := Lib.hid (blk_grown (BK6.out.alloc _) hgrow9 NE.out)
                    have NE9 : Hid ((Value.slice (some ⟨g9, 0, none⟩) (Q.length + 1) cap9).ownBlock ≠ some B1) := Lib.hid (fun e => by
                      have e' : g9 = B1 := by simpa [Value.ownBlock] using e
                      rcases hat9 with he | he
                      · exact NE.out (by rw [he, e'])
                      · omega)
                    clear hown9 hgrow9 hat9
                    go_wp2
                    go_roundw
                    case rel => first | exact ⟨k + 1, Q ++ [y], by omega, by go_num, HB9, OW9, BK9, NE9, HQ'⟩ | ((repeat apply Exists.intro); exact ⟨⟨k + 1, Q ++ [y], by omega, by go_num, HB9, OW9, BK9, NE9, HQ'⟩, rfl⟩)
                    case measure => simp [intOf]; omega
              · have HQ' : Hid (Q = addNew O (nz (ptL t (k + 1)))) := Lib.hid (by rw [ptL_no (by omega)]; exact HQ.out)
                have HR1 : Hid (false = (t.m / P2 k % 2 == 1)) := Lib.hid (by rw [hd]; rfl)
                clear hd
                go_wp2_with fail
                refine (l2Pointer_at B1 0 k t.m false _ z1 HM.out (by omega) HR1.out).mono ?_
                rintro e w5 ⟨rfl, q5, rfl⟩
                have HB6 := Lib.hid (HDR.out q5); have OW6 := Lib.hid (OWD.out q5); have BK6 := Lib.hid (BKD.out q5)
                clear x0 x1 x2 x3 x4 z1 lB1 hck FV HDR OWD BKD
                generalize wr.drewN q5 = w6 at *
                go_wp2
                go_roundw
                case rel => first | exact ⟨k + 1, Q, by omega, by go_num, HB6, OW6, BK6, NE, HQ'⟩ | ((repeat apply Exists.intro); exact ⟨⟨k + 1, Q, by omega, by go_num, HB6, OW6, BK6, NE, HQ'⟩, rfl⟩)
                case measure => simp [intOf]; omega
            · have hks : ¬ (k : Int) < t.s := by have := HSZ.out; omega
              have hkE : k = t.n := by omega
              have HMC' : Hid (MC i S K T (j + 1) Q) := Lib.hid (by rw [HQ.out, hkE]; exact HSTEP.out)
              clear hsr
              go_wp2
              go_roundw
              case rel => first | exact ⟨j + 1, Q, by go_num, by omega, HBr, OWr, HMC'⟩ | ((repeat apply Exists.intro); exact ⟨⟨j + 1, Q, by go_num, by omega, HBr, OWr, HMC'⟩, rfl⟩)
              case measure => simp [intOf]; omega
        · have hlt' : ¬ (j : Int) < (O.length : Int) := by omega
          have HRet := Lib.hid (retInts_of_row OW_r.out HB_r.out)
          have HE := Lib.hid (mc_done HMC.out hjo)
          clear hs5
          go_wp2
          go_ret
          rw [HE.out]
          exact HRet.out
end Go.Proofs.Ytaenbjilcgpgcaa

namespace Go.Proofs.Ytaenbjilcgpgcaa
open Go.RowKit Go.Maps
set_option linter.unusedVariables false

/-- A pointer to a node of a row. -/
def ptrV (na : Option Addr) (i : Nat) : Value := match na with | some ⟨b, q, s⟩ => .pointer (some ⟨b, q + i * 5, s⟩) | none => .pointer none

def ptrS (na : Option Addr) (K : Nat) (T : Nat → GM) (O : List Int) : List Value := O.map fun x => ptrV na (ixN T x K)

def nv1 : Nat → Int := fun i => (i : Int) + 1

theorem ptrS_snoc (na : Option Addr) (K : Nat) (T : Nat → GM) (O : List Int) (x : Int) : ptrS na K T (O ++ [x]) = ptrS na K T O ++ [ptrV na (ixN T x K)] := by simp [ptrS]

/-- What is reached so far, as the program has it: in the block rb, with the map mb and the row v. -/
structure RN (w : World) (base rb mb : Nat) (v : Value) (na : Option Addr) (K : Nat) (T : Nat → GM) (O : List Int) : Prop where
  blk : Blk w rb [v, .map (some mb)]
  hrb : base ≤ rb
  hmb : base ≤ mb
  hne : mb ≠ rb
  vr : v.ownBlock ≠ some rb
  vm : v.ownBlock ≠ some mb
  row : w.ownsRow base 143 1 v O.length (ptrS na K T O)
  map : MapT w mb O.length O nv1

section

variable {w w' : World} {base rb mb : Nat} {v : Value} {na : Option Addr} {K : Nat} {T : Nat → GM} {O : List Int}

theorem RN.below (h : RN w base rb mb v na K T O) (hb : Below w.heap.size w w') : RN w' base rb mb v na K T O :=
  ⟨h.blk.below hb, h.hrb, h.hmb, h.hne, h.vr, h.vm, ownsRow_below h.row hb, h.map.below hb⟩

end

/-- What adding leaves as it was. -/
def AddQ (w w' : World) (rb mb : Nat) (v v' : Value) : Prop := (∀ k, k < w.heap.size → k ≠ rb → k ≠ mb → v.ownBlock ≠ some k → w'.heap[k]? = w.heap[k]?) ∧ (v'.ownBlock = v.ownBlock ∨ ∀ k, v'.ownBlock = some k → w.heap.size ≤ k)

theorem Try.infoPN : (Try.prog.info? 143).map (fun i => (i.zero, i.size, i.bytes)) = some (some (.pointer none), 1, 8) := by kernel_rfl

theorem Try.underlyingPN : Try.prog.underlying 139 = some (.slice 143) := by kernel_rfl

theorem newsP (w : World) (x : Value) : ∀ (j : Nat) (u : Value), ([x] : List Value)[j]? = some u → (w.alloc (.cells #[x] 143)).cell? ((⟨w.heap.size, 0, none⟩ : Addr).add j) = some u := fun j u hu => by
  match j, hu with
  | 0, hu => exact (Blk.new w #[x] 143).at 0 hu
  | j + 1, hu => simp at hu

theorem nmM_pos {R : List Int} {x : Int} (h : x ∈ R) : (nmM R x != 0) = true := by
  obtain ⟨j, _, e, _⟩ := nmM_in h
  rw [e]; simp; omega

set_option maxRecDepth 100000 in
set_option maxHeartbeats 1600000 in
theorem addN_nil (base rb mb : Nat) (v : Value) (na : Option Addr) (K : Nat) (T : Nat → GM) (O : List Int) (w : World) (h : RN w base rb mb v na K T O) (hz : base ≤ w.heap.size) :
    Calls Try.prog 151 #[.pointer (some ⟨rb, 0, none⟩), .pointer none] w fun e w' => e = .returned (.tuple #[]) ∧ Below base w w' ∧ w.heap.size ≤ w'.heap.size ∧ AddQ w w' rb mb v v ∧ RN w' base rb mb v na K T O := by
  have H := Lib.hid h
  have lB := h.blk.1; have cB0 := h.blk.at 0 rfl; have cB1 := h.blk.at 1 rfl
  clear h
  go_enter Try.func151, Try.ntmps151
  go_wp2_with fail
  go_quiet (fail)
  go_wp2
  refine bodyPost_ret (v := .tuple #[]) (by simp [results, Try.results151, go_sem]) rfl ?_
  have hb := below_drewN (Below.refl w.heap.size w)
  exact ⟨rfl, (hb _).mono hz, (hb _).size, ⟨fun k h1 h2 h3 h4 => (hb _).block k h1, .inl rfl⟩, H.out.below (hb _)⟩

set_option maxRecDepth 100000 in
set_option maxHeartbeats 1600000 in
theorem addN_old (base rb mb : Nat) (v : Value) (b q : Nat) (K : Nat) (T : Nat → GM) (O : List Int) (i : Nat) (t : GM) (w : World) (h : RN w base rb mb v (some ⟨b, q, none⟩) K T O) (hz : base ≤ w.heap.size) (ht : FivG w b (q + i * 5) t) (hl : b < w.heap.size) (hp : -1000000000 ≤ t.at_ ∧ t.at_ ≤ 1000000000) (hin : t.at_ ∈ O) :
    Calls Try.prog 151 #[.pointer (some ⟨rb, 0, none⟩), .pointer (some ⟨b, q + i * 5, none⟩)] w fun e w' => e = .returned (.tuple #[]) ∧ Below base w w' ∧ w.heap.size ≤ w'.heap.size ∧ AddQ w w' rb mb v v ∧ RN w' base rb mb v (some ⟨b, q, none⟩) K T O := by
  have H := Lib.hid h
  have lB := h.blk.1; have cB0 := h.blk.at 0 rfl; have cB1 := h.blk.at 1 rfl
  obtain ⟨x0, x1, x2, x3, x4⟩ := ht
  have hlk := fun q => (h.map.drewN q).look hp
  have hnv : nv1 = fun i : Nat => (i : Int) + 1 := rfl
  have e1 : (tab O nv1 t.at_).getD 0 = nmM O t.at_ := by rw [hnv]; exact tab_nmM O t.at_
  rw [e1] at hlk
  have hne := nmM_pos hin
  generalize nmM O t.at_ = nm at *
  clear h e1 hnv
  go_enter Try.func151, Try.ntmps151
  go_wp2_with fail
  go_quiet (fail)
  clear hlk
  go_wp2
  refine bodyPost_ret (v := .tuple #[]) (by simp [results, Try.results151, go_sem]) rfl ?_
  have hb := below_drewN (Below.refl w.heap.size w)
  exact ⟨rfl, (hb _).mono hz, (hb _).size, ⟨fun k h1 h2 h3 h4 => (hb _).block k h1, .inl rfl⟩, H.out.below (hb _)⟩

set_option maxRecDepth 100000 in
set_option maxHeartbeats 3200000 in
theorem addN_new (base rb mb : Nat) (v : Value) (b q : Nat) (K : Nat) (T : Nat → GM) (O : List Int) (i : Nat) (t : GM) (w : World) (h : RN w base rb mb v (some ⟨b, q, none⟩) K T O) (hz : base ≤ w.heap.size) (ht : FivG w b (q + i * 5) t) (hl : b < base) (hp : -1000000000 ≤ t.at_ ∧ t.at_ ≤ 1000000000) (hin : t.at_ ∉ O) (hix : ixN T t.at_ K = i) (ho : O.length ≤ 400) :
    Calls Try.prog 151 #[.pointer (some ⟨rb, 0, none⟩), .pointer (some ⟨b, q + i * 5, none⟩)] w fun e w' => e = .returned (.tuple #[]) ∧ Below base w w' ∧ w.heap.size ≤ w'.heap.size ∧ ∃ v', AddQ w w' rb mb v v' ∧ RN w' base rb mb v' (some ⟨b, q, none⟩) K T (O ++ [t.at_]) := by
  have H := Lib.hid h
  have B0 := Lib.hid h.blk
  have M0 := Lib.hid h.map
  have hrbl : rb < w.heap.size := h.blk.1
  have hmbl : mb < w.heap.size := h.map.lt
  have hr1 := h.hrb; have hm1 := h.hmb; have hne := h.hne
  have lB := h.blk.1; have cB0 := h.blk.at 0 rfl; have cB1 := h.blk.at 1 rfl
  have HT := Lib.hid ht
  have HP := Lib.hid hp; have HIN := Lib.hid hin; have HIX := Lib.hid hix
  obtain ⟨x0, x1, x2, x3, x4⟩ := ht
  have hlk := fun q => (h.map.drewN q).look hp
  have hnv : nv1 = fun i : Nat => (i : Int) + 1 := rfl
  have e1 : (tab O nv1 t.at_).getD 0 = 0 := by rw [hnv]; exact (tab_nmM O t.at_).trans (nmM_zero hin)
  rw [e1] at hlk
  obtain ⟨j0, hif, hj0, hj1, hj2⟩ := info_parts Try.infoPN
  obtain ⟨av, kv, rfl⟩ : ∃ av kv, v = .slice av O.length kv := by
    obtain ⟨a, c, e, _⟩ := row_shape h.row
    exact ⟨a, c, e⟩
  clear h e1 hnv hp hin hix
  go_enter Try.func151, Try.ntmps151
  go_wp2_with fail
  go_quiet (fail)
  clear hlk
  have HB1 := Lib.hid (below_drewN (Below.refl w.heap.size w) nq)
  have B1 := Lib.hid (B0.out.below (drewN_below w nq)); have M1 := Lib.hid (M0.out.drewN nq)
  have OW1 := Lib.hid (ownsRow_below H.out.row (drewN_below w nq))
  have z1 : w.heap.size = (w.drewN nq).heap.size := by simp
  have T1 := Lib.hid (HT.out.below (drewN_below w nq) (by omega))
  clear x0 x1 x2 x3 x4 lB cB0 cB1 B0 M0
  generalize w.drewN nq = w1 at *
  have lB := B1.out.1; have cB0 := B1.out.at 0 rfl; have fB0 := B1.out.free 0 rfl; have cB1 := B1.out.at 1 rfl
  go_wp2_with (at_builtin; go_loud (refine wpList_append_lies _ rfl _ _ 139 rfl base 143 j0 _ 1 8 Try.underlyingPN hif hj0 hj1 hj2 rfl (by decide) (.slice av O.length kv) O.length (ptrS (some ⟨b, q, none⟩) K T O) rfl (OW1.out.alloc _) ⟨w1.heap.size, 0, none⟩ 1 1 [.pointer (some ⟨b, q + i * 5, none⟩)] rfl rfl (newsP w1 _) (by intro u hu; simp only [List.mem_cons, List.mem_nil_iff, or_false] at hu; subst hu; rfl) (by omega) (by unfold maxLen; omega) (by omega) (by simp; omega) (w1.heap.size + 1) (by simp) ?_); intro g9 cap9 w9 hown9 hgrow9 hat9 hlt9; have T9 := Lib.hid (blk_grown (B1.out.alloc _) hgrow9 H.out.vr); have l9 := T9.out.1; have d90 := T9.out.at 0 rfl; have e90 := T9.out.free 0 rfl; have d91 := T9.out.at 1 rfl)
  have HB9 : Hid (Below base w w9) := Lib.hid (((HB1.out.mono hz).alloc (by omega) _).grown hgrow9 (by simp; omega) (fun k hk => (OW1.out.lt k hk).1))
  have hz9 : w.heap.size ≤ w9.heap.size := by have := hgrow9.size; simp at this; omega
  have hg9r : g9 ≠ rb := by
    rcases hat9 with he | he
    · intro e; exact H.out.vr (by rw [he, e])
    · omega
  have hg9m : g9 ≠ mb := by
    rcases hat9 with he | he
    · intro e; exact H.out.vm (by rw [he, e])
    · omega
  have HQ9 : Hid (∀ k, k < w.heap.size → (Value.slice av O.length kv).ownBlock ≠ some k → w9.heap[k]? = w.heap[k]?) := Lib.hid (fun k hk hv => by
    have e1 := HB1.out.block k hk
    have e2 := ((Below.refl w1.heap.size w1).alloc (Nat.le_refl _) (.cells #[.pointer (some ⟨b, q + i * 5, none⟩)] 143)).block k (by omega)
    have e3 := hgrow9.block k (by simp; omega) (fun e => hv e.symm)
    exact e3.trans (e2.trans e1))
  have HG9 : Hid ((Value.slice (some ⟨g9, 0, none⟩) (O.length + 1) cap9).ownBlock = (Value.slice av O.length kv).ownBlock ∨ ∀ k, (Value.slice (some ⟨g9, 0, none⟩) (O.length + 1) cap9).ownBlock = some k → w.heap.size ≤ k) := Lib.hid (by
    rcases hat9 with he | he
    · exact .inl he.symm
    · refine .inr fun k hk => ?_
      have : g9 = k := by simpa [Value.ownBlock] using hk
      omega)
  have M9 := Lib.hid ((M1.out.alloc (.cells #[.pointer (some ⟨b, q + i * 5, none⟩)] 143)).grown hgrow9 H.out.vm)
  have OW9 := Lib.hid hown9
  clear hown9 hgrow9 hat9 lB cB0 fB0 cB1 B1 M1 OW1 HB1 T1 z1
  go_wp2_with fail
  have BA := Lib.hid (T9.out.set 0 (by simp) (.slice (some ⟨g9, 0, none⟩) (O.length + 1) cap9))
  have OWA := Lib.hid (ownsRow_setCell_other (a := ⟨rb, 0, none⟩) OW9.out (fun e => hg9r (by simpa [Value.ownBlock] using e)) (.slice (some ⟨g9, 0, none⟩) (O.length + 1) cap9))
  have MA := Lib.hid (M9.out.set (p := ⟨rb, 0, none⟩) hne (.slice (some ⟨g9, 0, none⟩) (O.length + 1) cap9))
  have HBA : Hid (Below base w (w9.setCell ⟨rb, 0, none⟩ (.slice (some ⟨g9, 0, none⟩) (O.length + 1) cap9))) := Lib.hid (HB9.out.setCell hr1 _)
  have zA : w.heap.size ≤ (w9.setCell ⟨rb, 0, none⟩ (.slice (some ⟨g9, 0, none⟩) (O.length + 1) cap9)).heap.size := by simpa using hz9
  have HQA : Hid (∀ k, k < w.heap.size → k ≠ rb → (Value.slice av O.length kv).ownBlock ≠ some k → (w9.setCell ⟨rb, 0, none⟩ (.slice (some ⟨g9, 0, none⟩) (O.length + 1) cap9)).heap[k]? = w.heap[k]?) := Lib.hid (fun k hk hr hv => (Below.heap_setCell _ _ _ k hr).trans (HQ9.out k hk hv))
  clear T9 l9 d90 e90 d91 OW9 M9 HB9 HQ9
  generalize w9.setCell ⟨rb, 0, none⟩ (.slice (some ⟨g9, 0, none⟩) (O.length + 1) cap9) = wA at *
  have TA := HT.out.block (HBA.out.block b hl)
  have lBA := BA.out.1; have cA0 := BA.out.at 0 rfl; have cA1 := BA.out.at 1 rfl
  have hlA : b < wA.heap.size := by omega
  obtain ⟨y0, y1, y2, y3, y4⟩ := TA
  go_still_tail 13, (by kernel_rfl)
  change wpList _ _ _ _ _ wA.drew
  clear lBA cA0 cA1 y0 y1 y2 y3 y4 hlA
  have B2 := Lib.hid BA.out.drew; have M2 := Lib.hid MA.out.drew
  have OW2 : Hid (wA.drew.ownsRow base 143 1 (.slice (some ⟨g9, 0, none⟩) (O.length + 1) cap9) (O.length + 1) (ptrS (some ⟨b, q, none⟩) K T O ++ [.pointer (some ⟨b, q + i * 5, none⟩)])) := Lib.hid (ownsRow_below OWA.out (Below.refl _ _).drew)
  have HB2 := Lib.hid HBA.out.drew
  have z2 : w.heap.size ≤ wA.drew.heap.size := by simpa using zA
  have HQ2 : Hid (∀ k, k < w.heap.size → k ≠ rb → (Value.slice av O.length kv).ownBlock ≠ some k → wA.drew.heap[k]? = w.heap[k]?) := Lib.hid (fun k hk hr hv => HQA.out k hk hr hv)
  clear BA MA OWA HBA zA HQA
  generalize wA.drew = w2 at *
  have en : nv1 O.length = (O.length : Int) + 1 := rfl
  obtain ⟨w3, hr3, hm3, hg3⟩ := M2.out.update (by unfold maxLen; omega) HP.out (by rw [en]; constructor <;> omega) HIN.out
  rw [en] at hr3
  have HB3 : Hid (Below base w w3) := Lib.hid (HB2.out.grown hg3 (by omega) (fun k hk => by cases hk; exact hm1))
  have hz3 : w.heap.size ≤ w3.heap.size := by have := hg3.size; omega
  have B3 := Lib.hid (blk_grown B2.out hg3 (by simp; omega))
  have M3 := Lib.hid hm3
  have OW3 := Lib.hid (OW2.out.kept hg3 (.inr (fun e => hg9m (by simpa [Value.ownBlock] using e))))
  have HQ3 : Hid (AddQ w w3 rb mb (.slice av O.length kv) (.slice (some ⟨g9, 0, none⟩) (O.length + 1) cap9)) := Lib.hid ⟨fun k hk hr hm hv => (hg3.block k (by omega) (by simp; omega)).trans (HQ2.out k hk hr hv), HG9.out⟩
  clear B2 M2 OW2 HB2 hm3 hg3 en HQ2 HG9
  go_wp2
  refine bodyPost_end (v := .tuple #[]) (by simp [results, Try.results151, go_sem]) rfl ?_
  refine ⟨rfl, HB3.out, hz3, .slice (some ⟨g9, 0, none⟩) (O.length + 1) cap9, HQ3.out, B3.out, hr1, hm1, hne, fun e => hg9r (by simpa [Value.ownBlock] using e), fun e => hg9m (by simpa [Value.ownBlock] using e), ?_, ?_⟩
  · rw [ptrS_snoc, HIX.out, List.length_append]
    exact OW3.out
  · rw [List.length_append]
    exact M3.out

/-- What nodeWith answers is added. -/
theorem addN_any (base rb mb : Nat) (v : Value) (na : Option Addr) (K : Nat) (T : Nat → GM) (O : List Int) (y : Int) (pv : Value) (w : World) (h : RN w base rb mb v na K T O) (hz : base ≤ w.heap.size)
    (hp : (y = 0 ∧ pv = .pointer none) ∨ ∃ i b q, i < K ∧ (T i).at_ = y ∧ na = some ⟨b, q, none⟩ ∧ b < base ∧ pv = .pointer (some ⟨b, q + i * 5, none⟩)) (hg : NV w na K T) (hr : MRise K T) (hi : ∀ i, i < K → 1 ≤ (T i).at_ ∧ (T i).at_ ≤ 9999) (ho : O.length ≤ 400) :
    Calls Try.prog 151 #[.pointer (some ⟨rb, 0, none⟩), pv] w fun e w' => e = .returned (.tuple #[]) ∧ Below base w w' ∧ w.heap.size ≤ w'.heap.size ∧ ∃ v', AddQ w w' rb mb v v' ∧ RN w' base rb mb v' na K T (add1z O y) := by
  rcases hp with ⟨rfl, rfl⟩ | ⟨i, b, q, hiK, rfl, rfl, hb, rfl⟩
  · refine (addN_nil base rb mb v na K T O w h hz).mono ?_
    rintro e w' ⟨h1, h2, h3, h5, h4⟩
    exact ⟨h1, h2, h3, v, h5, by rw [add1z_zero]; exact h4⟩
  · have hid := hi i hiK
    obtain ⟨b', q', e, lb, hf, _⟩ := nv_get hg hiK
    simp only [Option.some.injEq, Addr.mk.injEq, and_true] at e
    obtain ⟨rfl, rfl⟩ := e
    by_cases hin : (T i).at_ ∈ O
    · refine (addN_old base rb mb v b q K T O i (T i) w h hz hf lb (by omega) hin).mono ?_
      rintro e w' ⟨h1, h2, h3, h5, h4⟩
      exact ⟨h1, h2, h3, v, h5, by rw [add1z_in (by omega) hin]; exact h4⟩
    · refine (addN_new base rb mb v b q K T O i (T i) w h hz hf hb (by omega) hin (ixN_eq hr hiK rfl) ho).mono ?_
      rintro e w' ⟨h1, h2, h3, v', h5, h4⟩
      exact ⟨h1, h2, h3, v', h5, by rw [add1z_new (by omega) hin]; exact h4⟩
end Go.Proofs.Ytaenbjilcgpgcaa

namespace Go.Proofs.Ytaenbjilcgpgcaa
open Go.RowKit
set_option linter.unusedVariables false

set_option maxRecDepth 100000 in
set_option maxHeartbeats 1600000 in
theorem specRO_any (te qu ha : Int) (sa : Option Addr) (M kc : Nat) (S : Nat → SL) (na : Option Addr) (K nc : Nat) (T : Nat → GM) (c : Int) (w : World)
    (hp : PV w sa M S) (hg : NV w na K T) (hM : M ≤ 1048576) (hK : K ≤ 1048576) (hn : ∀ i, i < K → (T i).n ≤ 1048576) (hk : IsMF te qu ha M S K T c) :
    Calls Try.prog 43 #[.agg #[.int .i64 te, .int .i64 qu, .int .i64 ha, .slice sa M kc, .slice na K nc]] w (RetIR w c (outRO M S K T c).length (lf (outRO M S K T c))) := by
  have P0 := Lib.hid hp; have G0 := Lib.hid hg; have HN := Lib.hid hn; have HK := Lib.hid hk
  have HB0 := Lib.hid (((Below.refl w.heap.size w).alloc (Nat.le_refl _) (.cells #[.int .i64 te, .int .i64 qu, .int .i64 ha, .slice sa M kc, .slice na K nc] 54)).alloc (by simp) (.cells #[.int .i64 0, .slice none 0 0] 35))
  have A_0 := Lib.hid ((Blk.new_at (w := w) (cs := #[.int .i64 te, .int .i64 qu, .int .i64 ha, .slice sa M kc, .slice na K nc]) (t := 54) w.heap.size rfl).alloc (.cells #[.int .i64 0, .slice none 0 0] 35))
  have R_0 := Lib.hid (Blk.new_at (w := w.alloc (.cells #[.int .i64 te, .int .i64 qu, .int .i64 ha, .slice sa M kc, .slice na K nc] 54)) (cs := #[.int .i64 0, .slice none 0 0]) (t := 35) (w.heap.size + 1) (by simp))
  clear hp hg hn hk
  go_enter Try.func43, Try.ntmps43
  go_wp2_with fail
  refine (specMF_any te qu ha sa M kc S na K nc T c _ (P0.out.below HB0.out) (G0.out.below HB0.out) hM hK HN.out HK.out).mono ?_
  rintro e w1 ⟨rfl, hb⟩
  have HB1 := Lib.hid (thru0 HB0.out hb)
  have A_1 := Lib.hid (A_0.out.below hb); have R_1 := Lib.hid (R_0.out.below hb)
  have z1 : w.heap.size + 2 ≤ w1.heap.size := by have := R_1.out.1; omega
  clear hb A_0 R_0 HB0
  by_cases h0 : c = 0
  · subst h0
    have HOK := Lib.hid (isMF_zero HK.out)
    have hl := HOK.out.len
    go_wp2_with fail
    refine (l5Reach_any w.heap.size 0 te qu ha sa M kc S na K nc T _ (mat_blk A_1.out) (P0.out.below HB1.out) (G0.out.below HB1.out) (by have := hl.1.2; omega) (by have := hl.2.2; omega) HOK.out.wk.nd HOK.out.rise HOK.out.lead).mono ?_
    rintro e w2 ⟨ra, rc, rfl, ho, hb, -, -, -⟩
    have HB2 := Lib.hid (thru0 HB1.out hb)
    have R_2 := Lib.hid (R_1.out.below hb)
    have HO := Lib.hid ho
    clear hb A_1 R_1 HB1 ho
    have r0 := R_2.out.at 0 rfl; have f0 := R_2.out.free 0 rfl; have r1 := R_2.out.at 1 rfl; have f1 := R_2.out.free 1 rfl; have lR := R_2.out.1
    have HE : Hid (outRO M S K T 0 = reachM M S K T) := Lib.hid rfl
    generalize reachM M S K T = R at *
    go_wp2
    refine bodyPost_ret (v := .agg #[.int .i64 0, .slice ra R.length rc]) (by simp [results, Try.results43, go_sem, r0, r1]) rfl ?_
    rw [HE.out]
    refine ⟨ra, rc, rfl, ?_, ?_⟩
    · refine Own.mono (B := w.heap.size + 2) ?_ (by omega)
      repeat (first | (with_reducible refine Own.setCell ?_ (by (try simp); (try omega)) _) | (with_reducible refine Own.alloc ?_ _) | (with_reducible refine Own.drew ?_))
      exact HO.out.mono z1
    repeat (first | (with_reducible refine Below.setCell ?_ (by (try simp); (try omega)) _) | (with_reducible refine Below.alloc ?_ (by (try simp); (try omega)) _) | (with_reducible refine Below.drew ?_))
    exact HB2.out
  · have h0' : (c != 0) = true := by simpa using h0
    have HE : Hid (outRO M S K T c = []) := Lib.hid (if_neg h0)
    clear h0
    have r0 := R_1.out.at 0 rfl; have f0 := R_1.out.free 0 rfl; have r1 := R_1.out.at 1 rfl; have f1 := R_1.out.free 1 rfl; have lR := R_1.out.1
    go_wp2
    refine bodyPost_ret (v := .agg #[.int .i64 c, .slice none 0 0]) (by simp [results, Try.results43, go_sem, r0, r1]) rfl ?_
    rw [HE.out]
    refine ⟨none, 0, rfl, .inl rfl, ?_⟩
    repeat (first | (with_reducible refine Below.setCell ?_ (by (try simp); (try omega)) _) | (with_reducible refine Below.alloc ?_ (by (try simp); (try omega)) _) | (with_reducible refine Below.drew ?_))
    exact HB1.out

theorem specRO_is (te qu ha : Int) (sa : Option Addr) (M kc : Nat) (S : Nat → SL) (na : Option Addr) (K nc : Nat) (T : Nat → GM) (c : Int) (n : Nat) (L : Nat → Int) (w : World)
    (hp : PV w sa M S) (hg : NV w na K T) (hM : M ≤ 1048576) (hK : K ≤ 1048576) (hn : ∀ i, i < K → (T i).n ≤ 1048576) (hk : IsMF te qu ha M S K T c) (h1 : (outRO M S K T c).length = n) (h2 : lf (outRO M S K T c) = L) :
    Calls Try.prog 43 #[.agg #[.int .i64 te, .int .i64 qu, .int .i64 ha, .slice sa M kc, .slice na K nc]] w (RetIR w c n L) := by
  subst h1 h2
  exact specRO_any te qu ha sa M kc S na K nc T c w hp hg hM hK hn hk
end Go.Proofs.Ytaenbjilcgpgcaa

namespace Go.Proofs.Ytaenbjilcgpgcaa
open Go.RowKit Go.Maps
set_option linter.unusedVariables false

/-- A row of pointers to the nodes of a list. -/
def PR (w : World) (na : Option Addr) (K : Nat) (T : Nat → GM) (ra : Option Addr) (R : List Int) : Prop :=
  R.length = 0 ∨ ∃ rb ro, ra = some ⟨rb, ro, none⟩ ∧ rb < w.heap.size ∧ ∀ i, i < R.length → w.cell? ⟨rb, ro + i, none⟩ = some (ptrV na (ixN T (lf R i) K))

theorem PR.below {w w' : World} {na : Option Addr} {K : Nat} {T : Nat → GM} {ra : Option Addr} {R : List Int} (h : PR w na K T ra R) (hb : Below w.heap.size w w') : PR w' na K T ra R := by
  rcases h with h | ⟨rb, ro, e, hl, hc⟩
  · exact .inl h
  · exact .inr ⟨rb, ro, e, Nat.lt_of_lt_of_le hl hb.size, fun i hi => (hb.cell (p := ⟨rb, ro + i, none⟩) hl).trans (hc i hi)⟩

theorem pr_of_row {w : World} {base : Nat} {v : Value} {na : Option Addr} {K : Nat} {T : Nat → GM} {O : List Int} (h : w.ownsRow base 143 1 v O.length (ptrS na K T O)) : ∃ a c, v = .slice a O.length c ∧ PR w na K T a O := by
  obtain ⟨a, c, rfl, _⟩ := row_shape h
  refine ⟨a, c, rfl, ?_⟩
  rcases Nat.eq_zero_or_pos O.length with h0 | hp
  · exact .inl h0
  · obtain ⟨g, cap, e, hb, hlt⟩ := h.form hp
    simp only [Value.slice.injEq] at e
    obtain ⟨rfl, -, rfl⟩ := e
    refine .inr ⟨g, 0, rfl, hlt, fun i hi => ?_⟩
    have hc := h.cellAt i (by omega)
    rw [show (ptrS na K T O)[i]? = some (ptrV na (ixN T (lf O i) K)) by unfold ptrS; rw [List.getElem?_map, List.getElem?_eq_getElem hi, lf_at hi]; rfl] at hc
    simpa using hc

/-- What is reached, as the program has it. -/
def RetRP (W : World) (na : Option Addr) (K : Nat) (T : Nat → GM) (R : List Int) (e : Ending) (w' : World) : Prop :=
  ∃ ra rc mb, e = .returned (.agg #[.slice ra R.length rc, .map (some mb)]) ∧ PR w' na K T ra R ∧ MapT w' mb R.length R nv1 ∧ Below W.heap.size W w' ∧ W.heap.size ≤ mb

theorem nw_in {W : World} {na : Option Addr} {K : Nat} {T : Nat → GM} {y : Int} {e : Ending} {w' : World} {base : Nat} (h : RetNW W na K T y e w') (hb : ∀ b q, na = some ⟨b, q, none⟩ → 0 < K → b < base) (hy : y = 0 ∨ Has K T y) (hi : ∀ i, i < K → 1 ≤ (T i).at_ ∧ (T i).at_ ≤ 9999) :
    Below W.heap.size W w' ∧ ∃ pv, e = .returned pv ∧ ((y = 0 ∧ pv = .pointer none) ∨ ∃ i b q, i < K ∧ (T i).at_ = y ∧ na = some ⟨b, q, none⟩ ∧ b < base ∧ pv = .pointer (some ⟨b, q + i * 5, none⟩)) := by
  obtain ⟨h1, ⟨i, b, q, h2, h3, h4, h5⟩ | ⟨h2, h3⟩⟩ := h
  · exact ⟨h1, _, h5, .inr ⟨i, b, q, h2, h3, h4, hb b q h4 (by omega), rfl⟩⟩
  · rcases hy with rfl | hy
    · exact ⟨h1, _, h3, .inl ⟨rfl, rfl⟩⟩
    · exact absurd hy h2

/-- A row that adding leaves as it is. -/
def Apart (w : World) (a : Option Addr) (n rb mb : Nat) (v : Value) : Prop := n = 0 ∨ ∃ b o, a = some ⟨b, o, none⟩ ∧ b ≠ rb ∧ b ≠ mb ∧ v.ownBlock ≠ some b ∧ b < w.heap.size

theorem Apart.size {w w' : World} {a : Option Addr} {n rb mb : Nat} {v : Value} (h : Apart w a n rb mb v) (hz : w.heap.size ≤ w'.heap.size) : Apart w' a n rb mb v := by
  rcases h with h | ⟨b, o, h1, h2, h3, h4, h5⟩
  · exact .inl h
  · exact .inr ⟨b, o, h1, h2, h3, h4, by omega⟩

theorem Apart.addq {w w' : World} {a : Option Addr} {n rb mb : Nat} {v v' : Value} (h : Apart w a n rb mb v) (hq : AddQ w w' rb mb v v') (hz : w.heap.size ≤ w'.heap.size) : Apart w' a n rb mb v' := by
  rcases h with h | ⟨b, o, h1, h2, h3, h4, h5⟩
  · exact .inl h
  · refine .inr ⟨b, o, h1, h2, h3, fun e => ?_, by omega⟩
    rcases hq.2 with e2 | e2
    · exact h4 (e2 ▸ e)
    · have := e2 b e; omega

theorem src_addq {w w' : World} {a : Option Addr} {n rb mb : Nat} {f : Nat → Int} {v v' : Value} (hs : Src w a n f) (h : Apart w a n rb mb v) (hq : AddQ w w' rb mb v v') (hz : w.heap.size ≤ w'.heap.size) : Src w' a n f := by
  rcases hs with h0 | ⟨b, o, e, hl, hc⟩
  · exact .inl h0
  · rcases h with h0 | ⟨b', o', e', h2, h3, h4, h5⟩
    · exact .inl h0
    · rw [e] at e'
      simp only [Option.some.injEq, Addr.mk.injEq, and_true] at e'
      obtain ⟨rfl, rfl⟩ := e'
      exact .inr ⟨b, o, e, by omega, fun i hi => (World.cell?_of_block (w := w) (a := ⟨b, o + i, none⟩) (hq.1 b hl h2 h3 h4)).trans (hc i hi)⟩

theorem apart_new {w : World} {B n rb mb : Nat} {a : Option Addr} {f : Nat → Int} {v : Value} (h : Own w B a n f) (hr : rb < B) (hm : mb < B) (hv : ∀ k, v.ownBlock = some k → k < B) : Apart w a n rb mb v := by
  rcases h with h0 | ⟨b, o, e, hB, hl, hc⟩
  · exact .inl h0
  · exact .inr ⟨b, o, e, by omega, by omega, fun e => by have := hv b e; omega, hl⟩

theorem RN.blocks {w : World} {base rb mb : Nat} {v : Value} {na : Option Addr} {K : Nat} {T : Nat → GM} {O : List Int} (h : RN w base rb mb v na K T O) : ∀ k, v.ownBlock = some k → k < w.heap.size := fun k hk => (h.row.lt k hk).2

theorem mc_take_len {M : Nat} {S : Nat → SL} {K : Nat} {T : Nat → GM} (hl : MLead M S K T) (i : Nat) : (addNew [] (nz ((slotL M S).take i))).length ≤ K := by
  have hs : ∀ p ∈ addNew [] (nz ((slotL M S).take i)), Has K T p := fun p hp => by
    rcases (mem_addNew _ _ _).1 hp with h1 | h1
    · cases h1
    · obtain ⟨h2, h3⟩ := mem_nz.1 h1
      exact mem_idsM.1 (slotM_sub hl p (mem_nz.2 ⟨List.mem_of_mem_take h2, h3⟩))
  have := nodup_length (nodup_addNew (nz ((slotL M S).take i)) [] List.nodup_nil) (U := idsM K T) (fun x hx => mem_idsM.2 (hs x hx))
  rwa [idsM_len] at this

theorem ptL_has {M : Nat} {S : Nat → SL} {K : Nat} {T : Nat → GM} (hl : MLead M S K T) {i : Nat} (hi : i < K) {y : Int} (hy : y ∈ ptL (T i) (T i).n) : y = 0 ∨ Has K T y := by
  obtain ⟨k, hk, hp, rfl⟩ := mem_ptL.1 hy
  exact hl.2 i hi k hk hp

set_option maxRecDepth 100000 in
set_option maxHeartbeats 3200000 in
theorem reachFS_any (te qu ha : Int) (sa : Option Addr) (M kc : Nat) (S : Nat → SL) (na : Option Addr) (K nc : Nat) (T : Nat → GM) (w : World)
    (hp : PV w sa M S) (hg : NV w na K T) (hok : MOk te qu ha M S K T) :
    Calls Try.prog 90 #[.agg #[.int .i64 te, .int .i64 qu, .int .i64 ha, .slice sa M kc, .slice na K nc]] w (RetRP w na K T (reachM M S K T)) := by
  have P := Lib.hid hp; have G := Lib.hid hg
  have HL := Lib.hid hok.lead; have HRI := Lib.hid hok.rise
  have hM : M ≤ 8 := by have := hok.len.1.2; omega
  have hK : K ≤ 150 := by have := hok.len.2.2; omega
  have HID : Hid (∀ i, i < K → 1 ≤ (T i).at_ ∧ (T i).at_ ≤ 9999) := Lib.hid (fun i hi => (isNode_zero (hok.node i hi)).1.1)
  have HM : Hid (∀ i j, i < j → j < K → (T i).at_ < (T j).at_) := Lib.hid (fun i j h1 h2 => rise_lt hok.rise j i h1 h2)
  have HND : Hid (∀ i, i < K → IsNode (T i) 0) := Lib.hid hok.node
  have HNB : Hid (∀ b q, na = some ⟨b, q, none⟩ → 0 < K → b < w.heap.size + 1 + 1) := Lib.hid (fun b q e h0 => by
    rcases hg with h | ⟨b', q', e', h⟩
    · omega
    · rw [e] at e'
      simp only [Option.some.injEq, Addr.mk.injEq, and_true] at e'
      have := h.lt; omega)
  have hmk := @run_makeMap Try.prog
  clear hp hg hok
  have A_0 := Lib.hid ((Blk.new_at (w := w) (cs := #[.int .i64 te, .int .i64 qu, .int .i64 ha, .slice sa M kc, .slice na K nc]) (t := 54) w.heap.size rfl).alloc (.cells #[.slice none 0 0, .map none] 141))
  have D_0 := Lib.hid (Blk.new_at (w := w.alloc (.cells #[.int .i64 te, .int .i64 qu, .int .i64 ha, .slice sa M kc, .slice na K nc] 54)) (cs := #[.slice none 0 0, .map none]) (t := 141) (w.heap.size + 1) (by simp))
  have HB0 := Lib.hid (((Below.refl w.heap.size w).alloc (Nat.le_refl _) (.cells #[.int .i64 te, .int .i64 qu, .int .i64 ha, .slice sa M kc, .slice na K nc] 54)).alloc (by simp) (.cells #[.slice none 0 0, .map none] 141))
  have zW : ((w.alloc (.cells #[.int .i64 te, .int .i64 qu, .int .i64 ha, .slice sa M kc, .slice na K nc] 54)).alloc (.cells #[.slice none 0 0, .map none] 141)).heap.size = w.heap.size + 1 + 1 := by simp
  go_enter Try.func90, Try.ntmps90
  go_wp2_with fail
  generalize (w.alloc (.cells #[.int .i64 te, .int .i64 qu, .int .i64 ha, .slice sa M kc, .slice na K nc] 54)).alloc (.cells #[.slice none 0 0, .map none] 141) = W0 at *
  have HM1 := Lib.hid ((MapT.made W0 nv1).alloc (.cells #[.slice none 0 0, .map (some (w.heap.size + 1 + 1))] 141))
  rw [zW] at HM1
  have B1 := Lib.hid (Blk.new_at (w := W0.alloc (.map #[] 0)) (cs := #[.slice none 0 0, .map (some (w.heap.size + 1 + 1))]) (t := 141) (w.heap.size + 1 + 1 + 1) (by simp [zW]))
  have HB3 : Hid (Below (w.heap.size + 1 + 1) W0 ((W0.alloc (.map #[] 0)).alloc (.cells #[.slice none 0 0, .map (some (w.heap.size + 1 + 1))] 141))) := Lib.hid (((Below.refl _ _).alloc (by omega) _).alloc (by simp; omega) _)
  have z3 : ((W0.alloc (.map #[] 0)).alloc (.cells #[.slice none 0 0, .map (some (w.heap.size + 1 + 1))] 141)).heap.size = w.heap.size + 1 + 1 + 1 + 1 := by simp [zW]
  generalize (W0.alloc (.map #[] 0)).alloc (.cells #[.slice none 0 0, .map (some (w.heap.size + 1 + 1))] 141) = W3 at *
  generalize hrb : w.heap.size + 1 + 1 + 1 = rb at *
  generalize hmb : w.heap.size + 1 + 1 = mb at *
  have RS0 : Hid (RN W3 mb rb mb (.slice none 0 0) na K T []) := Lib.hid
    ⟨B1.out, by omega, Nat.le_refl _, by omega, by simp [Value.ownBlock], by simp [Value.ownBlock], World.ownsRow_nil _ _ _ _, HM1.out⟩
  have HBW : Hid (∀ wr, Below mb W0 wr → Below w.heap.size w wr) := Lib.hid (fun wr hb => HB0.out.trans (hb.mono (by omega)))
  clear HM1 B1
  refine (slotNodes_any sa M kc S _ (P.out.below (HBW.out _ HB3.out)) (by omega)).mono ?_
  rintro e w1 ⟨xa, xc, rfl, ho, hb, -, -, -⟩
  have HB4 := Lib.hid (HB3.out.trans (hb.mono (by omega)))
  have RS1 := Lib.hid (RS0.out.below hb)
  have AP1 := Lib.hid (apart_new (rb := rb) (mb := mb) (v := .slice none 0 0) ho (by omega) (by omega) (fun k hk => by simp [Value.ownBlock] at hk))
  have XS1 := Lib.hid ho.src
  clear hb ho RS0 HB3
  go_wp2
  go_loopw [15] (fun p wr => ∃ (i : Nat) (v : Value), i ≤ M ∧ p = .int .i64 (i : Int) ∧ Hid (Below mb W0 wr) ∧ Hid (RN wr mb rb mb v na K T (addNew [] (nz ((slotL M S).take i)))) ∧ Hid (Src wr xa M (fun i => (S i).nd)) ∧ Hid (Apart wr xa M rb mb v)) (fun p _ => M - (intOf p).toNat)
  case atStart => exact ⟨0, _, Nat.zero_le _, rfl, HB4, RS1, XS1, AP1⟩
  case round =>
    clear HB4 RS1 XS1 AP1
    obtain ⟨i, v, hi, rfl, HB_r, RS_r, XS_r, AP_r⟩ := hrel
    have hzr : mb ≤ wr.heap.size := by have := RS_r.out.map.lt; omega
    by_cases hlt : i < M
    · have hlt' : (i : Int) < (M : Int) := by omega
      have hi0 : (0 : Int) ≤ (i : Int) := by omega
      obtain ⟨xb, xo, rfl, hxb, hxc⟩ := src_some XS_r.out (by omega)
      have c0 := hxc i hlt
      have A_r := Lib.hid (blk_under A_0.out HB_r.out (by omega))
      have a4 := A_r.out.at 4 rfl; have lA := A_r.out.1
      have HSN := Lib.hid (addz_take (l := slotL M S) (i := i) (by rw [slotL_len]; exact hlt) [])
      obtain ⟨y, hy⟩ : ∃ y, (S i).nd = y := ⟨_, rfl⟩
      have HY : Hid (lf (slotL M S) i = y) := Lib.hid (by rw [slotL_lf hlt, hy])
      have HYH : Hid (y = 0 ∨ Has K T y) := Lib.hid (by rw [← hy]; exact HL.out.1 i hlt)
      have hol := mc_take_len HL.out i
      simp only [hy] at c0
      clear hxc hy A_r
      go_wp2_with fail
      refine (nodeWith_any na K nc T y _ (G.out.below (HBW.out _ HB_r.out)) (by omega) HM.out).mono ?_
      rintro e w4 hnw
      obtain ⟨hb, pv, rfl, hpv⟩ := nw_in hnw HNB.out HYH.out HID.out
      have HPV := Lib.hid hpv
      have HB5 := Lib.hid (HB_r.out.trans (hb.mono hzr))
      have RS5 := Lib.hid (RS_r.out.below hb)
      have XS5 := Lib.hid (XS_r.out.below hb)
      have AP5 := Lib.hid (AP_r.out.size hb.size)
      have z5 : mb ≤ w4.heap.size := by have := hb.size; omega
      clear hb hnw hpv c0 a4 lA hxb HB_r RS_r XS_r AP_r
      go_wp2_with fail
      refine (addN_any mb rb mb v na K T _ y pv _ RS5.out z5 HPV.out (G.out.below (HBW.out _ HB5.out)) HRI.out HID.out (by omega)).mono ?_
      rintro e w6 ⟨rfl, hb, hz, v', hq, hrs⟩
      have HB6 := Lib.hid (HB5.out.trans hb)
      have RS6 : Hid (RN w6 mb rb mb v' na K T (addNew [] (nz ((slotL M S).take (i + 1))))) := Lib.hid (by rw [HSN.out, HY.out]; exact hrs)
      have XS6 := Lib.hid (src_addq XS5.out AP5.out hq hz)
      have AP6 := Lib.hid (AP5.out.addq hq hz)
      clear hb hrs hq HB5 RS5 XS5 AP5 HPV
      go_wp2
      go_roundw
      case rel => first | exact ⟨i + 1, v', by omega, by go_num, HB6, RS6, XS6, AP6⟩ | ((repeat apply Exists.intro); exact ⟨⟨i + 1, v', by omega, by go_num, HB6, RS6, XS6, AP6⟩, rfl⟩)
      case measure => simp [intOf]; omega
    · have hlt' : ¬ (i : Int) < (M : Int) := by omega
      obtain rfl : i = M := by omega
      have HMC : Hid (MC i S K T 0 (addNew [] (nz (slotL i S)))) := Lib.hid (mc_start HL.out)
      have RS2 : Hid (RN wr mb rb mb v na K T (addNew [] (nz (slotL i S)))) := Lib.hid (by
        have e := RS_r.out
        rw [List.take_of_length_le (by rw [slotL_len]; exact Nat.le_refl _)] at e
        exact e)
      clear RS_r XS_r AP_r hzr
      generalize addNew [] (nz (slotL i S)) = O at *
      go_wp2
      go_loopw [6] (fun p wr => ∃ (n : Nat) (v : Value) (O : List Int), n ≤ K ∧ p = .int .i64 (n : Int) ∧ Hid (Below mb W0 wr) ∧ Hid (RN wr mb rb mb v na K T O) ∧ Hid (MC i S K T n O)) (fun p _ => K - (intOf p).toNat)
      case atStart => exact ⟨0, v, O, Nat.zero_le _, rfl, HB_r, RS2, HMC⟩
      case round =>
        clear HB_r RS2 HMC
        obtain ⟨n, v, O, hnK, rfl, HB_r, RS_r, HMC⟩ := hrel
        have hzr : mb ≤ wr.heap.size := by have := RS_r.out.map.lt; omega
        have hoK : O.length ≤ K := mc_len HMC.out
        obtain ⟨av, kv, rfl, hpr⟩ := pr_of_row RS_r.out.row
        have lB := RS_r.out.blk.1; have cB0 := RS_r.out.blk.at 0 rfl; have cB1 := RS_r.out.blk.at 1 rfl
        by_cases hno : n < O.length
        · have hno' : (n : Int) < (O.length : Int) := by omega
          have hn0 : (0 : Int) ≤ (n : Int) := by omega
          have hhas := HMC.out.sub _ (lf_mem hno)
          have HSTEP := Lib.hid (mc_step HL.out HMC.out hno)
          have HPRE := Lib.hid (fun k => mc_in_len HL.out HMC.out hno k)
          rcases hpr with h0 | ⟨ab, ao, rfl, hab, hac⟩
          · omega
          have d0 := hac n hno
          obtain ⟨y, hy⟩ : ∃ y, lf O n = y := ⟨_, rfl⟩
          rw [hy] at d0 hhas HSTEP HPRE
          have hix := ixN_has hhas
          have HT : Hid (nodeM K T y = T (ixN T y K)) := Lib.hid rfl
          unfold ptrM at HSTEP
          rw [HT.out] at HSTEP HPRE
          obtain ⟨x, hx⟩ : ∃ x, ixN T y K = x := ⟨_, rfl⟩
          rw [hx] at hix d0 HSTEP HPRE
          obtain ⟨b, q, rfl, lb, ⟨x0, x1, x2, x3, x4⟩, hsr⟩ := nv_get (G.out.below (HBW.out _ HB_r.out)) hix
          have HSR := Lib.hid hsr
          have HNX := Lib.hid (HND.out x hix)
          have HPH := Lib.hid (fun y hy => ptL_has (y := y) HL.out hix hy)
          have d0' : wr.cell? ⟨ab, ao + n, none⟩ = some (.pointer (some ⟨b, q + x * 5, none⟩)) := d0
          obtain ⟨t, ht⟩ : ∃ t, T x = t := ⟨_, rfl⟩
          rw [ht] at x0 x1 x2 x3 x4 HSR HNX HPH HSTEP HPRE
          have hpl := ptL_len t t.n
          have ht12 : t.n ≤ 12 := by have := (isNode_zero HNX.out).1.2.1.2; have := (isNode_zero HNX.out).2.1; omega
          clear hac hy hhas HT hx hsr d0 ht HMC
          go_wp2_with fail
          refine (ptrsOf_any t _ HSR.out HNX.out).mono ?_
          rintro e w5 ⟨ya, yc, rfl, ho, hb, -, -, -⟩
          have HB5 := Lib.hid (HB_r.out.trans (hb.mono hzr))
          have RS5 := Lib.hid (RS_r.out.below hb)
          have YS5 := Lib.hid ho.src
          have AP5 := Lib.hid (apart_new (rb := rb) (mb := mb) ho (by have := RS_r.out.blk.1; omega) RS_r.out.map.lt RS_r.out.blocks)
          clear hb ho lB cB0 cB1 hab d0' x0 x1 x2 x3 x4 lb HB_r RS_r hzr HSR
          generalize hP : ptL t t.n = Pl at *
          have HP := Lib.hid hP
          clear hP
          go_wp2
          go_loopw [41] (fun p wr => ∃ (k : Nat) (v : Value) (Q : List Int), k ≤ Pl.length ∧ p = .int .i64 (k : Int) ∧ Hid (Below mb W0 wr) ∧ Hid (RN wr mb rb mb v (some ⟨b, q, none⟩) K T Q) ∧ Hid (Q = addNew O (nz (Pl.take k))) ∧ Hid (Src wr ya Pl.length (lf Pl)) ∧ Hid (Apart wr ya Pl.length rb mb v)) (fun p _ => Pl.length - (intOf p).toNat)
          case atStart => exact ⟨0, _, O, Nat.zero_le _, rfl, HB5, RS5, Lib.hid rfl, YS5, AP5⟩
          case round =>
            clear HB5 RS5 YS5 AP5
            obtain ⟨k, v, Q, hk, rfl, HB_r, RS_r, HQ, YS_r, AP_r⟩ := hrel
            have hzr : mb ≤ wr.heap.size := by have := RS_r.out.map.lt; omega
            have hqK : Q.length ≤ K := by rw [HQ.out]; exact HPRE.out k
            by_cases hkl : k < Pl.length
            · have hkl' : (k : Int) < (Pl.length : Int) := by omega
              have hk0 : (0 : Int) ≤ (k : Int) := by omega
              obtain ⟨yb, yo, rfl, hyb, hyc⟩ := src_some YS_r.out (by omega)
              have c0 := hyc k hkl
              have A_r := Lib.hid (blk_under A_0.out HB_r.out (by omega))
              have a4 := A_r.out.at 4 rfl; have lA := A_r.out.1
              have HSN := Lib.hid (addz_take hkl O)
              obtain ⟨z, hz⟩ : ∃ z, lf Pl k = z := ⟨_, rfl⟩
              have HZH : Hid (z = 0 ∨ Has K T z) := Lib.hid (by rw [← hz]; exact HPH.out _ (lf_mem hkl))
              rw [hz] at c0 HSN
              clear hyc hz A_r
              go_wp2_with fail
              refine (nodeWith_any (some ⟨b, q, none⟩) K nc T z _ (G.out.below (HBW.out _ HB_r.out)) (by omega) HM.out).mono ?_
              rintro e w4 hnw
              obtain ⟨hb, pv, rfl, hpv⟩ := nw_in hnw HNB.out HZH.out HID.out
              have HPV := Lib.hid hpv
              have HB5 := Lib.hid (HB_r.out.trans (hb.mono hzr))
              have RS5 := Lib.hid (RS_r.out.below hb)
              have YS5 := Lib.hid (YS_r.out.below hb)
              have AP5 := Lib.hid (AP_r.out.size hb.size)
              have z5 : mb ≤ w4.heap.size := by have := hb.size; omega
              clear hb hnw hpv c0 a4 lA hyb HB_r RS_r YS_r AP_r
              go_wp2_with fail
              refine (addN_any mb rb mb v (some ⟨b, q, none⟩) K T _ z pv _ RS5.out z5 HPV.out (G.out.below (HBW.out _ HB5.out)) HRI.out HID.out (by omega)).mono ?_
              rintro e w6 ⟨rfl, hb, hz, v', hq, hrs⟩
              have HB6 := Lib.hid (HB5.out.trans hb)
              have HQ6 : Hid (add1z Q z = addNew O (nz (Pl.take (k + 1)))) := Lib.hid (by rw [HSN.out, ← HQ.out])
              have RS6 := Lib.hid hrs
              have YS6 := Lib.hid (src_addq YS5.out AP5.out hq hz)
              have AP6 := Lib.hid (AP5.out.addq hq hz)
              clear hb hrs hq HB5 RS5 YS5 AP5 HPV HQ HSN
              go_wp2
              go_roundw
              case rel => first | exact ⟨k + 1, v', add1z Q z, by omega, by go_num, HB6, RS6, HQ6, YS6, AP6⟩ | ((repeat apply Exists.intro); exact ⟨⟨k + 1, v', add1z Q z, by omega, by go_num, HB6, RS6, HQ6, YS6, AP6⟩, rfl⟩)
              case measure => simp [intOf]; omega
            · have hkl' : ¬ (k : Int) < (Pl.length : Int) := by omega
              have HMC' : Hid (MC i S K T (n + 1) Q) := Lib.hid (by
                rw [HQ.out, List.take_of_length_le (by omega)]
                exact HSTEP.out)
              clear YS_r AP_r HQ
              go_wp2
              go_roundw
              case rel => first | exact ⟨n + 1, v, Q, by omega, by go_num, HB_r, RS_r, HMC'⟩ | ((repeat apply Exists.intro); exact ⟨⟨n + 1, v, Q, by omega, by go_num, HB_r, RS_r, HMC'⟩, rfl⟩)
              case measure => simp [intOf]; omega
        · have hno' : ¬ (n : Int) < (O.length : Int) := by omega
          have HE := Lib.hid (mc_done HMC.out hno)
          have D_r := Lib.hid (blk_under D_0.out HB_r.out (by omega))
          have e0 := D_r.out.at 0 rfl; have e1 := D_r.out.at 1 rfl; have g0 := D_r.out.free 0 rfl; have g1 := D_r.out.free 1 rfl; have lD := D_r.out.1
          clear hpr HMC
          go_wp2
          refine bodyPost_ret (v := .agg #[.slice av O.length kv, .map (some mb)]) (by simp [results, Try.results90, go_sem, e0, e1]) rfl ?_
          rw [HE.out]
          have hrow := row_set (row_set RS_r.out.row (p := ⟨w.heap.size + 1, 0, none⟩) (by show w.heap.size + 1 < mb; omega) (.slice av O.length kv)) (p := ⟨w.heap.size + 1, 1, none⟩) (by show w.heap.size + 1 < mb; omega) (.map (some mb))
          obtain ⟨a', c', e', hpr⟩ := pr_of_row hrow
          simp only [Value.slice.injEq] at e'
          obtain ⟨rfl, -, rfl⟩ := e'
          refine ⟨av, kv, mb, rfl, hpr, (RS_r.out.map.set (by show mb ≠ w.heap.size + 1; omega) _).set (by show mb ≠ w.heap.size + 1; omega) _, ?_, by omega⟩
          repeat (with_reducible refine Below.setCell ?_ (by (try simp); (try omega)) _)
          exact HBW.out _ HB_r.out
end Go.Proofs.Ytaenbjilcgpgcaa

namespace Go.Proofs.Ytaenbjilcgpgcaa
open Go.RowKit
set_option linter.unusedVariables false

theorem fld_nr0 (x y : Value) (w : World) : (Instr.field 141 (.agg #[x, y]) 0).run Try.prog w = .ok x w := by kernel_rfl

theorem pr_get {w : World} {na : Option Addr} {K : Nat} {T : Nat → GM} {ra : Option Addr} {R : List Int} (h : PR w na K T ra R) (hg : NV w na K T) {i : Nat} (hi : i < R.length) (hh : Has K T (lf R i)) : ∃ rb ro b q x, ra = some ⟨rb, ro, none⟩ ∧ na = some ⟨b, q, none⟩ ∧ x < K ∧ (T x).at_ = lf R i ∧ nodeM K T (lf R i) = T x ∧ w.cell? ⟨rb, ro + i, none⟩ = some (.pointer (some ⟨b, q + x * 5, none⟩)) ∧ rb < w.heap.size ∧ b < w.heap.size ∧ FivG w b (q + x * 5) (T x) ∧ Src w (T x).a (T x).n (T x).f := by
  have hx := ixN_has hh
  rcases h with h0 | ⟨rb, ro, rfl, hl, hc⟩
  · omega
  · obtain ⟨b, q, rfl, lb, hf, hs⟩ := nv_get hg hx
    exact ⟨rb, ro, b, q, _, rfl, rfl, hx, ixN_at hx, rfl, hc i hi, hl, lb, hf, hs⟩

set_option maxRecDepth 100000 in
set_option maxHeartbeats 3200000 in
theorem implRO_is (te qu ha : Int) (sa : Option Addr) (M kc : Nat) (S : Nat → SL) (na : Option Addr) (K nc : Nat) (T : Nat → GM) (c : Int) (L : List Int) (w : World)
    (hp : PV w sa M S) (hg : NV w na K T) (hM : M ≤ 1048576) (hK : K ≤ 1048576) (hn : ∀ i, i < K → (T i).n ≤ 1048576) (hk : IsMF te qu ha M S K T c) (hv : outRO M S K T c = L) :
    Calls Try.prog 40 #[.agg #[.int .i64 te, .int .i64 qu, .int .i64 ha, .slice sa M kc, .slice na K nc]] w (RetIR w c L.length (lf L)) := by
  have P0 := Lib.hid hp; have G0 := Lib.hid hg; have HN := Lib.hid hn; have HK := Lib.hid hk; have HV := Lib.hid hv
  obtain ⟨i0, hif, hz0, hz1, hz2⟩ := info_parts Try.info2
  have HB0 := Lib.hid (((Below.refl w.heap.size w).alloc (Nat.le_refl _) (.cells #[.int .i64 te, .int .i64 qu, .int .i64 ha, .slice sa M kc, .slice na K nc] 54)).alloc (by simp) (.cells #[.int .i64 0, .slice none 0 0] 35))
  have A_0 := Lib.hid ((Blk.new_at (w := w) (cs := #[.int .i64 te, .int .i64 qu, .int .i64 ha, .slice sa M kc, .slice na K nc]) (t := 54) w.heap.size rfl).alloc (.cells #[.int .i64 0, .slice none 0 0] 35))
  have R_0 := Lib.hid (Blk.new_at (w := w.alloc (.cells #[.int .i64 te, .int .i64 qu, .int .i64 ha, .slice sa M kc, .slice na K nc] 54)) (cs := #[.int .i64 0, .slice none 0 0]) (t := 35) (w.heap.size + 1) (by simp))
  clear hp hg hn hk hv
  go_enter Try.func40, Try.ntmps40
  go_wp2_with fail
  refine (implMF_any te qu ha sa M kc S na K nc T c _ (P0.out.below HB0.out) (G0.out.below HB0.out) hM hK HN.out HK.out).mono ?_
  rintro e w1 ⟨rfl, hb⟩
  have HB1 := Lib.hid (thru0 HB0.out hb)
  have A_1 := Lib.hid (A_0.out.below hb); have R_1 := Lib.hid (R_0.out.below hb)
  have z1 : w.heap.size + 2 ≤ w1.heap.size := by have := R_1.out.1; omega
  clear hb A_0 R_0 HB0
  by_cases h0 : c = 0
  · subst h0
    have HOK := Lib.hid (isMF_zero HK.out)
    have a0 := A_1.out.at 0 rfl; have a1 := A_1.out.at 1 rfl; have a2 := A_1.out.at 2 rfl; have a3 := A_1.out.at 3 rfl; have a4 := A_1.out.at 4 rfl; have lA := A_1.out.1
    go_wp2_with fail
    refine (reachFS_any te qu ha sa M kc S na K nc T _ (P0.out.below HB1.out) (G0.out.below HB1.out) HOK.out).mono ?_
    rintro e w2 ⟨ra, rc, mb, rfl, hpr, -, hb, -⟩
    have HB2 := Lib.hid (thru0 HB1.out hb)
    have R_2 := Lib.hid (R_1.out.below hb)
    have HPR := Lib.hid hpr
    have G2 := Lib.hid (G0.out.below HB2.out)
    have z2 : w.heap.size + 2 ≤ w2.heap.size := by have := hb.size; omega
    have HHAS : Hid (∀ x ∈ reachM M S K T, Has K T x) := Lib.hid (fun x hx => reachM_has HOK.out.lead hx)
    have HU : Hid (L = reachM M S K T) := Lib.hid HV.out.symm
    have hrl : (reachM M S K T).length ≤ 150 := by have := reachM_len HOK.out.lead; have := HOK.out.len.2.2; omega
    clear hb hpr A_1 R_1 HB1 a0 a1 a2 a3 a4 lA HV HOK HK
    generalize reachM M S K T = R at *
    have hf0 := fld_nr0 (.slice ra R.length rc) (.map (some mb)) w2
    go_wp2
    clear hf0
    go_loopw [4, 17] (fun u p wr => ∃ (i : Nat), i ≤ R.length ∧ p = .int .i64 (i : Int) ∧ Hid (Below w2.heap.size w2 wr) ∧ Hid (wr.ownsRow w2.heap.size 2 1 u i (nums i (lf R)))) (fun _ p _ => R.length - (intOf p).toNat)
    case atStart => exact ⟨0, Nat.zero_le _, rfl, Below.refl _ _, World.ownsRow_nil _ _ _ _⟩
    case round =>
      obtain ⟨i, hi, rfl, HB_r, OW_r⟩ := hrel
      have hzr := HB_r.out.size
      by_cases hlt : i < R.length
      · have hlt' : (i : Int) < (R.length : Int) := by omega
        have hi0 : (0 : Int) ≤ (i : Int) := by omega
        have hhas := HHAS.out _ (lf_mem hlt)
        obtain ⟨rb, ro, b, q, x, rfl, rfl, hxK, hxa, hnx, d0, lr, lb, ⟨x0, x1, x2, x3, x4⟩, -⟩ := pr_get (HPR.out.below HB_r.out) (G2.out.below HB_r.out) hlt hhas
        rw [hxa] at x0
        obtain ⟨y, hy⟩ : ∃ y, lf R i = y := ⟨_, rfl⟩
        have HY := Lib.hid hy
        rw [hy] at x0
        have HGE : Hid (∀ k, u4.ownBlock = some k → w2.heap.size ≤ k) := Lib.hid (fun k hk => (OW_r.out.lt k hk).1)
        have OWA := Lib.hid (OW_r.out.alloc (.cells #[.int .i64 y] 2))
        clear hhas hxa hnx hy x1 x2 x3 x4
        go_wp2_with (at_builtin; go_loud (refine wpList_append_lies _ rfl _ _ 24 rfl w2.heap.size 2 i0 (.int .i64 0) 1 8 Try.underlying24 hif hz0 hz1 hz2 rfl (by decide) u4 i (nums i (lf R)) rfl OWA.out ⟨wr.heap.size, 0, none⟩ 1 1 [.int .i64 y] rfl rfl (news1 wr y) (by intro u hu; simp only [List.mem_cons, List.mem_nil_iff, or_false] at hu; subst hu; rfl) (by omega) (by unfold maxLen; omega) (by omega) (by simp; omega) (wr.heap.size + 1) (by simp) ?_); intro g9 cap9 w9 hown9 hgrow9 hat9 hlt9)
        have HB9 : Hid (Below w2.heap.size w2 w9) := (HB_r.out.alloc hzr _).grown hgrow9 (by simp; omega) (fun k hk => HGE.out k hk)
        have OW9 : Hid (w9.ownsRow w2.heap.size 2 1 (.slice (some ⟨g9, 0, none⟩) (i + 1) cap9) (i + 1) (nums (i + 1) (lf R))) := Lib.hid (by rw [nums_succ, HY.out]; exact hown9)
        clear hown9 hgrow9 hat9 x0 d0 lr lb
        go_wp2
        go_roundw
        case rel => first | exact ⟨i + 1, by omega, by go_num, HB9, OW9⟩ | ((repeat apply Exists.intro); exact ⟨⟨i + 1, by omega, by go_num, HB9, OW9⟩, rfl⟩)
        case measure => simp [intOf]; omega
      · have hlt' : ¬ (i : Int) < (R.length : Int) := by omega
        obtain rfl : i = R.length := by omega
        obtain ⟨a5, c5, rfl, -⟩ := row_shape OW_r.out
        have HO := Lib.hid (own_of_row OW_r.out)
        have R_r := Lib.hid (R_2.out.below HB_r.out)
        have HBF := Lib.hid (thru0 HB2.out HB_r.out)
        have r0 := R_r.out.at 0 rfl; have f0 := R_r.out.free 0 rfl; have r1 := R_r.out.at 1 rfl; have f1 := R_r.out.free 1 rfl; have lR := R_r.out.1
        go_wp2
        refine bodyPost_ret (v := .agg #[.int .i64 0, .slice a5 R.length c5]) (by simp [results, Try.results40, go_sem, r0, r1]) rfl ?_
        rw [HU.out]
        refine ⟨a5, c5, rfl, ?_, ?_⟩
        · refine Own.mono (B := w.heap.size + 2) ?_ (by omega)
          repeat (first | (with_reducible refine Own.setCell ?_ (by (try simp); (try omega)) _) | (with_reducible refine Own.alloc ?_ _) | (with_reducible refine Own.drew ?_))
          exact HO.out.mono z2
        · repeat (first | (with_reducible refine Below.setCell ?_ (by (try simp); (try omega)) _) | (with_reducible refine Below.alloc ?_ (by (try simp); (try omega)) _) | (with_reducible refine Below.drew ?_))
          exact HBF.out
  · have h0' : (c != 0) = true := by simpa using h0
    have HE : Hid (L = []) := Lib.hid (by rw [← HV.out]; exact if_neg h0)
    clear h0
    have r0 := R_1.out.at 0 rfl; have f0 := R_1.out.free 0 rfl; have r1 := R_1.out.at 1 rfl; have f1 := R_1.out.free 1 rfl; have lR := R_1.out.1
    go_wp2
    refine bodyPost_ret (v := .agg #[.int .i64 c, .slice none 0 0]) (by simp [results, Try.results40, go_sem, r0, r1]) rfl ?_
    rw [HE.out]
    refine ⟨none, 0, rfl, .inl rfl, ?_⟩
    repeat (first | (with_reducible refine Below.setCell ?_ (by (try simp); (try omega)) _) | (with_reducible refine Below.alloc ?_ (by (try simp); (try omega)) _) | (with_reducible refine Below.drew ?_))
    exact HB1.out

theorem implRO_it (te qu ha : Int) (sa : Option Addr) (M kc : Nat) (S : Nat → SL) (na : Option Addr) (K nc : Nat) (T : Nat → GM) (c : Int) (n : Nat) (L : Nat → Int) (w : World)
    (hp : PV w sa M S) (hg : NV w na K T) (hM : M ≤ 1048576) (hK : K ≤ 1048576) (hn : ∀ i, i < K → (T i).n ≤ 1048576) (hk : IsMF te qu ha M S K T c) (h1 : (outRO M S K T c).length = n) (h2 : lf (outRO M S K T c) = L) :
    Calls Try.prog 40 #[.agg #[.int .i64 te, .int .i64 qu, .int .i64 ha, .slice sa M kc, .slice na K nc]] w (RetIR w c n L) := by
  subst h1 h2
  exact implRO_is te qu ha sa M kc S na K nc T c _ w hp hg hM hK hn hk rfl
end Go.Proofs.Ytaenbjilcgpgcaa

namespace Go.Proofs.Ytaenbjilcgpgcaa
open Go.RowKit
set_option linter.unusedVariables false

set_option maxRecDepth 100000 in
set_option maxHeartbeats 400000 in
theorem markInts_huge (a : Option Addr) (n c lo hi : Nat) (f : Nat → Int) (k : Int) (w : World) (ho : OwnIn w lo hi a n f) (hn : n ≤ 1048576) (hk0 : 0 ≤ k) (hk1 : k ≤ 4398046511104) :
    Calls Try.prog 115 #[.slice a n c, .int .i64 k] w (RetMark w lo hi a n k) := by
  have HO := Lib.hid ho
  clear ho
  go_enter Try.func115, Try.ntmps115
  go_wp2
  go_loopw [1, 5] (fun q p wr => ∃ i : Nat, i ≤ n ∧ p = .int .i64 i ∧ q = .int .i64 (k + i) ∧ Hid (Keeps w wr lo hi) ∧ Hid (OwnIn wr lo hi a n (fun j => if j < i then k + j else f j))) (fun _ p _ => n - (intOf p).toNat)
  case atStart => exact ⟨0, Nat.zero_le _, rfl, by simp, Keeps.refl _ _ _, by simpa using HO⟩
  case round =>
    obtain ⟨i, hi', rfl, rfl, HK, HR⟩ := hrel
    by_cases hlt : i < n
    · obtain ⟨b, off, rfl, hb, hc⟩ := src_some HR.out.src (by omega)
      have c1 := hc i hlt
      have hfz : wr.frozen? ⟨b, off + i, none⟩ = false := by
        rcases HR.out with h | ⟨b', off', h1, _, _, h4⟩
        · omega
        · simp only [Option.some.injEq, Addr.mk.injEq, and_true] at h1
          obtain ⟨rfl, rfl⟩ := h1
          exact (h4 i hlt).2
      have hst := Lib.hid (HR.out.stored i hlt (k + i))
      have hlt' : (i : Int) < (n : Int) := by omega
      clear hc
      go_wp2
      go_roundw
      case rel =>
        refine ⟨i + 1, by omega, by go_num, by go_num, HK.out.trans hst.out.2, hst.out.1.congr fun j hj => ?_⟩
        by_cases h1 : j = i
        · subst h1; simp
        · have h2 : (j < i + 1) = (j < i) := by simp only [eq_iff_iff]; omega
          simp only [h1, if_false, h2]
      case measure => simp [intOf]; omega
    · go_wp2
      go_ret
      obtain rfl : i = n := by omega
      exact ⟨rfl, HR.out.congr fun j hj => by simp [hj], HK.out⟩

set_option maxRecDepth 100000 in
set_option maxHeartbeats 1600000 in
theorem markNodeS_big (lo hi b q N c : Nat) (T : Nat → GM) (k : Int) (w : World) (hs : NOwn w lo hi b q N T) (hk0 : 0 ≤ k) (hk1 : k + (noff T N : Int) ≤ 4398046511104) (hN5 : N ≤ 1048576) (hnn : ∀ i, i < N → (T i).n ≤ 1048576) :
    Calls Try.prog 114 #[.slice (some ⟨b, q, none⟩) N c, .int .i64 k] w (NRetMarkS w lo hi b q N T k) := by
  have H := Lib.hid hs
  have HNN := Lib.hid hnn
  have hlh : lo ≤ hi := by have := hs.glo; have := hs.ghi; omega
  clear hs hnn
  go_enter Try.func114, Try.ntmps114
  go_wp2
  go_loopw [1, 5] (fun u p wr => ∃ i : Nat, i ≤ N ∧ p = .int .i64 i ∧ u = .int .i64 (k + (noff T i : Int)) ∧ Hid (Keeps w wr lo hi) ∧ Hid (NOwn wr lo hi b q N (fun j => if j < i then nmkd T k j else T j))) (fun _ p _ => N - (intOf p).toNat)
  case atStart => exact ⟨0, Nat.zero_le _, rfl, by simp [noff], Keeps.refl _ _ _, by simpa using H⟩
  case round =>
    obtain ⟨i, hi9, rfl, rfl, HK, HR⟩ := hrel
    by_cases hlt : i < N
    · have hlt' : (i : Int) < (N : Int) := by omega
      have hi0 : (0 : Int) ≤ (i : Int) := by omega
      have hle : noff T (i + 1) ≤ noff T N := noff_mono T hlt
      have hso : (noff T (i + 1) : Int) = (noff T i : Int) + 4 + ((T i).n : Int) := by simp only [noff]; omega
      have hx := HR.out.six i hlt
      have hsrc := HR.out.flds i hlt
      obtain ⟨f0, f1, f2, f3, f4⟩ := HR.out.free i hlt
      have hlt0 := HR.out.lt
      simp only [Nat.lt_irrefl, if_false] at hx hsrc
      obtain ⟨x0, x1, x2, x3, x4⟩ := hx
      generalize hK : k + (noff T i : Int) = K at *
      have hK0 : 0 ≤ K := by omega
      have hK1 : K + 4 + ((T i).n : Int) ≤ 4398046511104 := by omega
      have hn : (T i).n ≤ 1048576 := HNN.out i hlt
      have HSO := Lib.hid hso; have HKK := Lib.hid hK; have HSRC := Lib.hid hsrc
      clear hso hK hle hsrc
      obtain ⟨l, r, hl1, hl2, hl3, hnar, hlr⟩ := ownIn_narrow HSRC.out hlh
      obtain ⟨U, hU⟩ : ∃ U : Nat → GM, U = fun j => if j < i then nmkd T k j else T j := ⟨_, rfl⟩
      have hUi : U i = T i := by rw [hU]; simp
      have hR : NOwn wr lo hi b q N U := by rw [hU]; exact HR.out
      have hnar' : OwnIn wr l r (U i).a (U i).n (U i).f := by rw [hUi]; exact hnar
      have h5 := nown_four K hR hlt hnar'
      have hlr' : ((U i).n = 0 ∧ l = r) ∨ (0 < (U i).n ∧ l = (U i).g ∧ r = (U i).g + 1 ∧ (U i).g < wr.heap.size) := by rw [hUi]; exact hlr
      rw [hUi] at h5
      have H5 := Lib.hid h5; have HLR := Lib.hid hlr'; have HRU := Lib.hid hR; have HUI := Lib.hid hUi; have HU := Lib.hid hU
      clear h5 hlr' hR hUi hU hnar hnar' hlr HR
      go_wp2_with fail
      rw [show K + 1 + 1 + 1 + 1 = K + 4 from by omega, show K + 1 + 1 + 1 = K + 3 from by omega, show K + 1 + 1 = K + 2 from by omega]
      refine (markInts_huge (T i).a (T i).n (T i).c l r (T i).f (K + 4) (fourN wr b (q + i * 5) K) H5.out hn (by omega) (by omega)).mono ?_
      rintro e w2 ⟨rfl, ho2, hk2⟩
      have hq := nown_round (i := i) HRU.out hlt hl1 hl3 HLR.out hk2 (by rw [HUI.out]; exact ho2)
      have HQ := Lib.hid hq
      clear ho2 hk2 hq
      go_wp2
      go_roundw
      case rel =>
        refine ⟨i + 1, by omega, by go_num, by have := HSO.out; have := HKK.out; go_num, HK.out.trans HQ.out.2, HQ.out.1.congr fun j hj => ?_⟩
        by_cases e : j = i
        · subst e
          simp only [if_true, Nat.lt_succ_self, nmkd, HKK.out, HUI.out]
        · rw [if_neg e, HU.out]
          have h2 : (j < i + 1) = (j < i) := by simp only [eq_iff_iff]; omega
          simp only [h2]
      case measure => simp [intOf]; omega
    · go_wp2
      go_ret
      obtain rfl : i = N := by omega
      exact ⟨rfl, HR.out.congr fun j hj => by simp [hj], HK.out⟩

set_option maxRecDepth 100000 in
set_option maxHeartbeats 400000 in
theorem markNV_big (lo hi N c : Nat) (a : Option Addr) (T : Nat → GM) (k : Int) (w : World) (hs : NVO w lo hi a N T) (hk0 : 0 ≤ k) (hk1 : k + (noff T N : Int) ≤ 4398046511104) (hN5 : N ≤ 1048576) (hnn : ∀ i, i < N → (T i).n ≤ 1048576) :
    Calls Try.prog 114 #[.slice a N c, .int .i64 k] w (NRetMarkV w lo hi a N T k) := by
  rcases Nat.eq_zero_or_pos N with rfl | hp
  · clear hs hnn hN5
    simp only [noff] at hk1
    go_enter Try.func114, Try.ntmps114
    go_wp2
    go_loop [1, 5] (fun u p => u = .int .i64 k ∧ p = .int .i64 0) (fun _ _ => 0)
    case atStart => exact ⟨rfl, rfl⟩
    case round =>
      obtain ⟨rfl, rfl⟩ := hrel
      go_wp2
      go_ret
      exact ⟨by simp [noff], .inl rfl, Keeps.refl _ _ _⟩
  · rcases hs with h0 | ⟨b, q, rfl, h⟩
    · omega
    · refine (markNodeS_big lo hi b q N c T k w h hk0 hk1 hN5 hnn).mono ?_
      rintro e w' ⟨rfl, h1, h2⟩
      exact ⟨rfl, .inr ⟨b, q, rfl, h1⟩, h2⟩

set_option maxRecDepth 100000 in
set_option maxHeartbeats 800000 in
theorem markSlotS_big (a : Option Addr) (lo hi N c : Nat) (T : Nat → SL) (k : Int) (w : World) (hs : PVO w lo hi a N T) (hk0 : 0 ≤ k) (hk1 : k + 2 * (N : Int) ≤ 4398046511104) :
    Calls Try.prog 113 #[.slice a N c, .int .i64 k] w fun e w' => e = .returned (.int .i64 (k + 2 * (N : Int))) ∧ PVO w' lo hi a N (smkd k) ∧ Keeps w w' lo hi := by
  have H := Lib.hid hs
  clear hs
  go_enter Try.func113, Try.ntmps113
  go_wp2
  go_loopw [1, 5] (fun u p wr => ∃ i : Nat, i ≤ N ∧ p = .int .i64 i ∧ u = .int .i64 (k + 2 * (i : Int)) ∧ Hid (Keeps w wr lo hi) ∧ Hid (PVO wr lo hi a N (fun j => if j < i then smkd k j else T j))) (fun _ p _ => N - (intOf p).toNat)
  case atStart => exact ⟨0, Nat.zero_le _, rfl, by simp, Keeps.refl _ _ _, by simpa using H⟩
  case round =>
    obtain ⟨i, hi9, rfl, rfl, HK, HR⟩ := hrel
    by_cases hlt : i < N
    · have hlt' : (i : Int) < (N : Int) := by omega
      have hi0 : (0 : Int) ≤ (i : Int) := by omega
      rcases HR.out with h0 | ⟨b, q, rfl, hg⟩
      · omega
      obtain ⟨x0, x1⟩ := hg.two i hlt
      obtain ⟨f0, f1⟩ := hg.free i hlt
      have hlt0 := hg.lt
      generalize hK : k + 2 * (i : Int) = K at *
      have hK0 : 0 ≤ K := by omega
      have hK1 : K + 2 ≤ 4398046511104 := by omega
      have HKK := Lib.hid hK
      have HQ := Lib.hid (pown_put (i := i) (t := ⟨K, K + 1⟩) hg hlt)
      clear hK hg HR
      go_wp2
      go_roundw
      case rel =>
        refine ⟨i + 1, by omega, by go_num, by have := HKK.out; go_num, HK.out.trans HQ.out.2, .inr ⟨b, q, rfl, HQ.out.1.congr fun j hj => ?_⟩⟩
        by_cases e : j = i
        · subst e
          simp only [if_true, Nat.lt_succ_self, smkd, HKK.out]
        · rw [if_neg e]
          have h2 : (j < i + 1) = (j < i) := by simp only [eq_iff_iff]; omega
          simp only [h2]
      case measure => simp [intOf]; omega
    · go_wp2
      go_ret
      obtain rfl : i = N := by omega
      refine ⟨rfl, ?_, HK.out⟩
      exact HR.out.congr fun j hj => by simp [hj]

set_option maxRecDepth 100000 in
set_option maxHeartbeats 800000 in
theorem markMach_big (te qu ha : Int) (sa : Option Addr) (M kc : Nat) (S : Nat → SL) (na : Option Addr) (K nc : Nat) (T : Nat → GM) (lo mid hi : Nat) (k : Int) (w : World) (hp : PVO w lo mid sa M S) (hg : NVO w mid hi na K T) (h1 : lo ≤ mid) (h2 : mid ≤ hi) (h3 : hi ≤ w.heap.size) (hk0 : 0 ≤ k) (hk1 : k + 2 * (M : Int) + (noff T K : Int) ≤ 4398046511104) (hK5 : K ≤ 1048576) (hnn : ∀ i, i < K → (T i).n ≤ 1048576) :
    Calls Try.prog 47 #[.agg #[.int .i64 te, .int .i64 qu, .int .i64 ha, .slice sa M kc, .slice na K nc], .int .i64 k] w (RetMkM w lo mid hi sa M na K T k) := by
  have P0 := Lib.hid hp; have G0 := Lib.hid hg; have HNN := Lib.hid hnn
  have hn0 : (0 : Int) ≤ (noff T K : Int) := by omega
  clear hp hg hnn
  go_enter Try.func47, Try.ntmps47
  have A_0 := Lib.hid (Blk.new_at (w := w) (cs := #[.int .i64 te, .int .i64 qu, .int .i64 ha, .slice sa M kc, .slice na K nc]) (t := 54) w.heap.size rfl)
  have HB0 := Lib.hid ((Below.refl w.heap.size w).alloc (Nat.le_refl _) (.cells #[.int .i64 te, .int .i64 qu, .int .i64 ha, .slice sa M kc, .slice na K nc] 54))
  have P1 := Lib.hid (P0.out.below HB0.out); have G1 := Lib.hid (G0.out.below HB0.out)
  have HK0 := Lib.hid (keeps_of_below HB0.out lo hi)
  go_wp2_with fail
  refine (markSlotS_big sa lo mid M kc S k _ P1.out hk0 (by omega)).mono ?_
  rintro e w1 ⟨rfl, hp, hk⟩
  have P2 := Lib.hid hp; have HK1 := Lib.hid (HK0.out.trans (hk.widen (Nat.le_refl _) h2))
  have A_1 := Lib.hid (A_0.out.keeps hk (.inr (by omega)))
  have G2 := Lib.hid (G1.out.keeps hk (.inr (Nat.le_refl _)))
  clear hp hk P0 P1 G0 G1 A_0 HK0
  have c4 := A_1.out.at 4 rfl; have lA := A_1.out.1
  go_wp2_with fail
  refine (markNV_big mid hi K nc na T (k + 2 * (M : Int)) _ G2.out (by omega) hk1 hK5 HNN.out).mono ?_
  rintro e w2 ⟨rfl, hg, hk⟩
  have G3 := Lib.hid hg; have P3 := Lib.hid (P2.out.keeps hk (.inl (Nat.le_refl _))); have HK2 := Lib.hid (HK1.out.trans (hk.widen h1 (Nat.le_refl _)))
  clear hg hk G2 P2 HK1 c4 lA A_1
  go_wp2
  go_ret
  exact ⟨rfl, P3.out, G3.out, HK2.out⟩

theorem noff_le {T : Nat → GM} : ∀ K, (∀ i, i < K → (T i).n ≤ 1048576) → noff T K ≤ K * 1048580
  | 0, _ => Nat.zero_le _
  | K + 1, h => by
    have h1 := noff_le K fun i hi => h i (by omega)
    have h2 := h K (Nat.lt_succ_self K)
    simp only [noff]; omega

/-- A new machine that holds the same, in memory of its own. -/
def RetTMO (W : World) (te qu ha : Int) (M : Nat) (S : Nat → SL) (K : Nat) (T : Nat → GM) (e : Ending) (w' : World) : Prop :=
  ∃ (sa : Option Addr) (kc : Nat) (na : Option Addr) (nc : Nat) (U : Nat → GM) (mid hi : Nat), e = .returned (.agg #[.int .i64 te, .int .i64 qu, .int .i64 ha, .slice sa M kc, .slice na K nc]) ∧ PVO w' W.heap.size mid sa M S ∧ NVO w' mid hi na K U ∧ W.heap.size ≤ mid ∧ mid ≤ hi ∧ hi ≤ w'.heap.size ∧ (∀ i, i < K → GSame (T i) (U i)) ∧ Below W.heap.size W w'

set_option maxRecDepth 100000 in
set_option maxHeartbeats 1600000 in
theorem toMachineO_any (te qu ha : Int) (sa : Option Addr) (M kc : Nat) (S : Nat → SL) (na : Option Addr) (K nc : Nat) (T : Nat → GM) (w : World) (hp : PV w sa M S) (hg : NV w na K T) (hM : M ≤ 1048576) (hK : K ≤ 1048576) (hn : ∀ i, i < K → (T i).n ≤ 1048576) :
    Calls Try.prog 44 #[.agg #[.int .i64 te, .int .i64 qu, .int .i64 ha, .slice sa M kc, .slice na K nc]] w (RetTMO w te qu ha M S K T) := by
  have P0 := Lib.hid hp; have G := Lib.hid hg; have HN := Lib.hid hn
  clear hp hg hn
  go_enter Try.func44, Try.ntmps44
  go_wp2_with fail
  refine (toSlotS_any sa M kc S _ (((P0.out.alloc _).alloc _).alloc _) hM).mono ?_
  rintro e w1 ⟨sa', kc', rfl, ho, hb⟩
  have A_1 := Lib.hid ((((Blk.new_at (w := w) (cs := #[.int .i64 te, .int .i64 qu, .int .i64 ha, .slice sa M kc, .slice na K nc]) (t := 70) w.heap.size rfl).alloc _).alloc _).below hb)
  have R_1 := Lib.hid (((Blk.new_at (w := w.alloc (.cells #[.int .i64 te, .int .i64 qu, .int .i64 ha, .slice sa M kc, .slice na K nc] 70)) (cs := #[.int .i64 0, .int .i64 0, .int .i64 0, .slice none 0 0, .slice none 0 0]) (t := 54) (w.heap.size + 1) (by simp)).alloc _).below hb)
  have O_1 := Lib.hid ((Blk.new_at (w := (w.alloc (.cells #[.int .i64 te, .int .i64 qu, .int .i64 ha, .slice sa M kc, .slice na K nc] 70)).alloc (.cells #[.int .i64 0, .int .i64 0, .int .i64 0, .slice none 0 0, .slice none 0 0] 54)) (cs := #[.int .i64 te, .int .i64 qu, .int .i64 ha, .slice none 0 0, .slice none 0 0]) (t := 54) (w.heap.size + 2) (by simp)).below hb)
  have HB1 := Lib.hid (((((Below.refl w.heap.size w).alloc (Nat.le_refl _) _).alloc (by simp) _).alloc (by simp; omega) _).trans (hb.mono (by simp; omega)))
  have z1 : w.heap.size + 3 ≤ w1.heap.size := by have := hb.size; simp at this; omega
  have HO1 := Lib.hid (ho.widen (lo' := w.heap.size + 3) (by simp) (Nat.le_refl _))
  clear hb ho P0
  have cA0 := A_1.out.at 0 rfl; have fA0 := A_1.out.free 0 rfl; have cA1 := A_1.out.at 1 rfl; have fA1 := A_1.out.free 1 rfl; have cA2 := A_1.out.at 2 rfl; have fA2 := A_1.out.free 2 rfl; have cA3 := A_1.out.at 3 rfl; have fA3 := A_1.out.free 3 rfl; have cA4 := A_1.out.at 4 rfl; have fA4 := A_1.out.free 4 rfl; have lA := A_1.out.1
  have cR0 := R_1.out.at 0 rfl; have fR0 := R_1.out.free 0 rfl; have cR1 := R_1.out.at 1 rfl; have fR1 := R_1.out.free 1 rfl; have cR2 := R_1.out.at 2 rfl; have fR2 := R_1.out.free 2 rfl; have cR3 := R_1.out.at 3 rfl; have fR3 := R_1.out.free 3 rfl; have cR4 := R_1.out.at 4 rfl; have fR4 := R_1.out.free 4 rfl; have lR := R_1.out.1
  have cO0 := O_1.out.at 0 rfl; have fO0 := O_1.out.free 0 rfl; have cO1 := O_1.out.at 1 rfl; have fO1 := O_1.out.free 1 rfl; have cO2 := O_1.out.at 2 rfl; have fO2 := O_1.out.free 2 rfl; have cO3 := O_1.out.at 3 rfl; have fO3 := O_1.out.free 3 rfl; have cO4 := O_1.out.at 4 rfl; have fO4 := O_1.out.free 4 rfl; have lO := O_1.out.1
  go_wp2_with fail
  obtain ⟨ws, hws⟩ : ∃ ws, ws = w1.setCell ⟨w.heap.size + 1 + 1, 3, none⟩ (.slice sa' M kc') := ⟨_, rfl⟩
  have hkw : Keeps w1 ws (w.heap.size + 2) (w.heap.size + 2 + 1) := by rw [hws]; exact keeps_setCell (p := ⟨w.heap.size + 1 + 1, 3, none⟩) (Nat.le_refl _) (Nat.lt_succ_self _) _
  have HBs : Hid (Below w.heap.size w ws) := Lib.hid (HB1.out.trans (hkw.below (by omega) HB1.out.size))
  have O_s : Hid (Blk ws (w.heap.size + 2) [.int .i64 te, .int .i64 qu, .int .i64 ha, .slice sa' M kc', .slice none 0 0]) := Lib.hid (by rw [hws]; exact O_1.out.set 3 (by simp) _)
  have A_s := Lib.hid (A_1.out.keeps hkw (.inl (by omega)))
  have R_s := Lib.hid (R_1.out.keeps hkw (.inl (by omega)))
  have HOs := Lib.hid (HO1.out.keeps hkw (.inr (by omega)))
  have Gs := Lib.hid (G.out.below HBs.out)
  have zws : ws.heap.size = w1.heap.size := by rw [hws]; simp
  have zs : w.heap.size + 3 ≤ ws.heap.size := by have := hkw.size; omega
  rw [← hws]
  clear hws hkw O_1 R_1 A_1 HB1 HO1 G cA0 fA0 cA1 fA1 cA2 fA2 cA3 fA3 cA4 fA4 cR0 fR0 cR1 fR1 cR2 fR2 cR3 fR3 cR4 fR4 cO0 fO0 cO1 fO1 cO2 fO2 cO3 fO3 cO4 fO4 lA lR lO
  refine (toNodeS_any na K nc T _ Gs.out hK HN.out).mono ?_
  rintro e w2 ⟨na', nc', U, rfl, hno, hsm, hb⟩
  have HB2 := Lib.hid (thru0 HBs.out hb)
  have O_1 := Lib.hid (O_s.out.below hb); have R_1 := Lib.hid (R_s.out.below hb)
  have HO2 := Lib.hid ((HOs.out.below hb).widen (Nat.le_refl _) (Nat.le_refl _)); have HNO := Lib.hid hno; have HSM := Lib.hid hsm
  have z2 : w.heap.size + 3 ≤ w2.heap.size := by have := hb.size; omega
  have hz2 : ws.heap.size ≤ w2.heap.size := hb.size
  clear hb hno hsm O_s R_s HBs HOs Gs A_s
  have cR0 := R_1.out.at 0 rfl; have fR0 := R_1.out.free 0 rfl; have cR1 := R_1.out.at 1 rfl; have fR1 := R_1.out.free 1 rfl; have cR2 := R_1.out.at 2 rfl; have fR2 := R_1.out.free 2 rfl; have cR3 := R_1.out.at 3 rfl; have fR3 := R_1.out.free 3 rfl; have cR4 := R_1.out.at 4 rfl; have fR4 := R_1.out.free 4 rfl; have lR := R_1.out.1
  have cO0 := O_1.out.at 0 rfl; have fO0 := O_1.out.free 0 rfl; have cO1 := O_1.out.at 1 rfl; have fO1 := O_1.out.free 1 rfl; have cO2 := O_1.out.at 2 rfl; have fO2 := O_1.out.free 2 rfl; have cO3 := O_1.out.at 3 rfl; have fO3 := O_1.out.free 3 rfl; have cO4 := O_1.out.at 4 rfl; have fO4 := O_1.out.free 4 rfl; have lO := O_1.out.1
  go_wp2
  refine bodyPost_ret (v := .agg #[.int .i64 te, .int .i64 qu, .int .i64 ha, .slice sa' M kc', .slice na' K nc']) (by simp [results, Try.results44, go_sem, cR0, cR1, cR2, cR3, cR4]) rfl ⟨sa', kc', na', nc', U, ws.heap.size, w2.heap.size, rfl, ?_, ?_, by omega, hz2, by simp, HSM.out, ?_⟩
  · refine (PVO.keeps (lo' := w.heap.size + 1) (hi' := w.heap.size + 3) HO2.out ?_ (.inr (by omega))).widen (by omega) (by omega)
    repeat (refine Keeps.trans ?_ (keeps_setCell (by (try simp); (try omega)) (by (try simp); (try omega)) _))
    exact Keeps.refl _ _ _
  · refine (NVO.keeps (lo' := w.heap.size + 1) (hi' := w.heap.size + 3) HNO.out ?_ (.inr (by omega)))
    repeat (refine Keeps.trans ?_ (keeps_setCell (by (try simp); (try omega)) (by (try simp); (try omega)) _))
    exact Keeps.refl _ _ _
  · repeat (with_reducible refine Below.setCell ?_ (by (try simp); (try omega)) _)
    exact HB2.out
end Go.Proofs.Ytaenbjilcgpgcaa

namespace Go.Proofs.Ytaenbjilcgpgcaa
open Go.RowKit
set_option linter.unusedVariables false

set_option maxRecDepth 100000 in
set_option maxHeartbeats 6400000 in
theorem e6_any (te qu ha : Int) (sa : Option Addr) (M kc : Nat) (S : Nat → SL) (na : Option Addr) (K nc : Nat) (T : Nat → GM) (w : World) (hp : PV w sa M S) (hg : NV w na K T) (hM : M ≤ maxLen) (hK : K ≤ maxLen) (hn : ∀ i, i < K → (T i).n ≤ maxLen) :
    Calls Try.prog 6 #[.agg #[.int .i64 te, .int .i64 qu, .int .i64 ha, .slice sa M kc, .slice na K nc]] w (RetBool w true) := by
  obtain ⟨c, hk⟩ := isMF_some te qu ha M S K T
  have hL1 := outRO_len hk
  obtain ⟨n, hnv⟩ : ∃ n, (outRO M S K T c).length = n := ⟨_, rfl⟩
  obtain ⟨L, hLv⟩ : ∃ L, lf (outRO M S K T c) = L := ⟨_, rfl⟩
  have HNV' := Lib.hid hnv; have HLV := Lib.hid hLv
  have hn1 : n ≤ 1048576 := by omega
  clear hL1 hnv hLv
  have HK := Lib.hid hk; have P0 := Lib.hid hp; have G0 := Lib.hid hg; have HN := Lib.hid hn
  have A_0 := Lib.hid (Blk.new_at (w := w) (cs := #[.int .i64 te, .int .i64 qu, .int .i64 ha, .slice sa M kc, .slice na K nc]) (t := 70) w.heap.size rfl)
  have HB0 := Lib.hid ((Below.refl w.heap.size w).alloc (Nat.le_refl _) (.cells #[.int .i64 te, .int .i64 qu, .int .i64 ha, .slice sa M kc, .slice na K nc] 70))
  have c0 := A_0.out.at 0 rfl; have c1 := A_0.out.at 1 rfl; have c2 := A_0.out.at 2 rfl; have c3 := A_0.out.at 3 rfl; have c4 := A_0.out.at 4 rfl; have lA := A_0.out.1
  clear hk hp hg hn
  go_enter Try.func6, Try.ntmps6
  go_wp2_with fail
  refine (szMachine_any te qu ha sa M kc S na K nc T 1048576 _ (P0.out.below HB0.out) (G0.out.below HB0.out) hM hK HN.out (by omega) (by omega)).mono ?_
  rintro e w1 ⟨hb, r, rfl, hr1, hr2⟩
  have HB1 := Lib.hid (thru0 HB0.out hb)
  have A_1 := Lib.hid (A_0.out.below hb)
  clear hb c0 c1 c2 c3 c4 lA A_0 HB0
  rcases hr2 with rfl | ⟨h0, h1, h2, h3⟩
  · go_wp2
    go_ret
    exact ⟨rfl, HB1.out⟩
  have h9 : ¬ r < 0 := by omega
  have hM1 : M ≤ 1048576 := by omega
  have hK1 : K ≤ 1048576 := by omega
  have HN1 : Hid (∀ i, i < K → (T i).n ≤ 1048576) := Lib.hid fun i hi => by have := h3 i hi; omega
  clear h1 h2 h3 HN hM hK
  have c0 := A_1.out.at 0 rfl; have c1 := A_1.out.at 1 rfl; have c2 := A_1.out.at 2 rfl; have c3 := A_1.out.at 3 rfl; have c4 := A_1.out.at 4 rfl; have lA := A_1.out.1
  go_wp2_with fail
  refine (toMachine_any te qu ha sa M kc S na K nc T _ (P0.out.below HB1.out) (G0.out.below HB1.out) hM1 hK1 HN1.out).mono ?_
  rintro e w2 ⟨sb, kb, nb, mb, U, rfl, p2, g2, s2, hb⟩
  have HB2 := Lib.hid (thru0 HB1.out hb)
  have A_2 := Lib.hid (A_1.out.below hb)
  have P2 := Lib.hid p2; have G2 := Lib.hid g2; have S2 := Lib.hid s2
  clear hb c0 c1 c2 c3 c4 lA A_1 HB1 p2 g2 s2
  go_wp2_with fail
  refine (specRO_is te qu ha sb M kb S nb K mb U c n L _ P2.out G2.out hM1 hK1 (fun i hi => by have := (S2.out i hi).2.2.2.2.2.1; have := HN1.out i hi; omega) (isMF_same S2.out HK.out) (by rw [outRO_same HK.out S2.out]; exact HNV'.out) (by rw [outRO_same HK.out S2.out]; exact HLV.out)).mono ?_
  rintro e w3 ⟨wa, wc, rfl, ho, hb⟩
  have HB3 := Lib.hid (thru0 HB2.out hb)
  have A_3 := Lib.hid (A_2.out.below hb)
  have z3 : w2.heap.size ≤ w3.heap.size := hb.size
  have Rw_3 : Hid (OwnIn w3 w2.heap.size w3.heap.size wa n L) := Lib.hid ho.into
  clear hb A_2 HB2 P2 G2 S2 ho
  have HB4 := Lib.hid (HB3.out.alloc HB3.out.size (.cells #[.int .i64 c, .slice wa n wc] 35))
  have A_4 := Lib.hid (A_3.out.alloc (.cells #[.int .i64 c, .slice wa n wc] 35))
  have W_4 := Lib.hid (Blk.new_at (w := w3) (cs := #[.int .i64 c, .slice wa n wc]) (t := 35) w3.heap.size rfl)
  have Rw_4 := Lib.hid (Rw_3.out.alloc (.cells #[.int .i64 c, .slice wa n wc] 35))
  have z4 : w3.heap.size + 1 ≤ (w3.alloc (.cells #[.int .i64 c, .slice wa n wc] 35)).heap.size := by simp
  have c0 := A_4.out.at 0 rfl; have c1 := A_4.out.at 1 rfl; have c2 := A_4.out.at 2 rfl; have c3 := A_4.out.at 3 rfl; have c4 := A_4.out.at 4 rfl; have lA := A_4.out.1
  clear A_3 HB3
  go_wp2_with fail
  generalize w3.alloc (.cells #[.int .i64 c, .slice wa n wc] 35) = w4 at *
  have zA4 := A_4.out.1
  refine (toMachineO_any te qu ha sa M kc S na K nc T _ (P0.out.below HB4.out) (G0.out.below HB4.out) hM1 hK1 HN1.out).mono ?_
  rintro e w5 ⟨sx, kx, nx, mx, X, xm, xh, rfl, p4, g4, xz1, xz2, xz3, s4, hb⟩
  have HB5 := Lib.hid (thru0 HB4.out hb)
  have A_5 := Lib.hid (A_4.out.below hb); have W_5 := Lib.hid (W_4.out.below hb)
  have Rw_5 := Lib.hid (Rw_4.out.below hb)
  have P5 := Lib.hid p4; have G5 := Lib.hid g4; have S4 := Lib.hid s4
  clear hb c0 c1 c2 c3 c4 lA A_4 W_4 HB4 p4 g4 s4
  have hnX : ∀ i, i < K → (X i).n ≤ 1048576 := fun i hi => by have := (S4.out i hi).2.2.2.2.2.1; have := HN1.out i hi; omega
  have HNX := Lib.hid hnX
  have hnoff : noff X K ≤ 1099516968960 := by have := noff_le K hnX; have : K * 1048580 ≤ 1048576 * 1048580 := Nat.mul_le_mul_right _ hK1; omega
  have HNO := Lib.hid hnoff
  clear hnX hnoff
  have z5 : w4.heap.size ≤ w5.heap.size := by omega
  generalize w3.heap.size = W0 at *
  go_wp2_with fail
  have A_6 := Lib.hid (A_5.out.alloc (.cells #[.int .i64 te, .int .i64 qu, .int .i64 ha, .slice sx M kx, .slice nx K mx] 54)); have W_6 := Lib.hid (W_5.out.alloc (.cells #[.int .i64 te, .int .i64 qu, .int .i64 ha, .slice sx M kx, .slice nx K mx] 54))
  have X_6 := Lib.hid (Blk.new_at (w := w5) (cs := #[.int .i64 te, .int .i64 qu, .int .i64 ha, .slice sx M kx, .slice nx K mx]) (t := 54) w5.heap.size rfl)
  have HB6 := Lib.hid (HB5.out.alloc HB5.out.size (.cells #[.int .i64 te, .int .i64 qu, .int .i64 ha, .slice sx M kx, .slice nx K mx] 54))
  have P6 := Lib.hid (P5.out.alloc (.cells #[.int .i64 te, .int .i64 qu, .int .i64 ha, .slice sx M kx, .slice nx K mx] 54))
  have G6 := Lib.hid (G5.out.alloc (.cells #[.int .i64 te, .int .i64 qu, .int .i64 ha, .slice sx M kx, .slice nx K mx] 54))
  have Rw_6 := Lib.hid (Rw_5.out.alloc (.cells #[.int .i64 te, .int .i64 qu, .int .i64 ha, .slice sx M kx, .slice nx K mx] 54))
  have z6 : w5.heap.size + 1 ≤ (w5.alloc (.cells #[.int .i64 te, .int .i64 qu, .int .i64 ha, .slice sx M kx, .slice nx K mx] 54)).heap.size := by simp
  clear A_5 W_5 HB5 P5 G5
  generalize w5.alloc (.cells #[.int .i64 te, .int .i64 qu, .int .i64 ha, .slice sx M kx, .slice nx K mx] 54) = w6 at *
  generalize w5.heap.size = X0 at *
  refine (implRO_it te qu ha sx M kx S nx K mx X c n L _ P6.out.src G6.out.src hM1 hK1 HNX.out (isMF_same S4.out HK.out) (by rw [outRO_same HK.out S4.out]; exact HNV'.out) (by rw [outRO_same HK.out S4.out]; exact HLV.out)).mono ?_
  rintro e w7 ⟨ga, gc, rfl, ho, hb⟩
  have HB7 := Lib.hid (thru0 HB6.out hb)
  have A_7 := Lib.hid (A_6.out.below hb); have W_7 := Lib.hid (W_6.out.below hb); have X_7 := Lib.hid (X_6.out.below hb); have P7 := Lib.hid (P6.out.below hb); have G7 := Lib.hid (G6.out.below hb)
  have z7 : w6.heap.size ≤ w7.heap.size := hb.size
  have Rw_7 := Lib.hid (Rw_6.out.below hb)
  have Rg_7 : Hid (OwnIn w7 w6.heap.size w7.heap.size ga n L) := Lib.hid ho.into
  clear hb A_6 W_6 X_6 HB6 P6 G6 ho
  have d0 := W_7.out.at 0 rfl; have d1 := W_7.out.at 1 rfl; have lW := W_7.out.1
  have A_8 := Lib.hid (A_7.out.alloc (.cells #[.int .i64 c, .slice ga n gc] 35)); have W_8 := Lib.hid (W_7.out.alloc (.cells #[.int .i64 c, .slice ga n gc] 35)); have X_8 := Lib.hid (X_7.out.alloc (.cells #[.int .i64 c, .slice ga n gc] 35)); have P8 := Lib.hid (P7.out.alloc (.cells #[.int .i64 c, .slice ga n gc] 35)); have G8 := Lib.hid (G7.out.alloc (.cells #[.int .i64 c, .slice ga n gc] 35))
  have Y_8 := Lib.hid (Blk.new_at (w := w7) (cs := #[.int .i64 c, .slice ga n gc]) (t := 35) w7.heap.size rfl)
  have HB8 := Lib.hid (HB7.out.alloc HB7.out.size (.cells #[.int .i64 c, .slice ga n gc] 35))
  have Rw_8 := Lib.hid (Rw_7.out.alloc (.cells #[.int .i64 c, .slice ga n gc] 35))
  have Rg_8 := Lib.hid (Rg_7.out.alloc (.cells #[.int .i64 c, .slice ga n gc] 35))
  have z8 : w7.heap.size + 1 ≤ (w7.alloc (.cells #[.int .i64 c, .slice ga n gc] 35)).heap.size := by simp
  go_wp2_with fail
  clear d0 d1 lW A_7 W_7 X_7 P7 G7 HB7
  generalize w7.alloc (.cells #[.int .i64 c, .slice ga n gc] 35) = w8 at *
  generalize w7.heap.size = Y0 at *
  refine (eqIR_same _ _ _ _ _ _ L L _ Rg_8.out.src Rw_8.out.src hn1 (fun _ _ => rfl)).mono ?_
  rintro e w9 ⟨rfl, hb⟩
  have HB9 := Lib.hid (thru0 HB8.out hb)
  have A_9 := Lib.hid (A_8.out.below hb); have W_9 := Lib.hid (W_8.out.below hb); have X_9 := Lib.hid (X_8.out.below hb); have P9 := Lib.hid (P8.out.below hb); have G9 := Lib.hid (G8.out.below hb); have Y_9 := Lib.hid (Y_8.out.below hb)
  have Rw_9 := Lib.hid (Rw_8.out.below hb)
  have Rg_9 := Lib.hid (Rg_8.out.below hb)
  have z9 : w8.heap.size ≤ w9.heap.size := hb.size
  clear hb A_8 W_8 X_8 P8 G8 Y_8 HB8
  have c0 := A_9.out.at 0 rfl; have c1 := A_9.out.at 1 rfl; have c2 := A_9.out.at 2 rfl; have c3 := A_9.out.at 3 rfl; have c4 := A_9.out.at 4 rfl; have lA := A_9.out.1
  have d0 := X_9.out.at 0 rfl; have d1 := X_9.out.at 1 rfl; have d2 := X_9.out.at 2 rfl; have d3 := X_9.out.at 3 rfl; have d4 := X_9.out.at 4 rfl; have lX := X_9.out.1
  go_wp2_with fail
  have A_d := Lib.hid A_9.out.drew; have X_d := Lib.hid X_9.out.drew; have HB_d := Lib.hid HB9.out.drew
  go_region_held3 (fun w' => w'.cell? ⟨w.heap.size, 0, none⟩ = some (.int .i64 te) ∧ w'.cell? ⟨w.heap.size, 1, none⟩ = some (.int .i64 qu) ∧ w'.cell? ⟨w.heap.size, 2, none⟩ = some (.int .i64 ha) ∧ w'.cell? ⟨w.heap.size, 3, none⟩ = some (.slice sa M kc) ∧ w'.cell? ⟨w.heap.size, 4, none⟩ = some (.slice na K nc) ∧ w'.cell? ⟨X0, 0, none⟩ = some (.int .i64 te) ∧ w'.cell? ⟨X0, 1, none⟩ = some (.int .i64 qu) ∧ w'.cell? ⟨X0, 2, none⟩ = some (.int .i64 ha) ∧ w'.cell? ⟨X0, 3, none⟩ = some (.slice sx M kx) ∧ w'.cell? ⟨X0, 4, none⟩ = some (.slice nx K mx))
    (first | (with_reducible exact cap10 A_9.out X_9.out) | (with_reducible exact cap10 A_d.out X_d.out) | (with_reducible exact cap10 A_10.out X_10.out) | (with_reducible exact cap10 A_11.out X_11.out))
    (first | (go_at_call 44; refine (toMachine_any te qu ha sa M kc S na K nc T _ (P0.out.below HB_d.out) (G0.out.below HB_d.out) hM1 hK1 HN1.out).mono ?_; rintro e w10 ⟨sy, ky, ny, my, Y, rfl, p7, g7, s7, hb⟩; have HB10 := Lib.hid (thru0 HB_d.out hb); have hb10 : Below w9.heap.size w9 w10 := (Below.refl _ _).drew.trans (hb.mono (by simp)); have BT10 := Lib.hid hb10; have A_10 := Lib.hid (A_9.out.below hb10); have X_10 := Lib.hid (X_9.out.below hb10); have P10 := Lib.hid (P9.out.below hb10); have G10 := Lib.hid (G9.out.below hb10); have P10' := Lib.hid p7; have G10' := Lib.hid g7; have S7 := Lib.hid (show ∀ i, i < K → GSame (X i) (Y i) from fun i hi => gsame_trans (gsame_symm (S4.out i hi)) (s7 i hi)); clear hb hb10 p7 g7 s7) | (go_at_call 46; refine (eqMachine_same te qu ha sx sy M kx ky S nx ny K mx my X Y _ P10.out.src G10.out.src P10'.out G10'.out S7.out hM1 hK1 HNX.out).mono ?_; rintro e w11 ⟨rfl, hb⟩; have HB11 := Lib.hid (thru0 HB10.out hb); have BT11 := Lib.hid (thru0 BT10.out hb); have A_11 := Lib.hid (A_10.out.below hb); have X_11 := Lib.hid (X_10.out.below hb); clear hb))
  have W_11 := Lib.hid (W_9.out.below BT11.out); have P11 := Lib.hid (P9.out.below BT11.out); have G11 := Lib.hid (G9.out.below BT11.out); have Y_11 := Lib.hid (Y_9.out.below BT11.out)
  have Rw_11 := Lib.hid (Rw_9.out.below BT11.out)
  have Rg_11 := Lib.hid (Rg_9.out.below BT11.out)
  have z11 : w9.heap.size ≤ w11.heap.size := BT11.out.size
  clear c0 c1 c2 c3 c4 lA d0 d1 d2 d3 d4 lX A_9 X_9 A_d X_d HB_d HB9 W_9 P9 G9 Y_9 A_10 X_10 P10 G10 P10' G10' S7 BT10 BT11 HB10
  have d0 := X_11.out.at 0 rfl; have d1 := X_11.out.at 1 rfl; have d2 := X_11.out.at 2 rfl; have d3 := X_11.out.at 3 rfl; have d4 := X_11.out.at 4 rfl; have lX := X_11.out.1
  go_wp2_with fail
  refine (markMach_big te qu ha sx M kx S nx K mx X w4.heap.size xm xh 1 _ P11.out G11.out xz1 xz2 (by omega) (by omega) (by have := HNO.out; omega) hK1 HNX.out).mono ?_
  rintro e w12 ⟨rfl, -, -, hkp⟩
  have HB12 := Lib.hid (HB11.out.trans (hkp.below (by omega) HB11.out.size))
  have A_12 := Lib.hid (A_11.out.keeps hkp (.inl (by omega))); have W_12 := Lib.hid (W_11.out.keeps hkp (.inl (by omega))); have Y_12 := Lib.hid (Y_11.out.keeps hkp (.inr (by omega)))
  have Rw_12 := Lib.hid (Rw_11.out.keeps hkp (.inl (by omega)))
  have Rg_12 := Lib.hid (Rg_11.out.keeps hkp (.inr (by omega)))
  have z12 : w11.heap.size ≤ w12.heap.size := hkp.size
  obtain ⟨kk, hkk⟩ : ∃ kk, kk = 1 + 2 * (M : Int) + (noff X K : Int) := ⟨_, rfl⟩
  rw [← hkk]
  have hkk0 : ¬ kk < 0 := by omega
  clear hkk hkp d0 d1 d2 d3 d4 lX A_11 X_11 W_11 P11 G11 Y_11 HB11
  have d0 := W_12.out.at 0 rfl; have d1 := W_12.out.at 1 rfl; have lW := W_12.out.1
  have e0 := Y_12.out.at 0 rfl; have e1 := Y_12.out.at 1 rfl; have lY := Y_12.out.1
  go_wp2_with fail
  refine (eqIR_same _ _ _ _ _ _ L L _ Rg_12.out.src Rw_12.out.src hn1 (fun _ _ => rfl)).mono ?_
  rintro e w13 ⟨rfl, hb⟩
  have HB13 := Lib.hid (thru0 HB12.out hb)
  have A_13 := Lib.hid (A_12.out.below hb); have W_13 := Lib.hid (W_12.out.below hb); have Y_13 := Lib.hid (Y_12.out.below hb)
  have Rw_13 := Lib.hid (Rw_12.out.below hb)
  have Rg_13 := Lib.hid (Rg_12.out.below hb)
  have z13 : w12.heap.size ≤ w13.heap.size := hb.size
  clear hb d0 e0 d1 e1 lW lY A_12 W_12 Y_12 HB12
  have e0 := Y_13.out.at 0 rfl; have e1 := Y_13.out.at 1 rfl; have lY := Y_13.out.1

  go_wp2_with fail
  refine (markIR_any _ _ _ _ _ _ _ _ _ Rg_13.out hn1 (by omega) (by omega)).mono ?_
  rintro e w14 ⟨rfl, ho, hkp⟩
  have HB14 := Lib.hid (HB13.out.trans (hkp.below (by omega) HB13.out.size))
  have A_14 := Lib.hid (A_13.out.keeps hkp (.inl (by omega))); have W_14 := Lib.hid (W_13.out.keeps hkp (.inl (by omega))); have Y_14 := Lib.hid (Y_13.out.keeps hkp (.inr (by omega)))
  have Rw_14 := Lib.hid (Rw_13.out.keeps hkp (.inl (by omega)))
  have Mg_14 : Hid (OwnIn w14 w6.heap.size Y0 ga n (fun i => 1 + i)) := Lib.hid ho
  have z14 : w13.heap.size ≤ w14.heap.size := hkp.size
  clear hkp e0 e1 lY A_13 W_13 Y_13 HB13 ho
  have e0 := Y_14.out.at 0 rfl; have e1 := Y_14.out.at 1 rfl; have lY := Y_14.out.1
  go_wp2_with fail
  refine (heldIR_any _ _ _ _ 1 _ Mg_14.out.src hn1 (by omega) (by omega)).mono ?_
  rintro e w15 ⟨rfl, hb⟩
  skip
  have HB15 := Lib.hid (thru0 HB14.out hb)
  have A_15 := Lib.hid (A_14.out.below hb); have W_15 := Lib.hid (W_14.out.below hb); have Y_15 := Lib.hid (Y_14.out.below hb)
  have Rw_15 := Lib.hid (Rw_14.out.below hb)
  have Mg_15 := Lib.hid (Mg_14.out.below hb)
  have z15 : w14.heap.size ≤ w15.heap.size := hb.size
  clear hb e0 e1 lY A_14 W_14 Y_14 HB14
  have c0 := A_15.out.at 0 rfl; have c1 := A_15.out.at 1 rfl; have c2 := A_15.out.at 2 rfl; have c3 := A_15.out.at 3 rfl; have c4 := A_15.out.at 4 rfl; have lA := A_15.out.1
  go_wp2_with fail
  refine (toMachine_any te qu ha sa M kc S na K nc T _ (P0.out.below HB15.out) (G0.out.below HB15.out) hM1 hK1 HN1.out).mono ?_
  rintro e w16 ⟨sv, kv, nv, mv, V, rfl, p7, g7, s7, hb⟩
  have HB16 := Lib.hid (thru0 HB15.out hb)
  have W_16 := Lib.hid (W_15.out.below hb); have Y_16 := Lib.hid (Y_15.out.below hb); have P16 := Lib.hid p7; have G16 := Lib.hid g7; have S7 := Lib.hid s7
  have Rw_16 := Lib.hid (Rw_15.out.below hb)
  have Mg_16 := Lib.hid (Mg_15.out.below hb)
  have z16 : w15.heap.size ≤ w16.heap.size := hb.size
  clear hb c0 c1 c2 c3 c4 lA A_15 W_15 Y_15 HB15 p7 g7 s7
  have hnV : ∀ i, i < K → (V i).n ≤ 1048576 := fun i hi => by have := (S7.out i hi).2.2.2.2.2.1; have := HN1.out i hi; omega
  have HNV := Lib.hid hnV
  clear hnV
  go_wp2_with fail
  refine (implRO_it te qu ha sv M kv S nv K mv V c n L _ P16.out G16.out hM1 hK1 HNV.out (isMF_same S7.out HK.out) (by rw [outRO_same HK.out S7.out]; exact HNV'.out) (by rw [outRO_same HK.out S7.out]; exact HLV.out)).mono ?_
  rintro e w17 ⟨ha, hc, rfl, ho, hb⟩
  have HB17 := Lib.hid (thru0 HB16.out hb)
  have W_17 := Lib.hid (W_16.out.below hb); have Y_17 := Lib.hid (Y_16.out.below hb)
  have Rw_17 := Lib.hid (Rw_16.out.below hb)
  have Mg_17 := Lib.hid (Mg_16.out.below hb)
  have z17 : w16.heap.size ≤ w17.heap.size := hb.size
  have Rh_17 : Hid (OwnIn w17 w16.heap.size w17.heap.size ha n L) := Lib.hid ho.into
  clear hb W_16 Y_16 HB16 P16 G16 S7 HNV ho
  have d0 := W_17.out.at 0 rfl; have d1 := W_17.out.at 1 rfl; have lW := W_17.out.1
  have W_18 := Lib.hid (W_17.out.alloc (.cells #[.int .i64 c, .slice ha n hc] 35)); have Y_18 := Lib.hid (Y_17.out.alloc (.cells #[.int .i64 c, .slice ha n hc] 35))
  have HB18 := Lib.hid (HB17.out.alloc HB17.out.size (.cells #[.int .i64 c, .slice ha n hc] 35))
  have Rw_18 := Lib.hid (Rw_17.out.alloc (.cells #[.int .i64 c, .slice ha n hc] 35))
  have Mg_18 := Lib.hid (Mg_17.out.alloc (.cells #[.int .i64 c, .slice ha n hc] 35))
  have Rh_18 := Lib.hid (Rh_17.out.alloc (.cells #[.int .i64 c, .slice ha n hc] 35))
  go_wp2_with fail
  clear d0 d1 lW W_17 Y_17 HB17
  generalize w17.alloc (.cells #[.int .i64 c, .slice ha n hc] 35) = w18 at *
  refine (eqIR_same _ _ _ _ _ _ L L _ Rh_18.out.src Rw_18.out.src hn1 (fun _ _ => rfl)).mono ?_
  rintro e w19 ⟨rfl, hb⟩
  have HB19 := Lib.hid (thru0 HB18.out hb)
  have Y_19 := Lib.hid (Y_18.out.below hb)
  have Mg_19 := Lib.hid (Mg_18.out.below hb)
  clear hb W_18 Y_18 HB18
  have e0 := Y_19.out.at 0 rfl; have e1 := Y_19.out.at 1 rfl; have lY := Y_19.out.1
  go_wp2_with fail
  refine (heldIR_any _ _ _ _ 1 _ Mg_19.out.src hn1 (by omega) (by omega)).mono ?_
  rintro e w20 ⟨rfl, hb⟩
  skip
  have HB20 := Lib.hid (thru0 HB19.out hb)
  clear hb e0 e1 lY
  go_wp2
  go_ret
  exact ⟨rfl, HB20.out⟩
end Go.Proofs.Ytaenbjilcgpgcaa

