/- Texts merged: Z2 to Z6. -/
import Derived.Test.YtaenbjilcgpgcaaPUB2
namespace Go.Proofs.Ytaenbjilcgpgcaa
open Go.RowKit Go.Maps
set_option linter.unusedVariables false

/-- A pointer to a node of a row. -/
def ptrV (na : Option Addr) (i : Nat) : Value := match na with | some ⟨b, q, s⟩ => .pointer (some ⟨b, q + i * 5, s⟩) | none => .pointer none

def ptrS (na : Option Addr) (K : Nat) (T : Nat → GM) (O : List Int) : List Value := O.map fun x => ptrV na (ixN T x K)

def nv1 : Nat → Int := fun i => (i : Int) + 1

theorem ptrS_snoc (na : Option Addr) (K : Nat) (T : Nat → GM) (O : List Int) (x : Int) : ptrS na K T (O ++ [x]) = ptrS na K T O ++ [ptrV na (ixN T x K)] := by simp [ptrS]

/-- What is reached so far, as the program has it: in the block rb, with the map mb and the row v. -/
structure RN (w : World) (base rb mb : Nat) (v : Value) (na : Option Addr) (K : Nat) (T : Nat → GM) (O : List Int) : Prop where
  blk : Blk w rb [v, .map (some mb)]
  hrb : base ≤ rb
  hmb : base ≤ mb
  hne : mb ≠ rb
  vr : v.ownBlock ≠ some rb
  vm : v.ownBlock ≠ some mb
  row : w.ownsRow base 143 1 v O.length (ptrS na K T O)
  map : MapT w mb O.length O nv1

section

variable {w w' : World} {base rb mb : Nat} {v : Value} {na : Option Addr} {K : Nat} {T : Nat → GM} {O : List Int}

theorem RN.below (h : RN w base rb mb v na K T O) (hb : Below w.heap.size w w') : RN w' base rb mb v na K T O :=
  ⟨h.blk.below hb, h.hrb, h.hmb, h.hne, h.vr, h.vm, ownsRow_below h.row hb, h.map.below hb⟩

end

/-- What adding leaves as it was. -/
def AddQ (w w' : World) (rb mb : Nat) (v v' : Value) : Prop := (∀ k, k < w.heap.size → k ≠ rb → k ≠ mb → v.ownBlock ≠ some k → w'.heap[k]? = w.heap[k]?) ∧ (v'.ownBlock = v.ownBlock ∨ ∀ k, v'.ownBlock = some k → w.heap.size ≤ k)

theorem Try.infoPN : (Try.prog.info? 143).map (fun i => (i.zero, i.size, i.bytes)) = some (some (.pointer none), 1, 8) := by kernel_rfl

theorem Try.underlyingPN : Try.prog.underlying 139 = some (.slice 143) := by kernel_rfl

theorem newsP (w : World) (x : Value) : ∀ (j : Nat) (u : Value), ([x] : List Value)[j]? = some u → (w.alloc (.cells #[x] 143)).cell? ((⟨w.heap.size, 0, none⟩ : Addr).add j) = some u := fun j u hu => by
  match j, hu with
  | 0, hu => exact (Blk.new w #[x] 143).at 0 hu
  | j + 1, hu => simp at hu

theorem nmM_pos {R : List Int} {x : Int} (h : x ∈ R) : (nmM R x != 0) = true := by
  obtain ⟨j, _, e, _⟩ := nmM_in h
  rw [e]; simp; omega

set_option maxRecDepth 100000 in
set_option maxHeartbeats 1600000 in
theorem addN_nil (base rb mb : Nat) (v : Value) (na : Option Addr) (K : Nat) (T : Nat → GM) (O : List Int) (w : World) (h : RN w base rb mb v na K T O) (hz : base ≤ w.heap.size) :
    Calls Try.prog 151 #[.pointer (some ⟨rb, 0, none⟩), .pointer none] w fun e w' => e = .returned (.tuple #[]) ∧ Below base w w' ∧ w.heap.size ≤ w'.heap.size ∧ AddQ w w' rb mb v v ∧ RN w' base rb mb v na K T O := by
  have H := Lib.hid h
  have lB := h.blk.1; have cB0 := h.blk.at 0 rfl; have cB1 := h.blk.at 1 rfl
  clear h
  go_enter Try.func151, Try.ntmps151
  go_wp2_with fail
  go_quiet (fail)
  go_wp2
  refine bodyPost_ret (v := .tuple #[]) (by simp [results, Try.results151, go_sem]) rfl ?_
  have hb := below_drewN (Below.refl w.heap.size w)
  exact ⟨rfl, (hb _).mono hz, (hb _).size, ⟨fun k h1 h2 h3 h4 => (hb _).block k h1, .inl rfl⟩, H.out.below (hb _)⟩

set_option maxRecDepth 100000 in
set_option maxHeartbeats 1600000 in
theorem addN_old (base rb mb : Nat) (v : Value) (b q : Nat) (K : Nat) (T : Nat → GM) (O : List Int) (i : Nat) (t : GM) (w : World) (h : RN w base rb mb v (some ⟨b, q, none⟩) K T O) (hz : base ≤ w.heap.size) (ht : FivG w b (q + i * 5) t) (hl : b < w.heap.size) (hp : -1000000000 ≤ t.at_ ∧ t.at_ ≤ 1000000000) (hin : t.at_ ∈ O) :
    Calls Try.prog 151 #[.pointer (some ⟨rb, 0, none⟩), .pointer (some ⟨b, q + i * 5, none⟩)] w fun e w' => e = .returned (.tuple #[]) ∧ Below base w w' ∧ w.heap.size ≤ w'.heap.size ∧ AddQ w w' rb mb v v ∧ RN w' base rb mb v (some ⟨b, q, none⟩) K T O := by
  have H := Lib.hid h
  have lB := h.blk.1; have cB0 := h.blk.at 0 rfl; have cB1 := h.blk.at 1 rfl
  obtain ⟨x0, x1, x2, x3, x4⟩ := ht
  have hlk := fun q => (h.map.drewN q).look hp
  have hnv : nv1 = fun i : Nat => (i : Int) + 1 := rfl
  have e1 : (tab O nv1 t.at_).getD 0 = nmM O t.at_ := by rw [hnv]; exact tab_nmM O t.at_
  rw [e1] at hlk
  have hne := nmM_pos hin
  generalize nmM O t.at_ = nm at *
  clear h e1 hnv
  go_enter Try.func151, Try.ntmps151
  go_wp2_with fail
  go_quiet (fail)
  clear hlk
  go_wp2
  refine bodyPost_ret (v := .tuple #[]) (by simp [results, Try.results151, go_sem]) rfl ?_
  have hb := below_drewN (Below.refl w.heap.size w)
  exact ⟨rfl, (hb _).mono hz, (hb _).size, ⟨fun k h1 h2 h3 h4 => (hb _).block k h1, .inl rfl⟩, H.out.below (hb _)⟩

set_option maxRecDepth 100000 in
set_option maxHeartbeats 3200000 in
theorem addN_new (base rb mb : Nat) (v : Value) (b q : Nat) (K : Nat) (T : Nat → GM) (O : List Int) (i : Nat) (t : GM) (w : World) (h : RN w base rb mb v (some ⟨b, q, none⟩) K T O) (hz : base ≤ w.heap.size) (ht : FivG w b (q + i * 5) t) (hl : b < base) (hp : -1000000000 ≤ t.at_ ∧ t.at_ ≤ 1000000000) (hin : t.at_ ∉ O) (hix : ixN T t.at_ K = i) (ho : O.length ≤ 400) :
    Calls Try.prog 151 #[.pointer (some ⟨rb, 0, none⟩), .pointer (some ⟨b, q + i * 5, none⟩)] w fun e w' => e = .returned (.tuple #[]) ∧ Below base w w' ∧ w.heap.size ≤ w'.heap.size ∧ ∃ v', AddQ w w' rb mb v v' ∧ RN w' base rb mb v' (some ⟨b, q, none⟩) K T (O ++ [t.at_]) := by
  have H := Lib.hid h
  have B0 := Lib.hid h.blk
  have M0 := Lib.hid h.map
  have hrbl : rb < w.heap.size := h.blk.1
  have hmbl : mb < w.heap.size := h.map.lt
  have hr1 := h.hrb; have hm1 := h.hmb; have hne := h.hne
  have lB := h.blk.1; have cB0 := h.blk.at 0 rfl; have cB1 := h.blk.at 1 rfl
  have HT := Lib.hid ht
  have HP := Lib.hid hp; have HIN := Lib.hid hin; have HIX := Lib.hid hix
  obtain ⟨x0, x1, x2, x3, x4⟩ := ht
  have hlk := fun q => (h.map.drewN q).look hp
  have hnv : nv1 = fun i : Nat => (i : Int) + 1 := rfl
  have e1 : (tab O nv1 t.at_).getD 0 = 0 := by rw [hnv]; exact (tab_nmM O t.at_).trans (nmM_zero hin)
  rw [e1] at hlk
  obtain ⟨j0, hif, hj0, hj1, hj2⟩ := info_parts Try.infoPN
  obtain ⟨av, kv, rfl⟩ : ∃ av kv, v = .slice av O.length kv := by
    obtain ⟨a, c, e, _⟩ := row_shape h.row
    exact ⟨a, c, e⟩
  clear h e1 hnv hp hin hix
  go_enter Try.func151, Try.ntmps151
  go_wp2_with fail
  go_quiet (fail)
  clear hlk
  have HB1 := Lib.hid (below_drewN (Below.refl w.heap.size w) nq)
  have B1 := Lib.hid (B0.out.below (drewN_below w nq)); have M1 := Lib.hid (M0.out.drewN nq)
  have OW1 := Lib.hid (ownsRow_below H.out.row (drewN_below w nq))
  have z1 : w.heap.size = (w.drewN nq).heap.size := by simp
  have T1 := Lib.hid (HT.out.below (drewN_below w nq) (by omega))
  clear x0 x1 x2 x3 x4 lB cB0 cB1 B0 M0
  generalize w.drewN nq = w1 at *
  have lB := B1.out.1; have cB0 := B1.out.at 0 rfl; have fB0 := B1.out.free 0 rfl; have cB1 := B1.out.at 1 rfl
  go_wp2_with (at_builtin; go_loud (refine wpList_append_lies _ rfl _ _ 139 rfl base 143 j0 _ 1 8 Try.underlyingPN hif hj0 hj1 hj2 rfl (by decide) (.slice av O.length kv) O.length (ptrS (some ⟨b, q, none⟩) K T O) rfl (OW1.out.alloc _) ⟨w1.heap.size, 0, none⟩ 1 1 [.pointer (some ⟨b, q + i * 5, none⟩)] rfl rfl (newsP w1 _) (by intro u hu; simp only [List.mem_cons, List.mem_nil_iff, or_false] at hu; subst hu; rfl) (by omega) (by unfold maxLen; omega) (by omega) (by simp; omega) (w1.heap.size + 1) (by simp) ?_); intro g9 cap9 w9 hown9 hgrow9 hat9 hlt9; have T9 := Lib.hid (blk_grown (B1.out.alloc _) hgrow9 H.out.vr); have l9 := T9.out.1; have d90 := T9.out.at 0 rfl; have e90 := T9.out.free 0 rfl; have d91 := T9.out.at 1 rfl)
  have HB9 : Hid (Below base w w9) := Lib.hid (((HB1.out.mono hz).alloc (by omega) _).grown hgrow9 (by simp; omega) (fun k hk => (OW1.out.lt k hk).1))
  have hz9 : w.heap.size ≤ w9.heap.size := by have := hgrow9.size; simp at this; omega
  have hg9r : g9 ≠ rb := by
    rcases hat9 with he | he
    · intro e; exact H.out.vr (by rw [he, e])
    · omega
  have hg9m : g9 ≠ mb := by
    rcases hat9 with he | he
    · intro e; exact H.out.vm (by rw [he, e])
    · omega
  have HQ9 : Hid (∀ k, k < w.heap.size → (Value.slice av O.length kv).ownBlock ≠ some k → w9.heap[k]? = w.heap[k]?) := Lib.hid (fun k hk hv => by
    have e1 := HB1.out.block k hk
    have e2 := ((Below.refl w1.heap.size w1).alloc (Nat.le_refl _) (.cells #[.pointer (some ⟨b, q + i * 5, none⟩)] 143)).block k (by omega)
    have e3 := hgrow9.block k (by simp; omega) (fun e => hv e.symm)
    exact e3.trans (e2.trans e1))
  have HG9 : Hid ((Value.slice (some ⟨g9, 0, none⟩) (O.length + 1) cap9).ownBlock = (Value.slice av O.length kv).ownBlock ∨ ∀ k, (Value.slice (some ⟨g9, 0, none⟩) (O.length + 1) cap9).ownBlock = some k → w.heap.size ≤ k) := Lib.hid (by
    rcases hat9 with he | he
    · exact .inl he.symm
    · refine .inr fun k hk => ?_
      have : g9 = k := by simpa [Value.ownBlock] using hk
      omega)
  have M9 := Lib.hid ((M1.out.alloc (.cells #[.pointer (some ⟨b, q + i * 5, none⟩)] 143)).grown hgrow9 H.out.vm)
  have OW9 := Lib.hid hown9
  clear hown9 hgrow9 hat9 lB cB0 fB0 cB1 B1 M1 OW1 HB1 T1 z1
  go_wp2_with fail
  have BA := Lib.hid (T9.out.set 0 (by simp) (.slice (some ⟨g9, 0, none⟩) (O.length + 1) cap9))
  have OWA := Lib.hid (ownsRow_setCell_other (a := ⟨rb, 0, none⟩) OW9.out (fun e => hg9r (by simpa [Value.ownBlock] using e)) (.slice (some ⟨g9, 0, none⟩) (O.length + 1) cap9))
  have MA := Lib.hid (M9.out.set (p := ⟨rb, 0, none⟩) hne (.slice (some ⟨g9, 0, none⟩) (O.length + 1) cap9))
  have HBA : Hid (Below base w (w9.setCell ⟨rb, 0, none⟩ (.slice (some ⟨g9, 0, none⟩) (O.length + 1) cap9))) := Lib.hid (HB9.out.setCell hr1 _)
  have zA : w.heap.size ≤ (w9.setCell ⟨rb, 0, none⟩ (.slice (some ⟨g9, 0, none⟩) (O.length + 1) cap9)).heap.size := by simpa using hz9
  have HQA : Hid (∀ k, k < w.heap.size → k ≠ rb → (Value.slice av O.length kv).ownBlock ≠ some k → (w9.setCell ⟨rb, 0, none⟩ (.slice (some ⟨g9, 0, none⟩) (O.length + 1) cap9)).heap[k]? = w.heap[k]?) := Lib.hid (fun k hk hr hv => (Below.heap_setCell _ _ _ k hr).trans (HQ9.out k hk hv))
  clear T9 l9 d90 e90 d91 OW9 M9 HB9 HQ9
  generalize w9.setCell ⟨rb, 0, none⟩ (.slice (some ⟨g9, 0, none⟩) (O.length + 1) cap9) = wA at *
  have TA := HT.out.block (HBA.out.block b hl)
  have lBA := BA.out.1; have cA0 := BA.out.at 0 rfl; have cA1 := BA.out.at 1 rfl
  have hlA : b < wA.heap.size := by omega
  obtain ⟨y0, y1, y2, y3, y4⟩ := TA
  go_still_tail 13, (by kernel_rfl)
  change wpList _ _ _ _ _ wA.drew
  clear lBA cA0 cA1 y0 y1 y2 y3 y4 hlA
  have B2 := Lib.hid BA.out.drew; have M2 := Lib.hid MA.out.drew
  have OW2 : Hid (wA.drew.ownsRow base 143 1 (.slice (some ⟨g9, 0, none⟩) (O.length + 1) cap9) (O.length + 1) (ptrS (some ⟨b, q, none⟩) K T O ++ [.pointer (some ⟨b, q + i * 5, none⟩)])) := Lib.hid (ownsRow_below OWA.out (Below.refl _ _).drew)
  have HB2 := Lib.hid HBA.out.drew
  have z2 : w.heap.size ≤ wA.drew.heap.size := by simpa using zA
  have HQ2 : Hid (∀ k, k < w.heap.size → k ≠ rb → (Value.slice av O.length kv).ownBlock ≠ some k → wA.drew.heap[k]? = w.heap[k]?) := Lib.hid (fun k hk hr hv => HQA.out k hk hr hv)
  clear BA MA OWA HBA zA HQA
  generalize wA.drew = w2 at *
  have en : nv1 O.length = (O.length : Int) + 1 := rfl
  obtain ⟨w3, hr3, hm3, hg3⟩ := M2.out.update (by unfold maxLen; omega) HP.out (by rw [en]; constructor <;> omega) HIN.out
  rw [en] at hr3
  have HB3 : Hid (Below base w w3) := Lib.hid (HB2.out.grown hg3 (by omega) (fun k hk => by cases hk; exact hm1))
  have hz3 : w.heap.size ≤ w3.heap.size := by have := hg3.size; omega
  have B3 := Lib.hid (blk_grown B2.out hg3 (by simp; omega))
  have M3 := Lib.hid hm3
  have OW3 := Lib.hid (OW2.out.kept hg3 (.inr (fun e => hg9m (by simpa [Value.ownBlock] using e))))
  have HQ3 : Hid (AddQ w w3 rb mb (.slice av O.length kv) (.slice (some ⟨g9, 0, none⟩) (O.length + 1) cap9)) := Lib.hid ⟨fun k hk hr hm hv => (hg3.block k (by omega) (by simp; omega)).trans (HQ2.out k hk hr hv), HG9.out⟩
  clear B2 M2 OW2 HB2 hm3 hg3 en HQ2 HG9
  go_wp2
  refine bodyPost_end (v := .tuple #[]) (by simp [results, Try.results151, go_sem]) rfl ?_
  refine ⟨rfl, HB3.out, hz3, .slice (some ⟨g9, 0, none⟩) (O.length + 1) cap9, HQ3.out, B3.out, hr1, hm1, hne, fun e => hg9r (by simpa [Value.ownBlock] using e), fun e => hg9m (by simpa [Value.ownBlock] using e), ?_, ?_⟩
  · rw [ptrS_snoc, HIX.out, List.length_append]
    exact OW3.out
  · rw [List.length_append]
    exact M3.out

/-- What nodeWith answers is added. -/
theorem addN_any (base rb mb : Nat) (v : Value) (na : Option Addr) (K : Nat) (T : Nat → GM) (O : List Int) (y : Int) (pv : Value) (w : World) (h : RN w base rb mb v na K T O) (hz : base ≤ w.heap.size)
    (hp : (y = 0 ∧ pv = .pointer none) ∨ ∃ i b q, i < K ∧ (T i).at_ = y ∧ na = some ⟨b, q, none⟩ ∧ b < base ∧ pv = .pointer (some ⟨b, q + i * 5, none⟩)) (hg : NV w na K T) (hr : MRise K T) (hi : ∀ i, i < K → 1 ≤ (T i).at_ ∧ (T i).at_ ≤ 9999) (ho : O.length ≤ 400) :
    Calls Try.prog 151 #[.pointer (some ⟨rb, 0, none⟩), pv] w fun e w' => e = .returned (.tuple #[]) ∧ Below base w w' ∧ w.heap.size ≤ w'.heap.size ∧ ∃ v', AddQ w w' rb mb v v' ∧ RN w' base rb mb v' na K T (add1z O y) := by
  rcases hp with ⟨rfl, rfl⟩ | ⟨i, b, q, hiK, rfl, rfl, hb, rfl⟩
  · refine (addN_nil base rb mb v na K T O w h hz).mono ?_
    rintro e w' ⟨h1, h2, h3, h5, h4⟩
    exact ⟨h1, h2, h3, v, h5, by rw [add1z_zero]; exact h4⟩
  · have hid := hi i hiK
    obtain ⟨b', q', e, lb, hf, _⟩ := nv_get hg hiK
    simp only [Option.some.injEq, Addr.mk.injEq, and_true] at e
    obtain ⟨rfl, rfl⟩ := e
    by_cases hin : (T i).at_ ∈ O
    · refine (addN_old base rb mb v b q K T O i (T i) w h hz hf lb (by omega) hin).mono ?_
      rintro e w' ⟨h1, h2, h3, h5, h4⟩
      exact ⟨h1, h2, h3, v, h5, by rw [add1z_in (by omega) hin]; exact h4⟩
    · refine (addN_new base rb mb v b q K T O i (T i) w h hz hf hb (by omega) hin (ixN_eq hr hiK rfl) ho).mono ?_
      rintro e w' ⟨h1, h2, h3, v', h5, h4⟩
      exact ⟨h1, h2, h3, v', h5, by rw [add1z_new (by omega) hin]; exact h4⟩
end Go.Proofs.Ytaenbjilcgpgcaa

namespace Go.Proofs.Ytaenbjilcgpgcaa
open Go.RowKit
set_option linter.unusedVariables false

set_option maxRecDepth 100000 in
set_option maxHeartbeats 1600000 in
theorem l5Used_any (g o : Nat) (te qu ha : Int) (sa : Option Addr) (M kc : Nat) (S : Nat → SL) (na : Option Addr) (K nc : Nat) (T : Nat → GM) (w : World)
    (hB : MAt w g o te qu ha sa M kc na K nc) (hp : PV w sa M S) (hg : NV w na K T) (hM : M ≤ 1000) (hK : K ≤ 1000) (hk : MWk M S K T) :
    Calls Try.prog 100 #[.pointer (some ⟨g, o, none⟩)] w (RetInt w (usedM M S K T)) := by
  have B := Lib.hid hB; have P := Lib.hid hp; have G := Lib.hid hg; have HW := Lib.hid hk
  have HRL := Lib.hid (reachM_len hk.lead)
  clear hB hp hg hk
  go_enter Try.func100, Try.ntmps100
  go_wp2_with fail
  refine (l5Reach_any g o te qu ha sa M kc S na K nc T _ B.out P.out G.out hM hK HW.out.nd HW.out.rise HW.out.lead).mono ?_
  rintro e w1 ⟨ra, rc, rfl, ho, hb, -, -, -⟩
  have HB1 := Lib.hid hb
  have HO := Lib.hid ho.src
  have HHAS : Hid (∀ x ∈ reachM M S K T, Has K T x) := Lib.hid (fun x hx => reachM_has HW.out.lead hx)
  have HU : Hid (usedM M S K T = wordsM K T (reachM M S K T)) := Lib.hid rfl
  have hrl := HRL.out
  generalize reachM M S K T = R at *
  generalize usedM M S K T = uu at *
  clear hb ho HRL
  go_wp2
  go_loopw [4, 5] (fun u p wr => ∃ (i : Nat), i ≤ R.length ∧ p = .int .i64 (i : Int) ∧ u = .int .i64 (wordsM K T (R.take i)) ∧ Hid (Below w.heap.size w wr) ∧ Hid (Below w1.heap.size w1 wr) ∧ (0 ≤ wordsM K T (R.take i) ∧ wordsM K T (R.take i) ≤ 14 * (i : Int))) (fun _ p _ => R.length - (intOf p).toNat)
  case atStart => exact ⟨0, Nat.zero_le _, rfl, rfl, HB1, Below.refl _ _, by simp [wordsM]⟩
  case round =>
    obtain ⟨i, hi, rfl, rfl, HBr, HB9, hw0, hw1⟩ := hrel
    by_cases hlt : i < R.length
    · have hlt' : (i : Int) < (R.length : Int) := by omega
      have hi0 : (0 : Int) ≤ (i : Int) := by omega
      have b4 := (B.out.below HBr.out).c4; have lB := (B.out.below HBr.out).lt
      obtain ⟨ob, oo, rfl, hob, hoc⟩ := src_some (HO.out.below HB9.out) (by omega)
      have o0 := hoc i hlt
      have hhas := HHAS.out _ (lf_mem hlt)
      obtain ⟨y, hy⟩ : ∃ y, lf R i = y := ⟨_, rfl⟩
      have hwt := wordsM_take (K := K) (T := T) hlt
      rw [hy] at o0 hhas hwt
      have hix := ixN_has hhas
      have HFD := Lib.hid (isFd_ix HW.out.rise hhas)
      have HND := Lib.hid (HW.out.nd _ hix)
      have HT : Hid (nodeM K T y = T (ixN T y K)) := Lib.hid rfl
      rw [HT.out] at hwt
      obtain ⟨x, hx⟩ : ∃ x, ixN T y K = x := ⟨_, rfl⟩
      rw [hx] at hix HFD HND hwt
      have hx' : (x : Int) < (K : Int) := by omega
      have hx0 : (0 : Int) ≤ (x : Int) := by omega
      have G1 := Lib.hid (G.out.below HBr.out)
      obtain ⟨b, q, rfl, lb, ⟨x0, x1, x2, x3, x4⟩, hsrc⟩ := nv_get G1.out hix
      have hs0 := HND.out.1.1
      have HWT := Lib.hid hwt
      generalize T x = t at *
      generalize wordsM K T (R.take i) = u0 at *
      clear hoc hy hhas hx hsrc HT hwt x0 x2 x3 x4
      go_wp2_with fail
      go_quiet (first | exact Calls.quiet_of_same (Calls.mono (l5Find_any _ K nc T y (x : Int) _ (G1.out.below (drewN_below _ _)) (show K ≤ 1048576 by omega) HFD.out) fun _ _ h => ⟨h.1, h.2.symm⟩))
      go_wp2
      exact ⟨⟨i + 1, by omega, by go_num, by rw [HWT.out]; go_num, Lib.hid (below_drewN HBr.out _), Lib.hid (below_drewN HB9.out _), by rw [HWT.out]; omega, by rw [HWT.out]; omega⟩, by simp [intOf]; omega⟩
    · have hlt' : ¬ (i : Int) < (R.length : Int) := by omega
      obtain rfl : i = R.length := by omega
      have HE : Hid (uu = wordsM K T (R.take R.length)) := Lib.hid (by rw [HU.out, List.take_length])
      go_wp2
      go_ret
      exact ⟨by rw [HU.out]; rfl, HBr.out⟩

set_option maxRecDepth 100000 in
set_option maxHeartbeats 1600000 in
theorem specUB_any (te qu ha : Int) (sa : Option Addr) (M kc : Nat) (S : Nat → SL) (na : Option Addr) (K nc : Nat) (T : Nat → GM) (c : Int) (w : World)
    (hp : PV w sa M S) (hg : NV w na K T) (hM : M ≤ 1048576) (hK : K ≤ 1048576) (hn : ∀ i, i < K → (T i).n ≤ 1048576) (hk : IsMF te qu ha M S K T c) :
    Calls Try.prog 39 #[.agg #[.int .i64 te, .int .i64 qu, .int .i64 ha, .slice sa M kc, .slice na K nc]] w (RetPair w c (outU M S K T c)) := by
  have P0 := Lib.hid hp; have G0 := Lib.hid hg; have HN := Lib.hid hn; have HK := Lib.hid hk
  have HB0 := Lib.hid (((Below.refl w.heap.size w).alloc (Nat.le_refl _) (.cells #[.int .i64 te, .int .i64 qu, .int .i64 ha, .slice sa M kc, .slice na K nc] 54)).alloc (by simp) (.cells #[.int .i64 0, .int .i64 0] 38))
  have A_0 := Lib.hid ((Blk.new_at (w := w) (cs := #[.int .i64 te, .int .i64 qu, .int .i64 ha, .slice sa M kc, .slice na K nc]) (t := 54) w.heap.size rfl).alloc (.cells #[.int .i64 0, .int .i64 0] 38))
  have R_0 := Lib.hid (Blk.new_at (w := w.alloc (.cells #[.int .i64 te, .int .i64 qu, .int .i64 ha, .slice sa M kc, .slice na K nc] 54)) (cs := #[.int .i64 0, .int .i64 0]) (t := 38) (w.heap.size + 1) (by simp))
  clear hp hg hn hk
  go_enter Try.func39, Try.ntmps39
  go_wp2_with fail
  refine (specMF_any te qu ha sa M kc S na K nc T c _ (P0.out.below HB0.out) (G0.out.below HB0.out) hM hK HN.out HK.out).mono ?_
  rintro e w1 ⟨rfl, hb⟩
  have HB1 := Lib.hid (thru0 HB0.out hb)
  have A_1 := Lib.hid (A_0.out.below hb); have R_1 := Lib.hid (R_0.out.below hb)
  have z1 : w.heap.size + 2 ≤ w1.heap.size := by have := R_1.out.1; omega
  clear hb A_0 R_0 HB0
  by_cases h0 : c = 0
  · subst h0
    have HOK := Lib.hid (isMF_zero HK.out)
    have hl := HOK.out.len
    go_wp2_with fail
    refine (l5Used_any w.heap.size 0 te qu ha sa M kc S na K nc T _ (mat_blk A_1.out) (P0.out.below HB1.out) (G0.out.below HB1.out) (by have := hl.1.2; omega) (by have := hl.2.2; omega) HOK.out.wk).mono ?_
    rintro e w2 ⟨rfl, hb⟩
    have HB2 := Lib.hid (thru0 HB1.out hb)
    have R_2 := Lib.hid (R_1.out.below hb)
    clear hb A_1 R_1 HB1
    have r0 := R_2.out.at 0 rfl; have f0 := R_2.out.free 0 rfl; have r1 := R_2.out.at 1 rfl; have f1 := R_2.out.free 1 rfl; have lR := R_2.out.1
    have HE : Hid (outU M S K T 0 = usedM M S K T) := Lib.hid rfl
    generalize usedM M S K T = uu at *
    go_wp2
    refine bodyPost_ret (v := .agg #[.int .i64 0, .int .i64 uu]) (by simp [results, Try.results39, go_sem, r0, r1]) rfl ⟨by rw [HE.out], ?_⟩
    repeat (first | (with_reducible refine Below.setCell ?_ (by (try simp); (try omega)) _) | (with_reducible refine Below.alloc ?_ (by (try simp); (try omega)) _) | (with_reducible refine Below.drew ?_))
    exact HB2.out
  · have h0' : (c != 0) = true := by simpa using h0
    have HE : Hid (outU M S K T c = 0) := Lib.hid (if_neg h0)
    clear h0
    have r0 := R_1.out.at 0 rfl; have f0 := R_1.out.free 0 rfl; have r1 := R_1.out.at 1 rfl; have f1 := R_1.out.free 1 rfl; have lR := R_1.out.1
    go_wp2
    refine bodyPost_ret (v := .agg #[.int .i64 c, .int .i64 0]) (by simp [results, Try.results39, go_sem, r0, r1]) rfl ⟨by rw [HE.out], ?_⟩
    repeat (first | (with_reducible refine Below.setCell ?_ (by (try simp); (try omega)) _) | (with_reducible refine Below.alloc ?_ (by (try simp); (try omega)) _) | (with_reducible refine Below.drew ?_))
    exact HB1.out
end Go.Proofs.Ytaenbjilcgpgcaa

namespace Go.Proofs.Ytaenbjilcgpgcaa
open Go.RowKit Go.Maps
set_option linter.unusedVariables false

/-- A row of pointers to the nodes of a list. -/
def PR (w : World) (na : Option Addr) (K : Nat) (T : Nat → GM) (ra : Option Addr) (R : List Int) : Prop :=
  R.length = 0 ∨ ∃ rb ro, ra = some ⟨rb, ro, none⟩ ∧ rb < w.heap.size ∧ ∀ i, i < R.length → w.cell? ⟨rb, ro + i, none⟩ = some (ptrV na (ixN T (lf R i) K))

theorem PR.below {w w' : World} {na : Option Addr} {K : Nat} {T : Nat → GM} {ra : Option Addr} {R : List Int} (h : PR w na K T ra R) (hb : Below w.heap.size w w') : PR w' na K T ra R := by
  rcases h with h | ⟨rb, ro, e, hl, hc⟩
  · exact .inl h
  · exact .inr ⟨rb, ro, e, Nat.lt_of_lt_of_le hl hb.size, fun i hi => (hb.cell (p := ⟨rb, ro + i, none⟩) hl).trans (hc i hi)⟩

theorem pr_of_row {w : World} {base : Nat} {v : Value} {na : Option Addr} {K : Nat} {T : Nat → GM} {O : List Int} (h : w.ownsRow base 143 1 v O.length (ptrS na K T O)) : ∃ a c, v = .slice a O.length c ∧ PR w na K T a O := by
  obtain ⟨a, c, rfl, _⟩ := row_shape h
  refine ⟨a, c, rfl, ?_⟩
  rcases Nat.eq_zero_or_pos O.length with h0 | hp
  · exact .inl h0
  · obtain ⟨g, cap, e, hb, hlt⟩ := h.form hp
    simp only [Value.slice.injEq] at e
    obtain ⟨rfl, -, rfl⟩ := e
    refine .inr ⟨g, 0, rfl, hlt, fun i hi => ?_⟩
    have hc := h.cellAt i (by omega)
    rw [show (ptrS na K T O)[i]? = some (ptrV na (ixN T (lf O i) K)) by unfold ptrS; rw [List.getElem?_map, List.getElem?_eq_getElem hi, lf_at hi]; rfl] at hc
    simpa using hc

/-- What is reached, as the program has it. -/
def RetRP (W : World) (na : Option Addr) (K : Nat) (T : Nat → GM) (R : List Int) (e : Ending) (w' : World) : Prop :=
  ∃ ra rc mb, e = .returned (.agg #[.slice ra R.length rc, .map (some mb)]) ∧ PR w' na K T ra R ∧ MapT w' mb R.length R nv1 ∧ Below W.heap.size W w' ∧ W.heap.size ≤ mb

theorem nw_in {W : World} {na : Option Addr} {K : Nat} {T : Nat → GM} {y : Int} {e : Ending} {w' : World} {base : Nat} (h : RetNW W na K T y e w') (hb : ∀ b q, na = some ⟨b, q, none⟩ → 0 < K → b < base) (hy : y = 0 ∨ Has K T y) (hi : ∀ i, i < K → 1 ≤ (T i).at_ ∧ (T i).at_ ≤ 9999) :
    Below W.heap.size W w' ∧ ∃ pv, e = .returned pv ∧ ((y = 0 ∧ pv = .pointer none) ∨ ∃ i b q, i < K ∧ (T i).at_ = y ∧ na = some ⟨b, q, none⟩ ∧ b < base ∧ pv = .pointer (some ⟨b, q + i * 5, none⟩)) := by
  obtain ⟨h1, ⟨i, b, q, h2, h3, h4, h5⟩ | ⟨h2, h3⟩⟩ := h
  · exact ⟨h1, _, h5, .inr ⟨i, b, q, h2, h3, h4, hb b q h4 (by omega), rfl⟩⟩
  · rcases hy with rfl | hy
    · exact ⟨h1, _, h3, .inl ⟨rfl, rfl⟩⟩
    · exact absurd hy h2

/-- A row that adding leaves as it is. -/
def Apart (w : World) (a : Option Addr) (n rb mb : Nat) (v : Value) : Prop := n = 0 ∨ ∃ b o, a = some ⟨b, o, none⟩ ∧ b ≠ rb ∧ b ≠ mb ∧ v.ownBlock ≠ some b ∧ b < w.heap.size

theorem Apart.size {w w' : World} {a : Option Addr} {n rb mb : Nat} {v : Value} (h : Apart w a n rb mb v) (hz : w.heap.size ≤ w'.heap.size) : Apart w' a n rb mb v := by
  rcases h with h | ⟨b, o, h1, h2, h3, h4, h5⟩
  · exact .inl h
  · exact .inr ⟨b, o, h1, h2, h3, h4, by omega⟩

theorem Apart.addq {w w' : World} {a : Option Addr} {n rb mb : Nat} {v v' : Value} (h : Apart w a n rb mb v) (hq : AddQ w w' rb mb v v') (hz : w.heap.size ≤ w'.heap.size) : Apart w' a n rb mb v' := by
  rcases h with h | ⟨b, o, h1, h2, h3, h4, h5⟩
  · exact .inl h
  · refine .inr ⟨b, o, h1, h2, h3, fun e => ?_, by omega⟩
    rcases hq.2 with e2 | e2
    · exact h4 (e2 ▸ e)
    · have := e2 b e; omega

theorem src_addq {w w' : World} {a : Option Addr} {n rb mb : Nat} {f : Nat → Int} {v v' : Value} (hs : Src w a n f) (h : Apart w a n rb mb v) (hq : AddQ w w' rb mb v v') (hz : w.heap.size ≤ w'.heap.size) : Src w' a n f := by
  rcases hs with h0 | ⟨b, o, e, hl, hc⟩
  · exact .inl h0
  · rcases h with h0 | ⟨b', o', e', h2, h3, h4, h5⟩
    · exact .inl h0
    · rw [e] at e'
      simp only [Option.some.injEq, Addr.mk.injEq, and_true] at e'
      obtain ⟨rfl, rfl⟩ := e'
      exact .inr ⟨b, o, e, by omega, fun i hi => (World.cell?_of_block (w := w) (a := ⟨b, o + i, none⟩) (hq.1 b hl h2 h3 h4)).trans (hc i hi)⟩

theorem apart_new {w : World} {B n rb mb : Nat} {a : Option Addr} {f : Nat → Int} {v : Value} (h : Own w B a n f) (hr : rb < B) (hm : mb < B) (hv : ∀ k, v.ownBlock = some k → k < B) : Apart w a n rb mb v := by
  rcases h with h0 | ⟨b, o, e, hB, hl, hc⟩
  · exact .inl h0
  · exact .inr ⟨b, o, e, by omega, by omega, fun e => by have := hv b e; omega, hl⟩

theorem RN.blocks {w : World} {base rb mb : Nat} {v : Value} {na : Option Addr} {K : Nat} {T : Nat → GM} {O : List Int} (h : RN w base rb mb v na K T O) : ∀ k, v.ownBlock = some k → k < w.heap.size := fun k hk => (h.row.lt k hk).2

theorem mc_take_len {M : Nat} {S : Nat → SL} {K : Nat} {T : Nat → GM} (hl : MLead M S K T) (i : Nat) : (addNew [] (nz ((slotL M S).take i))).length ≤ K := by
  have hs : ∀ p ∈ addNew [] (nz ((slotL M S).take i)), Has K T p := fun p hp => by
    rcases (mem_addNew _ _ _).1 hp with h1 | h1
    · cases h1
    · obtain ⟨h2, h3⟩ := mem_nz.1 h1
      exact mem_idsM.1 (slotM_sub hl p (mem_nz.2 ⟨List.mem_of_mem_take h2, h3⟩))
  have := nodup_length (nodup_addNew (nz ((slotL M S).take i)) [] List.nodup_nil) (U := idsM K T) (fun x hx => mem_idsM.2 (hs x hx))
  rwa [idsM_len] at this

theorem ptL_has {M : Nat} {S : Nat → SL} {K : Nat} {T : Nat → GM} (hl : MLead M S K T) {i : Nat} (hi : i < K) {y : Int} (hy : y ∈ ptL (T i) (T i).n) : y = 0 ∨ Has K T y := by
  obtain ⟨k, hk, hp, rfl⟩ := mem_ptL.1 hy
  exact hl.2 i hi k hk hp

set_option maxRecDepth 100000 in
set_option maxHeartbeats 3200000 in
theorem reachFS_any (te qu ha : Int) (sa : Option Addr) (M kc : Nat) (S : Nat → SL) (na : Option Addr) (K nc : Nat) (T : Nat → GM) (w : World)
    (hp : PV w sa M S) (hg : NV w na K T) (hok : MOk te qu ha M S K T) :
    Calls Try.prog 90 #[.agg #[.int .i64 te, .int .i64 qu, .int .i64 ha, .slice sa M kc, .slice na K nc]] w (RetRP w na K T (reachM M S K T)) := by
  have P := Lib.hid hp; have G := Lib.hid hg
  have HL := Lib.hid hok.lead; have HRI := Lib.hid hok.rise
  have hM : M ≤ 8 := by have := hok.len.1.2; omega
  have hK : K ≤ 150 := by have := hok.len.2.2; omega
  have HID : Hid (∀ i, i < K → 1 ≤ (T i).at_ ∧ (T i).at_ ≤ 9999) := Lib.hid (fun i hi => (isNode_zero (hok.node i hi)).1.1)
  have HM : Hid (∀ i j, i < j → j < K → (T i).at_ < (T j).at_) := Lib.hid (fun i j h1 h2 => rise_lt hok.rise j i h1 h2)
  have HND : Hid (∀ i, i < K → IsNode (T i) 0) := Lib.hid hok.node
  have HNB : Hid (∀ b q, na = some ⟨b, q, none⟩ → 0 < K → b < w.heap.size + 1 + 1) := Lib.hid (fun b q e h0 => by
    rcases hg with h | ⟨b', q', e', h⟩
    · omega
    · rw [e] at e'
      simp only [Option.some.injEq, Addr.mk.injEq, and_true] at e'
      have := h.lt; omega)
  have hmk := @run_makeMap Try.prog
  clear hp hg hok
  have A_0 := Lib.hid ((Blk.new_at (w := w) (cs := #[.int .i64 te, .int .i64 qu, .int .i64 ha, .slice sa M kc, .slice na K nc]) (t := 54) w.heap.size rfl).alloc (.cells #[.slice none 0 0, .map none] 141))
  have D_0 := Lib.hid (Blk.new_at (w := w.alloc (.cells #[.int .i64 te, .int .i64 qu, .int .i64 ha, .slice sa M kc, .slice na K nc] 54)) (cs := #[.slice none 0 0, .map none]) (t := 141) (w.heap.size + 1) (by simp))
  have HB0 := Lib.hid (((Below.refl w.heap.size w).alloc (Nat.le_refl _) (.cells #[.int .i64 te, .int .i64 qu, .int .i64 ha, .slice sa M kc, .slice na K nc] 54)).alloc (by simp) (.cells #[.slice none 0 0, .map none] 141))
  have zW : ((w.alloc (.cells #[.int .i64 te, .int .i64 qu, .int .i64 ha, .slice sa M kc, .slice na K nc] 54)).alloc (.cells #[.slice none 0 0, .map none] 141)).heap.size = w.heap.size + 1 + 1 := by simp
  go_enter Try.func90, Try.ntmps90
  go_wp2_with fail
  generalize (w.alloc (.cells #[.int .i64 te, .int .i64 qu, .int .i64 ha, .slice sa M kc, .slice na K nc] 54)).alloc (.cells #[.slice none 0 0, .map none] 141) = W0 at *
  have HM1 := Lib.hid ((MapT.made W0 nv1).alloc (.cells #[.slice none 0 0, .map (some (w.heap.size + 1 + 1))] 141))
  rw [zW] at HM1
  have B1 := Lib.hid (Blk.new_at (w := W0.alloc (.map #[] 0)) (cs := #[.slice none 0 0, .map (some (w.heap.size + 1 + 1))]) (t := 141) (w.heap.size + 1 + 1 + 1) (by simp [zW]))
  have HB3 : Hid (Below (w.heap.size + 1 + 1) W0 ((W0.alloc (.map #[] 0)).alloc (.cells #[.slice none 0 0, .map (some (w.heap.size + 1 + 1))] 141))) := Lib.hid (((Below.refl _ _).alloc (by omega) _).alloc (by simp; omega) _)
  have z3 : ((W0.alloc (.map #[] 0)).alloc (.cells #[.slice none 0 0, .map (some (w.heap.size + 1 + 1))] 141)).heap.size = w.heap.size + 1 + 1 + 1 + 1 := by simp [zW]
  generalize (W0.alloc (.map #[] 0)).alloc (.cells #[.slice none 0 0, .map (some (w.heap.size + 1 + 1))] 141) = W3 at *
  generalize hrb : w.heap.size + 1 + 1 + 1 = rb at *
  generalize hmb : w.heap.size + 1 + 1 = mb at *
  have RS0 : Hid (RN W3 mb rb mb (.slice none 0 0) na K T []) := Lib.hid
    ⟨B1.out, by omega, Nat.le_refl _, by omega, by simp [Value.ownBlock], by simp [Value.ownBlock], World.ownsRow_nil _ _ _ _, HM1.out⟩
  have HBW : Hid (∀ wr, Below mb W0 wr → Below w.heap.size w wr) := Lib.hid (fun wr hb => HB0.out.trans (hb.mono (by omega)))
  clear HM1 B1
  refine (slotNodes_any sa M kc S _ (P.out.below (HBW.out _ HB3.out)) (by omega)).mono ?_
  rintro e w1 ⟨xa, xc, rfl, ho, hb, -, -, -⟩
  have HB4 := Lib.hid (HB3.out.trans (hb.mono (by omega)))
  have RS1 := Lib.hid (RS0.out.below hb)
  have AP1 := Lib.hid (apart_new (rb := rb) (mb := mb) (v := .slice none 0 0) ho (by omega) (by omega) (fun k hk => by simp [Value.ownBlock] at hk))
  have XS1 := Lib.hid ho.src
  clear hb ho RS0 HB3
  go_wp2
  go_loopw [15] (fun p wr => ∃ (i : Nat) (v : Value), i ≤ M ∧ p = .int .i64 (i : Int) ∧ Hid (Below mb W0 wr) ∧ Hid (RN wr mb rb mb v na K T (addNew [] (nz ((slotL M S).take i)))) ∧ Hid (Src wr xa M (fun i => (S i).nd)) ∧ Hid (Apart wr xa M rb mb v)) (fun p _ => M - (intOf p).toNat)
  case atStart => exact ⟨0, _, Nat.zero_le _, rfl, HB4, RS1, XS1, AP1⟩
  case round =>
    clear HB4 RS1 XS1 AP1
    obtain ⟨i, v, hi, rfl, HB_r, RS_r, XS_r, AP_r⟩ := hrel
    have hzr : mb ≤ wr.heap.size := by have := RS_r.out.map.lt; omega
    by_cases hlt : i < M
    · have hlt' : (i : Int) < (M : Int) := by omega
      have hi0 : (0 : Int) ≤ (i : Int) := by omega
      obtain ⟨xb, xo, rfl, hxb, hxc⟩ := src_some XS_r.out (by omega)
      have c0 := hxc i hlt
      have A_r := Lib.hid (blk_under A_0.out HB_r.out (by omega))
      have a4 := A_r.out.at 4 rfl; have lA := A_r.out.1
      have HSN := Lib.hid (addz_take (l := slotL M S) (i := i) (by rw [slotL_len]; exact hlt) [])
      obtain ⟨y, hy⟩ : ∃ y, (S i).nd = y := ⟨_, rfl⟩
      have HY : Hid (lf (slotL M S) i = y) := Lib.hid (by rw [slotL_lf hlt, hy])
      have HYH : Hid (y = 0 ∨ Has K T y) := Lib.hid (by rw [← hy]; exact HL.out.1 i hlt)
      have hol := mc_take_len HL.out i
      simp only [hy] at c0
      clear hxc hy A_r
      go_wp2_with fail
      refine (nodeWith_any na K nc T y _ (G.out.below (HBW.out _ HB_r.out)) (by omega) HM.out).mono ?_
      rintro e w4 hnw
      obtain ⟨hb, pv, rfl, hpv⟩ := nw_in hnw HNB.out HYH.out HID.out
      have HPV := Lib.hid hpv
      have HB5 := Lib.hid (HB_r.out.trans (hb.mono hzr))
      have RS5 := Lib.hid (RS_r.out.below hb)
      have XS5 := Lib.hid (XS_r.out.below hb)
      have AP5 := Lib.hid (AP_r.out.size hb.size)
      have z5 : mb ≤ w4.heap.size := by have := hb.size; omega
      clear hb hnw hpv c0 a4 lA hxb HB_r RS_r XS_r AP_r
      go_wp2_with fail
      refine (addN_any mb rb mb v na K T _ y pv _ RS5.out z5 HPV.out (G.out.below (HBW.out _ HB5.out)) HRI.out HID.out (by omega)).mono ?_
      rintro e w6 ⟨rfl, hb, hz, v', hq, hrs⟩
      have HB6 := Lib.hid (HB5.out.trans hb)
      have RS6 : Hid (RN w6 mb rb mb v' na K T (addNew [] (nz ((slotL M S).take (i + 1))))) := Lib.hid (by rw [HSN.out, HY.out]; exact hrs)
      have XS6 := Lib.hid (src_addq XS5.out AP5.out hq hz)
      have AP6 := Lib.hid (AP5.out.addq hq hz)
      clear hb hrs hq HB5 RS5 XS5 AP5 HPV
      go_wp2
      go_roundw
      case rel => first | exact ⟨i + 1, v', by omega, by go_num, HB6, RS6, XS6, AP6⟩ | ((repeat apply Exists.intro); exact ⟨⟨i + 1, v', by omega, by go_num, HB6, RS6, XS6, AP6⟩, rfl⟩)
      case measure => simp [intOf]; omega
    · have hlt' : ¬ (i : Int) < (M : Int) := by omega
      obtain rfl : i = M := by omega
      have HMC : Hid (MC i S K T 0 (addNew [] (nz (slotL i S)))) := Lib.hid (mc_start HL.out)
      have RS2 : Hid (RN wr mb rb mb v na K T (addNew [] (nz (slotL i S)))) := Lib.hid (by
        have e := RS_r.out
        rw [List.take_of_length_le (by rw [slotL_len]; exact Nat.le_refl _)] at e
        exact e)
      clear RS_r XS_r AP_r hzr
      generalize addNew [] (nz (slotL i S)) = O at *
      go_wp2
      go_loopw [6] (fun p wr => ∃ (n : Nat) (v : Value) (O : List Int), n ≤ K ∧ p = .int .i64 (n : Int) ∧ Hid (Below mb W0 wr) ∧ Hid (RN wr mb rb mb v na K T O) ∧ Hid (MC i S K T n O)) (fun p _ => K - (intOf p).toNat)
      case atStart => exact ⟨0, v, O, Nat.zero_le _, rfl, HB_r, RS2, HMC⟩
      case round =>
        clear HB_r RS2 HMC
        obtain ⟨n, v, O, hnK, rfl, HB_r, RS_r, HMC⟩ := hrel
        have hzr : mb ≤ wr.heap.size := by have := RS_r.out.map.lt; omega
        have hoK : O.length ≤ K := mc_len HMC.out
        obtain ⟨av, kv, rfl, hpr⟩ := pr_of_row RS_r.out.row
        have lB := RS_r.out.blk.1; have cB0 := RS_r.out.blk.at 0 rfl; have cB1 := RS_r.out.blk.at 1 rfl
        by_cases hno : n < O.length
        · have hno' : (n : Int) < (O.length : Int) := by omega
          have hn0 : (0 : Int) ≤ (n : Int) := by omega
          have hhas := HMC.out.sub _ (lf_mem hno)
          have HSTEP := Lib.hid (mc_step HL.out HMC.out hno)
          have HPRE := Lib.hid (fun k => mc_in_len HL.out HMC.out hno k)
          rcases hpr with h0 | ⟨ab, ao, rfl, hab, hac⟩
          · omega
          have d0 := hac n hno
          obtain ⟨y, hy⟩ : ∃ y, lf O n = y := ⟨_, rfl⟩
          rw [hy] at d0 hhas HSTEP HPRE
          have hix := ixN_has hhas
          have HT : Hid (nodeM K T y = T (ixN T y K)) := Lib.hid rfl
          unfold ptrM at HSTEP
          rw [HT.out] at HSTEP HPRE
          obtain ⟨x, hx⟩ : ∃ x, ixN T y K = x := ⟨_, rfl⟩
          rw [hx] at hix d0 HSTEP HPRE
          obtain ⟨b, q, rfl, lb, ⟨x0, x1, x2, x3, x4⟩, hsr⟩ := nv_get (G.out.below (HBW.out _ HB_r.out)) hix
          have HSR := Lib.hid hsr
          have HNX := Lib.hid (HND.out x hix)
          have HPH := Lib.hid (fun y hy => ptL_has (y := y) HL.out hix hy)
          have d0' : wr.cell? ⟨ab, ao + n, none⟩ = some (.pointer (some ⟨b, q + x * 5, none⟩)) := d0
          obtain ⟨t, ht⟩ : ∃ t, T x = t := ⟨_, rfl⟩
          rw [ht] at x0 x1 x2 x3 x4 HSR HNX HPH HSTEP HPRE
          have hpl := ptL_len t t.n
          have ht12 : t.n ≤ 12 := by have := (isNode_zero HNX.out).1.2.1.2; have := (isNode_zero HNX.out).2.1; omega
          clear hac hy hhas HT hx hsr d0 ht HMC
          go_wp2_with fail
          refine (ptrsOf_any t _ HSR.out HNX.out).mono ?_
          rintro e w5 ⟨ya, yc, rfl, ho, hb, -, -, -⟩
          have HB5 := Lib.hid (HB_r.out.trans (hb.mono hzr))
          have RS5 := Lib.hid (RS_r.out.below hb)
          have YS5 := Lib.hid ho.src
          have AP5 := Lib.hid (apart_new (rb := rb) (mb := mb) ho (by have := RS_r.out.blk.1; omega) RS_r.out.map.lt RS_r.out.blocks)
          clear hb ho lB cB0 cB1 hab d0' x0 x1 x2 x3 x4 lb HB_r RS_r hzr HSR
          generalize hP : ptL t t.n = Pl at *
          have HP := Lib.hid hP
          clear hP
          go_wp2
          go_loopw [41] (fun p wr => ∃ (k : Nat) (v : Value) (Q : List Int), k ≤ Pl.length ∧ p = .int .i64 (k : Int) ∧ Hid (Below mb W0 wr) ∧ Hid (RN wr mb rb mb v (some ⟨b, q, none⟩) K T Q) ∧ Hid (Q = addNew O (nz (Pl.take k))) ∧ Hid (Src wr ya Pl.length (lf Pl)) ∧ Hid (Apart wr ya Pl.length rb mb v)) (fun p _ => Pl.length - (intOf p).toNat)
          case atStart => exact ⟨0, _, O, Nat.zero_le _, rfl, HB5, RS5, Lib.hid rfl, YS5, AP5⟩
          case round =>
            clear HB5 RS5 YS5 AP5
            obtain ⟨k, v, Q, hk, rfl, HB_r, RS_r, HQ, YS_r, AP_r⟩ := hrel
            have hzr : mb ≤ wr.heap.size := by have := RS_r.out.map.lt; omega
            have hqK : Q.length ≤ K := by rw [HQ.out]; exact HPRE.out k
            by_cases hkl : k < Pl.length
            · have hkl' : (k : Int) < (Pl.length : Int) := by omega
              have hk0 : (0 : Int) ≤ (k : Int) := by omega
              obtain ⟨yb, yo, rfl, hyb, hyc⟩ := src_some YS_r.out (by omega)
              have c0 := hyc k hkl
              have A_r := Lib.hid (blk_under A_0.out HB_r.out (by omega))
              have a4 := A_r.out.at 4 rfl; have lA := A_r.out.1
              have HSN := Lib.hid (addz_take hkl O)
              obtain ⟨z, hz⟩ : ∃ z, lf Pl k = z := ⟨_, rfl⟩
              have HZH : Hid (z = 0 ∨ Has K T z) := Lib.hid (by rw [← hz]; exact HPH.out _ (lf_mem hkl))
              rw [hz] at c0 HSN
              clear hyc hz A_r
              go_wp2_with fail
              refine (nodeWith_any (some ⟨b, q, none⟩) K nc T z _ (G.out.below (HBW.out _ HB_r.out)) (by omega) HM.out).mono ?_
              rintro e w4 hnw
              obtain ⟨hb, pv, rfl, hpv⟩ := nw_in hnw HNB.out HZH.out HID.out
              have HPV := Lib.hid hpv
              have HB5 := Lib.hid (HB_r.out.trans (hb.mono hzr))
              have RS5 := Lib.hid (RS_r.out.below hb)
              have YS5 := Lib.hid (YS_r.out.below hb)
              have AP5 := Lib.hid (AP_r.out.size hb.size)
              have z5 : mb ≤ w4.heap.size := by have := hb.size; omega
              clear hb hnw hpv c0 a4 lA hyb HB_r RS_r YS_r AP_r
              go_wp2_with fail
              refine (addN_any mb rb mb v (some ⟨b, q, none⟩) K T _ z pv _ RS5.out z5 HPV.out (G.out.below (HBW.out _ HB5.out)) HRI.out HID.out (by omega)).mono ?_
              rintro e w6 ⟨rfl, hb, hz, v', hq, hrs⟩
              have HB6 := Lib.hid (HB5.out.trans hb)
              have HQ6 : Hid (add1z Q z = addNew O (nz (Pl.take (k + 1)))) := Lib.hid (by rw [HSN.out, ← HQ.out])
              have RS6 := Lib.hid hrs
              have YS6 := Lib.hid (src_addq YS5.out AP5.out hq hz)
              have AP6 := Lib.hid (AP5.out.addq hq hz)
              clear hb hrs hq HB5 RS5 YS5 AP5 HPV HQ HSN
              go_wp2
              go_roundw
              case rel => first | exact ⟨k + 1, v', add1z Q z, by omega, by go_num, HB6, RS6, HQ6, YS6, AP6⟩ | ((repeat apply Exists.intro); exact ⟨⟨k + 1, v', add1z Q z, by omega, by go_num, HB6, RS6, HQ6, YS6, AP6⟩, rfl⟩)
              case measure => simp [intOf]; omega
            · have hkl' : ¬ (k : Int) < (Pl.length : Int) := by omega
              have HMC' : Hid (MC i S K T (n + 1) Q) := Lib.hid (by
                rw [HQ.out, List.take_of_length_le (by omega)]
                exact HSTEP.out)
              clear YS_r AP_r HQ
              go_wp2
              go_roundw
              case rel => first | exact ⟨n + 1, v, Q, by omega, by go_num, HB_r, RS_r, HMC'⟩ | ((repeat apply Exists.intro); exact ⟨⟨n + 1, v, Q, by omega, by go_num, HB_r, RS_r, HMC'⟩, rfl⟩)
              case measure => simp [intOf]; omega
        · have hno' : ¬ (n : Int) < (O.length : Int) := by omega
          have HE := Lib.hid (mc_done HMC.out hno)
          have D_r := Lib.hid (blk_under D_0.out HB_r.out (by omega))
          have e0 := D_r.out.at 0 rfl; have e1 := D_r.out.at 1 rfl; have g0 := D_r.out.free 0 rfl; have g1 := D_r.out.free 1 rfl; have lD := D_r.out.1
          clear hpr HMC
          go_wp2
          refine bodyPost_ret (v := .agg #[.slice av O.length kv, .map (some mb)]) (by simp [results, Try.results90, go_sem, e0, e1]) rfl ?_
          rw [HE.out]
          have hrow := row_set (row_set RS_r.out.row (p := ⟨w.heap.size + 1, 0, none⟩) (by show w.heap.size + 1 < mb; omega) (.slice av O.length kv)) (p := ⟨w.heap.size + 1, 1, none⟩) (by show w.heap.size + 1 < mb; omega) (.map (some mb))
          obtain ⟨a', c', e', hpr⟩ := pr_of_row hrow
          simp only [Value.slice.injEq] at e'
          obtain ⟨rfl, -, rfl⟩ := e'
          refine ⟨av, kv, mb, rfl, hpr, (RS_r.out.map.set (by show mb ≠ w.heap.size + 1; omega) _).set (by show mb ≠ w.heap.size + 1; omega) _, ?_, by omega⟩
          repeat (with_reducible refine Below.setCell ?_ (by (try simp); (try omega)) _)
          exact HBW.out _ HB_r.out
end Go.Proofs.Ytaenbjilcgpgcaa

namespace Go.Proofs.Ytaenbjilcgpgcaa
open Go.RowKit
set_option linter.unusedVariables false

theorem fld_nr0 (x y : Value) (w : World) : (Instr.field 141 (.agg #[x, y]) 0).run Try.prog w = .ok x w := by kernel_rfl

theorem pr_get {w : World} {na : Option Addr} {K : Nat} {T : Nat → GM} {ra : Option Addr} {R : List Int} (h : PR w na K T ra R) (hg : NV w na K T) {i : Nat} (hi : i < R.length) (hh : Has K T (lf R i)) : ∃ rb ro b q x, ra = some ⟨rb, ro, none⟩ ∧ na = some ⟨b, q, none⟩ ∧ x < K ∧ (T x).at_ = lf R i ∧ nodeM K T (lf R i) = T x ∧ w.cell? ⟨rb, ro + i, none⟩ = some (.pointer (some ⟨b, q + x * 5, none⟩)) ∧ rb < w.heap.size ∧ b < w.heap.size ∧ FivG w b (q + x * 5) (T x) ∧ Src w (T x).a (T x).n (T x).f := by
  have hx := ixN_has hh
  rcases h with h0 | ⟨rb, ro, rfl, hl, hc⟩
  · omega
  · obtain ⟨b, q, rfl, lb, hf, hs⟩ := nv_get hg hx
    exact ⟨rb, ro, b, q, _, rfl, rfl, hx, ixN_at hx, rfl, hc i hi, hl, lb, hf, hs⟩

set_option maxRecDepth 100000 in
set_option maxHeartbeats 3200000 in
theorem implUB_is (te qu ha : Int) (sa : Option Addr) (M kc : Nat) (S : Nat → SL) (na : Option Addr) (K nc : Nat) (T : Nat → GM) (c v : Int) (w : World)
    (hp : PV w sa M S) (hg : NV w na K T) (hM : M ≤ 1048576) (hK : K ≤ 1048576) (hn : ∀ i, i < K → (T i).n ≤ 1048576) (hk : IsMF te qu ha M S K T c) (hv : outU M S K T c = v) :
    Calls Try.prog 31 #[.agg #[.int .i64 te, .int .i64 qu, .int .i64 ha, .slice sa M kc, .slice na K nc]] w (RetPair w c v) := by
  have P0 := Lib.hid hp; have G0 := Lib.hid hg; have HN := Lib.hid hn; have HK := Lib.hid hk; have HV := Lib.hid hv
  have HB0 := Lib.hid (((Below.refl w.heap.size w).alloc (Nat.le_refl _) (.cells #[.int .i64 te, .int .i64 qu, .int .i64 ha, .slice sa M kc, .slice na K nc] 54)).alloc (by simp) (.cells #[.int .i64 0, .int .i64 0] 38))
  have A_0 := Lib.hid ((Blk.new_at (w := w) (cs := #[.int .i64 te, .int .i64 qu, .int .i64 ha, .slice sa M kc, .slice na K nc]) (t := 54) w.heap.size rfl).alloc (.cells #[.int .i64 0, .int .i64 0] 38))
  have R_0 := Lib.hid (Blk.new_at (w := w.alloc (.cells #[.int .i64 te, .int .i64 qu, .int .i64 ha, .slice sa M kc, .slice na K nc] 54)) (cs := #[.int .i64 0, .int .i64 0]) (t := 38) (w.heap.size + 1) (by simp))
  clear hp hg hn hk hv
  go_enter Try.func31, Try.ntmps31
  go_wp2_with fail
  refine (implMF_any te qu ha sa M kc S na K nc T c _ (P0.out.below HB0.out) (G0.out.below HB0.out) hM hK HN.out HK.out).mono ?_
  rintro e w1 ⟨rfl, hb⟩
  have HB1 := Lib.hid (thru0 HB0.out hb)
  have A_1 := Lib.hid (A_0.out.below hb); have R_1 := Lib.hid (R_0.out.below hb)
  have z1 : w.heap.size + 2 ≤ w1.heap.size := by have := R_1.out.1; omega
  clear hb A_0 R_0 HB0
  by_cases h0 : c = 0
  · subst h0
    have HOK := Lib.hid (isMF_zero HK.out)
    have a0 := A_1.out.at 0 rfl; have a1 := A_1.out.at 1 rfl; have a2 := A_1.out.at 2 rfl; have a3 := A_1.out.at 3 rfl; have a4 := A_1.out.at 4 rfl; have lA := A_1.out.1
    go_wp2_with fail
    refine (reachFS_any te qu ha sa M kc S na K nc T _ (P0.out.below HB1.out) (G0.out.below HB1.out) HOK.out).mono ?_
    rintro e w2 ⟨ra, rc, mb, rfl, hpr, -, hb, -⟩
    have HB2 := Lib.hid (thru0 HB1.out hb)
    have R_2 := Lib.hid (R_1.out.below hb)
    have HPR := Lib.hid hpr
    have G2 := Lib.hid (G0.out.below HB2.out)
    have HHAS : Hid (∀ x ∈ reachM M S K T, Has K T x) := Lib.hid (fun x hx => reachM_has HOK.out.lead hx)
    have HW := Lib.hid HOK.out.wk
    have HU : Hid (v = wordsM K T (reachM M S K T)) := Lib.hid HV.out.symm
    have hrl : (reachM M S K T).length ≤ 150 := by have := reachM_len HOK.out.lead; have := HOK.out.len.2.2; omega
    clear hb hpr A_1 R_1 HB1 a0 a1 a2 a3 a4 lA HV HOK HK
    generalize reachM M S K T = R at *
    have hf0 := fld_nr0 (.slice ra R.length rc) (.map (some mb)) w2
    go_wp2
    clear hf0
    go_loop [4, 17] (fun u p => ∃ (i : Nat), i ≤ R.length ∧ p = .int .i64 (i : Int) ∧ u = .int .i64 (wordsM K T (R.take i)) ∧ (0 ≤ wordsM K T (R.take i) ∧ wordsM K T (R.take i) ≤ 14 * (i : Int))) (fun _ p => R.length - (intOf p).toNat)
    case atStart => exact ⟨0, Nat.zero_le _, rfl, rfl, by simp [wordsM]⟩
    case round =>
      obtain ⟨i, hi, rfl, rfl, hw0, hw1⟩ := hrel
      by_cases hlt : i < R.length
      · have hlt' : (i : Int) < (R.length : Int) := by omega
        have hi0 : (0 : Int) ≤ (i : Int) := by omega
        have hhas := HHAS.out _ (lf_mem hlt)
        have hwt := wordsM_take (K := K) (T := T) hlt
        obtain ⟨rb, ro, b, q, x, rfl, rfl, hxK, hxa, hnx, d0, lr, lb, ⟨x0, x1, x2, x3, x4⟩, -⟩ := pr_get HPR.out G2.out hlt hhas
        rw [hnx] at hwt
        have hs0 := (HW.out.node x hxK).2.1.1
        have HWT := Lib.hid hwt
        generalize T x = t at *
        generalize wordsM K T (R.take i) = u0 at *
        clear hhas hxa hnx hwt x0 x2 x3 x4
        go_wp2
        go_round
        case rel => first | exact ⟨i + 1, by omega, by go_num, by rw [HWT.out], by rw [HWT.out]; omega, by rw [HWT.out]; omega⟩ | ((repeat apply Exists.intro); exact ⟨⟨i + 1, by omega, by go_num, by rw [HWT.out], by rw [HWT.out]; omega, by rw [HWT.out]; omega⟩, rfl⟩)
        case measure => simp [intOf]; omega
      · have hlt' : ¬ (i : Int) < (R.length : Int) := by omega
        obtain rfl : i = R.length := by omega
        have r0 := R_2.out.at 0 rfl; have f0 := R_2.out.free 0 rfl; have r1 := R_2.out.at 1 rfl; have f1 := R_2.out.free 1 rfl; have lR := R_2.out.1
        go_wp2
        refine bodyPost_ret (v := .agg #[.int .i64 0, .int .i64 (wordsM K T R)]) (by simp [results, Try.results31, go_sem, r0, r1]) rfl ⟨by rw [HU.out], ?_⟩
        repeat (first | (with_reducible refine Below.setCell ?_ (by (try simp); (try omega)) _) | (with_reducible refine Below.alloc ?_ (by (try simp); (try omega)) _) | (with_reducible refine Below.drew ?_))
        exact HB2.out
  · have h0' : (c != 0) = true := by simpa using h0
    have HE : Hid (v = 0) := Lib.hid (by rw [← HV.out]; exact if_neg h0)
    clear h0
    have r0 := R_1.out.at 0 rfl; have f0 := R_1.out.free 0 rfl; have r1 := R_1.out.at 1 rfl; have f1 := R_1.out.free 1 rfl; have lR := R_1.out.1
    go_wp2
    refine bodyPost_ret (v := .agg #[.int .i64 c, .int .i64 0]) (by simp [results, Try.results31, go_sem, r0, r1]) rfl ⟨by rw [HE.out], ?_⟩
    repeat (first | (with_reducible refine Below.setCell ?_ (by (try simp); (try omega)) _) | (with_reducible refine Below.alloc ?_ (by (try simp); (try omega)) _) | (with_reducible refine Below.drew ?_))
    exact HB1.out
end Go.Proofs.Ytaenbjilcgpgcaa

namespace Go.Proofs.Ytaenbjilcgpgcaa
open Go.RowKit
set_option linter.unusedVariables false

set_option maxRecDepth 100000 in
set_option maxHeartbeats 3200000 in
theorem e7_any (te qu ha : Int) (sa : Option Addr) (M kc : Nat) (S : Nat → SL) (na : Option Addr) (K nc : Nat) (T : Nat → GM) (w : World) (hp : PV w sa M S) (hg : NV w na K T) (hM : M ≤ maxLen) (hK : K ≤ maxLen) (hn : ∀ i, i < K → (T i).n ≤ maxLen) :
    Calls Try.prog 7 #[.agg #[.int .i64 te, .int .i64 qu, .int .i64 ha, .slice sa M kc, .slice na K nc]] w (RetBool w true) := by
  obtain ⟨c, hk⟩ := isMF_some te qu ha M S K T
  obtain ⟨v, hv⟩ : ∃ v, outU M S K T c = v := ⟨_, rfl⟩
  have HV := Lib.hid hv
  clear hv
  have HK := Lib.hid hk; have P0 := Lib.hid hp; have G0 := Lib.hid hg; have HN := Lib.hid hn
  have A_0 := Lib.hid (Blk.new_at (w := w) (cs := #[.int .i64 te, .int .i64 qu, .int .i64 ha, .slice sa M kc, .slice na K nc]) (t := 70) w.heap.size rfl)
  have HB0 := Lib.hid ((Below.refl w.heap.size w).alloc (Nat.le_refl _) (.cells #[.int .i64 te, .int .i64 qu, .int .i64 ha, .slice sa M kc, .slice na K nc] 70))
  have c0 := A_0.out.at 0 rfl; have c1 := A_0.out.at 1 rfl; have c2 := A_0.out.at 2 rfl; have c3 := A_0.out.at 3 rfl; have c4 := A_0.out.at 4 rfl; have lA := A_0.out.1
  clear hk hp hg hn
  go_enter Try.func7, Try.ntmps7
  go_wp2_with fail
  refine (szMachine_any te qu ha sa M kc S na K nc T 1048576 _ (P0.out.below HB0.out) (G0.out.below HB0.out) hM hK HN.out (by omega) (by omega)).mono ?_
  rintro e w1 ⟨hb, r, rfl, hr1, hr2⟩
  have HB1 := Lib.hid (thru0 HB0.out hb)
  have A_1 := Lib.hid (A_0.out.below hb)
  clear hb c0 c1 c2 c3 c4 lA A_0 HB0
  rcases hr2 with rfl | ⟨h0, h1, h2, h3⟩
  · go_wp2
    go_ret
    exact ⟨rfl, HB1.out⟩
  have h9 : ¬ r < 0 := by omega
  have hM1 : M ≤ 1048576 := by omega
  have hK1 : K ≤ 1048576 := by omega
  have HN1 : Hid (∀ i, i < K → (T i).n ≤ 1048576) := Lib.hid fun i hi => by have := h3 i hi; omega
  clear h1 h2 h3 HN hM hK
  have c0 := A_1.out.at 0 rfl; have c1 := A_1.out.at 1 rfl; have c2 := A_1.out.at 2 rfl; have c3 := A_1.out.at 3 rfl; have c4 := A_1.out.at 4 rfl; have lA := A_1.out.1
  go_wp2_with fail
  refine (toMachine_any te qu ha sa M kc S na K nc T _ (P0.out.below HB1.out) (G0.out.below HB1.out) hM1 hK1 HN1.out).mono ?_
  rintro e w2 ⟨sb, kb, nb, mb, U, rfl, p2, g2, s2, hb⟩
  have HB2 := Lib.hid (thru0 HB1.out hb)
  have A_2 := Lib.hid (A_1.out.below hb)
  have P2 := Lib.hid p2; have G2 := Lib.hid g2; have S2 := Lib.hid s2
  clear hb c0 c1 c2 c3 c4 lA A_1 HB1 p2 g2 s2
  go_wp2_with fail
  refine (specUB_any te qu ha sb M kb S nb K mb U c _ P2.out G2.out hM1 hK1 (fun i hi => by have := (S2.out i hi).2.2.2.2.2.1; have := HN1.out i hi; omega) (isMF_same S2.out HK.out)).mono ?_
  rintro e w3 ⟨rfl, hb⟩
  have HB3 := Lib.hid (thru0 HB2.out hb)
  have A_3 := Lib.hid (A_2.out.below hb)
  rw [(outU_same HK.out S2.out).trans HV.out]
  clear hb A_2 HB2 P2 G2 S2
  have HB4 := Lib.hid (HB3.out.alloc HB3.out.size (.cells #[.int .i64 c, .int .i64 v] 38))
  have A_4 := Lib.hid (A_3.out.alloc (.cells #[.int .i64 c, .int .i64 v] 38))
  have W_4 := Lib.hid (Blk.new_at (w := w3) (cs := #[.int .i64 c, .int .i64 v]) (t := 38) w3.heap.size rfl)
  have c0 := A_4.out.at 0 rfl; have c1 := A_4.out.at 1 rfl; have c2 := A_4.out.at 2 rfl; have c3 := A_4.out.at 3 rfl; have c4 := A_4.out.at 4 rfl; have lA := A_4.out.1
  clear A_3 HB3
  go_wp2_with fail
  generalize w3.alloc (.cells #[.int .i64 c, .int .i64 v] 38) = w4 at *
  refine (toMachine_any te qu ha sa M kc S na K nc T _ (P0.out.below HB4.out) (G0.out.below HB4.out) hM1 hK1 HN1.out).mono ?_
  rintro e w5 ⟨sx, kx, nx, mx, X, rfl, p4, g4, s4, hb⟩
  have HB5 := Lib.hid (thru0 HB4.out hb)
  have A_5 := Lib.hid (A_4.out.below hb); have W_5 := Lib.hid (W_4.out.below hb)
  have P5 := Lib.hid p4; have G5 := Lib.hid g4; have S4 := Lib.hid s4
  clear hb c0 c1 c2 c3 c4 lA A_4 W_4 HB4 p4 g4 s4
  have hnX : ∀ i, i < K → (X i).n ≤ 1048576 := fun i hi => by have := (S4.out i hi).2.2.2.2.2.1; have := HN1.out i hi; omega
  have HNX := Lib.hid hnX
  clear hnX
  generalize w3.heap.size = W0 at *
  go_wp2_with fail
  have A_6 := Lib.hid (A_5.out.alloc (.cells #[.int .i64 te, .int .i64 qu, .int .i64 ha, .slice sx M kx, .slice nx K mx] 54)); have W_6 := Lib.hid (W_5.out.alloc (.cells #[.int .i64 te, .int .i64 qu, .int .i64 ha, .slice sx M kx, .slice nx K mx] 54))
  have X_6 := Lib.hid (Blk.new_at (w := w5) (cs := #[.int .i64 te, .int .i64 qu, .int .i64 ha, .slice sx M kx, .slice nx K mx]) (t := 54) w5.heap.size rfl)
  have HB6 := Lib.hid (HB5.out.alloc HB5.out.size (.cells #[.int .i64 te, .int .i64 qu, .int .i64 ha, .slice sx M kx, .slice nx K mx] 54))
  have P6 := Lib.hid (P5.out.alloc (.cells #[.int .i64 te, .int .i64 qu, .int .i64 ha, .slice sx M kx, .slice nx K mx] 54))
  have G6 := Lib.hid (G5.out.alloc (.cells #[.int .i64 te, .int .i64 qu, .int .i64 ha, .slice sx M kx, .slice nx K mx] 54))
  clear A_5 W_5 HB5 P5 G5
  generalize w5.alloc (.cells #[.int .i64 te, .int .i64 qu, .int .i64 ha, .slice sx M kx, .slice nx K mx] 54) = w6 at *
  generalize w5.heap.size = X0 at *
  refine (implUB_is te qu ha sx M kx S nx K mx X c v _ P6.out G6.out hM1 hK1 HNX.out (isMF_same S4.out HK.out) ((outU_same HK.out S4.out).trans HV.out)).mono ?_
  rintro e w7 ⟨rfl, hb⟩
  have HB7 := Lib.hid (thru0 HB6.out hb)
  have A_7 := Lib.hid (A_6.out.below hb); have W_7 := Lib.hid (W_6.out.below hb); have X_7 := Lib.hid (X_6.out.below hb); have P7 := Lib.hid (P6.out.below hb); have G7 := Lib.hid (G6.out.below hb)
  clear hb A_6 W_6 X_6 HB6 P6 G6

  have d0 := W_7.out.at 0 rfl; have d1 := W_7.out.at 1 rfl; have ld := W_7.out.1

  go_wp2_with fail
  refine (eqIntResult_same c v _).mono ?_
  rintro e w8 ⟨rfl, hb⟩
  have HB8 := Lib.hid (thru1 HB7.out hb)
  have hb7 : Below w7.heap.size w7 w8 := thru1 (Below.refl _ _) hb
  have A_8 := Lib.hid (A_7.out.below hb7); have X_8 := Lib.hid (X_7.out.below hb7); have P8 := Lib.hid (P7.out.below hb7); have G8 := Lib.hid (G7.out.below hb7)
  clear hb hb7 d0 d1 ld A_7 W_7 X_7 HB7 P7 G7
  have c0 := A_8.out.at 0 rfl; have c1 := A_8.out.at 1 rfl; have c2 := A_8.out.at 2 rfl; have c3 := A_8.out.at 3 rfl; have c4 := A_8.out.at 4 rfl; have lA := A_8.out.1
  have d0 := X_8.out.at 0 rfl; have d1 := X_8.out.at 1 rfl; have d2 := X_8.out.at 2 rfl; have d3 := X_8.out.at 3 rfl; have d4 := X_8.out.at 4 rfl; have lX := X_8.out.1
  go_wp2_with fail
  have A_d := Lib.hid A_8.out.drew; have X_d := Lib.hid X_8.out.drew; have HB_d := Lib.hid HB8.out.drew
  go_region_held3 (fun w' => w'.cell? ⟨w.heap.size, 0, none⟩ = some (.int .i64 te) ∧ w'.cell? ⟨w.heap.size, 1, none⟩ = some (.int .i64 qu) ∧ w'.cell? ⟨w.heap.size, 2, none⟩ = some (.int .i64 ha) ∧ w'.cell? ⟨w.heap.size, 3, none⟩ = some (.slice sa M kc) ∧ w'.cell? ⟨w.heap.size, 4, none⟩ = some (.slice na K nc) ∧ w'.cell? ⟨X0, 0, none⟩ = some (.int .i64 te) ∧ w'.cell? ⟨X0, 1, none⟩ = some (.int .i64 qu) ∧ w'.cell? ⟨X0, 2, none⟩ = some (.int .i64 ha) ∧ w'.cell? ⟨X0, 3, none⟩ = some (.slice sx M kx) ∧ w'.cell? ⟨X0, 4, none⟩ = some (.slice nx K mx))
    (first | (with_reducible exact cap10 A_8.out X_8.out) | (with_reducible exact cap10 A_d.out X_d.out) | (with_reducible exact cap10 A_9.out X_9.out) | (with_reducible exact cap10 A_10.out X_10.out))
    (first | (go_at_call 44; refine (toMachine_any te qu ha sa M kc S na K nc T _ (P0.out.below HB_d.out) (G0.out.below HB_d.out) hM1 hK1 HN1.out).mono ?_; rintro e w9 ⟨sy, ky, ny, my, Y, rfl, p7, g7, s7, hb⟩; have HB9 := Lib.hid (thru0 HB_d.out hb); have A_9 := Lib.hid (A_d.out.below hb); have X_9 := Lib.hid (X_d.out.below hb); have P9 := Lib.hid ((P8.out.drew).below hb); have G9 := Lib.hid ((G8.out.drew).below hb); have P9' := Lib.hid p7; have G9' := Lib.hid g7; have S7 := Lib.hid (show ∀ i, i < K → GSame (X i) (Y i) from fun i hi => gsame_trans (gsame_symm (S4.out i hi)) (s7 i hi)); clear hb p7 g7 s7) | (go_at_call 46; refine (eqMachine_same te qu ha sx sy M kx ky S nx ny K mx my X Y _ P9.out G9.out P9'.out G9'.out S7.out hM1 hK1 HNX.out).mono ?_; rintro e w10 ⟨rfl, hb⟩; have HB10 := Lib.hid (thru0 HB9.out hb); have A_10 := Lib.hid (A_9.out.below hb); have X_10 := Lib.hid (X_9.out.below hb); clear hb))
  go_wp2
  go_ret
  exact ⟨rfl, HB10.out⟩
end Go.Proofs.Ytaenbjilcgpgcaa

