/- The program: TidyMachine. -/
import Derived.Test.YtaenbjilcgpgcaaPTM3
namespace Go.Proofs.Ytaenbjilcgpgcaa
open Go.RowKit Go.Maps
set_option linter.unusedVariables false

/-- A pointer to a node of a row. -/
def ptrV (na : Option Addr) (i : Nat) : Value := match na with | some ⟨b, q, s⟩ => .pointer (some ⟨b, q + i * 5, s⟩) | none => .pointer none

def ptrS (na : Option Addr) (K : Nat) (T : Nat → GM) (O : List Int) : List Value := O.map fun x => ptrV na (ixN T x K)

def nv1 : Nat → Int := fun i => (i : Int) + 1

theorem ptrS_snoc (na : Option Addr) (K : Nat) (T : Nat → GM) (O : List Int) (x : Int) : ptrS na K T (O ++ [x]) = ptrS na K T O ++ [ptrV na (ixN T x K)] := by simp [ptrS]

/-- What is reached so far, as the program has it: in the block rb, with the map mb and the row v. -/
structure RN (w : World) (base rb mb : Nat) (v : Value) (na : Option Addr) (K : Nat) (T : Nat → GM) (O : List Int) : Prop where
  blk : Blk w rb [v, .map (some mb)]
  hrb : base ≤ rb
  hmb : base ≤ mb
  hne : mb ≠ rb
  vr : v.ownBlock ≠ some rb
  vm : v.ownBlock ≠ some mb
  row : w.ownsRow base 143 1 v O.length (ptrS na K T O)
  map : MapT w mb O.length O nv1

section

variable {w w' : World} {base rb mb : Nat} {v : Value} {na : Option Addr} {K : Nat} {T : Nat → GM} {O : List Int}

theorem RN.below (h : RN w base rb mb v na K T O) (hb : Below w.heap.size w w') : RN w' base rb mb v na K T O :=
  ⟨h.blk.below hb, h.hrb, h.hmb, h.hne, h.vr, h.vm, ownsRow_below h.row hb, h.map.below hb⟩

end

/-- What adding leaves as it was. -/
def AddQ (w w' : World) (rb mb : Nat) (v v' : Value) : Prop := (∀ k, k < w.heap.size → k ≠ rb → k ≠ mb → v.ownBlock ≠ some k → w'.heap[k]? = w.heap[k]?) ∧ (v'.ownBlock = v.ownBlock ∨ ∀ k, v'.ownBlock = some k → w.heap.size ≤ k)

theorem Try.infoPN : (Try.prog.info? 143).map (fun i => (i.zero, i.size, i.bytes)) = some (some (.pointer none), 1, 8) := by kernel_rfl

theorem Try.underlyingPN : Try.prog.underlying 139 = some (.slice 143) := by kernel_rfl

theorem newsP (w : World) (x : Value) : ∀ (j : Nat) (u : Value), ([x] : List Value)[j]? = some u → (w.alloc (.cells #[x] 143)).cell? ((⟨w.heap.size, 0, none⟩ : Addr).add j) = some u := fun j u hu => by
  match j, hu with
  | 0, hu => exact (Blk.new w #[x] 143).at 0 hu
  | j + 1, hu => simp at hu

theorem nmM_pos {R : List Int} {x : Int} (h : x ∈ R) : (nmM R x != 0) = true := by
  obtain ⟨j, _, e, _⟩ := nmM_in h
  rw [e]; simp; omega

set_option maxRecDepth 100000 in
set_option maxHeartbeats 1600000 in
theorem addN_nil (base rb mb : Nat) (v : Value) (na : Option Addr) (K : Nat) (T : Nat → GM) (O : List Int) (w : World) (h : RN w base rb mb v na K T O) (hz : base ≤ w.heap.size) :
    Calls Try.prog 151 #[.pointer (some ⟨rb, 0, none⟩), .pointer none] w fun e w' => e = .returned (.tuple #[]) ∧ Below base w w' ∧ w.heap.size ≤ w'.heap.size ∧ AddQ w w' rb mb v v ∧ RN w' base rb mb v na K T O := by
  have H := Lib.hid h
  have lB := h.blk.1; have cB0 := h.blk.at 0 rfl; have cB1 := h.blk.at 1 rfl
  clear h
  go_enter Try.func151, Try.ntmps151
  go_wp2_with fail
  go_quiet (fail)
  go_wp2
  refine bodyPost_ret (v := .tuple #[]) (by simp [results, Try.results151, go_sem]) rfl ?_
  have hb := below_drewN (Below.refl w.heap.size w)
  exact ⟨rfl, (hb _).mono hz, (hb _).size, ⟨fun k h1 h2 h3 h4 => (hb _).block k h1, .inl rfl⟩, H.out.below (hb _)⟩

set_option maxRecDepth 100000 in
set_option maxHeartbeats 1600000 in
theorem addN_old (base rb mb : Nat) (v : Value) (b q : Nat) (K : Nat) (T : Nat → GM) (O : List Int) (i : Nat) (t : GM) (w : World) (h : RN w base rb mb v (some ⟨b, q, none⟩) K T O) (hz : base ≤ w.heap.size) (ht : FivG w b (q + i * 5) t) (hl : b < w.heap.size) (hp : -1000000000 ≤ t.at_ ∧ t.at_ ≤ 1000000000) (hin : t.at_ ∈ O) :
    Calls Try.prog 151 #[.pointer (some ⟨rb, 0, none⟩), .pointer (some ⟨b, q + i * 5, none⟩)] w fun e w' => e = .returned (.tuple #[]) ∧ Below base w w' ∧ w.heap.size ≤ w'.heap.size ∧ AddQ w w' rb mb v v ∧ RN w' base rb mb v (some ⟨b, q, none⟩) K T O := by
  have H := Lib.hid h
  have lB := h.blk.1; have cB0 := h.blk.at 0 rfl; have cB1 := h.blk.at 1 rfl
  obtain ⟨x0, x1, x2, x3, x4⟩ := ht
  have hlk := fun q => (h.map.drewN q).look hp
  have hnv : nv1 = fun i : Nat => (i : Int) + 1 := rfl
  have e1 : (tab O nv1 t.at_).getD 0 = nmM O t.at_ := by rw [hnv]; exact tab_nmM O t.at_
  rw [e1] at hlk
  have hne := nmM_pos hin
  generalize nmM O t.at_ = nm at *
  clear h e1 hnv
  go_enter Try.func151, Try.ntmps151
  go_wp2_with fail
  go_quiet (fail)
  clear hlk
  go_wp2
  refine bodyPost_ret (v := .tuple #[]) (by simp [results, Try.results151, go_sem]) rfl ?_
  have hb := below_drewN (Below.refl w.heap.size w)
  exact ⟨rfl, (hb _).mono hz, (hb _).size, ⟨fun k h1 h2 h3 h4 => (hb _).block k h1, .inl rfl⟩, H.out.below (hb _)⟩

set_option maxRecDepth 100000 in
set_option maxHeartbeats 3200000 in
theorem addN_new (base rb mb : Nat) (v : Value) (b q : Nat) (K : Nat) (T : Nat → GM) (O : List Int) (i : Nat) (t : GM) (w : World) (h : RN w base rb mb v (some ⟨b, q, none⟩) K T O) (hz : base ≤ w.heap.size) (ht : FivG w b (q + i * 5) t) (hl : b < base) (hp : -1000000000 ≤ t.at_ ∧ t.at_ ≤ 1000000000) (hin : t.at_ ∉ O) (hix : ixN T t.at_ K = i) (ho : O.length ≤ 400) :
    Calls Try.prog 151 #[.pointer (some ⟨rb, 0, none⟩), .pointer (some ⟨b, q + i * 5, none⟩)] w fun e w' => e = .returned (.tuple #[]) ∧ Below base w w' ∧ w.heap.size ≤ w'.heap.size ∧ ∃ v', AddQ w w' rb mb v v' ∧ RN w' base rb mb v' (some ⟨b, q, none⟩) K T (O ++ [t.at_]) := by
  have H := Lib.hid h
  have B0 := Lib.hid h.blk
  have M0 := Lib.hid h.map
  have hrbl : rb < w.heap.size := h.blk.1
  have hmbl : mb < w.heap.size := h.map.lt
  have hr1 := h.hrb; have hm1 := h.hmb; have hne := h.hne
  have lB := h.blk.1; have cB0 := h.blk.at 0 rfl; have cB1 := h.blk.at 1 rfl
  have HT := Lib.hid ht
  have HP := Lib.hid hp; have HIN := Lib.hid hin; have HIX := Lib.hid hix
  obtain ⟨x0, x1, x2, x3, x4⟩ := ht
  have hlk := fun q => (h.map.drewN q).look hp
  have hnv : nv1 = fun i : Nat => (i : Int) + 1 := rfl
  have e1 : (tab O nv1 t.at_).getD 0 = 0 := by rw [hnv]; exact (tab_nmM O t.at_).trans (nmM_zero hin)
  rw [e1] at hlk
  obtain ⟨j0, hif, hj0, hj1, hj2⟩ := info_parts Try.infoPN
  obtain ⟨av, kv, rfl⟩ : ∃ av kv, v = .slice av O.length kv := by
    obtain ⟨a, c, e, _⟩ := row_shape h.row
    exact ⟨a, c, e⟩
  clear h e1 hnv hp hin hix
  go_enter Try.func151, Try.ntmps151
  go_wp2_with fail
  go_quiet (fail)
  clear hlk
  have HB1 := Lib.hid (below_drewN (Below.refl w.heap.size w) nq)
  have B1 := Lib.hid (B0.out.below (drewN_below w nq)); have M1 := Lib.hid (M0.out.drewN nq)
  have OW1 := Lib.hid (ownsRow_below H.out.row (drewN_below w nq))
  have z1 : w.heap.size = (w.drewN nq).heap.size := by simp
  have T1 := Lib.hid (HT.out.below (drewN_below w nq) (by omega))
  clear x0 x1 x2 x3 x4 lB cB0 cB1 B0 M0
  generalize w.drewN nq = w1 at *
  have lB := B1.out.1; have cB0 := B1.out.at 0 rfl; have fB0 := B1.out.free 0 rfl; have cB1 := B1.out.at 1 rfl
  go_wp2_with (at_builtin; go_loud (refine wpList_append_lies _ rfl _ _ 139 rfl base 143 j0 _ 1 8 Try.underlyingPN hif hj0 hj1 hj2 rfl (by decide) (.slice av O.length kv) O.length (ptrS (some ⟨b, q, none⟩) K T O) rfl (OW1.out.alloc _) ⟨w1.heap.size, 0, none⟩ 1 1 [.pointer (some ⟨b, q + i * 5, none⟩)] rfl rfl (newsP w1 _) (by intro u hu; simp only [List.mem_cons, List.mem_nil_iff, or_false] at hu; subst hu; rfl) (by omega) (by unfold maxLen; omega) (by omega) (by simp; omega) (w1.heap.size + 1) (by simp) ?_); intro g9 cap9 w9 hown9 hgrow9 hat9 hlt9; have T9 := Lib.hid (blk_grown (B1.out.alloc _) hgrow9 H.out.vr); have l9 := T9.out.1; have d90 := T9.out.at 0 rfl; have e90 := T9.out.free 0 rfl; have d91 := T9.out.at 1 rfl)
  have HB9 : Hid (Below base w w9) := Lib.hid (((HB1.out.mono hz).alloc (by omega) _).grown hgrow9 (by simp; omega) (fun k hk => (OW1.out.lt k hk).1))
  have hz9 : w.heap.size ≤ w9.heap.size := by have := hgrow9.size; simp at this; omega
  have hg9r : g9 ≠ rb := by
    rcases hat9 with he | he
    · intro e; exact H.out.vr (by rw [he, e])
    · omega
  have hg9m : g9 ≠ mb := by
    rcases hat9 with he | he
    · intro e; exact H.out.vm (by rw [he, e])
    · omega
  have HQ9 : Hid (∀ k, k < w.heap.size → (Value.slice av O.length kv).ownBlock ≠ some k → w9.heap[k]? = w.heap[k]?) := Lib.hid (fun k hk hv => by
    have e1 := HB1.out.block k hk
    have e2 := ((Below.refl w1.heap.size w1).alloc (Nat.le_refl _) (.cells #[.pointer (some ⟨b, q + i * 5, none⟩)] 143)).block k (by omega)
    have e3 := hgrow9.block k (by simp; omega) (fun e => hv e.symm)
    exact e3.trans (e2.trans e1))
  have HG9 : Hid ((Value.slice (some ⟨g9, 0, none⟩) (O.length + 1) cap9).ownBlock = (Value.slice av O.length kv).ownBlock ∨ ∀ k, (Value.slice (some ⟨g9, 0, none⟩) (O.length + 1) cap9).ownBlock = some k → w.heap.size ≤ k) := Lib.hid (by
    rcases hat9 with he | he
    · exact .inl he.symm
    · refine .inr fun k hk => ?_
      have : g9 = k := by simpa [Value.ownBlock] using hk
      omega)
  have M9 := Lib.hid ((M1.out.alloc (.cells #[.pointer (some ⟨b, q + i * 5, none⟩)] 143)).grown hgrow9 H.out.vm)
  have OW9 := Lib.hid hown9
  clear hown9 hgrow9 hat9 lB cB0 fB0 cB1 B1 M1 OW1 HB1 T1 z1
  go_wp2_with fail
  have BA := Lib.hid (T9.out.set 0 (by simp) (.slice (some ⟨g9, 0, none⟩) (O.length + 1) cap9))
  have OWA := Lib.hid (ownsRow_setCell_other (a := ⟨rb, 0, none⟩) OW9.out (fun e => hg9r (by simpa [Value.ownBlock] using e)) (.slice (some ⟨g9, 0, none⟩) (O.length + 1) cap9))
  have MA := Lib.hid (M9.out.set (p := ⟨rb, 0, none⟩) hne (.slice (some ⟨g9, 0, none⟩) (O.length + 1) cap9))
  have HBA : Hid (Below base w (w9.setCell ⟨rb, 0, none⟩ (.slice (some ⟨g9, 0, none⟩) (O.length + 1) cap9))) := Lib.hid (HB9.out.setCell hr1 _)
  have zA : w.heap.size ≤ (w9.setCell ⟨rb, 0, none⟩ (.slice (some ⟨g9, 0, none⟩) (O.length + 1) cap9)).heap.size := by simpa using hz9
  have HQA : Hid (∀ k, k < w.heap.size → k ≠ rb → (Value.slice av O.length kv).ownBlock ≠ some k → (w9.setCell ⟨rb, 0, none⟩ (.slice (some ⟨g9, 0, none⟩) (O.length + 1) cap9)).heap[k]? = w.heap[k]?) := Lib.hid (fun k hk hr hv => (Below.heap_setCell _ _ _ k hr).trans (HQ9.out k hk hv))
  clear T9 l9 d90 e90 d91 OW9 M9 HB9 HQ9
  generalize w9.setCell ⟨rb, 0, none⟩ (.slice (some ⟨g9, 0, none⟩) (O.length + 1) cap9) = wA at *
  have TA := HT.out.block (HBA.out.block b hl)
  have lBA := BA.out.1; have cA0 := BA.out.at 0 rfl; have cA1 := BA.out.at 1 rfl
  have hlA : b < wA.heap.size := by omega
  obtain ⟨y0, y1, y2, y3, y4⟩ := TA
  go_still_tail 13, (by kernel_rfl)
  change wpList _ _ _ _ _ wA.drew
  clear lBA cA0 cA1 y0 y1 y2 y3 y4 hlA
  have B2 := Lib.hid BA.out.drew; have M2 := Lib.hid MA.out.drew
  have OW2 : Hid (wA.drew.ownsRow base 143 1 (.slice (some ⟨g9, 0, none⟩) (O.length + 1) cap9) (O.length + 1) (ptrS (some ⟨b, q, none⟩) K T O ++ [.pointer (some ⟨b, q + i * 5, none⟩)])) := Lib.hid (ownsRow_below OWA.out (Below.refl _ _).drew)
  have HB2 := Lib.hid HBA.out.drew
  have z2 : w.heap.size ≤ wA.drew.heap.size := by simpa using zA
  have HQ2 : Hid (∀ k, k < w.heap.size → k ≠ rb → (Value.slice av O.length kv).ownBlock ≠ some k → wA.drew.heap[k]? = w.heap[k]?) := Lib.hid (fun k hk hr hv => HQA.out k hk hr hv)
  clear BA MA OWA HBA zA HQA
  generalize wA.drew = w2 at *
  have en : nv1 O.length = (O.length : Int) + 1 := rfl
  obtain ⟨w3, hr3, hm3, hg3⟩ := M2.out.update (by unfold maxLen; omega) HP.out (by rw [en]; constructor <;> omega) HIN.out
  rw [en] at hr3
  have HB3 : Hid (Below base w w3) := Lib.hid (HB2.out.grown hg3 (by omega) (fun k hk => by cases hk; exact hm1))
  have hz3 : w.heap.size ≤ w3.heap.size := by have := hg3.size; omega
  have B3 := Lib.hid (blk_grown B2.out hg3 (by simp; omega))
  have M3 := Lib.hid hm3
  have OW3 := Lib.hid (OW2.out.kept hg3 (.inr (fun e => hg9m (by simpa [Value.ownBlock] using e))))
  have HQ3 : Hid (AddQ w w3 rb mb (.slice av O.length kv) (.slice (some ⟨g9, 0, none⟩) (O.length + 1) cap9)) := Lib.hid ⟨fun k hk hr hm hv => (hg3.block k (by omega) (by simp; omega)).trans (HQ2.out k hk hr hv), HG9.out⟩
  clear B2 M2 OW2 HB2 hm3 hg3 en HQ2 HG9
  go_wp2
  refine bodyPost_end (v := .tuple #[]) (by simp [results, Try.results151, go_sem]) rfl ?_
  refine ⟨rfl, HB3.out, hz3, .slice (some ⟨g9, 0, none⟩) (O.length + 1) cap9, HQ3.out, B3.out, hr1, hm1, hne, fun e => hg9r (by simpa [Value.ownBlock] using e), fun e => hg9m (by simpa [Value.ownBlock] using e), ?_, ?_⟩
  · rw [ptrS_snoc, HIX.out, List.length_append]
    exact OW3.out
  · rw [List.length_append]
    exact M3.out

/-- What nodeWith answers is added. -/
theorem addN_any (base rb mb : Nat) (v : Value) (na : Option Addr) (K : Nat) (T : Nat → GM) (O : List Int) (y : Int) (pv : Value) (w : World) (h : RN w base rb mb v na K T O) (hz : base ≤ w.heap.size)
    (hp : (y = 0 ∧ pv = .pointer none) ∨ ∃ i b q, i < K ∧ (T i).at_ = y ∧ na = some ⟨b, q, none⟩ ∧ b < base ∧ pv = .pointer (some ⟨b, q + i * 5, none⟩)) (hg : NV w na K T) (hr : MRise K T) (hi : ∀ i, i < K → 1 ≤ (T i).at_ ∧ (T i).at_ ≤ 9999) (ho : O.length ≤ 400) :
    Calls Try.prog 151 #[.pointer (some ⟨rb, 0, none⟩), pv] w fun e w' => e = .returned (.tuple #[]) ∧ Below base w w' ∧ w.heap.size ≤ w'.heap.size ∧ ∃ v', AddQ w w' rb mb v v' ∧ RN w' base rb mb v' na K T (add1z O y) := by
  rcases hp with ⟨rfl, rfl⟩ | ⟨i, b, q, hiK, rfl, rfl, hb, rfl⟩
  · refine (addN_nil base rb mb v na K T O w h hz).mono ?_
    rintro e w' ⟨h1, h2, h3, h5, h4⟩
    exact ⟨h1, h2, h3, v, h5, by rw [add1z_zero]; exact h4⟩
  · have hid := hi i hiK
    obtain ⟨b', q', e, lb, hf, _⟩ := nv_get hg hiK
    simp only [Option.some.injEq, Addr.mk.injEq, and_true] at e
    obtain ⟨rfl, rfl⟩ := e
    by_cases hin : (T i).at_ ∈ O
    · refine (addN_old base rb mb v b q K T O i (T i) w h hz hf lb (by omega) hin).mono ?_
      rintro e w' ⟨h1, h2, h3, h5, h4⟩
      exact ⟨h1, h2, h3, v, h5, by rw [add1z_in (by omega) hin]; exact h4⟩
    · refine (addN_new base rb mb v b q K T O i (T i) w h hz hf hb (by omega) hin (ixN_eq hr hiK rfl) ho).mono ?_
      rintro e w' ⟨h1, h2, h3, v', h5, h4⟩
      exact ⟨h1, h2, h3, v', h5, by rw [add1z_new (by omega) hin]; exact h4⟩
end Go.Proofs.Ytaenbjilcgpgcaa

namespace Go.Proofs.Ytaenbjilcgpgcaa
open Go.RowKit Go.Maps
set_option linter.unusedVariables false

/-- A row of pointers to the nodes of a list. -/
def PR (w : World) (na : Option Addr) (K : Nat) (T : Nat → GM) (ra : Option Addr) (R : List Int) : Prop :=
  R.length = 0 ∨ ∃ rb ro, ra = some ⟨rb, ro, none⟩ ∧ rb < w.heap.size ∧ ∀ i, i < R.length → w.cell? ⟨rb, ro + i, none⟩ = some (ptrV na (ixN T (lf R i) K))

theorem PR.below {w w' : World} {na : Option Addr} {K : Nat} {T : Nat → GM} {ra : Option Addr} {R : List Int} (h : PR w na K T ra R) (hb : Below w.heap.size w w') : PR w' na K T ra R := by
  rcases h with h | ⟨rb, ro, e, hl, hc⟩
  · exact .inl h
  · exact .inr ⟨rb, ro, e, Nat.lt_of_lt_of_le hl hb.size, fun i hi => (hb.cell (p := ⟨rb, ro + i, none⟩) hl).trans (hc i hi)⟩

theorem pr_of_row {w : World} {base : Nat} {v : Value} {na : Option Addr} {K : Nat} {T : Nat → GM} {O : List Int} (h : w.ownsRow base 143 1 v O.length (ptrS na K T O)) : ∃ a c, v = .slice a O.length c ∧ PR w na K T a O := by
  obtain ⟨a, c, rfl, _⟩ := row_shape h
  refine ⟨a, c, rfl, ?_⟩
  rcases Nat.eq_zero_or_pos O.length with h0 | hp
  · exact .inl h0
  · obtain ⟨g, cap, e, hb, hlt⟩ := h.form hp
    simp only [Value.slice.injEq] at e
    obtain ⟨rfl, -, rfl⟩ := e
    refine .inr ⟨g, 0, rfl, hlt, fun i hi => ?_⟩
    have hc := h.cellAt i (by omega)
    rw [show (ptrS na K T O)[i]? = some (ptrV na (ixN T (lf O i) K)) by unfold ptrS; rw [List.getElem?_map, List.getElem?_eq_getElem hi, lf_at hi]; rfl] at hc
    simpa using hc

/-- What is reached, as the program has it. -/
def RetRP (W : World) (na : Option Addr) (K : Nat) (T : Nat → GM) (R : List Int) (e : Ending) (w' : World) : Prop :=
  ∃ ra rc mb, e = .returned (.agg #[.slice ra R.length rc, .map (some mb)]) ∧ PR w' na K T ra R ∧ MapT w' mb R.length R nv1 ∧ Below W.heap.size W w' ∧ W.heap.size ≤ mb

theorem nw_in {W : World} {na : Option Addr} {K : Nat} {T : Nat → GM} {y : Int} {e : Ending} {w' : World} {base : Nat} (h : RetNW W na K T y e w') (hb : ∀ b q, na = some ⟨b, q, none⟩ → 0 < K → b < base) (hy : y = 0 ∨ Has K T y) (hi : ∀ i, i < K → 1 ≤ (T i).at_ ∧ (T i).at_ ≤ 9999) :
    Below W.heap.size W w' ∧ ∃ pv, e = .returned pv ∧ ((y = 0 ∧ pv = .pointer none) ∨ ∃ i b q, i < K ∧ (T i).at_ = y ∧ na = some ⟨b, q, none⟩ ∧ b < base ∧ pv = .pointer (some ⟨b, q + i * 5, none⟩)) := by
  obtain ⟨h1, ⟨i, b, q, h2, h3, h4, h5⟩ | ⟨h2, h3⟩⟩ := h
  · exact ⟨h1, _, h5, .inr ⟨i, b, q, h2, h3, h4, hb b q h4 (by omega), rfl⟩⟩
  · rcases hy with rfl | hy
    · exact ⟨h1, _, h3, .inl ⟨rfl, rfl⟩⟩
    · exact absurd hy h2

/-- A row that adding leaves as it is. -/
def Apart (w : World) (a : Option Addr) (n rb mb : Nat) (v : Value) : Prop := n = 0 ∨ ∃ b o, a = some ⟨b, o, none⟩ ∧ b ≠ rb ∧ b ≠ mb ∧ v.ownBlock ≠ some b ∧ b < w.heap.size

theorem Apart.size {w w' : World} {a : Option Addr} {n rb mb : Nat} {v : Value} (h : Apart w a n rb mb v) (hz : w.heap.size ≤ w'.heap.size) : Apart w' a n rb mb v := by
  rcases h with h | ⟨b, o, h1, h2, h3, h4, h5⟩
  · exact .inl h
  · exact .inr ⟨b, o, h1, h2, h3, h4, by omega⟩

theorem Apart.addq {w w' : World} {a : Option Addr} {n rb mb : Nat} {v v' : Value} (h : Apart w a n rb mb v) (hq : AddQ w w' rb mb v v') (hz : w.heap.size ≤ w'.heap.size) : Apart w' a n rb mb v' := by
  rcases h with h | ⟨b, o, h1, h2, h3, h4, h5⟩
  · exact .inl h
  · refine .inr ⟨b, o, h1, h2, h3, fun e => ?_, by omega⟩
    rcases hq.2 with e2 | e2
    · exact h4 (e2 ▸ e)
    · have := e2 b e; omega

theorem src_addq {w w' : World} {a : Option Addr} {n rb mb : Nat} {f : Nat → Int} {v v' : Value} (hs : Src w a n f) (h : Apart w a n rb mb v) (hq : AddQ w w' rb mb v v') (hz : w.heap.size ≤ w'.heap.size) : Src w' a n f := by
  rcases hs with h0 | ⟨b, o, e, hl, hc⟩
  · exact .inl h0
  · rcases h with h0 | ⟨b', o', e', h2, h3, h4, h5⟩
    · exact .inl h0
    · rw [e] at e'
      simp only [Option.some.injEq, Addr.mk.injEq, and_true] at e'
      obtain ⟨rfl, rfl⟩ := e'
      exact .inr ⟨b, o, e, by omega, fun i hi => (World.cell?_of_block (w := w) (a := ⟨b, o + i, none⟩) (hq.1 b hl h2 h3 h4)).trans (hc i hi)⟩

theorem apart_new {w : World} {B n rb mb : Nat} {a : Option Addr} {f : Nat → Int} {v : Value} (h : Own w B a n f) (hr : rb < B) (hm : mb < B) (hv : ∀ k, v.ownBlock = some k → k < B) : Apart w a n rb mb v := by
  rcases h with h0 | ⟨b, o, e, hB, hl, hc⟩
  · exact .inl h0
  · exact .inr ⟨b, o, e, by omega, by omega, fun e => by have := hv b e; omega, hl⟩

theorem RN.blocks {w : World} {base rb mb : Nat} {v : Value} {na : Option Addr} {K : Nat} {T : Nat → GM} {O : List Int} (h : RN w base rb mb v na K T O) : ∀ k, v.ownBlock = some k → k < w.heap.size := fun k hk => (h.row.lt k hk).2

theorem mc_take_len {M : Nat} {S : Nat → SL} {K : Nat} {T : Nat → GM} (hl : MLead M S K T) (i : Nat) : (addNew [] (nz ((slotL M S).take i))).length ≤ K := by
  have hs : ∀ p ∈ addNew [] (nz ((slotL M S).take i)), Has K T p := fun p hp => by
    rcases (mem_addNew _ _ _).1 hp with h1 | h1
    · cases h1
    · obtain ⟨h2, h3⟩ := mem_nz.1 h1
      exact mem_idsM.1 (slotM_sub hl p (mem_nz.2 ⟨List.mem_of_mem_take h2, h3⟩))
  have := nodup_length (nodup_addNew (nz ((slotL M S).take i)) [] List.nodup_nil) (U := idsM K T) (fun x hx => mem_idsM.2 (hs x hx))
  rwa [idsM_len] at this

theorem ptL_has {M : Nat} {S : Nat → SL} {K : Nat} {T : Nat → GM} (hl : MLead M S K T) {i : Nat} (hi : i < K) {y : Int} (hy : y ∈ ptL (T i) (T i).n) : y = 0 ∨ Has K T y := by
  obtain ⟨k, hk, hp, rfl⟩ := mem_ptL.1 hy
  exact hl.2 i hi k hk hp

set_option maxRecDepth 100000 in
set_option maxHeartbeats 3200000 in
theorem reachFS_any (te qu ha : Int) (sa : Option Addr) (M kc : Nat) (S : Nat → SL) (na : Option Addr) (K nc : Nat) (T : Nat → GM) (w : World)
    (hp : PV w sa M S) (hg : NV w na K T) (hok : MOk te qu ha M S K T) :
    Calls Try.prog 90 #[.agg #[.int .i64 te, .int .i64 qu, .int .i64 ha, .slice sa M kc, .slice na K nc]] w (RetRP w na K T (reachM M S K T)) := by
  have P := Lib.hid hp; have G := Lib.hid hg
  have HL := Lib.hid hok.lead; have HRI := Lib.hid hok.rise
  have hM : M ≤ 8 := by have := hok.len.1.2; omega
  have hK : K ≤ 150 := by have := hok.len.2.2; omega
  have HID : Hid (∀ i, i < K → 1 ≤ (T i).at_ ∧ (T i).at_ ≤ 9999) := Lib.hid (fun i hi => (isNode_zero (hok.node i hi)).1.1)
  have HM : Hid (∀ i j, i < j → j < K → (T i).at_ < (T j).at_) := Lib.hid (fun i j h1 h2 => rise_lt hok.rise j i h1 h2)
  have HND : Hid (∀ i, i < K → IsNode (T i) 0) := Lib.hid hok.node
  have HNB : Hid (∀ b q, na = some ⟨b, q, none⟩ → 0 < K → b < w.heap.size + 1 + 1) := Lib.hid (fun b q e h0 => by
    rcases hg with h | ⟨b', q', e', h⟩
    · omega
    · rw [e] at e'
      simp only [Option.some.injEq, Addr.mk.injEq, and_true] at e'
      have := h.lt; omega)
  have hmk := @run_makeMap Try.prog
  clear hp hg hok
  have A_0 := Lib.hid ((Blk.new_at (w := w) (cs := #[.int .i64 te, .int .i64 qu, .int .i64 ha, .slice sa M kc, .slice na K nc]) (t := 54) w.heap.size rfl).alloc (.cells #[.slice none 0 0, .map none] 141))
  have D_0 := Lib.hid (Blk.new_at (w := w.alloc (.cells #[.int .i64 te, .int .i64 qu, .int .i64 ha, .slice sa M kc, .slice na K nc] 54)) (cs := #[.slice none 0 0, .map none]) (t := 141) (w.heap.size + 1) (by simp))
  have HB0 := Lib.hid (((Below.refl w.heap.size w).alloc (Nat.le_refl _) (.cells #[.int .i64 te, .int .i64 qu, .int .i64 ha, .slice sa M kc, .slice na K nc] 54)).alloc (by simp) (.cells #[.slice none 0 0, .map none] 141))
  have zW : ((w.alloc (.cells #[.int .i64 te, .int .i64 qu, .int .i64 ha, .slice sa M kc, .slice na K nc] 54)).alloc (.cells #[.slice none 0 0, .map none] 141)).heap.size = w.heap.size + 1 + 1 := by simp
  go_enter Try.func90, Try.ntmps90
  go_wp2_with fail
  generalize (w.alloc (.cells #[.int .i64 te, .int .i64 qu, .int .i64 ha, .slice sa M kc, .slice na K nc] 54)).alloc (.cells #[.slice none 0 0, .map none] 141) = W0 at *
  have HM1 := Lib.hid ((MapT.made W0 nv1).alloc (.cells #[.slice none 0 0, .map (some (w.heap.size + 1 + 1))] 141))
  rw [zW] at HM1
  have B1 := Lib.hid (Blk.new_at (w := W0.alloc (.map #[] 0)) (cs := #[.slice none 0 0, .map (some (w.heap.size + 1 + 1))]) (t := 141) (w.heap.size + 1 + 1 + 1) (by simp [zW]))
  have HB3 : Hid (Below (w.heap.size + 1 + 1) W0 ((W0.alloc (.map #[] 0)).alloc (.cells #[.slice none 0 0, .map (some (w.heap.size + 1 + 1))] 141))) := Lib.hid (((Below.refl _ _).alloc (by omega) _).alloc (by simp; omega) _)
  have z3 : ((W0.alloc (.map #[] 0)).alloc (.cells #[.slice none 0 0, .map (some (w.heap.size + 1 + 1))] 141)).heap.size = w.heap.size + 1 + 1 + 1 + 1 := by simp [zW]
  generalize (W0.alloc (.map #[] 0)).alloc (.cells #[.slice none 0 0, .map (some (w.heap.size + 1 + 1))] 141) = W3 at *
  generalize hrb : w.heap.size + 1 + 1 + 1 = rb at *
  generalize hmb : w.heap.size + 1 + 1 = mb at *
  have RS0 : Hid (RN W3 mb rb mb (.slice none 0 0) na K T []) := Lib.hid
    ⟨B1.out, by omega, Nat.le_refl _, by omega, by simp [Value.ownBlock], by simp [Value.ownBlock], World.ownsRow_nil _ _ _ _, HM1.out⟩
  have HBW : Hid (∀ wr, Below mb W0 wr → Below w.heap.size w wr) := Lib.hid (fun wr hb => HB0.out.trans (hb.mono (by omega)))
  clear HM1 B1
  refine (slotNodes_any sa M kc S _ (P.out.below (HBW.out _ HB3.out)) (by omega)).mono ?_
  rintro e w1 ⟨xa, xc, rfl, ho, hb, -, -, -⟩
  have HB4 := Lib.hid (HB3.out.trans (hb.mono (by omega)))
  have RS1 := Lib.hid (RS0.out.below hb)
  have AP1 := Lib.hid (apart_new (rb := rb) (mb := mb) (v := .slice none 0 0) ho (by omega) (by omega) (fun k hk => by simp [Value.ownBlock] at hk))
  have XS1 := Lib.hid ho.src
  clear hb ho RS0 HB3
  go_wp2
  go_loopw [15] (fun p wr => ∃ (i : Nat) (v : Value), i ≤ M ∧ p = .int .i64 (i : Int) ∧ Hid (Below mb W0 wr) ∧ Hid (RN wr mb rb mb v na K T (addNew [] (nz ((slotL M S).take i)))) ∧ Hid (Src wr xa M (fun i => (S i).nd)) ∧ Hid (Apart wr xa M rb mb v)) (fun p _ => M - (intOf p).toNat)
  case atStart => exact ⟨0, _, Nat.zero_le _, rfl, HB4, RS1, XS1, AP1⟩
  case round =>
    clear HB4 RS1 XS1 AP1
    obtain ⟨i, v, hi, rfl, HB_r, RS_r, XS_r, AP_r⟩ := hrel
    have hzr : mb ≤ wr.heap.size := by have := RS_r.out.map.lt; omega
    by_cases hlt : i < M
    · have hlt' : (i : Int) < (M : Int) := by omega
      have hi0 : (0 : Int) ≤ (i : Int) := by omega
      obtain ⟨xb, xo, rfl, hxb, hxc⟩ := src_some XS_r.out (by omega)
      have c0 := hxc i hlt
      have A_r := Lib.hid (blk_under A_0.out HB_r.out (by omega))
      have a4 := A_r.out.at 4 rfl; have lA := A_r.out.1
      have HSN := Lib.hid (addz_take (l := slotL M S) (i := i) (by rw [slotL_len]; exact hlt) [])
      obtain ⟨y, hy⟩ : ∃ y, (S i).nd = y := ⟨_, rfl⟩
      have HY : Hid (lf (slotL M S) i = y) := Lib.hid (by rw [slotL_lf hlt, hy])
      have HYH : Hid (y = 0 ∨ Has K T y) := Lib.hid (by rw [← hy]; exact HL.out.1 i hlt)
      have hol := mc_take_len HL.out i
      simp only [hy] at c0
      clear hxc hy A_r
      go_wp2_with fail
      refine (nodeWith_any na K nc T y _ (G.out.below (HBW.out _ HB_r.out)) (by omega) HM.out).mono ?_
      rintro e w4 hnw
      obtain ⟨hb, pv, rfl, hpv⟩ := nw_in hnw HNB.out HYH.out HID.out
      have HPV := Lib.hid hpv
      have HB5 := Lib.hid (HB_r.out.trans (hb.mono hzr))
      have RS5 := Lib.hid (RS_r.out.below hb)
      have XS5 := Lib.hid (XS_r.out.below hb)
      have AP5 := Lib.hid (AP_r.out.size hb.size)
      have z5 : mb ≤ w4.heap.size := by have := hb.size; omega
      clear hb hnw hpv c0 a4 lA hxb HB_r RS_r XS_r AP_r
      go_wp2_with fail
      refine (addN_any mb rb mb v na K T _ y pv _ RS5.out z5 HPV.out (G.out.below (HBW.out _ HB5.out)) HRI.out HID.out (by omega)).mono ?_
      rintro e w6 ⟨rfl, hb, hz, v', hq, hrs⟩
      have HB6 := Lib.hid (HB5.out.trans hb)
      have RS6 : Hid (RN w6 mb rb mb v' na K T (addNew [] (nz ((slotL M S).take (i + 1))))) := Lib.hid (by rw [HSN.out, HY.out]; exact hrs)
      have XS6 := Lib.hid (src_addq XS5.out AP5.out hq hz)
      have AP6 := Lib.hid (AP5.out.addq hq hz)
      clear hb hrs hq HB5 RS5 XS5 AP5 HPV
      go_wp2
      go_roundw
      case rel => first | exact ⟨i + 1, v', by omega, by go_num, HB6, RS6, XS6, AP6⟩ | ((repeat apply Exists.intro); exact ⟨⟨i + 1, v', by omega, by go_num, HB6, RS6, XS6, AP6⟩, rfl⟩)
      case measure => simp [intOf]; omega
    · have hlt' : ¬ (i : Int) < (M : Int) := by omega
      obtain rfl : i = M := by omega
      have HMC : Hid (MC i S K T 0 (addNew [] (nz (slotL i S)))) := Lib.hid (mc_start HL.out)
      have RS2 : Hid (RN wr mb rb mb v na K T (addNew [] (nz (slotL i S)))) := Lib.hid (by
        have e := RS_r.out
        rw [List.take_of_length_le (by rw [slotL_len]; exact Nat.le_refl _)] at e
        exact e)
      clear RS_r XS_r AP_r hzr
      generalize addNew [] (nz (slotL i S)) = O at *
      go_wp2
      go_loopw [6] (fun p wr => ∃ (n : Nat) (v : Value) (O : List Int), n ≤ K ∧ p = .int .i64 (n : Int) ∧ Hid (Below mb W0 wr) ∧ Hid (RN wr mb rb mb v na K T O) ∧ Hid (MC i S K T n O)) (fun p _ => K - (intOf p).toNat)
      case atStart => exact ⟨0, v, O, Nat.zero_le _, rfl, HB_r, RS2, HMC⟩
      case round =>
        clear HB_r RS2 HMC
        obtain ⟨n, v, O, hnK, rfl, HB_r, RS_r, HMC⟩ := hrel
        have hzr : mb ≤ wr.heap.size := by have := RS_r.out.map.lt; omega
        have hoK : O.length ≤ K := mc_len HMC.out
        obtain ⟨av, kv, rfl, hpr⟩ := pr_of_row RS_r.out.row
        have lB := RS_r.out.blk.1; have cB0 := RS_r.out.blk.at 0 rfl; have cB1 := RS_r.out.blk.at 1 rfl
        by_cases hno : n < O.length
        · have hno' : (n : Int) < (O.length : Int) := by omega
          have hn0 : (0 : Int) ≤ (n : Int) := by omega
          have hhas := HMC.out.sub _ (lf_mem hno)
          have HSTEP := Lib.hid (mc_step HL.out HMC.out hno)
          have HPRE := Lib.hid (fun k => mc_in_len HL.out HMC.out hno k)
          rcases hpr with h0 | ⟨ab, ao, rfl, hab, hac⟩
          · omega
          have d0 := hac n hno
          obtain ⟨y, hy⟩ : ∃ y, lf O n = y := ⟨_, rfl⟩
          rw [hy] at d0 hhas HSTEP HPRE
          have hix := ixN_has hhas
          have HT : Hid (nodeM K T y = T (ixN T y K)) := Lib.hid rfl
          unfold ptrM at HSTEP
          rw [HT.out] at HSTEP HPRE
          obtain ⟨x, hx⟩ : ∃ x, ixN T y K = x := ⟨_, rfl⟩
          rw [hx] at hix d0 HSTEP HPRE
          obtain ⟨b, q, rfl, lb, ⟨x0, x1, x2, x3, x4⟩, hsr⟩ := nv_get (G.out.below (HBW.out _ HB_r.out)) hix
          have HSR := Lib.hid hsr
          have HNX := Lib.hid (HND.out x hix)
          have HPH := Lib.hid (fun y hy => ptL_has (y := y) HL.out hix hy)
          have d0' : wr.cell? ⟨ab, ao + n, none⟩ = some (.pointer (some ⟨b, q + x * 5, none⟩)) := d0
          obtain ⟨t, ht⟩ : ∃ t, T x = t := ⟨_, rfl⟩
          rw [ht] at x0 x1 x2 x3 x4 HSR HNX HPH HSTEP HPRE
          have hpl := ptL_len t t.n
          have ht12 : t.n ≤ 12 := by have := (isNode_zero HNX.out).1.2.1.2; have := (isNode_zero HNX.out).2.1; omega
          clear hac hy hhas HT hx hsr d0 ht HMC
          go_wp2_with fail
          refine (ptrsOf_any t _ HSR.out HNX.out).mono ?_
          rintro e w5 ⟨ya, yc, rfl, ho, hb, -, -, -⟩
          have HB5 := Lib.hid (HB_r.out.trans (hb.mono hzr))
          have RS5 := Lib.hid (RS_r.out.below hb)
          have YS5 := Lib.hid ho.src
          have AP5 := Lib.hid (apart_new (rb := rb) (mb := mb) ho (by have := RS_r.out.blk.1; omega) RS_r.out.map.lt RS_r.out.blocks)
          clear hb ho lB cB0 cB1 hab d0' x0 x1 x2 x3 x4 lb HB_r RS_r hzr HSR
          generalize hP : ptL t t.n = Pl at *
          have HP := Lib.hid hP
          clear hP
          go_wp2
          go_loopw [41] (fun p wr => ∃ (k : Nat) (v : Value) (Q : List Int), k ≤ Pl.length ∧ p = .int .i64 (k : Int) ∧ Hid (Below mb W0 wr) ∧ Hid (RN wr mb rb mb v (some ⟨b, q, none⟩) K T Q) ∧ Hid (Q = addNew O (nz (Pl.take k))) ∧ Hid (Src wr ya Pl.length (lf Pl)) ∧ Hid (Apart wr ya Pl.length rb mb v)) (fun p _ => Pl.length - (intOf p).toNat)
          case atStart => exact ⟨0, _, O, Nat.zero_le _, rfl, HB5, RS5, Lib.hid rfl, YS5, AP5⟩
          case round =>
            clear HB5 RS5 YS5 AP5
            obtain ⟨k, v, Q, hk, rfl, HB_r, RS_r, HQ, YS_r, AP_r⟩ := hrel
            have hzr : mb ≤ wr.heap.size := by have := RS_r.out.map.lt; omega
            have hqK : Q.length ≤ K := by rw [HQ.out]; exact HPRE.out k
            by_cases hkl : k < Pl.length
            · have hkl' : (k : Int) < (Pl.length : Int) := by omega
              have hk0 : (0 : Int) ≤ (k : Int) := by omega
              obtain ⟨yb, yo, rfl, hyb, hyc⟩ := src_some YS_r.out (by omega)
              have c0 := hyc k hkl
              have A_r := Lib.hid (blk_under A_0.out HB_r.out (by omega))
              have a4 := A_r.out.at 4 rfl; have lA := A_r.out.1
              have HSN := Lib.hid (addz_take hkl O)
              obtain ⟨z, hz⟩ : ∃ z, lf Pl k = z := ⟨_, rfl⟩
              have HZH : Hid (z = 0 ∨ Has K T z) := Lib.hid (by rw [← hz]; exact HPH.out _ (lf_mem hkl))
              rw [hz] at c0 HSN
              clear hyc hz A_r
              go_wp2_with fail
              refine (nodeWith_any (some ⟨b, q, none⟩) K nc T z _ (G.out.below (HBW.out _ HB_r.out)) (by omega) HM.out).mono ?_
              rintro e w4 hnw
              obtain ⟨hb, pv, rfl, hpv⟩ := nw_in hnw HNB.out HZH.out HID.out
              have HPV := Lib.hid hpv
              have HB5 := Lib.hid (HB_r.out.trans (hb.mono hzr))
              have RS5 := Lib.hid (RS_r.out.below hb)
              have YS5 := Lib.hid (YS_r.out.below hb)
              have AP5 := Lib.hid (AP_r.out.size hb.size)
              have z5 : mb ≤ w4.heap.size := by have := hb.size; omega
              clear hb hnw hpv c0 a4 lA hyb HB_r RS_r YS_r AP_r
              go_wp2_with fail
              refine (addN_any mb rb mb v (some ⟨b, q, none⟩) K T _ z pv _ RS5.out z5 HPV.out (G.out.below (HBW.out _ HB5.out)) HRI.out HID.out (by omega)).mono ?_
              rintro e w6 ⟨rfl, hb, hz, v', hq, hrs⟩
              have HB6 := Lib.hid (HB5.out.trans hb)
              have HQ6 : Hid (add1z Q z = addNew O (nz (Pl.take (k + 1)))) := Lib.hid (by rw [HSN.out, ← HQ.out])
              have RS6 := Lib.hid hrs
              have YS6 := Lib.hid (src_addq YS5.out AP5.out hq hz)
              have AP6 := Lib.hid (AP5.out.addq hq hz)
              clear hb hrs hq HB5 RS5 YS5 AP5 HPV HQ HSN
              go_wp2
              go_roundw
              case rel => first | exact ⟨k + 1, v', add1z Q z, by omega, by go_num, HB6, RS6, HQ6, YS6, AP6⟩ | ((repeat apply Exists.intro); exact ⟨⟨k + 1, v', add1z Q z, by omega, by go_num, HB6, RS6, HQ6, YS6, AP6⟩, rfl⟩)
              case measure => simp [intOf]; omega
            · have hkl' : ¬ (k : Int) < (Pl.length : Int) := by omega
              have HMC' : Hid (MC i S K T (n + 1) Q) := Lib.hid (by
                rw [HQ.out, List.take_of_length_le (by omega)]
                exact HSTEP.out)
              clear YS_r AP_r HQ
              go_wp2
              go_roundw
              case rel => first | exact ⟨n + 1, v, Q, by omega, by go_num, HB_r, RS_r, HMC'⟩ | ((repeat apply Exists.intro); exact ⟨⟨n + 1, v, Q, by omega, by go_num, HB_r, RS_r, HMC'⟩, rfl⟩)
              case measure => simp [intOf]; omega
        · have hno' : ¬ (n : Int) < (O.length : Int) := by omega
          have HE := Lib.hid (mc_done HMC.out hno)
          have D_r := Lib.hid (blk_under D_0.out HB_r.out (by omega))
          have e0 := D_r.out.at 0 rfl; have e1 := D_r.out.at 1 rfl; have g0 := D_r.out.free 0 rfl; have g1 := D_r.out.free 1 rfl; have lD := D_r.out.1
          clear hpr HMC
          go_wp2
          refine bodyPost_ret (v := .agg #[.slice av O.length kv, .map (some mb)]) (by simp [results, Try.results90, go_sem, e0, e1]) rfl ?_
          rw [HE.out]
          have hrow := row_set (row_set RS_r.out.row (p := ⟨w.heap.size + 1, 0, none⟩) (by show w.heap.size + 1 < mb; omega) (.slice av O.length kv)) (p := ⟨w.heap.size + 1, 1, none⟩) (by show w.heap.size + 1 < mb; omega) (.map (some mb))
          obtain ⟨a', c', e', hpr⟩ := pr_of_row hrow
          simp only [Value.slice.injEq] at e'
          obtain ⟨rfl, -, rfl⟩ := e'
          refine ⟨av, kv, mb, rfl, hpr, (RS_r.out.map.set (by show mb ≠ w.heap.size + 1; omega) _).set (by show mb ≠ w.heap.size + 1; omega) _, ?_, by omega⟩
          repeat (with_reducible refine Below.setCell ?_ (by (try simp); (try omega)) _)
          exact HBW.out _ HB_r.out
end Go.Proofs.Ytaenbjilcgpgcaa

namespace Go.Proofs.Ytaenbjilcgpgcaa
open Go.RowKit
set_option linter.unusedVariables false

theorem pr_get {w : World} {na : Option Addr} {K : Nat} {T : Nat → GM} {ra : Option Addr} {R : List Int} (h : PR w na K T ra R) (hg : NV w na K T) {i : Nat} (hi : i < R.length) (hh : Has K T (lf R i)) : ∃ rb ro b q x, ra = some ⟨rb, ro, none⟩ ∧ na = some ⟨b, q, none⟩ ∧ x < K ∧ (T x).at_ = lf R i ∧ nodeM K T (lf R i) = T x ∧ w.cell? ⟨rb, ro + i, none⟩ = some (.pointer (some ⟨b, q + x * 5, none⟩)) ∧ rb < w.heap.size ∧ b < w.heap.size ∧ FivG w b (q + x * 5) (T x) ∧ Src w (T x).a (T x).n (T x).f := by
  have hx := ixN_has hh
  rcases h with h0 | ⟨rb, ro, rfl, hl, hc⟩
  · omega
  · obtain ⟨b, q, rfl, lb, hf, hs⟩ := nv_get hg hx
    exact ⟨rb, ro, b, q, _, rfl, rfl, hx, ixN_at hx, rfl, hc i hi, hl, lb, hf, hs⟩
end Go.Proofs.Ytaenbjilcgpgcaa

namespace Go.Proofs.Ytaenbjilcgpgcaa
open Go.RowKit Go.Maps
set_option linter.unusedVariables false

theorem Try.rowHa : 42 < Try.prog.types.size := of_decide_eq_true (by kernel_rfl)

theorem Try.wideHa : (match Try.prog.underlying 42 with | some (.array _ _) | some (.struct _) => true | _ => false) = true := by kernel_rfl

set_option maxRecDepth 100000 in
theorem keyHa : Keyed Try.prog 42 := Keyed.of_law (deep_law_laid Try.laidOut (m := 2) (by omega) Try.rowHa (by kernel_rfl) Try.wideHa)

theorem Try.underlyingMH : Try.prog.underlying 144 = some (.map 42 143) := by kernel_rfl

theorem zeroPN (w : World) : (zeroValue 143).run Try.prog w = .ok (.pointer none) w := by kernel_rfl

theorem Try.keyTypeHa : Try.prog.keyType 42 = true := by kernel_rfl

theorem Try.cellsHa : Try.prog.cellsOf 42 = 3 := by kernel_rfl

def haV (a b d : Int) : Value := .agg #[.int .i64 a, .int .i64 b, .int .i64 d]

theorem keyLits_int (n : Nat) (a : Int) (h : I64 a) : Try.prog.keyLits (n + 1) 2 [.int .i64 a] = some [.int .i64 a] := by
  unfold Program.keyLits
  rw [Try.underlyingI]
  simp [WalkArith.wf_i64 h]

def haF (n : String) (o : Nat) : Field := { name := n, type := 2, offset := o, embedded := false, tag := "", pkgPath := "", byteOffset := 8 * o }

theorem Try.underHa : Try.prog.underlying 42 = some (.struct #[haF "Tenant" 0, haF "Slot" 1, haF "Gen" 2]) := by kernel_rfl

theorem Try.cellsI64 : Try.prog.cellsOf 2 = 1 := by kernel_rfl

theorem keyOf_ha (a b d : Int) (ha : I64 a) (hb : I64 b) (hd : I64 d) : ∃ kl, keyOf Try.prog 42 (haV a b d) = some kl := by
  have hu := Try.underHa
  have hs : ∃ n, Try.prog.types.size = n + 1 := ⟨Try.prog.types.size - 1, by have := Try.rowHa; omega⟩
  obtain ⟨n, hn⟩ := hs
  unfold keyOf
  rw [hu]
  simp only [Try.keyTypeHa, Bool.true_and]
  have hf : (haV a b d).formed Try.prog 42 = true := by
    unfold haV Value.formed
    simp only [hu, Try.cellsHa]
    rfl
  rw [if_pos hf, hn]
  have hc : (haV a b d).cells.toList = [.int .i64 a, .int .i64 b, .int .i64 d] := rfl
  rw [hc]
  unfold Program.keyLits
  rw [hu]
  simp only [Try.cellsHa, haF]
  simp [Try.cellsI64, keyLits_int n _ ha, keyLits_int n _ hb, keyLits_int n _ hd]

/-- How an element is told: whether it points at anything. -/
def ptrR (v : Value) : Option (DataW Unit × List MemPlace) := match v with | .pointer p => some (.lit (.bool p.isSome), []) | _ => none

/-- A slot that leads to a node by a handle of its own. -/
def Leads (te : Int) (S : Nat → SL) (i : Nat) (a b d : Int) : Prop := a = te ∧ ∃ j : Nat, j < i ∧ b = (j : Int) ∧ d = (S j).g ∧ ¬ (S j).nd = 0

/-- A map of handles: of the first slots. -/
def MapH (w : World) (b n : Nat) (te : Int) (S : Nat → SL) (i : Nat) : Prop :=
  ∃ D : DataW Unit, w.ownsMap Try.prog 42 ptrR b n D ∧ ∀ a c d kl, keyOf Try.prog 42 (haV a c d) = some kl → ∃ r : Bool, D.atKey kl (.lit (.bool false)) = .lit (.bool r) ∧ (r = true ↔ Leads te S i a c d)

theorem MapH.lt {w : World} {b n : Nat} {te : Int} {S : Nat → SL} {i : Nat} (h : MapH w b n te S i) : b < w.heap.size := by obtain ⟨D, h1, _⟩ := h; exact h1.lt

theorem MapH.block {w w' : World} {b n : Nat} {te : Int} {S : Nat → SL} {i : Nat} (h : MapH w b n te S i) (hb : w'.heap[b]? = w.heap[b]?) : MapH w' b n te S i := by
  obtain ⟨D, ⟨es, clock, h1, h2⟩, h3⟩ := h
  exact ⟨D, ⟨es, clock, hb.trans h1, h2⟩, h3⟩

theorem MapH.below {w w' : World} {b n : Nat} {te : Int} {S : Nat → SL} {i : Nat} (h : MapH w b n te S i) (hb : Below w.heap.size w w') : MapH w' b n te S i := h.block (hb.block b h.lt)

theorem MapH.look {w : World} {b n : Nat} {te : Int} {S : Nat → SL} {i : Nat} (h : MapH w b n te S i) {a c d : Int} (ha : I64 a) (hc : I64 c) (hd : I64 d) : ∃ p : Option Addr, (Instr.lookup 144 (.map (some b)) (haV a c d) false).run Try.prog w = .ok (.pointer p) w ∧ (p.isSome = true ↔ Leads te S i a c d) := by
  obtain ⟨D, h1, h2⟩ := h
  obtain ⟨kl, hk⟩ := keyOf_ha a c d ha hc hd
  obtain ⟨v, ps, hr, hv⟩ := h1.lookup keyHa Try.underlyingMH (zeroPN w) (zd := .lit (.bool false)) (zp := []) rfl hk
  obtain ⟨r, h3, h4⟩ := h2 a c d kl hk
  rw [h3] at hv
  unfold ptrR at hv
  split at hv
  · rename_i p
    simp only [Option.some.injEq, Prod.mk.injEq, DataW.lit.injEq, Lit.bool.injEq] at hv
    exact ⟨p, hr, by rw [hv.1]; exact h4⟩
  · cases hv
end Go.Proofs.Ytaenbjilcgpgcaa

namespace Go.Proofs.Ytaenbjilcgpgcaa
open Go.RowKit Go.Maps
set_option linter.unusedVariables false

theorem MapH.mono {w : World} {b n n' : Nat} {te : Int} {S : Nat → SL} {i : Nat} (h : MapH w b n te S i) (hn : n ≤ n') : MapH w b n' te S i := by
  obtain ⟨D, h1, h2⟩ := h
  exact ⟨D, h1.mono hn, h2⟩
end Go.Proofs.Ytaenbjilcgpgcaa

namespace Go.Proofs.Ytaenbjilcgpgcaa
open Go.RowKit Go.Maps
set_option linter.unusedVariables false

theorem cap9 {w : World} {H A : Nat} {v0 v1 v2 v3 te qu ha sa na : Value} (hH : Blk w H [v0, v1, v2, v3]) (hA : Blk w A [te, qu, ha, sa, na]) : w.cell? ⟨H, 0, none⟩ = some v0 ∧ w.cell? ⟨H, 1, none⟩ = some v1 ∧ w.cell? ⟨H, 2, none⟩ = some v2 ∧ w.cell? ⟨H, 3, none⟩ = some v3 ∧ w.cell? ⟨A, 0, none⟩ = some te ∧ w.cell? ⟨A, 1, none⟩ = some qu ∧ w.cell? ⟨A, 2, none⟩ = some ha ∧ w.cell? ⟨A, 3, none⟩ = some sa ∧ w.cell? ⟨A, 4, none⟩ = some na :=
  ⟨hH.at 0 rfl, hH.at 1 rfl, hH.at 2 rfl, hH.at 3 rfl, hA.at 0 rfl, hA.at 1 rfl, hA.at 2 rfl, hA.at 3 rfl, hA.at 4 rfl⟩
end Go.Proofs.Ytaenbjilcgpgcaa

namespace Go.Proofs.Ytaenbjilcgpgcaa
open Go.RowKit
set_option linter.unusedVariables false

set_option maxRecDepth 100000 in
set_option maxHeartbeats 400000 in
theorem markInts_huge (a : Option Addr) (n c lo hi : Nat) (f : Nat → Int) (k : Int) (w : World) (ho : OwnIn w lo hi a n f) (hn : n ≤ 1048576) (hk0 : 0 ≤ k) (hk1 : k ≤ 4398046511104) :
    Calls Try.prog 115 #[.slice a n c, .int .i64 k] w (RetMark w lo hi a n k) := by
  have HO := Lib.hid ho
  clear ho
  go_enter Try.func115, Try.ntmps115
  go_wp2
  go_loopw [1, 5] (fun q p wr => ∃ i : Nat, i ≤ n ∧ p = .int .i64 i ∧ q = .int .i64 (k + i) ∧ Hid (Keeps w wr lo hi) ∧ Hid (OwnIn wr lo hi a n (fun j => if j < i then k + j else f j))) (fun _ p _ => n - (intOf p).toNat)
  case atStart => exact ⟨0, Nat.zero_le _, rfl, by simp, Keeps.refl _ _ _, by simpa using HO⟩
  case round =>
    obtain ⟨i, hi', rfl, rfl, HK, HR⟩ := hrel
    by_cases hlt : i < n
    · obtain ⟨b, off, rfl, hb, hc⟩ := src_some HR.out.src (by omega)
      have c1 := hc i hlt
      have hfz : wr.frozen? ⟨b, off + i, none⟩ = false := by
        rcases HR.out with h | ⟨b', off', h1, _, _, h4⟩
        · omega
        · simp only [Option.some.injEq, Addr.mk.injEq, and_true] at h1
          obtain ⟨rfl, rfl⟩ := h1
          exact (h4 i hlt).2
      have hst := Lib.hid (HR.out.stored i hlt (k + i))
      have hlt' : (i : Int) < (n : Int) := by omega
      clear hc
      go_wp2
      go_roundw
      case rel =>
        refine ⟨i + 1, by omega, by go_num, by go_num, HK.out.trans hst.out.2, hst.out.1.congr fun j hj => ?_⟩
        by_cases h1 : j = i
        · subst h1; simp
        · have h2 : (j < i + 1) = (j < i) := by simp only [eq_iff_iff]; omega
          simp only [h1, if_false, h2]
      case measure => simp [intOf]; omega
    · go_wp2
      go_ret
      obtain rfl : i = n := by omega
      exact ⟨rfl, HR.out.congr fun j hj => by simp [hj], HK.out⟩

set_option maxRecDepth 100000 in
set_option maxHeartbeats 1600000 in
theorem markNodeS_big (lo hi b q N c : Nat) (T : Nat → GM) (k : Int) (w : World) (hs : NOwn w lo hi b q N T) (hk0 : 0 ≤ k) (hk1 : k + (noff T N : Int) ≤ 4398046511104) (hN5 : N ≤ 1048576) (hnn : ∀ i, i < N → (T i).n ≤ 1048576) :
    Calls Try.prog 114 #[.slice (some ⟨b, q, none⟩) N c, .int .i64 k] w (NRetMarkS w lo hi b q N T k) := by
  have H := Lib.hid hs
  have HNN := Lib.hid hnn
  have hlh : lo ≤ hi := by have := hs.glo; have := hs.ghi; omega
  clear hs hnn
  go_enter Try.func114, Try.ntmps114
  go_wp2
  go_loopw [1, 5] (fun u p wr => ∃ i : Nat, i ≤ N ∧ p = .int .i64 i ∧ u = .int .i64 (k + (noff T i : Int)) ∧ Hid (Keeps w wr lo hi) ∧ Hid (NOwn wr lo hi b q N (fun j => if j < i then nmkd T k j else T j))) (fun _ p _ => N - (intOf p).toNat)
  case atStart => exact ⟨0, Nat.zero_le _, rfl, by simp [noff], Keeps.refl _ _ _, by simpa using H⟩
  case round =>
    obtain ⟨i, hi9, rfl, rfl, HK, HR⟩ := hrel
    by_cases hlt : i < N
    · have hlt' : (i : Int) < (N : Int) := by omega
      have hi0 : (0 : Int) ≤ (i : Int) := by omega
      have hle : noff T (i + 1) ≤ noff T N := noff_mono T hlt
      have hso : (noff T (i + 1) : Int) = (noff T i : Int) + 4 + ((T i).n : Int) := by simp only [noff]; omega
      have hx := HR.out.six i hlt
      have hsrc := HR.out.flds i hlt
      obtain ⟨f0, f1, f2, f3, f4⟩ := HR.out.free i hlt
      have hlt0 := HR.out.lt
      simp only [Nat.lt_irrefl, if_false] at hx hsrc
      obtain ⟨x0, x1, x2, x3, x4⟩ := hx
      generalize hK : k + (noff T i : Int) = K at *
      have hK0 : 0 ≤ K := by omega
      have hK1 : K + 4 + ((T i).n : Int) ≤ 4398046511104 := by omega
      have hn : (T i).n ≤ 1048576 := HNN.out i hlt
      have HSO := Lib.hid hso; have HKK := Lib.hid hK; have HSRC := Lib.hid hsrc
      clear hso hK hle hsrc
      obtain ⟨l, r, hl1, hl2, hl3, hnar, hlr⟩ := ownIn_narrow HSRC.out hlh
      obtain ⟨U, hU⟩ : ∃ U : Nat → GM, U = fun j => if j < i then nmkd T k j else T j := ⟨_, rfl⟩
      have hUi : U i = T i := by rw [hU]; simp
      have hR : NOwn wr lo hi b q N U := by rw [hU]; exact HR.out
      have hnar' : OwnIn wr l r (U i).a (U i).n (U i).f := by rw [hUi]; exact hnar
      have h5 := nown_four K hR hlt hnar'
      have hlr' : ((U i).n = 0 ∧ l = r) ∨ (0 < (U i).n ∧ l = (U i).g ∧ r = (U i).g + 1 ∧ (U i).g < wr.heap.size) := by rw [hUi]; exact hlr
      rw [hUi] at h5
      have H5 := Lib.hid h5; have HLR := Lib.hid hlr'; have HRU := Lib.hid hR; have HUI := Lib.hid hUi; have HU := Lib.hid hU
      clear h5 hlr' hR hUi hU hnar hnar' hlr HR
      go_wp2_with fail
      rw [show K + 1 + 1 + 1 + 1 = K + 4 from by omega, show K + 1 + 1 + 1 = K + 3 from by omega, show K + 1 + 1 = K + 2 from by omega]
      refine (markInts_huge (T i).a (T i).n (T i).c l r (T i).f (K + 4) (fourN wr b (q + i * 5) K) H5.out hn (by omega) (by omega)).mono ?_
      rintro e w2 ⟨rfl, ho2, hk2⟩
      have hq := nown_round (i := i) HRU.out hlt hl1 hl3 HLR.out hk2 (by rw [HUI.out]; exact ho2)
      have HQ := Lib.hid hq
      clear ho2 hk2 hq
      go_wp2
      go_roundw
      case rel =>
        refine ⟨i + 1, by omega, by go_num, by have := HSO.out; have := HKK.out; go_num, HK.out.trans HQ.out.2, HQ.out.1.congr fun j hj => ?_⟩
        by_cases e : j = i
        · subst e
          simp only [if_true, Nat.lt_succ_self, nmkd, HKK.out, HUI.out]
        · rw [if_neg e, HU.out]
          have h2 : (j < i + 1) = (j < i) := by simp only [eq_iff_iff]; omega
          simp only [h2]
      case measure => simp [intOf]; omega
    · go_wp2
      go_ret
      obtain rfl : i = N := by omega
      exact ⟨rfl, HR.out.congr fun j hj => by simp [hj], HK.out⟩

set_option maxRecDepth 100000 in
set_option maxHeartbeats 400000 in
theorem markNV_big (lo hi N c : Nat) (a : Option Addr) (T : Nat → GM) (k : Int) (w : World) (hs : NVO w lo hi a N T) (hk0 : 0 ≤ k) (hk1 : k + (noff T N : Int) ≤ 4398046511104) (hN5 : N ≤ 1048576) (hnn : ∀ i, i < N → (T i).n ≤ 1048576) :
    Calls Try.prog 114 #[.slice a N c, .int .i64 k] w (NRetMarkV w lo hi a N T k) := by
  rcases Nat.eq_zero_or_pos N with rfl | hp
  · clear hs hnn hN5
    simp only [noff] at hk1
    go_enter Try.func114, Try.ntmps114
    go_wp2
    go_loop [1, 5] (fun u p => u = .int .i64 k ∧ p = .int .i64 0) (fun _ _ => 0)
    case atStart => exact ⟨rfl, rfl⟩
    case round =>
      obtain ⟨rfl, rfl⟩ := hrel
      go_wp2
      go_ret
      exact ⟨by simp [noff], .inl rfl, Keeps.refl _ _ _⟩
  · rcases hs with h0 | ⟨b, q, rfl, h⟩
    · omega
    · refine (markNodeS_big lo hi b q N c T k w h hk0 hk1 hN5 hnn).mono ?_
      rintro e w' ⟨rfl, h1, h2⟩
      exact ⟨rfl, .inr ⟨b, q, rfl, h1⟩, h2⟩

set_option maxRecDepth 100000 in
set_option maxHeartbeats 800000 in
theorem markSlotS_big (a : Option Addr) (lo hi N c : Nat) (T : Nat → SL) (k : Int) (w : World) (hs : PVO w lo hi a N T) (hk0 : 0 ≤ k) (hk1 : k + 2 * (N : Int) ≤ 4398046511104) :
    Calls Try.prog 113 #[.slice a N c, .int .i64 k] w fun e w' => e = .returned (.int .i64 (k + 2 * (N : Int))) ∧ PVO w' lo hi a N (smkd k) ∧ Keeps w w' lo hi := by
  have H := Lib.hid hs
  clear hs
  go_enter Try.func113, Try.ntmps113
  go_wp2
  go_loopw [1, 5] (fun u p wr => ∃ i : Nat, i ≤ N ∧ p = .int .i64 i ∧ u = .int .i64 (k + 2 * (i : Int)) ∧ Hid (Keeps w wr lo hi) ∧ Hid (PVO wr lo hi a N (fun j => if j < i then smkd k j else T j))) (fun _ p _ => N - (intOf p).toNat)
  case atStart => exact ⟨0, Nat.zero_le _, rfl, by simp, Keeps.refl _ _ _, by simpa using H⟩
  case round =>
    obtain ⟨i, hi9, rfl, rfl, HK, HR⟩ := hrel
    by_cases hlt : i < N
    · have hlt' : (i : Int) < (N : Int) := by omega
      have hi0 : (0 : Int) ≤ (i : Int) := by omega
      rcases HR.out with h0 | ⟨b, q, rfl, hg⟩
      · omega
      obtain ⟨x0, x1⟩ := hg.two i hlt
      obtain ⟨f0, f1⟩ := hg.free i hlt
      have hlt0 := hg.lt
      generalize hK : k + 2 * (i : Int) = K at *
      have hK0 : 0 ≤ K := by omega
      have hK1 : K + 2 ≤ 4398046511104 := by omega
      have HKK := Lib.hid hK
      have HQ := Lib.hid (pown_put (i := i) (t := ⟨K, K + 1⟩) hg hlt)
      clear hK hg HR
      go_wp2
      go_roundw
      case rel =>
        refine ⟨i + 1, by omega, by go_num, by have := HKK.out; go_num, HK.out.trans HQ.out.2, .inr ⟨b, q, rfl, HQ.out.1.congr fun j hj => ?_⟩⟩
        by_cases e : j = i
        · subst e
          simp only [if_true, Nat.lt_succ_self, smkd, HKK.out]
        · rw [if_neg e]
          have h2 : (j < i + 1) = (j < i) := by simp only [eq_iff_iff]; omega
          simp only [h2]
      case measure => simp [intOf]; omega
    · go_wp2
      go_ret
      obtain rfl : i = N := by omega
      refine ⟨rfl, ?_, HK.out⟩
      exact HR.out.congr fun j hj => by simp [hj]

set_option maxRecDepth 100000 in
set_option maxHeartbeats 800000 in
theorem markMach_big (te qu ha : Int) (sa : Option Addr) (M kc : Nat) (S : Nat → SL) (na : Option Addr) (K nc : Nat) (T : Nat → GM) (lo mid hi : Nat) (k : Int) (w : World) (hp : PVO w lo mid sa M S) (hg : NVO w mid hi na K T) (h1 : lo ≤ mid) (h2 : mid ≤ hi) (h3 : hi ≤ w.heap.size) (hk0 : 0 ≤ k) (hk1 : k + 2 * (M : Int) + (noff T K : Int) ≤ 4398046511104) (hK5 : K ≤ 1048576) (hnn : ∀ i, i < K → (T i).n ≤ 1048576) :
    Calls Try.prog 47 #[.agg #[.int .i64 te, .int .i64 qu, .int .i64 ha, .slice sa M kc, .slice na K nc], .int .i64 k] w (RetMkM w lo mid hi sa M na K T k) := by
  have P0 := Lib.hid hp; have G0 := Lib.hid hg; have HNN := Lib.hid hnn
  have hn0 : (0 : Int) ≤ (noff T K : Int) := by omega
  clear hp hg hnn
  go_enter Try.func47, Try.ntmps47
  have A_0 := Lib.hid (Blk.new_at (w := w) (cs := #[.int .i64 te, .int .i64 qu, .int .i64 ha, .slice sa M kc, .slice na K nc]) (t := 54) w.heap.size rfl)
  have HB0 := Lib.hid ((Below.refl w.heap.size w).alloc (Nat.le_refl _) (.cells #[.int .i64 te, .int .i64 qu, .int .i64 ha, .slice sa M kc, .slice na K nc] 54))
  have P1 := Lib.hid (P0.out.below HB0.out); have G1 := Lib.hid (G0.out.below HB0.out)
  have HK0 := Lib.hid (keeps_of_below HB0.out lo hi)
  go_wp2_with fail
  refine (markSlotS_big sa lo mid M kc S k _ P1.out hk0 (by omega)).mono ?_
  rintro e w1 ⟨rfl, hp, hk⟩
  have P2 := Lib.hid hp; have HK1 := Lib.hid (HK0.out.trans (hk.widen (Nat.le_refl _) h2))
  have A_1 := Lib.hid (A_0.out.keeps hk (.inr (by omega)))
  have G2 := Lib.hid (G1.out.keeps hk (.inr (Nat.le_refl _)))
  clear hp hk P0 P1 G0 G1 A_0 HK0
  have c4 := A_1.out.at 4 rfl; have lA := A_1.out.1
  go_wp2_with fail
  refine (markNV_big mid hi K nc na T (k + 2 * (M : Int)) _ G2.out (by omega) hk1 hK5 HNN.out).mono ?_
  rintro e w2 ⟨rfl, hg, hk⟩
  have G3 := Lib.hid hg; have P3 := Lib.hid (P2.out.keeps hk (.inl (Nat.le_refl _))); have HK2 := Lib.hid (HK1.out.trans (hk.widen h1 (Nat.le_refl _)))
  clear hg hk G2 P2 HK1 c4 lA A_1
  go_wp2
  go_ret
  exact ⟨rfl, P3.out, G3.out, HK2.out⟩

theorem noff_le {T : Nat → GM} : ∀ K, (∀ i, i < K → (T i).n ≤ 1048576) → noff T K ≤ K * 1048580
  | 0, _ => Nat.zero_le _
  | K + 1, h => by
    have h1 := noff_le K fun i hi => h i (by omega)
    have h2 := h K (Nat.lt_succ_self K)
    simp only [noff]; omega

/-- A new machine that holds the same, in memory of its own. -/
def RetTMO (W : World) (te qu ha : Int) (M : Nat) (S : Nat → SL) (K : Nat) (T : Nat → GM) (e : Ending) (w' : World) : Prop :=
  ∃ (sa : Option Addr) (kc : Nat) (na : Option Addr) (nc : Nat) (U : Nat → GM) (mid hi : Nat), e = .returned (.agg #[.int .i64 te, .int .i64 qu, .int .i64 ha, .slice sa M kc, .slice na K nc]) ∧ PVO w' W.heap.size mid sa M S ∧ NVO w' mid hi na K U ∧ W.heap.size ≤ mid ∧ mid ≤ hi ∧ hi ≤ w'.heap.size ∧ (∀ i, i < K → GSame (T i) (U i)) ∧ Below W.heap.size W w'

set_option maxRecDepth 100000 in
set_option maxHeartbeats 1600000 in
theorem toMachineO_any (te qu ha : Int) (sa : Option Addr) (M kc : Nat) (S : Nat → SL) (na : Option Addr) (K nc : Nat) (T : Nat → GM) (w : World) (hp : PV w sa M S) (hg : NV w na K T) (hM : M ≤ 1048576) (hK : K ≤ 1048576) (hn : ∀ i, i < K → (T i).n ≤ 1048576) :
    Calls Try.prog 44 #[.agg #[.int .i64 te, .int .i64 qu, .int .i64 ha, .slice sa M kc, .slice na K nc]] w (RetTMO w te qu ha M S K T) := by
  have P0 := Lib.hid hp; have G := Lib.hid hg; have HN := Lib.hid hn
  clear hp hg hn
  go_enter Try.func44, Try.ntmps44
  go_wp2_with fail
  refine (toSlotS_any sa M kc S _ (((P0.out.alloc _).alloc _).alloc _) hM).mono ?_
  rintro e w1 ⟨sa', kc', rfl, ho, hb⟩
  have A_1 := Lib.hid ((((Blk.new_at (w := w) (cs := #[.int .i64 te, .int .i64 qu, .int .i64 ha, .slice sa M kc, .slice na K nc]) (t := 70) w.heap.size rfl).alloc _).alloc _).below hb)
  have R_1 := Lib.hid (((Blk.new_at (w := w.alloc (.cells #[.int .i64 te, .int .i64 qu, .int .i64 ha, .slice sa M kc, .slice na K nc] 70)) (cs := #[.int .i64 0, .int .i64 0, .int .i64 0, .slice none 0 0, .slice none 0 0]) (t := 54) (w.heap.size + 1) (by simp)).alloc _).below hb)
  have O_1 := Lib.hid ((Blk.new_at (w := (w.alloc (.cells #[.int .i64 te, .int .i64 qu, .int .i64 ha, .slice sa M kc, .slice na K nc] 70)).alloc (.cells #[.int .i64 0, .int .i64 0, .int .i64 0, .slice none 0 0, .slice none 0 0] 54)) (cs := #[.int .i64 te, .int .i64 qu, .int .i64 ha, .slice none 0 0, .slice none 0 0]) (t := 54) (w.heap.size + 2) (by simp)).below hb)
  have HB1 := Lib.hid (((((Below.refl w.heap.size w).alloc (Nat.le_refl _) _).alloc (by simp) _).alloc (by simp; omega) _).trans (hb.mono (by simp; omega)))
  have z1 : w.heap.size + 3 ≤ w1.heap.size := by have := hb.size; simp at this; omega
  have HO1 := Lib.hid (ho.widen (lo' := w.heap.size + 3) (by simp) (Nat.le_refl _))
  clear hb ho P0
  have cA0 := A_1.out.at 0 rfl; have fA0 := A_1.out.free 0 rfl; have cA1 := A_1.out.at 1 rfl; have fA1 := A_1.out.free 1 rfl; have cA2 := A_1.out.at 2 rfl; have fA2 := A_1.out.free 2 rfl; have cA3 := A_1.out.at 3 rfl; have fA3 := A_1.out.free 3 rfl; have cA4 := A_1.out.at 4 rfl; have fA4 := A_1.out.free 4 rfl; have lA := A_1.out.1
  have cR0 := R_1.out.at 0 rfl; have fR0 := R_1.out.free 0 rfl; have cR1 := R_1.out.at 1 rfl; have fR1 := R_1.out.free 1 rfl; have cR2 := R_1.out.at 2 rfl; have fR2 := R_1.out.free 2 rfl; have cR3 := R_1.out.at 3 rfl; have fR3 := R_1.out.free 3 rfl; have cR4 := R_1.out.at 4 rfl; have fR4 := R_1.out.free 4 rfl; have lR := R_1.out.1
  have cO0 := O_1.out.at 0 rfl; have fO0 := O_1.out.free 0 rfl; have cO1 := O_1.out.at 1 rfl; have fO1 := O_1.out.free 1 rfl; have cO2 := O_1.out.at 2 rfl; have fO2 := O_1.out.free 2 rfl; have cO3 := O_1.out.at 3 rfl; have fO3 := O_1.out.free 3 rfl; have cO4 := O_1.out.at 4 rfl; have fO4 := O_1.out.free 4 rfl; have lO := O_1.out.1
  go_wp2_with fail
  obtain ⟨ws, hws⟩ : ∃ ws, ws = w1.setCell ⟨w.heap.size + 1 + 1, 3, none⟩ (.slice sa' M kc') := ⟨_, rfl⟩
  have hkw : Keeps w1 ws (w.heap.size + 2) (w.heap.size + 2 + 1) := by rw [hws]; exact keeps_setCell (p := ⟨w.heap.size + 1 + 1, 3, none⟩) (Nat.le_refl _) (Nat.lt_succ_self _) _
  have HBs : Hid (Below w.heap.size w ws) := Lib.hid (HB1.out.trans (hkw.below (by omega) HB1.out.size))
  have O_s : Hid (Blk ws (w.heap.size + 2) [.int .i64 te, .int .i64 qu, .int .i64 ha, .slice sa' M kc', .slice none 0 0]) := Lib.hid (by rw [hws]; exact O_1.out.set 3 (by simp) _)
  have A_s := Lib.hid (A_1.out.keeps hkw (.inl (by omega)))
  have R_s := Lib.hid (R_1.out.keeps hkw (.inl (by omega)))
  have HOs := Lib.hid (HO1.out.keeps hkw (.inr (by omega)))
  have Gs := Lib.hid (G.out.below HBs.out)
  have zws : ws.heap.size = w1.heap.size := by rw [hws]; simp
  have zs : w.heap.size + 3 ≤ ws.heap.size := by have := hkw.size; omega
  rw [← hws]
  clear hws hkw O_1 R_1 A_1 HB1 HO1 G cA0 fA0 cA1 fA1 cA2 fA2 cA3 fA3 cA4 fA4 cR0 fR0 cR1 fR1 cR2 fR2 cR3 fR3 cR4 fR4 cO0 fO0 cO1 fO1 cO2 fO2 cO3 fO3 cO4 fO4 lA lR lO
  refine (toNodeS_any na K nc T _ Gs.out hK HN.out).mono ?_
  rintro e w2 ⟨na', nc', U, rfl, hno, hsm, hb⟩
  have HB2 := Lib.hid (thru0 HBs.out hb)
  have O_1 := Lib.hid (O_s.out.below hb); have R_1 := Lib.hid (R_s.out.below hb)
  have HO2 := Lib.hid ((HOs.out.below hb).widen (Nat.le_refl _) (Nat.le_refl _)); have HNO := Lib.hid hno; have HSM := Lib.hid hsm
  have z2 : w.heap.size + 3 ≤ w2.heap.size := by have := hb.size; omega
  have hz2 : ws.heap.size ≤ w2.heap.size := hb.size
  clear hb hno hsm O_s R_s HBs HOs Gs A_s
  have cR0 := R_1.out.at 0 rfl; have fR0 := R_1.out.free 0 rfl; have cR1 := R_1.out.at 1 rfl; have fR1 := R_1.out.free 1 rfl; have cR2 := R_1.out.at 2 rfl; have fR2 := R_1.out.free 2 rfl; have cR3 := R_1.out.at 3 rfl; have fR3 := R_1.out.free 3 rfl; have cR4 := R_1.out.at 4 rfl; have fR4 := R_1.out.free 4 rfl; have lR := R_1.out.1
  have cO0 := O_1.out.at 0 rfl; have fO0 := O_1.out.free 0 rfl; have cO1 := O_1.out.at 1 rfl; have fO1 := O_1.out.free 1 rfl; have cO2 := O_1.out.at 2 rfl; have fO2 := O_1.out.free 2 rfl; have cO3 := O_1.out.at 3 rfl; have fO3 := O_1.out.free 3 rfl; have cO4 := O_1.out.at 4 rfl; have fO4 := O_1.out.free 4 rfl; have lO := O_1.out.1
  go_wp2
  refine bodyPost_ret (v := .agg #[.int .i64 te, .int .i64 qu, .int .i64 ha, .slice sa' M kc', .slice na' K nc']) (by simp [results, Try.results44, go_sem, cR0, cR1, cR2, cR3, cR4]) rfl ⟨sa', kc', na', nc', U, ws.heap.size, w2.heap.size, rfl, ?_, ?_, by omega, hz2, by simp, HSM.out, ?_⟩
  · refine (PVO.keeps (lo' := w.heap.size + 1) (hi' := w.heap.size + 3) HO2.out ?_ (.inr (by omega))).widen (by omega) (by omega)
    repeat (refine Keeps.trans ?_ (keeps_setCell (by (try simp); (try omega)) (by (try simp); (try omega)) _))
    exact Keeps.refl _ _ _
  · refine (NVO.keeps (lo' := w.heap.size + 1) (hi' := w.heap.size + 3) HNO.out ?_ (.inr (by omega)))
    repeat (refine Keeps.trans ?_ (keeps_setCell (by (try simp); (try omega)) (by (try simp); (try omega)) _))
    exact Keeps.refl _ _ _
  · repeat (with_reducible refine Below.setCell ?_ (by (try simp); (try omega)) _)
    exact HB2.out
end Go.Proofs.Ytaenbjilcgpgcaa

namespace Go.Proofs.Ytaenbjilcgpgcaa
open Go.RowKit
set_option linter.unusedVariables false

set_option maxRecDepth 100000 in
set_option maxHeartbeats 800000 in
theorem cloneSl_any (a : Option Addr) (n cap : Nat) (S : Nat → SL) (w : World) (hs : PV w a n S) (hp : 0 < n) (hn : n ≤ 1048576) :
    Calls Try.prog 156 #[.slice a n cap] w (RetSlots w n S) := by
  obtain ⟨i0, hi, hz0, hz1, hz2⟩ := info_parts Try.infoSL
  obtain ⟨b, q, rfl, hg⟩ : ∃ b q, a = some ⟨b, q, none⟩ ∧ PSrc w b q n S := by
    rcases hs with h | h
    · omega
    · exact h
  have HC := Lib.hid (pv_news (hg.below ((Below.refl w.heap.size w).alloc (Nat.le_refl _) (.cells #[] 131))))
  have hnil := fun (w : World) (a : Option Addr) (n c : Nat) => Lib.run_eql_slice_nil (P := Try.prog) w 51 131 a n c 0 0 Try.underlyingRSL
  clear hs hg
  go_enter Try.func156, Try.ntmps156
  go_wp2_with (at_builtin; refine wpList_append_own _ rfl _ _ 51 rfl w.heap.size 131 i0 (.agg #[.int .i64 0, .int .i64 0]) 2 16 Try.underlyingRSL hi hz0 hz1 hz2 rfl (by decide) _ 0 [] rfl (World.ownsRow_lit w #[] 0 (Nat.le_refl _) (by simp [maxLen]) rfl) ⟨b, q, none⟩ n cap (slC S n) rfl (by rw [slC_len]) HC.out (slC_one S n) (by unfold maxLen; omega) (by omega) (by simp) ?_; intro v' w1 hown hgrow _)
  go_ret
  obtain ⟨a', c', rfl, hpo, _, _⟩ := slC_PVO (S := S) (by simpa using hown)
  exact ⟨a', c', rfl, hpo, ((Below.refl _ _).alloc (Nat.le_refl _) _).grown hgrow (by simp) (by intro k hk; cases hk; exact Nat.le_refl _)⟩
end Go.Proofs.Ytaenbjilcgpgcaa

namespace Go.Proofs.Ytaenbjilcgpgcaa
open Go.RowKit Go.Maps
set_option linter.unusedVariables false

/-- A node with its new number. -/
def RetRn (W : World) (R : List Int) (t : GM) (e : Ending) (w' : World) : Prop :=
  ∃ a c, e = .returned (.agg #[.int .i64 (nmM R t.at_), .int .i64 t.s, .int .i64 t.m, .int .i64 t.h, .slice a t.n c]) ∧ Own w' W.heap.size a t.n (tdF R t) ∧ Below W.heap.size W w'

theorem MapT.num {w : World} {b n : Nat} {R : List Int} {p : Int} (h : MapT w b n R nv1) (hp : -1000000000 ≤ p ∧ p ≤ 1000000000) : (Instr.lookup 83 (.map (some b)) (.int .i64 p) false).run Try.prog w = .ok (.int .i64 (nmM R p)) w := by
  have := h.look hp
  rw [show (tab R nv1 p).getD 0 = nmM R p from tab_nmM R p] at this
  exact this

set_option maxRecDepth 100000 in
set_option maxHeartbeats 3200000 in
theorem renumbered_any (t : GM) (mb nn : Nat) (R : List Int) (w : World) (hm : MapT w mb nn R nv1) (hs : Src w t.a t.n t.f) (hk : IsNode t 0) :
    Calls Try.prog 93 #[.agg #[.int .i64 t.at_, .int .i64 t.s, .int .i64 t.m, .int .i64 t.h, .slice t.a t.n t.c], .map (some mb)] w (RetRn w R t) := by
  obtain ⟨⟨hid, hok⟩, hsz, hwd⟩ := isNode_zero hk
  have hn12 : t.n ≤ 12 := by have := hok.1.2; omega
  obtain ⟨ta, hta⟩ : ∃ ta, t.a = ta := ⟨_, rfl⟩
  rw [hta] at hs ⊢
  have HTA := Lib.hid hta
  clear hta
  have X0 := Lib.hid ((Blk.new_at (w := w) (cs := #[.int .i64 t.at_, .int .i64 t.s, .int .i64 t.m, .int .i64 t.h, .slice ta t.n t.c]) (t := 133) w.heap.size rfl).alloc (.cells #[.int .i64 0, .int .i64 0, .int .i64 0, .int .i64 0, .slice none 0 0] 133))
  have Z0 := Lib.hid (Blk.new_at (w := w.alloc (.cells #[.int .i64 t.at_, .int .i64 t.s, .int .i64 t.m, .int .i64 t.h, .slice ta t.n t.c] 133)) (cs := #[.int .i64 0, .int .i64 0, .int .i64 0, .int .i64 0, .slice none 0 0]) (t := 133) (w.heap.size + 1) (by simp))
  have HB0 := Lib.hid (((Below.refl w.heap.size w).alloc (Nat.le_refl _) (.cells #[.int .i64 t.at_, .int .i64 t.s, .int .i64 t.m, .int .i64 t.h, .slice ta t.n t.c] 133)).alloc (by simp) (.cells #[.int .i64 0, .int .i64 0, .int .i64 0, .int .i64 0, .slice none 0 0] 133))
  have z0 : w.heap.size + 2 ≤ ((w.alloc (.cells #[.int .i64 t.at_, .int .i64 t.s, .int .i64 t.m, .int .i64 t.h, .slice ta t.n t.c] 133)).alloc (.cells #[.int .i64 0, .int .i64 0, .int .i64 0, .int .i64 0, .slice none 0 0] 133)).heap.size := by simp
  have M0 := Lib.hid (hm.below HB0.out)
  have S0 := Lib.hid (hs.below HB0.out)
  have HOK := Lib.hid hok; have HSZ := Lib.hid hsz; have HWD := Lib.hid hwd; have HID := Lib.hid hid
  have lX := X0.out.1; have cX4 := X0.out.at 4 rfl
  clear hm hs hk hok hsz hwd hid
  go_enter Try.func93, Try.ntmps93
  go_wp2_with fail
  generalize (w.alloc (.cells #[.int .i64 t.at_, .int .i64 t.s, .int .i64 t.m, .int .i64 t.h, .slice ta t.n t.c] 133)).alloc (.cells #[.int .i64 0, .int .i64 0, .int .i64 0, .int .i64 0, .slice none 0 0] 133) = w0 at *
  refine (clone_opt ta t.n t.c t.f _ S0.out (by omega)).mono ?_
  rintro e w1 ⟨a5, c5, rfl, ho, hb, -, -, -⟩
  have HB1 : Hid (Below w0.heap.size w0 w1) := Lib.hid hb
  have HO1 : Hid (Own w1 w0.heap.size a5 t.n (rnU R t 0)) := Lib.hid (ho.congr (fun k hk => by unfold rnU; rw [if_neg (by omega)]))
  have X1 := Lib.hid (X0.out.below hb)
  clear ho hb lX cX4
  have lX := X1.out.1; have cX4 := X1.out.at 4 rfl
  go_wp2
  clear lX cX4 X1
  go_loopw [14] (fun p wr => ∃ i : Nat, i ≤ t.n ∧ p = .int .i64 (i : Int) ∧ Hid (Below w0.heap.size w0 wr) ∧ Hid (Own wr w0.heap.size a5 t.n (rnU R t i))) (fun p _ => t.n - (intOf p).toNat)
  case atStart => exact ⟨0, Nat.zero_le _, rfl, HB1, HO1⟩
  case round =>
    clear HB1 HO1
    obtain ⟨i, hi, rfl, HB, HO⟩ := hrel
    have hzr := HB.out.size
    have XR := Lib.hid (X0.out.below HB.out)
    by_cases hlt : i < t.n
    · have hlt' : (i : Int) < (t.n : Int) := by omega
      have hi0 : (0 : Int) ≤ (i : Int) := by omega
      have hls : (i : Int) < t.s := by have := HSZ.out; omega
      have lX := XR.out.1; have cX0 := XR.out.at 0 rfl; have cX1 := XR.out.at 1 rfl; have cX2 := XR.out.at 2 rfl; have cX3 := XR.out.at 3 rfl; have cX4 := XR.out.at 4 rfl
      obtain ⟨sb, so, rfl, lsb, hsc⟩ := src_some (S0.out.below HB.out) (by omega)
      have s0 := hsc i hlt
      have hw := HWD.out i hlt
      have HTD : Hid (tdF R t i = if t.m / P2 (i : Int) % 2 = 1 then nmM R (t.f i) else t.f i) := Lib.hid rfl
      obtain ⟨y, hy⟩ : ∃ y, t.f i = y := ⟨_, rfl⟩
      have HY := Lib.hid hy
      rw [hy] at s0 hw HTD
      have HW := Lib.hid hw
      clear hsc hy hw
      go_wp2_with fail
      refine (headOf_any ⟨t.at_, t.s, t.m, 0, t.h, some ⟨sb, so, none⟩, t.n, t.c, t.f⟩ _).mono ?_
      rintro e w2 ⟨rfl, hb⟩
      have HB2 := Lib.hid (thru0 HB.out hb)
      have HO2 := Lib.hid (HO.out.below hb)
      clear hb lX cX0 cX1 cX2 cX3 cX4 s0 lsb XR HB HO
      go_wp2_with fail
      refine (implIP_in t.s t.m 0 t.h (i : Int) _ HOK.out ⟨hi0, by omega⟩).mono ?_
      rintro e w3 ⟨rfl, hb⟩
      have HB3 := Lib.hid (thru0 HB2.out hb)
      have HO3 := Lib.hid (HO2.out.below hb)
      have hz3 := HB3.out.size
      clear hb HO2 HB2
      by_cases hp : t.m / P2 (i : Int) % 2 = 1
      · have hp' : (t.m / P2 (i : Int) % 2 == 1) = true := by simpa using hp
        have HTV : Hid (tdF R t i = nmM R y) := Lib.hid (HTD.out.trans (if_pos hp))
        have hlk := (M0.out.below HB3.out).num (p := y) HW.out
        generalize nmM R y = z at *
        obtain ⟨g, o5, rfl, hgl, hgs, hgc⟩ : ∃ g o5, a5 = some ⟨g, o5, none⟩ ∧ w0.heap.size ≤ g ∧ g < w3.heap.size ∧ ∀ k, k < t.n → w3.cell? ⟨g, o5 + k, none⟩ = some (.int .i64 (rnU R t i k)) ∧ w3.frozen? ⟨g, o5 + k, none⟩ = false := by
          rcases HO3.out with h0 | h0
          · omega
          · exact h0
        have d0 := (hgc i hlt).1; have d1 := (hgc i hlt).2
        have hst := OwnIn.stored HO3.out.into i hlt z
        have HST := Lib.hid hst
        clear hp hgc hst
        go_wp2
        have HB4 : Hid (Below w0.heap.size w0 (w3.setCell ⟨g, o5 + i, none⟩ (.int .i64 z))) := Lib.hid (HB3.out.setCell hgl _)
        have HO4 : Hid (Own (w3.setCell ⟨g, o5 + i, none⟩ (.int .i64 z)) w0.heap.size (some ⟨g, o5, none⟩) t.n (rnU R t (i + 1))) := Lib.hid ((ownIn_own HST.out.1).congr fun k _ => rnU_step HTV.out k)
        go_roundw
        case rel => first | exact ⟨i + 1, by omega, by go_num, HB4, HO4⟩ | ((repeat apply Exists.intro); exact ⟨⟨i + 1, by omega, by go_num, HB4, HO4⟩, rfl⟩)
        case measure => simp [intOf]; omega
      · have hp' : (t.m / P2 (i : Int) % 2 == 1) = false := by simpa using hp
        have HTV : Hid (tdF R t i = t.f i) := Lib.hid (by rw [HY.out]; exact HTD.out.trans (if_neg hp))
        have HO4 : Hid (Own w3 w0.heap.size a5 t.n (rnU R t (i + 1))) := Lib.hid (HO3.out.congr fun k _ => rnU_skip HTV.out k)
        clear hp
        go_wp2
        go_roundw
        case rel => first | exact ⟨i + 1, by omega, by go_num, HB3, HO4⟩ | ((repeat apply Exists.intro); exact ⟨⟨i + 1, by omega, by go_num, HB3, HO4⟩, rfl⟩)
        case measure => simp [intOf]; omega
    · have hlt' : ¬ (i : Int) < (t.n : Int) := by omega
      obtain rfl : i = t.n := by omega
      have HOF : Hid (Own wr w0.heap.size a5 t.n (tdF R t)) := Lib.hid (HO.out.congr fun k hk => by unfold rnU; rw [if_pos hk])
      have Z_r := Lib.hid (Z0.out.below HB.out)
      have hlk := (M0.out.below HB.out).num (p := t.at_) (by have := HID.out; omega)
      have HFIN := Lib.hid HB.out
      obtain ⟨z, hz⟩ : ∃ z, nmM R t.at_ = z := ⟨_, rfl⟩
      rw [hz] at hlk
      have HZ := Lib.hid hz
      clear hz
      have lX := XR.out.1; have cX0 := XR.out.at 0 rfl; have cX1 := XR.out.at 1 rfl; have cX2 := XR.out.at 2 rfl; have cX3 := XR.out.at 3 rfl; have cX4 := XR.out.at 4 rfl; have fX0 := XR.out.free 0 rfl; have fX4 := XR.out.free 4 rfl
      have lZ := Z_r.out.1; have cZ0 := Z_r.out.at 0 rfl; have cZ1 := Z_r.out.at 1 rfl; have cZ2 := Z_r.out.at 2 rfl; have cZ3 := Z_r.out.at 3 rfl; have cZ4 := Z_r.out.at 4 rfl; have fZ0 := Z_r.out.free 0 rfl; have fZ1 := Z_r.out.free 1 rfl; have fZ2 := Z_r.out.free 2 rfl; have fZ3 := Z_r.out.free 3 rfl; have fZ4 := Z_r.out.free 4 rfl
      clear XR Z_r HO
      go_wp2
      refine bodyPost_ret (v := .agg #[.int .i64 z, .int .i64 t.s, .int .i64 t.m, .int .i64 t.h, .slice a5 t.n c5]) (by simp [results, Try.results93, go_sem, cZ0, cZ1, cZ2, cZ3, cZ4]) rfl ⟨a5, c5, by rw [HZ.out], ?_, ?_⟩
      · refine Own.mono (B := w.heap.size + 2) ?_ (by omega)
        repeat (first | (with_reducible refine Own.setCell ?_ (by (try simp); (try omega)) _) | (with_reducible refine Own.alloc ?_ _) | (with_reducible refine Own.drew ?_))
        exact HOF.out.mono z0
      · repeat (first | (with_reducible refine Below.setCell ?_ (by (try simp); (try omega)) _) | (with_reducible refine Below.alloc ?_ (by (try simp); (try omega)) _) | (with_reducible refine Below.drew ?_))
        exact HB0.out.trans (HFIN.out.mono HB0.out.size)

theorem pown_nd {w : World} {lo hi b q N i : Nat} {U : Nat → SL} (h : POwn w lo hi b q N U) (hi' : i < N) (v : Int) : POwn (w.setCell ⟨b, q + i * 2 + 1, none⟩ (.int .i64 v)) lo hi b q N (fun j => if j = i then ⟨(U i).g, v⟩ else U j) ∧ Keeps w (w.setCell ⟨b, q + i * 2 + 1, none⟩ (.int .i64 v)) lo hi := by
  have h1 := h.glo; have h2 := h.ghi
  refine ⟨⟨h.glo, h.ghi, by simpa using h.lt, fun j hj => ?_, fun j hj => ?_⟩, (keeps_setCell (p := ⟨b, q + i * 2 + 1, none⟩) (Nat.le_refl b) (Nat.lt_succ_self b) _).widen h1 (by omega)⟩
  · obtain ⟨c0, c1⟩ := h.two j hj
    by_cases e : j = i
    · subst e
      simp only [if_true]
      exact ⟨(World.cell?_setCell_other _ _ _ _ (by simp)).trans c0, World.cell?_setCell_same' _ _ _ (by rw [c1]; rfl)⟩
    · simp only [if_neg e]
      exact ⟨(World.cell?_setCell_other _ _ _ _ (by simp <;> omega)).trans c0, (World.cell?_setCell_other _ _ _ _ (by simp <;> omega)).trans c1⟩
  · obtain ⟨f0, f1⟩ := h.free j hj
    exact ⟨by rw [World.frozen?_setCell]; exact f0, by rw [World.frozen?_setCell]; exact f1⟩

set_option maxRecDepth 100000 in
set_option maxHeartbeats 3200000 in
theorem renumSl_any (a : Option Addr) (M c mb nn : Nat) (S : Nat → SL) (R : List Int) (w : World) (hm : MapT w mb nn R nv1) (hp : PV w a M S) (hM : 0 < M) (hM8 : M ≤ 1000) (hs : ∀ i, i < M → -1000000000 ≤ (S i).nd ∧ (S i).nd ≤ 1000000000) :
    Calls Try.prog 94 #[.slice a M c, .map (some mb)] w (RetSlots w M (tdS R S)) := by
  have P := Lib.hid hp; have MP := Lib.hid hm; have HS := Lib.hid hs
  clear hp hm hs
  go_enter Try.func94, Try.ntmps94
  go_wp2_with fail
  refine (cloneSl_any a M c S _ P.out hM (by omega)).mono ?_
  rintro e w1 ⟨la, lc, rfl, ho, hb⟩
  have HB1 := Lib.hid hb
  obtain ⟨lb, lq, rfl, hpo⟩ : ∃ lb lq, la = some ⟨lb, lq, none⟩ ∧ POwn w1 w.heap.size w1.heap.size lb lq M S := by
    rcases ho with h | h
    · omega
    · exact h
  have HO1 : Hid (POwn w1 w.heap.size w1.heap.size lb lq M (fun j => if j < 0 then tdS R S j else S j)) := Lib.hid (hpo.congr fun j _ => by rw [if_neg (by omega)])
  have hlb1 := hpo.glo; have hlb2 := hpo.lt
  clear ho hb hpo
  go_wp2
  go_loopw [12] (fun p wr => ∃ i : Nat, i ≤ M ∧ p = .int .i64 (i : Int) ∧ Hid (Below w.heap.size w wr) ∧ w1.heap.size ≤ wr.heap.size ∧ Hid (POwn wr w.heap.size w1.heap.size lb lq M (fun j => if j < i then tdS R S j else S j))) (fun p _ => M - (intOf p).toNat)
  case atStart => exact ⟨0, Nat.zero_le _, rfl, HB1, Nat.le_refl _, HO1⟩
  case round =>
    clear HB1 HO1
    obtain ⟨i, hi, rfl, HB, hz1, HO⟩ := hrel
    have hzr := HB.out.size
    by_cases hlt : i < M
    · have hlt' : (i : Int) < (M : Int) := by omega
      have hi0 : (0 : Int) ≤ (i : Int) := by omega
      obtain ⟨pb, pq, rfl, lp, s0, s1⟩ := pv_get (P.out.below HB.out) hlt
      obtain ⟨g, hg⟩ : ∃ g, (S i).g = g := ⟨_, rfl⟩
      obtain ⟨y, hy⟩ : ∃ y, (S i).nd = y := ⟨_, rfl⟩
      have hyb := HS.out i hlt
      rw [hg] at s0
      rw [hy] at s1 hyb
      have HSI : Hid (tdS R S i = ⟨g, nmM R y⟩) := Lib.hid (by unfold tdS; rw [hg, hy])
      have HB2 := Lib.hid (HB.out.alloc hzr (.cells #[.int .i64 g, .int .i64 y] 131))
      have hO2 := HO.out.below ((Below.refl wr.heap.size wr).alloc (Nat.le_refl _) (.cells #[.int .i64 g, .int .i64 y] 131))
      have X_2 := Lib.hid (Blk.new_at (w := wr) (cs := #[.int .i64 g, .int .i64 y]) (t := 131) wr.heap.size rfl)
      have hlk := ((MP.out.below HB.out).alloc (.cells #[.int .i64 g, .int .i64 y] 131)).num (p := y) hyb
      have hz2 : w1.heap.size ≤ (wr.alloc (.cells #[.int .i64 g, .int .i64 y] 131)).heap.size := by simp; omega
      obtain ⟨z, hz⟩ : ∃ z, nmM R y = z := ⟨_, rfl⟩
      rw [hz] at hlk HSI
      have HST := Lib.hid (pown_nd hO2 hlt z)
      have hgi : (if i < i then tdS R S i else S i) = ⟨g, y⟩ := by rw [if_neg (Nat.lt_irrefl _), ← hg, ← hy]
      obtain ⟨t0, t1⟩ := hO2.two i hlt
      obtain ⟨f0, f1⟩ := hO2.free i hlt
      rw [hgi] at t0 t1
      have HGS := Lib.hid hg
      have hl2 := hO2.lt
      have cX0 := X_2.out.at 0 rfl; have cX1 := X_2.out.at 1 rfl; have lX := X_2.out.1
      clear hg hy hyb hz hO2 hgi
      go_wp2
      have HB4 : Hid (Below w.heap.size w ((wr.alloc (.cells #[.int .i64 g, .int .i64 y] 131)).setCell ⟨lb, lq + i * 2 + 1, none⟩ (.int .i64 z))) := Lib.hid (HB2.out.setCell hlb1 _)
      have hz4 : w1.heap.size ≤ ((wr.alloc (.cells #[.int .i64 g, .int .i64 y] 131)).setCell ⟨lb, lq + i * 2 + 1, none⟩ (.int .i64 z)).heap.size := by simpa using hz2
      have HO4 : Hid (POwn ((wr.alloc (.cells #[.int .i64 g, .int .i64 y] 131)).setCell ⟨lb, lq + i * 2 + 1, none⟩ (.int .i64 z)) w.heap.size w1.heap.size lb lq M (fun j => if j < i + 1 then tdS R S j else S j)) := Lib.hid (HST.out.1.congr fun j hj => by
        by_cases e : j = i
        · subst e
          rw [if_pos rfl, if_pos (Nat.lt_succ_self _), if_neg (Nat.lt_irrefl _), HGS.out, HSI.out]
        · rw [if_neg e]
          by_cases h2 : j < i
          · rw [if_pos h2, if_pos (by omega)]
          · rw [if_neg h2, if_neg (by omega)])
      go_roundw
      case rel => first | exact ⟨i + 1, by omega, by go_num, HB4, hz4, HO4⟩ | ((repeat apply Exists.intro); exact ⟨⟨i + 1, by omega, by go_num, HB4, hz4, HO4⟩, rfl⟩)
      case measure => simp [intOf]; omega
    · have hlt' : ¬ (i : Int) < (M : Int) := by omega
      obtain rfl : i = M := by omega
      have HOF := Lib.hid ((HO.out.widen (lo' := w.heap.size) (hi' := wr.heap.size) (Nat.le_refl _) hz1).congr (U := tdS R S) fun j hj => by rw [if_pos hj])
      go_wp2
      go_ret
      exact ⟨_, lc, rfl, .inr ⟨lb, lq, rfl, HOF.out⟩, HB.out⟩
end Go.Proofs.Ytaenbjilcgpgcaa

namespace Go.Proofs.Ytaenbjilcgpgcaa
open Go.RowKit Go.Maps
set_option linter.unusedVariables false

set_option maxRecDepth 100000 in
set_option maxHeartbeats 3200000 in
theorem implTM_any (te qu ha : Int) (sa : Option Addr) (M kc : Nat) (S : Nat → SL) (na : Option Addr) (K nc : Nat) (T : Nat → GM) (c te' qu' ha' : Int) (M' : Nat) (S' : Nat → SL) (N' : Nat) (V : Nat → GM) (w : World)
    (hp : PV w sa M S) (hg : NV w na K T) (hM : M ≤ 1048576) (hK : K ≤ 1048576) (hn : ∀ i, i < K → (T i).n ≤ 1048576) (hk : IsTM te qu ha M S K T c te' qu' ha' M' S' N' V) :
    Calls Try.prog 34 #[.agg #[.int .i64 te, .int .i64 qu, .int .i64 ha, .slice sa M kc, .slice na K nc]] w (RetTMR w c te' qu' ha' M' S' N' V) := by
  obtain ⟨hmf, htm⟩ := hk
  have P0 := Lib.hid hp; have G0 := Lib.hid hg; have HN := Lib.hid hn; have HK := Lib.hid hmf; have HTM := Lib.hid htm
  obtain ⟨j0, hif, hj0, hj1, hj2⟩ := info_parts Try.infoND
  have HB0 := Lib.hid (((Below.refl w.heap.size w).alloc (Nat.le_refl _) (.cells #[.int .i64 te, .int .i64 qu, .int .i64 ha, .slice sa M kc, .slice na K nc] 54)).alloc (by simp) (.cells #[.int .i64 0, .int .i64 0, .int .i64 0, .int .i64 0, .slice none 0 0, .slice none 0 0] 56))
  have A_0 := Lib.hid ((Blk.new_at (w := w) (cs := #[.int .i64 te, .int .i64 qu, .int .i64 ha, .slice sa M kc, .slice na K nc]) (t := 54) w.heap.size rfl).alloc (.cells #[.int .i64 0, .int .i64 0, .int .i64 0, .int .i64 0, .slice none 0 0, .slice none 0 0] 56))
  have R_0 := Lib.hid (Blk.new_at (w := w.alloc (.cells #[.int .i64 te, .int .i64 qu, .int .i64 ha, .slice sa M kc, .slice na K nc] 54)) (cs := #[.int .i64 0, .int .i64 0, .int .i64 0, .int .i64 0, .slice none 0 0, .slice none 0 0]) (t := 56) (w.heap.size + 1) (by simp))
  clear hp hg hn hmf htm
  go_enter Try.func34, Try.ntmps34
  go_wp2_with fail
  refine (implMF_any te qu ha sa M kc S na K nc T c _ (P0.out.below HB0.out) (G0.out.below HB0.out) hM hK HN.out HK.out).mono ?_
  rintro e w1 ⟨rfl, hb⟩
  have HB1 := Lib.hid (thru0 HB0.out hb)
  have A_1 := Lib.hid (A_0.out.below hb); have R_1 := Lib.hid (R_0.out.below hb)
  have z1 : w.heap.size + 2 ≤ w1.heap.size := by have := R_1.out.1; omega
  clear hb A_0 R_0 HB0
  by_cases h0 : c = 0
  · subst h0
    have HOK := Lib.hid (isMF_zero HK.out)
    have htm : te' = te ∧ qu' = qu ∧ ha' = ha ∧ M' = M ∧ S' = tdS (reachM M S K T) S ∧ N' = (reachM M S K T).length ∧ ∀ i, i < N' → TSame (tdT (reachM M S K T) K T i) (V i) := by
      rcases HTM.out with ⟨_, h⟩ | ⟨h, _⟩
      · exact h
      · exact absurd rfl h
    obtain ⟨e1, e2, e3, e4, e5, e6, e7⟩ := htm
    have E1 := Lib.hid e1; have E2 := Lib.hid e2; have E3 := Lib.hid e3; have E4 := Lib.hid e4; have E5 := Lib.hid e5; have E6 := Lib.hid e6; have E7 := Lib.hid e7
    clear e1 e2 e3 e4 e5 e6 e7 HTM
    have a0 := A_1.out.at 0 rfl; have a1 := A_1.out.at 1 rfl; have a2 := A_1.out.at 2 rfl; have a3 := A_1.out.at 3 rfl; have a4 := A_1.out.at 4 rfl; have lA := A_1.out.1
    go_wp2_with fail
    refine (reachFS_any te qu ha sa M kc S na K nc T _ (P0.out.below HB1.out) (G0.out.below HB1.out) HOK.out).mono ?_
    rintro e w2 ⟨ra, rc, mb, rfl, hpr, hmp, hb, hmbw⟩
    have HB2 := Lib.hid (thru0 HB1.out hb)
    have R_2 := Lib.hid (R_1.out.below hb); have A_2 := Lib.hid (A_1.out.below hb)
    have HPR := Lib.hid hpr; have HMP := Lib.hid hmp
    have z2 : w.heap.size + 2 ≤ w2.heap.size := by have := hb.size; omega
    have HHAS : Hid (∀ x ∈ reachM M S K T, Has K T x) := Lib.hid (fun x hx => reachM_has HOK.out.lead hx)
    have HNDP := Lib.hid (reachM_nodup M S K T)
    have HND : Hid (∀ i, i < K → IsNode (T i) 0) := Lib.hid HOK.out.node
    have HSB : Hid (∀ i, i < M → -1000000000 ≤ (S i).nd ∧ (S i).nd ≤ 1000000000) := Lib.hid (fun i hi => by have := (HOK.out.slot i hi).2; omega)
    have hM1 : 0 < M := by have := HOK.out.len.1.1; omega
    have hM8 : M ≤ 1000 := by have := HOK.out.len.1.2; omega
    have hrl : (reachM M S K T).length ≤ 150 := by have := reachM_len HOK.out.lead; have := HOK.out.len.2.2; omega
    clear hb hpr hmp A_1 R_1 HB1 a0 a1 a2 a3 a4 lA HOK HK
    generalize reachM M S K T = R at *
    have Q_3 := Lib.hid (Blk.new_at (w := w2) (cs := #[.slice ra R.length rc, .map (some mb)]) (t := 141) w2.heap.size rfl)
    have HB3 := Lib.hid (HB2.out.alloc HB2.out.size (.cells #[.slice ra R.length rc, .map (some mb)] 141))
    have R_3 := Lib.hid (R_2.out.alloc (.cells #[.slice ra R.length rc, .map (some mb)] 141)); have A_3 := Lib.hid (A_2.out.alloc (.cells #[.slice ra R.length rc, .map (some mb)] 141))
    have HPR3 := Lib.hid (HPR.out.below ((Below.refl w2.heap.size w2).alloc (Nat.le_refl _) (.cells #[.slice ra R.length rc, .map (some mb)] 141)))
    have HMP3 := Lib.hid (HMP.out.alloc (.cells #[.slice ra R.length rc, .map (some mb)] 141))
    have z3 : (w2.alloc (.cells #[.slice ra R.length rc, .map (some mb)] 141)).heap.size = w2.heap.size + 1 := by simp
    have q0 := Q_3.out.at 0 rfl; have q1 := Q_3.out.at 1 rfl; have lQ := Q_3.out.1
    go_wp2
    clear HPR HMP A_2 R_2 HB2 q0 q1 lQ
    generalize w2.alloc (.cells #[.slice ra R.length rc, .map (some mb)] 141) = w3 at *
    generalize w2.heap.size = Q0 at *
    go_loopw [5, 19] (fun u p wr => ∃ (i : Nat) (L : List GM), i ≤ R.length ∧ p = .int .i64 (i : Int) ∧ L.length = i ∧ Hid (Below w3.heap.size w3 wr) ∧ Hid (wr.ownsRow w3.heap.size 133 5 u L.length (rowN L)) ∧ Hid (FldG wr w3.heap.size u L) ∧ Hid (∀ k t, L[k]? = some t → TSame (tdT R K T k) t ∧ t.o = 0)) (fun _ p _ => R.length - (intOf p).toNat)
    case atStart => exact ⟨0, [], Nat.zero_le _, rfl, rfl, Below.refl _ _, World.ownsRow_nil _ _ _ _, Lib.hid ⟨fun t ht => (by cases ht), List.Pairwise.nil⟩, Lib.hid (fun k t ht => by simp at ht)⟩
    case round =>
      obtain ⟨i, L, hi, rfl, hLl, HB_r, OW_r, FL_r, SM_r⟩ := hrel
      have hzr := HB_r.out.size
      have hL4 : L.length ≤ 150 := by omega
      have HLL := Lib.hid hLl
      obtain ⟨av, kv, hv, -, -, -⟩ := row_shape2 OW_r.out
      subst hv
      by_cases hlt : i < R.length
      · have hlt' : (i : Int) < (R.length : Int) := by omega
        have hi0 : (0 : Int) ≤ (i : Int) := by omega
        have hhas := HHAS.out _ (lf_mem hlt)
        obtain ⟨rb, ro, b, q, x, rfl, rfl, hxK, hxa, hnx, d0, lr, lb, ⟨x0, x1, x2, x3, x4⟩, hsr⟩ := pr_get (HPR3.out.below HB_r.out) (G0.out.below (thru0 HB3.out HB_r.out)) hlt hhas
        have HNX := Lib.hid (HND.out x hxK)
        have HZ : Hid (nmM R (T x).at_ = (i : Int) + 1) := Lib.hid (by rw [hxa]; exact nmM_lf HNDP.out hlt)
        have HSR := Lib.hid hsr
        have HNXX := Lib.hid hnx
        have Q_r := Lib.hid (Q_3.out.below HB_r.out)
        have MP_r := Lib.hid (HMP3.out.below HB_r.out)
        have hlow : Hid (∀ k, (Value.slice av L.length kv).ownBlock = some k → k < wr.heap.size) := Lib.hid (fun k hk => (OW_r.out.lt k hk).2)
        have hge : Hid (∀ k, (Value.slice av L.length kv).ownBlock = some k → w3.heap.size ≤ k) := Lib.hid (fun k hk => (OW_r.out.lt k hk).1)
        obtain ⟨t, ht⟩ : ∃ t, T x = t := ⟨_, rfl⟩
        rw [ht] at x0 x1 x2 x3 x4 HSR HNX HZ HNXX
        clear hhas hxa hnx hsr ht hLl
        have q0 := Q_r.out.at 0 rfl; have q1 := Q_r.out.at 1 rfl; have lQ := Q_r.out.1
        go_wp2_with fail
        clear d0 lr
        have MP_d := Lib.hid MP_r.out.drew; have SR_d := Lib.hid HSR.out.drew; have HB_d := Lib.hid HB_r.out.drew
        have OW_d := Lib.hid (ownsRow_below OW_r.out (Below.refl _ _).drew)
        go_region_law (first | (go_simp; go_at_call 93; refine (renumbered_any t mb _ R _ MP_d.out SR_d.out HNX.out).mono ?_; rintro e w5 ⟨a5, c5, rfl, ho, hb⟩; have z5 : wr.heap.size ≤ w5.heap.size := (by have := hb.size; simpa using this); have HB5 := Lib.hid (HB_d.out.trans (hb.mono (by simp; omega))); have HBX := Lib.hid ((Below.refl wr.heap.size wr).drew.trans (hb.mono (by simp))); have OW5 := Lib.hid (ownsRow_below OW_d.out hb); have HO5 := Lib.hid ho; clear ho hb) | (refine step_append_lies _ rfl (.tmp 23) (.tmp 30) 52 rfl w3.heap.size 133 j0 _ 5 56 Try.underlyingRN hif hj0 hj1 hj2 rfl (by decide) (.slice av L.length kv) L.length (rowN L) rfl (OW5.out.alloc _) ⟨w5.heap.size, 0, none⟩ 1 1 (ncells ⟨nmM R t.at_, t.s, t.m, 0, t.h, a5, t.n, c5, tdF R t⟩) rfl rfl (cells_new5 w5 _) (node_one _) (by omega) (by unfold maxLen; omega) (by omega) (by simp; omega) (w5.heap.size + 1) (by simp) ?_; intro g9 cap9 w9 hown9 hgrow9 hat9 hlt9))
        all_goals (
          have HB9 : Hid (Below w3.heap.size w3 w9) := Lib.hid ((HB5.out.alloc (by omega) _).grown hgrow9 (by simp; omega) (fun k hk => hge.out k hk))
          have HX : Hid (TSame (tdT R K T L.length) ⟨nmM R t.at_, t.s, t.m, 0, t.h, a5, t.n, c5, tdF R t⟩) := Lib.hid (by rw [HLL.out]; exact nd_tdT HNXX.out HZ.out)
          have HBY := Lib.hid (HBX.out.alloc z5 (.cells #[.int .i64 (nmM R t.at_), .int .i64 t.s, .int .i64 t.m, .int .i64 t.h, .slice a5 t.n c5] 133))
          obtain ⟨X, hX⟩ : ∃ X : GM, X = ⟨nmM R t.at_, t.s, t.m, 0, t.h, a5, t.n, c5, tdF R t⟩ := ⟨_, rfl⟩
          have FL9 : Hid (FldG w9 w3.heap.size (.slice (some ⟨g9, 0, none⟩) (L.length + 1) cap9) (L ++ [X])) := Lib.hid (FldG.snoc2 X FL_r.out (by simp; omega) (fun b o hb _ => (HBY.out.block b (Array.getElem?_eq_some_iff.1 hb).1).trans hb) hgrow9 (by
            rcases hat9 with he | he
            · exact .inl he.symm
            · exact .inr ⟨g9, rfl, by simp; omega⟩) hzr (fun k hk => hlow.out k hk) (by rw [hX]; exact HO5.out.alloc _))
          have SM9 : Hid (∀ k t, (L ++ [X])[k]? = some t → TSame (tdT R K T k) t ∧ t.o = 0) := Lib.hid (fun k u hu => by
            rcases Nat.lt_or_ge k L.length with hk | hk
            · rw [List.getElem?_append_left hk] at hu
              exact SM_r.out k u hu
            · have hk' : k = L.length := (by have := (List.getElem?_eq_some_iff.mp hu).1; simp at this; omega)
              subst hk'
              rw [List.getElem?_append_right (Nat.le_refl _), Nat.sub_self] at hu
              have : X = u := (by simpa using hu)
              subst this
              rw [hX]
              exact ⟨HX.out, rfl⟩)
          have OW9 : Hid (w9.ownsRow w3.heap.size 133 5 (.slice (some ⟨g9, 0, none⟩) (L.length + 1) cap9) (L ++ [X]).length (rowN (L ++ [X]))) := Lib.hid (by
            rw [rowN_snoc, List.length_append, hX]; exact hown9)
          clear hown9 hgrow9 hat9 hX HX HBY HB5 HBX OW5 HO5 q0 q1 lQ x0 x1 x2 x3 x4 lb
          go_wp2
          go_roundw
          (case rel => first | exact ⟨i + 1, L ++ [X], by omega, by go_num, by rw [List.length_append, HLL.out]; rfl, HB9, OW9, FL9, SM9⟩ | ((repeat apply Exists.intro); exact ⟨⟨i + 1, L ++ [X], by omega, by go_num, by rw [List.length_append, HLL.out]; rfl, HB9, OW9, FL9, SM9⟩, rfl⟩))
          (case measure => simp [intOf]; omega))
      · have hlt' : ¬ (i : Int) < (R.length : Int) := by omega
        obtain rfl : i = R.length := by omega
        obtain ⟨na', nc', e', hnvo⟩ := rowN_NVO OW_r.out FL_r.out (Nat.le_refl _)
        simp only [Value.slice.injEq] at e'
        obtain ⟨rfl, -, rfl⟩ := e'
        have HNVO := Lib.hid hnvo
        have hLR : L.length = R.length := by omega
        have SMF : Hid (∀ k, k < R.length → TSame (tdT R K T k) (gT L k) ∧ (gT L k).o = 0) := Lib.hid (fun k hk => by
          have hk' : k < L.length := by omega
          rw [gT_at (List.getElem?_eq_getElem hk')]
          exact SM_r.out k _ (List.getElem?_eq_getElem hk'))
        rw [hLR] at HNVO
        have Q_r := Lib.hid (Q_3.out.below HB_r.out); have A_r := Lib.hid (A_3.out.below HB_r.out); have R_r := Lib.hid (R_3.out.below HB_r.out); have MP_r := Lib.hid (HMP3.out.below HB_r.out)
        have HBr := Lib.hid (thru0 HB3.out HB_r.out)
        have zr : w.heap.size + 2 ≤ wr.heap.size := by omega
        clear hnvo OW_r FL_r SM_r HLL hLl
        have q0 := Q_r.out.at 0 rfl; have q1 := Q_r.out.at 1 rfl; have lQ := Q_r.out.1
        have a0 := A_r.out.at 0 rfl; have a1 := A_r.out.at 1 rfl; have a2 := A_r.out.at 2 rfl; have a3 := A_r.out.at 3 rfl; have a4 := A_r.out.at 4 rfl; have lA := A_r.out.1
        rw [hLR]
        go_wp2_with fail
        refine (renumSl_any sa M kc mb _ S R _ MP_r.out (P0.out.below HBr.out) hM1 hM8 HSB.out).mono ?_
        rintro e w4 ⟨la, lc, rfl, hpo, hb⟩
        have HB4 := Lib.hid (thru0 HBr.out hb)
        have A_4 := Lib.hid (A_r.out.below hb); have R_4 := Lib.hid (R_r.out.below hb); have NV4 := Lib.hid (HNVO.out.below hb); have PO4 := Lib.hid hpo
        have z4 : wr.heap.size ≤ w4.heap.size := hb.size
        clear hb hpo q0 q1 lQ a0 a1 a2 a3 a4 lA Q_r A_r R_r MP_r HBr HNVO
        have a0 := A_4.out.at 0 rfl; have a1 := A_4.out.at 1 rfl; have a2 := A_4.out.at 2 rfl; have a3 := A_4.out.at 3 rfl; have a4 := A_4.out.at 4 rfl; have lA := A_4.out.1; have fa3 := A_4.out.free 3 rfl; have fa4 := A_4.out.free 4 rfl
        have r0 := R_4.out.at 0 rfl; have f0 := R_4.out.free 0 rfl; have r1 := R_4.out.at 1 rfl; have f1 := R_4.out.free 1 rfl; have r2 := R_4.out.at 2 rfl; have f2 := R_4.out.free 2 rfl; have r3 := R_4.out.at 3 rfl; have f3 := R_4.out.free 3 rfl; have r4 := R_4.out.at 4 rfl; have f4 := R_4.out.free 4 rfl; have r5 := R_4.out.at 5 rfl; have f5 := R_4.out.free 5 rfl; have lR := R_4.out.1
        go_wp2
        refine bodyPost_ret (v := .agg #[.int .i64 0, .int .i64 te, .int .i64 qu, .int .i64 ha, .slice la M lc, .slice av R.length kv]) (by simp [results, Try.results34, go_sem, r0, r1, r2, r3, r4, r5]) rfl ?_
        rw [E1.out, E2.out, E3.out, E4.out, E5.out, E6.out]
        refine ⟨la, lc, av, kv, gT L, wr.heap.size, w4.heap.size, w3.heap.size, wr.heap.size, rfl, ?_, ?_, fun k hk => ⟨tsame_trans (tsame_symm (E7.out k (by rw [E6.out]; exact hk))) (SMF.out k hk).1, (SMF.out k hk).2⟩, ⟨by omega, by omega, by simp⟩, ⟨by omega, by omega, by simp; omega⟩, .inr (Nat.le_refl _), ?_⟩
        · refine PVO.keeps (lo' := w.heap.size) (hi' := w.heap.size + 2) PO4.out ?_ (.inr (by omega))
          repeat (refine Keeps.trans ?_ (keeps_setCell (by (try simp); (try omega)) (by (try simp); (try omega)) _))
          exact Keeps.refl _ _ _
        · refine NVO.keeps (lo' := w.heap.size) (hi' := w.heap.size + 2) NV4.out ?_ (.inr (by omega))
          repeat (refine Keeps.trans ?_ (keeps_setCell (by (try simp); (try omega)) (by (try simp); (try omega)) _))
          exact Keeps.refl _ _ _
        · repeat (first | (with_reducible refine Below.setCell ?_ (by (try simp); (try omega)) _) | (with_reducible refine Below.alloc ?_ (by (try simp); (try omega)) _) | (with_reducible refine Below.drew ?_))
          exact HB4.out
  · have h0' : (c != 0) = true := by simpa using h0
    have htm : te' = 0 ∧ qu' = 0 ∧ ha' = 0 ∧ M' = 0 ∧ N' = 0 := by
      rcases HTM.out with ⟨h, _⟩ | ⟨_, h⟩
      · exact absurd h h0
      · exact h
    obtain ⟨e1, e2, e3, e4, e5⟩ := htm
    have E1 := Lib.hid e1; have E2 := Lib.hid e2; have E3 := Lib.hid e3; have E4 := Lib.hid e4; have E5 := Lib.hid e5
    clear h0 e1 e2 e3 e4 e5
    have r0 := R_1.out.at 0 rfl; have f0 := R_1.out.free 0 rfl; have r1 := R_1.out.at 1 rfl; have f1 := R_1.out.free 1 rfl; have r2 := R_1.out.at 2 rfl; have f2 := R_1.out.free 2 rfl; have r3 := R_1.out.at 3 rfl; have f3 := R_1.out.free 3 rfl; have r4 := R_1.out.at 4 rfl; have f4 := R_1.out.free 4 rfl; have r5 := R_1.out.at 5 rfl; have f5 := R_1.out.free 5 rfl; have lR := R_1.out.1
    go_wp2
    refine bodyPost_ret (v := .agg #[.int .i64 c, .int .i64 0, .int .i64 0, .int .i64 0, .slice none 0 0, .slice none 0 0]) (by simp [results, Try.results34, go_sem, r0, r1, r2, r3, r4, r5]) rfl ?_
    rw [E1.out, E2.out, E3.out, E4.out, E5.out]
    refine ⟨none, 0, none, 0, V, w.heap.size, w.heap.size, w.heap.size, w.heap.size, rfl, .inl rfl, .inl rfl, fun k hk => absurd hk (Nat.not_lt_zero _), ⟨Nat.le_refl _, Nat.le_refl _, by simp; omega⟩, ⟨Nat.le_refl _, Nat.le_refl _, by simp; omega⟩, .inl (Nat.le_refl _), ?_⟩
    repeat (first | (with_reducible refine Below.setCell ?_ (by (try simp); (try omega)) _) | (with_reducible refine Below.alloc ?_ (by (try simp); (try omega)) _) | (with_reducible refine Below.drew ?_))
    exact HB1.out
end Go.Proofs.Ytaenbjilcgpgcaa

