/- Texts merged: N6 to V7. -/
import Derived.Test.YtaenbjilcgpgcaaPTM1
namespace Go.Proofs.Ytaenbjilcgpgcaa
open Go.RowKit
set_option linter.unusedVariables false

/-- A row of zero objects. -/
theorem nown_made {w : World} {lo b N cap : Nat} (h : w.ownsRow lo 133 5 (.slice (some ⟨b, 0, none⟩) N cap) N (madeCells #[.int .i64 0, .int .i64 0, .int .i64 0, .int .i64 0, .slice none 0 0] (N * 5)).toList) (hl : lo ≤ b) (hp : 0 < N) : NOwn w lo w.heap.size b 0 N (fun _ => gz) := by
  have hlt : b < w.heap.size := by
    rcases h.2 with ⟨h', _⟩ | ⟨g', cap', cur, h', _, hg, _⟩
    · cases h'
    · simp only [Value.slice.injEq, Option.some.injEq, Addr.mk.injEq, and_true, true_and] at h'
      obtain ⟨rfl, rfl⟩ := h'
      exact (Array.getElem?_eq_some_iff.mp hg).1
  have hc : ∀ i, i < N → ∀ j, j < 5 → w.cell? ⟨b, i * 5 + j, none⟩ = some (#[.int .i64 0, .int .i64 0, .int .i64 0, .int .i64 0, .slice none 0 0] : Array Value)[(i * 5 + j) % 5]! := fun i hi j hj => by
    have := h.cellAt (i * 5 + j) (by omega)
    rw [made_get _ _ _ (by omega)] at this
    simpa using this
  refine ⟨hl, hlt, hlt, fun i hi => ?_, fun i hi => ?_, fun i hi => .inl rfl, fun i hi => .inl rfl, fun i j hi hj hij => .inl rfl⟩
  · have m : ∀ j, j < 5 → (i * 5 + j) % 5 = j := fun j hj => by omega
    rw [Nat.zero_add]
    have k0 := hc i hi 0 (by omega); have k1 := hc i hi 1 (by omega); have k2 := hc i hi 2 (by omega); have k3 := hc i hi 3 (by omega); have k4 := hc i hi 4 (by omega)
    rw [m 0 (by omega)] at k0; rw [m 1 (by omega)] at k1; rw [m 2 (by omega)] at k2; rw [m 3 (by omega)] at k3; rw [m 4 (by omega)] at k4
    exact ⟨k0, k1, k2, k3, k4⟩
  · rw [Nat.zero_add]
    exact ⟨h.frozenAt _, h.frozenAt _, h.frozenAt _, h.frozenAt _, h.frozenAt _⟩

/-- The six cells of an object are written. -/
def fivW (w : World) (b o : Nat) (t : GM) : World := (((((w.setCell ⟨b, o, none⟩ (.int .i64 t.at_)).setCell ⟨b, o + 1, none⟩ (.int .i64 t.s)).setCell ⟨b, o + 2, none⟩ (.int .i64 t.m)).setCell ⟨b, o + 3, none⟩ (.int .i64 t.h)).setCell ⟨b, o + 4, none⟩ (.slice t.a t.n t.c))

theorem fivW_at {w : World} {b o : Nat} {t0 : GM} (h : FivG w b o t0) (t : GM) : FivG (fivW w b o t) b o t := by
  obtain ⟨x0, x1, x2, x3, x4⟩ := h
  simp [fivW, FivG, x0, x1, x2, x3, x4, World.cell?_setCell_other, World.cell?_setCell_same']

theorem fivW_other {w : World} {b o o' : Nat} {u : GM} (h : FivG w b o u) (hd : o + 5 ≤ o' ∨ o' + 5 ≤ o) (t : GM) : FivG (fivW w b o' t) b o u := by
  have g : ∀ x, x < 5 → ∀ y, y < 5 → (⟨b, o' + y, none⟩ : Addr) ≠ ⟨b, o + x, none⟩ := fun x hx y hy e => by simp at e; try omega
  have k : ∀ x, x < 5 → (fivW w b o' t).cell? ⟨b, o + x, none⟩ = w.cell? ⟨b, o + x, none⟩ := fun x hx => by
    unfold fivW
    rw [World.cell?_setCell_other _ _ _ _ (g x hx 4 (by omega)), World.cell?_setCell_other _ _ _ _ (g x hx 3 (by omega)), World.cell?_setCell_other _ _ _ _ (g x hx 2 (by omega)), World.cell?_setCell_other _ _ _ _ (g x hx 1 (by omega)), World.cell?_setCell_other _ _ _ _ (show (⟨b, o', none⟩ : Addr) ≠ ⟨b, o + x, none⟩ from g x hx 0 (by omega))]
  exact ⟨(k 0 (by omega)).trans h.1, (k 1 (by omega)).trans h.2.1, (k 2 (by omega)).trans h.2.2.1, (k 3 (by omega)).trans h.2.2.2.1, (k 4 (by omega)).trans h.2.2.2.2⟩

theorem fivW_frozen (w : World) (b o : Nat) (t : GM) (p : Addr) : (fivW w b o t).frozen? p = w.frozen? p := by simp [fivW, World.frozen?_setCell]

theorem fivW_keeps (w : World) (b o : Nat) (t : GM) : Keeps w (fivW w b o t) b (b + 1) := by
  unfold fivW
  refine Keeps.trans ?_ (keeps_setCell (p := ⟨b, o + 4, none⟩) (Nat.le_refl b) (Nat.lt_succ_self b) _)
  refine Keeps.trans ?_ (keeps_setCell (p := ⟨b, o + 3, none⟩) (Nat.le_refl b) (Nat.lt_succ_self b) _)
  refine Keeps.trans ?_ (keeps_setCell (p := ⟨b, o + 2, none⟩) (Nat.le_refl b) (Nat.lt_succ_self b) _)
  refine Keeps.trans ?_ (keeps_setCell (p := ⟨b, o + 1, none⟩) (Nat.le_refl b) (Nat.lt_succ_self b) _)
  refine Keeps.trans ?_ (keeps_setCell (p := ⟨b, o, none⟩) (Nat.le_refl b) (Nat.lt_succ_self b) _)
  exact Keeps.refl _ _ _

theorem ownIn_fiv {w : World} {lo hi b o : Nat} {u : GM} (h : OwnIn w lo hi u.a u.n u.f) (hb : u.n = 0 ∨ u.g ≠ b) (t : GM) : OwnIn (fivW w b o t) lo hi u.a u.n u.f := by
  have k5 := fivW_keeps w b o t
  refine ownIn_at h ?_ k5.size
  rcases hb with h0 | hne
  · exact .inl h0
  · rcases h with h0 | ⟨b', o', ha, _, hx, _⟩
    · exact .inl h0
    · have e : u.g = b' := by simp [GM.g, ha]
      exact .inr (k5.block _ (by omega) (by omega))

/-- One object of a row is laid. -/
theorem nown_put {wr w2 : World} {lo b q N i : Nat} {U : Nat → GM} {t : GM} (h : NOwn wr lo wr.heap.size b q N U) (hi' : i < N) (hb : Below wr.heap.size wr w2) (ho : Own w2 wr.heap.size t.a t.n t.f) :
    NOwn (fivW w2 b (q + i * 5) t) lo (fivW w2 b (q + i * 5) t).heap.size b q N (fun j => if j = i then t else U j) ∧ Below lo w2 (fivW w2 b (q + i * 5) t) := by
  have h1 := h.glo; have h3 := h.lt
  have h' := h.below hb
  have k5 := fivW_keeps w2 b (q + i * 5) t
  have hs := hb.size; have hs5 := k5.size
  have hgt : t.n = 0 ∨ (wr.heap.size ≤ t.g ∧ t.g < w2.heap.size) := by
    rcases ho with h0 | ⟨b', o', ha, hx, hy, _⟩
    · exact .inl h0
    · have e : t.g = b' := by simp [GM.g, ha]
      exact .inr (by omega)
  have hgu : ∀ j, j < N → (U j).n = 0 ∨ (U j).g < wr.heap.size := fun j hj => by
    rcases h.flds j hj with h0 | ⟨b', o', ha, _, hy, _⟩
    · exact .inl h0
    · have e : (U j).g = b' := by simp [GM.g, ha]
      exact .inr (by omega)
  refine ⟨⟨h1, by omega, by omega, fun j hj => ?_, fun j hj => ?_, fun j hj => ?_, fun j hj => ?_, fun a c ha hc hac => ?_⟩, k5.below h1 (by omega)⟩
  · by_cases e : j = i
    · subst e; rw [if_pos rfl]; exact fivW_at (h'.six j hj) t
    · rw [if_neg e]; exact fivW_other (h'.six j hj) (by omega) t
  · have hf := h'.free j hj
    exact ⟨(fivW_frozen _ _ _ _ _).trans hf.1, (fivW_frozen _ _ _ _ _).trans hf.2.1, (fivW_frozen _ _ _ _ _).trans hf.2.2.1, (fivW_frozen _ _ _ _ _).trans hf.2.2.2.1, (fivW_frozen _ _ _ _ _).trans hf.2.2.2.2⟩
  · by_cases e : j = i
    · subst e; rw [if_pos rfl]
      exact (ownIn_fiv (ho.into.widen (by omega) (Nat.le_refl _)) (by omega) t).widen (Nat.le_refl _) (by omega)
    · rw [if_neg e]
      exact (ownIn_fiv (h'.flds j hj) (h'.off j hj) t).widen (Nat.le_refl _) (by omega)
  · by_cases e : j = i
    · subst e; rw [if_pos rfl]; omega
    · rw [if_neg e]; exact h'.off j hj
  · by_cases ea : a = i
    · by_cases ec : c = i
      · exact absurd (ea.trans ec.symm) hac
      · rw [if_pos ea, if_neg ec]
        have := hgu c hc; omega
    · by_cases ec : c = i
      · rw [if_neg ea, if_pos ec]
        have := hgu a ha; omega
      · rw [if_neg ea, if_neg ec]; exact h'.apart a c ha hc hac

theorem Try.infoND : (Try.prog.info? 133).map (fun i => (i.zero, i.size, i.bytes)) = some (some (.agg #[.int .i64 0, .int .i64 0, .int .i64 0, .int .i64 0, .slice none 0 0]), 5, 56) := by kernel_rfl

theorem Try.underlyingRN : Try.prog.underlying 52 = some (.slice 133) := by kernel_rfl

/-- A new row that holds the same. -/
def RetNodes (W : World) (N : Nat) (T : Nat → GM) (e : Ending) (w' : World) : Prop :=
  ∃ a c T', e = .returned (.slice a N c) ∧ NVO w' W.heap.size w'.heap.size a N T' ∧ (∀ i, i < N → GSame (T i) (T' i)) ∧ Below W.heap.size W w'

set_option maxRecDepth 100000 in
set_option maxHeartbeats 1600000 in
theorem toNodeS_any (a : Option Addr) (N c : Nat) (T : Nat → GM) (w : World) (h : NV w a N T) (hN : N ≤ 1048576) (hn : ∀ i, i < N → (T i).n ≤ 1048576) :
    Calls Try.prog 109 #[.slice a N c] w (RetNodes w N T) := by
  obtain ⟨i0, hi, hz0, hz1, hz2⟩ := info_parts Try.infoND
  have H := Lib.hid h; have HN := Lib.hid hn
  clear h hn
  go_enter Try.func109, Try.ntmps109
  go_wp2_with (at_make; refine wpList_make_full _ rfl _ _ 52 rfl w.heap.size 133 i0 (.agg #[.int .i64 0, .int .i64 0, .int .i64 0, .int .i64 0, .slice none 0 0]) 5 Try.underlyingRN hi hz0 hz1 .i64 .i64 N N N rfl rfl rfl rfl (by rw [hz2]; omega) (by unfold maxLen; omega) (Nat.le_refl _) ?_; intro w1 hown1 hgrow1)
  have hb1 : Below w.heap.size w w1 := (Below.refl _ _).grown hgrow1 (Nat.le_refl _) (by intro k hk; simp at hk)
  have HB1 := Lib.hid hb1
  rcases Nat.eq_zero_or_pos N with rfl | hp
  · clear hown1 hgrow1 hb1
    go_loop [4] (fun p => p = .int .i64 0) (fun _ => 0)
    case atStart => rfl
    case round =>
      obtain rfl := hrel
      go_wp2
      go_ret
      exact ⟨_, _, (fun _ => gz), rfl, .inl rfl, fun i hi => by omega, HB1.out⟩
  have hgm := nown_made (b := w.heap.size) (lo := w.heap.size) hown1 (Nat.le_refl _) hp
  have HG := Lib.hid hgm
  have hb2 := hb1.size
  clear hown1 hgrow1 hb1 hgm
  go_loopw [4] (fun p wr => ∃ (i : Nat) (T' : Nat → GM), i ≤ N ∧ p = .int .i64 (i : Int) ∧ Hid (Below w.heap.size w wr) ∧ Hid (NOwn wr w.heap.size wr.heap.size w.heap.size 0 N (fun j => if j < i then T' j else gz)) ∧ Hid (∀ j, j < i → GSame (T j) (T' j))) (fun p _ => N - (intOf p).toNat)
  case atStart => exact ⟨0, (fun _ => gz), Nat.zero_le _, rfl, HB1, by simpa using HG, fun j hj => by omega⟩
  case round =>
    obtain ⟨i, T', hi9, rfl, HBr, HR, HE⟩ := hrel
    by_cases hlt : i < N
    · have hlt' : (i : Int) < (N : Int) := by omega
      have hi0 : (0 : Int) ≤ (i : Int) := by omega
      rcases H.out.below HBr.out with h0 | ⟨b, q, rfl, hg⟩
      · omega
      · have lt := hg.lt
        obtain ⟨x0, x1, x2, x3, x4⟩ := hg.six i hlt
        have hsr := hg.flds i hlt
        have HSR := Lib.hid hsr
        have hnm := HN.out i hlt
        obtain ⟨U, hU⟩ : ∃ U : Nat → GM, U = fun j => if j < i then T' j else gz := ⟨_, rfl⟩
        have hR : NOwn wr w.heap.size wr.heap.size w.heap.size 0 N U := by rw [hU]; exact HR.out
        have HRU := Lib.hid hR; have HU := Lib.hid hU
        have hzr := HBr.out.size
        have lR := hR.lt
        clear hg hsr hU hR HR
        go_wp2_with fail
        refine (toNode_any (T i) _ HSR.out hnm).mono ?_
        rintro e w2 ⟨t', hs', rfl, ho, hb⟩
        have hq := nown_put (i := i) HRU.out hlt hb ho
        have h6 := ((HRU.out.below hb).six i hlt); have h7 := ((HRU.out.below hb).free i hlt)
        rw [Nat.zero_add] at h6 h7 hq
        obtain ⟨y0, y1, y2, y3, y4⟩ := h6
        obtain ⟨f0, f1, f2, f3, f4⟩ := h7
        have l2 : w.heap.size < w2.heap.size := by have := hb.size; omega
        have HQ := Lib.hid hq; have HS' := Lib.hid hs'; have HB2 := Lib.hid (thru0 HBr.out hb)
        clear ho hb hq hs' x0 x1 x2 x3 x4
        go_wp2
        go_roundw
        case rel =>
          refine ⟨i + 1, fun j => if j = i then t' else T' j, by omega, by go_num, HB2.out.trans HQ.out.2, HQ.out.1.congr fun j hj => ?_, fun j hj => ?_⟩
          · by_cases e : j = i
            · subst e; simp
            · have h2 : (j < i + 1) = (j < i) := by simp only [eq_iff_iff]; omega
              simp only [if_neg e, HU.out, h2]
          · by_cases e : j = i
            · subst e; simp only [if_true]; exact HS'.out
            · simp only [if_neg e]; exact HE.out j (by omega)
        case measure => simp [intOf]; omega
    · obtain rfl : i = N := by omega
      go_wp2
      go_ret
      exact ⟨_, _, T', rfl, .inr ⟨w.heap.size, 0, rfl, HR.out.congr fun j hj => by simp [hj]⟩, HE.out, HBr.out⟩
end Go.Proofs.Ytaenbjilcgpgcaa

namespace Go.Proofs.Ytaenbjilcgpgcaa
open Go.RowKit
set_option linter.unusedVariables false

/-- A slot in memory. -/
structure SL where
  g : Int
  nd : Int

def TwoG (w : World) (b o : Nat) (t : SL) : Prop := w.cell? ⟨b, o, none⟩ = some (.int .i64 t.g) ∧ w.cell? ⟨b, o + 1, none⟩ = some (.int .i64 t.nd)

def TwoF (w : World) (b o : Nat) : Prop := w.frozen? ⟨b, o, none⟩ = false ∧ w.frozen? ⟨b, o + 1, none⟩ = false

theorem TwoG.block {w w' : World} {b o : Nat} {t : SL} (h : TwoG w b o t) (e : w'.heap[b]? = w.heap[b]?) : TwoG w' b o t :=
  ⟨(World.cell?_of_block (w := w) (a := ⟨b, o, none⟩) e).trans h.1, (World.cell?_of_block (w := w) (a := ⟨b, o + 1, none⟩) e).trans h.2⟩

theorem TwoF.block {w w' : World} {b o : Nat} (h : TwoF w b o) (e : w'.heap[b]? = w.heap[b]?) : TwoF w' b o :=
  ⟨(World.frozen?_of_block (w := w) (a := ⟨b, o, none⟩) e).trans h.1, (World.frozen?_of_block (w := w) (a := ⟨b, o + 1, none⟩) e).trans h.2⟩

/-- A row of slots is read. -/
structure PSrc (w : World) (b q N : Nat) (T : Nat → SL) : Prop where
  lt : b < w.heap.size
  two : ∀ i, i < N → TwoG w b (q + i * 2) (T i)

/-- A row of slots of the call's own. -/
structure POwn (w : World) (lo hi b q N : Nat) (T : Nat → SL) : Prop where
  glo : lo ≤ b
  ghi : b < hi
  lt : b < w.heap.size
  two : ∀ i, i < N → TwoG w b (q + i * 2) (T i)
  free : ∀ i, i < N → TwoF w b (q + i * 2)

theorem POwn.src {w : World} {lo hi b q N : Nat} {T : Nat → SL} (h : POwn w lo hi b q N T) : PSrc w b q N T := ⟨h.lt, h.two⟩

theorem PSrc.below {w w' : World} {b q N : Nat} {T : Nat → SL} (h : PSrc w b q N T) (hb : Below w.heap.size w w') : PSrc w' b q N T :=
  ⟨Nat.lt_of_lt_of_le h.lt hb.size, fun i hi => (h.two i hi).block (hb.block b h.lt)⟩

theorem POwn.below {w w' : World} {lo hi b q N : Nat} {T : Nat → SL} (h : POwn w lo hi b q N T) (hb : Below w.heap.size w w') : POwn w' lo hi b q N T :=
  ⟨h.glo, h.ghi, Nat.lt_of_lt_of_le h.lt hb.size, fun i hi => (h.two i hi).block (hb.block b h.lt), fun i hi => (h.free i hi).block (hb.block b h.lt)⟩

theorem PSrc.keeps {w w' : World} {lo hi b q N : Nat} {T : Nat → SL} (h : PSrc w b q N T) (hk : Keeps w w' lo hi) (hd : b < lo ∨ hi ≤ b) : PSrc w' b q N T :=
  ⟨Nat.lt_of_lt_of_le h.lt hk.size, fun i hi => (h.two i hi).block (hk.block b h.lt hd)⟩

theorem POwn.keeps {w w' : World} {lo hi lo' hi' b q N : Nat} {T : Nat → SL} (h : POwn w lo hi b q N T) (hk : Keeps w w' lo' hi') (hd : hi ≤ lo' ∨ hi' ≤ lo) : POwn w' lo hi b q N T := by
  have h1 := h.glo; have h2 := h.ghi
  exact ⟨h.glo, h.ghi, Nat.lt_of_lt_of_le h.lt hk.size, fun i hi => (h.two i hi).block (hk.block b h.lt (by omega)), fun i hi => (h.free i hi).block (hk.block b h.lt (by omega))⟩

theorem POwn.congr {w : World} {lo hi b q N : Nat} {T U : Nat → SL} (h : POwn w lo hi b q N T) (e : ∀ i, i < N → T i = U i) : POwn w lo hi b q N U :=
  ⟨h.glo, h.ghi, h.lt, fun i hi => e i hi ▸ h.two i hi, h.free⟩

theorem PSrc.congr {w : World} {b q N : Nat} {T U : Nat → SL} (h : PSrc w b q N T) (e : ∀ i, i < N → T i = U i) : PSrc w b q N U :=
  ⟨h.lt, fun i hi => e i hi ▸ h.two i hi⟩

theorem POwn.widen {w : World} {lo hi lo' hi' b q N : Nat} {T : Nat → SL} (h : POwn w lo hi b q N T) (h1 : lo' ≤ lo) (h2 : hi ≤ hi') : POwn w lo' hi' b q N T :=
  ⟨Nat.le_trans h1 h.glo, Nat.lt_of_lt_of_le h.ghi h2, h.lt, h.two, h.free⟩

def PV (w : World) (a : Option Addr) (N : Nat) (T : Nat → SL) : Prop := N = 0 ∨ ∃ b q, a = some ⟨b, q, none⟩ ∧ PSrc w b q N T

def PVO (w : World) (lo hi : Nat) (a : Option Addr) (N : Nat) (T : Nat → SL) : Prop := N = 0 ∨ ∃ b q, a = some ⟨b, q, none⟩ ∧ POwn w lo hi b q N T

theorem PVO.src {w : World} {lo hi N : Nat} {a : Option Addr} {T : Nat → SL} (h : PVO w lo hi a N T) : PV w a N T := by
  rcases h with h0 | ⟨b, q, ha, h⟩
  · exact .inl h0
  · exact .inr ⟨b, q, ha, h.src⟩

theorem PV.below {w w' : World} {N : Nat} {a : Option Addr} {T : Nat → SL} (h : PV w a N T) (hb : Below w.heap.size w w') : PV w' a N T := by
  rcases h with h0 | ⟨b, q, ha, h⟩
  · exact .inl h0
  · exact .inr ⟨b, q, ha, h.below hb⟩

theorem PVO.below {w w' : World} {lo hi N : Nat} {a : Option Addr} {T : Nat → SL} (h : PVO w lo hi a N T) (hb : Below w.heap.size w w') : PVO w' lo hi a N T := by
  rcases h with h0 | ⟨b, q, ha, h⟩
  · exact .inl h0
  · exact .inr ⟨b, q, ha, h.below hb⟩

theorem PVO.keeps {w w' : World} {lo hi lo' hi' N : Nat} {a : Option Addr} {T : Nat → SL} (h : PVO w lo hi a N T) (hk : Keeps w w' lo' hi') (hd : hi ≤ lo' ∨ hi' ≤ lo) : PVO w' lo hi a N T := by
  rcases h with h0 | ⟨b, q, ha, h⟩
  · exact .inl h0
  · exact .inr ⟨b, q, ha, h.keeps hk hd⟩

theorem PVO.widen {w : World} {lo hi lo' hi' N : Nat} {a : Option Addr} {T : Nat → SL} (h : PVO w lo hi a N T) (h1 : lo' ≤ lo) (h2 : hi ≤ hi') : PVO w lo' hi' a N T := by
  rcases h with h0 | ⟨b, q, ha, h⟩
  · exact .inl h0
  · exact .inr ⟨b, q, ha, h.widen h1 h2⟩

theorem PV.drew {w : World} {N : Nat} {a : Option Addr} {T : Nat → SL} (h : PV w a N T) : PV w.drew a N T := h.below (Below.refl _ _).drew

theorem PV.alloc {w : World} {N : Nat} {a : Option Addr} {T : Nat → SL} (h : PV w a N T) (o : Obj) : PV (w.alloc o) a N T := h.below ((Below.refl _ _).alloc (Nat.le_refl _) o)

theorem PVO.drew {w : World} {lo hi N : Nat} {a : Option Addr} {T : Nat → SL} (h : PVO w lo hi a N T) : PVO w.drew lo hi a N T := h.below (Below.refl _ _).drew

theorem PVO.alloc {w : World} {lo hi N : Nat} {a : Option Addr} {T : Nat → SL} (h : PVO w lo hi a N T) (o : Obj) : PVO (w.alloc o) lo hi a N T := h.below ((Below.refl _ _).alloc (Nat.le_refl _) o)

theorem PV.congr {w : World} {N : Nat} {a : Option Addr} {T U : Nat → SL} (h : PV w a N T) (e : ∀ i, i < N → T i = U i) : PV w a N U := by
  rcases h with h0 | ⟨b, q, ha, h⟩
  · exact .inl h0
  · exact .inr ⟨b, q, ha, h.congr e⟩

theorem PVO.congr {w : World} {lo hi N : Nat} {a : Option Addr} {T U : Nat → SL} (h : PVO w lo hi a N T) (e : ∀ i, i < N → T i = U i) : PVO w lo hi a N U := by
  rcases h with h0 | ⟨b, q, ha, h⟩
  · exact .inl h0
  · exact .inr ⟨b, q, ha, h.congr e⟩

/-- A slot is written. -/
def twoW (w : World) (b o : Nat) (t : SL) : World := (w.setCell ⟨b, o, none⟩ (.int .i64 t.g)).setCell ⟨b, o + 1, none⟩ (.int .i64 t.nd)

theorem twoW_at {w : World} {b o : Nat} {t0 : SL} (h : TwoG w b o t0) (t : SL) : TwoG (twoW w b o t) b o t := by
  obtain ⟨x0, x1⟩ := h
  simp [twoW, TwoG, x0, x1, World.cell?_setCell_other, World.cell?_setCell_same']

theorem twoW_other {w : World} {b o o' : Nat} {u : SL} (h : TwoG w b o u) (hd : o + 2 ≤ o' ∨ o' + 2 ≤ o) (t : SL) : TwoG (twoW w b o' t) b o u := by
  have g : ∀ x, x < 2 → ∀ y, y < 2 → (⟨b, o' + y, none⟩ : Addr) ≠ ⟨b, o + x, none⟩ := fun x hx y hy e => by simp at e; try omega
  have k : ∀ x, x < 2 → (twoW w b o' t).cell? ⟨b, o + x, none⟩ = w.cell? ⟨b, o + x, none⟩ := fun x hx => by
    unfold twoW
    rw [World.cell?_setCell_other _ _ _ _ (g x hx 1 (by omega)), World.cell?_setCell_other _ _ _ _ (show (⟨b, o', none⟩ : Addr) ≠ ⟨b, o + x, none⟩ from g x hx 0 (by omega))]
  exact ⟨(k 0 (by omega)).trans h.1, (k 1 (by omega)).trans h.2⟩

theorem twoW_frozen (w : World) (b o : Nat) (t : SL) (p : Addr) : (twoW w b o t).frozen? p = w.frozen? p := by simp [twoW, World.frozen?_setCell]

theorem twoW_keeps (w : World) (b o : Nat) (t : SL) : Keeps w (twoW w b o t) b (b + 1) := by
  unfold twoW
  refine Keeps.trans ?_ (keeps_setCell (p := ⟨b, o + 1, none⟩) (Nat.le_refl b) (Nat.lt_succ_self b) _)
  exact keeps_setCell (p := ⟨b, o, none⟩) (Nat.le_refl b) (Nat.lt_succ_self b) _

/-- One slot of a row is laid. -/
theorem pown_put {w : World} {lo hi b q N i : Nat} {U : Nat → SL} {t : SL} (h : POwn w lo hi b q N U) (hi' : i < N) : POwn (twoW w b (q + i * 2) t) lo hi b q N (fun j => if j = i then t else U j) ∧ Keeps w (twoW w b (q + i * 2) t) lo hi := by
  have k5 := twoW_keeps w b (q + i * 2) t
  have h1 := h.glo; have h2 := h.ghi
  refine ⟨⟨h.glo, h.ghi, Nat.lt_of_lt_of_le h.lt k5.size, fun j hj => ?_, fun j hj => ?_⟩, k5.widen h1 (by omega)⟩
  · by_cases e : j = i
    · subst e; rw [if_pos rfl]; exact twoW_at (h.two j hj) t
    · rw [if_neg e]; exact twoW_other (h.two j hj) (by omega) t
  · have hf := h.free j hj
    exact ⟨(twoW_frozen _ _ _ _ _).trans hf.1, (twoW_frozen _ _ _ _ _).trans hf.2⟩

def smkd (k : Int) (j : Nat) : SL := ⟨k + 2 * (j : Int), k + 2 * (j : Int) + 1⟩

set_option maxRecDepth 100000 in
set_option maxHeartbeats 800000 in
theorem heldSlotS_any (a : Option Addr) (N c : Nat) (k : Int) (w : World) (hs : PV w a N (smkd k)) (hk0 : 0 ≤ k) (hk1 : k + 2 * (N : Int) ≤ 1048576) :
    Calls Try.prog 169 #[.slice a N c, .int .i64 k] w fun e w' => e = .returned (.int .i64 (k + 2 * (N : Int))) ∧ w = w' := by
  have H := Lib.hid hs
  clear hs
  go_enter Try.func169, Try.ntmps169
  go_wp2
  go_loop [1, 5] (fun u p => ∃ i : Nat, i ≤ N ∧ p = .int .i64 i ∧ u = .int .i64 (k + 2 * (i : Int))) (fun _ p => N - (intOf p).toNat)
  case atStart => exact ⟨0, Nat.zero_le _, rfl, by simp⟩
  case round =>
    obtain ⟨i, hi, rfl, rfl⟩ := hrel
    by_cases hlt : i < N
    · have hlt' : (i : Int) < (N : Int) := by omega
      have hi0 : (0 : Int) ≤ (i : Int) := by omega
      rcases H.out with h0 | ⟨b, q, rfl, hg⟩
      · omega
      obtain ⟨x0, x1⟩ := hg.two i hlt
      have hlt0 := hg.lt
      simp only [smkd] at x0 x1
      generalize hK : k + 2 * (i : Int) = K at *
      have hK0 : 0 ≤ K := by omega
      have hK1 : K + 2 ≤ 1048576 := by omega
      have HKK := Lib.hid hK
      clear hK hg
      go_wp2
      go_round
      case rel => exact ⟨i + 1, by omega, by go_num, by have := HKK.out; go_num⟩
      case measure => simp [intOf]; omega
    · go_wp2
      go_ret
      obtain rfl : i = N := by omega
      exact ⟨rfl, rfl⟩

set_option maxRecDepth 100000 in
set_option maxHeartbeats 800000 in
theorem markSlotS_any (a : Option Addr) (lo hi N c : Nat) (T : Nat → SL) (k : Int) (w : World) (hs : PVO w lo hi a N T) (hk0 : 0 ≤ k) (hk1 : k + 2 * (N : Int) ≤ 1048576) :
    Calls Try.prog 113 #[.slice a N c, .int .i64 k] w fun e w' => e = .returned (.int .i64 (k + 2 * (N : Int))) ∧ PVO w' lo hi a N (smkd k) ∧ Keeps w w' lo hi := by
  have H := Lib.hid hs
  clear hs
  go_enter Try.func113, Try.ntmps113
  go_wp2
  go_loopw [1, 5] (fun u p wr => ∃ i : Nat, i ≤ N ∧ p = .int .i64 i ∧ u = .int .i64 (k + 2 * (i : Int)) ∧ Hid (Keeps w wr lo hi) ∧ Hid (PVO wr lo hi a N (fun j => if j < i then smkd k j else T j))) (fun _ p _ => N - (intOf p).toNat)
  case atStart => exact ⟨0, Nat.zero_le _, rfl, by simp, Keeps.refl _ _ _, by simpa using H⟩
  case round =>
    obtain ⟨i, hi9, rfl, rfl, HK, HR⟩ := hrel
    by_cases hlt : i < N
    · have hlt' : (i : Int) < (N : Int) := by omega
      have hi0 : (0 : Int) ≤ (i : Int) := by omega
      rcases HR.out with h0 | ⟨b, q, rfl, hg⟩
      · omega
      obtain ⟨x0, x1⟩ := hg.two i hlt
      obtain ⟨f0, f1⟩ := hg.free i hlt
      have hlt0 := hg.lt
      generalize hK : k + 2 * (i : Int) = K at *
      have hK0 : 0 ≤ K := by omega
      have hK1 : K + 2 ≤ 1048576 := by omega
      have HKK := Lib.hid hK
      have HQ := Lib.hid (pown_put (i := i) (t := ⟨K, K + 1⟩) hg hlt)
      clear hK hg HR
      go_wp2
      go_roundw
      case rel =>
        refine ⟨i + 1, by omega, by go_num, by have := HKK.out; go_num, HK.out.trans HQ.out.2, .inr ⟨b, q, rfl, HQ.out.1.congr fun j hj => ?_⟩⟩
        by_cases e : j = i
        · subst e
          simp only [if_true, Nat.lt_succ_self, smkd, HKK.out]
        · rw [if_neg e]
          have h2 : (j < i + 1) = (j < i) := by simp only [eq_iff_iff]; omega
          simp only [h2]
      case measure => simp [intOf]; omega
    · go_wp2
      go_ret
      obtain rfl : i = N := by omega
      refine ⟨rfl, ?_, HK.out⟩
      exact HR.out.congr fun j hj => by simp [hj]
end Go.Proofs.Ytaenbjilcgpgcaa

namespace Go.Proofs.Ytaenbjilcgpgcaa
open Go.RowKit
set_option linter.unusedVariables false

set_option maxRecDepth 100000 in
set_option maxHeartbeats 400000 in
theorem eqSlot_same (t : SL) (w : World) :
    Calls Try.prog 167 #[.agg #[.int .i64 t.g, .int .i64 t.nd], .agg #[.int .i64 t.g, .int .i64 t.nd]] w (RetBool w true) := by
  go_enter Try.func167, Try.ntmps167
  go_wp2
  go_ret
  exact ⟨rfl, ((Below.refl _ _).alloc (Nat.le_refl _) _).alloc (by simp) _⟩

theorem twosG {w : World} {g1 g2 q1 q2 i : Nat} {t u : SL} (h1 : TwoG w g1 (q1 + i * 2) t) (h2 : TwoG w g2 (q2 + i * 2) u) : w.cell? ⟨g1, q1 + i * 2, none⟩ = some (.int .i64 t.g) ∧ w.cell? ⟨g1, q1 + i * 2 + 1, none⟩ = some (.int .i64 t.nd) ∧ w.cell? ⟨g2, q2 + i * 2, none⟩ = some (.int .i64 u.g) ∧ w.cell? ⟨g2, q2 + i * 2 + 1, none⟩ = some (.int .i64 u.nd) := ⟨h1.1, h1.2, h2.1, h2.2⟩

set_option maxRecDepth 100000 in
set_option maxHeartbeats 1600000 in
theorem eqSlotS_same (a1 a2 : Option Addr) (N k1 k2 : Nat) (T U : Nat → SL) (w : World) (h1 : PV w a1 N T) (h2 : PV w a2 N U) (he : ∀ i, i < N → T i = U i) (hN : N ≤ 1048576) :
    Calls Try.prog 111 #[.slice a1 N k1, .slice a2 N k2] w (RetBool w true) := by
  have H1 := Lib.hid h1; have H2 := Lib.hid (h2.congr fun i hi => (he i hi).symm)
  clear h1 h2 he
  go_enter Try.func111, Try.ntmps111
  go_wp2
  go_loopw [5] (fun p wr => ∃ i : Nat, i ≤ N ∧ p = .int .i64 (i : Int) ∧ Hid (Below w.heap.size w wr)) (fun p _ => N - (intOf p).toNat)
  case atStart => exact ⟨0, Nat.zero_le _, rfl, Below.refl _ _⟩
  case round =>
    obtain ⟨i, hi, rfl, HBr⟩ := hrel
    by_cases hlt : i < N
    · have hlt' : (i : Int) < (N : Int) := by omega
      have hi0 : (0 : Int) ≤ (i : Int) := by omega
      rcases H1.out.below HBr.out with h0 | ⟨g1, q1, rfl, r1⟩
      · omega
      rcases H2.out.below HBr.out with h0 | ⟨g2, q2, rfl, r2⟩
      · omega
      have X1 := Lib.hid (r1.two i hlt); have Y1 := Lib.hid (r2.two i hlt)
      have l1' := r1.lt; have l2' := r2.lt
      have hzr := HBr.out.size
      have Xd := Lib.hid ((r1.below (Below.refl _ _).drew).two i hlt); have Yd := Lib.hid ((r2.below (Below.refl _ _).drew).two i hlt)
      clear r1 r2
      generalize T i = t at *
      go_wp2_with fail
      go_region_held3 (fun w' => w'.cell? ⟨g1, q1 + i * 2, none⟩ = some (.int .i64 t.g) ∧ w'.cell? ⟨g1, q1 + i * 2 + 1, none⟩ = some (.int .i64 t.nd) ∧ w'.cell? ⟨g2, q2 + i * 2, none⟩ = some (.int .i64 t.g) ∧ w'.cell? ⟨g2, q2 + i * 2 + 1, none⟩ = some (.int .i64 t.nd))
        (first | (with_reducible exact twosG X1.out Y1.out) | (with_reducible exact twosG Xd.out Yd.out) | (with_reducible exact twosG X2.out Y2.out))
        (first | (go_at_call 167; refine (eqSlot_same t _).mono ?_; rintro e w2 ⟨rfl, hb⟩; have HB2 := Lib.hid (thru0 (Below.refl wr.heap.size wr).drew hb); have X2 := Lib.hid (X1.out.block (HB2.out.block _ l1')); have Y2 := Lib.hid (Y1.out.block (HB2.out.block _ l2')); clear hb))
      have HB3 := Lib.hid (HBr.out.trans (HB2.out.mono hzr))
      go_wp2
      go_roundw
      case rel => exact ⟨i + 1, by omega, by go_num, HB3⟩
      case measure => simp [intOf]; omega
    · go_wp2
      go_ret
      exact ⟨rfl, HBr.out⟩

set_option maxRecDepth 100000 in
set_option maxHeartbeats 400000 in
theorem szSlotS_ok (a : Option Addr) (N c : Nat) (l : Int) (w : World) (hl0 : 0 ≤ l) (hl : l ≤ 1048576) (hn : N ≤ maxLen) (hh : N ≤ l) :
    Calls Try.prog 105 #[.slice a N c, .int .i64 l] w fun e w' => e = .returned (.int .i64 (l - N)) ∧ w = w' := by
  unfold maxLen at hn
  go_enter Try.func105, Try.ntmps105
  go_wp2
  go_ret
  exact ⟨by go_num, rfl⟩

set_option maxRecDepth 100000 in
set_option maxHeartbeats 400000 in
theorem szSlotS_no (a : Option Addr) (N c : Nat) (l : Int) (w : World) (hl0 : 0 ≤ l) (hl : l ≤ 1048576) (hn : N ≤ maxLen) (hh : l < N) :
    Calls Try.prog 105 #[.slice a N c, .int .i64 l] w fun e w' => e = .returned (.int .i64 (-1)) ∧ w = w' := by
  unfold maxLen at hn
  go_enter Try.func105, Try.ntmps105
  go_wp2
  go_ret
  exact ⟨rfl, rfl⟩
end Go.Proofs.Ytaenbjilcgpgcaa

namespace Go.Proofs.Ytaenbjilcgpgcaa
open Go.RowKit
set_option linter.unusedVariables false

set_option maxRecDepth 100000 in
set_option maxHeartbeats 800000 in
theorem toSlot_any (t : SL) (w : World) :
    Calls Try.prog 165 #[.agg #[.int .i64 t.g, .int .i64 t.nd]] w fun e w' => e = .returned (.agg #[.int .i64 t.g, .int .i64 t.nd]) ∧ Below w.heap.size w w' := by
  go_enter Try.func165, Try.ntmps165
  go_wp2
  refine bodyPost_ret (v := .agg #[.int .i64 t.g, .int .i64 t.nd]) (by simp [results, Try.results165, go_sem]) rfl ⟨rfl, ?_⟩
  repeat (first | (with_reducible refine Below.setCell ?_ (by (try simp); (try omega)) _) | (with_reducible refine Below.alloc ?_ (by (try simp); (try omega)) _))
  exact Below.refl _ _

theorem Try.infoSL : (Try.prog.info? 131).map (fun i => (i.zero, i.size, i.bytes)) = some (some (.agg #[.int .i64 0, .int .i64 0]), 2, 16) := by kernel_rfl

theorem Try.underlyingRSL : Try.prog.underlying 51 = some (.slice 131) := by kernel_rfl

/-- A row of zero slots. -/
theorem pown_made {w : World} {lo b N cap : Nat} (h : w.ownsRow lo 131 2 (.slice (some ⟨b, 0, none⟩) N cap) N (madeCells #[.int .i64 0, .int .i64 0] (N * 2)).toList) (hl : lo ≤ b) (hp : 0 < N) : POwn w lo w.heap.size b 0 N (fun _ => ⟨0, 0⟩) := by
  have hlt : b < w.heap.size := by
    rcases h.2 with ⟨h', _⟩ | ⟨g', cap', cur, h', _, hg, _⟩
    · cases h'
    · simp only [Value.slice.injEq, Option.some.injEq, Addr.mk.injEq, and_true, true_and] at h'
      obtain ⟨rfl, rfl⟩ := h'
      exact (Array.getElem?_eq_some_iff.mp hg).1
  have hc : ∀ i, i < N → ∀ j, j < 2 → w.cell? ⟨b, i * 2 + j, none⟩ = some (#[.int .i64 0, .int .i64 0] : Array Value)[(i * 2 + j) % 2]! := fun i hi j hj => by
    have := h.cellAt (i * 2 + j) (by omega)
    rw [made_get _ _ _ (by omega)] at this
    simpa using this
  refine ⟨hl, hlt, hlt, fun i hi => ?_, fun i hi => ?_⟩
  · have m : ∀ j, j < 2 → (i * 2 + j) % 2 = j := fun j hj => by omega
    rw [Nat.zero_add]
    have k0 := hc i hi 0 (by omega); have k1 := hc i hi 1 (by omega)
    rw [m 0 (by omega)] at k0; rw [m 1 (by omega)] at k1
    exact ⟨k0, k1⟩
  · rw [Nat.zero_add]
    exact ⟨h.frozenAt _, h.frozenAt _⟩

/-- A new row of slots that holds the same. -/
def RetSlots (W : World) (N : Nat) (T : Nat → SL) (e : Ending) (w' : World) : Prop :=
  ∃ a c, e = .returned (.slice a N c) ∧ PVO w' W.heap.size w'.heap.size a N T ∧ Below W.heap.size W w'

set_option maxRecDepth 100000 in
set_option maxHeartbeats 1600000 in
theorem toSlotS_any (a : Option Addr) (N c : Nat) (T : Nat → SL) (w : World) (h : PV w a N T) (hN : N ≤ 1048576) :
    Calls Try.prog 108 #[.slice a N c] w (RetSlots w N T) := by
  obtain ⟨i0, hi, hz0, hz1, hz2⟩ := info_parts Try.infoSL
  have H := Lib.hid h
  clear h
  go_enter Try.func108, Try.ntmps108
  go_wp2_with (at_make; refine wpList_make_full _ rfl _ _ 51 rfl w.heap.size 131 i0 (.agg #[.int .i64 0, .int .i64 0]) 2 Try.underlyingRSL hi hz0 hz1 .i64 .i64 N N N rfl rfl rfl rfl (by rw [hz2]; omega) (by unfold maxLen; omega) (Nat.le_refl _) ?_; intro w1 hown1 hgrow1)
  have hb1 : Below w.heap.size w w1 := (Below.refl _ _).grown hgrow1 (Nat.le_refl _) (by intro k hk; simp at hk)
  have HB1 := Lib.hid hb1
  rcases Nat.eq_zero_or_pos N with rfl | hp
  · clear hown1 hgrow1 hb1
    go_loop [4] (fun p => p = .int .i64 0) (fun _ => 0)
    case atStart => rfl
    case round =>
      obtain rfl := hrel
      go_wp2
      go_ret
      exact ⟨_, _, rfl, .inl rfl, HB1.out⟩
  have hgm := pown_made (b := w.heap.size) (lo := w.heap.size) hown1 (Nat.le_refl _) hp
  have HG := Lib.hid hgm
  have hb2 := hb1.size
  clear hown1 hgrow1 hb1 hgm
  go_loopw [4] (fun p wr => ∃ (i : Nat), i ≤ N ∧ p = .int .i64 (i : Int) ∧ Hid (Below w.heap.size w wr) ∧ Hid (POwn wr w.heap.size wr.heap.size w.heap.size 0 N (fun j => if j < i then T j else ⟨0, 0⟩))) (fun p _ => N - (intOf p).toNat)
  case atStart => exact ⟨0, Nat.zero_le _, rfl, HB1, by simpa using HG⟩
  case round =>
    obtain ⟨i, hi9, rfl, HBr, HR⟩ := hrel
    by_cases hlt : i < N
    · have hlt' : (i : Int) < (N : Int) := by omega
      have hi0 : (0 : Int) ≤ (i : Int) := by omega
      rcases H.out.below HBr.out with h0 | ⟨b, q, rfl, hg⟩
      · omega
      · have lt := hg.lt
        obtain ⟨x0, x1⟩ := hg.two i hlt
        have hzr := HBr.out.size
        have lR := HR.out.lt
        clear hg
        go_wp2_with fail
        refine (toSlot_any (T i) _).mono ?_
        rintro e w2 ⟨rfl, hb⟩
        have hr2 := HR.out.below hb
        have h6 := hr2.two i hlt; have h7 := hr2.free i hlt
        have hs2 := hb.size
        have hq := pown_put (i := i) (t := T i) (hr2.widen (Nat.le_refl _) hs2) hlt
        rw [Nat.zero_add] at h6 h7 hq
        obtain ⟨y0, y1⟩ := h6
        obtain ⟨f0, f1⟩ := h7
        have l2 : w.heap.size < w2.heap.size := by omega
        have HQ := Lib.hid hq; have HB2 := Lib.hid (thru0 HBr.out hb)
        clear hb hq hr2 x0 x1
        go_wp2
        go_roundw
        case rel =>
          refine ⟨i + 1, by omega, by go_num, HB2.out.trans (HQ.out.2.below (Nat.le_refl _) (by omega)), (HQ.out.1.widen (Nat.le_refl _) HQ.out.2.size).congr fun j hj => ?_⟩
          by_cases e : j = i
          · subst e; simp
          · have h2 : (j < i + 1) = (j < i) := by simp only [eq_iff_iff]; omega
            simp only [if_neg e, h2]
        case measure => simp [intOf]; omega
    · obtain rfl : i = N := by omega
      go_wp2
      go_ret
      exact ⟨_, _, rfl, .inr ⟨w.heap.size, 0, rfl, HR.out.congr fun j hj => by simp [hj]⟩, HBr.out⟩
end Go.Proofs.Ytaenbjilcgpgcaa

namespace Go.Proofs.Ytaenbjilcgpgcaa
open Go.RowKit Go.Maps
set_option linter.unusedVariables false

/-- What is carried through the draw of alike: the source, the bytes, the two answers' blocks, the arena, its words, the roots. -/
structure DA (W w : World) (ca : Option Addr) (k kc : Nat) (B : Nat → Int) (t P : Nat) (h ac bu : Int) (a : Option Addr) (n c : Nat) (f : Nat → Int) (ra : Option Addr) (l : List Int) : Prop where
  bel : Below W.heap.size W w
  src : Blk w (W.heap.size + 2) [.slice ca k kc, .int .i64 (t : Int)]
  byt : SrcB w (W.heap.size + 2) ca k B
  r0 : Blk w W.heap.size [.int .i64 0, .slice none 0 0, .int .i64 0, .int .i64 0]
  r1 : Blk w (W.heap.size + 1) [.int .i64 0, .slice none 0 0, .int .i64 0, .int .i64 0]
  arn : Blk w P [.int .i64 h, .slice a n c, .int .i64 ac, .int .i64 bu]
  wrd : OwnIn w (W.heap.size + 3) P a n f
  rts : OwnIn w (W.heap.size + 3) P ra l.length (lf l)
  hP : W.heap.size + 3 ≤ P

theorem DA.below {W w w' : World} {ca : Option Addr} {k kc t P : Nat} {B : Nat → Int} {h ac bu : Int} {a : Option Addr} {n c : Nat} {f : Nat → Int} {ra : Option Addr} {l : List Int} (d : DA W w ca k kc B t P h ac bu a n c f ra l) (hb : Below w.heap.size w w') : DA W w' ca k kc B t P h ac bu a n c f ra l :=
  ⟨d.bel.trans (hb.mono d.bel.size), d.src.below hb, d.byt.below hb, d.r0.below hb, d.r1.below hb, d.arn.below hb, d.wrd.below hb, d.rts.below hb, d.hP⟩

/-- .. and the second arena and list. -/
structure DB (W w : World) (ca : Option Addr) (k kc : Nat) (B : Nat → Int) (t P : Nat) (h ac bu : Int) (a : Option Addr) (n c : Nat) (f : Nat → Int) (ra : Option Addr) (l : List Int) (Q : Nat) (h' ac' bu' : Int) (a' : Option Addr) (n' c' : Nat) (f' : Nat → Int) (rb : Option Addr) (rd md : Nat) (l' : List Int) : Prop where
  da : DA W w ca k kc B t P h ac bu a n c f ra l
  bb : Blk w Q [.int .i64 h', .slice a' n' c', .int .i64 ac', .int .i64 bu']
  wb : OwnIn w (P + 1) md a' n' f'
  row : w.ownsRow md 2 1 (.slice rb l'.length rd) l'.length (nums l'.length (lf l'))
  hmd : P + 1 ≤ md
  hQ : P + 1 ≤ Q

theorem DB.below {W w w' : World} {ca : Option Addr} {k kc t P : Nat} {B : Nat → Int} {h ac bu : Int} {a : Option Addr} {n c : Nat} {f : Nat → Int} {ra : Option Addr} {l : List Int} {Q : Nat} {h' ac' bu' : Int} {a' : Option Addr} {n' c' : Nat} {f' : Nat → Int} {rb : Option Addr} {rd md : Nat} {l' : List Int} (d : DB W w ca k kc B t P h ac bu a n c f ra l Q h' ac' bu' a' n' c' f' rb rd md l') (hb : Below w.heap.size w w') : DB W w' ca k kc B t P h ac bu a n c f ra l Q h' ac' bu' a' n' c' f' rb rd md l' :=
  ⟨d.da.below hb, d.bb.below hb, d.wb.below hb, ownsRow_below d.row hb, d.hmd, d.hQ⟩

theorem own_row {w : World} {B e n c : Nat} {a : Option Addr} {l : List Int} (h : w.ownsRow B e 1 (.slice a n c) l.length (nums l.length (lf l))) : n = l.length ∧ Own w B a l.length (lf l) := by
  obtain ⟨a', c', he, ho⟩ := own_of_row' h
  simp only [Value.slice.injEq] at he
  obtain ⟨rfl, rfl, rfl⟩ := he
  exact ⟨rfl, ho⟩

theorem DB.own {W w : World} {ca : Option Addr} {k kc t P : Nat} {B : Nat → Int} {h ac bu : Int} {a : Option Addr} {n c : Nat} {f : Nat → Int} {ra : Option Addr} {l : List Int} {Q : Nat} {h' ac' bu' : Int} {a' : Option Addr} {n' c' : Nat} {f' : Nat → Int} {rb : Option Addr} {rd md : Nat} {l' : List Int} (d : DB W w ca k kc B t P h ac bu a n c f ra l Q h' ac' bu' a' n' c' f' rb rd md l') : Own w (P + 1) rb l'.length (lf l') := (own_row d.row).2.mono d.hmd

theorem DA.keeps {W w w' : World} {ca : Option Addr} {k kc t P : Nat} {B : Nat → Int} {h ac bu : Int} {a : Option Addr} {n c : Nat} {f : Nat → Int} {ra : Option Addr} {l : List Int} {lo hi : Nat} (d : DA W w ca k kc B t P h ac bu a n c f ra l) (hk : Keeps w w' lo hi) (hl : P + 1 ≤ lo) : DA W w' ca k kc B t P h ac bu a n c f ra l := by
  have hP := d.hP
  have hPw := d.arn.1
  exact ⟨d.bel.trans (hk.below (by omega) d.bel.size), d.src.keeps hk (.inl (by omega)), d.byt.keeps hk (by omega), d.r0.keeps hk (.inl (by omega)), d.r1.keeps hk (.inl (by omega)), d.arn.keeps hk (.inl (by omega)), d.wrd.keeps hk (.inl (by omega)), d.rts.keeps hk (.inl (by omega)), d.hP⟩

theorem DB.stored {W w : World} {ca : Option Addr} {k kc t P : Nat} {B : Nat → Int} {h ac bu : Int} {a : Option Addr} {n c : Nat} {f : Nat → Int} {ra : Option Addr} {l : List Int} {Q : Nat} {h' ac' bu' : Int} {gb qb : Nat} {n' c' : Nat} {f' : Nat → Int} {rb : Option Addr} {rd md : Nat} {l' : List Int} (d : DB W w ca k kc B t P h ac bu a n c f ra l Q h' ac' bu' (some ⟨gb, qb, none⟩) n' c' f' rb rd md l') {i : Nat} (hi : i < n') (hm : md ≤ Q) (v : Int) : DB W (w.setCell ⟨gb, qb + i, none⟩ (.int .i64 v)) ca k kc B t P h ac bu a n c f ra l Q h' ac' bu' (some ⟨gb, qb, none⟩) n' c' (fun j => if j = i then v else f' j) rb rd md l' := by
  have hM := d.hmd
  have hst := d.wb.stored i hi v
  rcases d.wb with h0 | ⟨b', o', he, hb', hl', _⟩
  · omega
  simp only [Option.some.injEq, Addr.mk.injEq, and_true] at he
  obtain ⟨rfl, rfl⟩ := he
  have hk : Keeps w (w.setCell ⟨gb, qb + i, none⟩ (.int .i64 v)) gb (gb + 1) := keeps_setCell (p := ⟨gb, qb + i, none⟩) (Nat.le_refl gb) (Nat.lt_succ_self gb) _
  exact ⟨d.da.keeps hk (by omega), d.bb.keeps hk (.inr (by omega)), hst.1, row_keeps d.row hk (by omega), d.hmd, d.hQ⟩

theorem DB.two {W w : World} {ca : Option Addr} {k kc t P : Nat} {B : Nat → Int} {h ac bu : Int} {a : Option Addr} {n c : Nat} {f : Nat → Int} {ra : Option Addr} {l : List Int} {Q : Nat} {h' ac' bu' : Int} {a' : Option Addr} {n' c' : Nat} {f' : Nat → Int} {rb : Option Addr} {rd md : Nat} {l' : List Int} (d : DB W w ca k kc B t P h ac bu a n c f ra l Q h' ac' bu' a' n' c' f' rb rd md l') : w.cell? ⟨Q, 1, none⟩ = some (.slice a' n' c') ∧ w.cell? ⟨Q, 3, none⟩ = some (.int .i64 bu') := ⟨d.bb.at 1 rfl, d.bb.at 3 rfl⟩
end Go.Proofs.Ytaenbjilcgpgcaa

namespace Go.Proofs.Ytaenbjilcgpgcaa
open Go.RowKit
set_option linter.unusedVariables false

/-- A node whose numbers are right. -/
def Neat (t : GM) : Prop := (1 ≤ t.at_ ∧ t.at_ ≤ 9999) ∧ HOk t.s t.m 0 t.h

/-- The code of a node. -/
def IsNode (t : GM) (c : Int) : Prop :=
  (¬ Neat t ∧ c = 3) ∨ (Neat t ∧ ¬ (t.n : Int) = t.s ∧ c = 2) ∨ (Neat t ∧ (t.n : Int) = t.s ∧ ¬ (∀ k, k < t.n → Word (t.f k)) ∧ c = 3) ∨ (Neat t ∧ (t.n : Int) = t.s ∧ (∀ k, k < t.n → Word (t.f k)) ∧ c = 0)

theorem isNode_some (t : GM) : ∃ c, IsNode t c := by
  by_cases h1 : Neat t
  · by_cases h2 : (t.n : Int) = t.s
    · by_cases h3 : ∀ k, k < t.n → Word (t.f k)
      · exact ⟨0, .inr (.inr (.inr ⟨h1, h2, h3, rfl⟩))⟩
      · exact ⟨3, .inr (.inr (.inl ⟨h1, h2, h3, rfl⟩))⟩
    · exact ⟨2, .inr (.inl ⟨h1, h2, rfl⟩)⟩
  · exact ⟨3, .inl ⟨h1, rfl⟩⟩

theorem isNode_zero {t : GM} (h : IsNode t 0) : Neat t ∧ (t.n : Int) = t.s ∧ ∀ k, k < t.n → Word (t.f k) := by
  rcases h with ⟨_, h⟩ | ⟨_, _, h⟩ | ⟨_, _, _, h⟩ | ⟨h1, h2, h3, _⟩
  · omega
  · omega
  · omega
  · exact ⟨h1, h2, h3⟩

theorem isNode_one {t : GM} {c c' : Int} (h : IsNode t c) (h' : IsNode t c') : c = c' := by
  rcases h with ⟨a1, rfl⟩ | ⟨a1, a2, rfl⟩ | ⟨a1, a2, a3, rfl⟩ | ⟨a1, a2, a3, rfl⟩ <;> rcases h' with ⟨b1, rfl⟩ | ⟨b1, b2, rfl⟩ | ⟨b1, b2, b3, rfl⟩ | ⟨b1, b2, b3, rfl⟩ <;> first | rfl | exact absurd b1 a1 | exact absurd a1 b1 | exact absurd b2 a2 | exact absurd a2 b2 | exact absurd b3 a3 | exact absurd a3 b3

/-- The first code of a row of nodes, or none. -/
def IsNodes (T : Nat → GM) (K : Nat) (c : Int) : Prop := (c = 0 ∧ ∀ i, i < K → IsNode (T i) 0) ∨ (¬ c = 0 ∧ ∃ i, i < K ∧ (∀ j, j < i → IsNode (T j) 0) ∧ IsNode (T i) c)

theorem isNodes_some (T : Nat → GM) : ∀ K, ∃ c, IsNodes T K c
  | 0 => ⟨0, .inl ⟨rfl, fun i hi => by omega⟩⟩
  | K + 1 => by
    obtain ⟨c, ⟨rfl, h⟩ | ⟨hc, i, hi, h1, h2⟩⟩ := isNodes_some T K
    · obtain ⟨c, hc⟩ := isNode_some (T K)
      by_cases h0 : c = 0
      · subst h0
        refine ⟨0, .inl ⟨rfl, fun i hi => ?_⟩⟩
        rcases Nat.lt_succ_iff_lt_or_eq.mp hi with h1 | rfl
        · exact h i h1
        · exact hc
      · exact ⟨c, .inr ⟨h0, K, Nat.lt_succ_self K, h, hc⟩⟩
    · exact ⟨c, .inr ⟨hc, i, by omega, h1, h2⟩⟩

theorem isNodes_zero {T : Nat → GM} {K : Nat} (h : IsNodes T K 0) : ∀ i, i < K → IsNode (T i) 0 := by
  rcases h with ⟨_, h⟩ | ⟨h, _⟩
  · exact h
  · exact absurd rfl h

/-- The first node that is not right has the code. -/
theorem isNodes_hit {T : Nat → GM} {K i : Nat} {c c' : Int} (h : IsNodes T K c) (hi : i < K) (hp : ∀ j, j < i → IsNode (T j) 0) (h' : IsNode (T i) c') (h0 : ¬ c' = 0) : c = c' := by
  rcases h with ⟨rfl, h⟩ | ⟨hc, j, hj, h1, h2⟩
  · exact absurd (isNode_one h' (h i hi)) h0
  · rcases Nat.lt_trichotomy i j with hij | rfl | hij
    · exact absurd (isNode_one h' (h1 i hij)) h0
    · exact isNode_one h2 h'
    · exact absurd (isNode_one h2 (hp j hij)) hc

theorem isNodes_all {T : Nat → GM} {K : Nat} {c : Int} (h : IsNodes T K c) (hp : ∀ j, j < K → IsNode (T j) 0) : c = 0 := by
  rcases h with ⟨rfl, _⟩ | ⟨hc, j, hj, _, h2⟩
  · rfl
  · exact absurd (isNode_one h2 (hp j hj)) hc

def MNum (te qu ha : Int) : Prop := (0 ≤ te ∧ te ≤ 3) ∧ (2 ≤ qu ∧ qu ≤ 200) ∧ (0 ≤ ha ∧ ha ≤ 99999)

def MLen (M K : Nat) : Prop := (1 ≤ (M : Int) ∧ (M : Int) ≤ 8) ∧ (0 ≤ (K : Int) ∧ (K : Int) ≤ 150)

def MSlot (M : Nat) (S : Nat → SL) : Prop := ∀ i, i < M → (0 ≤ (S i).g ∧ (S i).g ≤ 99) ∧ (0 ≤ (S i).nd ∧ (S i).nd ≤ 9999)

def MRise (K : Nat) (T : Nat → GM) : Prop := ∀ i, i + 1 < K → (T i).at_ < (T (i + 1)).at_

/-- There is a node of this number. -/
def Has (K : Nat) (T : Nat → GM) (v : Int) : Prop := ∃ j, j < K ∧ (T j).at_ = v

/-- A field that is a pointer. -/
def IsP (t : GM) (k : Nat) : Prop := t.m / P2 (k : Int) % 2 = 1

def MLead (M : Nat) (S : Nat → SL) (K : Nat) (T : Nat → GM) : Prop := (∀ i, i < M → (S i).nd = 0 ∨ Has K T (S i).nd) ∧ ∀ i, i < K → ∀ k, k < (T i).n → IsP (T i) k → (T i).f k = 0 ∨ Has K T ((T i).f k)

def MGive (M : Nat) (S : Nat → SL) : Prop := ∀ i, i < M → (S i).nd = 0 ∨ ¬ (S i).g = 0

/-- The code of a machine. -/
def IsMF (te qu ha : Int) (M : Nat) (S : Nat → SL) (K : Nat) (T : Nat → GM) (c : Int) : Prop :=
  (¬ MNum te qu ha ∧ c = 3) ∨ (MNum te qu ha ∧ ((¬ MLen M K ∧ c = 2) ∨ (MLen M K ∧ ((¬ MSlot M S ∧ c = 3) ∨ (MSlot M S ∧ ((IsNodes T K c ∧ ¬ c = 0) ∨ (IsNodes T K 0 ∧ ((¬ MRise K T ∧ c = 1) ∨ (MRise K T ∧ ((¬ MLead M S K T ∧ c = 4) ∨ (MLead M S K T ∧ ((¬ MGive M S ∧ c = 8) ∨ (MGive M S ∧ c = 0)))))))))))))

theorem isMF_some (te qu ha : Int) (M : Nat) (S : Nat → SL) (K : Nat) (T : Nat → GM) : ∃ c, IsMF te qu ha M S K T c := by
  by_cases h1 : MNum te qu ha
  · by_cases h2 : MLen M K
    · by_cases h3 : MSlot M S
      · obtain ⟨c, h4⟩ := isNodes_some T K
        by_cases h0 : c = 0
        · subst h0
          by_cases h5 : MRise K T
          · by_cases h6 : MLead M S K T
            · by_cases h7 : MGive M S
              · exact ⟨0, .inr ⟨h1, .inr ⟨h2, .inr ⟨h3, .inr ⟨h4, .inr ⟨h5, .inr ⟨h6, .inr ⟨h7, rfl⟩⟩⟩⟩⟩⟩⟩⟩
              · exact ⟨8, .inr ⟨h1, .inr ⟨h2, .inr ⟨h3, .inr ⟨h4, .inr ⟨h5, .inr ⟨h6, .inl ⟨h7, rfl⟩⟩⟩⟩⟩⟩⟩⟩
            · exact ⟨4, .inr ⟨h1, .inr ⟨h2, .inr ⟨h3, .inr ⟨h4, .inr ⟨h5, .inl ⟨h6, rfl⟩⟩⟩⟩⟩⟩⟩
          · exact ⟨1, .inr ⟨h1, .inr ⟨h2, .inr ⟨h3, .inr ⟨h4, .inl ⟨h5, rfl⟩⟩⟩⟩⟩⟩
        · exact ⟨c, .inr ⟨h1, .inr ⟨h2, .inr ⟨h3, .inl ⟨h4, h0⟩⟩⟩⟩⟩
      · exact ⟨3, .inr ⟨h1, .inr ⟨h2, .inl ⟨h3, rfl⟩⟩⟩⟩
    · exact ⟨2, .inr ⟨h1, .inl ⟨h2, rfl⟩⟩⟩
  · exact ⟨3, .inl ⟨h1, rfl⟩⟩

/-- A machine that is right. -/
structure MOk (te qu ha : Int) (M : Nat) (S : Nat → SL) (K : Nat) (T : Nat → GM) : Prop where
  num : MNum te qu ha
  len : MLen M K
  slot : MSlot M S
  node : ∀ i, i < K → IsNode (T i) 0
  rise : MRise K T
  lead : MLead M S K T
  give : MGive M S

theorem isMF_zero {te qu ha : Int} {M : Nat} {S : Nat → SL} {K : Nat} {T : Nat → GM} (h : IsMF te qu ha M S K T 0) : MOk te qu ha M S K T := by
  rcases h with ⟨_, h⟩ | ⟨h1, ⟨_, h⟩ | ⟨h2, ⟨_, h⟩ | ⟨h3, ⟨_, h⟩ | ⟨h4, ⟨_, h⟩ | ⟨h5, ⟨_, h⟩ | ⟨h6, ⟨_, h⟩ | ⟨h7, _⟩⟩⟩⟩⟩⟩⟩
  · omega
  · omega
  · omega
  · exact absurd rfl h
  · omega
  · omega
  · omega
  · exact ⟨h1, h2, h3, isNodes_zero h4, h5, h6, h7⟩

theorem rise_lt {K : Nat} {T : Nat → GM} (h : MRise K T) : ∀ j i, i < j → j < K → (T i).at_ < (T j).at_
  | 0, i, hi, _ => by omega
  | j + 1, i, hi, hj => by
    have h1 := h j hj
    rcases Nat.lt_succ_iff_lt_or_eq.mp hi with h2 | rfl
    · have := rise_lt h j i h2 (by omega); omega
    · exact h1
end Go.Proofs.Ytaenbjilcgpgcaa

namespace Go.Proofs.Ytaenbjilcgpgcaa
open Go.RowKit
set_option linter.unusedVariables false

set_option maxRecDepth 100000 in
set_option maxHeartbeats 400000 in
theorem l5Head_any (b o : Nat) (t : GM) (w : World) (hB : FivG w b o t) (hl : b < w.heap.size) :
    Calls Try.prog 159 #[.pointer (some ⟨b, o, none⟩)] w fun e w' => e = .returned (.agg #[.int .i64 t.s, .int .i64 t.m, .int .i64 0, .int .i64 t.h]) ∧ Below w.heap.size w w' := by
  obtain ⟨x0, x1, x2, x3, x4⟩ := hB
  go_enter Try.func159, Try.ntmps159
  go_wp2
  go_region
  go_wp2
  refine bodyPost_ret (v := .agg #[.int .i64 t.s, .int .i64 t.m, .int .i64 0, .int .i64 t.h]) (by simp [results, Try.results159, go_sem]) rfl ⟨rfl, ?_⟩
  repeat (first | (with_reducible refine Below.setCell ?_ (by (try simp); (try omega)) _) | (with_reducible refine Below.alloc ?_ (by (try simp); (try omega)) _) | (with_reducible refine Below.drew ?_))
  exact Below.refl _ _

set_option maxRecDepth 100000 in
set_option maxHeartbeats 800000 in
theorem l5Node_id (b o : Nat) (t : GM) (w : World) (hB : FivG w b o t) (hl : b < w.heap.size) (h0 : ¬ (1 ≤ t.at_ ∧ t.at_ ≤ 9999)) :
    Calls Try.prog 97 #[.pointer (some ⟨b, o, none⟩)] w (RetInt w 3) := by
  obtain ⟨x0, x1, x2, x3, x4⟩ := hB
  have H0 := Lib.hid h0
  clear h0
  go_enter Try.func97, Try.ntmps97
  go_wp2_with fail
  refine (l1In_no t.at_ 1 9999 _ H0.out).mono ?_
  rintro e w' ⟨rfl, rfl⟩
  go_wp2
  go_ret
  exact ⟨rfl, Below.refl _ _⟩

set_option maxRecDepth 100000 in
set_option maxHeartbeats 1600000 in
theorem l5Node_head (b o : Nat) (t : GM) (c0 c : Int) (w : World) (hB : FivG w b o t) (hl : b < w.heap.size) (hs : Src w t.a t.n t.f) (hn : t.n ≤ 1048576) (h0 : 1 ≤ t.at_ ∧ t.at_ ≤ 9999) (hf : IsHF t.s t.m 0 t.h c0) (hk : IsNode t c) :
    Calls Try.prog 97 #[.pointer (some ⟨b, o, none⟩)] w (RetInt w c) := by
  have X1 := Lib.hid hB
  have X2 := Lib.hid (hB.below (Below.refl _ _).drew hl)
  have HK := Lib.hid hk; have HF := Lib.hid hf; have S1 := Lib.hid hs
  obtain ⟨x0, x1, x2, x3, x4⟩ := hB
  clear hk hf hs
  have HI := Lib.hid h0
  obtain ⟨g1, g2⟩ := h0
  go_enter Try.func97, Try.ntmps97
  go_wp2_with fail
  go_wp2_with fail
  refine (l1In_yes t.at_ 1 9999 _ g1 g2).mono ?_
  rintro e w' ⟨rfl, rfl⟩
  go_wp2_with fail
  refine (l5Head_any b o t _ X1.out hl).mono ?_
  rintro e w1 ⟨rfl, hb⟩
  have HB1 := Lib.hid hb
  have X3 := Lib.hid (X1.out.below hb hl)
  clear hb
  go_wp2_with fail
  refine (specHF_any t.s t.m 0 t.h c0 _ HF.out).mono ?_
  rintro e w2 ⟨rfl, hb⟩
  have HB2 := Lib.hid (thru0 HB1.out hb)
  have z1 := HB1.out.size
  have X4 := Lib.hid (X3.out.below hb (by omega))
  have S2 := Lib.hid (S1.out.below HB2.out)
  clear hb X3 X2 HB1
  by_cases h3 : c0 = 0
  · subst h3
    have HN : Hid (Neat t) := Lib.hid (by
      rcases HF.out with ⟨h, _⟩ | ⟨_, h⟩
      · exact ⟨HI.out, h⟩
      · omega)
    clear HF x0 x1 x2 x3 x4
    obtain ⟨x0, x1, x2, x3, x4⟩ := X4.out
    have l2 : b < w2.heap.size := by have := HB2.out.size; omega
    by_cases h4 : (t.n : Int) = t.s
    · have h4' : ((t.n : Int) != t.s) = false := by simpa using h4
      go_wp2
      go_region
      go_wp2
      have HB3 := Lib.hid HB2.out.drew
      have X5 := Lib.hid (X4.out.below (Below.refl _ _).drew l2)
      have S3 := Lib.hid (S2.out.below (Below.refl _ _).drew)
      clear HB2 X4 S2 x0 x1 x2 x3 x4 X1 S1
      have H4 := Lib.hid h4
      clear h4 h4'
      obtain ⟨ta, hta⟩ : ∃ ta, t.a = ta := ⟨_, rfl⟩
      have HTA := Lib.hid hta
      rw [hta]
      have S4 : Hid (Src w2.drew ta t.n t.f) := Lib.hid (by rw [← hta]; exact S3.out)
      clear hta S3
      go_loopw [2, 3] (fun _ p wr => ∃ i : Nat, i ≤ t.n ∧ p = .int .i64 (i : Int) ∧ Hid (Below w.heap.size w wr) ∧ Hid (FivG wr b o t) ∧ Hid (Src wr ta t.n t.f) ∧ Hid (∀ k, k < i → Word (t.f k)) ∧ b < wr.heap.size) (fun _ p _ => t.n - (intOf p).toNat)
      case atStart => exact ⟨0, Nat.zero_le _, rfl, HB3, X5, S4, fun k hk => by omega, by simpa using l2⟩
      case round =>
        obtain ⟨i, hi, rfl, HBr, XR, SR, HW, lr⟩ := hrel
        obtain ⟨x0, x1, x2, x3, x4⟩ := XR.out
        rw [HTA.out] at x4
        by_cases hlt : i < t.n
        · have hlt' : (i : Int) < (t.n : Int) := by omega
          have hi0 : (0 : Int) ≤ (i : Int) := by omega
          rcases SR.out with h0 | ⟨b', o', rfl, hb', hc'⟩
          · omega
          have hci := hc' i hlt
          by_cases hw : Word (t.f i)
          · have HW' : Hid (∀ k, k < i + 1 → Word (t.f k)) := Lib.hid fun k hk => by
              rcases Nat.lt_succ_iff_lt_or_eq.mp hk with h1 | h1
              · exact HW.out k h1
              · subst h1; exact hw
            clear HW
            go_wp2_with fail
            refine (l1Value_yes (t.f i) _ hw).mono ?_
            rintro e w' ⟨rfl, rfl⟩
            go_wp2
            go_roundw
            case rel => first | exact ⟨i + 1, by omega, by go_num, HBr, XR, SR, HW', lr⟩ | ((repeat apply Exists.intro); exact ⟨⟨i + 1, by omega, by go_num, HBr, XR, SR, HW', lr⟩, rfl⟩)
            case measure => simp [intOf]; omega
          · have HC : Hid (c = 3) := Lib.hid (by
              rcases HK.out with ⟨h, _⟩ | ⟨_, h, _⟩ | ⟨_, _, _, h⟩ | ⟨_, _, h, _⟩
              · exact absurd HN.out h
              · exact absurd H4.out h
              · exact h
              · exact absurd (h i hlt) hw)
            obtain rfl := HC.out
            clear HK HW
            go_wp2_with fail
            refine (l1Value_no (t.f i) _ hw).mono ?_
            rintro e w' ⟨rfl, rfl⟩
            go_wp2
            go_ret
            exact ⟨rfl, HBr.out⟩
        · have HC : Hid (c = 0) := Lib.hid (by
            rcases HK.out with ⟨h, _⟩ | ⟨_, h, _⟩ | ⟨_, _, h, _⟩ | ⟨_, _, _, h⟩
            · exact absurd HN.out h
            · exact absurd H4.out h
            · exact absurd (fun k hk => HW.out k (by omega)) h
            · exact h)
          obtain rfl := HC.out
          clear HK HW
          go_wp2
          go_ret
          exact ⟨rfl, HBr.out⟩
    · have h4' : ((t.n : Int) != t.s) = true := by simpa using h4
      have HC : Hid (c = 2) := Lib.hid (by
        rcases HK.out with ⟨h, _⟩ | ⟨_, _, h⟩ | ⟨_, h, _⟩ | ⟨_, h, _⟩
        · exact absurd HN.out h
        · exact h
        · exact absurd h h4
        · exact absurd h h4)
      obtain rfl := HC.out
      clear h4 HK
      go_wp2
      go_region
      go_wp2
      go_ret
      exact ⟨rfl, HB2.out.drew⟩
  · have HC : Hid (c = 3) := Lib.hid (by
      have hno : ¬ Neat t := fun h => by
        rcases HF.out with ⟨_, h5⟩ | ⟨h5, _⟩
        · exact h3 h5
        · exact h5 h.2
      rcases HK.out with ⟨_, h⟩ | ⟨h, _⟩ | ⟨h, _⟩ | ⟨h, _⟩
      · exact h
      · exact absurd h hno
      · exact absurd h hno
      · exact absurd h hno)
    have h3' : (c0 != 0) = true := by simpa using h3
    obtain rfl := HC.out
    clear HK HF
    go_wp2
    go_ret
    exact ⟨rfl, HB2.out⟩

/-- The code of a node of a row. -/
theorem l5Node_any (b o : Nat) (t : GM) (c : Int) (w : World) (hB : FivG w b o t) (hl : b < w.heap.size) (hs : Src w t.a t.n t.f) (hn : t.n ≤ 1048576) (hk : IsNode t c) :
    Calls Try.prog 97 #[.pointer (some ⟨b, o, none⟩)] w (RetInt w c) := by
  by_cases h0 : 1 ≤ t.at_ ∧ t.at_ ≤ 9999
  · obtain ⟨c0, hf⟩ := isHF_some t.s t.m 0 t.h
    exact l5Node_head b o t c0 c w hB hl hs hn h0 hf hk
  · obtain rfl : c = 3 := by
      have hno : ¬ Neat t := fun h => h0 h.1
      rcases hk with ⟨_, h⟩ | ⟨h, _⟩ | ⟨h, _⟩ | ⟨h, _⟩
      · exact h
      · exact absurd h hno
      · exact absurd h hno
      · exact absurd h hno
    exact l5Node_id b o t w hB hl h0
end Go.Proofs.Ytaenbjilcgpgcaa

namespace Go.Proofs.Ytaenbjilcgpgcaa
open Go.RowKit
set_option linter.unusedVariables false

/-- The first place of the node of this number, or -1. -/
def IsFd (N : Nat) (T : Nat → GM) (x v : Int) : Prop := (∃ i : Nat, i < N ∧ (T i).at_ = x ∧ (∀ j, j < i → ¬ (T j).at_ = x) ∧ v = (i : Int)) ∨ (¬ Has N T x ∧ v = -1)

theorem isFd_some (N : Nat) (T : Nat → GM) (x : Int) : ∃ v, IsFd N T x v := by
  induction N with
  | zero => exact ⟨-1, .inr ⟨fun ⟨j, hj, _⟩ => by omega, rfl⟩⟩
  | succ N ih =>
    obtain ⟨v, ⟨i, hi, h1, h2, rfl⟩ | ⟨hno, rfl⟩⟩ := ih
    · exact ⟨(i : Int), .inl ⟨i, by omega, h1, h2, rfl⟩⟩
    · by_cases h : (T N).at_ = x
      · exact ⟨(N : Int), .inl ⟨N, by omega, h, fun j hj he => hno ⟨j, hj, he⟩, rfl⟩⟩
      · refine ⟨-1, .inr ⟨fun ⟨j, hj, he⟩ => ?_, rfl⟩⟩
        rcases Nat.lt_succ_iff_lt_or_eq.mp hj with h1 | h1
        · exact hno ⟨j, h1, he⟩
        · subst h1; exact h he

theorem isFd_has {N : Nat} {T : Nat → GM} {x v : Int} (h : IsFd N T x v) : (0 ≤ v ∧ Has N T x) ∨ (v = -1 ∧ ¬ Has N T x) := by
  rcases h with ⟨i, hi, h1, _, rfl⟩ | ⟨h1, rfl⟩
  · exact .inl ⟨by omega, i, hi, h1⟩
  · exact .inr ⟨rfl, h1⟩

theorem isFd_first {N i : Nat} {T : Nat → GM} {x v : Int} (h : IsFd N T x v) (hi : i < N) (hx : (T i).at_ = x) (hf : ∀ j, j < i → ¬ (T j).at_ = x) : v = (i : Int) := by
  rcases h with ⟨k, hk, h1, h2, rfl⟩ | ⟨h1, _⟩
  · rcases Nat.lt_trichotomy i k with h | rfl | h
    · exact absurd hx (h2 i h)
    · rfl
    · exact absurd h1 (hf k h)
  · exact absurd ⟨i, hi, hx⟩ h1

theorem isFd_none {N : Nat} {T : Nat → GM} {x v : Int} (h : IsFd N T x v) (hf : ∀ j, j < N → ¬ (T j).at_ = x) : v = -1 := by
  rcases h with ⟨k, hk, h1, h2, rfl⟩ | ⟨_, rfl⟩
  · exact absurd h1 (hf k hk)
  · rfl

set_option maxRecDepth 100000 in
set_option maxHeartbeats 1600000 in
theorem l5Find_any (a : Option Addr) (N k : Nat) (T : Nat → GM) (x v : Int) (w : World) (hg : NV w a N T) (hN : N ≤ 1048576) (hv : IsFd N T x v) :
    Calls Try.prog 158 #[.slice a N k, .int .i64 x] w fun e w' => e = .returned (.int .i64 v) ∧ w = w' := by
  have G := Lib.hid hg; have HV := Lib.hid hv
  clear hg hv
  go_enter Try.func158, Try.ntmps158
  go_wp2
  go_loop [5] (fun p => ∃ i : Nat, i ≤ N ∧ p = .int .i64 (i : Int) ∧ Hid (∀ j, j < i → ¬ (T j).at_ = x)) (fun p => N - (intOf p).toNat)
  case atStart => exact ⟨0, Nat.zero_le _, rfl, Lib.hid (fun j hj => by omega)⟩
  case round =>
    obtain ⟨i, hi, rfl, HD⟩ := hrel
    by_cases hlt : i < N
    · have hlt' : (i : Int) < (N : Int) := by omega
      have hi0 : (0 : Int) ≤ (i : Int) := by omega
      rcases G.out with h0 | ⟨b, q, rfl, hg⟩
      · omega
      have lt := hg.lt
      obtain ⟨x0, x1, x2, x3, x4⟩ := hg.six i hlt
      clear hg
      by_cases hx : (T i).at_ = x
      · have hx' : ((T i).at_ == x) = true := by simpa using hx
        obtain rfl : v = (i : Int) := isFd_first HV.out hlt hx HD.out
        clear hx
        go_wp2
        go_ret
        exact ⟨rfl, rfl⟩
      · have hx' : ((T i).at_ == x) = false := by simpa using hx
        have HD' : Hid (∀ j, j < i + 1 → ¬ (T j).at_ = x) := Lib.hid fun j hj => by
          rcases Nat.lt_succ_iff_lt_or_eq.mp hj with h1 | h1
          · exact HD.out j h1
          · subst h1; exact hx
        clear hx HD
        go_wp2
        go_round
        case rel => first | exact ⟨i + 1, by omega, by go_num, HD'⟩ | ((repeat apply Exists.intro); exact ⟨⟨i + 1, by omega, by go_num, HD'⟩, rfl⟩)
        case measure => simp [intOf]; omega
    · have hlt' : ¬ (i : Int) < (N : Int) := by omega
      obtain rfl : v = -1 := isFd_none HV.out fun j hj => HD.out j (by omega)
      go_wp2
      go_ret
      exact ⟨rfl, rfl⟩

set_option maxRecDepth 100000 in
set_option maxHeartbeats 3200000 in
theorem l5Leads_any (g : Nat) (te qu ha : Int) (sa : Option Addr) (M kc : Nat) (S : Nat → SL) (na : Option Addr) (K nc : Nat) (T : Nat → GM) (r : Bool) (w : World)
    (hB : Blk w g [.int .i64 te, .int .i64 qu, .int .i64 ha, .slice sa M kc, .slice na K nc]) (hp : PV w sa M S) (hg : NV w na K T) (hM : M ≤ 1000) (hK : K ≤ 1000) (hn : ∀ i, i < K → IsNode (T i) 0) (hr : r = true ↔ MLead M S K T) :
    Calls Try.prog 98 #[.pointer (some ⟨g, 0, none⟩)] w (RetBool w r) := by
  have B := Lib.hid hB; have P := Lib.hid hp; have G := Lib.hid hg; have HN := Lib.hid hn; have HR := Lib.hid hr
  clear hB hp hg hn hr
  go_enter Try.func98, Try.ntmps98
  go_wp2
  go_loopw [2, 3] (fun u p wr => ∃ i : Nat, i ≤ M ∧ p = .int .i64 (i : Int) ∧ Hid (Below w.heap.size w wr) ∧ Hid (∀ j, j < i → (S j).nd = 0 ∨ Has K T (S j).nd)) (fun _ p _ => M - (intOf p).toNat)
  case atStart => exact ⟨0, Nat.zero_le _, rfl, Below.refl _ _, Lib.hid (fun j hj => by omega)⟩
  case round =>
    obtain ⟨i, hi, rfl, HBr, HD⟩ := hrel
    have b3 := (B.out.below HBr.out).at 3 rfl; have b4 := (B.out.below HBr.out).at 4 rfl; have lB := (B.out.below HBr.out).1
    by_cases hlt : i < M
    · have hlt' : (i : Int) < (M : Int) := by omega
      have hi0 : (0 : Int) ≤ (i : Int) := by omega
      rcases P.out.below HBr.out with h0 | ⟨b, q, rfl, hg⟩
      · omega
      have lt := hg.lt
      obtain ⟨x0, x1⟩ := hg.two i hlt
      clear hg
      have HNX : Hid ((S i).nd = 0 ∨ Has K T (S i).nd → ∀ j, j < i + 1 → (S j).nd = 0 ∨ Has K T (S j).nd) := Lib.hid fun h j hj => by
        rcases Nat.lt_succ_iff_lt_or_eq.mp hj with h1 | h1
        · exact HD.out j h1
        · subst h1; exact h
      have HNO : Hid (¬ ((S i).nd = 0 ∨ Has K T (S i).nd) → r = false) := Lib.hid fun h => by
        cases hq : r
        · rfl
        · exact absurd ((HR.out.1 hq).1 i hlt) h
      by_cases hx : (S i).nd = 0
      · have hx' : ((S i).nd != 0) = false := by simpa using hx
        have HD' := Lib.hid (HNX.out (.inl hx))
        clear hx HD HNX HNO
        go_wp2_with fail
        go_quiet (fail)
        go_wp2
        exact ⟨⟨i + 1, by omega, by go_num, Lib.hid (below_drewN HBr.out _), HD'⟩, by simp [intOf]; omega⟩
      · have hx' : ((S i).nd != 0) = true := by simpa using hx
        have HX := Lib.hid hx
        obtain ⟨v, hv⟩ := isFd_some K T (S i).nd
        have HV := Lib.hid hv
        have G1 := Lib.hid (G.out.below HBr.out)
        rcases isFd_has hv with ⟨h0, hh⟩ | ⟨h0, hh⟩
        · have HD' := Lib.hid (HNX.out (.inr hh))
          have hv0 : ¬ v < 0 := by omega
          clear hx HD HNX HNO hv hh
          go_wp2_with fail
          go_quiet (exact Calls.quiet_of_same (Calls.mono (l5Find_any na K nc T (S i).nd v _ (G1.out.below (drewN_below _ _)) (show K ≤ 1048576 by omega) HV.out) fun _ _ h => ⟨h.1, h.2.symm⟩))
          go_wp2
          exact ⟨⟨i + 1, by omega, by go_num, Lib.hid (below_drewN HBr.out _), HD'⟩, by simp [intOf]; omega⟩
        · obtain rfl := HNO.out (fun h => h.elim hx hh)
          have hv0 : v < 0 := by omega
          clear hx HD HNX HNO hv hh
          go_wp2_with fail
          go_quiet (first | exact Calls.quiet_of_same (Calls.mono (l5Find_any na K nc T (S i).nd v _ (G1.out.below (drewN_below _ _)) (show K ≤ 1048576 by omega) HV.out) fun _ _ h => ⟨h.1, h.2.symm⟩))
          go_wp2
          go_ret
          exact ⟨rfl, below_drewN HBr.out _⟩
    · have hlt' : ¬ (i : Int) < (M : Int) := by omega
      obtain rfl : i = M := by omega
      have HS := Lib.hid (show ∀ j, j < i → (S j).nd = 0 ∨ Has K T (S j).nd from HD.out)
      have HB0 := HBr
      clear HD HBr
      go_wp2
      go_loopw [2, 4] (fun u p wr => ∃ j : Nat, j ≤ K ∧ p = .int .i64 (j : Int) ∧ Hid (Below w.heap.size w wr) ∧ Hid (∀ i, i < j → ∀ k, k < (T i).n → IsP (T i) k → (T i).f k = 0 ∨ Has K T ((T i).f k))) (fun _ p _ => K - (intOf p).toNat)
      case atStart => exact ⟨0, Nat.zero_le _, rfl, HB0, Lib.hid (fun j hj => by omega)⟩
      case round =>
        obtain ⟨j, hj, rfl, HBr, HD⟩ := hrel
        have b3 := (B.out.below HBr.out).at 3 rfl; have b4 := (B.out.below HBr.out).at 4 rfl; have lB := (B.out.below HBr.out).1
        by_cases hlt : j < K
        · have hlt' : (j : Int) < (K : Int) := by omega
          have hj0 : (0 : Int) ≤ (j : Int) := by omega
          rcases G.out.below HBr.out with h0 | ⟨b, q, rfl, hg⟩
          · omega
          have lt := hg.lt
          have six := hg.six j hlt
          have FV := Lib.hid six
          have SR := Lib.hid (hg.flds j hlt)
          clear hg six
          have HNI := Lib.hid (isNode_zero (HN.out j hlt))
          obtain ⟨t, ht⟩ : ∃ t, T j = t := ⟨_, rfl⟩
          rw [ht] at HNI
          have FV' : Hid (FivG wr b (q + j * 5) t) := Lib.hid (by rw [← ht]; exact FV.out)
          have SR' : Hid (Src wr t.a t.n t.f) := Lib.hid (by rw [← ht]; exact SR.out)
          have HT := Lib.hid ht
          have HRF : Hid (r = true → ∀ k, k < t.n → IsP t k → t.f k = 0 ∨ Has K T (t.f k)) := Lib.hid (by rw [← ht]; exact fun h => (HR.out.1 h).2 j hlt)
          have HDN : Hid ((∀ k, k < t.n → IsP t k → t.f k = 0 ∨ Has K T (t.f k)) → ∀ i, i < j + 1 → ∀ k, k < (T i).n → IsP (T i) k → (T i).f k = 0 ∨ Has K T ((T i).f k)) := Lib.hid (by
            rw [← ht]
            intro h i hi
            rcases Nat.lt_succ_iff_lt_or_eq.mp hi with h1 | h1
            · exact HD.out i h1
            · subst h1; exact h)
          clear ht FV SR HD
          go_wp2_with fail
          refine (l5Head_any b (q + j * 5) t _ FV'.out lt).mono ?_
          rintro e w1 ⟨rfl, hb⟩
          have HB1 := Lib.hid (thru0 HBr.out hb)
          have F1 := Lib.hid ((FV'.out.below hb lt).below ((Below.refl _ _).alloc (Nat.le_refl _) (.cells #[.int .i64 t.s, .int .i64 t.m, .int .i64 0, .int .i64 t.h] 93)) (by have := hb.size; omega))
          have S1 := Lib.hid ((SR'.out.below hb).alloc (.cells #[.int .i64 t.s, .int .i64 t.m, .int .i64 0, .int .i64 t.h] 93))
          have HB2 : Hid (Below w.heap.size w (w1.alloc (.cells #[.int .i64 t.s, .int .i64 t.m, .int .i64 0, .int .i64 t.h] 93))) := Lib.hid (HB1.out.alloc HB1.out.size _)
          have K1 := Lib.hid (Blk.new_at (w := w1) (cs := #[.int .i64 t.s, .int .i64 t.m, .int .i64 0, .int .i64 t.h]) (t := 93) w1.heap.size rfl)
          have lb1 : b < w1.heap.size := by have := hb.size; omega
          clear hb b3 b4 lB lt FV' SR' HB1 HBr
          obtain ⟨ta, hta⟩ : ∃ ta, t.a = ta := ⟨_, rfl⟩
          have HTA := Lib.hid hta
          rw [hta] at S1
          clear hta
          have hsz : (t.n : Int) = t.s := HNI.out.2.1
          have hs12 : t.s ≤ 12 := HNI.out.1.2.1.2
          have HM : Hid (0 ≤ t.m ∧ t.m ≤ 4095) := Lib.hid (by have h1 := HNI.out.1.2.2.1; have h2 := P2_le hs12; omega)
          have HSZ := Lib.hid hsz
          clear hsz
          go_wp2
          go_loopw [2, 7] (fun u p wr => ∃ k : Nat, k ≤ t.n ∧ p = .int .i64 (k : Int) ∧ Hid (Below w.heap.size w wr) ∧ Hid (FivG wr b (q + j * 5) t) ∧ Hid (Src wr ta t.n t.f) ∧ Hid (Blk wr w1.heap.size [.int .i64 t.s, .int .i64 t.m, .int .i64 0, .int .i64 t.h]) ∧ Hid (∀ i, i < k → IsP t i → t.f i = 0 ∨ Has K T (t.f i)) ∧ w1.heap.size < wr.heap.size) (fun _ p _ => t.n - (intOf p).toNat)
          case atStart => exact ⟨0, Nat.zero_le _, rfl, HB2, F1, S1, K1, Lib.hid (fun i hi => by omega), by simp⟩
          case round =>
            obtain ⟨k, hk, rfl, HBr, XR, SR, BK, HP, l1q⟩ := hrel
            have lr : b < wr.heap.size := by omega
            obtain ⟨x0, x1, x2, x3, x4⟩ := XR.out
            rw [HTA.out] at x4
            have b4 := (B.out.below HBr.out).at 4 rfl; have lB := (B.out.below HBr.out).1
            have z1 := BK.out.at 1 rfl
            have hk0 : (0 : Int) ≤ (k : Int) := by omega
            by_cases hkn : k < t.n
            · have hks : (k : Int) < t.s := by have := HSZ.out; omega
              have hkn' : (k : Int) < (t.n : Int) := by omega
              rcases SR.out with h0 | ⟨b', o', rfl, hb', hc'⟩
              · omega
              have hck := hc' k hkn
              have HPN : Hid ((IsP t k → t.f k = 0 ∨ Has K T (t.f k)) → ∀ i, i < k + 1 → IsP t i → t.f i = 0 ∨ Has K T (t.f i)) := Lib.hid fun h i hi => by
                rcases Nat.lt_succ_iff_lt_or_eq.mp hi with h1 | h1
                · exact HP.out i h1
                · subst h1; exact h
              have G1 := Lib.hid (G.out.below HBr.out)
              rcases (show IsP t k ∨ t.m / P2 (k : Int) % 2 = 0 by unfold IsP; omega) with hd | hd
              · have HD1 := Lib.hid hd
                unfold IsP at hd
                by_cases hx : t.f k = 0
                · have hx' : (t.f k != 0) = false := by simpa using hx
                  have HP' := Lib.hid (HPN.out fun _ => .inl hx)
                  clear hx HPN HP
                  go_wp2_with fail
                  go_quiet (first | exact Calls.quiet_of (l2Pointer_at w1.heap.size 0 k t.m true _ (((drewN_below wr _).cell (p := ⟨w1.heap.size, 0 + 1, none⟩) l1q).trans z1) HM.out (by omega) (by rw [hd]; rfl)))
                  clear hd
                  go_wp2
                  first | (exact ⟨⟨k + 1, by omega, by go_num, Lib.hid (below_drewN HBr.out _), Lib.hid (XR.out.below (drewN_below _ _) lr), Lib.hid (SR.out.below (drewN_below _ _)), Lib.hid (BK.out.below (drewN_below _ _)), HP', by have := (drewN_below wr nq).size; omega⟩, by simp [intOf]; omega⟩)
                · have hx' : (t.f k != 0) = true := by simpa using hx
                  obtain ⟨v, hv⟩ := isFd_some K T (t.f k)
                  have HV := Lib.hid hv
                  rcases isFd_has hv with ⟨h0, hh⟩ | ⟨h0, hh⟩
                  · have HP' := Lib.hid (HPN.out fun _ => .inr hh)
                    have hv0 : ¬ v < 0 := by omega
                    clear hx HPN HP hv hh
                    go_wp2_with fail
                    go_quiet (first | exact Calls.quiet_of (l2Pointer_at w1.heap.size 0 k t.m true _ (((drewN_below wr _).cell (p := ⟨w1.heap.size, 0 + 1, none⟩) l1q).trans z1) HM.out (by omega) (by rw [hd]; rfl)) | exact Calls.quiet_of_same (Calls.mono (l5Find_any _ K nc T (t.f k) v _ (G1.out.below (drewN_below _ _)) (show K ≤ 1048576 by omega) HV.out) fun _ _ h => ⟨h.1, h.2.symm⟩))
                    clear hd
                    go_wp2
                    first | (exact ⟨⟨k + 1, by omega, by go_num, Lib.hid (below_drewN HBr.out _), Lib.hid (XR.out.below (drewN_below _ _) lr), Lib.hid (SR.out.below (drewN_below _ _)), Lib.hid (BK.out.below (drewN_below _ _)), HP', by have := (drewN_below wr nq).size; omega⟩, by simp [intOf]; omega⟩)
                  · have hrf : Hid (r = false) := Lib.hid (by
                      cases hq : r
                      · rfl
                      · exact absurd (HRF.out hq k hkn HD1.out) (fun h => h.elim hx hh))
                    have hv0 : v < 0 := by omega
                    clear hx HPN HP hv hh
                    go_wp2_with fail
                    go_quiet (first | exact Calls.quiet_of (l2Pointer_at w1.heap.size 0 k t.m true _ (((drewN_below wr _).cell (p := ⟨w1.heap.size, 0 + 1, none⟩) l1q).trans z1) HM.out (by omega) (by rw [hd]; rfl)) | exact Calls.quiet_of_same (Calls.mono (l5Find_any _ K nc T (t.f k) v _ (G1.out.below (drewN_below _ _)) (show K ≤ 1048576 by omega) HV.out) fun _ _ h => ⟨h.1, h.2.symm⟩))
                    clear hd
                    go_wp2
                    go_ret
                    exact ⟨by rw [hrf.out]; rfl, below_drewN HBr.out _⟩
              · have HP' := Lib.hid (HPN.out fun h => by unfold IsP at h; omega)
                clear HPN HP
                go_wp2_with fail
                go_quiet (first | exact Calls.quiet_of (l2Pointer_at w1.heap.size 0 k t.m false _ (((drewN_below wr _).cell (p := ⟨w1.heap.size, 0 + 1, none⟩) l1q).trans z1) HM.out (by omega) (by rw [hd]; rfl)))
                clear hd
                go_wp2
                first | (exact ⟨⟨k + 1, by omega, by go_num, Lib.hid (below_drewN HBr.out _), Lib.hid (XR.out.below (drewN_below _ _) lr), Lib.hid (SR.out.below (drewN_below _ _)), Lib.hid (BK.out.below (drewN_below _ _)), HP', by have := (drewN_below wr nq).size; omega⟩, by simp [intOf]; omega⟩)
            · have hks : ¬ (k : Int) < t.s := by have := HSZ.out; omega
              have HD' := Lib.hid (HDN.out (fun i hi => HP.out i (by omega)))
              clear HP z1 x0 x2 x3 x4
              go_wp2
              exact ⟨⟨j + 1, by omega, by go_num, HBr, HD'⟩, by simp [intOf]; omega⟩
        · have hlt' : ¬ (j : Int) < (K : Int) := by omega
          have hrt : Hid (r = true) := Lib.hid (HR.out.2 ⟨HS.out, fun i hi => HD.out i (by omega)⟩)
          go_wp2
          go_ret
          exact ⟨by rw [hrt.out]; rfl, HBr.out⟩
end Go.Proofs.Ytaenbjilcgpgcaa

namespace Go.Proofs.Ytaenbjilcgpgcaa
open Go.RowKit
set_option linter.unusedVariables false

set_option maxRecDepth 100000 in
theorem nw1_any (t : GM) (at_ : Int) (w : World) : Calls Try.prog 193 #[.agg #[.int .i64 t.at_, .int .i64 t.s, .int .i64 t.m, .int .i64 t.h, .slice t.a t.n t.c], .int .i64 at_] w (fun e w' => e = .returned (.int .i64 (sgn t.at_ at_)) ∧ Below w.heap.size w w') := by
  go_enter Try.func193, Try.ntmps193
  go_wp2_with (go_at_call 194; refine (compare_any t.at_ at_ _).mono ?_; rintro e w1 ⟨rfl, hb1⟩)
  go_ret
  exact ⟨rfl, ((Below.refl _ _).alloc (Nat.le_refl _) _).trans (hb1.mono (by simp))⟩

set_option maxRecDepth 100000 in
set_option maxHeartbeats 1600000 in
theorem bsn_any (a : Option Addr) (N k : Nat) (T : Nat → GM) (at_ : Int) (w : World) (hg : NV w a N T) (hN : N ≤ 1048576) (hm : ∀ i j, i < j → j < N → (T i).at_ < (T j).at_) :
    Calls Try.prog 192 #[.slice a N k, .int .i64 at_, .func (.func 193) #[] #[]] w (fun e w' => ∃ i : Nat, i ≤ N ∧ Cut T N at_ i i ∧ e = .returned (.tuple #[.int .i64 (i : Int), .bool (decide (i < N ∧ (T i).at_ = at_))]) ∧ Below w.heap.size w w') := by
  have G := Lib.hid hg; have HM := Lib.hid hm
  clear hg hm
  have eg : ∀ args w, (callFunc 193 args).run Try.prog w = .ok (.enter 193 args) w := enters_of Try.func193 (by kernel_rfl) rfl
  go_enter Try.func192, Try.ntmps192
  go_wp2
  go_loopw [9, 10] (fun p r wr => ∃ lo hi : Nat, p = .int .i64 (lo : Int) ∧ r = .int .i64 (hi : Int) ∧ lo ≤ hi ∧ hi ≤ N ∧ Hid (Cut T N at_ lo hi) ∧ Hid (Below w.heap.size w wr)) (fun p r _ => (intOf r).toNat - (intOf p).toNat)
  case atStart => exact ⟨0, N, rfl, rfl, Nat.zero_le _, Nat.le_refl _, ⟨fun j hj => by omega, fun j h1 h2 => by omega⟩, Below.refl _ _⟩
  case round =>
    obtain ⟨lo, hi, rfl, rfl, hlh, hin, HC, HBr⟩ := hrel
    by_cases hlt : lo < hi
    · have hlt' : (lo : Int) < (hi : Int) := by omega
      obtain ⟨b, q, rfl, gs⟩ : ∃ b q, a = some ⟨b, q, none⟩ ∧ NSrc w b q N T := by
        rcases G.out with h0 | h
        · omega
        · exact h
      have fiv := (gs.six ((lo + hi) / 2) (by omega)).below HBr.out gs.lt
      have HS := Lib.hid fiv
      clear fiv gs
      obtain ⟨s0, s1, s2, s3, s4⟩ := HS.out
      by_cases hx : (T ((lo + hi) / 2)).at_ < at_
      · have hs : sgn (T ((lo + hi) / 2)).at_ at_ < 0 := by unfold sgn; rw [if_pos hx]; omega
        have C1 : Hid (Cut T N at_ ((lo + hi) / 2 + 1) hi) := Lib.hid ⟨fun j hj => by
          rcases Nat.lt_or_ge j ((lo + hi) / 2) with h | h
          · exact Int.lt_trans (HM.out j _ h (by omega)) hx
          · rw [show j = (lo + hi) / 2 by omega]; exact hx, HC.out.2⟩
        clear hx HC
        go_wp2_with (go_at_fn 193; refine (nw1_any (T _) at_ _).mono ?_; rintro e w1 ⟨rfl, hb1⟩)
        clear hs s0 s1 s2 s3 s4 HS
        have HB1 := Lib.hid (HBr.out.trans ((Below.refl _ _).trans (hb1.mono HBr.out.size)))
        clear hb1
        go_roundw
        case measure => simp [intOf]; omega
        case rel => exact ⟨(lo + hi) / 2 + 1, hi, by go_num, rfl, by omega, hin, C1, HB1⟩
      · have hs : ¬ sgn (T ((lo + hi) / 2)).at_ at_ < 0 := by unfold sgn; rw [if_neg hx]; split <;> omega
        have C1 : Hid (Cut T N at_ lo ((lo + hi) / 2)) := Lib.hid ⟨HC.out.1, fun j h1 h2 => by
          rcases Nat.lt_or_ge ((lo + hi) / 2) j with h | h
          · exact Int.le_of_lt (Int.lt_of_le_of_lt (by omega) (HM.out _ j h h2))
          · rw [show j = (lo + hi) / 2 by omega]; omega⟩
        clear hx HC
        go_wp2_with (go_at_fn 193; refine (nw1_any (T _) at_ _).mono ?_; rintro e w1 ⟨rfl, hb1⟩)
        clear hs s0 s1 s2 s3 s4 HS
        have HB1 := Lib.hid (HBr.out.trans ((Below.refl _ _).trans (hb1.mono HBr.out.size)))
        clear hb1
        go_roundw
        case measure => simp [intOf]; omega
        case rel => exact ⟨lo, (lo + hi) / 2, rfl, by go_num, by omega, by omega, C1, HB1⟩
    · obtain rfl : hi = lo := by omega
      have hlt' : ¬ (hi : Int) < (hi : Int) := by omega
      by_cases hn : hi < N
      · have hn' : (hi : Int) < (N : Int) := by omega
        obtain ⟨b, q, rfl, gs⟩ : ∃ b q, a = some ⟨b, q, none⟩ ∧ NSrc w b q N T := by
          rcases G.out with h0 | h
          · omega
          · exact h
        have fiv := (gs.six hi hn).below HBr.out gs.lt
        have HS := Lib.hid fiv
        clear fiv gs
        obtain ⟨s0, s1, s2, s3, s4⟩ := HS.out
        obtain ⟨t, ht⟩ : ∃ t, T hi = t := ⟨_, rfl⟩
        rw [ht] at s0 s1 s2 s3 s4
        have HT := Lib.hid ht
        clear ht HS
        have hd : Hid ((sgn t.at_ at_ == 0) = decide (hi < N ∧ (T hi).at_ = at_)) := Lib.hid (by
          rw [HT.out]
          by_cases hx : t.at_ = at_
          · have : sgn t.at_ at_ = 0 := by unfold sgn; rw [if_neg (by omega), if_neg (by omega)]
            rw [this, decide_eq_true ⟨hn, hx⟩]; rfl
          · have : ¬ sgn t.at_ at_ = 0 := by unfold sgn; split; omega; split <;> omega
            rw [decide_eq_false (fun h => hx h.2)]; simpa using this)
        go_wp2_with (go_at_fn 193; refine (nw1_any t at_ _).mono ?_; rintro e w1 ⟨rfl, hb1⟩)
        have HB1 := Lib.hid (HBr.out.trans ((Below.refl _ _).trans (hb1.mono HBr.out.size)))
        go_ret2
        exact ⟨hi, hin, HC.out, by rw [← hd.out]; rfl, HB1.out⟩
      · have hn' : ¬ (hi : Int) < (N : Int) := by omega
        have hd : Hid (false = decide (hi < N ∧ (T hi).at_ = at_)) := Lib.hid (decide_eq_false (fun h => hn h.1)).symm
        go_wp2
        go_ret2
        refine ⟨hi, hin, HC.out, ?_, HBr.out⟩
        rw [decide_eq_false hn]; rfl
end Go.Proofs.Ytaenbjilcgpgcaa

namespace Go.Proofs.Ytaenbjilcgpgcaa
open Go.RowKit
set_option linter.unusedVariables false

/-- A pointer to the node of this number, or none. -/
def RetNW (W : World) (a : Option Addr) (N : Nat) (T : Nat → GM) (x : Int) (e : Ending) (w' : World) : Prop :=
  Below W.heap.size W w' ∧ ((∃ i b q, i < N ∧ (T i).at_ = x ∧ a = some ⟨b, q, none⟩ ∧ e = .returned (.pointer (some ⟨b, q + i * 5, none⟩))) ∨ (¬ Has N T x ∧ e = .returned (.pointer none)))

set_option maxRecDepth 100000 in
set_option maxHeartbeats 1600000 in
theorem nodeWith_any (a : Option Addr) (N k : Nat) (T : Nat → GM) (x : Int) (w : World) (hg : NV w a N T) (hN : N ≤ 1048576) (hm : ∀ i j, i < j → j < N → (T i).at_ < (T j).at_) :
    Calls Try.prog 152 #[.slice a N k, .int .i64 x] w (RetNW w a N T x) := by
  have G := Lib.hid hg; have HM := Lib.hid hm
  clear hg hm
  go_enter Try.func152, Try.ntmps152
  go_wp2_with fail
  refine (bsn_any a N k T x _ G.out hN HM.out).mono ?_
  rintro e w1 ⟨i, hi, hc, rfl, hb⟩
  have HB1 := Lib.hid (thru0 (Below.refl _ _) hb)
  have G1 := Lib.hid (G.out.below hb)
  clear hb
  have HC := Lib.hid hc
  clear hc
  by_cases hx : i < N ∧ (T i).at_ = x
  · rw [decide_eq_true hx]
    obtain ⟨b, q, rfl, gs⟩ : ∃ b q, a = some ⟨b, q, none⟩ ∧ NSrc w1 b q N T := by
      rcases G1.out with h0 | h
      · omega
      · exact h
    have HS := Lib.hid (gs.six i hx.1)
    clear gs
    have hi' : (i : Int) < (N : Int) := by omega
    have hi0 : (0 : Int) ≤ (i : Int) := by omega
    obtain ⟨s0, s1, s2, s3, s4⟩ := HS.out
    have HX := Lib.hid hx
    clear hx
    go_wp2
    go_ret
    exact ⟨HB1.out, .inl ⟨i, b, q, HX.out.1, HX.out.2, rfl, rfl⟩⟩
  · rw [decide_eq_false hx]
    have HP : Hid (¬ Has N T x) := Lib.hid (fun ⟨j, hj, he⟩ => by
      rcases Nat.lt_or_ge j i with h | h
      · have := HC.out.1 j h; omega
      · have h2 := HC.out.2 i (Nat.le_refl _) (by omega)
        rcases Nat.lt_or_ge i j with h3 | h3
        · have := HM.out i j h3 hj; omega
        · exact hx ⟨by omega, by rw [show i = j by omega]; exact he⟩)
    clear hx HC
    go_wp2
    go_ret
    exact ⟨HB1.out, .inr ⟨HP.out, rfl⟩⟩

/-- A number that leads nowhere. -/
def Stray (N : Nat) (T : Nat → GM) (x : Int) : Prop := ¬ x = 0 ∧ ¬ Has N T x

/-- What the closure reads. -/
structure CapN (w : World) (rb : Nat) (a : Option Addr) (N k : Nat) (T : Nat → GM) : Prop where
  blk : Blk w rb [.slice a N k]
  nv : NV w a N T

theorem CapN.below {w w' : World} {rb N k : Nat} {a : Option Addr} {T : Nat → GM} (h : CapN w rb a N k T) (hb : Below w.heap.size w w') : CapN w' rb a N k T := ⟨h.blk.below hb, h.nv.below hb⟩

set_option maxRecDepth 100000 in
set_option maxHeartbeats 800000 in
theorem stray1_any (rb : Nat) (a : Option Addr) (N k : Nat) (T : Nat → GM) (x : Int) (r : Bool) (w : World) (h : CapN w rb a N k T) (hN : N ≤ 1048576) (hm : ∀ i j, i < j → j < N → (T i).at_ < (T j).at_) (hr : r = true ↔ Stray N T x) :
    Calls Try.prog 190 #[.int .i64 x, .pointer (some ⟨rb, 0, none⟩)] w (RetBool w r) := by
  have H := Lib.hid h; have HM := Lib.hid hm; have HR := Lib.hid hr
  clear h hm hr
  have c0 := H.out.blk.at 0 rfl; have l0 := H.out.blk.1
  by_cases hx : x = 0
  · obtain rfl : r = false := by
      cases r
      · rfl
      · exact absurd hx (HR.out.1 rfl).1
    subst hx
    go_enter Try.func190, Try.ntmps190
    go_wp2
    go_ret
    exact ⟨rfl, Below.refl _ _⟩
  · have hx' : (x != 0) = true := by simpa using hx
    go_enter Try.func190, Try.ntmps190
    go_wp2_with fail
    refine (nodeWith_any a N k T x _ H.out.nv hN HM.out).mono ?_
    rintro e w1 ⟨hb, hres⟩
    have HB1 := Lib.hid hb
    clear hb
    rcases hres with ⟨i, b, q, hi, he, rfl, rfl⟩ | ⟨hno, rfl⟩
    · obtain rfl : r = false := by
        cases r
        · rfl
        · exact absurd ⟨i, hi, he⟩ (HR.out.1 rfl).2
      go_wp2
      go_ret
      exact ⟨rfl, HB1.out⟩
    · obtain rfl : r = true := HR.out.2 ⟨hx, hno⟩
      go_wp2
      go_ret
      exact ⟨rfl, HB1.out⟩

/-- slices.IndexFunc over numbers with that closure: the first that leads nowhere. -/
def RetIx (W : World) (n : Nat) (f : Nat → Int) (N : Nat) (T : Nat → GM) (e : Ending) (w' : World) : Prop :=
  Below W.heap.size W w' ∧ (((∀ j, j < n → ¬ Stray N T (f j)) ∧ e = .returned (.int .i64 (-1))) ∨ ∃ i : Nat, i < n ∧ Stray N T (f i) ∧ e = .returned (.int .i64 (i : Int)))

set_option maxRecDepth 100000 in
set_option maxHeartbeats 1600000 in
theorem index64_any (ia : Option Addr) (n c : Nat) (f : Nat → Int) (rb : Nat) (a : Option Addr) (N k : Nat) (T : Nat → GM) (w : World) (hs : Src w ia n f) (hn : n ≤ 1048576) (hc : CapN w rb a N k T) (hN : N ≤ 1048576) (hm : ∀ i j, i < j → j < N → (T i).at_ < (T j).at_) :
    Calls Try.prog 206 #[.slice ia n c, .func (.func 190) #[] #[.pointer (some ⟨rb, 0, none⟩)]] w (RetIx w n f N T) := by
  have S0 := Lib.hid hs; have HC := Lib.hid hc; have HM := Lib.hid hm
  have eg : ∀ args w, (callFunc 190 args).run Try.prog w = .ok (.enter 190 args) w := enters_of Try.func190 (by kernel_rfl) rfl
  clear hs hc hm
  go_enter Try.func206, Try.ntmps206
  go_wp2
  go_loopw [8] (fun p wr => ∃ i : Nat, i ≤ n ∧ p = .int .i64 (i : Int) ∧ Hid (Below w.heap.size w wr) ∧ Hid (∀ j, j < i → ¬ Stray N T (f j))) (fun p _ => n - (intOf p).toNat)
  case atStart => exact ⟨0, Nat.zero_le _, rfl, Below.refl _ _, Lib.hid (fun j hj => by omega)⟩
  case round =>
    obtain ⟨i, hi, rfl, HBr, HD⟩ := hrel
    by_cases hlt : i < n
    · have hlt' : (i : Int) < (n : Int) := by omega
      have hi0 : (0 : Int) ≤ (i : Int) := by omega
      rcases S0.out.below HBr.out with h0 | ⟨b, o, rfl, lb, hc⟩
      · omega
      have hci := hc i hlt
      have HCR := Lib.hid (HC.out.below HBr.out)
      clear hc
      by_cases hin : Stray N T (f i)
      · have HF : Hid (∃ i' : Nat, i' < n ∧ Stray N T (f i') ∧ Ending.returned (.int .i64 (i : Int)) = Ending.returned (.int .i64 (i' : Int))) := Lib.hid ⟨i, hlt, hin, rfl⟩
        have HIN := Lib.hid (show true = true ↔ Stray N T (f i) by simp [hin])
        clear hin
        go_wp2_with (go_at_fn 190; refine (stray1_any rb a N k T (f i) true _ HCR.out hN HM.out HIN.out).mono ?_; rintro e w1 ⟨rfl, hb⟩; have HB1 := Lib.hid (thru0 HBr.out hb); clear hb)
        go_ret
        exact ⟨HB1.out, .inr HF.out⟩
      · have HD' : Hid (∀ j, j < i + 1 → ¬ Stray N T (f j)) := Lib.hid fun j hj => by
          rcases Nat.lt_succ_iff_lt_or_eq.mp hj with h1 | h1
          · exact HD.out j h1
          · subst h1; exact hin
        have HIN := Lib.hid (show false = true ↔ Stray N T (f i) by simp [hin])
        clear hin HD
        go_wp2_with (go_at_fn 190; refine (stray1_any rb a N k T (f i) false _ HCR.out hN HM.out HIN.out).mono ?_; rintro e w1 ⟨rfl, hb⟩; have HB1 := Lib.hid (thru0 HBr.out hb); clear hb)
        clear hci
        go_roundw
        case rel => first | exact ⟨i + 1, by omega, by go_num, HB1, HD'⟩ | ((repeat apply Exists.intro); exact ⟨⟨i + 1, by omega, by go_num, HB1, HD'⟩, rfl⟩)
        case measure => simp [intOf]; omega
    · have hlt' : ¬ (i : Int) < (n : Int) := by omega
      go_wp2
      go_ret
      exact ⟨HBr.out, .inl ⟨fun j hj => HD.out j (by omega), rfl⟩⟩

set_option maxRecDepth 100000 in
set_option maxHeartbeats 400000 in
theorem contains64_any (ia : Option Addr) (n c : Nat) (f : Nat → Int) (rb : Nat) (a : Option Addr) (N k : Nat) (T : Nat → GM) (r : Bool) (w : World) (hs : Src w ia n f) (hn : n ≤ 1048576) (hc : CapN w rb a N k T) (hN : N ≤ 1048576) (hm : ∀ i j, i < j → j < N → (T i).at_ < (T j).at_) (hr : r = true ↔ ∃ i, i < n ∧ Stray N T (f i)) :
    Calls Try.prog 189 #[.slice ia n c, .func (.func 190) #[] #[.pointer (some ⟨rb, 0, none⟩)]] w (RetBool w r) := by
  have HR := Lib.hid hr
  clear hr
  go_enter Try.func189, Try.ntmps189
  go_wp2_with fail
  refine (index64_any ia n c f rb a N k T _ hs hn hc hN hm).mono ?_
  rintro e w1 ⟨hb, hres⟩
  have HB1 := Lib.hid hb
  clear hb
  rcases hres with ⟨hno, rfl⟩ | ⟨i, hi, hin, rfl⟩
  · obtain rfl : r = false := by
      cases r
      · rfl
      · obtain ⟨i, hi, h⟩ := HR.out.1 rfl
        exact absurd h (hno i hi)
    go_wp2
    go_ret
    exact ⟨rfl, HB1.out⟩
  · obtain rfl : r = true := HR.out.2 ⟨i, hi, hin⟩
    have hi0 : (0 : Int) ≤ (i : Int) := by omega
    clear hin
    go_wp2
    go_ret
    exact ⟨rfl, HB1.out⟩

set_option maxRecDepth 100000 in
set_option maxHeartbeats 400000 in
theorem strayId_any (a : Option Addr) (N k : Nat) (T : Nat → GM) (ia : Option Addr) (n c : Nat) (f : Nat → Int) (r : Bool) (w : World) (hg : NV w a N T) (hN : N ≤ 1048576) (hm : ∀ i j, i < j → j < N → (T i).at_ < (T j).at_) (hs : Src w ia n f) (hn : n ≤ 1048576) (hr : r = true ↔ ∃ i, i < n ∧ Stray N T (f i)) :
    Calls Try.prog 145 #[.slice a N k, .slice ia n c] w (RetBool w r) := by
  have G0 := Lib.hid hg; have S0 := Lib.hid hs
  have X0 := Lib.hid (Blk.new_at (w := w) (cs := #[.slice a N k]) (t := 52) w.heap.size rfl)
  clear hg hs
  go_enter Try.func145, Try.ntmps145
  go_wp2_with fail
  refine (contains64_any ia n c f w.heap.size a N k T r _ (S0.out.alloc _) hn ⟨X0.out, G0.out.alloc _⟩ hN hm hr).mono ?_
  rintro e w1 ⟨rfl, hb⟩
  have HB1 := Lib.hid (thru1 (Below.refl _ _) hb)
  clear hb
  go_wp2
  go_ret
  exact ⟨rfl, HB1.out⟩
end Go.Proofs.Ytaenbjilcgpgcaa

namespace Go.Proofs.Ytaenbjilcgpgcaa
open Go.RowKit
set_option linter.unusedVariables false

set_option maxRecDepth 100000 in
set_option maxHeartbeats 6400000 in
theorem specMF_any (te qu ha : Int) (sa : Option Addr) (M kc : Nat) (S : Nat → SL) (na : Option Addr) (K nc : Nat) (T : Nat → GM) (c : Int) (w : World)
    (hp : PV w sa M S) (hg : NV w na K T) (hM : M ≤ 1048576) (hK : K ≤ 1048576) (hn : ∀ i, i < K → (T i).n ≤ 1048576) (hk : IsMF te qu ha M S K T c) :
    Calls Try.prog 37 #[.agg #[.int .i64 te, .int .i64 qu, .int .i64 ha, .slice sa M kc, .slice na K nc]] w (RetInt w c) := by
  have P0 := Lib.hid hp; have G0 := Lib.hid hg; have HN := Lib.hid hn
  clear hp hg hn
  rcases hk with ⟨h1, rfl⟩ | ⟨⟨⟨t1, t2⟩, ⟨t3, t4⟩, t5, t6⟩, hk⟩
  · by_cases g1 : 0 ≤ te ∧ te ≤ 3
    · by_cases g2 : 2 ≤ qu ∧ qu ≤ 200
      · have g3 : ¬ (0 ≤ ha ∧ ha ≤ 99999) := fun h => h1 ⟨g1, g2, h⟩
        go_enter Try.func37, Try.ntmps37
        go_wp2_with fail
        refine (l1In_yes te 0 3 _ g1.1 g1.2).mono ?_
        rintro e w' ⟨rfl, rfl⟩
        go_wp2_with fail
        refine (l1In_yes qu 2 200 _ g2.1 g2.2).mono ?_
        rintro e w' ⟨rfl, rfl⟩
        go_wp2_with fail
        refine (l1In_no ha 0 99999 _ g3).mono ?_
        rintro e w' ⟨rfl, rfl⟩
        go_wp2
        go_ret
        exact ⟨rfl, (Below.refl _ _).alloc (Nat.le_refl _) _⟩
      · go_enter Try.func37, Try.ntmps37
        go_wp2_with fail
        refine (l1In_yes te 0 3 _ g1.1 g1.2).mono ?_
        rintro e w' ⟨rfl, rfl⟩
        go_wp2_with fail
        refine (l1In_no qu 2 200 _ g2).mono ?_
        rintro e w' ⟨rfl, rfl⟩
        go_wp2
        go_ret
        exact ⟨rfl, (Below.refl _ _).alloc (Nat.le_refl _) _⟩
    · go_enter Try.func37, Try.ntmps37
      go_wp2_with fail
      refine (l1In_no te 0 3 _ g1).mono ?_
      rintro e w' ⟨rfl, rfl⟩
      go_wp2
      go_ret
      exact ⟨rfl, (Below.refl _ _).alloc (Nat.le_refl _) _⟩
  · have HK0 := Lib.hid hk
    clear hk
    go_enter Try.func37, Try.ntmps37
    go_wp2_with fail
    refine (l1In_yes te 0 3 _ t1 t2).mono ?_
    rintro e w' ⟨rfl, rfl⟩
    go_wp2_with fail
    refine (l1In_yes qu 2 200 _ t3 t4).mono ?_
    rintro e w' ⟨rfl, rfl⟩
    go_wp2_with fail
    refine (l1In_yes ha 0 99999 _ t5 t6).mono ?_
    rintro e w' ⟨rfl, rfl⟩
    have HB := Lib.hid ((Below.refl w.heap.size w).alloc (Nat.le_refl _) (.cells #[.int .i64 te, .int .i64 qu, .int .i64 ha, .slice sa M kc, .slice na K nc] 54))
    have B0 := Lib.hid (Blk.new_at (w := w) (cs := #[.int .i64 te, .int .i64 qu, .int .i64 ha, .slice sa M kc, .slice na K nc]) (t := 54) w.heap.size rfl)
    have P1 := Lib.hid (P0.out.alloc (.cells #[.int .i64 te, .int .i64 qu, .int .i64 ha, .slice sa M kc, .slice na K nc] 54))
    have G1 := Lib.hid (G0.out.alloc (.cells #[.int .i64 te, .int .i64 qu, .int .i64 ha, .slice sa M kc, .slice na K nc] 54))
    clear P0 G0
    have HW0 := Lib.hid ((Below.refl w.heap.size w).alloc (Nat.le_refl _) (.cells #[.int .i64 te, .int .i64 qu, .int .i64 ha, .slice sa M kc, .slice na K nc] 54))
    generalize w.alloc (.cells #[.int .i64 te, .int .i64 qu, .int .i64 ha, .slice sa M kc, .slice na K nc] 54) = w0 at *
    obtain ⟨b3, b4, lB⟩ := (show w0.cell? ⟨w.heap.size, 3, none⟩ = some (.slice sa M kc) ∧ w0.cell? ⟨w.heap.size, 4, none⟩ = some (.slice na K nc) ∧ w.heap.size < w0.heap.size from ⟨B0.out.at 3 rfl, B0.out.at 4 rfl, B0.out.1⟩)
    by_cases q1 : (M : Int) < 1
    · obtain rfl : c = 2 := by
        rcases HK0.out with ⟨_, h⟩ | ⟨⟨⟨m1, _⟩, _⟩, _⟩
        · exact h
        · omega
      go_wp2
      go_ret
      exact ⟨rfl, HB.out⟩
    by_cases q2 : 8 < (M : Int)
    · obtain rfl : c = 2 := by
        rcases HK0.out with ⟨_, h⟩ | ⟨⟨⟨_, m1⟩, _⟩, _⟩
        · exact h
        · omega
      go_wp2
      go_ret
      exact ⟨rfl, HB.out⟩
    by_cases q3 : 150 < (K : Int)
    · obtain rfl : c = 2 := by
        rcases HK0.out with ⟨_, h⟩ | ⟨⟨_, _, m1⟩, _⟩
        · exact h
        · omega
      go_wp2
      go_ret
      exact ⟨rfl, HB.out⟩
    rcases HK0.out with ⟨h2, _⟩ | ⟨_, hk⟩
    · exact absurd ⟨⟨by omega, by omega⟩, by omega, by omega⟩ h2
    have HK1 := Lib.hid hk
    clear hk HK0
    go_wp2
    clear b3 b4 lB q1
    go_loopw [2, 3] (fun u p wr => ∃ i : Nat, i ≤ M ∧ p = .int .i64 (i : Int) ∧ Hid (Below w0.heap.size w0 wr) ∧ Hid (∀ j, j < i → (0 ≤ (S j).g ∧ (S j).g ≤ 99) ∧ (0 ≤ (S j).nd ∧ (S j).nd ≤ 9999))) (fun _ p _ => M - (intOf p).toNat)
    case atStart => exact ⟨0, Nat.zero_le _, rfl, Below.refl _ _, Lib.hid (fun j hj => by omega)⟩
    case round =>
      obtain ⟨i, hi, rfl, HBr, HD⟩ := hrel
      have b3 := (B0.out.below HBr.out).at 3 rfl; have b4 := (B0.out.below HBr.out).at 4 rfl; have lB := (B0.out.below HBr.out).1
      by_cases hlt : i < M
      · have hlt' : (i : Int) < (M : Int) := by omega
        have hi0 : (0 : Int) ≤ (i : Int) := by omega
        rcases P1.out.below HBr.out with h0 | ⟨b, q, rfl, hg⟩
        · omega
        have lt := hg.lt
        obtain ⟨x0, x1⟩ := hg.two i hlt
        clear hg
        have HBW := Lib.hid (HW0.out.trans (HBr.out.mono HW0.out.size))
        by_cases g1 : 0 ≤ (S i).g ∧ (S i).g ≤ 99
        · by_cases g2 : 0 ≤ (S i).nd ∧ (S i).nd ≤ 9999
          · have HD' : Hid (∀ j, j < i + 1 → (0 ≤ (S j).g ∧ (S j).g ≤ 99) ∧ (0 ≤ (S j).nd ∧ (S j).nd ≤ 9999)) := Lib.hid fun j hj => by
              rcases Nat.lt_succ_iff_lt_or_eq.mp hj with h1 | h1
              · exact HD.out j h1
              · subst h1; exact ⟨g1, g2⟩
            clear HD
            go_wp2_with fail
            refine (l1In_yes (S i).g 0 99 _ g1.1 g1.2).mono ?_
            rintro e w' ⟨rfl, rfl⟩
            go_wp2_with fail
            refine (l1In_yes (S i).nd 0 9999 _ g2.1 g2.2).mono ?_
            rintro e w' ⟨rfl, rfl⟩
            go_wp2
            exact ⟨⟨i + 1, by omega, by go_num, HBr, HD'⟩, by simp [intOf]; omega⟩
          · obtain rfl : c = 3 := by
              rcases HK1.out with ⟨_, h⟩ | ⟨h, _⟩
              · exact h
              · exact absurd (h i hlt).2 g2
            clear HD HK1
            go_wp2_with fail
            refine (l1In_yes (S i).g 0 99 _ g1.1 g1.2).mono ?_
            rintro e w' ⟨rfl, rfl⟩
            go_wp2_with fail
            refine (l1In_no (S i).nd 0 9999 _ g2).mono ?_
            rintro e w' ⟨rfl, rfl⟩
            go_wp2
            go_ret
            exact ⟨rfl, HBW.out⟩
        · obtain rfl : c = 3 := by
            rcases HK1.out with ⟨_, h⟩ | ⟨h, _⟩
            · exact h
            · exact absurd (h i hlt).1 g1
          clear HD HK1
          go_wp2_with fail
          refine (l1In_no (S i).g 0 99 _ g1).mono ?_
          rintro e w' ⟨rfl, rfl⟩
          go_wp2
          go_ret
          exact ⟨rfl, HBW.out⟩
      · have hlt' : ¬ (i : Int) < (M : Int) := by omega
        rcases HK1.out with ⟨h, _⟩ | ⟨hms, hk⟩
        · exact absurd (fun j hj => HD.out j (by omega)) h
        have HK2 := Lib.hid hk
        have B1 := Lib.hid (B0.out.below HBr.out); have P2' := Lib.hid (P1.out.below HBr.out); have G2 := Lib.hid (G1.out.below HBr.out)
        have HBW := Lib.hid (HW0.out.trans (HBr.out.mono HW0.out.size))
        go_wp2
        clear HK1 HD hk b3 b4 lB HBr hlt' hlt B0 P1 G1 HW0 HB
        generalize wr = w1 at *
        go_loopw [2, 4] (fun u p wr => ∃ j : Nat, j ≤ K ∧ p = .int .i64 (j : Int) ∧ Hid (Below w1.heap.size w1 wr) ∧ Hid (∀ i, i < j → IsNode (T i) 0)) (fun _ p _ => K - (intOf p).toNat)
        case atStart => exact ⟨0, Nat.zero_le _, rfl, Below.refl _ _, Lib.hid (fun j hj => by omega)⟩
        case round =>
          obtain ⟨j, hj, rfl, HBr, HD⟩ := hrel
          have b3 := (B1.out.below HBr.out).at 3 rfl; have b4 := (B1.out.below HBr.out).at 4 rfl; have lB := (B1.out.below HBr.out).1
          have HBX := Lib.hid (HBW.out.trans (HBr.out.mono HBW.out.size))
          by_cases hlt : j < K
          · have hlt' : (j : Int) < (K : Int) := by omega
            have hj0 : (0 : Int) ≤ (j : Int) := by omega
            rcases G2.out.below HBr.out with h0 | ⟨b, q, rfl, hg⟩
            · omega
            have lt := hg.lt
            have FV := Lib.hid (hg.six j hlt)
            have SR := Lib.hid (hg.flds j hlt)
            clear hg
            obtain ⟨cj, hcj⟩ := isNode_some (T j)
            have HCJ := Lib.hid hcj
            clear hcj
            go_wp2_with fail
            refine (l5Node_any b (q + j * 5) (T j) cj _ FV.out lt SR.out (HN.out j hlt) HCJ.out).mono ?_
            rintro e w2 ⟨rfl, hb⟩
            have HB2 := Lib.hid (thru0 HBr.out hb)
            have HB3 := Lib.hid (thru0 HBX.out hb)
            clear hb
            by_cases h0 : cj = 0
            · subst h0
              have HD' : Hid (∀ i, i < j + 1 → IsNode (T i) 0) := Lib.hid fun i hi => by
                rcases Nat.lt_succ_iff_lt_or_eq.mp hi with h1 | h1
                · exact HD.out i h1
                · subst h1; exact HCJ.out
              clear HD b3 b4 lB
              go_wp2
              exact ⟨⟨j + 1, by omega, by go_num, HB2, HD'⟩, by simp [intOf]; omega⟩
            · have h0' : (cj != 0) = true := by simpa using h0
              obtain rfl : c = cj := by
                rcases HK2.out with ⟨h, _⟩ | ⟨h, _⟩
                · exact isNodes_hit h hlt HD.out HCJ.out h0
                · exact absurd (isNode_one HCJ.out (isNodes_zero h j hlt)) h0
              clear HD HK2 b3 b4 lB
              go_wp2
              go_ret
              exact ⟨rfl, HB3.out⟩
          · have hlt' : ¬ (j : Int) < (K : Int) := by omega
            obtain rfl : j = K := by omega
            rcases HK2.out with ⟨h, h0⟩ | ⟨_, hk⟩
            · exact absurd (isNodes_all h fun i hi => HD.out i hi) h0
            have HK3 := Lib.hid hk
            have HND := Lib.hid (show ∀ i, i < j → IsNode (T i) 0 from HD.out)
            have B2 := Lib.hid (B1.out.below HBr.out); have P3 := Lib.hid (P2'.out.below HBr.out); have G3 := Lib.hid (G2.out.below HBr.out)
            go_wp2
            clear HK2 HD hk b3 b4 lB HBr hlt' hlt B1 P2' G2 HBW
            generalize wr = w2 at *
            go_loopw [2, 6] (fun u p wr => ∃ i : Nat, (i = 0 ∨ i < j) ∧ p = .int .i64 ((i : Int) + 1) ∧ Hid (Below w2.heap.size w2 wr) ∧ Hid (∀ k, k < i → (T k).at_ < (T (k + 1)).at_)) (fun _ p _ => j + 1 - (intOf p).toNat)
            case atStart => exact ⟨0, .inl rfl, rfl, Below.refl _ _, Lib.hid (fun k hk => by omega)⟩
            case round =>
              obtain ⟨i, hi, rfl, HBr, HD⟩ := hrel
              have b3 := (B2.out.below HBr.out).at 3 rfl; have b4 := (B2.out.below HBr.out).at 4 rfl; have lB := (B2.out.below HBr.out).1
              have HBY := Lib.hid (HBX.out.trans (HBr.out.mono HBX.out.size))
              by_cases hlt : i + 1 < j
              · have hlt' : (i : Int) + 1 < (j : Int) := by omega
                have hi0 : (0 : Int) ≤ (i : Int) + 1 := by omega
                have hi1 : (0 : Int) ≤ (i : Int) := by omega
                have hi2 : (i : Int) < (j : Int) := by omega
                rcases G3.out.below HBr.out with h0 | ⟨b, q, rfl, hg⟩
                · omega
                have lt := hg.lt
                obtain ⟨x0, x1, x2, x3, x4⟩ := hg.six (i + 1) hlt
                obtain ⟨y0, y1, y2, y3, y4⟩ := hg.six i (by omega)
                clear hg
                by_cases hx : (T (i + 1)).at_ ≤ (T i).at_
                · obtain rfl : c = 1 := by
                    rcases HK3.out with ⟨_, h⟩ | ⟨h, _⟩
                    · exact h
                    · have := h i hlt; omega
                  clear HK3 HD
                  go_wp2
                  go_region
                  go_wp2
                  go_ret
                  exact ⟨rfl, HBY.out.drew⟩
                · have HD' : Hid (∀ k, k < i + 1 → (T k).at_ < (T (k + 1)).at_) := Lib.hid fun k hk => by
                    rcases Nat.lt_succ_iff_lt_or_eq.mp hk with h1 | h1
                    · exact HD.out k h1
                    · subst h1; omega
                  clear HD
                  go_wp2
                  go_region
                  go_wp2
                  exact ⟨⟨i + 1, .inr (by omega), by go_num, Lib.hid HBr.out.drew, HD'⟩, by simp [intOf]; omega⟩
              · have hlt' : ¬ (i : Int) + 1 < (j : Int) := by omega
                rcases HK3.out with ⟨h, _⟩ | ⟨hr, hk⟩
                · exact absurd (fun k hk => HD.out k (by omega)) h
                have HK4 := Lib.hid hk
                have B3 := Lib.hid (B2.out.below HBr.out); have P4 := Lib.hid (P3.out.below HBr.out); have G4 := Lib.hid (G3.out.below HBr.out)
                clear HK3 HD hk b3 hlt B2 P3 G3 HBX
                obtain ⟨r, hr9⟩ : ∃ r : Bool, r = true ↔ MLead M S j T := by
                  by_cases h : MLead M S j T
                  · exact ⟨true, by simp [h]⟩
                  · exact ⟨false, by simp [h]⟩
                have HR := Lib.hid hr9
                clear hr9
                go_wp2_with fail
                refine (l5Leads_any w.heap.size te qu ha sa M kc S na j nc T r _ B3.out P4.out G4.out (by omega) (by omega) HND.out HR.out).mono ?_
                rintro e w3 ⟨rfl, hb⟩
                have HBZ := Lib.hid (thru0 HBY.out hb)
                have B4 := Lib.hid (B3.out.below hb); have P5 := Lib.hid (P4.out.below hb)
                clear hb b4 lB HBr B3 P4 G4 HBY
                cases r
                · obtain rfl : c = 4 := by
                    rcases HK4.out with ⟨_, h⟩ | ⟨h, _⟩
                    · exact h
                    · exact absurd (HR.out.2 h) (by simp)
                  clear HK4
                  go_wp2
                  go_ret
                  exact ⟨rfl, HBZ.out⟩
                · have hml : MLead M S j T := HR.out.1 rfl
                  rcases HK4.out with ⟨h, _⟩ | ⟨_, hk⟩
                  · exact absurd hml h
                  have HK5 := Lib.hid hk
                  clear HK4 hk hml HR
                  go_wp2
                  go_loopw [2, 7] (fun u p wr => ∃ i : Nat, i ≤ M ∧ p = .int .i64 (i : Int) ∧ Hid (Below w3.heap.size w3 wr) ∧ Hid (∀ k, k < i → (S k).nd = 0 ∨ ¬ (S k).g = 0)) (fun _ p _ => M - (intOf p).toNat)
                  case atStart => exact ⟨0, Nat.zero_le _, rfl, Below.refl _ _, Lib.hid (fun k hk => by omega)⟩
                  case round =>
                    obtain ⟨i, hi, rfl, HBr, HD⟩ := hrel
                    have b3 := (B4.out.below HBr.out).at 3 rfl; have lB := (B4.out.below HBr.out).1
                    have HBU := Lib.hid (HBZ.out.trans (HBr.out.mono HBZ.out.size))
                    by_cases hlt : i < M
                    · have hlt' : (i : Int) < (M : Int) := by omega
                      have hi0 : (0 : Int) ≤ (i : Int) := by omega
                      rcases P5.out.below HBr.out with h0 | ⟨b, q, rfl, hg⟩
                      · omega
                      have lt := hg.lt
                      obtain ⟨x0, x1⟩ := hg.two i hlt
                      clear hg
                      have HNX : Hid ((S i).nd = 0 ∨ ¬ (S i).g = 0 → ∀ k, k < i + 1 → (S k).nd = 0 ∨ ¬ (S k).g = 0) := Lib.hid fun h k hk => by
                        rcases Nat.lt_succ_iff_lt_or_eq.mp hk with h1 | h1
                        · exact HD.out k h1
                        · subst h1; exact h
                      by_cases hx : (S i).nd = 0
                      · have hx' : ((S i).nd != 0) = false := by simpa using hx
                        have HD' := Lib.hid (HNX.out (.inl hx))
                        clear hx HD HNX
                        go_wp2
                        exact ⟨⟨i + 1, by omega, by go_num, HBr, HD'⟩, by simp [intOf]; omega⟩
                      · have hx' : ((S i).nd != 0) = true := by simpa using hx
                        by_cases hy : (S i).g = 0
                        · obtain rfl : c = 8 := by
                            rcases HK5.out with ⟨_, h⟩ | ⟨h, _⟩
                            · exact h
                            · rcases h i hlt with h | h
                              · exact absurd h hx
                              · exact absurd hy h
                          have hy' : ((S i).g == 0) = true := by simpa using hy
                          clear hx hy HD HNX HK5
                          go_wp2
                          go_ret
                          exact ⟨rfl, HBU.out⟩
                        · have hy' : ((S i).g == 0) = false := by simpa using hy
                          have HD' := Lib.hid (HNX.out (.inr hy))
                          clear hx hy HD HNX
                          go_wp2
                          exact ⟨⟨i + 1, by omega, by go_num, HBr, HD'⟩, by simp [intOf]; omega⟩
                    · have hlt' : ¬ (i : Int) < (M : Int) := by omega
                      obtain rfl : c = 0 := by
                        rcases HK5.out with ⟨h, _⟩ | ⟨_, h⟩
                        · exact absurd (fun k hk => HD.out k (by omega)) h
                        · exact h
                      clear HK5 HD
                      go_wp2
                      go_ret
                      exact ⟨rfl, HBU.out⟩
end Go.Proofs.Ytaenbjilcgpgcaa

namespace Go.Proofs.Ytaenbjilcgpgcaa
open Go.RowKit
set_option linter.unusedVariables false

set_option maxRecDepth 100000 in
set_option maxHeartbeats 400000 in
theorem headOf_any (t : GM) (w : World) :
    Calls Try.prog 104 #[.agg #[.int .i64 t.at_, .int .i64 t.s, .int .i64 t.m, .int .i64 t.h, .slice t.a t.n t.c]] w fun e w' => e = .returned (.agg #[.int .i64 t.s, .int .i64 t.m, .int .i64 0, .int .i64 t.h]) ∧ Below w.heap.size w w' := by
  go_enter Try.func104, Try.ntmps104
  go_wp2
  refine bodyPost_ret (v := .agg #[.int .i64 t.s, .int .i64 t.m, .int .i64 0, .int .i64 t.h]) (by simp [results, Try.results104, go_sem]) rfl ⟨rfl, ?_⟩
  repeat (first | (with_reducible refine Below.setCell ?_ (by (try simp); (try omega)) _) | (with_reducible refine Below.alloc ?_ (by (try simp); (try omega)) _) | (with_reducible refine Below.drew ?_))
  exact Below.refl _ _

set_option maxRecDepth 100000 in
set_option maxHeartbeats 1600000 in
theorem nodeFault_any (t : GM) (c : Int) (w : World) (hs : Src w t.a t.n t.f) (hn : t.n ≤ 1048576) (hk : IsNode t c) :
    Calls Try.prog 85 #[.agg #[.int .i64 t.at_, .int .i64 t.s, .int .i64 t.m, .int .i64 t.h, .slice t.a t.n t.c]] w (RetInt w c) := by
  have S0 := Lib.hid hs; have HK := Lib.hid hk
  clear hs hk
  have X0 := Lib.hid (Blk.new_at (w := w) (cs := #[.int .i64 t.at_, .int .i64 t.s, .int .i64 t.m, .int .i64 t.h, .slice t.a t.n t.c]) (t := 133) w.heap.size rfl)
  by_cases h0 : 1 ≤ t.at_ ∧ t.at_ ≤ 9999
  · have H0 := Lib.hid h0
    clear h0
    obtain ⟨c0, hf⟩ := isHF_some t.s t.m 0 t.h
    have HF := Lib.hid hf
    clear hf
    go_enter Try.func85, Try.ntmps85
    go_wp2_with fail
    refine (isOut1 _ _ _ _ _ false (by simp) (.inl ⟨rfl, H0.out⟩)).mono ?_
    rintro e w1 ⟨rfl, hb⟩
    have HB1 := Lib.hid ((((Below.refl w.heap.size w).alloc (Nat.le_refl _) _).alloc (by simp) _).trans (hb.mono (by simp; try omega)))
    have X1 := Lib.hid ((X0.out.alloc _).below hb)
    have S1 := Lib.hid (((S0.out.alloc _).alloc _).below hb)
    clear hb X0 S0
    obtain ⟨x0, x1, x2, x3, x4, lX⟩ : w1.cell? ⟨w.heap.size, 0, none⟩ = some (.int .i64 t.at_) ∧ w1.cell? ⟨w.heap.size, 1, none⟩ = some (.int .i64 t.s) ∧ w1.cell? ⟨w.heap.size, 2, none⟩ = some (.int .i64 t.m) ∧ w1.cell? ⟨w.heap.size, 3, none⟩ = some (.int .i64 t.h) ∧ w1.cell? ⟨w.heap.size, 4, none⟩ = some (.slice t.a t.n t.c) ∧ w.heap.size < w1.heap.size := ⟨X1.out.at 0 rfl, X1.out.at 1 rfl, X1.out.at 2 rfl, X1.out.at 3 rfl, X1.out.at 4 rfl, X1.out.1⟩
    go_wp2_with fail
    refine (headOf_any t _).mono ?_
    rintro e w2 ⟨rfl, hb⟩
    have HB2 := Lib.hid (thru0 HB1.out hb)
    have X2 := Lib.hid (X1.out.below hb)
    have S2 := Lib.hid (S1.out.below hb)
    clear hb X1 S1 HB1 x0 x1 x2 x3 x4 lX
    go_wp2_with fail
    refine (implHF_any t.s t.m 0 t.h c0 _ HF.out).mono ?_
    rintro e w3 ⟨rfl, hb⟩
    have HB3 := Lib.hid (thru0 HB2.out hb)
    have X3 := Lib.hid (X2.out.below hb)
    have S3 := Lib.hid (S2.out.below hb)
    clear hb X2 S2 HB2
    by_cases h3 : c0 = 0
    · subst h3
      have HN : Hid (Neat t) := Lib.hid (by
        rcases HF.out with ⟨h, _⟩ | ⟨_, h⟩
        · exact ⟨H0.out, h⟩
        · omega)
      clear HF
      obtain ⟨x0, x1, x2, x3, x4, lX⟩ : w3.cell? ⟨w.heap.size, 0, none⟩ = some (.int .i64 t.at_) ∧ w3.cell? ⟨w.heap.size, 1, none⟩ = some (.int .i64 t.s) ∧ w3.cell? ⟨w.heap.size, 2, none⟩ = some (.int .i64 t.m) ∧ w3.cell? ⟨w.heap.size, 3, none⟩ = some (.int .i64 t.h) ∧ w3.cell? ⟨w.heap.size, 4, none⟩ = some (.slice t.a t.n t.c) ∧ w.heap.size < w3.heap.size := ⟨X3.out.at 0 rfl, X3.out.at 1 rfl, X3.out.at 2 rfl, X3.out.at 3 rfl, X3.out.at 4 rfl, X3.out.1⟩
      by_cases h4 : (t.n : Int) = t.s
      · have h4' : ((t.n : Int) != t.s) = false := by simpa using h4
        go_wp2
        clear x0 x1 x2 x3 x4 lX X3
        have H4 := Lib.hid h4
        clear h4 h4'
        obtain ⟨ta, hta⟩ : ∃ ta, t.a = ta := ⟨_, rfl⟩
        rw [hta] at S3 ⊢
        clear hta
        go_loopw [25] (fun p wr => ∃ i : Nat, i ≤ t.n ∧ p = .int .i64 (i : Int) ∧ Hid (Below w3.heap.size w3 wr) ∧ Hid (∀ k, k < i → Word (t.f k))) (fun p _ => t.n - (intOf p).toNat)
        case atStart => exact ⟨0, Nat.zero_le _, rfl, Below.refl _ _, Lib.hid (fun j hj => by omega)⟩
        case round =>
          obtain ⟨i, hi, rfl, HBr, HE⟩ := hrel
          by_cases hlt : i < t.n
          · obtain ⟨b1, o1, rfl, hb1, hc1⟩ := src_some (S3.out.below HBr.out) (by omega)
            have d1 := hc1 i hlt
            have hlt' : (i : Int) < (t.n : Int) := by omega
            have hls : (i : Int) < t.s := by have := H4.out; omega
            have hi0 : (0 : Int) ≤ (i : Int) := by omega
            have hz := HBr.out.size
            clear hc1
            by_cases hw : Word (t.f i)
            · have HW : Hid (-1000000000 ≤ t.f i ∧ t.f i ≤ 1000000000) := hw
              clear hw
              go_wp2_with (first | (go_at_call 144; (with_reducible refine (wordBound_any _ _).mono ?_); rintro e w4 ⟨rfl, hb2⟩; have HB4 := Lib.hid hb2; have hz4 := hb2.size; clear hb2) | (go_at_call 79; (with_reducible refine (isOut1 _ _ _ _ _ false (by simp) (.inl ⟨rfl, HW.out⟩)).mono ?_); rintro e w5 ⟨rfl, hb3⟩; have HB5 := Lib.hid hb3; have hz5 := hb3.size; clear hb3))
              have HB6 := Lib.hid (((HBr.out.trans (HB4.out.mono (by omega))).alloc (by omega) _).trans (HB5.out.mono (by simp; omega)))
              have HE' : Hid (∀ k, k < i + 1 → Word (t.f k)) := Lib.hid fun j hj => by
                rcases Nat.lt_succ_iff_lt_or_eq.mp hj with h | h
                · exact HE.out j h
                · subst h; exact HW.out
              go_roundw
              case rel => first | exact ⟨i + 1, by omega, by go_num, HB6, HE'⟩ | ((repeat apply Exists.intro); exact ⟨⟨i + 1, by omega, by go_num, HB6, HE'⟩, rfl⟩)
              case measure => simp [intOf]; omega
            · have HW : Hid (¬ (-1000000000 ≤ t.f i ∧ t.f i ≤ 1000000000)) := hw
              obtain rfl : c = 3 := by
                rcases HK.out with ⟨h, _⟩ | ⟨_, h, _⟩ | ⟨_, _, _, h⟩ | ⟨_, _, h, _⟩
                · exact absurd HN.out h
                · exact absurd H4.out h
                · exact h
                · exact absurd (h i hlt) hw
              clear hw HK
              go_wp2_with (first | (go_at_call 144; (with_reducible refine (wordBound_any _ _).mono ?_); rintro e w4 ⟨rfl, hb2⟩; have HB4 := Lib.hid hb2; have hz4 := hb2.size; clear hb2) | (go_at_call 79; (with_reducible refine (isOut1 _ _ _ _ _ true (by simp) (.inr ⟨rfl, HW.out⟩)).mono ?_); rintro e w5 ⟨rfl, hb3⟩; have HB5 := Lib.hid hb3; have hz5 := hb3.size; clear hb3))
              go_ret
              exact ⟨rfl, HB3.out.trans ((((HBr.out.trans (HB4.out.mono (by omega))).alloc (by omega) _).trans (HB5.out.mono (by simp; omega))).mono HB3.out.size)⟩
          · obtain rfl : c = 0 := by
              rcases HK.out with ⟨h, _⟩ | ⟨_, h, _⟩ | ⟨_, _, h, _⟩ | ⟨_, _, _, h⟩
              · exact absurd HN.out h
              · exact absurd H4.out h
              · exact absurd (fun k hk => HE.out k (by omega)) h
              · exact h
            have hls : ¬ (i : Int) < t.s := by have := H4.out; omega
            clear HK
            go_wp2
            go_ret
            exact ⟨rfl, HB3.out.trans (HBr.out.mono HB3.out.size)⟩
      · have h4' : ((t.n : Int) != t.s) = true := by simpa using h4
        obtain rfl : c = 2 := by
          rcases HK.out with ⟨h, _⟩ | ⟨_, _, h⟩ | ⟨_, h, _⟩ | ⟨_, h, _⟩
          · exact absurd HN.out h
          · exact h
          · exact absurd h h4
          · exact absurd h h4
        clear h4 HK
        go_wp2
        go_ret
        exact ⟨rfl, HB3.out⟩
    · have HC : Hid (c = 3) := Lib.hid (by
        have hno : ¬ Neat t := fun h => by
          rcases HF.out with ⟨_, h5⟩ | ⟨h5, _⟩
          · exact h3 h5
          · exact h5 h.2
        rcases HK.out with ⟨_, h⟩ | ⟨h, _⟩ | ⟨h, _⟩ | ⟨h, _⟩
        · exact h
        · exact absurd h hno
        · exact absurd h hno
        · exact absurd h hno)
      have h3' : (c0 != 0) = true := by simpa using h3
      obtain rfl := HC.out
      clear HK HF
      go_wp2
      go_ret
      exact ⟨rfl, HB3.out⟩
  · have H0 := Lib.hid h0
    obtain rfl : c = 3 := by
      have hno : ¬ Neat t := fun h => h0 h.1
      rcases HK.out with ⟨_, h⟩ | ⟨h, _⟩ | ⟨h, _⟩ | ⟨h, _⟩
      · exact h
      · exact absurd h hno
      · exact absurd h hno
      · exact absurd h hno
    clear h0 HK
    go_enter Try.func85, Try.ntmps85
    go_wp2_with fail
    refine (isOut1 _ _ _ _ _ true (by simp) (.inr ⟨rfl, H0.out⟩)).mono ?_
    rintro e w1 ⟨rfl, hb⟩
    have HB1 := Lib.hid ((((Below.refl w.heap.size w).alloc (Nat.le_refl _) _).alloc (by simp) _).trans (hb.mono (by simp; try omega)))
    have X1 := Lib.hid ((X0.out.alloc _).below hb)
    have S1 := Lib.hid (((S0.out.alloc _).alloc _).below hb)
    clear hb X0 S0
    go_wp2
    go_ret
    exact ⟨rfl, HB1.out⟩

set_option maxRecDepth 100000 in
set_option maxHeartbeats 800000 in
theorem rising_any (na : Option Addr) (K nc : Nat) (T : Nat → GM) (r : Bool) (w : World) (hg : NV w na K T) (hK : K ≤ 1048576) (hr : r = true ↔ MRise K T) :
    Calls Try.prog 86 #[.slice na K nc] w (RetBool w r) := by
  have G0 := Lib.hid hg; have HR := Lib.hid hr
  clear hg hr
  go_enter Try.func86, Try.ntmps86
  go_wp2
  go_loopw [3] (fun p wr => ∃ i : Nat, (i = 0 ∨ i < K) ∧ p = .int .i64 ((i : Int) + 1) ∧ Hid (Below w.heap.size w wr) ∧ Hid (∀ k, k < i → (T k).at_ < (T (k + 1)).at_)) (fun p _ => K + 1 - (intOf p).toNat)
  case atStart => exact ⟨0, .inl rfl, rfl, Below.refl _ _, Lib.hid (fun k hk => by omega)⟩
  case round =>
    obtain ⟨i, hi, rfl, HBr, HD⟩ := hrel
    by_cases hlt : i + 1 < K
    · have hlt' : (i : Int) + 1 < (K : Int) := by omega
      have hi0 : (0 : Int) ≤ (i : Int) + 1 := by omega
      have hi1 : (0 : Int) ≤ (i : Int) := by omega
      have hi2 : (i : Int) < (K : Int) := by omega
      rcases G0.out.below HBr.out with h0 | ⟨b, q, rfl, hg⟩
      · omega
      have lt := hg.lt
      obtain ⟨x0, x1, x2, x3, x4⟩ := hg.six (i + 1) hlt
      obtain ⟨y0, y1, y2, y3, y4⟩ := hg.six i (by omega)
      clear hg
      by_cases hx : (T (i + 1)).at_ ≤ (T i).at_
      · obtain rfl : r = false := by
          cases r
          · rfl
          · have := HR.out.1 rfl i hlt; omega
        clear HD
        go_wp2
        go_region
        go_wp2
        go_ret
        exact ⟨rfl, HBr.out.drew⟩
      · have HD' : Hid (∀ k, k < i + 1 → (T k).at_ < (T (k + 1)).at_) := Lib.hid fun k hk => by
          rcases Nat.lt_succ_iff_lt_or_eq.mp hk with h1 | h1
          · exact HD.out k h1
          · subst h1; omega
        clear HD
        have HB2 := Lib.hid HBr.out.drew
        go_wp2
        go_region
        go_wp2
        first | exact ⟨⟨i + 1, .inr (by omega), by go_num, HB2, HD'⟩, by simp [intOf]; omega⟩ | (go_roundw; (case rel => first | exact ⟨i + 1, .inr (by omega), by go_num, HB2, HD'⟩ | ((repeat apply Exists.intro); exact ⟨⟨i + 1, .inr (by omega), by go_num, HB2, HD'⟩, rfl⟩)); (case measure => simp [intOf]; omega))
    · have hlt' : ¬ (i : Int) + 1 < (K : Int) := by omega
      obtain rfl : r = true := HR.out.2 fun k hk => HD.out k (by omega)
      go_wp2
      go_ret
      exact ⟨rfl, HBr.out⟩
end Go.Proofs.Ytaenbjilcgpgcaa

namespace Go.Proofs.Ytaenbjilcgpgcaa
open Go.RowKit
set_option linter.unusedVariables false

theorem pv_get {w : World} {a : Option Addr} {N : Nat} {T : Nat → SL} (h : PV w a N T) {i : Nat} (hi : i < N) : ∃ b q, a = some ⟨b, q, none⟩ ∧ b < w.heap.size ∧ TwoG w b (q + i * 2) (T i) := by
  rcases h with h0 | ⟨b, q, ha, hg⟩
  · omega
  · exact ⟨b, q, ha, hg.lt, hg.two i hi⟩

theorem nv_get {w : World} {a : Option Addr} {N : Nat} {T : Nat → GM} (h : NV w a N T) {i : Nat} (hi : i < N) : ∃ b q, a = some ⟨b, q, none⟩ ∧ b < w.heap.size ∧ FivG w b (q + i * 5) (T i) ∧ Src w (T i).a (T i).n (T i).f := by
  rcases h with h0 | ⟨b, q, ha, hg⟩
  · omega
  · exact ⟨b, q, ha, hg.lt, hg.six i hi, hg.flds i hi⟩

set_option maxRecDepth 100000 in
set_option maxHeartbeats 1600000 in
theorem slotNodes_any (a : Option Addr) (M c : Nat) (S : Nat → SL) (w : World) (hg : PV w a M S) (hl : M ≤ 1000000) :
    Calls Try.prog 146 #[.slice a M c] w (RetInts w M (fun i => (S i).nd)) := by
  have G := Lib.hid hg
  obtain ⟨i0, hif, hz0, hz1, hz2⟩ := info_parts Try.info2
  clear hg
  go_enter Try.func146, Try.ntmps146
  go_wp2
  go_loopw [3, 8] (fun u p wr => ∃ i : Nat, i ≤ M ∧ p = .int .i64 (i : Int) ∧ Hid (Below w.heap.size w wr) ∧ Hid (wr.ownsRow w.heap.size 2 1 u i (nums i (fun i => (S i).nd)))) (fun _ p _ => M - (intOf p).toNat)
  case atStart => exact ⟨0, Nat.zero_le _, rfl, Below.refl _ _, World.ownsRow_nil _ _ _ _⟩
  case round =>
    obtain ⟨i, hi, rfl, HB_r, OW_r⟩ := hrel
    have hzr := HB_r.out.size
    by_cases hlt : i < M
    · have hlt' : (i : Int) < (M : Int) := by omega
      have hi0 : (0 : Int) ≤ (i : Int) := by omega
      obtain ⟨b, q, rfl, lb, s0, s1⟩ := pv_get (G.out.below HB_r.out) hlt
      have HAL : Hid (Below w.heap.size w (wr.alloc (.cells #[.int .i64 (S i).g, .int .i64 (S i).nd] 131))) := Lib.hid (HB_r.out.alloc hzr _)
      have OWA := Lib.hid (OW_r.out.alloc (.cells #[.int .i64 (S i).g, .int .i64 (S i).nd] 131))
      have HGE : Hid (∀ k, u3.ownBlock = some k → w.heap.size ≤ k) := Lib.hid (fun k hk => (OW_r.out.lt k hk).1)
      go_wp2_with (at_builtin; go_loud (refine wpList_append_lies _ rfl _ _ 24 rfl w.heap.size 2 i0 (.int .i64 0) 1 8 Try.underlying24 hif hz0 hz1 hz2 rfl (by decide) u3 i (nums i (fun i => (S i).nd)) rfl (OWA.out.alloc _) ⟨wr.heap.size + 1, 0, none⟩ 1 1 [.int .i64 (S i).nd] rfl rfl (news1b (wr.alloc (.cells #[.int .i64 (S i).g, .int .i64 (S i).nd] 131)) (S i).nd (wr.heap.size + 1) (by simp)) (by intro u hu; simp only [List.mem_cons, List.mem_nil_iff, or_false] at hu; subst hu; rfl) (by omega) (by unfold maxLen; omega) (by omega) (by simp; omega) (wr.heap.size + 1 + 1) (by simp) ?_); intro g9 cap9 w9 hown9 hgrow9 hat9 hlt9)
      have HB9 : Hid (Below w.heap.size w w9) := (HAL.out.alloc (by simp; omega) _).grown hgrow9 (by simp; omega) (fun k hk => HGE.out k hk)
      have OW9 : Hid (w9.ownsRow w.heap.size 2 1 (.slice (some ⟨g9, 0, none⟩) (i + 1) cap9) (i + 1) (nums (i + 1) (fun i => (S i).nd))) := Lib.hid (by rw [nums_succ]; exact hown9)
      clear hown9 hgrow9 hat9 s0 s1
      go_wp2
      go_roundw
      case rel => first | exact ⟨i + 1, by omega, by go_num, HB9, OW9⟩ | ((repeat apply Exists.intro); exact ⟨⟨i + 1, by omega, by go_num, HB9, OW9⟩, rfl⟩)
      case measure => simp [intOf]; omega
    · have hlt' : ¬ (i : Int) < (M : Int) := by omega
      obtain rfl : i = M := by omega
      have HRet := Lib.hid (retInts_of_row OW_r.out HB_r.out)
      go_wp2
      go_ret
      exact HRet.out

/-- The pointers among the first fields of a node. -/
def ptL (t : GM) (k : Nat) : List Int := (List.range k).filterMap fun (j : Nat) => if t.m / P2 (j : Int) % 2 = 1 then some (t.f j) else none

theorem ptL_yes {t : GM} {k : Nat} (h : t.m / P2 (k : Int) % 2 = 1) : ptL t (k + 1) = ptL t k ++ [t.f k] := by
  simp [ptL, List.range_succ, List.filterMap_append, h]

theorem ptL_no {t : GM} {k : Nat} (h : ¬ t.m / P2 (k : Int) % 2 = 1) : ptL t (k + 1) = ptL t k := by
  simp [ptL, List.range_succ, List.filterMap_append, h]

theorem ptL_len (t : GM) : ∀ k, (ptL t k).length ≤ k
  | 0 => Nat.zero_le _
  | k + 1 => by
    have := ptL_len t k
    by_cases h : t.m / P2 (k : Int) % 2 = 1
    · rw [ptL_yes h, List.length_append]; simp; omega
    · rw [ptL_no h]; omega

theorem mem_ptL {t : GM} {k : Nat} {v : Int} : v ∈ ptL t k ↔ ∃ j, j < k ∧ IsP t j ∧ v = t.f j := by
  simp only [ptL, List.mem_filterMap, List.mem_range, IsP]
  constructor
  · rintro ⟨j, hj, h⟩
    by_cases hp : t.m / P2 (j : Int) % 2 = 1
    · rw [if_pos hp] at h; injection h with h; exact ⟨j, hj, hp, h.symm⟩
    · rw [if_neg hp] at h; cases h
  · rintro ⟨j, hj, hp, rfl⟩
    exact ⟨j, hj, by rw [if_pos hp]⟩

set_option maxRecDepth 100000 in
set_option maxHeartbeats 1600000 in
theorem ptrsOf_x (x s m h : Int) (a : Option Addr) (n c : Nat) (f : Nat → Int) (P : Nat → List Int) (w : World) (hs : Src w a n f) (hok : HOk s m 0 h) (hsz : (n : Int) = s) (h0 : P 0 = []) (hyes : ∀ k : Nat, m / P2 (k : Int) % 2 = 1 → P (k + 1) = P k ++ [f k]) (hno : ∀ k : Nat, ¬ m / P2 (k : Int) % 2 = 1 → P (k + 1) = P k) (hle : ∀ k, (P k).length ≤ k) :
    Calls Try.prog 149 #[.agg #[.int .i64 x, .int .i64 s, .int .i64 m, .int .i64 h, .slice a n c]] w (RetInts w (P n).length (lf (P n))) := by
  have hn12 : n ≤ 12 := by have := hok.1.2; omega
  have HOK := Lib.hid hok; have HSZ := Lib.hid hsz; have S0 := Lib.hid hs; have HY := Lib.hid hyes; have HN := Lib.hid hno; have HL := Lib.hid hle; have HZ := Lib.hid h0
  clear hs hok hsz hyes hno hle h0
  obtain ⟨i0, hif, hz0, hz1, hz2⟩ := info_parts Try.info2
  have X1 := Lib.hid (Blk.new_at (w := w) (cs := #[.int .i64 x, .int .i64 s, .int .i64 m, .int .i64 h, .slice a n c]) (t := 133) w.heap.size rfl)
  have HB0 := Lib.hid ((Below.refl w.heap.size w).alloc (Nat.le_refl _) (.cells #[.int .i64 x, .int .i64 s, .int .i64 m, .int .i64 h, .slice a n c] 133))
  have S1 := Lib.hid (S0.out.alloc (.cells #[.int .i64 x, .int .i64 s, .int .i64 m, .int .i64 h, .slice a n c] 133))
  clear S0
  go_enter Try.func149, Try.ntmps149
  go_wp2
  generalize w.alloc (.cells #[.int .i64 x, .int .i64 s, .int .i64 m, .int .i64 h, .slice a n c] 133) = w0 at *
  go_loopw [3, 9] (fun u p wr => ∃ i : Nat, i ≤ n ∧ p = .int .i64 (i : Int) ∧ Hid (Below w0.heap.size w0 wr) ∧ Hid (wr.ownsRow w0.heap.size 2 1 u (P i).length (nums (P i).length (lf (P i))))) (fun _ p _ => n - (intOf p).toNat)
  case atStart => exact ⟨0, Nat.zero_le _, rfl, Below.refl _ _, Lib.hid (by rw [HZ.out]; exact World.ownsRow_nil _ _ _ _)⟩
  case round =>
    obtain ⟨i, hi, rfl, HBr, OW⟩ := hrel
    have hzr := HBr.out.size
    by_cases hlt : i < n
    · have hlt' : (i : Int) < (n : Int) := by omega
      have hls : (i : Int) < s := by have := HSZ.out; omega
      have hi0 : (0 : Int) ≤ (i : Int) := by omega
      obtain ⟨b1, o1, rfl, hb1, hc1⟩ := src_some (S1.out.below HBr.out) (by omega)
      have d1 := hc1 i hlt
      clear hc1
      have XR := Lib.hid (X1.out.below HBr.out)
      obtain ⟨x0, x1, x2, x3, x4, lX⟩ : wr.cell? ⟨w.heap.size, 0, none⟩ = some (.int .i64 x) ∧ wr.cell? ⟨w.heap.size, 1, none⟩ = some (.int .i64 s) ∧ wr.cell? ⟨w.heap.size, 2, none⟩ = some (.int .i64 m) ∧ wr.cell? ⟨w.heap.size, 3, none⟩ = some (.int .i64 h) ∧ wr.cell? ⟨w.heap.size, 4, none⟩ = some (.slice (some ⟨b1, o1, none⟩) n c) ∧ w.heap.size < wr.heap.size := ⟨XR.out.at 0 rfl, XR.out.at 1 rfl, XR.out.at 2 rfl, XR.out.at 3 rfl, XR.out.at 4 rfl, XR.out.1⟩
      have HGE : Hid (∀ k, u3.ownBlock = some k → w0.heap.size ≤ k) := Lib.hid (fun k hk => (OW.out.lt k hk).1)
      have hpl := HL.out i
      go_wp2_with fail
      refine (headOf_any ⟨x, s, m, 0, h, some ⟨b1, o1, none⟩, n, c, f⟩ _).mono ?_
      rintro e w2 ⟨rfl, hb⟩
      have HB2 := Lib.hid (thru0 HBr.out hb)
      have OW2 := Lib.hid (ownsRow_below OW.out hb)
      clear hb x0 x1 x2 x3 x4 lX XR OW
      go_wp2_with fail
      refine (implIP_in s m 0 h (i : Int) _ HOK.out ⟨hi0, by omega⟩).mono ?_
      rintro e w3 ⟨rfl, hb⟩
      have HB3 := Lib.hid (thru0 HB2.out hb)
      have OW3 := Lib.hid (ownsRow_below OW2.out hb)
      have hz3 := HB3.out.size
      clear hb OW2 HB2
      by_cases hp : m / P2 (i : Int) % 2 = 1
      · have hp' : (m / P2 (i : Int) % 2 == 1) = true := by simpa using hp
        have HPE := Lib.hid (HY.out i hp)
        clear hp
        go_wp2_with (at_builtin; go_loud (refine wpList_append_lies _ rfl _ _ 24 rfl w0.heap.size 2 i0 (.int .i64 0) 1 8 Try.underlying24 hif hz0 hz1 hz2 rfl (by decide) u3 (P i).length (nums (P i).length (lf (P i))) rfl (OW3.out.alloc _) ⟨w3.heap.size, 0, none⟩ 1 1 [.int .i64 (f i)] rfl rfl (news1 w3 (f i)) (by intro u hu; simp only [List.mem_cons, List.mem_nil_iff, or_false] at hu; subst hu; rfl) (by omega) (by unfold maxLen; omega) (by omega) (by simp; omega) (w3.heap.size + 1) (by simp) ?_); intro g9 cap9 w9 hown9 hgrow9 hat9 hlt9)
        have HB9 : Hid (Below w0.heap.size w0 w9) := Lib.hid ((HB3.out.alloc hz3 _).grown hgrow9 (by simp; omega) (fun k hk => HGE.out k hk))
        have OW9 : Hid (w9.ownsRow w0.heap.size 2 1 (.slice (some ⟨g9, 0, none⟩) ((P i).length + 1) cap9) (P (i + 1)).length (nums (P (i + 1)).length (lf (P (i + 1))))) := Lib.hid (by rw [HPE.out, show (P i ++ [f i]).length = (P i).length + 1 by simp, ← nums_snoc]; exact hown9)
        clear hown9 hgrow9 hat9 hp'
        go_wp2
        go_roundw
        case rel => first | exact ⟨i + 1, by omega, by go_num, HB9, OW9⟩ | ((repeat apply Exists.intro); exact ⟨⟨i + 1, by omega, by go_num, HB9, OW9⟩, rfl⟩)
        case measure => simp [intOf]; omega
      · have hp' : (m / P2 (i : Int) % 2 == 1) = false := by simpa using hp
        have OW4 : Hid (w3.ownsRow w0.heap.size 2 1 u3 (P (i + 1)).length (nums (P (i + 1)).length (lf (P (i + 1))))) := Lib.hid (by rw [HN.out i hp]; exact OW3.out)
        clear hp
        go_wp2
        go_roundw
        case rel => first | exact ⟨i + 1, by omega, by go_num, HB3, OW4⟩ | ((repeat apply Exists.intro); exact ⟨⟨i + 1, by omega, by go_num, HB3, OW4⟩, rfl⟩)
        case measure => simp [intOf]; omega
    · have hls : ¬ (i : Int) < s := by have := HSZ.out; omega
      have hlt' : ¬ (i : Int) < (n : Int) := by omega
      obtain rfl : i = n := by omega
      have HRet := Lib.hid (retInts_of_row OW.out HBr.out)
      go_wp2
      go_ret
      obtain ⟨a', c', he, ho, hb', q1, q2, q3⟩ := HRet.out
      exact ⟨a', c', he, ho.mono (by have := HB0.out.size; omega), HB0.out.trans (hb'.mono HB0.out.size), q1, q2, q3⟩

theorem ptrsOf_any (t : GM) (w : World) (hs : Src w t.a t.n t.f) (hk : IsNode t 0) :
    Calls Try.prog 149 #[.agg #[.int .i64 t.at_, .int .i64 t.s, .int .i64 t.m, .int .i64 t.h, .slice t.a t.n t.c]] w (RetInts w (ptL t t.n).length (lf (ptL t t.n))) := by
  obtain ⟨⟨_, hok⟩, hsz, _⟩ := isNode_zero hk
  exact ptrsOf_x t.at_ t.s t.m t.h t.a t.n t.c t.f (ptL t) w hs hok hsz rfl (fun k => ptL_yes) (fun k => ptL_no) (ptL_len t)
end Go.Proofs.Ytaenbjilcgpgcaa

namespace Go.Proofs.Ytaenbjilcgpgcaa
open Go.RowKit
set_option linter.unusedVariables false

/-- A node with a pointer that leads nowhere. -/
def Astray (K : Nat) (T : Nat → GM) (t : GM) : Prop := ∃ j, j < (ptL t t.n).length ∧ Stray K T (lf (ptL t t.n) j)

theorem astray_iff {K : Nat} {T : Nat → GM} {t : GM} : Astray K T t ↔ ∃ k, k < t.n ∧ IsP t k ∧ Stray K T (t.f k) := by
  constructor
  · rintro ⟨j, hj, h⟩
    obtain ⟨k, hk, hp, he⟩ := mem_ptL.1 (lf_mem hj)
    exact ⟨k, hk, hp, he ▸ h⟩
  · rintro ⟨k, hk, hp, h⟩
    obtain ⟨j, hj, he⟩ := List.getElem_of_mem (mem_ptL.2 ⟨k, hk, hp, rfl⟩ : t.f k ∈ ptL t t.n)
    exact ⟨j, hj, by rw [lf_at hj, he]; exact h⟩

theorem lead_iff {M : Nat} {S : Nat → SL} {K : Nat} {T : Nat → GM} : MLead M S K T ↔ (¬ ∃ i, i < M ∧ Stray K T (S i).nd) ∧ ¬ ∃ i, i < K ∧ Astray K T (T i) := by
  constructor
  · rintro ⟨h1, h2⟩
    refine ⟨fun ⟨i, hi, h0, h⟩ => ?_, fun ⟨i, hi, ha⟩ => ?_⟩
    · rcases h1 i hi with h3 | h3
      · exact h0 h3
      · exact h h3
    · obtain ⟨k, hk, hp, h0, h⟩ := astray_iff.1 ha
      rcases h2 i hi k hk hp with h3 | h3
      · exact h0 h3
      · exact h h3
  · rintro ⟨h1, h2⟩
    refine ⟨fun i hi => ?_, fun i hi k hk hp => ?_⟩
    · by_cases h0 : (S i).nd = 0
      · exact .inl h0
      · by_cases h : Has K T (S i).nd
        · exact .inr h
        · exact absurd ⟨i, hi, h0, h⟩ h1
    · by_cases h0 : (T i).f k = 0
      · exact .inl h0
      · by_cases h : Has K T ((T i).f k)
        · exact .inr h
        · exact absurd ⟨i, hi, astray_iff.2 ⟨k, hk, hp, h0, h⟩⟩ h2

/-- What the closure reads. -/
structure CapM (w : World) (g : Nat) (te qu ha : Int) (sa : Option Addr) (M kc : Nat) (na : Option Addr) (K nc : Nat) (T : Nat → GM) : Prop where
  blk : Blk w g [.int .i64 te, .int .i64 qu, .int .i64 ha, .slice sa M kc, .slice na K nc]
  nv : NV w na K T

theorem CapM.below {w w' : World} {g : Nat} {te qu ha : Int} {sa : Option Addr} {M kc : Nat} {na : Option Addr} {K nc : Nat} {T : Nat → GM} (h : CapM w g te qu ha sa M kc na K nc T) (hb : Below w.heap.size w w') : CapM w' g te qu ha sa M kc na K nc T := ⟨h.blk.below hb, h.nv.below hb⟩

theorem cap6 {w : World} {g b : Nat} {te qu ha x s m h : Int} {sa na a : Option Addr} {M kc K nc n c : Nat} (hC : Blk w g [.int .i64 te, .int .i64 qu, .int .i64 ha, .slice sa M kc, .slice na K nc]) (hX : Blk w b [.int .i64 x, .int .i64 s, .int .i64 m, .int .i64 h, .slice a n c]) : w.cell? ⟨g, 4, none⟩ = some (.slice na K nc) ∧ w.cell? ⟨b, 0, none⟩ = some (.int .i64 x) ∧ w.cell? ⟨b, 1, none⟩ = some (.int .i64 s) ∧ w.cell? ⟨b, 2, none⟩ = some (.int .i64 m) ∧ w.cell? ⟨b, 3, none⟩ = some (.int .i64 h) ∧ w.cell? ⟨b, 4, none⟩ = some (.slice a n c) := ⟨hC.at 4 rfl, hX.at 0 rfl, hX.at 1 rfl, hX.at 2 rfl, hX.at 3 rfl, hX.at 4 rfl⟩

set_option maxRecDepth 100000 in
set_option maxHeartbeats 1600000 in
theorem astray1_any (g : Nat) (te qu ha : Int) (sa : Option Addr) (M kc : Nat) (na : Option Addr) (K nc : Nat) (T : Nat → GM) (t : GM) (r : Bool) (w : World) (h : CapM w g te qu ha sa M kc na K nc T) (hK : K ≤ 1000) (hm : ∀ i j, i < j → j < K → (T i).at_ < (T j).at_) (hs : Src w t.a t.n t.f) (hk : IsNode t 0) (hr : r = true ↔ Astray K T t) :
    Calls Try.prog 148 #[.agg #[.int .i64 t.at_, .int .i64 t.s, .int .i64 t.m, .int .i64 t.h, .slice t.a t.n t.c], .pointer (some ⟨g, 0, none⟩)] w (RetBool w r) := by
  have C0 := Lib.hid h; have S0 := Lib.hid hs; have HK := Lib.hid hk
  have X1 := Lib.hid (Blk.new_at (w := w) (cs := #[.int .i64 t.at_, .int .i64 t.s, .int .i64 t.m, .int .i64 t.h, .slice t.a t.n t.c]) (t := 133) w.heap.size rfl)
  have HB0 := Lib.hid ((Below.refl w.heap.size w).alloc (Nat.le_refl _) (.cells #[.int .i64 t.at_, .int .i64 t.s, .int .i64 t.m, .int .i64 t.h, .slice t.a t.n t.c] 133))
  have hn12 : t.n ≤ 12 := by obtain ⟨⟨_, hok⟩, hsz, _⟩ := isNode_zero hk; have := hok.1.2; omega
  have hpl := ptL_len t t.n
  clear h hs hk
  go_enter Try.func148, Try.ntmps148
  go_wp2_with fail
  have C1 := Lib.hid (C0.out.below HB0.out); have S1 := Lib.hid (S0.out.below HB0.out)
  have lX := X1.out.1
  clear C0 S0
  generalize w.alloc (.cells #[.int .i64 t.at_, .int .i64 t.s, .int .i64 t.m, .int .i64 t.h, .slice t.a t.n t.c] 133) = w0 at *
  have C1d := Lib.hid (C1.out.below (Below.refl _ _).drew); have S1d := Lib.hid (S1.out.below (Below.refl _ _).drew); have X1d := Lib.hid X1.out.drew; have HB0d := Lib.hid HB0.out.drew
  go_region_held3 (fun w' => w'.cell? ⟨g, 4, none⟩ = some (.slice na K nc) ∧ w'.cell? ⟨w.heap.size, 0, none⟩ = some (.int .i64 t.at_) ∧ w'.cell? ⟨w.heap.size, 1, none⟩ = some (.int .i64 t.s) ∧ w'.cell? ⟨w.heap.size, 2, none⟩ = some (.int .i64 t.m) ∧ w'.cell? ⟨w.heap.size, 3, none⟩ = some (.int .i64 t.h) ∧ w'.cell? ⟨w.heap.size, 4, none⟩ = some (.slice t.a t.n t.c))
    (first | (with_reducible exact cap6 C1.out.blk X1.out) | (with_reducible exact cap6 C1d.out.blk X1d.out) | (with_reducible exact cap6 C2.out.blk X2.out) | (with_reducible exact cap6 C3.out.blk X3.out))
    (first | (go_at_call 149; refine (ptrsOf_any t _ S1d.out HK.out).mono ?_; rintro e w2 ⟨pa, pc, rfl, ho, hb, -, -, -⟩; have HB2 := Lib.hid (HB0d.out.trans (hb.mono HB0d.out.size)); have C2 := Lib.hid (C1d.out.below hb); have X2 := Lib.hid (X1d.out.below hb); have HO := Lib.hid ho.src; clear ho hb) | (go_at_call 145; refine (strayId_any na K nc T pa _ pc (lf (ptL t t.n)) r _ C2.out.nv (by omega) hm HO.out (by omega) hr).mono ?_; rintro e w3 ⟨rfl, hb⟩; have HB3 := Lib.hid (thru0 HB2.out hb); have C3 := Lib.hid (C2.out.below hb); have X3 := Lib.hid (X2.out.below hb); clear hb))
  go_wp2
  go_ret
  exact ⟨rfl, HB3.out⟩

/-- slices.IndexFunc over nodes with that closure. -/
def RetIn5 (W : World) (K : Nat) (T : Nat → GM) (e : Ending) (w' : World) : Prop :=
  Below W.heap.size W w' ∧ (((∀ j, j < K → ¬ Astray K T (T j)) ∧ e = .returned (.int .i64 (-1))) ∨ ∃ i : Nat, i < K ∧ Astray K T (T i) ∧ e = .returned (.int .i64 (i : Int)))

set_option maxRecDepth 100000 in
set_option maxHeartbeats 1600000 in
theorem indexN_any (g : Nat) (te qu ha : Int) (sa : Option Addr) (M kc : Nat) (na : Option Addr) (K nc : Nat) (T : Nat → GM) (w : World) (h : CapM w g te qu ha sa M kc na K nc T) (hK : K ≤ 1000) (hm : ∀ i j, i < j → j < K → (T i).at_ < (T j).at_) (hk : ∀ i, i < K → IsNode (T i) 0) :
    Calls Try.prog 191 #[.slice na K nc, .func (.func 148) #[] #[.pointer (some ⟨g, 0, none⟩)]] w (RetIn5 w K T) := by
  have HC := Lib.hid h; have HM := Lib.hid hm; have HK := Lib.hid hk
  have eg : ∀ args w, (callFunc 148 args).run Try.prog w = .ok (.enter 148 args) w := enters_of Try.func148 (by kernel_rfl) rfl
  clear h hm hk
  go_enter Try.func191, Try.ntmps191
  go_wp2
  go_loopw [8] (fun p wr => ∃ i : Nat, i ≤ K ∧ p = .int .i64 (i : Int) ∧ Hid (Below w.heap.size w wr) ∧ Hid (∀ j, j < i → ¬ Astray K T (T j))) (fun p _ => K - (intOf p).toNat)
  case atStart => exact ⟨0, Nat.zero_le _, rfl, Below.refl _ _, Lib.hid (fun j hj => by omega)⟩
  case round =>
    obtain ⟨i, hi, rfl, HBr, HD⟩ := hrel
    by_cases hlt : i < K
    · have hlt' : (i : Int) < (K : Int) := by omega
      have hi0 : (0 : Int) ≤ (i : Int) := by omega
      have HCR := Lib.hid (HC.out.below HBr.out)
      obtain ⟨b, q, rfl, lb, hsix, hsrc⟩ := nv_get HCR.out.nv hlt
      have SR := Lib.hid hsrc
      have HKI := Lib.hid (HK.out i hlt)
      clear hsrc
      obtain ⟨s0, s1, s2, s3, s4⟩ := hsix
      by_cases hin : Astray K T (T i)
      · have HF : Hid (∃ i' : Nat, i' < K ∧ Astray K T (T i') ∧ Ending.returned (.int .i64 (i : Int)) = Ending.returned (.int .i64 (i' : Int))) := Lib.hid ⟨i, hlt, hin, rfl⟩
        have HIN := Lib.hid (show true = true ↔ Astray K T (T i) by simp [hin])
        clear hin
        go_wp2_with (go_at_fn 148; refine (astray1_any g te qu ha sa M kc _ K nc T (T i) true _ HCR.out hK HM.out SR.out HKI.out HIN.out).mono ?_; rintro e w1 ⟨rfl, hb⟩; have HB1 := Lib.hid (thru0 HBr.out hb); clear hb)
        go_ret
        exact ⟨HB1.out, .inr HF.out⟩
      · have HD' : Hid (∀ j, j < i + 1 → ¬ Astray K T (T j)) := Lib.hid fun j hj => by
          rcases Nat.lt_succ_iff_lt_or_eq.mp hj with h1 | h1
          · exact HD.out j h1
          · subst h1; exact hin
        have HIN := Lib.hid (show false = true ↔ Astray K T (T i) by simp [hin])
        clear hin HD
        go_wp2_with (go_at_fn 148; refine (astray1_any g te qu ha sa M kc _ K nc T (T i) false _ HCR.out hK HM.out SR.out HKI.out HIN.out).mono ?_; rintro e w1 ⟨rfl, hb⟩; have HB1 := Lib.hid (thru0 HBr.out hb); clear hb)
        clear s0 s1 s2 s3 s4
        go_roundw
        case rel => first | exact ⟨i + 1, by omega, by go_num, HB1, HD'⟩ | ((repeat apply Exists.intro); exact ⟨⟨i + 1, by omega, by go_num, HB1, HD'⟩, rfl⟩)
        case measure => simp [intOf]; omega
    · have hlt' : ¬ (i : Int) < (K : Int) := by omega
      go_wp2
      go_ret
      exact ⟨HBr.out, .inl ⟨fun j hj => HD.out j (by omega), rfl⟩⟩

set_option maxRecDepth 100000 in
set_option maxHeartbeats 400000 in
theorem containsN_any (g : Nat) (te qu ha : Int) (sa : Option Addr) (M kc : Nat) (na : Option Addr) (K nc : Nat) (T : Nat → GM) (r : Bool) (w : World) (h : CapM w g te qu ha sa M kc na K nc T) (hK : K ≤ 1000) (hm : ∀ i j, i < j → j < K → (T i).at_ < (T j).at_) (hk : ∀ i, i < K → IsNode (T i) 0) (hr : r = true ↔ ∃ i, i < K ∧ Astray K T (T i)) :
    Calls Try.prog 147 #[.slice na K nc, .func (.func 148) #[] #[.pointer (some ⟨g, 0, none⟩)]] w (RetBool w r) := by
  have HR := Lib.hid hr
  clear hr
  go_enter Try.func147, Try.ntmps147
  go_wp2_with fail
  refine (indexN_any g te qu ha sa M kc na K nc T _ h hK hm hk).mono ?_
  rintro e w1 ⟨hb, hres⟩
  have HB1 := Lib.hid hb
  clear hb
  rcases hres with ⟨hno, rfl⟩ | ⟨i, hi, hin, rfl⟩
  · obtain rfl : r = false := by
      cases r
      · rfl
      · obtain ⟨i, hi, h⟩ := HR.out.1 rfl
        exact absurd h (hno i hi)
    go_wp2
    go_ret
    exact ⟨rfl, HB1.out⟩
  · obtain rfl : r = true := HR.out.2 ⟨i, hi, hin⟩
    have hi0 : (0 : Int) ≤ (i : Int) := by omega
    clear hin
    go_wp2
    go_ret
    exact ⟨rfl, HB1.out⟩
end Go.Proofs.Ytaenbjilcgpgcaa

namespace Go.Proofs.Ytaenbjilcgpgcaa
open Go.RowKit
set_option linter.unusedVariables false

theorem cap2 {w : World} {g : Nat} {te qu ha : Int} {sa na : Option Addr} {M kc K nc : Nat} (hC : Blk w g [.int .i64 te, .int .i64 qu, .int .i64 ha, .slice sa M kc, .slice na K nc]) : w.cell? ⟨g, 3, none⟩ = some (.slice sa M kc) ∧ w.cell? ⟨g, 4, none⟩ = some (.slice na K nc) := ⟨hC.at 3 rfl, hC.at 4 rfl⟩

set_option maxRecDepth 100000 in
set_option maxHeartbeats 3200000 in
theorem leadsAstray_any (te qu ha : Int) (sa : Option Addr) (M kc : Nat) (S : Nat → SL) (na : Option Addr) (K nc : Nat) (T : Nat → GM) (r : Bool) (w : World) (hp : PV w sa M S) (hg : NV w na K T) (hM : M ≤ 1000) (hK : K ≤ 1000) (hm : ∀ i j, i < j → j < K → (T i).at_ < (T j).at_) (hk : ∀ i, i < K → IsNode (T i) 0) (hr : r = true ↔ ¬ MLead M S K T) :
    Calls Try.prog 87 #[.agg #[.int .i64 te, .int .i64 qu, .int .i64 ha, .slice sa M kc, .slice na K nc]] w (RetBool w r) := by
  have X1 := Lib.hid (Blk.new_at (w := w) (cs := #[.int .i64 te, .int .i64 qu, .int .i64 ha, .slice sa M kc, .slice na K nc]) (t := 54) w.heap.size rfl)
  have HB0 := Lib.hid ((Below.refl w.heap.size w).alloc (Nat.le_refl _) (.cells #[.int .i64 te, .int .i64 qu, .int .i64 ha, .slice sa M kc, .slice na K nc] 54))
  have P1 := Lib.hid (hp.below HB0.out); have G1 := Lib.hid (hg.below HB0.out)
  have HR := Lib.hid hr
  clear hp hg hr
  by_cases h1 : ∃ i, i < M ∧ Stray K T (S i).nd
  · obtain rfl : r = true := HR.out.2 fun h => (lead_iff.1 h).1 h1
    have H1 := Lib.hid h1
    clear h1
    go_enter Try.func87, Try.ntmps87
    go_wp2_with fail
    generalize w.alloc (.cells #[.int .i64 te, .int .i64 qu, .int .i64 ha, .slice sa M kc, .slice na K nc] 54) = w0 at *
    have P1d := Lib.hid (P1.out.below (Below.refl _ _).drew); have G1d := Lib.hid (G1.out.below (Below.refl _ _).drew); have X1d := Lib.hid X1.out.drew; have HB0d := Lib.hid HB0.out.drew
    refine wp_region_held_drew (S := (fun w' => w'.cell? ⟨w.heap.size, 3, none⟩ = some (.slice sa M kc) ∧ w'.cell? ⟨w.heap.size, 4, none⟩ = some (.slice na K nc))) (by kernel_rfl) (cap2 X1d.out) (fun hHeld => ?_)
    refine wpAnyH_take (i := 0) (oi := { dst := some 3, op := Op.fieldAddr 54 (Operand.tmp 1) 4, type := 0, pos := "l05_graph.go:129", after := #[], guard := none }) (v := ?_) rfl (by kernel_rfl) (by kernel_rfl) (by kernel_rfl) (fun _ _ _ h => h) (Or.inl ⟨by rfl, ?_⟩) (by assumption) ?_
    rotate_left
    · intro w hSw; (try dsimp only at hSw); go_simp; (try with_reducible rfl)
    try simp only [Act.put, List.setIfInBounds_toArray, List.set_cons_zero, List.set_cons_succ]
    refine wpAnyH_take (i := 1) (oi := { dst := some 4, op := Op.load 52 (Operand.tmp 3), type := 52, pos := "l05_graph.go:129", after := #[{ on := 0, ground := Ground.data }], guard := none }) (v := ?_) rfl (by kernel_rfl) (by kernel_rfl) (by kernel_rfl) (fun _ _ _ h => h) (Or.inl ⟨by rfl, ?_⟩) (by assumption) ?_
    rotate_left
    · intro w hSw; (try dsimp only at hSw); go_simp; (try with_reducible rfl)
    try simp only [Act.put, List.setIfInBounds_toArray, List.set_cons_zero, List.set_cons_succ]
    refine wpAnyH_take (i := 2) (oi := { dst := some 5, op := Op.fieldAddr 54 (Operand.tmp 1) 3, type := 0, pos := "l05_graph.go:129", after := #[], guard := none }) (v := ?_) rfl (by kernel_rfl) (by kernel_rfl) (by kernel_rfl) (fun _ _ _ h => h) (Or.inl ⟨by rfl, ?_⟩) (by assumption) ?_
    rotate_left
    · intro w hSw; (try dsimp only at hSw); go_simp; (try with_reducible rfl)
    try simp only [Act.put, List.setIfInBounds_toArray, List.set_cons_zero, List.set_cons_succ]
    refine wpAnyH_take (i := 3) (oi := { dst := some 6, op := Op.load 51 (Operand.tmp 5), type := 51, pos := "l05_graph.go:129", after := #[{ on := 2, ground := Ground.data }], guard := none }) (v := ?_) rfl (by kernel_rfl) (by kernel_rfl) (by kernel_rfl) (fun _ _ _ h => h) (Or.inl ⟨by rfl, ?_⟩) (by assumption) ?_
    rotate_left
    · intro w hSw; (try dsimp only at hSw); go_simp; (try with_reducible rfl)
    try simp only [Act.put, List.setIfInBounds_toArray, List.set_cons_zero, List.set_cons_succ]
    refine wpAnyH_ready (rs := [4]) (by kernel_rfl) (by simp) ?_
    refine AllReadyH.cons (o := _) rfl (fun Kq hKq => ?_) AllReadyH.nil
    go_simp
    (go_at_call 146; refine (slotNodes_any sa M kc S _ P1d.out (by omega)).mono ?_; rintro e w2 ⟨pa, pc, rfl, ho, hb, -, -, -⟩; have HB2 := Lib.hid (HB0d.out.trans (hb.mono HB0d.out.size)); have X2 := Lib.hid (X1d.out.below hb); have G2 := Lib.hid (G1d.out.below hb); have HO := Lib.hid ho.src; clear ho hb)
    first | (refine hKq.out _ _ (cap2 X2.out) (fun hHeld => ?_)) | (go_wp2_with fail; refine hKq.out _ _ (cap2 X2.out) (fun hHeld => ?_))
    clear hKq Kq
    try simp only [Act.put, List.setIfInBounds_toArray, List.set_cons_zero, List.set_cons_succ]
    refine wpAnyH_ready (rs := [5]) (by kernel_rfl) (by simp) ?_
    refine AllReadyH.cons (o := _) rfl (fun Kq hKq => ?_) AllReadyH.nil
    go_simp
    (go_at_call 145; refine (strayId_any na K nc T pa _ pc (fun i => (S i).nd) true _ G2.out (by omega) hm HO.out (by omega) ⟨fun _ => H1.out, fun _ => rfl⟩).mono ?_; rintro e w3 ⟨rfl, hb⟩; have HB3 := Lib.hid (thru0 HB2.out hb); have X3 := Lib.hid (X2.out.below hb); have G3 := Lib.hid (G2.out.below hb); clear hb)
    first | (refine hKq.out _ _ (cap2 X3.out) (fun hHeld => ?_)) | (go_wp2_with fail; refine hKq.out _ _ (cap2 X3.out) (fun hHeld => ?_))
    clear hKq Kq
    try simp only [Act.put, List.setIfInBounds_toArray, List.set_cons_zero, List.set_cons_succ]
    refine wpAnyH_take (i := 6) (oi := { dst := some 9, op := Op.move (Operand.tmp 8), type := 4, pos := "l05_graph.go:129", after := #[{ on := 5, ground := Ground.data }, { on := 5, ground := Ground.chain }], guard := none }) (v := ?_) rfl (by kernel_rfl) (by kernel_rfl) (by kernel_rfl) (fun _ _ _ h => h) (Or.inl ⟨by rfl, ?_⟩) (by assumption) ?_
    rotate_left
    · intro w hSw; (try dsimp only at hSw); go_simp; (try with_reducible rfl)
    try simp only [Act.put, List.setIfInBounds_toArray, List.set_cons_zero, List.set_cons_succ]
    refine wpAnyH_take (i := 7) (oi := { dst := some 10, op := Op.fieldAddr 54 (Operand.tmp 1) 4, type := 0, pos := "l05_graph.go:129", after := #[{ on := 6, ground := Ground.guard }], guard := some (6, false) }) (v := _) rfl (by kernel_rfl) (by kernel_rfl) (by kernel_rfl) (fun _ _ _ h => h) (Or.inr ⟨by rfl, rfl⟩) (by assumption) ?_
    refine wpAnyH_take (i := 8) (oi := { dst := some 11, op := Op.load 52 (Operand.tmp 10), type := 52, pos := "l05_graph.go:129", after := #[{ on := 7, ground := Ground.data }, { on := 6, ground := Ground.guard }], guard := some (6, false) }) (v := _) rfl (by kernel_rfl) (by kernel_rfl) (by kernel_rfl) (fun _ _ _ h => h) (Or.inr ⟨by rfl, rfl⟩) (by assumption) ?_
    refine wpAnyH_take (i := 9) (oi := { dst := some 12, op := Op.makeFunc (Fn.func 148) #[] #[Operand.tmp 1], type := 208, pos := "l05_graph.go:129", after := #[{ on := 6, ground := Ground.guard }], guard := some (6, false) }) (v := _) rfl (by kernel_rfl) (by kernel_rfl) (by kernel_rfl) (fun _ _ _ h => h) (Or.inr ⟨by rfl, rfl⟩) (by assumption) ?_
    refine wpAnyH_ready (rs := [10]) (by kernel_rfl) (by simp) ?_
    refine AllReadyH.cons (o := _) rfl (fun Kq hKq => ?_) AllReadyH.nil
    go_simp
    refine hKq.out _ _ (cap2 X3.out) (fun hHeld => ?_)
    clear hKq Kq
    try simp only [Act.put, List.setIfInBounds_toArray, List.set_cons_zero, List.set_cons_succ]
    refine wpAnyH_take (i := 11) (oi := { dst := some 14, op := Op.pick (Operand.tmp 9) (Operand.const (Value.bool true)) (Operand.tmp 13), type := 4, pos := "l05_graph.go:129", after := #[{ on := 6, ground := Ground.data }, { on := 10, ground := Ground.data }], guard := none }) (v := ?_) rfl (by kernel_rfl) (by kernel_rfl) (by kernel_rfl) (fun _ _ _ h => h) (Or.inl ⟨by rfl, ?_⟩) (by assumption) ?_
    rotate_left
    · intro w hSw; (try dsimp only at hSw); go_simp; (try with_reducible rfl)
    try simp only [Act.put, List.setIfInBounds_toArray, List.set_cons_zero, List.set_cons_succ]
    refine wpAnyH_take (i := 12) (oi := { dst := some 2, op := Op.assign (Operand.tmp 14), type := 4, pos := "l05_graph.go:129", after := #[{ on := 11, ground := Ground.data }, { on := 10, ground := Ground.chain }, { on := 0, ground := Ground.phase }, { on := 1, ground := Ground.phase }, { on := 2, ground := Ground.phase }, { on := 3, ground := Ground.phase }, { on := 4, ground := Ground.phase }, { on := 5, ground := Ground.phase }, { on := 6, ground := Ground.phase }, { on := 7, ground := Ground.phase }, { on := 8, ground := Ground.phase }, { on := 9, ground := Ground.phase }, { on := 10, ground := Ground.phase }, { on := 11, ground := Ground.phase }], guard := none }) (v := ?_) rfl (by kernel_rfl) (by kernel_rfl) (by kernel_rfl) (fun _ _ _ h => h) (Or.inl ⟨by rfl, ?_⟩) (by assumption) ?_
    rotate_left
    · intro w hSw; (try dsimp only at hSw); go_simp; (try with_reducible rfl)
    try simp only [Act.put, List.setIfInBounds_toArray, List.set_cons_zero, List.set_cons_succ]
    refine wpAnyH_done (by kernel_rfl) ?_ _
    go_wp2
    go_ret
    exact ⟨rfl, HB3.out⟩
  · have H1f : Hid (false = true ↔ ∃ i, i < M ∧ Stray K T (S i).nd) := Lib.hid ⟨fun h => (by cases h), fun h => absurd h h1⟩
    have H2 : Hid (r = true ↔ ∃ i, i < K ∧ Astray K T (T i)) := Lib.hid (by
      rw [HR.out, lead_iff]
      constructor
      · intro h
        by_cases h2 : ∃ i, i < K ∧ Astray K T (T i)
        · exact h2
        · exact absurd ⟨h1, h2⟩ h
      · exact fun h2 h => h.2 h2)
    have HK := Lib.hid hk
    clear h1 hk
    go_enter Try.func87, Try.ntmps87
    go_wp2_with fail
    generalize w.alloc (.cells #[.int .i64 te, .int .i64 qu, .int .i64 ha, .slice sa M kc, .slice na K nc] 54) = w0 at *
    have P1d := Lib.hid (P1.out.below (Below.refl _ _).drew); have G1d := Lib.hid (G1.out.below (Below.refl _ _).drew); have X1d := Lib.hid X1.out.drew; have HB0d := Lib.hid HB0.out.drew
    go_region_held3 (fun w' => w'.cell? ⟨w.heap.size, 3, none⟩ = some (.slice sa M kc) ∧ w'.cell? ⟨w.heap.size, 4, none⟩ = some (.slice na K nc))
      (first | (with_reducible exact cap2 X1.out) | (with_reducible exact cap2 X1d.out) | (with_reducible exact cap2 X2.out) | (with_reducible exact cap2 X3.out) | (with_reducible exact cap2 X4.out))
      (first | (go_at_call 146; refine (slotNodes_any sa M kc S _ P1d.out (by omega)).mono ?_; rintro e w2 ⟨pa, pc, rfl, ho, hb, -, -, -⟩; have HB2 := Lib.hid (HB0d.out.trans (hb.mono HB0d.out.size)); have X2 := Lib.hid (X1d.out.below hb); have G2 := Lib.hid (G1d.out.below hb); have HO := Lib.hid ho.src; clear ho hb) | (go_at_call 145; refine (strayId_any na K nc T pa _ pc (fun i => (S i).nd) false _ G2.out (by omega) hm HO.out (by omega) H1f.out).mono ?_; rintro e w3 ⟨rfl, hb⟩; have HB3 := Lib.hid (thru0 HB2.out hb); have X3 := Lib.hid (X2.out.below hb); have G3 := Lib.hid (G2.out.below hb); clear hb) | (go_at_call 147; refine (containsN_any w.heap.size te qu ha sa M kc na K nc T r _ ⟨X3.out, G3.out⟩ hK hm HK.out H2.out).mono ?_; rintro e w4 ⟨rfl, hb⟩; have HB4 := Lib.hid (thru0 HB3.out hb); have X4 := Lib.hid (X3.out.below hb); clear hb))
    go_wp2
    go_ret
    exact ⟨rfl, HB4.out⟩

/-- A slot that was never given away, and leads to a node. -/
def Never (t : SL) : Prop := ¬ t.nd = 0 ∧ t.g = 0

set_option maxRecDepth 100000 in
set_option maxHeartbeats 400000 in
theorem never1_any (t : SL) (r : Bool) (w : World) (hr : r = true ↔ Never t) :
    Calls Try.prog 89 #[.agg #[.int .i64 t.g, .int .i64 t.nd]] w (RetBool w r) := by
  by_cases hx : t.nd = 0
  · obtain rfl : r = false := by
      cases r
      · rfl
      · exact absurd hx (hr.1 rfl).1
    have hx' : (t.nd != 0) = false := by simpa using hx
    clear hr hx
    go_enter Try.func89, Try.ntmps89
    go_wp2
    go_ret
    exact ⟨rfl, (Below.refl _ _).alloc (Nat.le_refl _) _⟩
  · have hx' : (t.nd != 0) = true := by simpa using hx
    by_cases hy : t.g = 0
    · obtain rfl : r = true := hr.2 ⟨hx, hy⟩
      have hy' : (t.g == 0) = true := by simpa using hy
      clear hr hx hy
      go_enter Try.func89, Try.ntmps89
      go_wp2
      go_ret
      exact ⟨rfl, (Below.refl _ _).alloc (Nat.le_refl _) _⟩
    · obtain rfl : r = false := by
        cases r
        · rfl
        · exact absurd (hr.1 rfl).2 hy
      have hy' : (t.g == 0) = false := by simpa using hy
      clear hr hx hy
      go_enter Try.func89, Try.ntmps89
      go_wp2
      go_ret
      exact ⟨rfl, (Below.refl _ _).alloc (Nat.le_refl _) _⟩

def RetIs (W : World) (M : Nat) (S : Nat → SL) (e : Ending) (w' : World) : Prop :=
  Below W.heap.size W w' ∧ (((∀ j, j < M → ¬ Never (S j)) ∧ e = .returned (.int .i64 (-1))) ∨ ∃ i : Nat, i < M ∧ Never (S i) ∧ e = .returned (.int .i64 (i : Int)))

set_option maxRecDepth 100000 in
set_option maxHeartbeats 1600000 in
theorem indexS_any (sa : Option Addr) (M kc : Nat) (S : Nat → SL) (w : World) (h : PV w sa M S) (hM : M ≤ 1000) :
    Calls Try.prog 150 #[.slice sa M kc, .func (.func 89) #[] #[]] w (RetIs w M S) := by
  have HC := Lib.hid h
  have eg : ∀ args w, (callFunc 89 args).run Try.prog w = .ok (.enter 89 args) w := enters_of Try.func89 (by kernel_rfl) rfl
  clear h
  go_enter Try.func150, Try.ntmps150
  go_wp2
  go_loopw [8] (fun p wr => ∃ i : Nat, i ≤ M ∧ p = .int .i64 (i : Int) ∧ Hid (Below w.heap.size w wr) ∧ Hid (∀ j, j < i → ¬ Never (S j))) (fun p _ => M - (intOf p).toNat)
  case atStart => exact ⟨0, Nat.zero_le _, rfl, Below.refl _ _, Lib.hid (fun j hj => by omega)⟩
  case round =>
    obtain ⟨i, hi, rfl, HBr, HD⟩ := hrel
    by_cases hlt : i < M
    · have hlt' : (i : Int) < (M : Int) := by omega
      have hi0 : (0 : Int) ≤ (i : Int) := by omega
      obtain ⟨b, q, rfl, lb, s0, s1⟩ := pv_get (HC.out.below HBr.out) hlt
      by_cases hin : Never (S i)
      · have HF : Hid (∃ i' : Nat, i' < M ∧ Never (S i') ∧ Ending.returned (.int .i64 (i : Int)) = Ending.returned (.int .i64 (i' : Int))) := Lib.hid ⟨i, hlt, hin, rfl⟩
        have HIN := Lib.hid (show true = true ↔ Never (S i) by simp [hin])
        clear hin
        go_wp2_with (go_at_fn 89; refine (never1_any (S i) true _ HIN.out).mono ?_; rintro e w1 ⟨rfl, hb⟩; have HB1 := Lib.hid (thru0 HBr.out hb); clear hb)
        go_ret
        exact ⟨HB1.out, .inr HF.out⟩
      · have HD' : Hid (∀ j, j < i + 1 → ¬ Never (S j)) := Lib.hid fun j hj => by
          rcases Nat.lt_succ_iff_lt_or_eq.mp hj with h1 | h1
          · exact HD.out j h1
          · subst h1; exact hin
        have HIN := Lib.hid (show false = true ↔ Never (S i) by simp [hin])
        clear hin HD
        go_wp2_with (go_at_fn 89; refine (never1_any (S i) false _ HIN.out).mono ?_; rintro e w1 ⟨rfl, hb⟩; have HB1 := Lib.hid (thru0 HBr.out hb); clear hb)
        clear s0 s1
        go_roundw
        case rel => first | exact ⟨i + 1, by omega, by go_num, HB1, HD'⟩ | ((repeat apply Exists.intro); exact ⟨⟨i + 1, by omega, by go_num, HB1, HD'⟩, rfl⟩)
        case measure => simp [intOf]; omega
    · have hlt' : ¬ (i : Int) < (M : Int) := by omega
      go_wp2
      go_ret
      exact ⟨HBr.out, .inl ⟨fun j hj => HD.out j (by omega), rfl⟩⟩

set_option maxRecDepth 100000 in
set_option maxHeartbeats 400000 in
theorem containsS_any (sa : Option Addr) (M kc : Nat) (S : Nat → SL) (r : Bool) (w : World) (h : PV w sa M S) (hM : M ≤ 1000) (hr : r = true ↔ ¬ MGive M S) :
    Calls Try.prog 88 #[.slice sa M kc, .func (.func 89) #[] #[]] w (RetBool w r) := by
  have HR := Lib.hid hr
  clear hr
  go_enter Try.func88, Try.ntmps88
  go_wp2_with fail
  refine (indexS_any sa M kc S _ h hM).mono ?_
  rintro e w1 ⟨hb, hres⟩
  have HB1 := Lib.hid hb
  clear hb
  rcases hres with ⟨hno, rfl⟩ | ⟨i, hi, hin, rfl⟩
  · obtain rfl : r = false := by
      cases r
      · rfl
      · refine absurd (fun i hi => ?_) (HR.out.1 rfl)
        have := hno i hi
        unfold Never at this
        by_cases h : (S i).nd = 0
        · exact .inl h
        · exact .inr fun h2 => this ⟨h, h2⟩
    go_wp2
    go_ret
    exact ⟨rfl, HB1.out⟩
  · obtain rfl : r = true := HR.out.2 fun h => by
      rcases h i hi with h | h
      · exact hin.1 h
      · exact h hin.2
    have hi0 : (0 : Int) ≤ (i : Int) := by omega
    clear hin
    go_wp2
    go_ret
    exact ⟨rfl, HB1.out⟩
end Go.Proofs.Ytaenbjilcgpgcaa

namespace Go.Proofs.Ytaenbjilcgpgcaa
open Go.RowKit
set_option linter.unusedVariables false

set_option maxRecDepth 100000 in
set_option maxHeartbeats 6400000 in
theorem implMF_any (te qu ha : Int) (sa : Option Addr) (M kc : Nat) (S : Nat → SL) (na : Option Addr) (K nc : Nat) (T : Nat → GM) (c : Int) (w : World)
    (hp : PV w sa M S) (hg : NV w na K T) (hM : M ≤ 1048576) (hK : K ≤ 1048576) (hn : ∀ i, i < K → (T i).n ≤ 1048576) (hk : IsMF te qu ha M S K T c) :
    Calls Try.prog 30 #[.agg #[.int .i64 te, .int .i64 qu, .int .i64 ha, .slice sa M kc, .slice na K nc]] w (RetInt w c) := by
  have X1 := Lib.hid (Blk.new_at (w := w) (cs := #[.int .i64 te, .int .i64 qu, .int .i64 ha, .slice sa M kc, .slice na K nc]) (t := 54) w.heap.size rfl)
  have HB0 := Lib.hid ((Below.refl w.heap.size w).alloc (Nat.le_refl _) (.cells #[.int .i64 te, .int .i64 qu, .int .i64 ha, .slice sa M kc, .slice na K nc] 54))
  have P1 := Lib.hid (hp.below HB0.out); have G1 := Lib.hid (hg.below HB0.out); have HN := Lib.hid hn
  clear hp hg hn
  rcases hk with ⟨h1, rfl⟩ | ⟨t0, hk⟩
  · have H1 := Lib.hid (show ¬ ((0 ≤ te ∧ te ≤ 3) ∧ (2 ≤ qu ∧ qu ≤ 200) ∧ (0 ≤ ha ∧ ha ≤ 99999)) from h1)
    clear h1
    go_enter Try.func30, Try.ntmps30
    go_wp2_with fail
    with_reducible refine (isOut3 _ _ _ _ _ _ _ _ _ _ _ true (by simp) (.inr ⟨rfl, H1.out⟩)).mono ?_
    rintro e w1 ⟨rfl, hb⟩
    have HB1 := Lib.hid (thru1 HB0.out hb)
    clear hb
    go_wp2
    go_ret
    exact ⟨rfl, HB1.out⟩
  have T0 := Lib.hid (show (0 ≤ te ∧ te ≤ 3) ∧ (2 ≤ qu ∧ qu ≤ 200) ∧ (0 ≤ ha ∧ ha ≤ 99999) from t0)
  have HK0 := Lib.hid hk
  clear t0 hk
  go_enter Try.func30, Try.ntmps30
  go_wp2_with fail
  with_reducible refine (isOut3 _ _ _ _ _ _ _ _ _ _ _ false (by simp) (.inl ⟨rfl, T0.out⟩)).mono ?_
  rintro e w1 ⟨rfl, hb⟩
  have HB1 := Lib.hid (thru1 HB0.out hb)
  have X2 := Lib.hid ((X1.out.alloc _).below hb); have P2' := Lib.hid ((P1.out.alloc _).below hb); have G2 := Lib.hid ((G1.out.alloc _).below hb)
  clear hb X1 P1 G1 HB0
  have c3 := X2.out.at 3 rfl; have c4 := X2.out.at 4 rfl; have lX := X2.out.1
  rcases HK0.out with ⟨h2, rfl⟩ | ⟨t2, hk⟩
  · have H2 := Lib.hid (show ¬ ((1 ≤ (M : Int) ∧ (M : Int) ≤ 8) ∧ (0 ≤ (K : Int) ∧ (K : Int) ≤ 150)) from h2)
    clear h2 HK0
    go_wp2_with fail
    with_reducible refine (isOut2 _ _ _ _ _ _ _ _ true (by simp) (.inr ⟨rfl, H2.out⟩)).mono ?_
    rintro e w2 ⟨rfl, hb⟩
    have HB2 := Lib.hid (thru1 HB1.out hb)
    clear hb
    go_wp2
    go_ret
    exact ⟨rfl, HB2.out⟩
  have T2 := Lib.hid (show (1 ≤ (M : Int) ∧ (M : Int) ≤ 8) ∧ (0 ≤ (K : Int) ∧ (K : Int) ≤ 150) from t2)
  have HK1 := Lib.hid hk
  clear t2 hk HK0
  go_wp2_with fail
  with_reducible refine (isOut2 _ _ _ _ _ _ _ _ false (by simp) (.inl ⟨rfl, T2.out⟩)).mono ?_
  rintro e w2 ⟨rfl, hb⟩
  have HB2 := Lib.hid (thru1 HB1.out hb)
  have X3 := Lib.hid ((X2.out.alloc _).below hb); have P3 := Lib.hid ((P2'.out.alloc _).below hb); have G3 := Lib.hid ((G2.out.alloc _).below hb)
  clear hb X2 P2' G2 HB1 c3 c4 lX
  have c3 := X3.out.at 3 rfl; have c4 := X3.out.at 4 rfl; have lX := X3.out.1
  have hM8 : M ≤ 8 := by have := T2.out; omega
  have hK150 : K ≤ 150 := by have := T2.out; omega
  go_wp2
  clear c3 c4 lX
  go_loopw [32] (fun p wr => ∃ i : Nat, i ≤ M ∧ p = .int .i64 (i : Int) ∧ Hid (Below w2.heap.size w2 wr) ∧ Hid (∀ j, j < i → (0 ≤ (S j).g ∧ (S j).g ≤ 99) ∧ (0 ≤ (S j).nd ∧ (S j).nd ≤ 9999))) (fun p _ => M - (intOf p).toNat)
  case atStart => exact ⟨0, Nat.zero_le _, rfl, Below.refl _ _, Lib.hid (fun j hj => by omega)⟩
  case round =>
    obtain ⟨i, hi, rfl, HBr, HD⟩ := hrel
    have hzr := HBr.out.size
    by_cases hlt : i < M
    · have hlt' : (i : Int) < (M : Int) := by omega
      have hi0 : (0 : Int) ≤ (i : Int) := by omega
      obtain ⟨b, q, rfl, lb, s0, s1⟩ := pv_get (P3.out.below HBr.out) hlt
      by_cases g1 : (0 ≤ (S i).g ∧ (S i).g ≤ 99) ∧ (0 ≤ (S i).nd ∧ (S i).nd ≤ 9999)
      · have HG := Lib.hid g1
        have HD' : Hid (∀ j, j < i + 1 → (0 ≤ (S j).g ∧ (S j).g ≤ 99) ∧ (0 ≤ (S j).nd ∧ (S j).nd ≤ 9999)) := Lib.hid fun j hj => by
          rcases Nat.lt_succ_iff_lt_or_eq.mp hj with h1 | h1
          · exact HD.out j h1
          · subst h1; exact g1
        clear g1 HD
        go_wp2_with fail
        with_reducible refine (isOut2 _ _ _ _ _ _ _ _ false (by simp) (.inl ⟨rfl, HG.out⟩)).mono ?_
        rintro e w3 ⟨rfl, hb⟩
        have HB3 : Hid (Below w2.heap.size w2 w3) := Lib.hid (((HBr.out.alloc hzr _).alloc (by simp; omega) _).trans (hb.mono (by simp; omega)))
        clear hb s0 s1
        go_wp2
        go_roundw
        case rel => first | exact ⟨i + 1, by omega, by go_num, HB3, HD'⟩ | ((repeat apply Exists.intro); exact ⟨⟨i + 1, by omega, by go_num, HB3, HD'⟩, rfl⟩)
        case measure => simp [intOf]; omega
      · have HG := Lib.hid g1
        obtain rfl : c = 3 := by
          rcases HK1.out with ⟨_, h⟩ | ⟨h, _⟩
          · exact h
          · exact absurd (h i hlt) g1
        clear g1 HD HK1
        go_wp2_with fail
        with_reducible refine (isOut2 _ _ _ _ _ _ _ _ true (by simp) (.inr ⟨rfl, HG.out⟩)).mono ?_
        rintro e w3 ⟨rfl, hb⟩
        have HB3 : Hid (Below w2.heap.size w2 w3) := Lib.hid (((HBr.out.alloc hzr _).alloc (by simp; omega) _).trans (hb.mono (by simp; omega)))
        clear hb s0 s1
        go_wp2
        go_ret
        exact ⟨rfl, HB2.out.trans (HB3.out.mono HB2.out.size)⟩
    · have hlt' : ¬ (i : Int) < (M : Int) := by omega
      rcases HK1.out with ⟨h, _⟩ | ⟨hms, hk⟩
      · exact absurd (fun j hj => HD.out j (by omega)) h
      have HK2 := Lib.hid hk
      have X4 := Lib.hid (X3.out.below HBr.out); have P4 := Lib.hid (P3.out.below HBr.out); have G4 := Lib.hid (G3.out.below HBr.out)
      have HB3 := Lib.hid (HB2.out.trans (HBr.out.mono HB2.out.size))
      have c3 := X4.out.at 3 rfl; have c4 := X4.out.at 4 rfl; have lX := X4.out.1
      clear HK1 HD hk X3 P3 G3
      go_wp2
      clear HBr hzr hlt' hlt c3 c4 lX HB2
      generalize wr = w3 at *
      go_loopw [48] (fun p wr => ∃ j : Nat, j ≤ K ∧ p = .int .i64 (j : Int) ∧ Hid (Below w3.heap.size w3 wr) ∧ Hid (∀ i, i < j → IsNode (T i) 0)) (fun p _ => K - (intOf p).toNat)
      case atStart => exact ⟨0, Nat.zero_le _, rfl, Below.refl _ _, Lib.hid (fun j hj => by omega)⟩
      case round =>
        obtain ⟨j, hj, rfl, HBr, HD⟩ := hrel
        have hzr := HBr.out.size
        by_cases hlt : j < K
        · have hlt' : (j : Int) < (K : Int) := by omega
          have hj0 : (0 : Int) ≤ (j : Int) := by omega
          obtain ⟨b, q, rfl, lb, hsix, hsrc⟩ := nv_get (G4.out.below HBr.out) hlt
          have SR := Lib.hid hsrc
          obtain ⟨s0, s1, s2, s3, s4⟩ := hsix
          obtain ⟨cj, hcj⟩ := isNode_some (T j)
          have HCJ := Lib.hid hcj
          clear hcj hsrc
          go_wp2_with fail
          refine (nodeFault_any (T j) cj _ (SR.out.alloc _) (HN.out j hlt) HCJ.out).mono ?_
          rintro e w4 ⟨rfl, hb⟩
          have HB4 := Lib.hid (thru1 HBr.out hb)
          clear hb s0 s1 s2 s3 s4
          by_cases h0 : cj = 0
          · subst h0
            have HD' : Hid (∀ i, i < j + 1 → IsNode (T i) 0) := Lib.hid fun i hi => by
              rcases Nat.lt_succ_iff_lt_or_eq.mp hi with h1 | h1
              · exact HD.out i h1
              · subst h1; exact HCJ.out
            clear HD
            go_wp2
            go_roundw
            case rel => first | exact ⟨j + 1, by omega, by go_num, HB4, HD'⟩ | ((repeat apply Exists.intro); exact ⟨⟨j + 1, by omega, by go_num, HB4, HD'⟩, rfl⟩)
            case measure => simp [intOf]; omega
          · have h0' : (cj != 0) = true := by simpa using h0
            obtain rfl : c = cj := by
              rcases HK2.out with ⟨h, _⟩ | ⟨h, _⟩
              · exact isNodes_hit h hlt HD.out HCJ.out h0
              · exact absurd (isNode_one HCJ.out (isNodes_zero h j hlt)) h0
            clear HD HK2
            go_wp2
            go_ret
            exact ⟨rfl, HB3.out.trans (HB4.out.mono HB3.out.size)⟩
        · have hlt' : ¬ (j : Int) < (K : Int) := by omega
          rcases HK2.out with ⟨h, h0⟩ | ⟨hnz, hk⟩
          · exact absurd (isNodes_all h fun i hi => HD.out i (by omega)) h0
          have HND := Lib.hid (isNodes_zero hnz)
          have HK3 := Lib.hid hk
          have X5 := Lib.hid (X4.out.below HBr.out); have P5 := Lib.hid (P4.out.below HBr.out); have G5 := Lib.hid (G4.out.below HBr.out)
          have HB4 := Lib.hid (HB3.out.trans (HBr.out.mono HB3.out.size))
          have c3 := X5.out.at 3 rfl; have c4 := X5.out.at 4 rfl; have lX := X5.out.1
          clear HK2 HD hk hnz X4 P4 G4 HBr hzr HB3
          obtain ⟨r, hr9⟩ : ∃ r : Bool, r = true ↔ MRise K T := by
            by_cases h : MRise K T
            · exact ⟨true, by simp [h]⟩
            · exact ⟨false, by simp [h]⟩
          have HR := Lib.hid hr9
          clear hr9
          go_wp2_with fail
          refine (rising_any na K nc T r _ G5.out hK HR.out).mono ?_
          rintro e w5 ⟨rfl, hb⟩
          have HB5 := Lib.hid (thru0 HB4.out hb)
          have X6 := Lib.hid (X5.out.below hb); have P6 := Lib.hid (P5.out.below hb); have G6 := Lib.hid (G5.out.below hb)
          clear hb X5 P5 G5 HB4 c3 c4 lX
          cases r
          · obtain rfl : c = 1 := by
              rcases HK3.out with ⟨_, h⟩ | ⟨h, _⟩
              · exact h
              · exact absurd (HR.out.2 h) (by simp)
            clear HK3
            go_wp2
            go_ret
            exact ⟨rfl, HB5.out⟩
          have hmr : MRise K T := HR.out.1 rfl
          have HM := Lib.hid (show ∀ i j, i < j → j < K → (T i).at_ < (T j).at_ from fun i j => rise_lt hmr j i)
          rcases HK3.out with ⟨h, _⟩ | ⟨_, hk⟩
          · exact absurd hmr h
          have HK4 := Lib.hid hk
          clear HK3 hk hmr HR
          have c0 := X6.out.at 0 rfl; have c1 := X6.out.at 1 rfl; have c2 := X6.out.at 2 rfl; have c3 := X6.out.at 3 rfl; have c4 := X6.out.at 4 rfl; have lX := X6.out.1
          obtain ⟨r, hr9⟩ : ∃ r : Bool, r = true ↔ ¬ MLead M S K T := by
            by_cases h : MLead M S K T
            · exact ⟨false, by simp [h]⟩
            · exact ⟨true, by simp [h]⟩
          have HR := Lib.hid hr9
          clear hr9
          go_wp2_with fail
          refine (leadsAstray_any te qu ha sa M kc S na K nc T r _ P6.out G6.out (by omega) (by omega) HM.out HND.out HR.out).mono ?_
          rintro e w6 ⟨rfl, hb⟩
          have HB6 := Lib.hid (thru0 HB5.out hb)
          have X7 := Lib.hid (X6.out.below hb); have P7 := Lib.hid (P6.out.below hb)
          clear hb X6 P6 G6 HB5 c0 c1 c2 c3 c4 lX
          cases r
          · have hml : MLead M S K T := by
              by_cases h : MLead M S K T
              · exact h
              · exact absurd (HR.out.2 h) (by simp)
            rcases HK4.out with ⟨h, _⟩ | ⟨_, hk⟩
            · exact absurd hml h
            have HK5 := Lib.hid hk
            clear HK4 hk hml HR
            have c3 := X7.out.at 3 rfl; have lX := X7.out.1
            obtain ⟨r, hr9⟩ : ∃ r : Bool, r = true ↔ ¬ MGive M S := by
              by_cases h : MGive M S
              · exact ⟨false, by simp [h]⟩
              · exact ⟨true, by simp [h]⟩
            have HR := Lib.hid hr9
            clear hr9
            go_wp2_with fail
            refine (containsS_any sa M kc S r _ P7.out (by omega) HR.out).mono ?_
            rintro e w7 ⟨rfl, hb⟩
            have HB7 := Lib.hid (thru0 HB6.out hb)
            clear hb c3 lX
            cases r
            · obtain rfl : c = 0 := by
                rcases HK5.out with ⟨h, _⟩ | ⟨_, h⟩
                · exact absurd (HR.out.2 h) (by simp)
                · exact h
              clear HK5
              go_wp2
              go_ret
              exact ⟨rfl, HB7.out⟩
            · obtain rfl : c = 8 := by
                rcases HK5.out with ⟨_, h⟩ | ⟨h, _⟩
                · exact h
                · exact absurd h (HR.out.1 rfl)
              clear HK5
              go_wp2
              go_ret
              exact ⟨rfl, HB7.out⟩
          · obtain rfl : c = 4 := by
              rcases HK4.out with ⟨_, h⟩ | ⟨h, _⟩
              · exact h
              · exact absurd h (HR.out.1 rfl)
            clear HK4
            go_wp2
            go_ret
            exact ⟨rfl, HB6.out⟩
end Go.Proofs.Ytaenbjilcgpgcaa

namespace Go.Proofs.Ytaenbjilcgpgcaa
open Go.ChangeShapes Go.WideShapes Go.ChangeAt Go.RowKit Go.Joins Go.Deep
set_option linter.unusedVariables false

theorem Try.cellsM223 : Try.prog.cellsOf 223 = 2 := by kernel_rfl

theorem Try.cellsM220 : Try.prog.cellsOf 220 = 5 := by kernel_rfl

theorem Try.cellsM67 : Try.prog.cellsOf 67 = 1 := by kernel_rfl

theorem Try.cellsM68 : Try.prog.cellsOf 68 = 1 := by kernel_rfl

theorem Try.cellsM70 : Try.prog.cellsOf 70 = 5 := by kernel_rfl

instance : Inhabited SL := ⟨⟨0, 0⟩⟩

set_option maxRecDepth 100000 in
/-- One slot, out of its cells. -/
theorem open_slot {H : Type} {enc : TypeId × Value → H} {W : World} {n : Nat} {cs : List Value} {y : DataW H × List MemPlace} (hlen : cs.length = 2) (h : DataW.trod enc Try.prog W 0 (fun _ => true) true n 223 cs = some y) :
    ∃ t : SL, cs = [.int .i64 t.g, .int .i64 t.nd] := by
  match cs, hlen with
  | [v0, v1], _ =>
    obtain ⟨xs, k, _, _, _, hxl, hf⟩ := DataW.trod_struct Try.underlying223 h
    have hxl : xs.length = 2 := hxl
    match xs, hxl with
    | [y0, y1], _ =>
      have g0 := hf 0 _ rfl
      have g1 := hf 1 _ rfl
      simp [Try.cellsO2] at g0 g1
      obtain ⟨i0, e0, _, _⟩ := DataW.trod_int Try.underlying2 g0
      obtain ⟨i1, e1, _, _⟩ := DataW.trod_int Try.underlying2 g1
      simp only [List.cons.injEq, and_true] at e0 e1
      subst e0 e1
      exact ⟨⟨i0, i1⟩, rfl⟩

set_option maxRecDepth 100000 in
/-- One node, out of its cells. -/
theorem open_node {H : Type} {enc : TypeId × Value → H} {W : World} {n : Nat} {cs : List Value} {y : DataW H × List MemPlace} (hlen : cs.length = 5) (h : DataW.trod enc Try.prog W 0 (fun _ => true) true n 220 cs = some y) :
    ∃ t : GM, cs = [.int .i64 t.at_, .int .i64 t.s, .int .i64 t.m, .int .i64 t.h, .slice t.a t.n t.c] ∧ Src W t.a t.n t.f ∧ t.n ≤ maxLen := by
  match cs, hlen with
  | [v0, v1, v2, v3, v4], _ =>
    obtain ⟨xs, k, _, _, _, hxl, hf⟩ := DataW.trod_struct Try.underlying220 h
    have hxl : xs.length = 5 := hxl
    match xs, hxl with
    | [y0, y1, y2, y3, y4], _ =>
      have g0 := hf 0 _ rfl
      have g1 := hf 1 _ rfl
      have g2 := hf 2 _ rfl
      have g3 := hf 3 _ rfl
      have g4 := hf 4 _ rfl
      simp [Try.cellsO2] at g0 g1 g2 g3
      simp [Try.cellsO24] at g4
      obtain ⟨i0, e0, _, _⟩ := DataW.trod_int Try.underlying2 g0
      obtain ⟨i1, e1, _, _⟩ := DataW.trod_int Try.underlying2 g1
      obtain ⟨i2, e2, _, _⟩ := DataW.trod_int Try.underlying2 g2
      obtain ⟨i3, e3, _, _⟩ := DataW.trod_int Try.underlying2 g3
      simp only [List.cons.injEq, and_true] at e0 e1 e2 e3
      subst e0 e1 e2 e3
      rcases open_ints Try.underlying24 Try.underlying2 (by kernel_rfl) g4 with ⟨hcs, _⟩ | ⟨x, l, c, zs, hcs, _, hl, hm, hz, _, hcell, _⟩
      · simp only [List.cons.injEq, and_true] at hcs
        subst hcs
        exact ⟨⟨i0, i1, i2, 0, i3, none, 0, 0, fun _ => 0⟩, rfl, .inl rfl, Nat.zero_le _⟩
      · simp only [List.cons.injEq, and_true] at hcs
        subst hcs
        have hlz : l ≤ zs.length := by
          rw [hz]; split
          · exact hl
          · exact Nat.le_refl _
        exact ⟨⟨i0, i1, i2, 0, i3, some x, l, c, fun i => zs.getD i 0⟩, rfl, src_ints hlz hcell, Nat.le_trans hl hm⟩

set_option maxRecDepth 100000 in
/-- A row of slots. -/
theorem open_slots {H : Type} {enc : TypeId × Value → H} {W : World} {fuel : Nat} {cs : List Value} {y : DataW H × List MemPlace} (hf : DataW.trod enc Try.prog W 0 (fun _ => true) true fuel 67 cs = some y) :
    ∃ (a : Option Addr) (N c : Nat) (T : Nat → SL), cs = [.slice a N c] ∧ PV W a N T ∧ N ≤ maxLen := by
  rcases open_slice Try.underlying67 hf with ⟨hcs, _⟩ | ⟨x, l, c, m, n, D, Pl, hcs, _, hl, hm, hmm, _, hx⟩
  · exact ⟨none, 0, 0, fun _ => default, hcs, .inl rfl, Nat.zero_le _⟩
  · have hlm : l ≤ m := by
      rw [hmm]; split
      · exact hl
      · exact Nat.le_refl _
    have each : ∀ i, i < l → ∃ t : SL, (∀ j u, ([.int .i64 t.g, .int .i64 t.nd] : List Value)[j]? = some u → W.cell? ((x.add (i * 2)).add j) = some u) := fun i hi => by
      obtain ⟨cs', h1, h2⟩ := hx i (by omega)
      rw [Try.cellsM223] at h1
      obtain ⟨_, hlen, hat⟩ := World.cells?_some h1
      obtain ⟨t, rfl⟩ := open_slot hlen h2
      refine ⟨t, fun j u hu => ?_⟩
      rw [hat j (List.getElem?_eq_some_iff.mp hu).1, hu]
    by_cases hz : l = 0
    · exact ⟨some x, l, c, fun _ => default, hcs, .inl hz, by omega⟩
    obtain ⟨T, hT⟩ := Go.Deep.choose_lt each
    refine ⟨some x, l, c, T, hcs, ?_, by omega⟩
    obtain ⟨b, off, spot⟩ := x
    have hc := hT 0 (by omega) 0 _ rfl
    have hspot : spot = none := by simpa [Addr.add] using World.cell?_spot hc
    subst hspot
    refine .inr ⟨b, off, rfl, World.block_lt_of_cell? W _ (by simpa [Addr.add] using hc), fun i hi => ?_⟩
    have g := fun j u hu => hT i hi j u hu
    simp only [add_none] at g
    exact ⟨g 0 _ rfl, g 1 _ rfl⟩

set_option maxRecDepth 100000 in
/-- A row of nodes. -/
theorem open_nodes {H : Type} {enc : TypeId × Value → H} {W : World} {fuel : Nat} {cs : List Value} {y : DataW H × List MemPlace} (hf : DataW.trod enc Try.prog W 0 (fun _ => true) true fuel 68 cs = some y) :
    ∃ (a : Option Addr) (N c : Nat) (T : Nat → GM), cs = [.slice a N c] ∧ NV W a N T ∧ N ≤ maxLen ∧ ∀ i, i < N → (T i).n ≤ maxLen := by
  rcases open_slice Try.underlying68 hf with ⟨hcs, _⟩ | ⟨x, l, c, m, n, D, Pl, hcs, _, hl, hm, hmm, _, hx⟩
  · exact ⟨none, 0, 0, fun _ => gzero, hcs, .inl rfl, Nat.zero_le _, fun i hi => by omega⟩
  · have hlm : l ≤ m := by
      rw [hmm]; split
      · exact hl
      · exact Nat.le_refl _
    have each : ∀ i, i < l → ∃ t : GM, (∀ j u, ([.int .i64 t.at_, .int .i64 t.s, .int .i64 t.m, .int .i64 t.h, .slice t.a t.n t.c] : List Value)[j]? = some u → W.cell? ((x.add (i * 5)).add j) = some u) ∧ Src W t.a t.n t.f ∧ t.n ≤ maxLen := fun i hi => by
      obtain ⟨cs', h1, h2⟩ := hx i (by omega)
      rw [Try.cellsM220] at h1
      obtain ⟨_, hlen, hat⟩ := World.cells?_some h1
      obtain ⟨t, rfl, h3, h4⟩ := open_node hlen h2
      refine ⟨t, fun j u hu => ?_, h3, h4⟩
      rw [hat j (List.getElem?_eq_some_iff.mp hu).1, hu]
    by_cases hz : l = 0
    · exact ⟨some x, l, c, fun _ => gzero, hcs, .inl hz, by omega, fun i hi => by omega⟩
    obtain ⟨T, hT⟩ := Go.Deep.choose_lt each
    refine ⟨some x, l, c, T, hcs, ?_, by omega, fun i hi => (hT i hi).2.2⟩
    obtain ⟨b, off, spot⟩ := x
    have hc := (hT 0 (by omega)).1 0 _ rfl
    have hspot : spot = none := by simpa [Addr.add] using World.cell?_spot hc
    subst hspot
    refine .inr ⟨b, off, rfl, World.block_lt_of_cell? W _ (by simpa [Addr.add] using hc), fun i hi => ?_, fun i hi => (hT i hi).2.1⟩
    have g := fun j u hu => (hT i hi).1 j u hu
    simp only [add_none] at g
    exact ⟨g 0 _ rfl, g 1 _ rfl, g 2 _ rfl, g 3 _ rfl, g 4 _ rfl⟩

set_option maxRecDepth 100000 in
/-- What came in: a machine. -/
theorem open_machine {H : Type} {enc : TypeId × Value → H} {W : World} {base : Nat} {v0 : Value} {d0 : DataW H} {p0 : List MemPlace}
    (hv : Value.okWide Try.prog W .any base 70 v0) (h0 : DataW.Trod enc Try.prog W 0 (fun _ => true) true 70 v0 d0 p0) :
    ∃ (te qu ha : Int) (sa : Option Addr) (M kc : Nat) (S : Nat → SL) (na : Option Addr) (K nc : Nat) (T : Nat → GM), v0 = .agg #[.int .i64 te, .int .i64 qu, .int .i64 ha, .slice sa M kc, .slice na K nc] ∧ PV W sa M S ∧ NV W na K T ∧ M ≤ maxLen ∧ K ≤ maxLen ∧ ∀ i, i < K → (T i).n ≤ maxLen := by
  obtain ⟨cs, rfl, hsz⟩ := okWide_struct Try.underlying70 hv
  have hsz : cs.size = 5 := hsz.trans Try.cellsM70
  obtain ⟨fuel, hf0⟩ := h0
  obtain ⟨ls⟩ := cs
  match ls, hsz with
  | [v0, v1, v2, v3, v4], _ =>
    obtain ⟨xs, k, _, _, _, hxl, hf⟩ := DataW.trod_struct Try.underlying70 hf0
    have hxl : xs.length = 5 := hxl
    match xs, hxl with
    | [y0, y1, y2, y3, y4], _ =>
      have g0 := hf 0 _ rfl
      have g1 := hf 1 _ rfl
      have g2 := hf 2 _ rfl
      have g3 := hf 3 _ rfl
      have g4 := hf 4 _ rfl
      simp [Value.cells, Try.cellsO2, Try.cellsM67, Try.cellsM68] at g0 g1 g2 g3 g4
      obtain ⟨i0, e0, _, _⟩ := DataW.trod_int Try.underlying2 g0
      obtain ⟨i1, e1, _, _⟩ := DataW.trod_int Try.underlying2 g1
      obtain ⟨i2, e2, _, _⟩ := DataW.trod_int Try.underlying2 g2
      obtain ⟨sa, M, kc, S, e3, hp, hm⟩ := open_slots g3
      obtain ⟨na, K, nc, T, e4, hg, hk, hn⟩ := open_nodes g4
      simp only [List.cons.injEq, and_true] at e0 e1 e2 e3 e4
      subst e0 e1 e2 e3 e4
      exact ⟨i0, i1, i2, sa, M, kc, S, na, K, nc, T, rfl, hp, hg, hm, hk, hn⟩
end Go.Proofs.Ytaenbjilcgpgcaa

namespace Go.Proofs.Ytaenbjilcgpgcaa
open Go.RowKit
set_option linter.unusedVariables false

theorem isNode_same {t u : GM} {c : Int} (e : GSame t u) (h : IsNode t c) : IsNode u c := by
  obtain ⟨e1, e2, e3, e4, e5, e6, e7⟩ := e
  have hn : Neat t ↔ Neat u := by unfold Neat; rw [e1, e2, e3, e5]
  have hs : ((t.n : Int) = t.s) ↔ ((u.n : Int) = u.s) := by rw [e6, e2]
  have hw : (∀ k, k < t.n → Word (t.f k)) ↔ (∀ k, k < u.n → Word (u.f k)) := by
    constructor
    · intro h k hk; rw [← e7 k (by omega)]; exact h k (by omega)
    · intro h k hk; rw [e7 k hk]; exact h k (by omega)
  unfold IsNode at h ⊢
  rw [← hn, ← hs, ← hw]
  exact h

theorem isNodes_same {T U : Nat → GM} {K : Nat} {c : Int} (e : ∀ i, i < K → GSame (T i) (U i)) (h : IsNodes T K c) : IsNodes U K c := by
  rcases h with ⟨rfl, h⟩ | ⟨h0, i, hi, h1, h2⟩
  · exact .inl ⟨rfl, fun i hi => isNode_same (e i hi) (h i hi)⟩
  · exact .inr ⟨h0, i, hi, fun j hj => isNode_same (e j (by omega)) (h1 j hj), isNode_same (e i hi) h2⟩

theorem has_same {T U : Nat → GM} {K : Nat} {v : Int} (e : ∀ i, i < K → GSame (T i) (U i)) : Has K T v ↔ Has K U v := by
  constructor
  · rintro ⟨j, hj, h⟩; exact ⟨j, hj, (e j hj).1 ▸ h⟩
  · rintro ⟨j, hj, h⟩; exact ⟨j, hj, (e j hj).1.symm ▸ h⟩

theorem rise_same {T U : Nat → GM} {K : Nat} (e : ∀ i, i < K → GSame (T i) (U i)) : MRise K T ↔ MRise K U := by
  constructor
  · intro h i hi; rw [← (e i (by omega)).1, ← (e (i + 1) hi).1]; exact h i hi
  · intro h i hi; rw [(e i (by omega)).1, (e (i + 1) hi).1]; exact h i hi

theorem lead_same {M : Nat} {S : Nat → SL} {T U : Nat → GM} {K : Nat} (e : ∀ i, i < K → GSame (T i) (U i)) : MLead M S K T ↔ MLead M S K U := by
  unfold MLead
  constructor
  · rintro ⟨h1, h2⟩
    refine ⟨fun i hi => (h1 i hi).imp_right (has_same e).1, fun i hi k hk hp => ?_⟩
    obtain ⟨e1, e2, e3, e4, e5, e6, e7⟩ := e i hi
    have := h2 i hi k (by omega) (by unfold IsP at hp ⊢; rw [e3]; exact hp)
    rw [e7 k (by omega)] at this
    exact this.imp_right (has_same e).1
  · rintro ⟨h1, h2⟩
    refine ⟨fun i hi => (h1 i hi).imp_right (has_same e).2, fun i hi k hk hp => ?_⟩
    obtain ⟨e1, e2, e3, e4, e5, e6, e7⟩ := e i hi
    have := h2 i hi k (by omega) (by unfold IsP at hp ⊢; rw [← e3]; exact hp)
    rw [← e7 k (by omega)] at this
    exact this.imp_right (has_same e).2

theorem isMF_same {te qu ha : Int} {M : Nat} {S : Nat → SL} {K : Nat} {T U : Nat → GM} {c : Int} (e : ∀ i, i < K → GSame (T i) (U i)) (h : IsMF te qu ha M S K T c) : IsMF te qu ha M S K U c := by
  rcases h with h | ⟨h1, h | ⟨h2, h | ⟨h3, ⟨h4, h0⟩ | ⟨h4, h⟩⟩⟩⟩
  · exact .inl h
  · exact .inr ⟨h1, .inl h⟩
  · exact .inr ⟨h1, .inr ⟨h2, .inl h⟩⟩
  · exact .inr ⟨h1, .inr ⟨h2, .inr ⟨h3, .inl ⟨isNodes_same e h4, h0⟩⟩⟩⟩
  · refine .inr ⟨h1, .inr ⟨h2, .inr ⟨h3, .inr ⟨isNodes_same e h4, ?_⟩⟩⟩⟩
    rw [← rise_same e, ← lead_same e]
    exact h

theorem gsame_symm {t u : GM} (h : GSame t u) : GSame u t := ⟨h.1.symm, h.2.1.symm, h.2.2.1.symm, h.2.2.2.1.symm, h.2.2.2.2.1.symm, h.2.2.2.2.2.1.symm, fun k hk => (h.2.2.2.2.2.2 k (by have := h.2.2.2.2.2.1; omega)).symm⟩

theorem gsame_trans {t u v : GM} (h : GSame t u) (g : GSame u v) : GSame t v := ⟨h.1.trans g.1, h.2.1.trans g.2.1, h.2.2.1.trans g.2.2.1, h.2.2.2.1.trans g.2.2.2.1, h.2.2.2.2.1.trans g.2.2.2.2.1, h.2.2.2.2.2.1.trans g.2.2.2.2.2.1, fun k hk => (h.2.2.2.2.2.2 k hk).trans (g.2.2.2.2.2.2 k (by have := h.2.2.2.2.2.1; omega))⟩

/-- The size of a machine: too great, or each part is within it. -/
def RetSzM (W : World) (M K : Nat) (T : Nat → GM) (l : Int) (e : Ending) (w' : World) : Prop :=
  Below W.heap.size W w' ∧ ∃ r : Int, e = .returned (.int .i64 r) ∧ r ≤ l ∧ (r = -1 ∨ (0 ≤ r ∧ (M : Int) ≤ l ∧ (K : Int) ≤ l ∧ ∀ i, i < K → ((T i).n : Int) ≤ l))

set_option maxRecDepth 100000 in
set_option maxHeartbeats 800000 in
theorem szMachine_any (te qu ha : Int) (sa : Option Addr) (M kc : Nat) (S : Nat → SL) (na : Option Addr) (K nc : Nat) (T : Nat → GM) (l : Int) (w : World) (hp : PV w sa M S) (hg : NV w na K T) (hM : M ≤ maxLen) (hK : K ≤ maxLen) (hn : ∀ i, i < K → (T i).n ≤ maxLen) (hl0 : 0 ≤ l) (hl : l ≤ 1048576) :
    Calls Try.prog 42 #[.agg #[.int .i64 te, .int .i64 qu, .int .i64 ha, .slice sa M kc, .slice na K nc], .int .i64 l] w (RetSzM w M K T l) := by
  have G := Lib.hid hg; have HN := Lib.hid hn
  clear hp hg hn
  have HB0 := Lib.hid ((Below.refl w.heap.size w).alloc (Nat.le_refl _) (.cells #[.int .i64 te, .int .i64 qu, .int .i64 ha, .slice sa M kc, .slice na K nc] 70))
  by_cases hM2 : (M : Int) ≤ l
  · have h9 : ¬ l - (M : Int) < 0 := by omega
    go_enter Try.func42, Try.ntmps42
    go_wp2_with fail
    refine (szSlotS_ok sa M kc l _ hl0 hl hM hM2).mono ?_
    rintro e w1 ⟨rfl, rfl⟩
    go_wp2_with fail
    refine (szNodeS_any na K nc T (l - (M : Int)) _ (G.out.alloc _) hK HN.out (by omega) (by omega)).mono ?_
    rintro e w2 ⟨hb, r, rfl, hr1, hr2⟩
    have HB2 := Lib.hid (HB0.out.trans (hb.mono HB0.out.size))
    clear hb
    rcases hr2 with rfl | ⟨h0, h1, h2⟩
    · go_wp2
      go_ret
      exact ⟨HB2.out, -1, rfl, by omega, .inl rfl⟩
    · have h8 : ¬ r < 0 := by omega
      have H2 := Lib.hid h2
      clear h2
      go_wp2
      go_ret
      exact ⟨HB2.out, r, rfl, by omega, .inr ⟨h0, hM2, by omega, fun i hi => by have := H2.out i hi; omega⟩⟩
  · go_enter Try.func42, Try.ntmps42
    go_wp2_with fail
    refine (szSlotS_no sa M kc l _ hl0 hl hM (by omega)).mono ?_
    rintro e w1 ⟨rfl, rfl⟩
    go_wp2
    go_ret
    exact ⟨HB0.out, -1, rfl, by omega, .inl rfl⟩

/-- A new machine that holds the same. -/
def RetTM (W : World) (te qu ha : Int) (M : Nat) (S : Nat → SL) (K : Nat) (T : Nat → GM) (e : Ending) (w' : World) : Prop :=
  ∃ (sa : Option Addr) (kc : Nat) (na : Option Addr) (nc : Nat) (U : Nat → GM), e = .returned (.agg #[.int .i64 te, .int .i64 qu, .int .i64 ha, .slice sa M kc, .slice na K nc]) ∧ PV w' sa M S ∧ NV w' na K U ∧ (∀ i, i < K → GSame (T i) (U i)) ∧ Below W.heap.size W w'

set_option maxRecDepth 100000 in
set_option maxHeartbeats 1600000 in
theorem toMachine_any (te qu ha : Int) (sa : Option Addr) (M kc : Nat) (S : Nat → SL) (na : Option Addr) (K nc : Nat) (T : Nat → GM) (w : World) (hp : PV w sa M S) (hg : NV w na K T) (hM : M ≤ 1048576) (hK : K ≤ 1048576) (hn : ∀ i, i < K → (T i).n ≤ 1048576) :
    Calls Try.prog 44 #[.agg #[.int .i64 te, .int .i64 qu, .int .i64 ha, .slice sa M kc, .slice na K nc]] w (RetTM w te qu ha M S K T) := by
  have P0 := Lib.hid hp; have G := Lib.hid hg; have HN := Lib.hid hn
  clear hp hg hn
  go_enter Try.func44, Try.ntmps44
  go_wp2_with fail
  refine (toSlotS_any sa M kc S _ (((P0.out.alloc _).alloc _).alloc _) hM).mono ?_
  rintro e w1 ⟨sa', kc', rfl, ho, hb⟩
  have A_1 := Lib.hid ((((Blk.new_at (w := w) (cs := #[.int .i64 te, .int .i64 qu, .int .i64 ha, .slice sa M kc, .slice na K nc]) (t := 70) w.heap.size rfl).alloc _).alloc _).below hb)
  have R_1 := Lib.hid (((Blk.new_at (w := w.alloc (.cells #[.int .i64 te, .int .i64 qu, .int .i64 ha, .slice sa M kc, .slice na K nc] 70)) (cs := #[.int .i64 0, .int .i64 0, .int .i64 0, .slice none 0 0, .slice none 0 0]) (t := 54) (w.heap.size + 1) (by simp)).alloc _).below hb)
  have O_1 := Lib.hid ((Blk.new_at (w := (w.alloc (.cells #[.int .i64 te, .int .i64 qu, .int .i64 ha, .slice sa M kc, .slice na K nc] 70)).alloc (.cells #[.int .i64 0, .int .i64 0, .int .i64 0, .slice none 0 0, .slice none 0 0] 54)) (cs := #[.int .i64 te, .int .i64 qu, .int .i64 ha, .slice none 0 0, .slice none 0 0]) (t := 54) (w.heap.size + 2) (by simp)).below hb)
  have HB1 := Lib.hid (((((Below.refl w.heap.size w).alloc (Nat.le_refl _) _).alloc (by simp) _).alloc (by simp; omega) _).trans (hb.mono (by simp; omega)))
  have z1 : w.heap.size + 3 ≤ w1.heap.size := by have := hb.size; simp at this; omega
  have HO1 := Lib.hid (ho.widen (lo' := w.heap.size + 3) (by simp) (Nat.le_refl _))
  clear hb ho P0
  have cA0 := A_1.out.at 0 rfl; have fA0 := A_1.out.free 0 rfl; have cA1 := A_1.out.at 1 rfl; have fA1 := A_1.out.free 1 rfl; have cA2 := A_1.out.at 2 rfl; have fA2 := A_1.out.free 2 rfl; have cA3 := A_1.out.at 3 rfl; have fA3 := A_1.out.free 3 rfl; have cA4 := A_1.out.at 4 rfl; have fA4 := A_1.out.free 4 rfl; have lA := A_1.out.1
  have cR0 := R_1.out.at 0 rfl; have fR0 := R_1.out.free 0 rfl; have cR1 := R_1.out.at 1 rfl; have fR1 := R_1.out.free 1 rfl; have cR2 := R_1.out.at 2 rfl; have fR2 := R_1.out.free 2 rfl; have cR3 := R_1.out.at 3 rfl; have fR3 := R_1.out.free 3 rfl; have cR4 := R_1.out.at 4 rfl; have fR4 := R_1.out.free 4 rfl; have lR := R_1.out.1
  have cO0 := O_1.out.at 0 rfl; have fO0 := O_1.out.free 0 rfl; have cO1 := O_1.out.at 1 rfl; have fO1 := O_1.out.free 1 rfl; have cO2 := O_1.out.at 2 rfl; have fO2 := O_1.out.free 2 rfl; have cO3 := O_1.out.at 3 rfl; have fO3 := O_1.out.free 3 rfl; have cO4 := O_1.out.at 4 rfl; have fO4 := O_1.out.free 4 rfl; have lO := O_1.out.1
  go_wp2_with fail
  obtain ⟨ws, hws⟩ : ∃ ws, ws = w1.setCell ⟨w.heap.size + 1 + 1, 3, none⟩ (.slice sa' M kc') := ⟨_, rfl⟩
  have hkw : Keeps w1 ws (w.heap.size + 2) (w.heap.size + 2 + 1) := by rw [hws]; exact keeps_setCell (p := ⟨w.heap.size + 1 + 1, 3, none⟩) (Nat.le_refl _) (Nat.lt_succ_self _) _
  have HBs : Hid (Below w.heap.size w ws) := Lib.hid (HB1.out.trans (hkw.below (by omega) HB1.out.size))
  have O_s : Hid (Blk ws (w.heap.size + 2) [.int .i64 te, .int .i64 qu, .int .i64 ha, .slice sa' M kc', .slice none 0 0]) := Lib.hid (by rw [hws]; exact O_1.out.set 3 (by simp) _)
  have A_s := Lib.hid (A_1.out.keeps hkw (.inl (by omega)))
  have R_s := Lib.hid (R_1.out.keeps hkw (.inl (by omega)))
  have HOs := Lib.hid (HO1.out.keeps hkw (.inr (by omega)))
  have Gs := Lib.hid (G.out.below HBs.out)
  have zs : w.heap.size + 3 ≤ ws.heap.size := by have := hkw.size; omega
  rw [← hws]
  clear hws hkw O_1 R_1 A_1 HB1 HO1 G cA0 fA0 cA1 fA1 cA2 fA2 cA3 fA3 cA4 fA4 cR0 fR0 cR1 fR1 cR2 fR2 cR3 fR3 cR4 fR4 cO0 fO0 cO1 fO1 cO2 fO2 cO3 fO3 cO4 fO4 lA lR lO
  refine (toNodeS_any na K nc T _ Gs.out hK HN.out).mono ?_
  rintro e w2 ⟨na', nc', U, rfl, hno, hsm, hb⟩
  have HB2 := Lib.hid (thru0 HBs.out hb)
  have O_1 := Lib.hid (O_s.out.below hb); have R_1 := Lib.hid (R_s.out.below hb)
  have HO2 := Lib.hid ((HOs.out.below hb).widen (Nat.le_refl _) (Nat.le_refl _)); have HNO := Lib.hid hno; have HSM := Lib.hid hsm
  have z2 : w.heap.size + 3 ≤ w2.heap.size := by have := hb.size; omega
  clear hb hno hsm O_s R_s HBs HOs Gs A_s
  have cR0 := R_1.out.at 0 rfl; have fR0 := R_1.out.free 0 rfl; have cR1 := R_1.out.at 1 rfl; have fR1 := R_1.out.free 1 rfl; have cR2 := R_1.out.at 2 rfl; have fR2 := R_1.out.free 2 rfl; have cR3 := R_1.out.at 3 rfl; have fR3 := R_1.out.free 3 rfl; have cR4 := R_1.out.at 4 rfl; have fR4 := R_1.out.free 4 rfl; have lR := R_1.out.1
  have cO0 := O_1.out.at 0 rfl; have fO0 := O_1.out.free 0 rfl; have cO1 := O_1.out.at 1 rfl; have fO1 := O_1.out.free 1 rfl; have cO2 := O_1.out.at 2 rfl; have fO2 := O_1.out.free 2 rfl; have cO3 := O_1.out.at 3 rfl; have fO3 := O_1.out.free 3 rfl; have cO4 := O_1.out.at 4 rfl; have fO4 := O_1.out.free 4 rfl; have lO := O_1.out.1
  go_wp2
  refine bodyPost_ret (v := .agg #[.int .i64 te, .int .i64 qu, .int .i64 ha, .slice sa' M kc', .slice na' K nc']) (by simp [results, Try.results44, go_sem, cR0, cR1, cR2, cR3, cR4]) rfl ⟨sa', kc', na', nc', U, rfl, ?_, ?_, HSM.out, ?_⟩
  · refine (PVO.keeps (lo' := w.heap.size + 1) (hi' := w.heap.size + 3) HO2.out ?_ (.inr (by omega))).src
    repeat (refine Keeps.trans ?_ (keeps_setCell (by (try simp); (try omega)) (by (try simp); (try omega)) _))
    exact Keeps.refl _ _ _
  · refine (NVO.keeps (lo' := w.heap.size + 1) (hi' := w.heap.size + 3) HNO.out ?_ (.inr (by omega))).src
    repeat (refine Keeps.trans ?_ (keeps_setCell (by (try simp); (try omega)) (by (try simp); (try omega)) _))
    exact Keeps.refl _ _ _
  · repeat (with_reducible refine Below.setCell ?_ (by (try simp); (try omega)) _)
    exact HB2.out

set_option maxRecDepth 100000 in
set_option maxHeartbeats 800000 in
theorem eqMachine_same (te qu ha : Int) (sa sa' : Option Addr) (M kc kc' : Nat) (S : Nat → SL) (na na' : Option Addr) (K nc nc' : Nat) (T U : Nat → GM) (w : World) (hp : PV w sa M S) (hg : NV w na K T) (hp' : PV w sa' M S) (hg' : NV w na' K U) (hs : ∀ i, i < K → GSame (T i) (U i)) (hM : M ≤ 1048576) (hK : K ≤ 1048576) (hn : ∀ i, i < K → (T i).n ≤ 1048576) :
    Calls Try.prog 46 #[.agg #[.int .i64 te, .int .i64 qu, .int .i64 ha, .slice sa M kc, .slice na K nc], .agg #[.int .i64 te, .int .i64 qu, .int .i64 ha, .slice sa' M kc', .slice na' K nc']] w (RetBool w true) := by
  have P0 := Lib.hid hp; have P1 := Lib.hid hp'; have G0 := Lib.hid hg; have G1 := Lib.hid hg'; have HS := Lib.hid hs; have HN := Lib.hid hn
  have HB0 := Lib.hid (((Below.refl w.heap.size w).alloc (Nat.le_refl _) (.cells #[.int .i64 te, .int .i64 qu, .int .i64 ha, .slice sa M kc, .slice na K nc] 54)).alloc (by simp) (.cells #[.int .i64 te, .int .i64 qu, .int .i64 ha, .slice sa' M kc', .slice na' K nc'] 54))
  have A_0 := Lib.hid ((Blk.new_at (w := w) (cs := #[.int .i64 te, .int .i64 qu, .int .i64 ha, .slice sa M kc, .slice na K nc]) (t := 54) w.heap.size rfl).alloc (.cells #[.int .i64 te, .int .i64 qu, .int .i64 ha, .slice sa' M kc', .slice na' K nc'] 54))
  have A_1 := Lib.hid (Blk.new_at (w := w.alloc (.cells #[.int .i64 te, .int .i64 qu, .int .i64 ha, .slice sa M kc, .slice na K nc] 54)) (cs := #[.int .i64 te, .int .i64 qu, .int .i64 ha, .slice sa' M kc', .slice na' K nc']) (t := 54) (w.heap.size + 1) (by simp))
  clear hp hp' hg hg' hs hn
  go_enter Try.func46, Try.ntmps46
  go_wp2_with fail
  refine (eqSlotS_same sa sa' M kc kc' S S _ ((P0.out.alloc _).alloc _) ((P1.out.alloc _).alloc _) (fun _ _ => rfl) hM).mono ?_
  rintro e w1 ⟨rfl, hb⟩
  have HB1 := Lib.hid (HB0.out.trans (hb.mono HB0.out.size))
  have B_0 := Lib.hid (A_0.out.below hb); have B_1 := Lib.hid (A_1.out.below hb)
  clear hb A_0 A_1
  have c0 := B_0.out.at 4 rfl; have c1 := B_1.out.at 4 rfl; have l0 := B_0.out.1; have l1 := B_1.out.1
  go_wp2_with fail
  refine (eqNV_same na na' K nc nc' T U _ (G0.out.below HB1.out) (G1.out.below HB1.out) HS.out hK HN.out).mono ?_
  rintro e w2 ⟨rfl, hb⟩
  have HB2 := Lib.hid (thru0 HB1.out hb)
  clear hb
  go_wp2
  go_ret
  exact ⟨rfl, HB2.out⟩
end Go.Proofs.Ytaenbjilcgpgcaa

namespace Go.Proofs.Ytaenbjilcgpgcaa
open Go.RowKit
set_option linter.unusedVariables false

theorem cap10 {w : World} {A X : Nat} {te qu ha : Int} {sa na sx nx : Option Addr} {M kc K nc kx mx : Nat} (hA : Blk w A [.int .i64 te, .int .i64 qu, .int .i64 ha, .slice sa M kc, .slice na K nc]) (hX : Blk w X [.int .i64 te, .int .i64 qu, .int .i64 ha, .slice sx M kx, .slice nx K mx]) : w.cell? ⟨A, 0, none⟩ = some (.int .i64 te) ∧ w.cell? ⟨A, 1, none⟩ = some (.int .i64 qu) ∧ w.cell? ⟨A, 2, none⟩ = some (.int .i64 ha) ∧ w.cell? ⟨A, 3, none⟩ = some (.slice sa M kc) ∧ w.cell? ⟨A, 4, none⟩ = some (.slice na K nc) ∧ w.cell? ⟨X, 0, none⟩ = some (.int .i64 te) ∧ w.cell? ⟨X, 1, none⟩ = some (.int .i64 qu) ∧ w.cell? ⟨X, 2, none⟩ = some (.int .i64 ha) ∧ w.cell? ⟨X, 3, none⟩ = some (.slice sx M kx) ∧ w.cell? ⟨X, 4, none⟩ = some (.slice nx K mx) :=
  ⟨hA.at 0 rfl, hA.at 1 rfl, hA.at 2 rfl, hA.at 3 rfl, hA.at 4 rfl, hX.at 0 rfl, hX.at 1 rfl, hX.at 2 rfl, hX.at 3 rfl, hX.at 4 rfl⟩
end Go.Proofs.Ytaenbjilcgpgcaa

namespace Go.Proofs.Ytaenbjilcgpgcaa
open Go.RowKit
set_option linter.unusedVariables false

/-- A machine is marked. -/
def RetMkM (W : World) (lo mid hi : Nat) (sa : Option Addr) (M : Nat) (na : Option Addr) (K : Nat) (T : Nat → GM) (k : Int) (e : Ending) (w' : World) : Prop :=
  e = .returned (.int .i64 (k + 2 * (M : Int) + (noff T K : Int))) ∧ PVO w' lo mid sa M (smkd k) ∧ NVO w' mid hi na K (nmkd T (k + 2 * (M : Int))) ∧ Keeps W w' lo hi

set_option maxRecDepth 100000 in
set_option maxHeartbeats 800000 in
theorem heldMach_any (te qu ha : Int) (sa : Option Addr) (M kc : Nat) (S : Nat → SL) (na : Option Addr) (K nc : Nat) (T : Nat → GM) (k : Int) (w : World) (hp : PV w sa M (smkd k)) (hg : NV w na K (nmkd T (k + 2 * (M : Int)))) (hk0 : 0 ≤ k) (hk1 : k + 2 * (M : Int) + (noff T K : Int) ≤ 1048576) :
    Calls Try.prog 117 #[.agg #[.int .i64 te, .int .i64 qu, .int .i64 ha, .slice sa M kc, .slice na K nc], .int .i64 k] w (RetInt w (k + 2 * (M : Int) + (noff T K : Int))) := by
  have P0 := Lib.hid hp; have G0 := Lib.hid hg
  have hn0 : (0 : Int) ≤ (noff T K : Int) := by omega
  have q1 : ¬ k + 2 * (M : Int) < 0 := by omega
  have q2 : ¬ k + 2 * (M : Int) + (noff T K : Int) < 0 := by omega
  clear hp hg
  have A_0 := Lib.hid (Blk.new_at (w := w) (cs := #[.int .i64 te, .int .i64 qu, .int .i64 ha, .slice sa M kc, .slice na K nc]) (t := 54) w.heap.size rfl)
  have HB0 := Lib.hid ((Below.refl w.heap.size w).alloc (Nat.le_refl _) (.cells #[.int .i64 te, .int .i64 qu, .int .i64 ha, .slice sa M kc, .slice na K nc] 54))
  go_enter Try.func117, Try.ntmps117
  go_wp2_with fail
  refine (heldSlotS_any sa M kc k _ (P0.out.below HB0.out) hk0 (by omega)).mono ?_
  rintro e w1 ⟨rfl, rfl⟩
  have c4 := A_0.out.at 4 rfl; have lA := A_0.out.1
  go_wp2_with fail
  refine (heldNV_any K nc na T (k + 2 * (M : Int)) _ (G0.out.below HB0.out) (by omega) hk1).mono ?_
  rintro e w2 ⟨rfl, rfl⟩
  go_wp2
  go_ret
  exact ⟨rfl, HB0.out⟩

set_option maxRecDepth 100000 in
set_option maxHeartbeats 400000 in
theorem heldMR_any (c : Int) (te qu ha : Int) (sa : Option Addr) (M kc : Nat) (S : Nat → SL) (na : Option Addr) (K nc : Nat) (T : Nat → GM) (k : Int) (w : World) (hp : PV w sa M (smkd k)) (hg : NV w na K (nmkd T (k + 2 * (M : Int)))) (hk0 : 0 ≤ k) (hk1 : k + 2 * (M : Int) + (noff T K : Int) ≤ 1048576) :
    Calls Try.prog 53 #[.agg #[.int .i64 c, .int .i64 te, .int .i64 qu, .int .i64 ha, .slice sa M kc, .slice na K nc], .int .i64 k] w (RetInt w (k + 2 * (M : Int) + (noff T K : Int))) := by
  have P0 := Lib.hid hp; have G0 := Lib.hid hg
  have q2 : ¬ k + 2 * (M : Int) + (noff T K : Int) < 0 := by omega
  clear hp hg
  have HB0 := Lib.hid ((Below.refl w.heap.size w).alloc (Nat.le_refl _) (.cells #[.int .i64 c, .int .i64 te, .int .i64 qu, .int .i64 ha, .slice sa M kc, .slice na K nc] 56))
  go_enter Try.func53, Try.ntmps53
  go_wp2_with fail
  refine (heldMach_any te qu ha sa M kc S na K nc T k _ (P0.out.below HB0.out) (G0.out.below HB0.out) hk0 hk1).mono ?_
  rintro e w1 ⟨rfl, hb⟩
  have HB1 := Lib.hid (HB0.out.trans (hb.mono HB0.out.size))
  clear hb
  go_wp2
  go_ret
  exact ⟨rfl, HB1.out⟩

set_option maxRecDepth 100000 in
set_option maxHeartbeats 400000 in
theorem eqMR_same (c : Int) (te qu ha : Int) (sa sa' : Option Addr) (M kc kc' : Nat) (S : Nat → SL) (na na' : Option Addr) (K nc nc' : Nat) (T U : Nat → GM) (w : World) (hp : PV w sa M S) (hg : NV w na K T) (hp' : PV w sa' M S) (hg' : NV w na' K U) (hs : ∀ i, i < K → GSame (T i) (U i)) (hM : M ≤ 1048576) (hK : K ≤ 1048576) (hn : ∀ i, i < K → (T i).n ≤ 1048576) :
    Calls Try.prog 51 #[.agg #[.int .i64 c, .int .i64 te, .int .i64 qu, .int .i64 ha, .slice sa M kc, .slice na K nc], .agg #[.int .i64 c, .int .i64 te, .int .i64 qu, .int .i64 ha, .slice sa' M kc', .slice na' K nc']] w (RetBool w true) := by
  have P0 := Lib.hid hp; have P1 := Lib.hid hp'; have G0 := Lib.hid hg; have G1 := Lib.hid hg'; have HS := Lib.hid hs; have HN := Lib.hid hn
  have HB0 := Lib.hid (((Below.refl w.heap.size w).alloc (Nat.le_refl _) (.cells #[.int .i64 c, .int .i64 te, .int .i64 qu, .int .i64 ha, .slice sa M kc, .slice na K nc] 56)).alloc (by simp) (.cells #[.int .i64 c, .int .i64 te, .int .i64 qu, .int .i64 ha, .slice sa' M kc', .slice na' K nc'] 56))
  clear hp hp' hg hg' hs hn
  go_enter Try.func51, Try.ntmps51
  go_wp2_with fail
  refine (eqMachine_same te qu ha sa sa' M kc kc' S na na' K nc nc' T U _ ((P0.out.alloc _).alloc _) ((G0.out.alloc _).alloc _) ((P1.out.alloc _).alloc _) ((G1.out.alloc _).alloc _) HS.out hM hK HN.out).mono ?_
  rintro e w1 ⟨rfl, hb⟩
  have HB1 := Lib.hid (HB0.out.trans (hb.mono HB0.out.size))
  clear hb
  go_wp2
  go_ret
  exact ⟨rfl, HB1.out⟩
end Go.Proofs.Ytaenbjilcgpgcaa

