/- Texts merged: OL1 to LIZ. -/
import Derived.Test.YtnpklnpicelcmaaPJ2
namespace Go.Proofs.Ytnpklnpicelcmaa
open Go.RowKit
set_option linter.unusedVariables false

/-- An op in memory. -/
structure OpC where
  te : Int
  k : Int
  h : Int
  t : Int
  i : Int
  v : Int
  fo : Bool

def SevG (w : World) (b o : Nat) (t : OpC) : Prop := w.cell? ⟨b, o, none⟩ = some (.int .i64 t.te) ∧ w.cell? ⟨b, o + 1, none⟩ = some (.int .i64 t.k) ∧ w.cell? ⟨b, o + 2, none⟩ = some (.int .i64 t.h) ∧ w.cell? ⟨b, o + 3, none⟩ = some (.int .i64 t.t) ∧ w.cell? ⟨b, o + 4, none⟩ = some (.int .i64 t.i) ∧ w.cell? ⟨b, o + 5, none⟩ = some (.int .i64 t.v) ∧ w.cell? ⟨b, o + 6, none⟩ = some (.bool t.fo)

def SevF (w : World) (b o : Nat) : Prop := w.frozen? ⟨b, o, none⟩ = false ∧ w.frozen? ⟨b, o + 1, none⟩ = false ∧ w.frozen? ⟨b, o + 2, none⟩ = false ∧ w.frozen? ⟨b, o + 3, none⟩ = false ∧ w.frozen? ⟨b, o + 4, none⟩ = false ∧ w.frozen? ⟨b, o + 5, none⟩ = false ∧ w.frozen? ⟨b, o + 6, none⟩ = false

theorem SevG.block {w w' : World} {b o : Nat} {t : OpC} (h : SevG w b o t) (e : w'.heap[b]? = w.heap[b]?) : SevG w' b o t := by
  obtain ⟨x0, x1, x2, x3, x4, x5, x6⟩ := h
  exact ⟨(World.cell?_of_block (w := w) (a := ⟨b, o, none⟩) e).trans x0, (World.cell?_of_block (w := w) (a := ⟨b, o + 1, none⟩) e).trans x1, (World.cell?_of_block (w := w) (a := ⟨b, o + 2, none⟩) e).trans x2, (World.cell?_of_block (w := w) (a := ⟨b, o + 3, none⟩) e).trans x3, (World.cell?_of_block (w := w) (a := ⟨b, o + 4, none⟩) e).trans x4, (World.cell?_of_block (w := w) (a := ⟨b, o + 5, none⟩) e).trans x5, (World.cell?_of_block (w := w) (a := ⟨b, o + 6, none⟩) e).trans x6⟩

theorem SevF.block {w w' : World} {b o : Nat} (h : SevF w b o) (e : w'.heap[b]? = w.heap[b]?) : SevF w' b o := by
  obtain ⟨x0, x1, x2, x3, x4, x5, x6⟩ := h
  exact ⟨(World.frozen?_of_block (w := w) (a := ⟨b, o, none⟩) e).trans x0, (World.frozen?_of_block (w := w) (a := ⟨b, o + 1, none⟩) e).trans x1, (World.frozen?_of_block (w := w) (a := ⟨b, o + 2, none⟩) e).trans x2, (World.frozen?_of_block (w := w) (a := ⟨b, o + 3, none⟩) e).trans x3, (World.frozen?_of_block (w := w) (a := ⟨b, o + 4, none⟩) e).trans x4, (World.frozen?_of_block (w := w) (a := ⟨b, o + 5, none⟩) e).trans x5, (World.frozen?_of_block (w := w) (a := ⟨b, o + 6, none⟩) e).trans x6⟩

/-- A row of ops is read. -/
structure OSrc (w : World) (b q N : Nat) (T : Nat → OpC) : Prop where
  lt : b < w.heap.size
  sev : ∀ i, i < N → SevG w b (q + i * 7) (T i)

/-- A row of ops of the call's own. -/
structure OOwn (w : World) (lo hi b q N : Nat) (T : Nat → OpC) : Prop where
  glo : lo ≤ b
  ghi : b < hi
  lt : b < w.heap.size
  sev : ∀ i, i < N → SevG w b (q + i * 7) (T i)
  free : ∀ i, i < N → SevF w b (q + i * 7)

theorem OOwn.src {w : World} {lo hi b q N : Nat} {T : Nat → OpC} (h : OOwn w lo hi b q N T) : OSrc w b q N T := ⟨h.lt, h.sev⟩

theorem OSrc.below {w w' : World} {b q N : Nat} {T : Nat → OpC} (h : OSrc w b q N T) (hb : Below w.heap.size w w') : OSrc w' b q N T :=
  ⟨Nat.lt_of_lt_of_le h.lt hb.size, fun i hi => (h.sev i hi).block (hb.block b h.lt)⟩

theorem OOwn.below {w w' : World} {lo hi b q N : Nat} {T : Nat → OpC} (h : OOwn w lo hi b q N T) (hb : Below w.heap.size w w') : OOwn w' lo hi b q N T :=
  ⟨h.glo, h.ghi, Nat.lt_of_lt_of_le h.lt hb.size, fun i hi => (h.sev i hi).block (hb.block b h.lt), fun i hi => (h.free i hi).block (hb.block b h.lt)⟩

theorem OSrc.keeps {w w' : World} {lo hi b q N : Nat} {T : Nat → OpC} (h : OSrc w b q N T) (hk : Keeps w w' lo hi) (hd : b < lo ∨ hi ≤ b) : OSrc w' b q N T :=
  ⟨Nat.lt_of_lt_of_le h.lt hk.size, fun i hi => (h.sev i hi).block (hk.block b h.lt hd)⟩

theorem OOwn.keeps {w w' : World} {lo hi lo' hi' b q N : Nat} {T : Nat → OpC} (h : OOwn w lo hi b q N T) (hk : Keeps w w' lo' hi') (hd : hi ≤ lo' ∨ hi' ≤ lo) : OOwn w' lo hi b q N T := by
  have h1 := h.glo; have h2 := h.ghi
  exact ⟨h.glo, h.ghi, Nat.lt_of_lt_of_le h.lt hk.size, fun i hi => (h.sev i hi).block (hk.block b h.lt (by omega)), fun i hi => (h.free i hi).block (hk.block b h.lt (by omega))⟩

theorem OOwn.congr {w : World} {lo hi b q N : Nat} {T U : Nat → OpC} (h : OOwn w lo hi b q N T) (e : ∀ i, i < N → T i = U i) : OOwn w lo hi b q N U :=
  ⟨h.glo, h.ghi, h.lt, fun i hi => e i hi ▸ h.sev i hi, h.free⟩

theorem OSrc.congr {w : World} {b q N : Nat} {T U : Nat → OpC} (h : OSrc w b q N T) (e : ∀ i, i < N → T i = U i) : OSrc w b q N U :=
  ⟨h.lt, fun i hi => e i hi ▸ h.sev i hi⟩

theorem OOwn.widen {w : World} {lo hi lo' hi' b q N : Nat} {T : Nat → OpC} (h : OOwn w lo hi b q N T) (h1 : lo' ≤ lo) (h2 : hi ≤ hi') : OOwn w lo' hi' b q N T :=
  ⟨Nat.le_trans h1 h.glo, Nat.lt_of_lt_of_le h.ghi h2, h.lt, h.sev, h.free⟩

def OV (w : World) (a : Option Addr) (N : Nat) (T : Nat → OpC) : Prop := N = 0 ∨ ∃ b q, a = some ⟨b, q, none⟩ ∧ OSrc w b q N T

def OVO (w : World) (lo hi : Nat) (a : Option Addr) (N : Nat) (T : Nat → OpC) : Prop := N = 0 ∨ ∃ b q, a = some ⟨b, q, none⟩ ∧ OOwn w lo hi b q N T

theorem OVO.src {w : World} {lo hi N : Nat} {a : Option Addr} {T : Nat → OpC} (h : OVO w lo hi a N T) : OV w a N T := by
  rcases h with h0 | ⟨b, q, ha, h⟩
  · exact .inl h0
  · exact .inr ⟨b, q, ha, h.src⟩

theorem OV.below {w w' : World} {N : Nat} {a : Option Addr} {T : Nat → OpC} (h : OV w a N T) (hb : Below w.heap.size w w') : OV w' a N T := by
  rcases h with h0 | ⟨b, q, ha, h⟩
  · exact .inl h0
  · exact .inr ⟨b, q, ha, h.below hb⟩

theorem OVO.below {w w' : World} {lo hi N : Nat} {a : Option Addr} {T : Nat → OpC} (h : OVO w lo hi a N T) (hb : Below w.heap.size w w') : OVO w' lo hi a N T := by
  rcases h with h0 | ⟨b, q, ha, h⟩
  · exact .inl h0
  · exact .inr ⟨b, q, ha, h.below hb⟩

theorem OVO.keeps {w w' : World} {lo hi lo' hi' N : Nat} {a : Option Addr} {T : Nat → OpC} (h : OVO w lo hi a N T) (hk : Keeps w w' lo' hi') (hd : hi ≤ lo' ∨ hi' ≤ lo) : OVO w' lo hi a N T := by
  rcases h with h0 | ⟨b, q, ha, h⟩
  · exact .inl h0
  · exact .inr ⟨b, q, ha, h.keeps hk hd⟩

theorem OVO.widen {w : World} {lo hi lo' hi' N : Nat} {a : Option Addr} {T : Nat → OpC} (h : OVO w lo hi a N T) (h1 : lo' ≤ lo) (h2 : hi ≤ hi') : OVO w lo' hi' a N T := by
  rcases h with h0 | ⟨b, q, ha, h⟩
  · exact .inl h0
  · exact .inr ⟨b, q, ha, h.widen h1 h2⟩

theorem OV.drew {w : World} {N : Nat} {a : Option Addr} {T : Nat → OpC} (h : OV w a N T) : OV w.drew a N T := h.below (Below.refl _ _).drew

theorem OV.alloc {w : World} {N : Nat} {a : Option Addr} {T : Nat → OpC} (h : OV w a N T) (o : Obj) : OV (w.alloc o) a N T := h.below ((Below.refl _ _).alloc (Nat.le_refl _) o)

theorem OVO.drew {w : World} {lo hi N : Nat} {a : Option Addr} {T : Nat → OpC} (h : OVO w lo hi a N T) : OVO w.drew lo hi a N T := h.below (Below.refl _ _).drew

theorem OVO.alloc {w : World} {lo hi N : Nat} {a : Option Addr} {T : Nat → OpC} (h : OVO w lo hi a N T) (o : Obj) : OVO (w.alloc o) lo hi a N T := h.below ((Below.refl _ _).alloc (Nat.le_refl _) o)

theorem OV.congr {w : World} {N : Nat} {a : Option Addr} {T U : Nat → OpC} (h : OV w a N T) (e : ∀ i, i < N → T i = U i) : OV w a N U := by
  rcases h with h0 | ⟨b, q, ha, h⟩
  · exact .inl h0
  · exact .inr ⟨b, q, ha, h.congr e⟩

theorem OVO.congr {w : World} {lo hi N : Nat} {a : Option Addr} {T U : Nat → OpC} (h : OVO w lo hi a N T) (e : ∀ i, i < N → T i = U i) : OVO w lo hi a N U := by
  rcases h with h0 | ⟨b, q, ha, h⟩
  · exact .inl h0
  · exact .inr ⟨b, q, ha, h.congr e⟩
end Go.Proofs.Ytnpklnpicelcmaa

namespace Go.Proofs.Ytnpklnpicelcmaa
open Go.RowKit
set_option linter.unusedVariables false

/-- A block that holds no more than an empty table. -/
def Dead4 (w : World) (R : Nat) : Prop := ∃ t fr, w.heap[R]? = some (.cells #[.slice none 0 0, .int .i64 0, .slice none 0 0, .map none] t fr)

theorem Dead4.below {w w' : World} {R : Nat} (h : Dead4 w R) (hb : Below w.heap.size w w') : Dead4 w' R := by
  obtain ⟨t, fr, h1⟩ := h
  exact ⟨t, fr, (hb.block R (Array.getElem?_eq_some_iff.1 h1).1).trans h1⟩
end Go.Proofs.Ytnpklnpicelcmaa

namespace Go.Proofs.Ytnpklnpicelcmaa
open Go.ChangeShapes Go.WideShapes Go.ChangeAt Go.RowKit Go.Joins Go.Deep
set_option linter.unusedVariables false

/-- A slot whose numbers are of 64 bits. -/
def SlW (t : SL) : Prop := I64 t.g ∧ I64 t.nd

/-- A tenant whose numbers are of 64 bits. -/
def TnW (t : TN) : Prop := I64 t.q ∧ I64 t.h ∧ ∀ j, j < t.n → SlW (t.S j)

set_option maxRecDepth 100000 in
/-- One slot, out of its cells. -/
theorem open_hs2 {H : Type} {enc : TypeId × Value → H} {W : World} {n : Nat} {cs : List Value} {y : DataW H × List MemPlace} (hlen : cs.length = 2) (h : DataW.trod enc Try.prog W 0 (fun _ => true) true n 201 cs = some y) :
    ∃ t : SL, cs = [.int .i64 t.g, .int .i64 t.nd] ∧ SlW t := by
  match cs, hlen with
  | [v0, v1], _ =>
    obtain ⟨xs, k, _, _, _, hxl, hf⟩ := DataW.trod_struct Try.underlying201 h
    have hxl : xs.length = 2 := hxl
    match xs, hxl with
    | [y0, y1], _ =>
      have g0 := hf 0 _ rfl
      have g1 := hf 1 _ rfl
      simp [Try.cellsO2] at g0 g1
      obtain ⟨i0, e0, _, w0⟩ := DataW.trod_int Try.underlying2 g0
      obtain ⟨i1, e1, _, w1⟩ := DataW.trod_int Try.underlying2 g1
      simp only [List.cons.injEq, and_true] at e0 e1
      subst e0 e1
      exact ⟨⟨i0, i1⟩, rfl, i64_of_wf w0, i64_of_wf w1⟩

set_option maxRecDepth 100000 in
/-- A row of slots. -/
theorem open_hss2 {H : Type} {enc : TypeId × Value → H} {W : World} {fuel : Nat} {cs : List Value} {y : DataW H × List MemPlace} (hf : DataW.trod enc Try.prog W 0 (fun _ => true) true fuel 123 cs = some y) :
    ∃ (a : Option Addr) (N c : Nat) (T : Nat → SL), cs = [.slice a N c] ∧ PV W a N T ∧ N ≤ maxLen ∧ ∀ i, i < N → SlW (T i) := by
  rcases open_slice Try.underlying123 hf with ⟨hcs, _⟩ | ⟨x, l, c, m, n, D, Pl, hcs, _, hl, hm, hmm, _, hx⟩
  · exact ⟨none, 0, 0, fun _ => (⟨0, 0⟩ : SL), hcs, .inl rfl, Nat.zero_le _, fun i hi => by omega⟩
  · have hlm : l ≤ m := by
      rw [hmm]; split
      · exact hl
      · exact Nat.le_refl _
    have each : ∀ i, i < l → ∃ t : SL, (∀ j u, ([.int .i64 t.g, .int .i64 t.nd] : List Value)[j]? = some u → W.cell? ((x.add (i * 2)).add j) = some u) ∧ SlW t := fun i hi => by
      obtain ⟨cs', h1, h2⟩ := hx i (by omega)
      rw [Try.cellsM201] at h1
      obtain ⟨_, hlen, hat⟩ := World.cells?_some h1
      obtain ⟨t, rfl, hw⟩ := open_hs2 hlen h2
      refine ⟨t, fun j u hu => ?_, hw⟩
      rw [hat j (List.getElem?_eq_some_iff.mp hu).1, hu]
    by_cases hz : l = 0
    · exact ⟨some x, l, c, fun _ => (⟨0, 0⟩ : SL), hcs, .inl hz, by omega, fun i hi => by omega⟩
    have : Inhabited SL := ⟨⟨0, 0⟩⟩
    obtain ⟨T, hT⟩ := Go.Deep.choose_lt each
    refine ⟨some x, l, c, T, hcs, ?_, by omega, fun i hi => (hT i hi).2⟩
    obtain ⟨b, off, spot⟩ := x
    have hc := (hT 0 (by omega)).1 0 _ rfl
    have hspot : spot = none := by simpa [Addr.add] using World.cell?_spot hc
    subst hspot
    refine .inr ⟨b, off, rfl, World.block_lt_of_cell? W _ (by simpa [Addr.add] using hc), fun i hi => ?_⟩
    have g := fun j u hu => (hT i hi).1 j u hu
    simp only [add_none] at g
    exact ⟨g 0 _ rfl, g 1 _ rfl⟩

set_option maxRecDepth 100000 in
/-- One tenant, out of its cells. -/
theorem open_tn2 {H : Type} {enc : TypeId × Value → H} {W : World} {n : Nat} {cs : List Value} {y : DataW H × List MemPlace} (hlen : cs.length = 3) (h : DataW.trod enc Try.prog W 0 (fun _ => true) true n 125 cs = some y) :
    ∃ t : TN, cs = [.int .i64 t.q, .int .i64 t.h, .slice t.a t.n t.c] ∧ PV W t.a t.n t.S ∧ t.n ≤ maxLen ∧ TnW t := by
  match cs, hlen with
  | [v0, v1, v2], _ =>
    obtain ⟨xs, k, _, _, _, hxl, hf⟩ := DataW.trod_struct Try.underlying125 h
    have hxl : xs.length = 3 := hxl
    match xs, hxl with
    | [y0, y1, y2], _ =>
      have g0 := hf 0 _ rfl
      have g1 := hf 1 _ rfl
      have g2 := hf 2 _ rfl
      simp [Try.cellsO2] at g0 g1
      simp [Try.cellsY123] at g2
      obtain ⟨i0, e0, _, w0⟩ := DataW.trod_int Try.underlying2 g0
      obtain ⟨i1, e1, _, w1⟩ := DataW.trod_int Try.underlying2 g1
      simp only [List.cons.injEq, and_true] at e0 e1
      subst e0 e1
      obtain ⟨a, N, c, S, hcs, hp, hN, hw⟩ := open_hss2 g2
      simp only [List.cons.injEq, and_true] at hcs
      subst hcs
      exact ⟨⟨i0, i1, a, N, c, S⟩, rfl, hp, hN, i64_of_wf w0, i64_of_wf w1, hw⟩

set_option maxRecDepth 100000 in
/-- A row of tenants. -/
theorem open_tns2 {H : Type} {enc : TypeId × Value → H} {W : World} {fuel : Nat} {cs : List Value} {y : DataW H × List MemPlace} (hf : DataW.trod enc Try.prog W 0 (fun _ => true) true fuel 25 cs = some y) :
    ∃ (a : Option Addr) (N c : Nat) (T : Nat → TN), cs = [.slice a N c] ∧ TV W a N T ∧ N ≤ maxLen ∧ (∀ i, i < N → (T i).n ≤ maxLen) ∧ ∀ i, i < N → TnW (T i) := by
  rcases open_slice Try.underlying25 hf with ⟨hcs, _⟩ | ⟨x, l, c, m, n, D, Pl, hcs, _, hl, hm, hmm, _, hx⟩
  · exact ⟨none, 0, 0, fun _ => ⟨0, 0, none, 0, 0, fun _ => (⟨0, 0⟩ : SL)⟩, hcs, .inl rfl, Nat.zero_le _, fun i hi => by omega, fun i hi => by omega⟩
  · have hlm : l ≤ m := by
      rw [hmm]; split
      · exact hl
      · exact Nat.le_refl _
    have each : ∀ i, i < l → ∃ t : TN, (∀ j u, ([.int .i64 t.q, .int .i64 t.h, .slice t.a t.n t.c] : List Value)[j]? = some u → W.cell? ((x.add (i * 3)).add j) = some u) ∧ PV W t.a t.n t.S ∧ t.n ≤ maxLen ∧ TnW t := fun i hi => by
      obtain ⟨cs', h1, h2⟩ := hx i (by omega)
      rw [Try.cellsY125] at h1
      obtain ⟨_, hlen, hat⟩ := World.cells?_some h1
      obtain ⟨t, rfl, h3, h4, h5⟩ := open_tn2 hlen h2
      refine ⟨t, fun j u hu => ?_, h3, h4, h5⟩
      rw [hat j (List.getElem?_eq_some_iff.mp hu).1, hu]
    by_cases hz : l = 0
    · exact ⟨some x, l, c, fun _ => ⟨0, 0, none, 0, 0, fun _ => (⟨0, 0⟩ : SL)⟩, hcs, .inl hz, by omega, fun i hi => by omega, fun i hi => by omega⟩
    have : Inhabited TN := ⟨⟨0, 0, none, 0, 0, fun _ => (⟨0, 0⟩ : SL)⟩⟩
    obtain ⟨T, hT⟩ := Go.Deep.choose_lt each
    refine ⟨some x, l, c, T, hcs, ?_, by omega, fun i hi => (hT i hi).2.2.1, fun i hi => (hT i hi).2.2.2⟩
    obtain ⟨b, off, spot⟩ := x
    have hc := (hT 0 (by omega)).1 0 _ rfl
    have hspot : spot = none := by simpa [Addr.add] using World.cell?_spot hc
    subst hspot
    refine .inr ⟨b, off, rfl, World.block_lt_of_cell? W _ (by simpa [Addr.add] using hc), fun i hi => ?_, fun i hi => (hT i hi).2.1⟩
    have g := fun j u hu => (hT i hi).1 j u hu
    simp only [add_none] at g
    exact ⟨g 0 _ rfl, g 1 _ rfl, g 2 _ rfl⟩

set_option maxRecDepth 100000 in
/-- What came in: a heap. -/
theorem open_heap2 {H : Type} {enc : TypeId × Value → H} {W : World} {base : Nat} {v0 : Value} {d0 : DataW H} {p0 : List MemPlace}
    (hv : Value.okWide Try.prog W .any base 27 v0) (h0 : DataW.Trod enc Try.prog W 0 (fun _ => true) true 27 v0 d0 p0) :
    ∃ (h ac bu : Int) (a : Option Addr) (n c : Nat) (f : Nat → Int) (ta : Option Addr) (N tc : Nat) (T : Nat → TN), v0 = .agg #[.int .i64 h, .slice a n c, .int .i64 ac, .int .i64 bu, .slice ta N tc] ∧ Src W a n f ∧ n ≤ maxLen ∧ TV W ta N T ∧ N ≤ maxLen ∧ (∀ i, i < N → (T i).n ≤ maxLen) ∧ ∀ i, i < N → TnW (T i) := by
  obtain ⟨cs, rfl, hsz⟩ := okWide_struct Try.underlying27 hv
  have hsz : cs.size = 5 := hsz.trans Try.cellsY27
  obtain ⟨fuel, hf0⟩ := h0
  obtain ⟨ls⟩ := cs
  match ls, hsz with
  | [v0, v1, v2, v3, v4], _ =>
    obtain ⟨xs, k, _, _, _, hxl, hf⟩ := DataW.trod_struct Try.underlying27 hf0
    have hxl : xs.length = 2 := hxl
    match xs, hxl with
    | [y0, y1], _ =>
      have g0 := hf 0 _ rfl
      have g1 := hf 1 _ rfl
      simp [Value.cells, Try.cellsY24, Try.cellsY25] at g0 g1
      obtain ⟨ys, k', _, _, _, hyl, hg⟩ := DataW.trod_struct Try.underlying24 g0
      have hyl : ys.length = 4 := hyl
      match ys, hyl with
      | [z0, z1, z2, z3], _ =>
        have q0 := hg 0 _ rfl
        have q1 := hg 1 _ rfl
        have q2 := hg 2 _ rfl
        have q3 := hg 3 _ rfl
        simp [Try.cellsO2, Try.cellsO22] at q0 q1 q2 q3
        obtain ⟨h, e0, _, _⟩ := DataW.trod_int Try.underlying2 q0
        obtain ⟨a, n, c, f, e1, s1, hn⟩ := open_ints1 q1
        obtain ⟨ac, e2, _, _⟩ := DataW.trod_int Try.underlying2 q2
        obtain ⟨bu, e3, _, _⟩ := DataW.trod_int Try.underlying2 q3
        obtain ⟨ta, N, tc, T, e4, t1, hN, hM, hW⟩ := open_tns2 g1
        simp only [List.cons.injEq, and_true] at e0 e1 e2 e3 e4
        subst e0 e1 e2 e3 e4
        exact ⟨h, ac, bu, a, n, c, f, ta, N, tc, T, rfl, s1, hn, t1, hN, hM, hW⟩
end Go.Proofs.Ytnpklnpicelcmaa

namespace Go.Proofs.Ytnpklnpicelcmaa
open Go.RowKit
set_option linter.unusedVariables false

def OneG (w : World) (b o : Nat) (t : Bool) : Prop := w.cell? ⟨b, o, none⟩ = some (.bool t)

def OneF (w : World) (b o : Nat) : Prop := w.frozen? ⟨b, o, none⟩ = false

theorem OneG.block {w w' : World} {b o : Nat} {t : Bool} (h : OneG w b o t) (e : w'.heap[b]? = w.heap[b]?) : OneG w' b o t := (World.cell?_of_block (w := w) (a := ⟨b, o, none⟩) e).trans h

theorem OneF.block {w w' : World} {b o : Nat} (h : OneF w b o) (e : w'.heap[b]? = w.heap[b]?) : OneF w' b o := (World.frozen?_of_block (w := w) (a := ⟨b, o, none⟩) e).trans h

/-- A row of truth values is read. -/
structure BSrc (w : World) (b q N : Nat) (T : Nat → Bool) : Prop where
  lt : b < w.heap.size
  one : ∀ i, i < N → OneG w b (q + i) (T i)

/-- A row of truth values of the call's own. -/
structure BOwn (w : World) (lo hi b q N : Nat) (T : Nat → Bool) : Prop where
  glo : lo ≤ b
  ghi : b < hi
  lt : b < w.heap.size
  one : ∀ i, i < N → OneG w b (q + i) (T i)
  free : ∀ i, i < N → OneF w b (q + i)

theorem BOwn.src {w : World} {lo hi b q N : Nat} {T : Nat → Bool} (h : BOwn w lo hi b q N T) : BSrc w b q N T := ⟨h.lt, h.one⟩

theorem BSrc.below {w w' : World} {b q N : Nat} {T : Nat → Bool} (h : BSrc w b q N T) (hb : Below w.heap.size w w') : BSrc w' b q N T :=
  ⟨Nat.lt_of_lt_of_le h.lt hb.size, fun i hi => (h.one i hi).block (hb.block b h.lt)⟩

theorem BOwn.below {w w' : World} {lo hi b q N : Nat} {T : Nat → Bool} (h : BOwn w lo hi b q N T) (hb : Below w.heap.size w w') : BOwn w' lo hi b q N T :=
  ⟨h.glo, h.ghi, Nat.lt_of_lt_of_le h.lt hb.size, fun i hi => (h.one i hi).block (hb.block b h.lt), fun i hi => (h.free i hi).block (hb.block b h.lt)⟩

theorem BSrc.keeps {w w' : World} {lo hi b q N : Nat} {T : Nat → Bool} (h : BSrc w b q N T) (hk : Keeps w w' lo hi) (hd : b < lo ∨ hi ≤ b) : BSrc w' b q N T :=
  ⟨Nat.lt_of_lt_of_le h.lt hk.size, fun i hi => (h.one i hi).block (hk.block b h.lt hd)⟩

theorem BOwn.keeps {w w' : World} {lo hi lo' hi' b q N : Nat} {T : Nat → Bool} (h : BOwn w lo hi b q N T) (hk : Keeps w w' lo' hi') (hd : hi ≤ lo' ∨ hi' ≤ lo) : BOwn w' lo hi b q N T := by
  have h1 := h.glo; have h2 := h.ghi
  exact ⟨h.glo, h.ghi, Nat.lt_of_lt_of_le h.lt hk.size, fun i hi => (h.one i hi).block (hk.block b h.lt (by omega)), fun i hi => (h.free i hi).block (hk.block b h.lt (by omega))⟩

theorem BOwn.congr {w : World} {lo hi b q N : Nat} {T U : Nat → Bool} (h : BOwn w lo hi b q N T) (e : ∀ i, i < N → T i = U i) : BOwn w lo hi b q N U :=
  ⟨h.glo, h.ghi, h.lt, fun i hi => e i hi ▸ h.one i hi, h.free⟩

theorem BSrc.congr {w : World} {b q N : Nat} {T U : Nat → Bool} (h : BSrc w b q N T) (e : ∀ i, i < N → T i = U i) : BSrc w b q N U :=
  ⟨h.lt, fun i hi => e i hi ▸ h.one i hi⟩

theorem BOwn.widen {w : World} {lo hi lo' hi' b q N : Nat} {T : Nat → Bool} (h : BOwn w lo hi b q N T) (h1 : lo' ≤ lo) (h2 : hi ≤ hi') : BOwn w lo' hi' b q N T :=
  ⟨Nat.le_trans h1 h.glo, Nat.lt_of_lt_of_le h.ghi h2, h.lt, h.one, h.free⟩

def BV (w : World) (a : Option Addr) (N : Nat) (T : Nat → Bool) : Prop := N = 0 ∨ ∃ b q, a = some ⟨b, q, none⟩ ∧ BSrc w b q N T

def BVO (w : World) (lo hi : Nat) (a : Option Addr) (N : Nat) (T : Nat → Bool) : Prop := N = 0 ∨ ∃ b q, a = some ⟨b, q, none⟩ ∧ BOwn w lo hi b q N T

theorem BVO.src {w : World} {lo hi N : Nat} {a : Option Addr} {T : Nat → Bool} (h : BVO w lo hi a N T) : BV w a N T := by
  rcases h with h0 | ⟨b, q, ha, h⟩
  · exact .inl h0
  · exact .inr ⟨b, q, ha, h.src⟩

theorem BV.below {w w' : World} {N : Nat} {a : Option Addr} {T : Nat → Bool} (h : BV w a N T) (hb : Below w.heap.size w w') : BV w' a N T := by
  rcases h with h0 | ⟨b, q, ha, h⟩
  · exact .inl h0
  · exact .inr ⟨b, q, ha, h.below hb⟩

theorem BVO.below {w w' : World} {lo hi N : Nat} {a : Option Addr} {T : Nat → Bool} (h : BVO w lo hi a N T) (hb : Below w.heap.size w w') : BVO w' lo hi a N T := by
  rcases h with h0 | ⟨b, q, ha, h⟩
  · exact .inl h0
  · exact .inr ⟨b, q, ha, h.below hb⟩

theorem BVO.keeps {w w' : World} {lo hi lo' hi' N : Nat} {a : Option Addr} {T : Nat → Bool} (h : BVO w lo hi a N T) (hk : Keeps w w' lo' hi') (hd : hi ≤ lo' ∨ hi' ≤ lo) : BVO w' lo hi a N T := by
  rcases h with h0 | ⟨b, q, ha, h⟩
  · exact .inl h0
  · exact .inr ⟨b, q, ha, h.keeps hk hd⟩

theorem BVO.widen {w : World} {lo hi lo' hi' N : Nat} {a : Option Addr} {T : Nat → Bool} (h : BVO w lo hi a N T) (h1 : lo' ≤ lo) (h2 : hi ≤ hi') : BVO w lo' hi' a N T := by
  rcases h with h0 | ⟨b, q, ha, h⟩
  · exact .inl h0
  · exact .inr ⟨b, q, ha, h.widen h1 h2⟩

theorem BV.drew {w : World} {N : Nat} {a : Option Addr} {T : Nat → Bool} (h : BV w a N T) : BV w.drew a N T := h.below (Below.refl _ _).drew

theorem BV.alloc {w : World} {N : Nat} {a : Option Addr} {T : Nat → Bool} (h : BV w a N T) (o : Obj) : BV (w.alloc o) a N T := h.below ((Below.refl _ _).alloc (Nat.le_refl _) o)

theorem BVO.drew {w : World} {lo hi N : Nat} {a : Option Addr} {T : Nat → Bool} (h : BVO w lo hi a N T) : BVO w.drew lo hi a N T := h.below (Below.refl _ _).drew

theorem BVO.alloc {w : World} {lo hi N : Nat} {a : Option Addr} {T : Nat → Bool} (h : BVO w lo hi a N T) (o : Obj) : BVO (w.alloc o) lo hi a N T := h.below ((Below.refl _ _).alloc (Nat.le_refl _) o)

theorem BV.congr {w : World} {N : Nat} {a : Option Addr} {T U : Nat → Bool} (h : BV w a N T) (e : ∀ i, i < N → T i = U i) : BV w a N U := by
  rcases h with h0 | ⟨b, q, ha, h⟩
  · exact .inl h0
  · exact .inr ⟨b, q, ha, h.congr e⟩

theorem BVO.congr {w : World} {lo hi N : Nat} {a : Option Addr} {T U : Nat → Bool} (h : BVO w lo hi a N T) (e : ∀ i, i < N → T i = U i) : BVO w lo hi a N U := by
  rcases h with h0 | ⟨b, q, ha, h⟩
  · exact .inl h0
  · exact .inr ⟨b, q, ha, h.congr e⟩
end Go.Proofs.Ytnpklnpicelcmaa

namespace Go.Proofs.Ytnpklnpicelcmaa
open Go.RowKit
set_option linter.unusedVariables false

/-- All blocks below a bound, but one, are as they were. -/
def Oth (lo mb : Nat) (w w' : World) : Prop := w.heap.size ≤ w'.heap.size ∧ ∀ b, b < lo → b ≠ mb → w'.heap[b]? = w.heap[b]?

theorem Oth.refl (lo mb : Nat) (w : World) : Oth lo mb w w := ⟨Nat.le_refl _, fun _ _ _ => rfl⟩

theorem Oth.drew {lo mb : Nat} {w w' : World} (h : Oth lo mb w w') : Oth lo mb w w'.drew := ⟨by simpa using h.1, fun b h1 h2 => h.2 b h1 h2⟩

theorem Oth.alloc {lo mb : Nat} {w w' : World} (h : Oth lo mb w w') (hl : lo ≤ w.heap.size) (o : Obj) : Oth lo mb w (w'.alloc o) := ⟨by have := h.1; simp; omega, fun b h1 h2 => (Below.heap_alloc _ _ _ (by have := h.1; omega)).trans (h.2 b h1 h2)⟩

/-- What is left of a list that is merged. -/
def Left (w : World) (fb ba qa N c x : Nat) : Prop := ∃ ad, Blk w fb [.slice (some ad) (N - x) (c - x)] ∧ (x < N → ad = ⟨ba, qa + x * 7, none⟩)
end Go.Proofs.Ytnpklnpicelcmaa

namespace Go.Proofs.Ytnpklnpicelcmaa
open Go.RowKit
set_option linter.unusedVariables false

theorem Left.keeps {w w' : World} {fb ba qa N c x lo hi : Nat} (h : Left w fb ba qa N c x) (hk : Keeps w w' lo hi) (hd : fb < lo ∨ hi ≤ fb) : Left w' fb ba qa N c x := by
  obtain ⟨ad, h1, h2⟩ := h
  exact ⟨ad, h1.keeps hk hd, h2⟩
end Go.Proofs.Ytnpklnpicelcmaa

namespace Go.Proofs.Ytnpklnpicelcmaa
open Go.RowKit
set_option linter.unusedVariables false

/-- What IsZeroed answers. -/
def IsZ (h : Int) (n : Nat) (f : Nat → Int) (ac bu : Int) (r : Bool) : Prop := ∃ co L, IsOI h n f ac bu co L ∧ ((¬ co = 0 ∧ r = false) ∨ (co = 0 ∧ (r = true ↔ Rest f n (baseI ac h).toNat bu.toNat)))

theorem isZ_some (h : Int) (n : Nat) (f : Nat → Int) (ac bu : Int) : ∃ r, IsZ h n f ac bu r := by
  obtain ⟨co, L, ho⟩ := isOI_some h n f ac bu
  by_cases h0 : co = 0
  · by_cases hr : Rest f n (baseI ac h).toNat bu.toNat
    · exact ⟨true, co, L, ho, .inr ⟨h0, by simp [hr]⟩⟩
    · exact ⟨false, co, L, ho, .inr ⟨h0, by simp [hr]⟩⟩
  · exact ⟨false, co, L, ho, .inl ⟨h0, rfl⟩⟩

theorem src_atz {w : World} {a : Option Addr} {n : Nat} {f : Nat → Int} (h : Src w a n f) {i : Nat} (hi : i < n) : ∃ b q, a = some ⟨b, q, none⟩ ∧ b < w.heap.size ∧ w.cell? ⟨b, q + i, none⟩ = some (.int .i64 (f i)) := by
  rcases h with h | ⟨b, off, h1, h3, h4⟩
  · omega
  · exact ⟨b, off, h1, h3, h4 i hi⟩

theorem or_c0 (x : Int) (y : Value) (w : World) : (Instr.field 62 (.agg #[.int .i64 x, y]) 0).run Try.prog w = .ok (.int .i64 x) w := by kernel_rfl

theorem blk5_4 {w : World} {b : Nat} {x0 x1 x2 x3 x4 : Value} (h : Blk w b [x0, x1, x2, x3, x4]) : Blk w b [x0, x1, x2, x3] := ⟨h.1, fun j u hu => h.2 j u (by
  rcases j with _ | _ | _ | _ | j
  · simpa using hu
  · simpa using hu
  · simpa using hu
  · simpa using hu
  · simp at hu)⟩

set_option maxRecDepth 100000 in
set_option maxHeartbeats 1600000 in
theorem specZ_any (h ac bu : Int) (a : Option Addr) (n c : Nat) (f : Nat → Int) (tv : Value) (r : Bool) (w : World) (hs : Src w a n f) (hcn : n ≤ c) (hcm : c ≤ maxLen) (hk : IsZ h n f ac bu r) :
    Calls Try.prog 6 #[.agg #[.int .i64 h, .slice a n c, .int .i64 ac, .int .i64 bu, tv]] w (RetBool w r) := by
  obtain ⟨co, L, ho, hco⟩ := hk
  have S0 := Lib.hid hs; have HCM := Lib.hid hcm; have HO := Lib.hid ho
  have hfo := or_c0
  have B_0 := Lib.hid (Blk.new_at (w := w) (cs := #[.int .i64 h, .slice a n c, .int .i64 ac, .int .i64 bu, tv]) (t := 33) w.heap.size rfl)
  have HB0 : Hid (Below w.heap.size w (w.alloc (.cells #[.int .i64 h, .slice a n c, .int .i64 ac, .int .i64 bu, tv] 33))) := (Below.refl _ _).alloc (Nat.le_refl _) _
  have b0 := B_0.out.at 0 rfl; have b1 := B_0.out.at 1 rfl; have b2 := B_0.out.at 2 rfl; have b3 := B_0.out.at 3 rfl; have lB := B_0.out.1
  clear hs hcm ho
  go_enter Try.func6, Try.ntmps6
  go_wp2_with fail
  refine (specOIG_any h ac bu a n c f co L _ (S0.out.below HB0.out) hcn HCM.out HO.out).mono ?_
  rintro e w1 ⟨oa, oc, U, rfl, -, -, hb, -, -⟩
  have HB1 := Lib.hid (thru0 HB0.out hb); have B_1 := Lib.hid (B_0.out.below hb)
  have z1 := hb.size
  clear hb b0 b1 b2 b3 lB
  rcases hco with ⟨h0, rfl⟩ | ⟨rfl, hr⟩
  · have hq : (co != 0) = true := by simp [h0]
    clear h0
    go_wp2
    go_ret
    exact ⟨rfl, HB1.out⟩
  · obtain ⟨⟨⟨g1, g2⟩, ⟨g3, g4⟩, g5, g6⟩, gn, gw⟩ := isFault_ok (isOI_zero HO.out).1
    have hb0 := baseI_bd (ac := ac) g1
    obtain ⟨P, hP⟩ : ∃ P : Nat, baseI ac h = (P : Int) := ⟨(baseI ac h).toNat, by omega⟩
    obtain ⟨U, rfl⟩ : ∃ U : Nat, bu = (U : Int) := ⟨bu.toNat, by omega⟩
    rw [hP, Int.toNat_natCast, Int.toNat_natCast] at hr
    have HR := Lib.hid hr; have HP := Lib.hid hP; have HN := Lib.hid gn
    have hPU : (P : Int) + (U : Int) ≤ 400 := by omega
    clear hr gw gn hb0 hP
    have lB := B_1.out.1
    go_wp2_with fail
    refine (l1Base_eq (P : Int) w.heap.size h ac (U : Int) a n c _ HP.out (blk5_4 B_1.out) g1 g2 g3 g4).mono ?_
    rintro e w2 ⟨rfl, hb⟩
    have HB2 := Lib.hid (thru0 HB1.out hb); have B_2 := Lib.hid (B_1.out.below hb)
    clear hb lB
    go_wp2
    go_loopw [4] (fun p wr => ∃ j : Nat, j ≤ n ∧ p = .int .i64 (j : Int) ∧ Hid (Below w2.heap.size w2 wr) ∧ Hid (∀ k, k < j → ¬ (P ≤ k ∧ k < P + U) → f k = 0)) (fun p _ => n - (intOf p).toNat)
    case atStart => exact ⟨0, Nat.zero_le _, rfl, Below.refl _ _, Lib.hid (fun k hk => by omega)⟩
    case round =>
      obtain ⟨j, hj, rfl, HB_r, HRS⟩ := hrel
      have HBr := Lib.hid (thru0 HB2.out HB_r.out)
      have BA := Lib.hid (B_2.out.below HB_r.out)
      have SA := Lib.hid (S0.out.below HBr.out)
      have b0 := BA.out.at 0 rfl; have b1 := BA.out.at 1 rfl; have b3 := BA.out.at 3 rfl; have lB := BA.out.1
      by_cases hjn : j < n
      · have hjn' : (j : Int) < 2 * h := by have := HN.out; omega
        have hj0 : (0 : Int) ≤ (j : Int) := by omega
        have hjn2 : (j : Int) < (n : Int) := by omega
        by_cases hin : P ≤ j ∧ j < P + U
        · have HI := Lib.hid hin
          go_wp2_with fail
          refine (l1In_yes (j : Int) (P : Int) ((P : Int) + (U : Int) - 1) _ (by have := HI.out; omega) (by have := HI.out; omega)).mono ?_
          rintro e w' ⟨rfl, rfl⟩
          go_wp2
          go_roundw
          case rel => first | exact ⟨j + 1, by omega, by go_num, HB_r, Lib.hid (fun k hk hb => by rcases Nat.lt_succ_iff_lt_or_eq.mp hk with h' | h'; exact HRS.out k h' hb; subst h'; exact absurd HI.out hb)⟩ | ((repeat apply Exists.intro); exact ⟨⟨j + 1, by omega, by go_num, HB_r, Lib.hid (fun k hk hb => by rcases Nat.lt_succ_iff_lt_or_eq.mp hk with h' | h'; exact HRS.out k h' hb; subst h'; exact absurd HI.out hb)⟩, rfl⟩)
          case measure => simp [intOf]; omega
        · have HI := Lib.hid hin
          obtain ⟨ab, ao, ea, hab, fj⟩ := src_atz SA.out hjn
          subst ea
          by_cases hfz : f j = 0
          · have hd : (f j != 0) = false := by simpa using hfz
            have HZ := Lib.hid hfz
            clear hfz hin
            go_wp2_with fail
            refine (l1In_no (j : Int) (P : Int) ((P : Int) + (U : Int) - 1) _ (fun x => HI.out ⟨by omega, by omega⟩)).mono ?_
            rintro e w' ⟨rfl, rfl⟩
            go_wp2
            go_roundw
            case rel => first | exact ⟨j + 1, by omega, by go_num, HB_r, Lib.hid (fun k hk hb => by rcases Nat.lt_succ_iff_lt_or_eq.mp hk with h' | h'; exact HRS.out k h' hb; subst h'; exact HZ.out)⟩ | ((repeat apply Exists.intro); exact ⟨⟨j + 1, by omega, by go_num, HB_r, Lib.hid (fun k hk hb => by rcases Nat.lt_succ_iff_lt_or_eq.mp hk with h' | h'; exact HRS.out k h' hb; subst h'; exact HZ.out)⟩, rfl⟩)
            case measure => simp [intOf]; omega
          · have hd : (f j != 0) = true := by simpa using hfz
            have hrf : Hid (r = false) := Lib.hid (by
              cases r
              · rfl
              · exact absurd (HR.out.1 rfl j hjn hin) hfz)
            clear hfz hin
            go_wp2_with fail
            refine (l1In_no (j : Int) (P : Int) ((P : Int) + (U : Int) - 1) _ (fun x => HI.out ⟨by omega, by omega⟩)).mono ?_
            rintro e w' ⟨rfl, rfl⟩
            go_wp2
            go_ret
            exact ⟨by rw [hrf.out]; rfl, HBr.out⟩
      · have hjn' : ¬ (j : Int) < 2 * h := by have := HN.out; omega
        have hrt : Hid (r = true) := Lib.hid (HR.out.2 (fun k hk hb => HRS.out k (by omega) hb))
        go_wp2
        go_ret
        exact ⟨by rw [hrt.out]; rfl, HBr.out⟩
end Go.Proofs.Ytnpklnpicelcmaa

namespace Go.Proofs.Ytnpklnpicelcmaa
open Go.RowKit
set_option linter.unusedVariables false

def RetNz (W : World) (n : Nat) (f : Nat → Int) (e : Ending) (w' : World) : Prop :=
  Below W.heap.size W w' ∧ (((∀ j, j < n → f j = 0) ∧ e = .returned (.int .i64 (-1))) ∨ ∃ i : Nat, i < n ∧ ¬ f i = 0 ∧ e = .returned (.int .i64 (i : Int)))

theorem nz1_any (y : Int) (r : Bool) (w : World) (hr : (y != 0) = r) :
    Calls Try.prog 34 #[.int .i64 y] w (fun e w' => e = .returned (.bool r) ∧ w = w') := by
  go_enter Try.func34, Try.ntmps34
  go_wp2
  go_ret
  exact ⟨rfl, rfl⟩

set_option maxRecDepth 100000 in
set_option maxHeartbeats 1600000 in
theorem indexNz_any (ia : Option Addr) (n c : Nat) (f : Nat → Int) (w : World) (hs : Src w ia n f) (hn : n ≤ 1048576) :
    Calls Try.prog 70 #[.slice ia n c, .func (.func 34) #[] #[]] w (RetNz w n f) := by
  have S0 := Lib.hid hs
  have eg : ∀ args w, (callFunc 34 args).run Try.prog w = .ok (.enter 34 args) w := enters_of Try.func34 (by kernel_rfl) rfl
  clear hs
  go_enter Try.func70, Try.ntmps70
  go_wp2
  go_loopw [8] (fun p wr => ∃ i : Nat, i ≤ n ∧ p = .int .i64 (i : Int) ∧ Hid (Below w.heap.size w wr) ∧ Hid (∀ j, j < i → f j = 0)) (fun p _ => n - (intOf p).toNat)
  case atStart => exact ⟨0, Nat.zero_le _, rfl, Below.refl _ _, Lib.hid (fun j hj => by omega)⟩
  case round =>
    obtain ⟨i, hi, rfl, HBr, HD⟩ := hrel
    by_cases hlt : i < n
    · have hlt' : (i : Int) < (n : Int) := by omega
      have hi0 : (0 : Int) ≤ (i : Int) := by omega
      rcases S0.out.below HBr.out with h0 | ⟨b, o, rfl, lb, hc⟩
      · omega
      have hci := hc i hlt
      clear hc
      by_cases hin : f i = 0
      · have HIN := Lib.hid (show (f i != 0) = false by simp [hin])
        have HD' : Hid (∀ j, j < i + 1 → f j = 0) := Lib.hid fun j hj => by
          rcases Nat.lt_succ_iff_lt_or_eq.mp hj with h1 | h1
          · exact HD.out j h1
          · subst h1; exact hin
        clear hin HD
        go_wp2_with (go_at_fn 34; refine (nz1_any (f i) false _ HIN.out).mono ?_; rintro e w1 ⟨rfl, rfl⟩)
        clear hci
        go_roundw
        case rel => first | exact ⟨i + 1, by omega, by go_num, HBr, HD'⟩ | ((repeat apply Exists.intro); exact ⟨⟨i + 1, by omega, by go_num, HBr, HD'⟩, rfl⟩)
        case measure => simp [intOf]; omega
      · have HIN := Lib.hid (show (f i != 0) = true by simp [hin])
        have HF : Hid (∃ i' : Nat, i' < n ∧ ¬ f i' = 0 ∧ Ending.returned (.int .i64 (i : Int)) = Ending.returned (.int .i64 (i' : Int))) := Lib.hid ⟨i, hlt, hin, rfl⟩
        clear hin
        go_wp2_with (go_at_fn 34; refine (nz1_any (f i) true _ HIN.out).mono ?_; rintro e w1 ⟨rfl, rfl⟩)
        go_ret
        exact ⟨HBr.out, .inr HF.out⟩
    · have hlt' : ¬ (i : Int) < (n : Int) := by omega
      go_wp2
      go_ret
      exact ⟨HBr.out, .inl ⟨fun j hj => HD.out j (by omega), rfl⟩⟩

set_option maxRecDepth 100000 in
set_option maxHeartbeats 400000 in
theorem containsNz_any (ia : Option Addr) (n c : Nat) (f : Nat → Int) (r : Bool) (w : World) (hs : Src w ia n f) (hn : n ≤ 1048576) (hr : r = false ↔ ∀ i, i < n → f i = 0) :
    Calls Try.prog 32 #[.slice ia n c, .func (.func 34) #[] #[]] w (RetBool w r) := by
  have HR := Lib.hid hr
  clear hr
  go_enter Try.func32, Try.ntmps32
  go_wp2_with fail
  refine (indexNz_any ia n c f _ hs hn).mono ?_
  rintro e w1 ⟨hb, hres⟩
  have HB1 := Lib.hid hb
  clear hb
  rcases hres with ⟨hno, rfl⟩ | ⟨i, hi, hin, rfl⟩
  · obtain rfl : r = false := HR.out.2 hno
    clear hno
    go_wp2
    go_ret
    exact ⟨rfl, HB1.out⟩
  · obtain rfl : r = true := by
      cases r
      · exact absurd (HR.out.1 rfl i hi) hin
      · rfl
    have hi0 : (0 : Int) ≤ (i : Int) := by omega
    clear hin
    go_wp2
    go_ret
    exact ⟨rfl, HB1.out⟩

theorem nums_zr : ∀ n, nums n (fun _ => 0) = List.replicate n (.int .i64 0) := fun n => by
  apply List.ext_getElem?
  intro i
  by_cases hi : i < n
  · rw [nums_get n _ i hi]; simp [hi]
  · rw [List.getElem?_eq_none (by rw [nums_length]; omega), List.getElem?_eq_none (by simp; omega)]

/-- The first of a row are cleared. -/
theorem OwnIn.clear1 {w : World} {lo hi b off m : Nat} {f : Nat → Int} (h : OwnIn w lo hi (some ⟨b, off, none⟩) m f) (k : Nat) (hk : k ≤ m) (hp : 0 < m) :
    OwnIn (w.setCells b off (List.replicate k (.int .i64 0))) lo hi (some ⟨b, off, none⟩) m (fun i => if i < k then 0 else f i) ∧ Keeps w (w.setCells b off (List.replicate k (.int .i64 0))) lo hi := by
  have h1 := own_copy h 0 k (fun _ => 0) (by omega)
  rw [nums_zr, Nat.add_zero] at h1
  obtain ⟨b', o', e1, h2, _, _⟩ := ownIn_some h hp
  simp only [Option.some.injEq, Addr.mk.injEq, and_true] at e1
  obtain ⟨rfl, rfl⟩ := e1
  refine ⟨h1.congr (fun i hi => ?_), keeps_copy h2.1 h2.2 _ _ _ (Keeps.refl _ _ _)⟩
  by_cases hi : i < k
  · rw [if_pos (by omega), if_pos hi]
  · rw [if_neg (by omega), if_neg hi]

theorem run_clr0 (w : World) (ty : TypeId) (b off k m c : Nat) (lo hi : Nat) (f : Nat → Int) (hk : k ≤ m) (hp : 0 < m) (h : OwnIn w lo hi (some ⟨b, off, none⟩) m f) :
    (Builtin.clear_ #[22] ty #[.slice (some ⟨b, off, none⟩) k c]).run Try.prog w = .ok (.tuple #[]) (w.setCells b off (List.replicate k (.int .i64 0))) := by
  obtain ⟨b', o', h1, _, _, h4⟩ := ownIn_some h hp
  simp only [Option.some.injEq, Addr.mk.injEq, and_true] at h1
  obtain ⟨rfl, rfl⟩ := h1
  rcases Nat.eq_zero_or_pos k with rfl | hk0
  · simp [Builtin.clear_, run_underlying Try.underlying22, World.setCells]
  · exact Lib.run_clear_slice w 22 2 ty (.int .i64 0) Try.underlying22 (fun w => by kernel_rfl) rfl rfl b off k c hk0 (fun j hj => by rw [(h4 j (by omega)).1]; rfl) (fun j hj => (h4 j (by omega)).2)
end Go.Proofs.Ytnpklnpicelcmaa

namespace Go.Proofs.Ytnpklnpicelcmaa
open Go.RowKit
set_option linter.unusedVariables false

def RetHalvesC (W : World) (m : Nat) (F : Nat → Int) (e : Ending) (w' : World) : Prop :=
  ∃ a1 c1 a2 c2 mid, e = .returned (.agg #[.slice a1 m c1, .slice a2 m c2]) ∧ Halves w' W.heap.size mid w'.heap.size a1 a2 m F ∧ Below W.heap.size W w' ∧ mid ≤ w'.heap.size ∧ W.heap.size ≤ mid ∧ m ≤ c1 ∧ c1 ≤ maxLen ∧ m ≤ c2 ∧ c2 ≤ maxLen

set_option maxRecDepth 100000 in
set_option maxHeartbeats 800000 in
theorem halvesC_any (ac bu : Int) (b off m c : Nat) (F : Nat → Int) (w : World) (hs : Src w (some ⟨b, off, none⟩) (2 * m) F) (hm0 : 8 ≤ m) (hm : m ≤ 200) (hc : 2 * m ≤ c) (hcm : c ≤ maxLen) :
    Calls Try.prog 31 #[.agg #[.int .i64 (m : Int), .slice (some ⟨b, off, none⟩) (2 * m) c, .int .i64 ac, .int .i64 bu]] w (RetHalvesC w m F) := by
  unfold maxLen at hcm
  have HS := Lib.hid hs
  have q1 : (m : Int) ≤ (c : Int) := by omega
  have q2 : (m : Int) ≤ (2 : Int) * (m : Int) := by omega
  have q3 : (0 : Int) ≤ (m : Int) := by omega
  have q4 : ¬ c = m := by omega
  have q5 : 2 * m - m = m := by omega
  clear hs
  go_enter Try.func31, Try.ntmps31
  go_wp2_with fail
  have HA := Lib.hid ((Blk.new w #[.int .i64 (m : Int), .slice (some ⟨b, off, none⟩) (2 * m) c, .int .i64 ac, .int .i64 bu] 30).alloc (.cells #[.slice none 0 0, .slice none 0 0] 70)).drew
  have HR := Lib.hid ((Blk.new_at (w := w.alloc (.cells #[.int .i64 (m : Int), .slice (some ⟨b, off, none⟩) (2 * m) c, .int .i64 ac, .int .i64 bu] 30)) (cs := #[.slice none 0 0, .slice none 0 0]) (t := 70) (w.heap.size + 1) (by simp))).drew
  have HS1 := Lib.hid (src_head ((HS.out.alloc (.cells #[.int .i64 (m : Int), .slice (some ⟨b, off, none⟩) (2 * m) c, .int .i64 ac, .int .i64 bu] 30)).alloc (.cells #[.slice none 0 0, .slice none 0 0] 70)).drew m (by omega))
  have HS2 := Lib.hid (src_tail ((HS.out.alloc (.cells #[.int .i64 (m : Int), .slice (some ⟨b, off, none⟩) (2 * m) c, .int .i64 ac, .int .i64 bu] 30)).alloc (.cells #[.slice none 0 0, .slice none 0 0] 70)).drew m m (by omega) (by omega))
  have HB0 : Hid (Below w.heap.size w ((w.alloc (.cells #[.int .i64 (m : Int), .slice (some ⟨b, off, none⟩) (2 * m) c, .int .i64 ac, .int .i64 bu] 30)).alloc (.cells #[.slice none 0 0, .slice none 0 0] 70)).drew) := (((Below.refl _ _).alloc (Nat.le_refl _) _).alloc (by simp) _).drew
  have lR := HR.out.1; have cR0 := HR.out.at 0 rfl; have cR1 := HR.out.at 1 rfl; have fR0 := HR.out.free 0 rfl; have fR1 := HR.out.free 1 rfl
  go_region_held3 (fun w' => w'.cell? ⟨w.heap.size, 0, none⟩ = some (.int .i64 (m : Int)) ∧ w'.cell? ⟨w.heap.size, 1, none⟩ = some (.slice (some ⟨b, off, none⟩) (2 * m) c))
    (first | exact ⟨HA.out.at 0 rfl, HA.out.at 1 rfl⟩ | exact ⟨HA1.out.at 0 rfl, HA1.out.at 1 rfl⟩ | exact ⟨HA2.out.at 0 rfl, HA2.out.at 1 rfl⟩ | exact ⟨by simp [HA2.out.at 0 rfl], by simp [HA2.out.at 1 rfl]⟩ | go_keep)
    (first
      | (go_at_call 69; (with_reducible refine (clone_any _ _ _ F _ HS1.out (by omega) (by omega)).mono ?_); rintro e w1 ⟨u1, c1, rfl, ho, hb, hc1, hcm1, hn1⟩; have HB1 := Lib.hid (thru0 HB0.out hb); have HA1 := Lib.hid (HA.out.below hb); have HR1 := Lib.hid (HR.out.below hb); have HS21 := Lib.hid (HS2.out.below hb); have HO1 : Hid (OwnIn w1 (w.heap.size + 2) w1.heap.size u1 m F) := (ho.mono (by simp)).into; have z1 : w.heap.size + 2 ≤ w1.heap.size := (by have := hb.size; simp at this; omega); clear hb ho hn1)
      | (go_at_call 69; (with_reducible refine (clone_any _ _ _ (fun i => F (m + i)) _ HS21.out (by omega) (by omega)).mono ?_); rintro e w2 ⟨u2, c2, rfl, ho, hb, hc2, hcm2, hn2⟩; have HB2 := Lib.hid (thru0 HB1.out hb); have HA2 := Lib.hid (HA1.out.below hb); have HR2 := Lib.hid (HR1.out.below hb); have HO12 := Lib.hid (HO1.out.below hb); have HO2 : Hid (OwnIn w2 w1.heap.size w2.heap.size u2 m (fun i => F (m + i))) := ho.into; have z2 := hb.size; clear hb ho hn2; have cR0 := HR2.out.at 0 rfl; have cR1 := HR2.out.at 1 rfl; have fR0 := HR2.out.free 0 rfl; have fR1 := HR2.out.free 1 rfl; have d0 := HA2.out.at 0 rfl; have d1 := HA2.out.at 1 rfl))
  go_wp2
  refine bodyPost_ret (v := .agg #[.slice u1 m c1, .slice u2 m c2]) (by simp [results, Try.results31, go_sem, cR0, cR1]) rfl ⟨u1, c1, u2, c2, w1.heap.size, rfl, ⟨?_, ?_⟩, ?_, ?_, by omega, hc1, hcm1, hc2, hcm2⟩
  · exact ((HO12.out.setCell (.inl (by simp)) _).setCell (.inl (by simp)) _).widen (by omega) (Nat.le_refl _)
  · rw [show ((w2.setCell ⟨w.heap.size + 1, 0, none⟩ (.slice u1 m c1)).setCell ⟨w.heap.size + 1, 1, none⟩ (.slice u2 m c2)).heap.size = w2.heap.size by simp]
    exact (HO2.out.setCell (.inl (by simp; omega)) _).setCell (.inl (by simp; omega)) _
  · exact (HB2.out.setCell (by simp) _).setCell (by simp) _
  · simp; omega
end Go.Proofs.Ytnpklnpicelcmaa

namespace Go.Proofs.Ytnpklnpicelcmaa
open Go.RowKit
set_option linter.unusedVariables false

theorem cat_zero {m P U : Nat} {F G f : Nat → Int} (hc : ∀ i, i < 2 * m → cat m F G i = if P ≤ i ∧ i < P + U then 0 else f i) : (∀ i, i < m + m → cat m F G i = 0) ↔ Rest f (2 * m) P U := by
  constructor
  · intro h i hi hn
    have := h i (by omega)
    rw [hc i hi, if_neg hn] at this
    exact this
  · intro h i hi
    rw [hc i (by omega)]
    by_cases hn : P ≤ i ∧ i < P + U
    · rw [if_pos hn]
    · rw [if_neg hn]; exact h i (by omega) hn

set_option maxRecDepth 100000 in
set_option maxHeartbeats 1600000 in
theorem implZ_code (h ac bu : Int) (a : Option Addr) (n c : Nat) (f : Nat → Int) (tv : Value) (co : Int) (L : List Ob) (w : World) (hs : Src w a n f) (hcn : n ≤ c) (hcm : c ≤ maxLen) (hk : IsOI h n f ac bu co L) (h0 : ¬ co = 0) :
    Calls Try.prog 8 #[.agg #[.int .i64 h, .slice a n c, .int .i64 ac, .int .i64 bu, tv]] w (RetBool w false) := by
  have hfo := or_c0
  have hq : (co != 0) = true := by simp [h0]
  have B_0 := Lib.hid ((Blk.new_at (w := w) (cs := #[.int .i64 h, .slice a n c, .int .i64 ac, .int .i64 bu, tv]) (t := 33) w.heap.size rfl).alloc (.cells #[.int .i64 h, .slice a n c, .int .i64 ac, .int .i64 bu] 30))
  have HB0 : Hid (Below w.heap.size w ((w.alloc (.cells #[.int .i64 h, .slice a n c, .int .i64 ac, .int .i64 bu, tv] 33)).alloc (.cells #[.int .i64 h, .slice a n c, .int .i64 ac, .int .i64 bu] 30))) := ((Below.refl _ _).alloc (Nat.le_refl _) _).alloc (by simp) _
  have S0 := Lib.hid hs; have HCM := Lib.hid hcm; have HK := Lib.hid hk
  clear hs hcm hk h0
  go_enter Try.func8, Try.ntmps8
  go_wp2_with fail
  refine (implOI h ac bu a n c f co L _ (S0.out.below HB0.out) hcn HCM.out HK.out).mono ?_
  rintro e w1 ⟨oa, oc, U, rfl, -, -, hb, -, -⟩
  have HB1 := Lib.hid (thru0 HB0.out hb)
  clear hb
  go_wp2
  go_ret
  exact ⟨rfl, HB1.out⟩

set_option maxRecDepth 100000 in
set_option maxHeartbeats 1600000 in
theorem implZ_ok0 (m U : Nat) (a : Option Addr) (c : Nat) (f : Nat → Int) (tv : Value) (L : List Ob) (r : Bool) (w : World) (hs : Src w a (2 * m) f) (hcn : 2 * m ≤ c) (hcm : c ≤ maxLen) (hk : IsOI (m : Int) (2 * m) f 0 (U : Int) 0 L) (hm8 : 8 ≤ m) (hm2 : m ≤ 200) (hU : U ≤ m) (hr : r = true ↔ Rest f (2 * m) 0 U) :
    Calls Try.prog 8 #[.agg #[.int .i64 (m : Int), .slice a (2 * m) c, .int .i64 0, .int .i64 (U : Int), tv]] w (RetBool w r) := by
  obtain ⟨ab, ao, rfl, hab, hac⟩ := src_some hs (by omega)
  clear hac
  have hfo := or_c0
  have A_0 := Lib.hid (Blk.new_at (w := w.alloc (.cells #[.int .i64 (m : Int), .slice (some ⟨ab, ao, none⟩) (2 * m) c, .int .i64 0, .int .i64 (U : Int), tv] 33)) (cs := #[.int .i64 (m : Int), .slice (some ⟨ab, ao, none⟩) (2 * m) c, .int .i64 0, .int .i64 (U : Int)]) (t := 30) (w.heap.size + 1) (by simp))
  have HB0 : Hid (Below w.heap.size w ((w.alloc (.cells #[.int .i64 (m : Int), .slice (some ⟨ab, ao, none⟩) (2 * m) c, .int .i64 0, .int .i64 (U : Int), tv] 33)).alloc (.cells #[.int .i64 (m : Int), .slice (some ⟨ab, ao, none⟩) (2 * m) c, .int .i64 0, .int .i64 (U : Int)] 30))) := ((Below.refl _ _).alloc (Nat.le_refl _) _).alloc (by simp) _
  have S0 := Lib.hid hs; have HCM := Lib.hid hcm; have HK := Lib.hid hk; have HR := Lib.hid hr
  clear hs hcm hk hr
  go_enter Try.func8, Try.ntmps8
  go_wp2_with fail
  refine (implOI (m : Int) 0 (U : Int) _ (2 * m) c f 0 L _ (S0.out.below HB0.out) hcn HCM.out HK.out).mono ?_
  rintro e w1 ⟨oa, oc, V, rfl, -, -, hb, -, -⟩
  have HB1 := Lib.hid (thru0 HB0.out hb); have A_1 := Lib.hid (A_0.out.below hb); have S_1 := Lib.hid (S0.out.below HB1.out)
  have z1 : w.heap.size + 2 ≤ w1.heap.size := by have := hb.size; simp at this; omega
  clear hb A_0
  have lA := A_1.out.1; have cA0 := A_1.out.at 0 rfl; have cA1 := A_1.out.at 1 rfl; have cA2 := A_1.out.at 2 rfl; have cA3 := A_1.out.at 3 rfl
  go_wp2_with fail
  refine (halvesC_any _ _ _ _ _ _ f _ S_1.out (by omega) (by omega) hcn HCM.out).mono ?_
  rintro e w2 ⟨u1, e1, u2, e2, mid, rfl, ho, hb, hm1, hmw, hc1, hx1, hc2, hx2⟩
  have HB2 := Lib.hid (thru0 HB1.out hb); have A_2 := Lib.hid (A_1.out.below hb)
  have HL_2 : Hid (Halves w2 w1.heap.size mid w2.heap.size u1 u2 m f) := Lib.hid ho
  have z2 : w1.heap.size ≤ w2.heap.size := hb.size
  clear hb ho lA cA0 cA1 cA2 cA3 A_1 S_1
  obtain ⟨b1, o1, rfl, _, _, _⟩ := ownIn_some HL_2.out.1 (by omega)
  obtain ⟨b2, o2, rfl, _, _, _⟩ := ownIn_some HL_2.out.2 (by omega)
  have H_3 := Lib.hid (Blk.new_at (w := w2) (cs := #[.slice (some ⟨b1, o1, none⟩) m e1, .slice (some ⟨b2, o2, none⟩) m e2]) (t := 70) w2.heap.size rfl)
  have A_3 := Lib.hid (A_2.out.alloc (.cells #[.slice (some ⟨b1, o1, none⟩) m e1, .slice (some ⟨b2, o2, none⟩) m e2] 70)); have HB3 := Lib.hid (HB2.out.alloc HB2.out.size (.cells #[.slice (some ⟨b1, o1, none⟩) m e1, .slice (some ⟨b2, o2, none⟩) m e2] 70))
  have L_3 := Lib.hid (HL_2.out.1.alloc (.cells #[.slice (some ⟨b1, o1, none⟩) m e1, .slice (some ⟨b2, o2, none⟩) m e2] 70)); have M_3 := Lib.hid (HL_2.out.2.alloc (.cells #[.slice (some ⟨b1, o1, none⟩) m e1, .slice (some ⟨b2, o2, none⟩) m e2] 70))
  have z3 : w2.heap.size + 1 ≤ (w2.alloc (.cells #[.slice (some ⟨b1, o1, none⟩) m e1, .slice (some ⟨b2, o2, none⟩) m e2] 70)).heap.size := by simp
  go_upto_region 5 with (fail)
  clear A_2 HB2 HL_2
  generalize w2.alloc (.cells #[.slice (some ⟨b1, o1, none⟩) m e1, .slice (some ⟨b2, o2, none⟩) m e2] 70) = w3 at *
  generalize w2.heap.size = H0 at *
  have lA := A_3.out.1; have cA2 := A_3.out.at 2 rfl; have cA3 := A_3.out.at 3 rfl
  have lH := H_3.out.1; have cH0 := H_3.out.at 0 rfl; have cH1 := H_3.out.at 1 rfl
  have hU0 : (0 : Int) ≤ (U : Int) := by omega
  have hUm : (U : Int) ≤ (m : Int) := by omega
  have hU1 : (U : Int) ≤ (e1 : Int) := by omega
  have hU2 : (U : Int) ≤ (e2 : Int) := by omega
  go_wp2_with fail
  go_still_tail 7, (by kernel_rfl)
  change wpList _ _ _ _ _ w3.drew
  have L_4 := Lib.hid L_3.out.drew; have M_4 := Lib.hid M_3.out.drew; have H_4 := Lib.hid H_3.out.drew; have HB4 := Lib.hid HB3.out.drew
  have z4 : H0 + 1 ≤ w3.drew.heap.size := by simpa using z3
  clear lA cA2 cA3 lH cH0 cH1 A_3 H_3 HB3 L_3 M_3
  generalize w3.drew = w4 at *
  go_upto_region 6 with (refine wpList_clear _ rfl (.tmp 19) 22 rfl _ rfl _ _ (run_clr0 _ _ b1 o1 U m e1 _ _ f hU (by omega) L_4.out) ?_)
  have st := L_4.out.clear1 U hU (by omega)
  have L_5 : Hid (OwnIn (w4.setCells b1 o1 (List.replicate U (.int .i64 0))) w1.heap.size mid (some ⟨b1, o1, none⟩) m (fun i => if i < U then 0 else f i)) := Lib.hid (st.1)
  have M_5 : Hid (OwnIn (w4.setCells b1 o1 (List.replicate U (.int .i64 0))) mid H0 (some ⟨b2, o2, none⟩) m (fun i => f (m + i))) := Lib.hid (M_4.out.keeps st.2 (.inr (Nat.le_refl _)))
  have H_5 : Hid (Blk (w4.setCells b1 o1 (List.replicate U (.int .i64 0))) H0 [.slice (some ⟨b1, o1, none⟩) m e1, .slice (some ⟨b2, o2, none⟩) m e2]) := Lib.hid (H_4.out.keeps st.2 (by omega))
  have HB5 : Hid (Below w.heap.size w (w4.setCells b1 o1 (List.replicate U (.int .i64 0)))) := Lib.hid (HB4.out.trans (st.2.below (by omega) HB4.out.size))
  have z5 : H0 + 1 ≤ (w4.setCells b1 o1 (List.replicate U (.int .i64 0))).heap.size := by rw [size_setCells]; exact z4
  clear st L_4 M_4 H_4 HB4
  generalize (w4.setCells b1 o1 (List.replicate U (.int .i64 0))) = w5 at *
  have lH := H_5.out.1; have cH0 := H_5.out.at 0 rfl; have cH1 := H_5.out.at 1 rfl
  have L_6 := Lib.hid (L_5.out.alloc (.cells #[.slice (some ⟨b1, o1, none⟩) m e1, .slice (some ⟨b2, o2, none⟩) m e2] 22)); have M_6 := Lib.hid (M_5.out.alloc (.cells #[.slice (some ⟨b1, o1, none⟩) m e1, .slice (some ⟨b2, o2, none⟩) m e2] 22))
  have X_6 := Lib.hid (Blk.new_at (w := w5) (cs := #[.slice (some ⟨b1, o1, none⟩) m e1, .slice (some ⟨b2, o2, none⟩) m e2]) (t := 22) w5.heap.size rfl)
  have HB6 := Lib.hid (HB5.out.alloc HB5.out.size (.cells #[.slice (some ⟨b1, o1, none⟩) m e1, .slice (some ⟨b2, o2, none⟩) m e2] 22))
  go_wp2_with fail
  refine (concat_any _ _ _ m m _ _ (fun i => if i < U then 0 else f i) (fun i => f (m + i)) _ X_6.out.1 (X_6.out.at 0 rfl) (X_6.out.at 1 rfl) L_6.out.src M_6.out.src (by omega) (by omega) (by omega) (by omega)).mono ?_
  rintro e w7 ⟨va, vc, rfl, ho, hb, -, -, -⟩
  have HB7 := Lib.hid (thru0 HB6.out hb); have HO := Lib.hid ho.src
  clear hb ho lH cH0 cH1
  have HCZ : Hid ((!r) = false ↔ ∀ i, i < m + m → cat m (fun i => if i < U then 0 else f i) (fun i => f (m + i)) i = 0) := Lib.hid (by
    have h1 := cat_zero (m := m) (P := 0) (U := U) (F := (fun i => if i < U then 0 else f i)) (G := (fun i => f (m + i))) (f := f) (fun i hi => by
      simp only [cat]
      by_cases h : i < m
      · rw [if_pos h]
        by_cases h2 : i < U
        · rw [if_pos h2, if_pos (by omega)]
        · rw [if_neg h2, if_neg (by omega)]
      · rw [if_neg h, if_neg (by omega)]; congr 1; omega)
    rw [h1, ← HR.out]
    cases r <;> simp)
  go_wp2_with fail
  refine (containsNz_any va (m + m) vc _ (!r) _ HO.out (by omega) HCZ.out).mono ?_
  rintro e w8 ⟨rfl, hb⟩
  have HB8 := Lib.hid (thru0 HB7.out hb)
  clear hb
  go_wp2
  go_ret
  exact ⟨by simp, HB8.out⟩

set_option maxRecDepth 100000 in
set_option maxHeartbeats 1600000 in
theorem implZ_ok1 (m U : Nat) (a : Option Addr) (c : Nat) (f : Nat → Int) (tv : Value) (L : List Ob) (r : Bool) (w : World) (hs : Src w a (2 * m) f) (hcn : 2 * m ≤ c) (hcm : c ≤ maxLen) (hk : IsOI (m : Int) (2 * m) f 1 (U : Int) 0 L) (hm8 : 8 ≤ m) (hm2 : m ≤ 200) (hU : U ≤ m) (hr : r = true ↔ Rest f (2 * m) m U) :
    Calls Try.prog 8 #[.agg #[.int .i64 (m : Int), .slice a (2 * m) c, .int .i64 1, .int .i64 (U : Int), tv]] w (RetBool w r) := by
  obtain ⟨ab, ao, rfl, hab, hac⟩ := src_some hs (by omega)
  clear hac
  have hfo := or_c0
  have A_0 := Lib.hid (Blk.new_at (w := w.alloc (.cells #[.int .i64 (m : Int), .slice (some ⟨ab, ao, none⟩) (2 * m) c, .int .i64 1, .int .i64 (U : Int), tv] 33)) (cs := #[.int .i64 (m : Int), .slice (some ⟨ab, ao, none⟩) (2 * m) c, .int .i64 1, .int .i64 (U : Int)]) (t := 30) (w.heap.size + 1) (by simp))
  have HB0 : Hid (Below w.heap.size w ((w.alloc (.cells #[.int .i64 (m : Int), .slice (some ⟨ab, ao, none⟩) (2 * m) c, .int .i64 1, .int .i64 (U : Int), tv] 33)).alloc (.cells #[.int .i64 (m : Int), .slice (some ⟨ab, ao, none⟩) (2 * m) c, .int .i64 1, .int .i64 (U : Int)] 30))) := ((Below.refl _ _).alloc (Nat.le_refl _) _).alloc (by simp) _
  have S0 := Lib.hid hs; have HCM := Lib.hid hcm; have HK := Lib.hid hk; have HR := Lib.hid hr
  clear hs hcm hk hr
  go_enter Try.func8, Try.ntmps8
  go_wp2_with fail
  refine (implOI (m : Int) 1 (U : Int) _ (2 * m) c f 0 L _ (S0.out.below HB0.out) hcn HCM.out HK.out).mono ?_
  rintro e w1 ⟨oa, oc, V, rfl, -, -, hb, -, -⟩
  have HB1 := Lib.hid (thru0 HB0.out hb); have A_1 := Lib.hid (A_0.out.below hb); have S_1 := Lib.hid (S0.out.below HB1.out)
  have z1 : w.heap.size + 2 ≤ w1.heap.size := by have := hb.size; simp at this; omega
  clear hb A_0
  have lA := A_1.out.1; have cA0 := A_1.out.at 0 rfl; have cA1 := A_1.out.at 1 rfl; have cA2 := A_1.out.at 2 rfl; have cA3 := A_1.out.at 3 rfl
  go_wp2_with fail
  refine (halvesC_any _ _ _ _ _ _ f _ S_1.out (by omega) (by omega) hcn HCM.out).mono ?_
  rintro e w2 ⟨u1, e1, u2, e2, mid, rfl, ho, hb, hm1, hmw, hc1, hx1, hc2, hx2⟩
  have HB2 := Lib.hid (thru0 HB1.out hb); have A_2 := Lib.hid (A_1.out.below hb)
  have HL_2 : Hid (Halves w2 w1.heap.size mid w2.heap.size u1 u2 m f) := Lib.hid ho
  have z2 : w1.heap.size ≤ w2.heap.size := hb.size
  clear hb ho lA cA0 cA1 cA2 cA3 A_1 S_1
  obtain ⟨b1, o1, rfl, _, _, _⟩ := ownIn_some HL_2.out.1 (by omega)
  obtain ⟨b2, o2, rfl, _, _, _⟩ := ownIn_some HL_2.out.2 (by omega)
  have H_3 := Lib.hid (Blk.new_at (w := w2) (cs := #[.slice (some ⟨b1, o1, none⟩) m e1, .slice (some ⟨b2, o2, none⟩) m e2]) (t := 70) w2.heap.size rfl)
  have A_3 := Lib.hid (A_2.out.alloc (.cells #[.slice (some ⟨b1, o1, none⟩) m e1, .slice (some ⟨b2, o2, none⟩) m e2] 70)); have HB3 := Lib.hid (HB2.out.alloc HB2.out.size (.cells #[.slice (some ⟨b1, o1, none⟩) m e1, .slice (some ⟨b2, o2, none⟩) m e2] 70))
  have L_3 := Lib.hid (HL_2.out.1.alloc (.cells #[.slice (some ⟨b1, o1, none⟩) m e1, .slice (some ⟨b2, o2, none⟩) m e2] 70)); have M_3 := Lib.hid (HL_2.out.2.alloc (.cells #[.slice (some ⟨b1, o1, none⟩) m e1, .slice (some ⟨b2, o2, none⟩) m e2] 70))
  have z3 : w2.heap.size + 1 ≤ (w2.alloc (.cells #[.slice (some ⟨b1, o1, none⟩) m e1, .slice (some ⟨b2, o2, none⟩) m e2] 70)).heap.size := by simp
  go_upto_region 5 with (fail)
  clear A_2 HB2 HL_2
  generalize w2.alloc (.cells #[.slice (some ⟨b1, o1, none⟩) m e1, .slice (some ⟨b2, o2, none⟩) m e2] 70) = w3 at *
  generalize w2.heap.size = H0 at *
  have lA := A_3.out.1; have cA2 := A_3.out.at 2 rfl; have cA3 := A_3.out.at 3 rfl
  have lH := H_3.out.1; have cH0 := H_3.out.at 0 rfl; have cH1 := H_3.out.at 1 rfl
  have hU0 : (0 : Int) ≤ (U : Int) := by omega
  have hUm : (U : Int) ≤ (m : Int) := by omega
  have hU1 : (U : Int) ≤ (e1 : Int) := by omega
  have hU2 : (U : Int) ≤ (e2 : Int) := by omega
  go_wp2_with fail
  go_still_tail 7, (by kernel_rfl)
  change wpList _ _ _ _ _ w3.drew
  have L_4 := Lib.hid L_3.out.drew; have M_4 := Lib.hid M_3.out.drew; have H_4 := Lib.hid H_3.out.drew; have HB4 := Lib.hid HB3.out.drew
  have z4 : H0 + 1 ≤ w3.drew.heap.size := by simpa using z3
  clear lA cA2 cA3 lH cH0 cH1 A_3 H_3 HB3 L_3 M_3
  generalize w3.drew = w4 at *
  go_upto_region 6 with (refine wpList_clear _ rfl (.tmp 19) 22 rfl _ rfl _ _ (run_clr0 _ _ b2 o2 U m e2 _ _ (fun i => f (m + i)) hU (by omega) M_4.out) ?_)
  have st := M_4.out.clear1 U hU (by omega)
  have L_5 : Hid (OwnIn (w4.setCells b2 o2 (List.replicate U (.int .i64 0))) w1.heap.size mid (some ⟨b1, o1, none⟩) m f) := Lib.hid (L_4.out.keeps st.2 (.inl (Nat.le_refl _)))
  have M_5 : Hid (OwnIn (w4.setCells b2 o2 (List.replicate U (.int .i64 0))) mid H0 (some ⟨b2, o2, none⟩) m (fun i => if i < U then 0 else f (m + i))) := Lib.hid (st.1)
  have H_5 : Hid (Blk (w4.setCells b2 o2 (List.replicate U (.int .i64 0))) H0 [.slice (some ⟨b1, o1, none⟩) m e1, .slice (some ⟨b2, o2, none⟩) m e2]) := Lib.hid (H_4.out.keeps st.2 (by omega))
  have HB5 : Hid (Below w.heap.size w (w4.setCells b2 o2 (List.replicate U (.int .i64 0)))) := Lib.hid (HB4.out.trans (st.2.below (by omega) HB4.out.size))
  have z5 : H0 + 1 ≤ (w4.setCells b2 o2 (List.replicate U (.int .i64 0))).heap.size := by rw [size_setCells]; exact z4
  clear st L_4 M_4 H_4 HB4
  generalize (w4.setCells b2 o2 (List.replicate U (.int .i64 0))) = w5 at *
  have lH := H_5.out.1; have cH0 := H_5.out.at 0 rfl; have cH1 := H_5.out.at 1 rfl
  have L_6 := Lib.hid (L_5.out.alloc (.cells #[.slice (some ⟨b1, o1, none⟩) m e1, .slice (some ⟨b2, o2, none⟩) m e2] 22)); have M_6 := Lib.hid (M_5.out.alloc (.cells #[.slice (some ⟨b1, o1, none⟩) m e1, .slice (some ⟨b2, o2, none⟩) m e2] 22))
  have X_6 := Lib.hid (Blk.new_at (w := w5) (cs := #[.slice (some ⟨b1, o1, none⟩) m e1, .slice (some ⟨b2, o2, none⟩) m e2]) (t := 22) w5.heap.size rfl)
  have HB6 := Lib.hid (HB5.out.alloc HB5.out.size (.cells #[.slice (some ⟨b1, o1, none⟩) m e1, .slice (some ⟨b2, o2, none⟩) m e2] 22))
  go_wp2_with fail
  refine (concat_any _ _ _ m m _ _ f (fun i => if i < U then 0 else f (m + i)) _ X_6.out.1 (X_6.out.at 0 rfl) (X_6.out.at 1 rfl) L_6.out.src M_6.out.src (by omega) (by omega) (by omega) (by omega)).mono ?_
  rintro e w7 ⟨va, vc, rfl, ho, hb, -, -, -⟩
  have HB7 := Lib.hid (thru0 HB6.out hb); have HO := Lib.hid ho.src
  clear hb ho lH cH0 cH1
  have HCZ : Hid ((!r) = false ↔ ∀ i, i < m + m → cat m f (fun i => if i < U then 0 else f (m + i)) i = 0) := Lib.hid (by
    have h1 := cat_zero (m := m) (P := m) (U := U) (F := f) (G := (fun i => if i < U then 0 else f (m + i))) (f := f) (fun i hi => by
      simp only [cat]
      by_cases h : i < m
      · rw [if_pos h, if_neg (by omega)]
      · rw [if_neg h]
        by_cases h2 : i - m < U
        · rw [if_pos h2, if_pos (by omega)]
        · rw [if_neg h2, if_neg (by omega)]; congr 1; omega)
    rw [h1, ← HR.out]
    cases r <;> simp)
  go_wp2_with fail
  refine (containsNz_any va (m + m) vc _ (!r) _ HO.out (by omega) HCZ.out).mono ?_
  rintro e w8 ⟨rfl, hb⟩
  have HB8 := Lib.hid (thru0 HB7.out hb)
  clear hb
  go_wp2
  go_ret
  exact ⟨by simp, HB8.out⟩

theorem implZ_any (h ac bu : Int) (a : Option Addr) (n c : Nat) (f : Nat → Int) (tv : Value) (r : Bool) (w : World) (hs : Src w a n f) (hcn : n ≤ c) (hcm : c ≤ maxLen) (hk : IsZ h n f ac bu r) :
    Calls Try.prog 8 #[.agg #[.int .i64 h, .slice a n c, .int .i64 ac, .int .i64 bu, tv]] w (RetBool w r) := by
  obtain ⟨co, L, ho, ⟨h0, rfl⟩ | ⟨rfl, hr⟩⟩ := hk
  · exact implZ_code h ac bu a n c f tv co L w hs hcn hcm ho h0
  · obtain ⟨⟨⟨g1, g2⟩, ⟨g3, g4⟩, g5, g6⟩, gn, -⟩ := isFault_ok (isOI_zero ho).1
    obtain ⟨m, rfl⟩ : ∃ m : Nat, h = (m : Int) := ⟨h.toNat, by omega⟩
    obtain ⟨U, rfl⟩ : ∃ U : Nat, bu = (U : Int) := ⟨bu.toNat, by omega⟩
    obtain rfl : n = 2 * m := by omega
    rcases (by omega : ac = 0 ∨ ac = 1) with rfl | rfl
    · exact implZ_ok0 m U a c f tv L r w hs hcn hcm ho (by omega) (by omega) (by omega) (by simpa [baseI] using hr)
    · exact implZ_ok1 m U a c f tv L r w hs hcn hcm ho (by omega) (by omega) (by omega) (by simpa [baseI] using hr)
end Go.Proofs.Ytnpklnpicelcmaa

namespace Go.Proofs.Ytnpklnpicelcmaa
open Go.RowKit
set_option linter.unusedVariables false

set_option maxRecDepth 100000 in
set_option maxHeartbeats 6400000 in
theorem e3_any (h ac bu : Int) (a : Option Addr) (n c : Nat) (f : Nat → Int) (ta : Option Addr) (N tc : Nat) (T : Nat → TN) (w : World)
    (s1 : Src w a n f) (hn : n ≤ maxLen) (t1 : TV w ta N T) (hN : N ≤ maxLen) (hm : ∀ i, i < N → (T i).n ≤ maxLen) (hw : ∀ i, i < N → TnW (T i)) :
    Calls Try.prog 3 #[.agg #[.int .i64 h, .slice a n c, .int .i64 ac, .int .i64 bu, .slice ta N tc]] w (RetBool w true) := by
  obtain ⟨r0, hk⟩ := isZ_some h n f ac bu
  have HK := Lib.hid hk; have S1 := Lib.hid s1; have T1 := Lib.hid t1; have HM := Lib.hid hm; have HW := Lib.hid hw
  have HB0 := Lib.hid ((Below.refl w.heap.size w).alloc (Nat.le_refl _) (.cells #[.int .i64 h, .slice a n c, .int .i64 ac, .int .i64 bu, .slice ta N tc] 27))
  have A_0 := Lib.hid (Blk.new_at (w := w) (cs := #[.int .i64 h, .slice a n c, .int .i64 ac, .int .i64 bu, .slice ta N tc]) (t := 27) w.heap.size rfl)
  clear hk s1 t1 hm hw
  have c0 := A_0.out.at 0 rfl; have c1 := A_0.out.at 1 rfl; have c2 := A_0.out.at 2 rfl; have c3 := A_0.out.at 3 rfl; have c4 := A_0.out.at 4 rfl; have lc := A_0.out.1
  go_enter Try.func3, Try.ntmps3
  go_wp2_with fail
  refine (szHeap_any h ac bu a n c ta N tc T 1048576 _ (T1.out.below HB0.out) hn hN HM.out (by omega) (by omega)).mono ?_
  rintro e w1 ⟨hb, r, rfl, hr1, hr2⟩
  have HB1 := Lib.hid (thru0 HB0.out hb); have A_1 := Lib.hid (A_0.out.below hb)
  clear hb A_0 HB0 c0 c1 c2 c3 c4 lc
  rcases hr2 with rfl | ⟨h0, h1, h2, h3⟩
  · go_wp2
    go_ret
    exact ⟨rfl, HB1.out⟩
  have h9 : ¬ r < 0 := by omega
  have hn1 : n ≤ 1048576 := by omega
  have hN1 : N ≤ 1048576 := by omega
  have HM1 : Hid (∀ i, i < N → (T i).n ≤ 1048576) := Lib.hid fun i hi => by have := h3 i hi; omega
  clear h3 HM hn hN h1 h2
  have c0 := A_1.out.at 0 rfl; have c1 := A_1.out.at 1 rfl; have c2 := A_1.out.at 2 rfl; have c3 := A_1.out.at 3 rfl; have c4 := A_1.out.at 4 rfl; have lc := A_1.out.1
  go_wp2_with fail
  refine (toHeap_any h ac bu a n c f ta N tc T _ (S1.out.below HB1.out) (T1.out.below HB1.out) hn1 hN1 HM1.out).mono ?_
  rintro e w2 ⟨ga, gc, gt, gk, gm, G, rfl, go, gp, _, _, gs, hb, gc1, gc2⟩
  have HB2 := Lib.hid (thru0 HB1.out hb); have A_2 := Lib.hid (A_1.out.below hb); have GO := Lib.hid go.src; have GP := Lib.hid gp.src; have GS := Lib.hid gs; have GC := Lib.hid gc2
  clear hb go gp gs gc2 A_1 HB1 c0 c1 c2 c3 c4 lc
  go_wp2_with fail
  refine (specZ_any h ac bu ga n gc f (.slice gt N gk) r0 _ GO.out gc1 GC.out HK.out).mono ?_
  rintro e w3 ⟨rfl, hb⟩
  have HB3 := Lib.hid (thru0 HB2.out hb); have A_3 := Lib.hid (A_2.out.below hb)
  clear hb A_2 HB2 GO GP GS GC gc1
  have c0 := A_3.out.at 0 rfl; have c1 := A_3.out.at 1 rfl; have c2 := A_3.out.at 2 rfl; have c3 := A_3.out.at 3 rfl; have c4 := A_3.out.at 4 rfl; have lc := A_3.out.1
  go_wp2_with fail
  refine (toHeap_any h ac bu a n c f ta N tc T _ (S1.out.below HB3.out) (T1.out.below HB3.out) hn1 hN1 HM1.out).mono ?_
  rintro e w4 ⟨xa, xc, xt, xk, xm, X, rfl, xo, xp, _, _, xs, hb, xc1, xc2⟩
  have HB4 := Lib.hid (thru0 HB3.out hb); have A_4 := Lib.hid (A_3.out.below hb); have XS := Lib.hid xs; have XC := Lib.hid xc2
  have XO := Lib.hid (xo.src.alloc (.cells #[.int .i64 h, .slice xa n xc, .int .i64 ac, .int .i64 bu, .slice xt N xk] 33)); have XP := Lib.hid (xp.src.alloc (.cells #[.int .i64 h, .slice xa n xc, .int .i64 ac, .int .i64 bu, .slice xt N xk] 33))
  have A_5 := Lib.hid (A_4.out.alloc (.cells #[.int .i64 h, .slice xa n xc, .int .i64 ac, .int .i64 bu, .slice xt N xk] 33)); have HB5 := Lib.hid (HB4.out.alloc HB4.out.size (.cells #[.int .i64 h, .slice xa n xc, .int .i64 ac, .int .i64 bu, .slice xt N xk] 33))
  have X_5 := Lib.hid (Blk.new_at (w := w4) (cs := #[.int .i64 h, .slice xa n xc, .int .i64 ac, .int .i64 bu, .slice xt N xk]) (t := 33) w4.heap.size rfl)
  clear hb xo xp xs xc2 A_3 HB3 A_4 HB4 c0 c1 c2 c3 c4 lc
  go_wp2_with fail
  generalize w4.alloc (.cells #[.int .i64 h, .slice xa n xc, .int .i64 ac, .int .i64 bu, .slice xt N xk] 33) = w5 at *
  generalize w4.heap.size = X0 at *
  refine (implZ_any h ac bu xa n xc f (.slice xt N xk) r0 _ XO.out xc1 XC.out HK.out).mono ?_
  rintro e w6 ⟨rfl, hb⟩
  have HB6 := Lib.hid (thru0 HB5.out hb); have A_6 := Lib.hid (A_5.out.below hb); have X_6 := Lib.hid (X_5.out.below hb); have XO6 := Lib.hid (XO.out.below hb); have XP6 := Lib.hid (XP.out.below hb)
  clear hb A_5 X_5 HB5 XO XP XC xc1
  have c0 := A_6.out.at 0 rfl; have c1 := A_6.out.at 1 rfl; have c2 := A_6.out.at 2 rfl; have c3 := A_6.out.at 3 rfl; have c4 := A_6.out.at 4 rfl; have lc := A_6.out.1
  have d0 := X_6.out.at 0 rfl; have d1 := X_6.out.at 1 rfl; have d2 := X_6.out.at 2 rfl; have d3 := X_6.out.at 3 rfl; have d4 := X_6.out.at 4 rfl; have ld := X_6.out.1
  go_wp2_with fail
  have A_d := Lib.hid A_6.out.drew; have X_d := Lib.hid X_6.out.drew; have HB_d := Lib.hid HB6.out.drew
  go_region_held3 (fun w' => w'.cell? ⟨w.heap.size, 0, none⟩ = some (.int .i64 h) ∧ w'.cell? ⟨w.heap.size, 1, none⟩ = some (.slice a n c) ∧ w'.cell? ⟨w.heap.size, 2, none⟩ = some (.int .i64 ac) ∧ w'.cell? ⟨w.heap.size, 3, none⟩ = some (.int .i64 bu) ∧ w'.cell? ⟨w.heap.size, 4, none⟩ = some (.slice ta N tc) ∧ w'.cell? ⟨X0, 0, none⟩ = some (.int .i64 h) ∧ w'.cell? ⟨X0, 1, none⟩ = some (.slice xa n xc) ∧ w'.cell? ⟨X0, 2, none⟩ = some (.int .i64 ac) ∧ w'.cell? ⟨X0, 3, none⟩ = some (.int .i64 bu) ∧ w'.cell? ⟨X0, 4, none⟩ = some (.slice xt N xk))
    (first | (with_reducible exact cap10Y A_6.out X_6.out) | (with_reducible exact cap10Y A_d.out X_d.out) | (with_reducible exact cap10Y A_7.out X_7.out) | (with_reducible exact cap10Y A_8.out X_8.out))
    (first | (go_at_call 7; refine (toHeap_any h ac bu a n c f ta N tc T _ (S1.out.below HB_d.out) (T1.out.below HB_d.out) hn1 hN1 HM1.out).mono ?_; rintro e w7 ⟨ya, yc, yt, yk, ym, Y, rfl, yo, yp, _, _, ys, hb, _, _⟩; have HB7 := Lib.hid (thru0 HB_d.out hb); have A_7 := Lib.hid (A_d.out.below hb); have X_7 := Lib.hid (X_d.out.below hb); have XO7 := Lib.hid (XO6.out.drew.below hb); have XP7 := Lib.hid (XP6.out.drew.below hb); have YO := Lib.hid yo.src; have YP := Lib.hid yp.src; have YS := Lib.hid (show ∀ i, i < N → TnSame (X i) (Y i) from fun i hi => tnsame_trans (tnsame_symm (XS.out i hi)) (ys i hi)); clear hb yo yp ys) | (go_at_call 9; refine (eqHeap_same h ac bu xa ya n xc yc f f xt yt N xk yk X Y _ XO7.out YO.out XP7.out YP.out (fun _ _ => rfl) YS.out hn1 hN1 (tnsame_n XS.out HM1.out)).mono ?_; rintro e w8 ⟨rfl, hb⟩; have HB8 := Lib.hid (thru0 HB7.out hb); have A_8 := Lib.hid (A_7.out.below hb); have X_8 := Lib.hid (X_7.out.below hb); clear hb))
  go_wp2
  go_ret
  exact ⟨rfl, HB8.out⟩
end Go.Proofs.Ytnpklnpicelcmaa

