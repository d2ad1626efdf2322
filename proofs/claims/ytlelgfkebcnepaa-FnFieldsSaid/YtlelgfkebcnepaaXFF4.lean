/- Texts merged: Q9 to Q16. -/
import Derived.Test.YtlelgfkebcnepaaXFF3
import Derived.Maps.OwnIn
import Derived.Maps.AppendAt
namespace Go.Proofs.Ytlelgfkebcnepaa
open Go.RowKit
set_option linter.unusedVariables false

def gcells (t : GM) : List Value := [.int .i64 t.at_, .int .i64 t.s, .int .i64 t.m, .int .i64 t.o, .int .i64 t.h, .slice t.a t.n t.c]

def rowG (M : List GM) : List Value := M.flatMap gcells

theorem rowG_snoc (M : List GM) (t : GM) : rowG (M ++ [t]) = rowG M ++ gcells t := by simp [rowG]

theorem rowG_get : ∀ (M : List GM) (i : Nat) (t : GM), M[i]? = some t → ∀ j, j < 6 → (rowG M)[i * 6 + j]? = (gcells t)[j]?
  | [], i, t, h, j, hj => by simp at h
  | u :: M, 0, t, h, j, hj => by
    simp only [List.getElem?_cons_zero, Option.some.injEq] at h
    subst h
    simp only [rowG, List.flatMap_cons, Nat.zero_mul, Nat.zero_add]
    rw [List.getElem?_append_left (by simp [gcells]; omega)]
  | u :: M, i + 1, t, h, j, hj => by
    have ih := rowG_get M i t (by simpa using h) j hj
    simp only [rowG, List.flatMap_cons] at ih ⊢
    rw [List.getElem?_append_right (by simp [gcells]; omega)]
    have e : (i + 1) * 6 + j - (gcells u).length = i * 6 + j := by simp [gcells]; omega
    rw [e]; exact ih

/-- Each object's fields are numbers of their own, later ones in later blocks. -/
def FldG (w : World) (lo : Nat) (v : Value) (M : List GM) : Prop :=
  (∀ t ∈ M, t.n = 0 ∨ (lo ≤ t.g ∧ t.g < w.heap.size ∧ some t.g ≠ v.ownBlock ∧ ∃ q, t.a = some ⟨t.g, q, none⟩ ∧ ∀ k, k < t.n → w.cell? ⟨t.g, q + k, none⟩ = some (.int .i64 (t.f k)) ∧ w.frozen? ⟨t.g, q + k, none⟩ = false)) ∧ M.Pairwise (fun t u => t.n = 0 ∨ u.n = 0 ∨ t.g < u.g)

theorem FldG.block {w w' : World} {lo : Nat} {v : Value} {M : List GM} (h : FldG w lo v M) (hz : w.heap.size ≤ w'.heap.size) (hb : ∀ b, lo ≤ b → b < w.heap.size → some b ≠ v.ownBlock → w'.heap[b]? = w.heap[b]?) : FldG w' lo v M :=
  ⟨fun t ht => by
    rcases h.1 t ht with h0 | ⟨h1, h2, h3, q, h4, h5⟩
    · exact .inl h0
    · have e := hb t.g h1 h2 h3
      exact .inr ⟨h1, Nat.lt_of_lt_of_le h2 hz, h3, q, h4, fun k hk => ⟨(World.cell?_of_block (w := w) (a := ⟨t.g, q + k, none⟩) e).trans (h5 k hk).1, (World.frozen?_of_block (w := w) (a := ⟨t.g, q + k, none⟩) e).trans (h5 k hk).2⟩⟩, h.2⟩

theorem FldG.below {w w' : World} {lo : Nat} {v : Value} {M : List GM} (h : FldG w lo v M) (hb : Below w.heap.size w w') : FldG w' lo v M := h.block hb.size fun b _ h2 _ => hb.block b h2

theorem FldG.snoc {w0 w1 w2 : World} {lo : Nat} {v v' : Value} {M : List GM} (t : GM) (h : FldG w0 lo v M) (hz : w0.heap.size ≤ w1.heap.size) (h01 : ∀ (b : Nat) (o : Obj), w0.heap[b]? = some o → o.isCells = true → w1.heap[b]? = some o) (hg : w1.grownBy w2 v.ownBlock)
    (hat : v'.ownBlock = v.ownBlock ∨ v'.ownBlock = some w1.heap.size) (hlo : lo ≤ w0.heap.size) (hv : ∀ k, v.ownBlock = some k → k < w0.heap.size) (ho : Own w1 w0.heap.size t.a t.n t.f) : FldG w2 lo v' (M ++ [t]) := by
  refine ⟨fun u hu => ?_, ?_⟩
  · rcases List.mem_append.mp hu with hu | hu
    · rcases Nat.eq_zero_or_pos u.n with hp | hp
      · exact .inl hp
      rcases h.1 u hu with h0 | ⟨h1, h2, h3, q, h4, h5⟩
      · exact .inl h0
      · obtain ⟨ob, hob, hcb⟩ := cells_of_cell (h5 0 hp).1
        have e := (hg.block u.g (Nat.lt_of_lt_of_le h2 hz) h3).trans ((h01 u.g ob hob hcb).trans hob.symm)
        refine .inr ⟨h1, Nat.lt_of_lt_of_le (Nat.lt_of_lt_of_le h2 hz) hg.size, ?_, q, h4, fun k hk => ⟨(World.cell?_of_block (w := w0) (a := ⟨u.g, q + k, none⟩) e).trans (h5 k hk).1, (World.frozen?_of_block (w := w0) (a := ⟨u.g, q + k, none⟩) e).trans (h5 k hk).2⟩⟩
        rcases hat with hat | hat
        · rw [hat]; exact h3
        · rw [hat]; intro he; simp only [Option.some.injEq] at he; omega
    · simp only [List.mem_singleton] at hu
      subst hu
      rcases ho with h0 | ⟨b, off, he, h1, h2, h3⟩
      · exact .inl h0
      · have hgb : u.g = b := by simp [GM.g, he]
        have hne : some b ≠ v.ownBlock := fun hx => by have := hv b hx.symm; omega
        have e := hg.block b h2 hne
        refine .inr ⟨by omega, by rw [hgb]; exact Nat.lt_of_lt_of_le h2 hg.size, ?_, off, by rw [hgb]; exact he, fun k hk => ?_⟩
        · rw [hgb]
          rcases hat with hat | hat
          · rw [hat]; exact hne
          · rw [hat]; intro hx; simp only [Option.some.injEq] at hx; omega
        · rw [hgb]
          exact ⟨(World.cell?_of_block (w := w1) (a := ⟨b, off + k, none⟩) e).trans (h3 k hk).1, (World.frozen?_of_block (w := w1) (a := ⟨b, off + k, none⟩) e).trans (h3 k hk).2⟩
  · rw [List.pairwise_append]
    refine ⟨h.2, by simp, fun u hu x hx => ?_⟩
    simp only [List.mem_singleton] at hx
    subst hx
    rcases h.1 u hu with h0 | ⟨_, h2, _⟩
    · exact .inl h0
    · rcases ho with h0 | ⟨b, off, he, h1, _⟩
      · exact .inr (.inl h0)
      · have hgb : x.g = b := by simp [GM.g, he]
        exact .inr (.inr (by omega))

def gT (M : List GM) (i : Nat) : GM := M[i]?.getD gzero

theorem gT_at {M : List GM} {i : Nat} {t : GM} (h : M[i]? = some t) : gT M i = t := by simp [gT, h]

theorem rowG_GVO {w : World} {base lo : Nat} {v : Value} {M : List GM} (h : w.ownsRow base 42 6 v M.length (rowG M)) (hf : FldG w lo v M) (hl : lo ≤ base) : ∃ a c, v = .slice a M.length c ∧ GVO w lo w.heap.size a M.length (gT M) := by
  rcases Nat.eq_zero_or_pos M.length with h0 | hp
  · rcases h.2 with ⟨h1, h2⟩ | ⟨g, cap, cur, h1, _⟩
    · exact ⟨none, 0, by rw [h1, h2], .inl h0⟩
    · exact ⟨_, cap, h1, .inl h0⟩
  · obtain ⟨gb, cap, rfl, hb, hlt⟩ := h.form hp
    refine ⟨_, cap, rfl, .inr ⟨gb, 0, rfl, ?_⟩⟩
    have hfr : ∀ k, k < M.length * 6 → w.frozen? ⟨gb, k, none⟩ = false := fun k hk => by
      have := h.frozenAt k
      simpa using this
    have hce : ∀ i t, M[i]? = some t → ∀ j u, (gcells t)[j]? = some u → w.cell? ⟨gb, i * 6 + j, none⟩ = some u := fun i t ht j u hu => by
      have hi : i < M.length := (List.getElem?_eq_some_iff.mp ht).1
      have hj : j < 6 := by
        have := (List.getElem?_eq_some_iff.mp hu).1
        simpa [gcells] using this
      have hc := h.cellAt (i * 6 + j) (by omega)
      rw [rowG_get M i t ht j hj, hu] at hc
      simpa using hc
    refine ⟨by omega, hlt, hlt, fun i hi => ?_, fun i hi => ?_, fun i hi => ?_, fun i hi => ?_, fun i j hi hj hij => ?_⟩
    · have ht := List.getElem?_eq_getElem hi
      rw [gT_at ht, Nat.zero_add]
      exact ⟨hce i _ ht 0 _ rfl, hce i _ ht 1 _ rfl, hce i _ ht 2 _ rfl, hce i _ ht 3 _ rfl, hce i _ ht 4 _ rfl, hce i _ ht 5 _ rfl⟩
    · rw [Nat.zero_add]
      exact ⟨hfr _ (by omega), hfr _ (by omega), hfr _ (by omega), hfr _ (by omega), hfr _ (by omega), hfr _ (by omega)⟩
    · have ht := List.getElem?_eq_getElem hi
      rw [gT_at ht]
      rcases hf.1 M[i] (List.getElem_mem hi) with h0 | ⟨h1, h2, _, q, h4, h5⟩
      · exact .inl h0
      · exact .inr ⟨_, q, h4, ⟨h1, h2⟩, h2, h5⟩
    · have ht := List.getElem?_eq_getElem hi
      rw [gT_at ht]
      rcases hf.1 M[i] (List.getElem_mem hi) with h0 | ⟨_, _, h3, _⟩
      · exact .inl h0
      · right
        intro he
        exact h3 (by rw [he]; rfl)
    · have hp := List.pairwise_iff_getElem.mp hf.2
      rw [gT_at (List.getElem?_eq_getElem hi), gT_at (List.getElem?_eq_getElem hj)]
      rcases Nat.lt_or_ge i j with hlt' | hge
      · rcases hp i j hi hj hlt' with h0 | h0 | h0
        · exact .inl h0
        · exact .inr (.inl h0)
        · exact .inr (.inr (by omega))
      · rcases hp j i hj hi (by omega) with h0 | h0 | h0
        · exact .inr (.inl h0)
        · exact .inl h0
        · exact .inr (.inr (by omega))

theorem match_same {f : Nat → Int} {M : List GM} {L : List Ob} (h : Match f M L) (i : Nat) (hi : i < L.length) : GSame (gT M i) (obT f L i) := by
  have h1 : i < M.length := by rw [h.1]; exact hi
  rw [gT_at (List.getElem?_eq_getElem h1)]
  have := h.2 i _ _ (List.getElem?_eq_getElem h1) (List.getElem?_eq_getElem hi)
  simpa [obT, List.getElem?_eq_getElem hi, xT] using this
end Go.Proofs.Ytlelgfkebcnepaa

namespace Go.Proofs.Ytlelgfkebcnepaa
open Go.RowKit Go.Shelf
set_option linter.unusedVariables false

/-- What lay below B, and what holds cells, is as it was. -/
structure Turn (B : Nat) (V V' : World) : Prop where
  os : V'.os = V.os
  tape : V'.tape = V.tape
  output : V'.output = V.output
  size : V.heap.size ≤ V'.heap.size
  same : ∀ (k : Nat) (o : Obj), V.heap[k]? = some o → (k < B ∨ o.isCells = true) → V'.heap[k]? = some o

theorem Turn.of_below {B : Nat} {V V' : World} (h : Below V.heap.size V V') : Turn B V V' :=
  ⟨h.os, h.tape, h.output, h.size, fun k o hk _ => (h.block k (Array.getElem?_eq_some_iff.1 hk).1).trans hk⟩

theorem Turn.trans {B : Nat} {V V' V'' : World} (h : Turn B V V') (h' : Turn B V' V'') : Turn B V V'' :=
  ⟨h'.os.trans h.os, h'.tape.trans h.tape, h'.output.trans h.output, Nat.le_trans h.size h'.size, fun k o hk hc => h'.same k o (h.same k o hk hc) hc⟩

theorem Turn.put {B : Nat} {V : World} {l : Nat} {o : Obj} (o' : Obj) (hl : B ≤ l) (h : V.heap[l]? = some o) (hc : o.isCells = false) : Turn B V (V.putObj l o') :=
  ⟨rfl, rfl, rfl, by simp, fun k x hk hx => by
    have hne : k ≠ l := fun e => by
      subst e
      rw [h] at hk
      cases hk
      rcases hx with hx | hx
      · omega
      · rw [hc] at hx; cases hx
    rw [World.putObj_heap_other hne]; exact hk⟩

theorem Turn.below {B n : Nat} {V V' : World} (h : Turn B V V') (hn : n ≤ B) (hz : n ≤ V.heap.size) : Below n V V' :=
  ⟨h.os, h.tape, h.output, h.size, fun k hk => by
    have hk' : V.heap[k]? = some (V.heap[k]'(by omega)) := Array.getElem?_eq_getElem (by omega)
    rw [hk']; exact h.same k _ hk' (.inl (by omega))⟩

theorem Turn.cell {B : Nat} {V V' : World} (h : Turn B V V') {p : Addr} {v : Value} (hc : V.cell? p = some v) : V'.cell? p = some v ∧ V'.frozen? p = V.frozen? p ∧ V'.heap[p.block]? = V.heap[p.block]? := by
  obtain ⟨o, ho, hcc⟩ := cells_of_cell hc
  have e : V'.heap[p.block]? = V.heap[p.block]? := (h.same _ o ho (.inr hcc)).trans ho.symm
  exact ⟨(World.cell?_of_block e).trans hc, World.frozen?_of_block e, e⟩

theorem Turn.blk {B : Nat} {V V' : World} (h : Turn B V V') {b : Nat} {cs : List Value} (hb : Blk V b cs) (hne : cs ≠ []) : Blk V' b cs := by
  cases cs with
  | nil => exact absurd rfl hne
  | cons u cs => exact blk_block hb (h.cell (hb.2 0 u rfl).1).2.2

theorem Turn.own {B : Nat} {V V' : World} (h : Turn B V V') {lo n : Nat} {a : Option Addr} {f : Nat → Int} (ho : Own V lo a n f) : Own V' lo a n f := by
  rcases ho with h0 | ⟨b, off, he, h1, h2, h3⟩
  · exact .inl h0
  · exact .inr ⟨b, off, he, h1, Nat.lt_of_lt_of_le h2 h.size, fun k hk => by
      obtain ⟨e1, e2, _⟩ := h.cell (h3 k hk).1
      exact ⟨e1, e2.trans (h3 k hk).2⟩⟩

theorem Turn.row {B : Nat} {V V' : World} (h : Turn B V V') {base e size n : Nat} {v : Value} {xs : List Value} (ho : V.ownsRow base e size v n xs) : V'.ownsRow base e size v n xs := by
  refine ⟨ho.1, ?_⟩
  rcases ho.2 with h0 | ⟨g, cap, cur, h1, h2, h3, h4⟩
  · exact .inl h0
  · exact .inr ⟨g, cap, cur, h1, h2, h.same g _ h3 (.inr rfl), h4⟩

theorem Turn.fld {B : Nat} {V V' : World} (h : Turn B V V') {lo : Nat} {v : Value} {M : List GM} (ho : FldG V lo v M) : FldG V' lo v M :=
  ⟨fun t ht => by
    rcases Nat.eq_zero_or_pos t.n with h0 | hp
    · exact .inl h0
    · rcases ho.1 t ht with h0 | ⟨h1, h2, h3, q, h4, h5⟩
      · exact .inl h0
      · exact .inr ⟨h1, Nat.lt_of_lt_of_le h2 h.size, h3, q, h4, fun k hk => by
          obtain ⟨e1, e2, _⟩ := h.cell (h5 k hk).1
          exact ⟨e1, e2.trans (h5 k hk).2⟩⟩, ho.2⟩

set_option maxHeartbeats 800000 in
/-- A loop over the iterator of objects: what each round owes, and what it is told. -/
theorem range_objs {n : Nat} {g : Operand} {p : Tmp} {assign body : Code} {Q : Exit → Act → World → Prop} {a : Act} {W0 : World} {gf : Nat} {lb : Array Value}
    (hg : a.eval g = .func (.func gf) #[] lb) (eg : ∀ args w, (callFunc gf args).run Try.prog w = .ok (.enter gf args) w)
    (S : List GM → Prop) (N : Prop) (I : List GM → World → Prop) (Ix : World → Prop) (n0 A1 : Nat) (hn0 : n0 ≤ W0.heap.size) (hA1 : A1 < W0.heap.size)
    (hI : ∀ s V V', I s V → Turn W0.heap.size V V' → I s V') (hIx : ∀ V V', Ix V → Turn W0.heap.size V V' → Ix V') (h0 : I [] W0)
    (hit : ∀ (l : Nat) (J : List GM → World → Prop) (Jx : World → Prop) (W1 : World), Below W0.heap.size W0 W1 → (∀ pre V V', J pre V → Below V.heap.size V V' → J pre V') →
      (∀ pre (t : GM) V0 V1, J pre V0 → pre.length < 400 → Below V0.heap.size V0 V1 → Own V1 V0.heap.size t.a t.n t.f → YieldAt Fence.wide (n - 1 - 1) Try.prog l #[.agg #[.int .i64 0, .int .i64 t.at_, .int .i64 t.s, .int .i64 t.m, .int .i64 t.o, .int .i64 t.h, .slice t.a t.n t.c]] V1 fun e V' => e = .returned (.bool true) ∧ J (pre ++ [t]) V' ∧ Kept n0 A1 V0 V1 V') →
      (∀ pre V0 V1, J pre V0 → Below V0.heap.size V0 V1 → YieldAt Fence.wide (n - 1 - 1) Try.prog l #[.agg #[.int .i64 1, .int .i64 0, .int .i64 0, .int .i64 0, .int .i64 0, .int .i64 0, .slice none 0 0]] V1 fun e V' => e = .returned (.bool false) ∧ Jx V') → J [] W1 →
      CallsIn Fence.wide (n - 1) Try.prog gf (#[.func (.yield l) #[] #[]] ++ lb) W1 fun e V' => (∃ v, e = .returned v) ∧ ((∃ xs, S xs ∧ J xs V') ∨ (N ∧ Jx V')))
    (a₁ : Value → Nat → Act)
    (hassign : ∀ (l : Nat) (c0 c1 c2 c3 c4 c5 : Int) (sa : Option Addr) (sn sc : Nat) (V1 : World) (K : Act → World → Prop), K (a₁ (.agg #[.int .i64 c0, .int .i64 c1, .int .i64 c2, .int .i64 c3, .int .i64 c4, .int .i64 c5, .slice sa sn sc]) V1.heap.size) (V1.alloc (.cells #[.int .i64 c0, .int .i64 c1, .int .i64 c2, .int .i64 c3, .int .i64 c4, .int .i64 c5, .slice sa sn sc] 44)) →
      assign.wpIn (Fence.wide.inRound l) (n - 1 - 1) Try.prog (Exit.then K (fun _ _ _ => False)) { tmps := a.tmps.setIfInBounds p (.agg #[.int .i64 c0, .int .i64 c1, .int .i64 c2, .int .i64 c3, .int .i64 c4, .int .i64 c5, .slice sa sn sc]), defers := [] } V1)
    (hgo : ∀ (l : Nat) (pre : List GM) (t : GM) (V0 V1 V2 : World), I pre V0 → pre.length < 400 → Turn W0.heap.size V0 V2 → V0.heap.size ≤ V1.heap.size → V2.heap.size = V1.heap.size + 1 → W0.heap.size ≤ V0.heap.size → Blk V2 V1.heap.size [.int .i64 0, .int .i64 t.at_, .int .i64 t.s, .int .i64 t.m, .int .i64 t.o, .int .i64 t.h, .slice t.a t.n t.c] → Own V2 V0.heap.size t.a t.n t.f →
      body.wpIn (Fence.wide.inRound l) (n - 1 - 1) Try.prog (fun ex _ V3 => ex = .normal ∧ KeepsOthers V2 V3 ∧ I (pre ++ [t]) V3 ∧ Kept n0 A1 V0 V2 V3) (a₁ (.agg #[.int .i64 0, .int .i64 t.at_, .int .i64 t.s, .int .i64 t.m, .int .i64 t.o, .int .i64 t.h, .slice t.a t.n t.c]) V1.heap.size) V2)
    (hno : ∀ (l : Nat) (pre : List GM) (V0 V1 V2 : World), I pre V0 → Turn W0.heap.size V0 V2 → V0.heap.size ≤ V1.heap.size → V2.heap.size = V1.heap.size + 1 → W0.heap.size ≤ V0.heap.size → Blk V2 V1.heap.size [.int .i64 1, .int .i64 0, .int .i64 0, .int .i64 0, .int .i64 0, .int .i64 0, .slice none 0 0] →
      body.wpIn (Fence.wide.inRound l) (n - 1 - 1) Try.prog (fun ex _ V3 => ex = .ret ∧ KeepsOthers V2 V3 ∧ Ix V3) (a₁ (.agg #[.int .i64 1, .int .i64 0, .int .i64 0, .int .i64 0, .int .i64 0, .int .i64 0, .slice none 0 0]) V1.heap.size) V2)
    (hdone : ∀ (D : Nat) (xs : List GM) (V : World), W0.heap.size ≤ D → S xs → I xs V → V.heap[D]? = some (.deferred (some [])) → Q .normal { a with defers := { target := .collected D, args := #[] } :: a.defers } V)
    (hstop : ∀ (D : Nat) (V : World), W0.heap.size ≤ D → N → Ix V → V.heap[D]? = some (.deferred (some [])) → Code.ret.wpIn Fence.wide n Try.prog Q { a with defers := { target := .collected D, args := #[] } :: a.defers } V) :
    (Code.rangeFunc g #[p] assign body).wpIn Fence.wide n Try.prog Q a W0 := by
  refine wpIn_rangeFunc ?_
  intro fn hfn
  obtain ⟨rec, hrec⟩ : ∃ rec : LoopState → Option Code → Loop, rec = fun st pe => { state := st, pending := pe, fn, tmps := a.tmps, params := #[p], assign, body, defers := W0.heap.size } := ⟨_, rfl⟩
  have hfold : ∀ v : Value, (#[p].zip #[v]).foldl (fun tmps (t, a) => tmps.setIfInBounds t a) a.tmps = a.tmps.setIfInBounds p v := fun v => by simp
  have hL1 : ((W0.alloc (.deferred (some []))).alloc (.loop (rec .ready none))).heap[W0.heap.size + 1]? = some (.loop (rec .ready none)) := by
    have := World.alloc_heap_new (W0.alloc (.deferred (some []))) (.loop (rec .ready none)); rwa [World.size_alloc] at this
  have hK1 : ((W0.alloc (.deferred (some []))).alloc (.loop (rec .ready none))).heap[W0.heap.size]? = some (.deferred (some [])) := (Below.heap_alloc _ _ _ (by simp)).trans (World.alloc_heap_new W0 _)
  have hB1 : Below W0.heap.size W0 ((W0.alloc (.deferred (some []))).alloc (.loop (rec .ready none))) := ((Below.refl _ W0).alloc (Nat.le_refl _) _).alloc (by simp) _
  refine ⟨W0.heap.size + 1, [{ target := .collected W0.heap.size, args := #[] }], (W0.alloc (.deferred (some []))).alloc (.loop (rec .ready none)), { target := .fn (.func gf) lb, args := #[.func (.yield (W0.heap.size + 1)) #[] #[]] }, (W0.alloc (.deferred (some []))).alloc (.loop (rec .ready none)), gf,
    #[.func (.yield (W0.heap.size + 1)) #[] #[]] ++ lb, (W0.alloc (.deferred (some []))).alloc (.loop (rec .ready none)), ?_, ?_, ?_, ?_, fun hx => (by simp [Fence.wide] at hx), ?_⟩
  · rw [hrec]; exact run_enterLoop_outer _ _ _ _ _
  · simp only [resolve, hg]
    simp [go_sem]
  · intro f' _; trivial
  · simp [invoke, go_sem, eg]
  refine (hit (W0.heap.size + 1)
    (fun pre V => I pre V ∧ V.heap[W0.heap.size + 1]? = some (.loop (rec .ready none)) ∧ V.heap[W0.heap.size]? = some (.deferred (some [])))
    (fun V => Ix V ∧ V.heap[W0.heap.size + 1]? = some (.loop (rec .done (some .ret))) ∧ V.heap[W0.heap.size]? = some (.deferred (some [])))
    _ hB1 (fun pre V V' hs hb => ⟨hI _ _ _ hs.1 (Turn.of_below hb), (hb.block _ (Array.getElem?_eq_some_iff.1 hs.2.1).1).trans hs.2.1, (hb.block _ (Array.getElem?_eq_some_iff.1 hs.2.2).1).trans hs.2.2⟩) ?_ ?_ ⟨hI _ _ _ h0 (Turn.of_below hB1), hL1, hK1⟩).mono ?_
  · rintro pre t V0 V1 ⟨hi, hl, hk⟩ hlen hb ho
    have hls := (Array.getElem?_eq_some_iff.1 hl).1
    have hz := hb.size
    have hz0 : W0.heap.size ≤ V0.heap.size := by omega
    have hl1 : V1.heap[W0.heap.size + 1]? = some (.loop (rec .ready none)) := (hb.block _ hls).trans hl
    have hk1 : V1.heap[W0.heap.size]? = some (.deferred (some [])) := (hb.block _ (by omega)).trans hk
    have hy := run_yield (P := Try.prog) (args := #[.agg #[.int .i64 0, .int .i64 t.at_, .int .i64 t.s, .int .i64 t.m, .int .i64 t.o, .int .i64 t.h, .slice t.a t.n t.c]]) hl1 (by rw [hrec]; rfl)
    rw [hrec] at hy
    refine ⟨fn, _, assign, body, hy, roundIn_of_wpIn hfn ?_⟩
    dsimp only
    rw [hfold]
    refine hassign (W0.heap.size + 1) 0 t.at_ t.s t.m t.o t.h t.a t.n t.c V1 _ ?_
    refine ⟨_, run_beginRound ((Below.heap_alloc _ _ _ (by omega)).trans hl1) (by rw [hrec]), ?_⟩
    have hla : (V1.alloc (.cells #[.int .i64 0, .int .i64 t.at_, .int .i64 t.s, .int .i64 t.m, .int .i64 t.o, .int .i64 t.h, .slice t.a t.n t.c] 44)).heap[W0.heap.size + 1]? = some (.loop (rec .ready none)) := (Below.heap_alloc _ _ _ (by omega)).trans hl1
    have hka : (V1.alloc (.cells #[.int .i64 0, .int .i64 t.at_, .int .i64 t.s, .int .i64 t.m, .int .i64 t.o, .int .i64 t.h, .slice t.a t.n t.c] 44)).heap[W0.heap.size]? = some (.deferred (some [])) := (Below.heap_alloc _ _ _ (by omega)).trans hk1
    have hT1 : Turn W0.heap.size (V1.alloc (.cells #[.int .i64 0, .int .i64 t.at_, .int .i64 t.s, .int .i64 t.m, .int .i64 t.o, .int .i64 t.h, .slice t.a t.n t.c] 44)) ((V1.alloc (.cells #[.int .i64 0, .int .i64 t.at_, .int .i64 t.s, .int .i64 t.m, .int .i64 t.o, .int .i64 t.h, .slice t.a t.n t.c] 44)).putObj (W0.heap.size + 1) (.loop { rec .ready none with state := .busy })) := Turn.put _ (by omega) hla rfl
    have hT12 : Turn W0.heap.size V1 ((V1.alloc (.cells #[.int .i64 0, .int .i64 t.at_, .int .i64 t.s, .int .i64 t.m, .int .i64 t.o, .int .i64 t.h, .slice t.a t.n t.c] 44)).putObj (W0.heap.size + 1) (.loop { rec .ready none with state := .busy })) := (Turn.of_below ((Below.refl _ V1).alloc (Nat.le_refl _) _)).trans hT1
    have hT : Turn W0.heap.size V0 ((V1.alloc (.cells #[.int .i64 0, .int .i64 t.at_, .int .i64 t.s, .int .i64 t.m, .int .i64 t.o, .int .i64 t.h, .slice t.a t.n t.c] 44)).putObj (W0.heap.size + 1) (.loop { rec .ready none with state := .busy })) := (Turn.of_below hb).trans hT12
    have hz2 : ((V1.alloc (.cells #[.int .i64 0, .int .i64 t.at_, .int .i64 t.s, .int .i64 t.m, .int .i64 t.o, .int .i64 t.h, .slice t.a t.n t.c] 44)).putObj (W0.heap.size + 1) (.loop { rec .ready none with state := .busy })).heap.size = V1.heap.size + 1 := by simp
    have hB2 : Blk ((V1.alloc (.cells #[.int .i64 0, .int .i64 t.at_, .int .i64 t.s, .int .i64 t.m, .int .i64 t.o, .int .i64 t.h, .slice t.a t.n t.c] 44)).putObj (W0.heap.size + 1) (.loop { rec .ready none with state := .busy })) V1.heap.size [.int .i64 0, .int .i64 t.at_, .int .i64 t.s, .int .i64 t.m, .int .i64 t.o, .int .i64 t.h, .slice t.a t.n t.c] := hT1.blk (Blk.new_at (w := V1) (cs := #[.int .i64 0, .int .i64 t.at_, .int .i64 t.s, .int .i64 t.m, .int .i64 t.o, .int .i64 t.h, .slice t.a t.n t.c]) (t := 44) V1.heap.size rfl) (by simp)
    have hl2 : ((V1.alloc (.cells #[.int .i64 0, .int .i64 t.at_, .int .i64 t.s, .int .i64 t.m, .int .i64 t.o, .int .i64 t.h, .slice t.a t.n t.c] 44)).putObj (W0.heap.size + 1) (.loop { rec .ready none with state := .busy })).heap[W0.heap.size + 1]? = some (.loop { rec .ready none with state := .busy }) := World.putObj_heap_same (Array.getElem?_eq_some_iff.1 hla).1
    have hk2 : ((V1.alloc (.cells #[.int .i64 0, .int .i64 t.at_, .int .i64 t.s, .int .i64 t.m, .int .i64 t.o, .int .i64 t.h, .slice t.a t.n t.c] 44)).putObj (W0.heap.size + 1) (.loop { rec .ready none with state := .busy })).heap[W0.heap.size]? = some (.deferred (some [])) := (World.putObj_heap_other (by omega)).trans hka
    refine wpIn_mono (hgo (W0.heap.size + 1) pre t V0 V1 _ hi hlen hT hb.size hz2 hz0 hB2 (hT1.own (ho.alloc _))) ?_
    rintro ex a3 V3 ⟨rfl, hko, hi3, hkp⟩
    have hl3 := hko.same _ _ hl2 rfl
    have hk3 := hko.same _ _ hk2 rfl
    have hT3 : Turn W0.heap.size V3 (V3.putObj (W0.heap.size + 1) (.loop (rec .ready none))) := Turn.put _ (by omega) hl3 rfl
    have hl3' := (Array.getElem?_eq_some_iff.1 hl3).1
    have hend : (Instr.endRound (W0.heap.size + 1) none).run Try.prog V3 = .ok (.bool true) (V3.putObj (W0.heap.size + 1) (.loop (rec .ready none))) := by
      have := run_endRound (P := Try.prog) none hl3
      rw [hrec] at this ⊢; exact this
    refine ⟨_, _, hend, rfl, ⟨hI _ _ _ hi3 hT3, World.putObj_heap_same hl3', (World.putObj_heap_other (by omega)).trans hk3⟩, ?_, ?_, fun b hb0 hb1 => ?_⟩
    · exact (hT12.below hn0 (by omega)).trans (hkp.1.trans (hT3.below hn0 (by have := hko.size; have := hT12.size; omega)))
    · have e1 : V1.heap[A1]? = some (V1.heap[A1]'(by omega)) := Array.getElem?_eq_getElem (by omega)
      have e2 := hT12.same A1 _ e1 (.inl hA1)
      have e3 := hkp.2.1.trans e2
      rw [e1]; exact hT3.same A1 _ e3 (.inl hA1)
    · refine (World.putObj_heap_other (by omega)).trans ((hkp.2.2 b hb0 (by rw [hz2]; omega)).trans ((World.putObj_heap_other (by omega)).trans (Below.heap_alloc _ _ _ hb1)))
  · rintro pre V0 V1 ⟨hi, hl, hk⟩ hb
    have hls := (Array.getElem?_eq_some_iff.1 hl).1
    have hz := hb.size
    have hz0 : W0.heap.size ≤ V0.heap.size := by omega
    have hl1 : V1.heap[W0.heap.size + 1]? = some (.loop (rec .ready none)) := (hb.block _ hls).trans hl
    have hk1 : V1.heap[W0.heap.size]? = some (.deferred (some [])) := (hb.block _ (by omega)).trans hk
    have hy := run_yield (P := Try.prog) (args := #[.agg #[.int .i64 1, .int .i64 0, .int .i64 0, .int .i64 0, .int .i64 0, .int .i64 0, .slice none 0 0]]) hl1 (by rw [hrec]; rfl)
    rw [hrec] at hy
    refine ⟨fn, _, assign, body, hy, roundIn_of_wpIn hfn ?_⟩
    dsimp only
    rw [hfold]
    refine hassign (W0.heap.size + 1) 1 0 0 0 0 0 none 0 0 V1 _ ?_
    refine ⟨_, run_beginRound ((Below.heap_alloc _ _ _ (by omega)).trans hl1) (by rw [hrec]), ?_⟩
    have hla : (V1.alloc (.cells #[.int .i64 1, .int .i64 0, .int .i64 0, .int .i64 0, .int .i64 0, .int .i64 0, .slice none 0 0] 44)).heap[W0.heap.size + 1]? = some (.loop (rec .ready none)) := (Below.heap_alloc _ _ _ (by omega)).trans hl1
    have hka : (V1.alloc (.cells #[.int .i64 1, .int .i64 0, .int .i64 0, .int .i64 0, .int .i64 0, .int .i64 0, .slice none 0 0] 44)).heap[W0.heap.size]? = some (.deferred (some [])) := (Below.heap_alloc _ _ _ (by omega)).trans hk1
    have hT1 : Turn W0.heap.size (V1.alloc (.cells #[.int .i64 1, .int .i64 0, .int .i64 0, .int .i64 0, .int .i64 0, .int .i64 0, .slice none 0 0] 44)) ((V1.alloc (.cells #[.int .i64 1, .int .i64 0, .int .i64 0, .int .i64 0, .int .i64 0, .int .i64 0, .slice none 0 0] 44)).putObj (W0.heap.size + 1) (.loop { rec .ready none with state := .busy })) := Turn.put _ (by omega) hla rfl
    have hT12 : Turn W0.heap.size V1 ((V1.alloc (.cells #[.int .i64 1, .int .i64 0, .int .i64 0, .int .i64 0, .int .i64 0, .int .i64 0, .slice none 0 0] 44)).putObj (W0.heap.size + 1) (.loop { rec .ready none with state := .busy })) := (Turn.of_below ((Below.refl _ V1).alloc (Nat.le_refl _) _)).trans hT1
    have hT : Turn W0.heap.size V0 ((V1.alloc (.cells #[.int .i64 1, .int .i64 0, .int .i64 0, .int .i64 0, .int .i64 0, .int .i64 0, .slice none 0 0] 44)).putObj (W0.heap.size + 1) (.loop { rec .ready none with state := .busy })) := (Turn.of_below hb).trans hT12
    have hz2 : ((V1.alloc (.cells #[.int .i64 1, .int .i64 0, .int .i64 0, .int .i64 0, .int .i64 0, .int .i64 0, .slice none 0 0] 44)).putObj (W0.heap.size + 1) (.loop { rec .ready none with state := .busy })).heap.size = V1.heap.size + 1 := by simp
    have hB2 : Blk ((V1.alloc (.cells #[.int .i64 1, .int .i64 0, .int .i64 0, .int .i64 0, .int .i64 0, .int .i64 0, .slice none 0 0] 44)).putObj (W0.heap.size + 1) (.loop { rec .ready none with state := .busy })) V1.heap.size [.int .i64 1, .int .i64 0, .int .i64 0, .int .i64 0, .int .i64 0, .int .i64 0, .slice none 0 0] := hT1.blk (Blk.new_at (w := V1) (cs := #[.int .i64 1, .int .i64 0, .int .i64 0, .int .i64 0, .int .i64 0, .int .i64 0, .slice none 0 0]) (t := 44) V1.heap.size rfl) (by simp)
    have hl2 : ((V1.alloc (.cells #[.int .i64 1, .int .i64 0, .int .i64 0, .int .i64 0, .int .i64 0, .int .i64 0, .slice none 0 0] 44)).putObj (W0.heap.size + 1) (.loop { rec .ready none with state := .busy })).heap[W0.heap.size + 1]? = some (.loop { rec .ready none with state := .busy }) := World.putObj_heap_same (Array.getElem?_eq_some_iff.1 hla).1
    have hk2 : ((V1.alloc (.cells #[.int .i64 1, .int .i64 0, .int .i64 0, .int .i64 0, .int .i64 0, .int .i64 0, .slice none 0 0] 44)).putObj (W0.heap.size + 1) (.loop { rec .ready none with state := .busy })).heap[W0.heap.size]? = some (.deferred (some [])) := (World.putObj_heap_other (by omega)).trans hka
    refine wpIn_mono (hno (W0.heap.size + 1) pre V0 V1 _ hi hT hb.size hz2 hz0 hB2) ?_
    rintro ex a3 V3 ⟨rfl, hko, hi3⟩
    have hl3 := hko.same _ _ hl2 rfl
    have hk3 := hko.same _ _ hk2 rfl
    have hT3 : Turn W0.heap.size V3 (V3.putObj (W0.heap.size + 1) (.loop (rec .done (some .ret)))) := Turn.put _ (by omega) hl3 rfl
    have hl3' := (Array.getElem?_eq_some_iff.1 hl3).1
    have hend : (Instr.endRound (W0.heap.size + 1) (some .ret)).run Try.prog V3 = .ok (.bool false) (V3.putObj (W0.heap.size + 1) (.loop (rec .done (some .ret)))) := by
      have := run_endRound (P := Try.prog) (some .ret) hl3
      rw [hrec] at this ⊢; exact this
    exact ⟨_, _, hend, rfl, hIx _ _ hi3 hT3, World.putObj_heap_same hl3', (World.putObj_heap_other (by omega)).trans hk3⟩
  · rintro e W2 ⟨⟨v, rfl⟩, (⟨xs, hS, hi, hl, hk⟩ | ⟨hN, hi, hl, hk⟩)⟩
    · exact ⟨none, _, by have := run_endLoop (P := Try.prog) hl (by rw [hrec]; simp); rw [hrec] at this; exact this, hdone _ xs _ (Nat.le_refl _) hS (hI _ _ _ hi (Turn.put _ (by omega) hl rfl)) ((World.putObj_heap_other (by omega)).trans hk)⟩
    · exact ⟨some .ret, _, by have := run_endLoop (P := Try.prog) hl (by rw [hrec]; simp); rw [hrec] at this; exact this, hstop _ _ (Nat.le_refl _) hN (hIx _ _ hi (Turn.put _ (by omega) hl rfl)) ((World.putObj_heap_other (by omega)).trans hk)⟩
end Go.Proofs.Ytlelgfkebcnepaa

namespace Go.Proofs.Ytlelgfkebcnepaa
open Go.RowKit Go.Shelf
attribute [local go_sem] Oper.semAt_some
set_option linter.unusedVariables false

theorem cells_new6 (w : World) (t : GM) : ∀ j u, (gcells t)[j]? = some u → (w.alloc (.cells #[.int .i64 t.at_, .int .i64 t.s, .int .i64 t.m, .int .i64 t.o, .int .i64 t.h, .slice t.a t.n t.c] 42)).cell? ((⟨w.heap.size, 0, none⟩ : Addr).add j) = some u := fun j u h => by
  have := ((Blk.new w #[.int .i64 t.at_, .int .i64 t.s, .int .i64 t.m, .int .i64 t.o, .int .i64 t.h, .slice t.a t.n t.c] 42).2 j u h).1
  cases j with
  | zero => exact this
  | succ j => simpa [Addr.add] using this

theorem row_far {w : World} {base e size n b : Nat} {v : Value} {xs : List Value} (h : w.ownsRow base e size v n xs) (hb : b < base) : v.ownBlock ≠ some b := fun he => by have := (h.lt b he).1; omega

theorem blk_grown {w w' : World} {b : Nat} {cs : List Value} {row : Option Nat} (h : Blk w b cs) (hg : w.grownBy w' row) (hne : row ≠ some b) : Blk w' b cs := blk_block h (hg.block b h.1 (fun e => hne e.symm))

theorem row_set {w : World} {base e size n : Nat} {v : Value} {xs : List Value} (h : w.ownsRow base e size v n xs) {p : Addr} (hp : p.block < base) (u : Value) : (w.setCell p u).ownsRow base e size v n xs := by
  refine ⟨h.1, ?_⟩
  rcases h.2 with h0 | ⟨g, cap, cur, h1, h2, h3, h4⟩
  · exact .inl h0
  · exact .inr ⟨g, cap, cur, h1, h2, (Below.heap_setCell w p u g (by omega)).trans h3, h4⟩

theorem row_cells {w : World} {base e size n : Nat} {v : Value} {xs : List Value} (h : w.ownsRow base e size v n xs) (j : Nat) (o : Obj) (hj : v.ownBlock = some j) (ho : w.heap[j]? = some o) : o.isCells = true := by
  rcases h.2 with ⟨rfl, _⟩ | ⟨g, cap, cur, rfl, _, hg, _⟩
  · simp [Value.ownBlock] at hj
  · simp only [Value.ownBlock, Option.some.injEq] at hj
    subst hj
    rw [hg] at ho
    cases ho; rfl

set_option maxRecDepth 100000 in
set_option maxHeartbeats 800000 in
theorem implOI_fault (h ac bu : Int) (a : Option Addr) (n c : Nat) (f : Nat → Int) (k : Int) (w : World) (hs : Src w a n f) (hk : IsFault h n f ac bu k) (hk0 : ¬ k = 0) :
    Calls Try.prog 16 #[.agg #[.int .i64 h, .slice a n c, .int .i64 ac, .int .i64 bu]] w (RetORG w f k []) := by
  have HS := Lib.hid hs; have HK := Lib.hid hk
  clear hs hk
  go_enter Try.func16, Try.ntmps16
  go_wp2_with fail
  refine (implFault_any h ac bu a n c f k _ ((HS.out.alloc _).alloc _) HK.out).mono ?_
  rintro e w1 ⟨rfl, hb⟩
  have HB1 := Lib.hid (thru2 (Below.refl _ _) hb)
  have R_1 := Lib.hid ((Blk.new_at (w := w.alloc (.cells #[.int .i64 h, .slice a n c, .int .i64 ac, .int .i64 bu] 26)) (cs := #[.int .i64 0, .slice none 0 0]) (t := 37) (w.heap.size + 1) (by simp)).below hb)
  have z1 : w.heap.size + 2 ≤ w1.heap.size := by have := hb.size; simp at this; omega
  clear hb
  have hd : (k != 0) = true := by simpa using hk0
  have lR := R_1.out.1; have cR0 := R_1.out.at 0 rfl; have fR0 := R_1.out.free 0 rfl; have cR1 := R_1.out.at 1 rfl; have fR1 := R_1.out.free 1 rfl
  go_wp2
  refine bodyPost_ret (v := .agg #[.int .i64 k, .slice none 0 0]) (by simp [results, Try.results16, go_sem, cR0, cR1]) rfl ⟨none, 0, fun _ => gzero, rfl, .inl rfl, fun i hi => (by simp at hi), ?_, Nat.le_refl _, by simp [maxLen]⟩
  repeat (first | (with_reducible refine Below.setCell ?_ (by (try simp); (try omega)) _) | (with_reducible refine Below.alloc ?_ (by (try simp); (try omega)) _) | (with_reducible refine Below.drew ?_))
  exact HB1.out

set_option maxRecDepth 100000 in
set_option maxHeartbeats 3200000 in
theorem implOI_none (h ac bu : Int) (a : Option Addr) (n c : Nat) (f : Nat → Int) (co : Int) (L : List Ob) (w : World) (hs : Src w a n f) (hnc : n ≤ c) (hcm : c ≤ maxLen) (hk : IsFault h n f ac bu 0)
    (hc : (parse f ((baseI ac h).toNat + bu.toNat) (baseI ac h).toNat = none ∧ co = 1 ∧ L = []) ∨ (parse f ((baseI ac h).toNat + bu.toNat) (baseI ac h).toNat = some L ∧ co = 0)) :
    Calls Try.prog 16 #[.agg #[.int .i64 h, .slice a n c, .int .i64 ac, .int .i64 bu]] w (RetORG w f co L) := by
  obtain ⟨⟨⟨g1, g2⟩, ⟨g3, g4⟩, g5, g6⟩, gn, gw⟩ := isFault_ok hk
  have hb0 : 0 ≤ baseI ac h ∧ baseI ac h ≤ h ∧ baseI ac h + h ≤ 2 * h := by rcases (by omega : ac = 0 ∨ ac = 1) with rfl | rfl <;> simp [baseI] <;> omega
  obtain ⟨P, hP⟩ : ∃ P : Nat, baseI ac h = (P : Int) := ⟨(baseI ac h).toNat, by omega⟩
  obtain ⟨U, rfl⟩ : ∃ U : Nat, bu = (U : Int) := ⟨bu.toNat, by omega⟩
  rw [hP, Int.toNat_natCast, Int.toNat_natCast] at hc
  obtain ⟨ab, ao, rfl⟩ : ∃ ab ao, a = some ⟨ab, ao, none⟩ := by
    rcases hs with h0 | ⟨b, off, he, _⟩
    · omega
    · exact ⟨b, off, he⟩
  have hPU : P + U ≤ n := by omega
  have HS := Lib.hid hs; have HK := Lib.hid hk; have HC := Lib.hid hc; have HP := Lib.hid hP; have HCM := Lib.hid hcm
  have HG := Lib.hid (show 8 ≤ h ∧ h ≤ 200 ∧ 0 ≤ ac ∧ ac ≤ 1 ∧ (n : Int) = 2 * h from ⟨g1, g2, g3, g4, gn⟩)
  clear hs hk hc hP hcm gw hb0 g1 g2 g3 g4 g5 g6 gn
  obtain ⟨m, _⟩ : ∃ m : Nat, m = m := ⟨9, rfl⟩
  refine (callsIn_wide (n := m)).1 ?_
  refine callsIn_of_wp_marks Try.func16 rfl trivial ?_ rfl
  simp only [Try.ntmps16, List.size_toArray, List.length_cons, List.length_nil, Nat.reduceAdd, Nat.reduceSub, Array.replicate_succ, Array.replicate_zero, List.push_toArray, List.append_toArray, List.nil_append, List.cons_append]
  gi_wp2_with fail
  refine ⟨trivial, fun hx => (by simp [Fence.wide] at hx), (callsIn_wide.2 (implFault_any h ac (U : Int) (some ⟨ab, ao, none⟩) n c f 0 _ ((HS.out.alloc _).alloc _) HK.out)).mono ?_⟩
  rintro e w1 ⟨rfl, hb⟩
  have HB1 := Lib.hid (thru2 (Below.refl _ _) hb)
  have A_1 := Lib.hid (((Blk.new_at (w := w) (cs := #[.int .i64 h, .slice (some ⟨ab, ao, none⟩) n c, .int .i64 ac, .int .i64 (U : Int)]) (t := 26) (w.heap.size) rfl).alloc _).below hb)
  have R_1 := Lib.hid ((Blk.new_at (w := w.alloc (.cells #[.int .i64 h, .slice (some ⟨ab, ao, none⟩) n c, .int .i64 ac, .int .i64 (U : Int)] 26)) (cs := #[.int .i64 0, .slice none 0 0]) (t := 37) (w.heap.size + 1) (by simp)).below hb)
  have z1 : w.heap.size + 2 ≤ w1.heap.size := by have := hb.size; simp at this; omega
  clear hb
  have lA := A_1.out.1; have cA0 := A_1.out.at 0 rfl; have fA0 := A_1.out.free 0 rfl; have cA1 := A_1.out.at 1 rfl; have fA1 := A_1.out.free 1 rfl; have cA2 := A_1.out.at 2 rfl; have fA2 := A_1.out.free 2 rfl; have cA3 := A_1.out.at 3 rfl; have fA3 := A_1.out.free 3 rfl
  gi_wp2_with fail
  clear lA cA0 fA0 cA1 fA1 cA2 fA2 cA3 fA3
  refine ⟨trivial, fun hx => (by simp [Fence.wide] at hx), (callsIn_wide.2 (walk_any h ac (U : Int) (some ⟨ab, ao, none⟩) n c _)).mono ?_⟩
  rintro e w2 ⟨rfl, rfl⟩
  have HB0 : Hid (Below w.heap.size w ((w1.alloc (.cells #[.slice none 0 0] 35)).alloc (.cells #[.int .i64 h, .slice (some ⟨ab, ao, none⟩) n c, .int .i64 ac, .int .i64 (U : Int)] 26))) := Lib.hid ((HB1.out.alloc HB1.out.size _).alloc (by have := HB1.out.size; simp; omega) _)
  have T0 : Hid (Blk ((w1.alloc (.cells #[.slice none 0 0] 35)).alloc (.cells #[.int .i64 h, .slice (some ⟨ab, ao, none⟩) n c, .int .i64 ac, .int .i64 (U : Int)] 26)) w1.heap.size [.slice none 0 0]) := Lib.hid ((Blk.new_at (w := w1) (cs := #[.slice none 0 0]) (t := 35) w1.heap.size rfl).alloc _)
  have A0 : Hid (Blk ((w1.alloc (.cells #[.slice none 0 0] 35)).alloc (.cells #[.int .i64 h, .slice (some ⟨ab, ao, none⟩) n c, .int .i64 ac, .int .i64 (U : Int)] 26)) (w1.heap.size + 1) [.int .i64 h, .slice (some ⟨ab, ao, none⟩) n c, .int .i64 ac, .int .i64 (U : Int)]) := Lib.hid (Blk.new_at (w := w1.alloc (.cells #[.slice none 0 0] 35)) (cs := #[.int .i64 h, .slice (some ⟨ab, ao, none⟩) n c, .int .i64 ac, .int .i64 (U : Int)]) (t := 26) (w1.heap.size + 1) (by simp))
  have R0 : Hid (Blk ((w1.alloc (.cells #[.slice none 0 0] 35)).alloc (.cells #[.int .i64 h, .slice (some ⟨ab, ao, none⟩) n c, .int .i64 ac, .int .i64 (U : Int)] 26)) (w.heap.size + 1) [.int .i64 0, .slice none 0 0]) := Lib.hid ((R_1.out.alloc _).alloc _)
  have z0 : ((w1.alloc (.cells #[.slice none 0 0] 35)).alloc (.cells #[.int .i64 h, .slice (some ⟨ab, ao, none⟩) n c, .int .i64 ac, .int .i64 (U : Int)] 26)).heap.size = w1.heap.size + 2 := by simp
  gi_wp2
  generalize (w1.alloc (.cells #[.slice none 0 0] 35)).alloc (.cells #[.int .i64 h, .slice (some ⟨ab, ao, none⟩) n c, .int .i64 ac, .int .i64 (U : Int)] 26) = W0 at *
  have z0' : w.heap.size + 4 ≤ W0.heap.size := by omega
  have hn0 : w.heap.size ≤ W0.heap.size := by omega
  have hA1 : w1.heap.size + 1 < W0.heap.size := by omega
  have HZ0 := Lib.hid z0
  clear HB1 R_1 A_1 z0
  obtain ⟨i0, hi, hi0, hi1, hi2⟩ := info_parts Try.info42
  refine range_objs (gf := 109) (lb := #[.pointer (some ⟨w1.heap.size + 1, 0, none⟩)]) rfl (enters_of Try.func109 (by kernel_rfl) rfl)
    (fun xs => ∃ L', parse f (P + U) P = some L' ∧ Match f xs L') (parse f (P + U) P = none)
    (fun pre V => Below w.heap.size w V ∧ Blk V (w.heap.size + 1) [.int .i64 0, .slice none 0 0] ∧ ∃ va vc, Blk V w1.heap.size [.slice va pre.length vc] ∧ V.ownsRow W0.heap.size 42 6 (.slice va pre.length vc) pre.length (rowG pre) ∧ FldG V W0.heap.size (.slice va pre.length vc) pre)
    (fun V => Below w.heap.size w V ∧ Blk V (w.heap.size + 1) [.int .i64 1, .slice none 0 0])
    w.heap.size (w1.heap.size + 1) hn0 hA1 ?stable ?stablex ?start ?iter
    (fun v B => { tmps := #[.agg #[.int .i64 h, .slice (some ⟨ab, ao, none⟩) n c, .int .i64 ac, .int .i64 (U : Int)], .pointer (some ⟨w.heap.size, 0, none⟩), .pointer (some ⟨w.heap.size + 1, 0, none⟩), .int .i64 0, .pointer (some ⟨w1.heap.size, 0, none⟩), .pointer (some ⟨B, 0, none⟩), .agg #[.int .i64 h, .slice (some ⟨ab, ao, none⟩) n c, .int .i64 ac, .int .i64 (U : Int)], .int .i64 0, .int .i64 0, .bool false, undef, undef, .agg #[.int .i64 h, .slice (some ⟨ab, ao, none⟩) n c, .int .i64 ac, .int .i64 (U : Int)], .func (.func 109) #[] #[.pointer (some ⟨w1.heap.size + 1, 0, none⟩)], v, undef, undef, undef, undef, undef, undef, undef, undef, undef, undef, undef, undef, undef], defers := [] })
    ?assign ?go ?no ?done ?stop
  case stable =>
    rintro s V V' ⟨h1, h2, va, vc, h3, h4, h5⟩ hT
    exact ⟨h1.trans (hT.below hn0 h1.size), hT.blk h2 (by simp), va, vc, hT.blk h3 (by simp), hT.row h4, hT.fld h5⟩
  case stablex =>
    rintro V V' ⟨h1, h2⟩ hT
    exact ⟨h1.trans (hT.below hn0 h1.size), hT.blk h2 (by simp)⟩
  case start => exact ⟨HB0.out, R0.out, none, 0, T0.out, World.ownsRow_nil _ _ _ _, ⟨fun t ht => (by cases ht), List.Pairwise.nil⟩⟩
  case iter =>
    intro l J Jx W1 hb hJ hgo hno hJ0
    obtain ⟨g1, g2, g3, g4, gn⟩ := HG.out
    refine (iter_in (m - 1) l (w1.heap.size + 1) h ac ab ao n c P U f w W1 J Jx hJ hgo hno HS.out (HB0.out.trans (hb.mono hn0)) (A0.out.below hb) g1 g2 g3 g4 HP.out gn hPU hnc HCM.out hJ0).mono ?_
    rintro e V' ⟨hv, ⟨L', xs, h1, h2, h3⟩ | h1⟩
    · exact ⟨hv, .inl ⟨xs, ⟨L', h1, h2⟩, h3⟩⟩
    · exact ⟨hv, .inr h1⟩
  case assign =>
    intro l c0 c1 c2 c3 c4 c5 sa sn sc V1 K hK
    gi_wp2
    exact hK
  case go =>
    rintro l pre t V0 V1 V2 ⟨hB, hR, va, vc, hT, how, hfl⟩ hlen hTn hz hz2 hz0 hX ho
    have T2 := Lib.hid (hTn.blk hT (by simp)); have X2 := Lib.hid hX; have R2 := Lib.hid (hTn.blk hR (by simp)); have OW2 := Lib.hid (hTn.row how); have HFL := Lib.hid hfl; have HTN := Lib.hid hTn; have HO := Lib.hid ho; have HOW := Lib.hid how
    have HB2 := Lib.hid (hB.trans (hTn.below hn0 hB.size))
    have HZ2 := Lib.hid hz2
    have hV02 : V0.heap.size ≤ V2.heap.size := by omega
    clear hT hX hR how hfl hTn ho hB hz2
    have hnew := cells_new6 V2 t
    have lT := T2.out.1; have cT0 := T2.out.at 0 rfl; have fT0 := T2.out.free 0 rfl
    have lX := X2.out.1; have cX0 := X2.out.at 0 rfl; have fX0 := X2.out.free 0 rfl; have cX1 := X2.out.at 1 rfl; have fX1 := X2.out.free 1 rfl; have cX2 := X2.out.at 2 rfl; have fX2 := X2.out.free 2 rfl; have cX3 := X2.out.at 3 rfl; have fX3 := X2.out.free 3 rfl; have cX4 := X2.out.at 4 rfl; have fX4 := X2.out.free 4 rfl; have cX5 := X2.out.at 5 rfl; have fX5 := X2.out.free 5 rfl; have cX6 := X2.out.at 6 rfl; have fX6 := X2.out.free 6 rfl
    gi_wp2_with (gi_at_builtin; go_loud (refine wpListIn_append_own_at _ rfl _ _ 35 rfl W0.heap.size 42 i0 _ 6 64 Try.underlying35 hi hi0 hi1 hi2 rfl (by decide) _ pre.length _ rfl (OW2.out.alloc _) ⟨V2.heap.size, 0, none⟩ 1 1 (gcells t) rfl rfl hnew (by intro u hu; simp [gcells] at hu; rcases hu with rfl | rfl | rfl | rfl | rfl | rfl <;> rfl) (by unfold maxLen; omega) (by omega) (by simp; omega) ?_); intro v' w4 hown hgrow _ hat; obtain ⟨g', cap', rfl⟩ := ownsRow_succ hown; have T3 := Lib.hid (blk_grown (T2.out.alloc _) hgrow (row_far OW2.out (by omega))); clear lT cT0 fT0; have lT := T3.out.1; have cT0 := T3.out.at 0 rfl; have fT0 := T3.out.free 0 rfl)
    clear lT cT0 fT0 lX cX0 cX1 cX2 cX3 cX4 cX5 cX6 fX0 fX1 fX2 fX3 fX4 fX5 fX6
    have z := HZ0.out
    have hsv : some (⟨g', 0, none⟩ : Addr) = some ⟨g', 0, none⟩ := rfl
    have hfar : ∀ b, b < W0.heap.size → some b ≠ (Value.slice va pre.length vc).ownBlock := fun b hb e => row_far OW2.out hb e.symm
    have hBn : ∀ n1, n1 ≤ w1.heap.size → Below n1 V2 (w4.setCell ⟨w1.heap.size, 0, none⟩ (.slice (some ⟨g', 0, none⟩) (pre.length + 1) cap')) := fun n1 h1 =>
      (((Below.refl n1 V2).alloc (by omega) _).grown hgrow (by simp; omega) (fun k e => by have := (OW2.out.lt k e).1; omega)).setCell h1 _
    refine ⟨(KeepsOthers.alloc V2 _).trans ((KeepsOthers.of_grownBy hgrow (row_cells (OW2.out.alloc _))).trans (KeepsOthers.setCell _ _ _)), ⟨HB2.out.trans (hBn _ (by omega)), (blk_grown (R2.out.alloc _) hgrow (row_far OW2.out (by omega))).other (by simp; omega) _, some ⟨g', 0, none⟩, cap', T3.out.set 0 (by simp) _, row_set (by rw [rowG_snoc]; exact hown) (by show w1.heap.size < W0.heap.size; omega) _, ?_⟩, hBn _ (by omega), ?_, fun b hb1 hb2 => ?_⟩
    · exact (FldG.snoc t HFL.out (by simp; omega) (fun b o hb hc => (Below.heap_alloc _ _ _ (Array.getElem?_eq_some_iff.1 (HTN.out.same b o hb (.inr hc))).1).trans (HTN.out.same b o hb (.inr hc))) hgrow hat hz0 (fun k e => (HOW.out.lt k e).2) (HO.out.alloc _)).block (by simp) (fun b h1 _ _ => Below.heap_setCell _ _ _ b (by show b ≠ w1.heap.size; omega))
    · exact (Below.heap_setCell _ _ _ _ (by show w1.heap.size + 1 ≠ w1.heap.size; omega)).trans ((hgrow.block _ (by simp; omega) (hfar _ hA1)).trans (Below.heap_alloc _ _ _ (by omega)))
    · exact (Below.heap_setCell _ _ _ _ (by show b ≠ w1.heap.size; omega)).trans ((hgrow.block _ (by simp; omega) (fun e => by have := (HOW.out.lt b e.symm).2; omega)).trans (Below.heap_alloc _ _ _ hb2))
  case no =>
    rintro l pre V0 V1 V2 ⟨hB, hR, va, vc, hT, how, hfl⟩ hTn hz hz2 hz0 hX
    have X2 := Lib.hid hX; have R2 := Lib.hid (hTn.blk hR (by simp))
    have HB2 := Lib.hid (hB.trans (hTn.below hn0 hB.size))
    clear hT hX hR how hfl hTn hB
    have lX := X2.out.1; have cX0 := X2.out.at 0 rfl; have fX0 := X2.out.free 0 rfl; have cX1 := X2.out.at 1 rfl; have fX1 := X2.out.free 1 rfl; have cX2 := X2.out.at 2 rfl; have fX2 := X2.out.free 2 rfl; have cX3 := X2.out.at 3 rfl; have fX3 := X2.out.free 3 rfl; have cX4 := X2.out.at 4 rfl; have fX4 := X2.out.free 4 rfl; have cX5 := X2.out.at 5 rfl; have fX5 := X2.out.free 5 rfl; have cX6 := X2.out.at 6 rfl; have fX6 := X2.out.free 6 rfl
    have lR := R2.out.1; have cR0 := R2.out.at 0 rfl; have fR0 := R2.out.free 0 rfl; have cR1 := R2.out.at 1 rfl; have fR1 := R2.out.free 1 rfl
    gi_wp2
    exact ⟨(KeepsOthers.setCell _ _ _).trans (KeepsOthers.setCell _ _ _), HB2.out.trans (((Below.refl _ V2).setCell (by show w.heap.size ≤ w.heap.size + 1; omega) _).setCell (by show w.heap.size ≤ w.heap.size + 1; omega) _), (R2.out.set 0 (by simp) _).set 1 (by simp) _⟩
  case done =>
    rintro D xs V hD ⟨L', h1, h2⟩ ⟨hB, hR, va, vc, hT, how, hfl⟩ hK
    have T2 := Lib.hid hT; have R2 := Lib.hid hR
    have lT := T2.out.1; have cT0 := T2.out.at 0 rfl; have fT0 := T2.out.free 0 rfl
    have lR := R2.out.1; have cR0 := R2.out.at 0 rfl; have fR0 := R2.out.free 0 rfl; have cR1 := R2.out.at 1 rfl; have fR1 := R2.out.free 1 rfl
    gi_wp2
    clear lT cT0 fT0 lR cR0 cR1 fR0 fR1
    have hRD : (⟨w.heap.size + 1, 0, none⟩ : Addr).block < W0.heap.size := by show w.heap.size + 1 < W0.heap.size; omega
    have hK' := ((KeepsOthers.setCell V ⟨w.heap.size + 1, 0, none⟩ (.int .i64 0)).trans (KeepsOthers.setCell _ ⟨w.heap.size + 1, 1, none⟩ (.slice va xs.length vc))).same D _ hK rfl
    have hBV := ((Below.refl w.heap.size V).setCell (p := ⟨w.heap.size + 1, 0, none⟩) (by show w.heap.size ≤ w.heap.size + 1; omega) (.int .i64 0)).setCell (p := ⟨w.heap.size + 1, 1, none⟩) (by show w.heap.size ≤ w.heap.size + 1; omega) (.slice va xs.length vc)
    have hRV : Blk ((V.setCell ⟨w.heap.size + 1, 0, none⟩ (.int .i64 0)).setCell ⟨w.heap.size + 1, 1, none⟩ (.slice va xs.length vc)) (w.heap.size + 1) [.int .i64 0, .slice va xs.length vc] := (R2.out.set 0 (by simp) _).set 1 (by simp) _
    have hOV := row_set (row_set how hRD (.int .i64 0)) (p := ⟨w.heap.size + 1, 1, none⟩) hRD (.slice va xs.length vc)
    have hFV : FldG ((V.setCell ⟨w.heap.size + 1, 0, none⟩ (.int .i64 0)).setCell ⟨w.heap.size + 1, 1, none⟩ (.slice va xs.length vc)) W0.heap.size (.slice va xs.length vc) xs := hfl.block (by simp) (fun b hb _ _ => (Below.heap_setCell _ _ _ b (by show b ≠ w.heap.size + 1; omega)).trans (Below.heap_setCell _ _ _ b (by show b ≠ w.heap.size + 1; omega)))
    have hzV : V.heap.size ≤ ((V.setCell ⟨w.heap.size + 1, 0, none⟩ (.int .i64 0)).setCell ⟨w.heap.size + 1, 1, none⟩ (.slice va xs.length vc)).heap.size := by simp
    generalize (V.setCell ⟨w.heap.size + 1, 0, none⟩ (.int .i64 0)).setCell ⟨w.heap.size + 1, 1, none⟩ (.slice va xs.length vc) = Vf at *
    have hTF : Turn W0.heap.size Vf (Vf.putObj D (.deferred none)) := Turn.put _ hD hK' rfl
    have hRW := hTF.blk hRV (by simp)
    obtain ⟨rfl, rfl⟩ : co = 0 ∧ L = L' := by
      rcases HC.out with ⟨hx, _⟩ | ⟨hx, hy⟩
      · rw [hx] at h1; cases h1
      · rw [hx] at h1; cases h1; exact ⟨hy, rfl⟩
    obtain ⟨a', c', he, hg⟩ := rowG_GVO (hTF.row hOV) (hTF.fld hFV) (Nat.le_refl _)
    simp only [Value.slice.injEq] at he
    obtain ⟨rfl, _, rfl⟩ := he
    obtain ⟨hc1, hc2⟩ := row_cap (hTF.row hOV)
    have hBF := (hB.trans hBV).trans (hTF.below hn0 (by have := hB.size; omega))
    have c0 := hRW.at 0 rfl
    have c1 := hRW.at 1 rfl
    refine ⟨by simp, .inl ⟨_, _, rfl, run_takeDeferred hK', ?_⟩⟩
    refine ⟨.agg #[.int .i64 0, .slice va xs.length vc], by simp [results, Try.results16, go_sem, c0, c1], ?_⟩
    rw [h2.1] at hg hc1 ⊢
    exact ⟨va, vc, gT xs, rfl, gvo_mono hg hn0, match_same h2, hBF, hc1, hc2⟩
  case stop =>
    rintro D V hD hN ⟨hB, hR⟩ hK
    gi_wp2
    have hTF : Turn W0.heap.size V (V.putObj D (.deferred none)) := Turn.put _ hD hK rfl
    have hRW := hTF.blk hR (by simp)
    obtain ⟨rfl, rfl⟩ : co = 1 ∧ L = [] := by
      rcases HC.out with ⟨_, hx⟩ | ⟨hx, _⟩
      · exact hx
      · rw [hx] at hN; cases hN
    have hBF := hB.trans (hTF.below hn0 hB.size)
    have c0 := hRW.at 0 rfl
    have c1 := hRW.at 1 rfl
    refine ⟨by simp, .inl ⟨_, _, rfl, run_takeDeferred hK, ?_⟩⟩
    refine ⟨.agg #[.int .i64 1, .slice none 0 0], by simp [results, Try.results16, go_sem, c0, c1], ?_⟩
    exact ⟨none, 0, fun _ => gzero, rfl, .inl rfl, fun i hi => (by simp at hi), hBF, Nat.le_refl _, by simp [maxLen]⟩

theorem implOI : ImplOI := fun h ac bu a n c f co L w hs hnc hcm hk => by
  rcases hk with ⟨k, h1, h2, rfl, rfl⟩ | ⟨h1, h2, h3, h4⟩ | ⟨h1, h2, h3⟩
  · exact implOI_fault h ac bu a n c f _ w hs h1 h2
  · exact implOI_none h ac bu a n c f co L w hs hnc hcm h1 (.inl ⟨h2, h3, h4⟩)
  · exact implOI_none h ac bu a n c f co L w hs hnc hcm h1 (.inr ⟨h2, h3⟩)
end Go.Proofs.Ytlelgfkebcnepaa

namespace Go.Proofs.Ytlelgfkebcnepaa
open Go.RowKit
set_option linter.unusedVariables false

theorem parse_sorted {f : Nat → Int} {e : Nat} : ∀ (d a : Nat) (L : List Ob), e - a ≤ d → parse f e a = some L → L.Pairwise (fun x y => x.at_ < y.at_)
  | d, a, L, hd, hp => by
    by_cases h : a < e
    · by_cases hg : Good f e a
      · rw [parse_good h hg] at hp
        cases hr : parse f e (a + 2 + szOf f a) with
        | none => rw [hr] at hp; cases hp
        | some L' =>
          rw [hr] at hp
          simp only [Option.map_some, Option.some.injEq] at hp
          subst hp
          match d with
          | 0 => omega
          | d + 1 =>
            refine List.pairwise_cons.mpr ⟨fun y hy => ?_, parse_sorted d _ L' (by omega) hr⟩
            have := parse_from (e - (a + 2 + szOf f a)) _ L' (Nat.le_refl _) hr y hy
            show (a : Int) < y.at_
            omega
      · rw [parse_bad h hg] at hp; cases hp
    · rw [parse_stop h] at hp
      cases hp
      exact List.Pairwise.nil

theorem sorted_at {f : Nat → Int} {e a : Nat} {L : List Ob} (hp : parse f e a = some L) (i j : Nat) (hij : i < j) (hj : j < L.length) : (obT f L i).at_ < (obT f L j).at_ := by
  have h := List.pairwise_iff_getElem.mp (parse_sorted (e - a) a L (Nat.le_refl _) hp) i j (by omega) hj hij
  simpa [obT, List.getElem?_eq_getElem hj, List.getElem?_eq_getElem (show i < L.length by omega), xT, obG] using h

theorem sorted_T {f : Nat → Int} {e a : Nat} {L : List Ob} {T : Nat → GM} (hp : parse f e a = some L) (hT : ∀ i, i < L.length → GSame (T i) (obT f L i)) (i j : Nat) (hij : i < j) (hj : j < L.length) : (T i).at_ < (T j).at_ := by
  rw [(hT i (by omega)).1, (hT j hj).1]; exact sorted_at hp i j hij hj

theorem obT_get (f : Nat → Int) {L : List Ob} {i : Nat} (hi : i < L.length) : obT f L i = obG f L[i] := by simp [obT, List.getElem?_eq_getElem hi, xT]

theorem heads_T {f : Nat → Int} {n e a : Nat} {L : List Ob} {T : Nat → GM} (hp : parse f e a = some L) (he : e ≤ n) (hw : ∀ i, i < n → Word (f i)) (hT : ∀ i, i < L.length → GSame (T i) (obT f L i)) : Heads L.length T := fun i hi => by
  obtain ⟨h1, h2, h3, h4, h5, h6, h7⟩ := hT i hi
  rw [obT_get f hi] at h1 h2 h3 h4 h5 h6 h7
  obtain ⟨a', hx, hg⟩ := parse_all (e - a) a L (Nat.le_refl _) hp L[i] (List.getElem_mem hi)
  obtain ⟨o1, _, _, _, o5⟩ := parse_ok hp he hw L[i] (List.getElem_mem hi)
  refine ⟨?_, ?_, fun k hk => ?_⟩
  · rw [h2, h3, h4, h5]
    show HOk L[i].s L[i].m L[i].o L[i].h
    rw [hx]; exact hg.2.1.2
  · rw [h6, h2]; rfl
  · rw [h7 k hk]
    rw [h6] at hk
    exact o5 k hk

theorem findO_at {f : Nat → Int} {e a : Nat} {L : List Ob} (hp : parse f e a = some L) {i : Nat} (hi : i < L.length) : findO L L[i].at_ = some L[i] := by
  have hs := List.pairwise_iff_getElem.mp (parse_sorted (e - a) a L (Nat.le_refl _) hp)
  cases hf : findO L L[i].at_ with
  | none =>
    have := List.find?_eq_none.mp hf L[i] (List.getElem_mem hi)
    simp at this
  | some x =>
    have h1 := List.find?_some hf
    have h2 := List.mem_of_find?_eq_some hf
    obtain ⟨j, hj, rfl⟩ := List.getElem_of_mem h2
    have h3 : L[j].at_ = L[i].at_ := by simpa using h1
    rcases Nat.lt_trichotomy i j with h | h | h
    · have := hs i j hi hj h; omega
    · subst h; rfl
    · have := hs j i hj hi h; omega

theorem findO_none {L : List Ob} {x : Int} (h : ∀ i (hi : i < L.length), ¬ L[i].at_ = x) : findO L x = none := by
  refine List.find?_eq_none.mpr fun y hy => ?_
  obtain ⟨j, hj, rfl⟩ := List.getElem_of_mem hy
  simpa using h j hj

theorem may_leads {f : Nat → Int} {e a : Nat} {L : List Ob} {T : Nat → GM} (hp : parse f e a = some L) (hT : ∀ i, i < L.length → GSame (T i) (obT f L i)) (o v : Int) : MayG L.length T o v ↔ leadsB L o v = true := by
  unfold MayG leadsB
  by_cases h0 : v = 0
  · simp [h0]
  · rw [if_neg h0]
    constructor
    · rintro (h | ⟨i, hi, h1, h2⟩)
      · exact absurd h h0
      · obtain ⟨a1, _, _, a4, _⟩ := hT i hi
        rw [obT_get f hi] at a1 a4
        have e1 : L[i].at_ = v - 1 := by rw [← h1, a1]; rfl
        rw [← e1, findO_at hp hi]
        have : L[i].o = o := by rw [← h2, a4]; rfl
        simpa using this
    · intro h
      cases hf : findO L (v - 1) with
      | none => rw [hf] at h; cases h
      | some x =>
        rw [hf] at h
        have h1 := List.find?_some hf
        obtain ⟨j, hj, rfl⟩ := List.getElem_of_mem (List.mem_of_find?_eq_some hf)
        obtain ⟨a1, _, _, a4, _⟩ := hT j hj
        rw [obT_get f hj] at a1 a4
        refine .inr ⟨j, hj, ?_, ?_⟩
        · rw [a1]; show L[j].at_ = v - 1; simpa using h1
        · rw [a4]; show L[j].o = o; simpa using h

theorem ptg_points {f : Nat → Int} {e a : Nat} {L : List Ob} {T : Nat → GM} (hp : parse f e a = some L) (hT : ∀ i, i < L.length → GSame (T i) (obT f L i)) (hsz : ∀ y ∈ L, 0 ≤ y.s ∧ y.s ≤ 12) : PtG L.length T ↔ Points f L := by
  constructor
  · intro h x hx k hk hb
    obtain ⟨i, hi, rfl⟩ := List.getElem_of_mem hx
    obtain ⟨a1, a2, a3, a4, a5, a6, a7⟩ := hT i hi
    rw [obT_get f hi] at a1 a2 a3 a4 a5 a6 a7
    have hz := hsz L[i] hx
    have hkn : k < (T i).n := by rw [a6]; show k < L[i].s.toNat; omega
    have := (may_leads hp hT _ _).1 (h i hi k hkn (by rw [a3]; exact hb))
    rw [a4, a7 k hkn] at this
    exact this
  · intro h i hi k hk hb
    obtain ⟨a1, a2, a3, a4, a5, a6, a7⟩ := hT i hi
    rw [obT_get f hi] at a1 a2 a3 a4 a5 a6 a7
    refine (may_leads hp hT _ _).2 ?_
    rw [a4, a7 k hk]
    rw [a6] at hk
    have hk' : k < L[i].s.toNat := hk
    exact h L[i] (List.getElem_mem hi) k (by omega) (by rw [a3] at hb; exact hb)
end Go.Proofs.Ytlelgfkebcnepaa

namespace Go.Proofs.Ytlelgfkebcnepaa
open Go.RowKit
set_option linter.unusedVariables false

theorem gvo_set {w : World} {lo hi N : Nat} {a : Option Addr} {T : Nat → GM} (h : GVO w lo hi a N T) {p : Addr} (hp : p.block < lo) (u : Value) : GVO (w.setCell p u) lo hi a N T :=
  h.keeps (keeps_setCell (p := p) (Nat.le_refl _) (Nat.lt_succ_self _) u) (.inr (by omega))

theorem gvo_wide {w : World} {lo hi lo' hi' N : Nat} {a : Option Addr} {T : Nat → GM} (h : GVO w lo hi a N T) (h1 : lo' ≤ lo) (h2 : hi ≤ hi') : GVO w lo' hi' a N T := by
  rcases h with h0 | ⟨b, q, e, h⟩
  · exact .inl h0
  · exact .inr ⟨b, q, e, Nat.le_trans h1 h.glo, Nat.lt_of_lt_of_le h.ghi h2, h.lt, h.six, h.free, fun i hi => (h.flds i hi).widen h1 h2, h.off, h.apart⟩

theorem isOI_empty {h : Int} {n : Nat} {f : Nat → Int} {ac bu co : Int} {L : List Ob} (ho : IsOI h n f ac bu co L) (h0 : ¬ co = 0) : IsOI h n f ac bu co [] := by
  rcases ho with ⟨k, h1, h2, h3, _⟩ | ⟨h1, h2, h3, _⟩ | ⟨_, _, h3⟩
  · exact .inl ⟨k, h1, h2, h3, rfl⟩
  · exact .inr (.inl ⟨h1, h2, h3, rfl⟩)
  · exact absurd h3 h0

/-- What the objects of an arena that is right are, and the code of one that is not. -/
def IsSO (h : Int) (n : Nat) (f : Nat → Int) (ac bu k : Int) (L : List Ob) : Prop := (IsSF h n f ac bu k ∧ ¬ k = 0 ∧ L = []) ∨ (k = 0 ∧ IsSF h n f ac bu 0 ∧ IsOI h n f ac bu 0 L)

theorem isSO_some {h : Int} {n : Nat} {f : Nat → Int} {ac bu k : Int} (hk : IsSF h n f ac bu k) : ∃ L, IsSO h n f ac bu k L := by
  by_cases h0 : k = 0
  · subst h0
    obtain ⟨L, hL⟩ := isSF_zero hk
    exact ⟨L, .inr ⟨rfl, hk, hL⟩⟩
  · exact ⟨[], .inl ⟨hk, h0, rfl⟩⟩

set_option maxRecDepth 100000 in
set_option maxHeartbeats 1600000 in
theorem shaped_fault (h ac bu : Int) (a : Option Addr) (n c : Nat) (f : Nat → Int) (w : World) (hs : Src w a n f) (hnc : n ≤ c) (hcm : c ≤ maxLen) (k : Int) (ho : IsOI h n f ac bu k []) (hk0 : ¬ k = 0) : Calls Try.prog 62 #[.agg #[.int .i64 h, .slice a n c, .int .i64 ac, .int .i64 bu]] w (RetORG w f k []) := by
  have HS := Lib.hid hs; have HCM := Lib.hid hcm; have HO := Lib.hid ho
  clear hs hcm ho
  go_enter Try.func62, Try.ntmps62
  go_wp2_with fail
  refine (implOI h ac bu a n c f k [] _ ((HS.out.alloc _).alloc _) hnc HCM.out HO.out).mono ?_
  rintro e w1 ⟨a1, c1, T, rfl, hg, hs1, hb, hc1, hc2⟩
  have HB1 := Lib.hid (thru2 (Below.refl _ _) hb)
  have A_1 := Lib.hid (((Blk.new_at (w := w) (cs := #[.int .i64 h, .slice a n c, .int .i64 ac, .int .i64 bu]) (t := 26) (w.heap.size) rfl).alloc _).below hb)
  have R_1 := Lib.hid ((Blk.new_at (w := w.alloc (.cells #[.int .i64 h, .slice a n c, .int .i64 ac, .int .i64 bu] 26)) (cs := #[.int .i64 0, .slice none 0 0]) (t := 37) (w.heap.size + 1) (by simp)).below hb)
  have S_1 := Lib.hid (((HS.out.alloc _).alloc _).below hb)
  have z1 : w.heap.size + 2 ≤ w1.heap.size := by have := hb.size; simp at this; omega
  have HG := Lib.hid (gvo_mono hg (show w.heap.size + 2 ≤ _ by simp))
  have HT := Lib.hid hs1
  have HC1 := Lib.hid (And.intro hc1 hc2)
  clear hb hg hs1 hc1 hc2
  have hd : (k != 0) = true := by simpa using hk0
  have HBL := HB1
  have lR := R_1.out.1; have cR0 := R_1.out.at 0 rfl; have fR0 := R_1.out.free 0 rfl; have cR1 := R_1.out.at 1 rfl; have fR1 := R_1.out.free 1 rfl
  go_wp2
  refine bodyPost_ret (v := .agg #[.int .i64 k, .slice a1 ([] : List Ob).length c1]) (by simp [results, Try.results62, go_sem, lR, cR0, cR1]) rfl ⟨a1, c1, T, rfl, ?_, HT.out, ?_, HC1.out.1, HC1.out.2⟩
  · refine gvo_wide (lo := w.heap.size + 2) (hi := w1.heap.size) ?_ (by omega) (by (try simp); (try omega))
    repeat (first | (with_reducible refine gvo_set ?_ (by (try simp); (try omega)) _) | (with_reducible refine GVO.alloc ?_ _))
    exact HG.out
  · repeat (first | (with_reducible refine Below.setCell ?_ (by (try simp); (try omega)) _) | (with_reducible refine Below.alloc ?_ (by (try simp); (try omega)) _) | (with_reducible refine Below.drew ?_))
    exact HBL.out

set_option maxRecDepth 100000 in
set_option maxHeartbeats 1600000 in
theorem shaped_stray (h ac bu : Int) (a : Option Addr) (n c : Nat) (f : Nat → Int) (w : World) (hs : Src w a n f) (hnc : n ≤ c) (hcm : c ≤ maxLen) (L : List Ob) (ho : IsOI h n f ac bu 0 L) (hp : ¬ Points f L) : Calls Try.prog 62 #[.agg #[.int .i64 h, .slice a n c, .int .i64 ac, .int .i64 bu]] w (RetORG w f 8 []) := by
  have hpz := (isOI_zero ho).2
  have hLs := parse_sizes _ _ L (Nat.le_refl _) hpz
  obtain ⟨⟨⟨q1, q2⟩, ⟨q3, q4⟩, q5, q6⟩, qn, qw⟩ := isFault_ok (isOI_zero ho).1
  have hPUn : (baseI ac h).toNat + bu.toNat ≤ n := by rcases (by omega : ac = 0 ∨ ac = 1) with rfl | rfl <;> simp [baseI] <;> omega
  have HSRT := Lib.hid (fun (T : Nat → GM) (hT : ∀ i, i < L.length → GSame (T i) (obT f L i)) => sorted_T hpz hT)
  have HHDS := Lib.hid (fun (T : Nat → GM) (hT : ∀ i, i < L.length → GSame (T i) (obT f L i)) => heads_T hpz hPUn qw hT)
  have HPTP := Lib.hid (fun (T : Nat → GM) (hT : ∀ i, i < L.length → GSame (T i) (obT f L i)) => ptg_points hpz hT hLs)
  have hL4 : L.length ≤ 1048576 := by have := parse_length _ _ L (Nat.le_refl _) hpz; omega
  have HKF := Lib.hid (isOI_zero ho).1
  have HO := Lib.hid ho
  clear hpz hLs q1 q2 q3 q4 q5 q6 qn qw hPUn ho
  have HS := Lib.hid hs; have HCM := Lib.hid hcm; have HNP := Lib.hid hp
  clear hs hcm hp
  go_enter Try.func62, Try.ntmps62
  go_wp2_with fail
  refine (implOI h ac bu a n c f 0 L _ ((HS.out.alloc _).alloc _) hnc HCM.out HO.out).mono ?_
  rintro e w1 ⟨a1, c1, T, rfl, hg, hs1, hb, hc1, hc2⟩
  have HB1 := Lib.hid (thru2 (Below.refl _ _) hb)
  have A_1 := Lib.hid (((Blk.new_at (w := w) (cs := #[.int .i64 h, .slice a n c, .int .i64 ac, .int .i64 bu]) (t := 26) (w.heap.size) rfl).alloc _).below hb)
  have R_1 := Lib.hid ((Blk.new_at (w := w.alloc (.cells #[.int .i64 h, .slice a n c, .int .i64 ac, .int .i64 bu] 26)) (cs := #[.int .i64 0, .slice none 0 0]) (t := 37) (w.heap.size + 1) (by simp)).below hb)
  have S_1 := Lib.hid (((HS.out.alloc _).alloc _).below hb)
  have z1 : w.heap.size + 2 ≤ w1.heap.size := by have := hb.size; simp at this; omega
  have HG := Lib.hid (gvo_mono hg (show w.heap.size + 2 ≤ _ by simp))
  have HT := Lib.hid hs1
  have HC1 := Lib.hid (And.intro hc1 hc2)
  clear hb hg hs1 hc1 hc2
  go_wp2_with fail
  refine (stray_any a1 L.length c1 T true _ (HG.out.src.alloc _) hL4 (HSRT.out T HT.out) (HHDS.out T HT.out) ⟨fun _ hq => HNP.out ((HPTP.out T HT.out).1 hq), fun _ => rfl⟩).mono ?_
  rintro e w2 ⟨rfl, hb⟩
  have HB2 := Lib.hid (thru1 HB1.out hb)
  have X_2 := Lib.hid ((Blk.new_at (w := w1) (cs := #[.int .i64 0, .slice a1 L.length c1]) (t := 37) (w1.heap.size) rfl).below hb)
  have R_2 := Lib.hid ((R_1.out.alloc _).below hb)
  have A_2 := Lib.hid ((A_1.out.alloc _).below hb)
  have S_2 := Lib.hid ((S_1.out.alloc _).below hb)
  have G_2 := Lib.hid ((HG.out.alloc (.cells #[.int .i64 0, .slice a1 L.length c1] 37)).below hb)
  have z2 : w1.heap.size + 1 ≤ w2.heap.size := by have := hb.size; simp at this; omega
  clear hb HB1 R_1 A_1 S_1 HG
  have HBL := HB2
  have lR := R_2.out.1; have cR0 := R_2.out.at 0 rfl; have fR0 := R_2.out.free 0 rfl; have cR1 := R_2.out.at 1 rfl; have fR1 := R_2.out.free 1 rfl
  go_wp2
  refine bodyPost_ret (v := .agg #[.int .i64 8, .slice none 0 0]) (by simp [results, Try.results62, go_sem, cR0, cR1]) rfl ⟨none, 0, fun _ => gzero, rfl, .inl rfl, fun i hi => (by simp at hi), ?_, Nat.le_refl _, by simp [maxLen]⟩
  repeat (first | (with_reducible refine Below.setCell ?_ (by (try simp); (try omega)) _) | (with_reducible refine Below.alloc ?_ (by (try simp); (try omega)) _) | (with_reducible refine Below.drew ?_))
  exact HBL.out

set_option maxRecDepth 100000 in
set_option maxHeartbeats 1600000 in
theorem shaped_word (h ac bu : Int) (a : Option Addr) (n c : Nat) (f : Nat → Int) (w : World) (hs : Src w a n f) (hnc : n ≤ c) (hcm : c ≤ maxLen) (L : List Ob) (ho : IsOI h n f ac bu 0 L) (hp : Points f L) (hr : ¬ Rest f n (baseI ac h).toNat bu.toNat) : Calls Try.prog 62 #[.agg #[.int .i64 h, .slice a n c, .int .i64 ac, .int .i64 bu]] w (RetORG w f 8 []) := by
  have hpz := (isOI_zero ho).2
  have hLs := parse_sizes _ _ L (Nat.le_refl _) hpz
  obtain ⟨⟨⟨q1, q2⟩, ⟨q3, q4⟩, q5, q6⟩, qn, qw⟩ := isFault_ok (isOI_zero ho).1
  have hPUn : (baseI ac h).toNat + bu.toNat ≤ n := by rcases (by omega : ac = 0 ∨ ac = 1) with rfl | rfl <;> simp [baseI] <;> omega
  have HSRT := Lib.hid (fun (T : Nat → GM) (hT : ∀ i, i < L.length → GSame (T i) (obT f L i)) => sorted_T hpz hT)
  have HHDS := Lib.hid (fun (T : Nat → GM) (hT : ∀ i, i < L.length → GSame (T i) (obT f L i)) => heads_T hpz hPUn qw hT)
  have HPTP := Lib.hid (fun (T : Nat → GM) (hT : ∀ i, i < L.length → GSame (T i) (obT f L i)) => ptg_points hpz hT hLs)
  have hL4 : L.length ≤ 1048576 := by have := parse_length _ _ L (Nat.le_refl _) hpz; omega
  have HKF := Lib.hid (isOI_zero ho).1
  have HO := Lib.hid ho
  clear hpz hLs q1 q2 q3 q4 q5 q6 qn qw hPUn ho
  have HS := Lib.hid hs; have HCM := Lib.hid hcm; have HNP := Lib.hid hp; have HRR := Lib.hid hr
  clear hs hcm hp hr
  go_enter Try.func62, Try.ntmps62
  go_wp2_with fail
  refine (implOI h ac bu a n c f 0 L _ ((HS.out.alloc _).alloc _) hnc HCM.out HO.out).mono ?_
  rintro e w1 ⟨a1, c1, T, rfl, hg, hs1, hb, hc1, hc2⟩
  have HB1 := Lib.hid (thru2 (Below.refl _ _) hb)
  have A_1 := Lib.hid (((Blk.new_at (w := w) (cs := #[.int .i64 h, .slice a n c, .int .i64 ac, .int .i64 bu]) (t := 26) (w.heap.size) rfl).alloc _).below hb)
  have R_1 := Lib.hid ((Blk.new_at (w := w.alloc (.cells #[.int .i64 h, .slice a n c, .int .i64 ac, .int .i64 bu] 26)) (cs := #[.int .i64 0, .slice none 0 0]) (t := 37) (w.heap.size + 1) (by simp)).below hb)
  have S_1 := Lib.hid (((HS.out.alloc _).alloc _).below hb)
  have z1 : w.heap.size + 2 ≤ w1.heap.size := by have := hb.size; simp at this; omega
  have HG := Lib.hid (gvo_mono hg (show w.heap.size + 2 ≤ _ by simp))
  have HT := Lib.hid hs1
  have HC1 := Lib.hid (And.intro hc1 hc2)
  clear hb hg hs1 hc1 hc2
  go_wp2_with fail
  refine (stray_any a1 L.length c1 T false _ (HG.out.src.alloc _) hL4 (HSRT.out T HT.out) (HHDS.out T HT.out) ⟨fun h => (by cases h), fun hq => absurd ((HPTP.out T HT.out).2 HNP.out) hq⟩).mono ?_
  rintro e w2 ⟨rfl, hb⟩
  have HB2 := Lib.hid (thru1 HB1.out hb)
  have X_2 := Lib.hid ((Blk.new_at (w := w1) (cs := #[.int .i64 0, .slice a1 L.length c1]) (t := 37) (w1.heap.size) rfl).below hb)
  have R_2 := Lib.hid ((R_1.out.alloc _).below hb)
  have A_2 := Lib.hid ((A_1.out.alloc _).below hb)
  have S_2 := Lib.hid ((S_1.out.alloc _).below hb)
  have G_2 := Lib.hid ((HG.out.alloc (.cells #[.int .i64 0, .slice a1 L.length c1] 37)).below hb)
  have z2 : w1.heap.size + 1 ≤ w2.heap.size := by have := hb.size; simp at this; omega
  clear hb HB1 R_1 A_1 S_1 HG
  have lA := A_2.out.1; have cA0 := A_2.out.at 0 rfl; have fA0 := A_2.out.free 0 rfl; have cA1 := A_2.out.at 1 rfl; have fA1 := A_2.out.free 1 rfl; have cA2 := A_2.out.at 2 rfl; have fA2 := A_2.out.free 2 rfl; have cA3 := A_2.out.at 3 rfl; have fA3 := A_2.out.free 3 rfl
  go_wp2_with fail
  clear lA cA0 fA0 cA1 fA1 cA2 fA2 cA3 fA3
  refine (strayw_any h ac bu a n c f true _ S_2.out HKF.out ⟨fun _ => HRR.out, fun _ => rfl⟩).mono ?_
  rintro e w3 ⟨rfl, hb⟩
  have HBL := Lib.hid (HB2.out.trans (hb.mono HB2.out.size))
  have X_3 := Lib.hid (X_2.out.below hb)
  have R_3 := Lib.hid (R_2.out.below hb)
  have G_3 := Lib.hid (G_2.out.below hb)
  have z3 := hb.size
  clear hb HB2 X_2 R_2 A_2 S_2 G_2
  have lR := R_3.out.1; have cR0 := R_3.out.at 0 rfl; have fR0 := R_3.out.free 0 rfl; have cR1 := R_3.out.at 1 rfl; have fR1 := R_3.out.free 1 rfl
  go_wp2
  refine bodyPost_ret (v := .agg #[.int .i64 8, .slice none 0 0]) (by simp [results, Try.results62, go_sem, cR0, cR1]) rfl ⟨none, 0, fun _ => gzero, rfl, .inl rfl, fun i hi => (by simp at hi), ?_, Nat.le_refl _, by simp [maxLen]⟩
  repeat (first | (with_reducible refine Below.setCell ?_ (by (try simp); (try omega)) _) | (with_reducible refine Below.alloc ?_ (by (try simp); (try omega)) _) | (with_reducible refine Below.drew ?_))
  exact HBL.out

set_option maxRecDepth 100000 in
set_option maxHeartbeats 1600000 in
theorem shaped_good (h ac bu : Int) (a : Option Addr) (n c : Nat) (f : Nat → Int) (w : World) (hs : Src w a n f) (hnc : n ≤ c) (hcm : c ≤ maxLen) (L : List Ob) (ho : IsOI h n f ac bu 0 L) (hp : Points f L) (hr : Rest f n (baseI ac h).toNat bu.toNat) : Calls Try.prog 62 #[.agg #[.int .i64 h, .slice a n c, .int .i64 ac, .int .i64 bu]] w (RetORG w f 0 L) := by
  have hpz := (isOI_zero ho).2
  have hLs := parse_sizes _ _ L (Nat.le_refl _) hpz
  obtain ⟨⟨⟨q1, q2⟩, ⟨q3, q4⟩, q5, q6⟩, qn, qw⟩ := isFault_ok (isOI_zero ho).1
  have hPUn : (baseI ac h).toNat + bu.toNat ≤ n := by rcases (by omega : ac = 0 ∨ ac = 1) with rfl | rfl <;> simp [baseI] <;> omega
  have HSRT := Lib.hid (fun (T : Nat → GM) (hT : ∀ i, i < L.length → GSame (T i) (obT f L i)) => sorted_T hpz hT)
  have HHDS := Lib.hid (fun (T : Nat → GM) (hT : ∀ i, i < L.length → GSame (T i) (obT f L i)) => heads_T hpz hPUn qw hT)
  have HPTP := Lib.hid (fun (T : Nat → GM) (hT : ∀ i, i < L.length → GSame (T i) (obT f L i)) => ptg_points hpz hT hLs)
  have hL4 : L.length ≤ 1048576 := by have := parse_length _ _ L (Nat.le_refl _) hpz; omega
  have HKF := Lib.hid (isOI_zero ho).1
  have HO := Lib.hid ho
  clear hpz hLs q1 q2 q3 q4 q5 q6 qn qw hPUn ho
  have HS := Lib.hid hs; have HCM := Lib.hid hcm; have HNP := Lib.hid hp; have HRR := Lib.hid hr
  clear hs hcm hp hr
  go_enter Try.func62, Try.ntmps62
  go_wp2_with fail
  refine (implOI h ac bu a n c f 0 L _ ((HS.out.alloc _).alloc _) hnc HCM.out HO.out).mono ?_
  rintro e w1 ⟨a1, c1, T, rfl, hg, hs1, hb, hc1, hc2⟩
  have HB1 := Lib.hid (thru2 (Below.refl _ _) hb)
  have A_1 := Lib.hid (((Blk.new_at (w := w) (cs := #[.int .i64 h, .slice a n c, .int .i64 ac, .int .i64 bu]) (t := 26) (w.heap.size) rfl).alloc _).below hb)
  have R_1 := Lib.hid ((Blk.new_at (w := w.alloc (.cells #[.int .i64 h, .slice a n c, .int .i64 ac, .int .i64 bu] 26)) (cs := #[.int .i64 0, .slice none 0 0]) (t := 37) (w.heap.size + 1) (by simp)).below hb)
  have S_1 := Lib.hid (((HS.out.alloc _).alloc _).below hb)
  have z1 : w.heap.size + 2 ≤ w1.heap.size := by have := hb.size; simp at this; omega
  have HG := Lib.hid (gvo_mono hg (show w.heap.size + 2 ≤ _ by simp))
  have HT := Lib.hid hs1
  have HC1 := Lib.hid (And.intro hc1 hc2)
  clear hb hg hs1 hc1 hc2
  go_wp2_with fail
  refine (stray_any a1 L.length c1 T false _ (HG.out.src.alloc _) hL4 (HSRT.out T HT.out) (HHDS.out T HT.out) ⟨fun h => (by cases h), fun hq => absurd ((HPTP.out T HT.out).2 HNP.out) hq⟩).mono ?_
  rintro e w2 ⟨rfl, hb⟩
  have HB2 := Lib.hid (thru1 HB1.out hb)
  have X_2 := Lib.hid ((Blk.new_at (w := w1) (cs := #[.int .i64 0, .slice a1 L.length c1]) (t := 37) (w1.heap.size) rfl).below hb)
  have R_2 := Lib.hid ((R_1.out.alloc _).below hb)
  have A_2 := Lib.hid ((A_1.out.alloc _).below hb)
  have S_2 := Lib.hid ((S_1.out.alloc _).below hb)
  have G_2 := Lib.hid ((HG.out.alloc (.cells #[.int .i64 0, .slice a1 L.length c1] 37)).below hb)
  have z2 : w1.heap.size + 1 ≤ w2.heap.size := by have := hb.size; simp at this; omega
  clear hb HB1 R_1 A_1 S_1 HG
  have lA := A_2.out.1; have cA0 := A_2.out.at 0 rfl; have fA0 := A_2.out.free 0 rfl; have cA1 := A_2.out.at 1 rfl; have fA1 := A_2.out.free 1 rfl; have cA2 := A_2.out.at 2 rfl; have fA2 := A_2.out.free 2 rfl; have cA3 := A_2.out.at 3 rfl; have fA3 := A_2.out.free 3 rfl
  go_wp2_with fail
  clear lA cA0 fA0 cA1 fA1 cA2 fA2 cA3 fA3
  refine (strayw_any h ac bu a n c f false _ S_2.out HKF.out ⟨fun h => (by cases h), fun hq => absurd HRR.out hq⟩).mono ?_
  rintro e w3 ⟨rfl, hb⟩
  have HBL := Lib.hid (HB2.out.trans (hb.mono HB2.out.size))
  have X_3 := Lib.hid (X_2.out.below hb)
  have R_3 := Lib.hid (R_2.out.below hb)
  have G_3 := Lib.hid (G_2.out.below hb)
  have z3 := hb.size
  clear hb HB2 X_2 R_2 A_2 S_2 G_2
  have lR := R_3.out.1; have cR0 := R_3.out.at 0 rfl; have fR0 := R_3.out.free 0 rfl; have cR1 := R_3.out.at 1 rfl; have fR1 := R_3.out.free 1 rfl
  have lX := X_3.out.1; have cX0 := X_3.out.at 0 rfl; have fX0 := X_3.out.free 0 rfl; have cX1 := X_3.out.at 1 rfl; have fX1 := X_3.out.free 1 rfl
  go_wp2
  refine bodyPost_ret (v := .agg #[.int .i64 0, .slice a1 (L).length c1]) (by simp [results, Try.results62, go_sem, cR0, cR1]) rfl ⟨a1, c1, T, rfl, ?_, HT.out, ?_, HC1.out.1, HC1.out.2⟩
  · refine gvo_wide (lo := w.heap.size + 2) (hi := w1.heap.size) ?_ (by omega) (by (try simp); (try omega))
    repeat (first | (with_reducible refine gvo_set ?_ (by (try simp); (try omega)) _) | (with_reducible refine GVO.alloc ?_ _))
    exact G_3.out
  · repeat (first | (with_reducible refine Below.setCell ?_ (by (try simp); (try omega)) _) | (with_reducible refine Below.alloc ?_ (by (try simp); (try omega)) _) | (with_reducible refine Below.drew ?_))
    exact HBL.out

theorem shaped_any (h ac bu : Int) (a : Option Addr) (n c : Nat) (f : Nat → Int) (w : World) (hs : Src w a n f) (hnc : n ≤ c) (hcm : c ≤ maxLen) (k : Int) (L : List Ob) (hk : IsSO h n f ac bu k L) : Calls Try.prog 62 #[.agg #[.int .i64 h, .slice a n c, .int .i64 ac, .int .i64 bu]] w (RetORG w f k L) := by
  rcases hk with ⟨hk, h0, rfl⟩ | ⟨rfl, hk, ho⟩
  · rcases hk with ⟨L0, ho, _⟩ | ⟨L0, ho, hsh, rfl⟩ | ⟨_, _, _, hz⟩
    · exact shaped_fault h ac bu a n c f w hs hnc hcm k (isOI_empty ho h0) h0
    · rcases hsh with ⟨_, _, hx⟩ | ⟨hx, _⟩
      · cases hx
      · by_cases hp : Points f L0
        · exact shaped_word h ac bu a n c f w hs hnc hcm L0 ho hp (fun hr => hx ⟨hp, hr⟩)
        · exact shaped_stray h ac bu a n c f w hs hnc hcm L0 ho hp
    · exact absurd hz h0
  · obtain ⟨hp, hr⟩ := isSF_shape hk ho
    exact shaped_good h ac bu a n c f w hs hnc hcm L ho hp hr

theorem fld_code (k : Int) (a : Option Addr) (n c : Nat) (w : World) : (Instr.field 37 (.agg #[.int .i64 k, .slice a n c]) 0).run Try.prog w = .ok (.int .i64 k) w := by kernel_rfl

set_option maxRecDepth 100000 in
theorem implSF : ImplSF := fun h ac bu a n c f k w hs hnc hcm hk => by
  obtain ⟨L, hL⟩ := isSO_some hk
  have HS := Lib.hid hs; have HCM := Lib.hid hcm; have HL := Lib.hid hL
  clear hs hcm hk hL
  go_enter Try.func23, Try.ntmps23
  go_wp2_with fail
  refine (shaped_any h ac bu a n c f _ (HS.out.alloc _) hnc HCM.out k L HL.out).mono ?_
  rintro e w1 ⟨a1, c1, T, rfl, hg, hs1, hb, hc1, hc2⟩
  have HB1 := Lib.hid (thru1 (Below.refl _ _) hb)
  clear hb hg hs1 hc1 hc2
  have hf := fld_code
  go_wp2
  go_ret
  exact ⟨rfl, HB1.out⟩
end Go.Proofs.Ytlelgfkebcnepaa

namespace Go.Proofs.Ytlelgfkebcnepaa
open Go.RowKit
set_option linter.unusedVariables false

theorem gvo_own {w : World} {lo hi N i : Nat} {a : Option Addr} {T : Nat → GM} (h : GVO w lo hi a N T) (hi' : i < N) : Own w lo (T i).a (T i).n (T i).f := by
  rcases h with h0 | ⟨b, q, e, h⟩
  · omega
  · exact (h.flds i hi').out

set_option maxRecDepth 100000 in
set_option maxHeartbeats 1600000 in
theorem oa_code (h ac bu at_ : Int) (a : Option Addr) (n c : Nat) (f : Nat → Int) (w : World) (hs : Src w a n f) (hnc : n ≤ c) (hcm : c ≤ maxLen) (k : Int) (hk : IsSF h n f ac bu k) (h0 : ¬ k = 0) : Calls Try.prog 18 #[.agg #[.int .i64 h, .slice a n c, .int .i64 ac, .int .i64 bu], .int .i64 at_] w (RetOAG w f k none) := by
  have HS := Lib.hid hs; have HCM := Lib.hid hcm; have HK := Lib.hid hk
  clear hs hcm hk
  go_enter Try.func18, Try.ntmps18
  go_wp2_with fail
  refine (shaped_any h ac bu a n c f _ ((HS.out.alloc _).alloc _) hnc HCM.out k [] (.inl ⟨HK.out, h0, rfl⟩)).mono ?_
  rintro e w1 ⟨a1, c1, T, rfl, hg, hs1, hb, hc1, hc2⟩
  have HB1 := Lib.hid (thru2 (Below.refl _ _) hb)
  have R_1 := Lib.hid ((Blk.new_at (w := w.alloc (.cells #[.int .i64 h, .slice a n c, .int .i64 ac, .int .i64 bu] 26)) (cs := #[.int .i64 0, .int .i64 0, .int .i64 0, .int .i64 0, .int .i64 0, .int .i64 0, .slice none 0 0]) (t := 44) (w.heap.size + 1) (by simp)).below hb)
  have z1 : w.heap.size + 2 ≤ w1.heap.size := by have := hb.size; simp at this; omega
  have HG := Lib.hid (gvo_mono hg (show w.heap.size + 2 ≤ _ by simp))
  have HT := Lib.hid hs1
  clear hb hg hs1 hc1 hc2
  have hd : (k != 0) = true := by simpa using h0
  have lR := R_1.out.1; have cR0 := R_1.out.at 0 rfl; have fR0 := R_1.out.free 0 rfl; have cR1 := R_1.out.at 1 rfl; have fR1 := R_1.out.free 1 rfl; have cR2 := R_1.out.at 2 rfl; have fR2 := R_1.out.free 2 rfl; have cR3 := R_1.out.at 3 rfl; have fR3 := R_1.out.free 3 rfl; have cR4 := R_1.out.at 4 rfl; have fR4 := R_1.out.free 4 rfl; have cR5 := R_1.out.at 5 rfl; have fR5 := R_1.out.free 5 rfl; have cR6 := R_1.out.at 6 rfl; have fR6 := R_1.out.free 6 rfl
  go_wp2
  refine bodyPost_ret (v := .agg #[.int .i64 k, .int .i64 0, .int .i64 0, .int .i64 0, .int .i64 0, .int .i64 0, .slice none 0 0]) (by simp [results, Try.results18, go_sem, lR, cR0, cR1, cR2, cR3, cR4, cR5, cR6]) rfl ⟨gzero, GSame.refl _, rfl, .inl rfl, ?_⟩
  repeat (first | (with_reducible refine Below.setCell ?_ (by (try simp); (try omega)) _) | (with_reducible refine Below.alloc ?_ (by (try simp); (try omega)) _) | (with_reducible refine Below.drew ?_))
  exact HB1.out

set_option maxRecDepth 100000 in
set_option maxHeartbeats 1600000 in
theorem oa_find (h ac bu at_ : Int) (a : Option Addr) (n c : Nat) (f : Nat → Int) (w : World) (hs : Src w a n f) (hnc : n ≤ c) (hcm : c ≤ maxLen) (co : Int) (x : Option Ob) (L : List Ob) (hk : IsSF h n f ac bu 0) (ho : IsOI h n f ac bu 0 L) (hx : (findO L at_ = none ∧ co = 4 ∧ x = none) ∨ ∃ y, findO L at_ = some y ∧ co = 0 ∧ x = some y) : Calls Try.prog 18 #[.agg #[.int .i64 h, .slice a n c, .int .i64 ac, .int .i64 bu], .int .i64 at_] w (RetOAG w f co x) := by
  have hpz := (isOI_zero ho).2
  have HSRT := Lib.hid (fun (T : Nat → GM) (hT : ∀ i, i < L.length → GSame (T i) (obT f L i)) => sorted_T hpz hT)
  have hL4 : L.length ≤ 1048576 := by have := (isOI_small ho).1; omega
  have HPZ := Lib.hid hpz
  have HS := Lib.hid hs; have HCM := Lib.hid hcm; have HK := Lib.hid hk; have HO := Lib.hid ho; have HX := Lib.hid hx
  clear hs hcm hk ho hx hpz
  go_enter Try.func18, Try.ntmps18
  go_wp2_with fail
  refine (shaped_any h ac bu a n c f _ ((HS.out.alloc _).alloc _) hnc HCM.out 0 L (.inr ⟨rfl, HK.out, HO.out⟩)).mono ?_
  rintro e w1 ⟨a1, c1, T, rfl, hg, hs1, hb, hc1, hc2⟩
  have HB1 := Lib.hid (thru2 (Below.refl _ _) hb)
  have R_1 := Lib.hid ((Blk.new_at (w := w.alloc (.cells #[.int .i64 h, .slice a n c, .int .i64 ac, .int .i64 bu] 26)) (cs := #[.int .i64 0, .int .i64 0, .int .i64 0, .int .i64 0, .int .i64 0, .int .i64 0, .slice none 0 0]) (t := 44) (w.heap.size + 1) (by simp)).below hb)
  have z1 : w.heap.size + 2 ≤ w1.heap.size := by have := hb.size; simp at this; omega
  have HG := Lib.hid (gvo_mono hg (show w.heap.size + 2 ≤ _ by simp))
  have HT := Lib.hid hs1
  clear hb hg hs1 hc1 hc2
  go_wp2_with fail
  refine (find_any a1 L.length c1 T at_ _ (HG.out.src.alloc _) hL4 (HSRT.out T HT.out)).mono ?_
  rintro e w2 ⟨hb, hc⟩
  have HB2 := Lib.hid (thru1 HB1.out hb)
  have R_2 := Lib.hid ((R_1.out.alloc _).below hb)
  have G_2 := Lib.hid ((HG.out.alloc (.cells #[.int .i64 0, .slice a1 L.length c1] 37)).below hb)
  have z2 : w1.heap.size + 1 ≤ w2.heap.size := by have := hb.size; simp at this; omega
  clear hb HB1 R_1 HG
  have lR := R_2.out.1; have cR0 := R_2.out.at 0 rfl; have fR0 := R_2.out.free 0 rfl; have cR1 := R_2.out.at 1 rfl; have fR1 := R_2.out.free 1 rfl; have cR2 := R_2.out.at 2 rfl; have fR2 := R_2.out.free 2 rfl; have cR3 := R_2.out.at 3 rfl; have fR3 := R_2.out.free 3 rfl; have cR4 := R_2.out.at 4 rfl; have fR4 := R_2.out.free 4 rfl; have cR5 := R_2.out.at 5 rfl; have fR5 := R_2.out.free 5 rfl; have cR6 := R_2.out.at 6 rfl; have fR6 := R_2.out.free 6 rfl
  rcases hc with ⟨i, hi, hat, rfl⟩ | ⟨hno, rfl⟩
  · have hsm := HT.out i hi
    have hf : findO L at_ = some L[i] := by
      have e1 : L[i].at_ = at_ := by rw [← hat, hsm.1, obT_get f hi]; rfl
      rw [← e1]; exact findO_at HPZ.out hi
    obtain ⟨rfl, rfl⟩ : co = 0 ∧ x = some L[i] := by
      rcases HX.out with ⟨h1, _⟩ | ⟨y, h1, h2, h3⟩
      · rw [hf] at h1; cases h1
      · rw [hf] at h1; cases h1; exact ⟨h2, h3⟩
    rw [obT_get f hi] at hsm
    have HO2 := Lib.hid (gvo_own G_2.out hi)
    have HSM : Hid (GSame (T i) (xT f (some L[i]))) := Lib.hid hsm
    clear hsm hf hat
    generalize T i = t at *
    go_wp2
    refine bodyPost_ret (v := .agg #[.int .i64 0, .int .i64 t.at_, .int .i64 t.s, .int .i64 t.m, .int .i64 t.o, .int .i64 t.h, .slice t.a t.n t.c]) (by simp [results, Try.results18, go_sem, cR0, cR1, cR2, cR3, cR4, cR5, cR6]) rfl ⟨t, HSM.out, rfl, ?_, ?_⟩
    · refine Own.mono (B := w.heap.size + 2) ?_ (by omega)
      repeat (first | (with_reducible refine Own.setCell ?_ (by (try simp); (try omega)) _) | (with_reducible refine Own.alloc ?_ _) | (with_reducible refine Own.drew ?_))
      exact HO2.out
    · repeat (first | (with_reducible refine Below.setCell ?_ (by (try simp); (try omega)) _) | (with_reducible refine Below.alloc ?_ (by (try simp); (try omega)) _) | (with_reducible refine Below.drew ?_))
      exact HB2.out
  · have hf : findO L at_ = none := findO_none fun i hi he => hno i hi (by rw [(HT.out i hi).1, obT_get f hi]; exact he)
    obtain ⟨rfl, rfl⟩ : co = 4 ∧ x = none := by
      rcases HX.out with ⟨_, h1⟩ | ⟨y, h1, _⟩
      · exact h1
      · rw [hf] at h1; cases h1
    clear hf hno
    go_wp2
    refine bodyPost_ret (v := .agg #[.int .i64 4, .int .i64 0, .int .i64 0, .int .i64 0, .int .i64 0, .int .i64 0, .slice none 0 0]) (by simp [results, Try.results18, go_sem, cR0, cR1, cR2, cR3, cR4, cR5, cR6]) rfl ⟨gzero, GSame.refl _, rfl, .inl rfl, ?_⟩
    repeat (first | (with_reducible refine Below.setCell ?_ (by (try simp); (try omega)) _) | (with_reducible refine Below.alloc ?_ (by (try simp); (try omega)) _) | (with_reducible refine Below.drew ?_))
    exact HB2.out

theorem implOA : ImplOA := fun h ac bu a n c f at_ co x w hs hnc hcm hk => by
  rcases hk with ⟨h1, h2, rfl⟩ | ⟨L, h1, h2, h3, h4, h5⟩ | ⟨L, y, h1, h2, h3, h4, h5⟩
  · exact oa_code h ac bu at_ a n c f w hs hnc hcm co h1 h2
  · exact oa_find h ac bu at_ a n c f w hs hnc hcm co x L h1 h2 (.inl ⟨h3, h4, h5⟩)
  · exact oa_find h ac bu at_ a n c f w hs hnc hcm co x L h1 h2 (.inr ⟨y, h3, h4, h5⟩)
end Go.Proofs.Ytlelgfkebcnepaa

namespace Go.Proofs.Ytlelgfkebcnepaa
open Go.RowKit
set_option linter.unusedVariables false

set_option maxRecDepth 100000 in
set_option maxHeartbeats 1600000 in
theorem fa_code (h ac bu at_ i : Int) (a : Option Addr) (n c : Nat) (f : Nat → Int) (w : World) (hs : Src w a n f) (hnc : n ≤ c) (hcm : c ≤ maxLen) (k : Int) (x : Option Ob) (hk : IsAt h n f ac bu at_ k x) (h0 : ¬ k = 0) : Calls Try.prog 29 #[.agg #[.int .i64 h, .slice a n c, .int .i64 ac, .int .i64 bu], .int .i64 at_, .int .i64 i] w (RetPair w k 0) := by
  have HS := Lib.hid hs; have HCM := Lib.hid hcm; have HK := Lib.hid hk
  clear hs hcm hk
  go_enter Try.func29, Try.ntmps29
  go_wp2_with fail
  refine (implOA h ac bu a n c f at_ k x _ ((HS.out.alloc _).alloc _) hnc HCM.out HK.out).mono ?_
  rintro e w1 ⟨t, hsm, rfl, ho, hb⟩
  have HB1 := Lib.hid (thru2 (Below.refl _ _) hb)
  have R_1 := Lib.hid ((Blk.new_at (w := w.alloc (.cells #[.int .i64 h, .slice a n c, .int .i64 ac, .int .i64 bu] 26)) (cs := #[.int .i64 0, .int .i64 0]) (t := 54) (w.heap.size + 1) (by simp)).below hb)
  have z1 : w.heap.size + 2 ≤ w1.heap.size := by have := hb.size; simp at this; omega
  have HO1 := Lib.hid ho.src
  have HSM := Lib.hid hsm
  clear hb ho hsm
  have hd : (k != 0) = true := by simpa using h0
  have lR := R_1.out.1; have cR0 := R_1.out.at 0 rfl; have fR0 := R_1.out.free 0 rfl; have cR1 := R_1.out.at 1 rfl; have fR1 := R_1.out.free 1 rfl
  go_wp2
  refine bodyPost_ret (v := .agg #[.int .i64 k, .int .i64 0]) (by simp [results, Try.results29, go_sem, lR, cR0, cR1]) rfl ⟨rfl, ?_⟩
  repeat (first | (with_reducible refine Below.setCell ?_ (by (try simp); (try omega)) _) | (with_reducible refine Below.alloc ?_ (by (try simp); (try omega)) _) | (with_reducible refine Below.drew ?_))
  exact HB1.out

set_option maxRecDepth 100000 in
set_option maxHeartbeats 1600000 in
theorem fa_out (h ac bu at_ i : Int) (a : Option Addr) (n c : Nat) (f : Nat → Int) (w : World) (hs : Src w a n f) (hnc : n ≤ c) (hcm : c ≤ maxLen) (y : Ob) (hk : IsAt h n f ac bu at_ 0 (some y)) (hi : ¬ (0 ≤ i ∧ i ≤ y.s - 1)) : Calls Try.prog 29 #[.agg #[.int .i64 h, .slice a n c, .int .i64 ac, .int .i64 bu], .int .i64 at_, .int .i64 i] w (RetPair w 3 0) := by
  have hy := (isAt_ok hk).1
  have HS := Lib.hid hs; have HCM := Lib.hid hcm; have HK := Lib.hid hk; have HI := Lib.hid hi
  clear hs hcm hk hi
  go_enter Try.func29, Try.ntmps29
  go_wp2_with fail
  refine (implOA h ac bu a n c f at_ 0 (some y) _ ((HS.out.alloc _).alloc _) hnc HCM.out HK.out).mono ?_
  rintro e w1 ⟨t, hsm, rfl, ho, hb⟩
  have HB1 := Lib.hid (thru2 (Below.refl _ _) hb)
  have R_1 := Lib.hid ((Blk.new_at (w := w.alloc (.cells #[.int .i64 h, .slice a n c, .int .i64 ac, .int .i64 bu] 26)) (cs := #[.int .i64 0, .int .i64 0]) (t := 54) (w.heap.size + 1) (by simp)).below hb)
  have z1 : w.heap.size + 2 ≤ w1.heap.size := by have := hb.size; simp at this; omega
  have HO1 := Lib.hid ho.src
  have HSM := Lib.hid hsm
  clear hb ho hsm
  have hts : t.s = y.s := HSM.out.2.1
  have ht1 : 0 ≤ t.s := by omega
  have ht2 : t.s ≤ 12 := by omega
  have HI2 : Hid (¬ (0 ≤ i ∧ i ≤ t.s - 1)) := Lib.hid (by have := HI.out; omega)
  clear hts hy
  go_wp2_with fail
  refine (isOut1 _ _ _ _ _ true (by simp) (.inr ⟨rfl, HI2.out⟩)).mono ?_
  rintro e w2 ⟨rfl, hb⟩
  have HB2 := Lib.hid (thru3 HB1.out hb)
  have R_2 := Lib.hid ((((R_1.out.alloc (.cells #[.int .i64 0, .int .i64 t.at_, .int .i64 t.s, .int .i64 t.m, .int .i64 t.o, .int .i64 t.h, .slice t.a t.n t.c] 44)).alloc (.cells #[.int .i64 t.at_, .int .i64 t.s, .int .i64 t.m, .int .i64 t.o, .int .i64 t.h, .slice t.a t.n t.c] 42)).alloc _).below hb)
  have O_2 := Lib.hid ((((HO1.out.alloc (.cells #[.int .i64 0, .int .i64 t.at_, .int .i64 t.s, .int .i64 t.m, .int .i64 t.o, .int .i64 t.h, .slice t.a t.n t.c] 44)).alloc (.cells #[.int .i64 t.at_, .int .i64 t.s, .int .i64 t.m, .int .i64 t.o, .int .i64 t.h, .slice t.a t.n t.c] 42)).alloc _).below hb)
  have T_2 := Lib.hid (((Blk.new_at (w := w1.alloc (.cells #[.int .i64 0, .int .i64 t.at_, .int .i64 t.s, .int .i64 t.m, .int .i64 t.o, .int .i64 t.h, .slice t.a t.n t.c] 44)) (cs := #[.int .i64 t.at_, .int .i64 t.s, .int .i64 t.m, .int .i64 t.o, .int .i64 t.h, .slice t.a t.n t.c]) (t := 42) (w1.heap.size + 1) (by simp)).alloc _).below hb)
  have z2 : w1.heap.size + 3 ≤ w2.heap.size := by have := hb.size; simp at this; omega
  clear hb HB1 R_1 HO1
  have lR := R_2.out.1; have cR0 := R_2.out.at 0 rfl; have fR0 := R_2.out.free 0 rfl; have cR1 := R_2.out.at 1 rfl; have fR1 := R_2.out.free 1 rfl
  have lT := T_2.out.1; have cT0 := T_2.out.at 0 rfl; have fT0 := T_2.out.free 0 rfl; have cT1 := T_2.out.at 1 rfl; have fT1 := T_2.out.free 1 rfl; have cT2 := T_2.out.at 2 rfl; have fT2 := T_2.out.free 2 rfl; have cT3 := T_2.out.at 3 rfl; have fT3 := T_2.out.free 3 rfl; have cT4 := T_2.out.at 4 rfl; have fT4 := T_2.out.free 4 rfl; have cT5 := T_2.out.at 5 rfl; have fT5 := T_2.out.free 5 rfl
  go_wp2
  refine bodyPost_ret (v := .agg #[.int .i64 3, .int .i64 0]) (by simp [results, Try.results29, go_sem, cR0, cR1]) rfl ⟨rfl, ?_⟩
  repeat (first | (with_reducible refine Below.setCell ?_ (by (try simp); (try omega)) _) | (with_reducible refine Below.alloc ?_ (by (try simp); (try omega)) _) | (with_reducible refine Below.drew ?_))
  exact HB2.out

set_option maxRecDepth 100000 in
set_option maxHeartbeats 1600000 in
theorem fa_in (h ac bu at_ i : Int) (a : Option Addr) (n c : Nat) (f : Nat → Int) (w : World) (hs : Src w a n f) (hnc : n ≤ c) (hcm : c ≤ maxLen) (y : Ob) (hk : IsAt h n f ac bu at_ 0 (some y)) (hi : 0 ≤ i ∧ i ≤ y.s - 1) : Calls Try.prog 29 #[.agg #[.int .i64 h, .slice a n c, .int .i64 ac, .int .i64 bu], .int .i64 at_, .int .i64 i] w (RetPair w 0 (f (y.at_.toNat + 2 + i.toNat))) := by
  have hy := (isAt_ok hk).1
  obtain ⟨I, rfl⟩ : ∃ I : Nat, i = (I : Int) := ⟨i.toNat, by omega⟩
  have HS := Lib.hid hs; have HCM := Lib.hid hcm; have HK := Lib.hid hk; have HI := Lib.hid hi
  clear hs hcm hk hi
  go_enter Try.func29, Try.ntmps29
  go_wp2_with fail
  refine (implOA h ac bu a n c f at_ 0 (some y) _ ((HS.out.alloc _).alloc _) hnc HCM.out HK.out).mono ?_
  rintro e w1 ⟨t, hsm, rfl, ho, hb⟩
  have HB1 := Lib.hid (thru2 (Below.refl _ _) hb)
  have R_1 := Lib.hid ((Blk.new_at (w := w.alloc (.cells #[.int .i64 h, .slice a n c, .int .i64 ac, .int .i64 bu] 26)) (cs := #[.int .i64 0, .int .i64 0]) (t := 54) (w.heap.size + 1) (by simp)).below hb)
  have z1 : w.heap.size + 2 ≤ w1.heap.size := by have := hb.size; simp at this; omega
  have HO1 := Lib.hid ho.src
  have HSM := Lib.hid hsm
  clear hb ho hsm
  have hts : t.s = y.s := HSM.out.2.1
  have htn : t.n = y.s.toNat := HSM.out.2.2.2.2.2.1
  have ht1 : 0 ≤ t.s := by omega
  have ht2 : t.s ≤ 12 := by omega
  have HI2 : Hid ((0 : Int) ≤ (I : Int) ∧ (I : Int) ≤ t.s - 1) := Lib.hid (by have := HI.out; omega)
  have hIn : I < t.n := by have := HI.out; omega
  have hIn' : (I : Int) < (t.n : Int) := by omega
  have hI0 : (0 : Int) ≤ (I : Int) := by omega
  have HV : Hid (t.f I = f (y.at_.toNat + 2 + I)) := Lib.hid (HSM.out.2.2.2.2.2.2 I hIn)
  clear hts hy htn
  go_wp2_with fail
  refine (isOut1 _ _ _ _ _ false (by simp) (.inl ⟨rfl, HI2.out⟩)).mono ?_
  rintro e w2 ⟨rfl, hb⟩
  have HB2 := Lib.hid (thru3 HB1.out hb)
  have R_2 := Lib.hid ((((R_1.out.alloc (.cells #[.int .i64 0, .int .i64 t.at_, .int .i64 t.s, .int .i64 t.m, .int .i64 t.o, .int .i64 t.h, .slice t.a t.n t.c] 44)).alloc (.cells #[.int .i64 t.at_, .int .i64 t.s, .int .i64 t.m, .int .i64 t.o, .int .i64 t.h, .slice t.a t.n t.c] 42)).alloc _).below hb)
  have O_2 := Lib.hid ((((HO1.out.alloc (.cells #[.int .i64 0, .int .i64 t.at_, .int .i64 t.s, .int .i64 t.m, .int .i64 t.o, .int .i64 t.h, .slice t.a t.n t.c] 44)).alloc (.cells #[.int .i64 t.at_, .int .i64 t.s, .int .i64 t.m, .int .i64 t.o, .int .i64 t.h, .slice t.a t.n t.c] 42)).alloc _).below hb)
  have T_2 := Lib.hid (((Blk.new_at (w := w1.alloc (.cells #[.int .i64 0, .int .i64 t.at_, .int .i64 t.s, .int .i64 t.m, .int .i64 t.o, .int .i64 t.h, .slice t.a t.n t.c] 44)) (cs := #[.int .i64 t.at_, .int .i64 t.s, .int .i64 t.m, .int .i64 t.o, .int .i64 t.h, .slice t.a t.n t.c]) (t := 42) (w1.heap.size + 1) (by simp)).alloc _).below hb)
  have z2 : w1.heap.size + 3 ≤ w2.heap.size := by have := hb.size; simp at this; omega
  clear hb HB1 R_1 HO1
  have lR := R_2.out.1; have cR0 := R_2.out.at 0 rfl; have fR0 := R_2.out.free 0 rfl; have cR1 := R_2.out.at 1 rfl; have fR1 := R_2.out.free 1 rfl
  have lT := T_2.out.1; have cT0 := T_2.out.at 0 rfl; have fT0 := T_2.out.free 0 rfl; have cT1 := T_2.out.at 1 rfl; have fT1 := T_2.out.free 1 rfl; have cT2 := T_2.out.at 2 rfl; have fT2 := T_2.out.free 2 rfl; have cT3 := T_2.out.at 3 rfl; have fT3 := T_2.out.free 3 rfl; have cT4 := T_2.out.at 4 rfl; have fT4 := T_2.out.free 4 rfl; have cT5 := T_2.out.at 5 rfl; have fT5 := T_2.out.free 5 rfl
  obtain ⟨tb, tf, hta, ltb, cfk⟩ : ∃ tb tf, t.a = some ⟨tb, tf, none⟩ ∧ tb < w2.heap.size ∧ w2.cell? ⟨tb, tf + I, none⟩ = some (.int .i64 (t.f I)) := by
    rcases O_2.out with h0 | ⟨tb, tf, h1, h2, h3⟩
    · omega
    · exact ⟨tb, tf, h1, h2, h3 I hIn⟩
  rw [hta] at cT5 ⊢
  go_wp2
  refine bodyPost_ret (v := .agg #[.int .i64 0, .int .i64 (t.f I)]) (by simp [results, Try.results29, go_sem, cR0, cR1]) rfl ⟨by first | (rw [HV.out]; done) | (rw [HV.out]; rfl), ?_⟩
  repeat (first | (with_reducible refine Below.setCell ?_ (by (try simp); (try omega)) _) | (with_reducible refine Below.alloc ?_ (by (try simp); (try omega)) _) | (with_reducible refine Below.drew ?_))
  exact HB2.out

theorem implFA : ImplFA := fun h ac bu a n c f at_ i co v w hs hnc hcm hk => by
  obtain ⟨c0, x, hk, ⟨h0, rfl, rfl⟩ | ⟨y, rfl, rfl, ⟨hi, rfl, rfl⟩ | ⟨hi, rfl, rfl⟩⟩⟩ := hk
  · exact fa_code h ac bu at_ i a n c f w hs hnc hcm _ x hk h0
  · exact fa_out h ac bu at_ i a n c f w hs hnc hcm y hk hi
  · exact fa_in h ac bu at_ i a n c f w hs hnc hcm y hk hi
end Go.Proofs.Ytlelgfkebcnepaa

namespace Go.Proofs.Ytlelgfkebcnepaa
open Go.RowKit
set_option linter.unusedVariables false

theorem cells4 {w : World} {b : Nat} {v0 v1 v2 v3 : Value} (h : Blk w b [v0, v1, v2, v3]) : w.cell? ⟨b, 0, none⟩ = some v0 ∧ w.cell? ⟨b, 1, none⟩ = some v1 ∧ w.cell? ⟨b, 2, none⟩ = some v2 ∧ w.cell? ⟨b, 3, none⟩ = some v3 := ⟨h.at 0 rfl, h.at 1 rfl, h.at 2 rfl, h.at 3 rfl⟩

theorem fieldOf_ptr (s m o h i v : Int) (w : World) (hk : IsIP s m o h i true) : Calls Try.prog 79 #[.agg #[.int .i64 s, .int .i64 m, .int .i64 o, .int .i64 h], .int .i64 i, .int .i64 v] w (fun e w' => e = .returned (.iface 158 (.int .i64 v)) ∧ Below w.heap.size w w') := fieldOf_any s m o h i v true w hk

theorem fieldOf_plain (s m o h i v : Int) (w : World) (hk : IsIP s m o h i false) : Calls Try.prog 79 #[.agg #[.int .i64 s, .int .i64 m, .int .i64 o, .int .i64 h], .int .i64 i, .int .i64 v] w (fun e w' => e = .returned (.iface 159 (.int .i64 v)) ∧ Below w.heap.size w w') := fieldOf_any s m o h i v false w hk

theorem fld_list (k : Int) (a : Option Addr) (n c : Nat) (w : World) : (Instr.field 37 (.agg #[.int .i64 k, .slice a n c]) 1).run Try.prog w = .ok (.slice a n c) w := by kernel_rfl

theorem fld_obj (k x0 x1 x2 x3 x4 : Int) (a : Option Addr) (n c : Nat) (w : World) : (Instr.field 44 (.agg #[.int .i64 k, .int .i64 x0, .int .i64 x1, .int .i64 x2, .int .i64 x3, .int .i64 x4, .slice a n c]) 1).run Try.prog w = .ok (.agg #[.int .i64 x0, .int .i64 x1, .int .i64 x2, .int .i64 x3, .int .i64 x4, .slice a n c]) w := by kernel_rfl

theorem fld_head (x0 x1 x2 x3 x4 : Int) (a : Option Addr) (n c : Nat) (w : World) : (Instr.field 42 (.agg #[.int .i64 x0, .int .i64 x1, .int .i64 x2, .int .i64 x3, .int .i64 x4, .slice a n c]) 1).run Try.prog w = .ok (.agg #[.int .i64 x1, .int .i64 x2, .int .i64 x3, .int .i64 x4]) w := by kernel_rfl

set_option maxRecDepth 100000 in
theorem call_word_ptr (s : String) (t : TypeId) (h : Try.prog.underlying 115 = some (.interface #[(s, t)])) : ∀ (v : Int) (w : World), (method 289 158 (.int .i64 v) s).run Try.prog w = .ok (151, .int .i64 v) w := by
  have e : Try.prog.underlying 115 = some (.interface #[(_, _)]) := rfl
  rw [e] at h
  cases h
  intro v w
  kernel_rfl

set_option maxRecDepth 100000 in
theorem call_word_plain (s : String) (t : TypeId) (h : Try.prog.underlying 115 = some (.interface #[(s, t)])) : ∀ (v : Int) (w : World), (method 289 159 (.int .i64 v) s).run Try.prog w = .ok (152, .int .i64 v) w := by
  have e : Try.prog.underlying 115 = some (.interface #[(_, _)]) := rfl
  rw [e] at h
  cases h
  intro v w
  kernel_rfl

set_option maxRecDepth 100000 in
set_option maxHeartbeats 3200000 in
theorem se_code (h ac bu at_ i vl : Int) (a : Option Addr) (n c : Nat) (f : Nat → Int) (w : World) (hs : Src w a n f) (hnc : n ≤ c) (hcm : c ≤ maxLen) (k v : Int) (hk : IsFA h n f ac bu at_ i k v) (h0 : ¬ k = 0) : Calls Try.prog 26 #[.agg #[.int .i64 h, .slice a n c, .int .i64 ac, .int .i64 bu], .int .i64 at_, .int .i64 i, .int .i64 vl] w (RetResC w (errAR k)) := by
  have HS := Lib.hid hs; have HCM := Lib.hid hcm; have HK := Lib.hid hk
  clear hs hcm hk
  go_enter Try.func26, Try.ntmps26
  go_wp2_with fail
  refine (implFA h ac bu a n c f at_ i k v _ ((HS.out.alloc _).alloc _) hnc HCM.out HK.out).mono ?_
  rintro e w1 ⟨rfl, hb⟩
  have HB1 := Lib.hid (thru2 (Below.refl _ _) hb)
  have A_1 := Lib.hid (((Blk.new_at (w := w) (cs := #[.int .i64 h, .slice a n c, .int .i64 ac, .int .i64 bu]) (t := 26) (w.heap.size) rfl).alloc (.cells #[.int .i64 0, .int .i64 0, .slice none 0 0, .int .i64 0, .int .i64 0, .int .i64 0] 32)).below hb)
  have R_1 := Lib.hid ((Blk.new_at (w := w.alloc (.cells #[.int .i64 h, .slice a n c, .int .i64 ac, .int .i64 bu] 26)) (cs := #[.int .i64 0, .int .i64 0, .slice none 0 0, .int .i64 0, .int .i64 0, .int .i64 0]) (t := 32) (w.heap.size + 1) (by simp)).below hb)
  have S_1 := Lib.hid (((HS.out.alloc _).alloc _).below hb)
  have z1 : w.heap.size + 2 ≤ w1.heap.size := by have := hb.size; simp at this; omega
  clear hb
  have hd : (k != 0) = true := by simpa using h0
  have lR := R_1.out.1; have cR0 := R_1.out.at 0 rfl; have fR0 := R_1.out.free 0 rfl; have cR1 := R_1.out.at 1 rfl; have fR1 := R_1.out.free 1 rfl; have cR2 := R_1.out.at 2 rfl; have fR2 := R_1.out.free 2 rfl; have cR3 := R_1.out.at 3 rfl; have fR3 := R_1.out.free 3 rfl; have cR4 := R_1.out.at 4 rfl; have fR4 := R_1.out.free 4 rfl; have cR5 := R_1.out.at 5 rfl; have fR5 := R_1.out.free 5 rfl
  go_wp2
  refine bodyPost_ret (v := .agg #[.int .i64 k, .int .i64 0, .slice none 0 0, .int .i64 0, .int .i64 0, .int .i64 0]) (by simp [results, Try.results26, go_sem, lR, cR0, cR1, cR2, cR3, cR4, cR5]) rfl ⟨none, 0, rfl, .inl rfl, ?_, fun hx => absurd hx h0⟩
  repeat (first | (with_reducible refine Below.setCell ?_ (by (try simp); (try omega)) _) | (with_reducible refine Below.alloc ?_ (by (try simp); (try omega)) _) | (with_reducible refine Below.drew ?_))
  exact HB1.out

set_option maxRecDepth 100000 in
set_option maxHeartbeats 3200000 in
theorem se_word (h ac bu at_ i vl : Int) (a : Option Addr) (n c : Nat) (f : Nat → Int) (w : World) (hs : Src w a n f) (hnc : n ≤ c) (hcm : c ≤ maxLen) (v : Int) (hk : IsFA h n f ac bu at_ i 0 v) (hw : ¬ (-1000000000 ≤ vl ∧ vl ≤ 1000000000)) : Calls Try.prog 26 #[.agg #[.int .i64 h, .slice a n c, .int .i64 ac, .int .i64 bu], .int .i64 at_, .int .i64 i, .int .i64 vl] w (RetResC w (errAR 3)) := by
  have HS := Lib.hid hs; have HCM := Lib.hid hcm; have HK := Lib.hid hk; have HW := Lib.hid hw
  clear hs hcm hk hw
  go_enter Try.func26, Try.ntmps26
  go_wp2_with fail
  refine (implFA h ac bu a n c f at_ i 0 v _ ((HS.out.alloc _).alloc _) hnc HCM.out HK.out).mono ?_
  rintro e w1 ⟨rfl, hb⟩
  have HB1 := Lib.hid (thru2 (Below.refl _ _) hb)
  have A_1 := Lib.hid (((Blk.new_at (w := w) (cs := #[.int .i64 h, .slice a n c, .int .i64 ac, .int .i64 bu]) (t := 26) (w.heap.size) rfl).alloc (.cells #[.int .i64 0, .int .i64 0, .slice none 0 0, .int .i64 0, .int .i64 0, .int .i64 0] 32)).below hb)
  have R_1 := Lib.hid ((Blk.new_at (w := w.alloc (.cells #[.int .i64 h, .slice a n c, .int .i64 ac, .int .i64 bu] 26)) (cs := #[.int .i64 0, .int .i64 0, .slice none 0 0, .int .i64 0, .int .i64 0, .int .i64 0]) (t := 32) (w.heap.size + 1) (by simp)).below hb)
  have S_1 := Lib.hid (((HS.out.alloc _).alloc _).below hb)
  have z1 : w.heap.size + 2 ≤ w1.heap.size := by have := hb.size; simp at this; omega
  clear hb
  go_wp2_with fail
  refine (wordBound_any vl _).mono ?_
  rintro e w2 ⟨rfl, hb⟩
  have HB2 := Lib.hid (thru1 HB1.out hb)
  have A_2 := Lib.hid ((A_1.out.alloc _).below hb); have R_2 := Lib.hid ((R_1.out.alloc _).below hb); have S_2 := Lib.hid ((S_1.out.alloc _).below hb)
  have z2 : w1.heap.size + 1 ≤ w2.heap.size := by have := hb.size; simp at this; omega
  clear hb HB1 A_1 R_1 S_1
  go_wp2_with fail
  refine (isOut1 _ _ _ _ _ true (by simp) (.inr ⟨rfl, HW.out⟩)).mono ?_
  rintro e w3 ⟨rfl, hb⟩
  have HB3 := Lib.hid (thru1 HB2.out hb)
  have A_3 := Lib.hid ((A_2.out.alloc _).below hb); have R_3 := Lib.hid ((R_2.out.alloc _).below hb); have S_3 := Lib.hid ((S_2.out.alloc _).below hb)
  have z3 : w2.heap.size + 1 ≤ w3.heap.size := by have := hb.size; simp at this; omega
  clear hb HB2 A_2 R_2 S_2
  have lR := R_3.out.1; have cR0 := R_3.out.at 0 rfl; have fR0 := R_3.out.free 0 rfl; have cR1 := R_3.out.at 1 rfl; have fR1 := R_3.out.free 1 rfl; have cR2 := R_3.out.at 2 rfl; have fR2 := R_3.out.free 2 rfl; have cR3 := R_3.out.at 3 rfl; have fR3 := R_3.out.free 3 rfl; have cR4 := R_3.out.at 4 rfl; have fR4 := R_3.out.free 4 rfl; have cR5 := R_3.out.at 5 rfl; have fR5 := R_3.out.free 5 rfl
  go_wp2
  refine bodyPost_ret (v := .agg #[.int .i64 3, .int .i64 0, .slice none 0 0, .int .i64 0, .int .i64 0, .int .i64 0]) (by simp [results, Try.results26, go_sem, cR0, cR1, cR2, cR3, cR4, cR5]) rfl ⟨none, 0, rfl, .inl rfl, ?_, fun hx => absurd (show (3 : Int) = 0 from hx) (by omega)⟩
  repeat (first | (with_reducible refine Below.setCell ?_ (by (try simp); (try omega)) _) | (with_reducible refine Below.alloc ?_ (by (try simp); (try omega)) _) | (with_reducible refine Below.drew ?_))
  exact HB3.out

set_option maxRecDepth 100000 in
set_option maxHeartbeats 3200000 in
theorem se_plain (h ac bu at_ i vl : Int) (a : Option Addr) (n c : Nat) (f : Nat → Int) (w : World) (hs : Src w a n f) (hnc : n ≤ c) (hcm : c ≤ maxLen) (y : Ob) (L : List Ob) (v : Int) (hk : IsFA h n f ac bu at_ i 0 v) (hi : 0 ≤ i ∧ i ≤ y.s - 1) (hw : -1000000000 ≤ vl ∧ vl ≤ 1000000000) (ho : IsOI h n f ac bu 0 L) (hf : findO L at_ = some y) (hb : ¬ y.m / P2 i % 2 = 1) :
    Calls Try.prog 26 #[.agg #[.int .i64 h, .slice a n c, .int .i64 ac, .int .i64 bu], .int .i64 at_, .int .i64 i, .int .i64 vl] w (RetResC w ⟨0, h, n, upd f (y.at_.toNat + 2 + i.toNat) vl, ac, bu, 0⟩) := by
  have hya : y.at_ = at_ := by simpa using List.find?_some hf
  have hpz := (isOI_zero ho).2
  obtain ⟨⟨⟨q1, q2⟩, ⟨q3, q4⟩, q5, q6⟩, qn, qw⟩ := isFault_ok (isOI_zero ho).1
  have hPUn : (baseI ac h).toNat + bu.toNat ≤ n := by rcases (by omega : ac = 0 ∨ ac = 1) with rfl | rfl <;> simp [baseI] <;> omega
  obtain ⟨⟨y1, y2⟩, _, _, ⟨y3, y4⟩, _⟩ := parse_ok hpz hPUn qw y (List.mem_of_find?_eq_some hf)
  have HSRT := Lib.hid (fun (T : Nat → GM) (hT : ∀ i, i < L.length → GSame (T i) (obT f L i)) => sorted_T hpz hT)
  have HHDS := Lib.hid (fun (T : Nat → GM) (hT : ∀ i, i < L.length → GSame (T i) (obT f L i)) => heads_T hpz hPUn qw hT)
  have HMAY := Lib.hid (fun (T : Nat → GM) (hT : ∀ i, i < L.length → GSame (T i) (obT f L i)) (o v : Int) => may_leads hpz hT o v)
  have hL4 : L.length ≤ 1048576 := by have := (isOI_small ho).1; omega
  have hat0 : 0 ≤ at_ := by omega
  have hat1 : at_ + 2 + i ≤ 399 := by omega
  have hi0 : 0 ≤ i := hi.1
  have hi1 : i ≤ 400 := by omega
  have HW : Hid (IsWrite h n f ac bu (at_ + 2 + i) vl ⟨0, h, n, upd f (y.at_.toNat + 2 + i.toNat) vl, ac, bu, 0⟩) := Lib.hid (.inr (.inr ⟨(isOI_zero ho).1, ⟨⟨by omega, by omega⟩, hw⟩, by rw [show (at_ + 2 + i).toNat = y.at_.toNat + 2 + i.toNat by omega]⟩))
  have HPZ := Lib.hid hpz; have HF := Lib.hid hf; have HO := Lib.hid ho; have HI := Lib.hid hi; have HBIT := Lib.hid hb; have HWD := Lib.hid hw
  have HS := Lib.hid hs; have HCM := Lib.hid hcm; have HK := Lib.hid hk
  clear hs hcm hk hpz hf ho hi hb hw qn qw hPUn q1 q2 q3 q4 q5 q6 y1 y2 y3 y4 hya
  go_enter Try.func26, Try.ntmps26
  go_wp2_with fail
  refine (implFA h ac bu a n c f at_ i 0 v _ ((HS.out.alloc _).alloc _) hnc HCM.out HK.out).mono ?_
  rintro e w1 ⟨rfl, hb⟩
  have HB1 := Lib.hid (thru2 (Below.refl _ _) hb)
  have A_1 := Lib.hid (((Blk.new_at (w := w) (cs := #[.int .i64 h, .slice a n c, .int .i64 ac, .int .i64 bu]) (t := 26) (w.heap.size) rfl).alloc (.cells #[.int .i64 0, .int .i64 0, .slice none 0 0, .int .i64 0, .int .i64 0, .int .i64 0] 32)).below hb)
  have R_1 := Lib.hid ((Blk.new_at (w := w.alloc (.cells #[.int .i64 h, .slice a n c, .int .i64 ac, .int .i64 bu] 26)) (cs := #[.int .i64 0, .int .i64 0, .slice none 0 0, .int .i64 0, .int .i64 0, .int .i64 0]) (t := 32) (w.heap.size + 1) (by simp)).below hb)
  have S_1 := Lib.hid (((HS.out.alloc _).alloc _).below hb)
  have z1 : w.heap.size + 2 ≤ w1.heap.size := by have := hb.size; simp at this; omega
  clear hb
  go_wp2_with fail
  refine (wordBound_any vl _).mono ?_
  rintro e w2 ⟨rfl, hb⟩
  have HB2 := Lib.hid (thru1 HB1.out hb)
  have A_2 := Lib.hid ((A_1.out.alloc _).below hb); have R_2 := Lib.hid ((R_1.out.alloc _).below hb); have S_2 := Lib.hid ((S_1.out.alloc _).below hb)
  have z2 : w1.heap.size + 1 ≤ w2.heap.size := by have := hb.size; simp at this; omega
  clear hb HB1 A_1 R_1 S_1
  go_wp2_with fail
  refine (isOut1 _ _ _ _ _ false (by simp) (.inl ⟨rfl, HWD.out⟩)).mono ?_
  rintro e w3 ⟨rfl, hb⟩
  have HB3 := Lib.hid (thru1 HB2.out hb)
  have A_3 := Lib.hid ((A_2.out.alloc _).below hb); have R_3 := Lib.hid ((R_2.out.alloc _).below hb); have S_3 := Lib.hid ((S_2.out.alloc _).below hb)
  have z3 : w2.heap.size + 1 ≤ w3.heap.size := by have := hb.size; simp at this; omega
  clear hb HB2 A_2 R_2 S_2
  have lA := A_3.out.1; have cA0 := A_3.out.at 0 rfl; have fA0 := A_3.out.free 0 rfl; have cA1 := A_3.out.at 1 rfl; have fA1 := A_3.out.free 1 rfl; have cA2 := A_3.out.at 2 rfl; have fA2 := A_3.out.free 2 rfl; have cA3 := A_3.out.at 3 rfl; have fA3 := A_3.out.free 3 rfl
  have hf37 := fld_list
  have hf44 := fld_obj
  have hf42 := fld_head
  go_wp2_with fail
  clear lA cA0 fA0 cA1 fA1 cA2 fA2 cA3 fA3
  refine (implOI h ac bu a n c f 0 L _ S_3.out hnc HCM.out HO.out).mono ?_
  rintro e w4 ⟨a1, c1, T, rfl, hg, hs1, hb, hc1, hc2⟩
  have HB4 := Lib.hid (HB3.out.trans (hb.mono HB3.out.size))
  have A_4 := Lib.hid (A_3.out.below hb); have R_4 := Lib.hid (R_3.out.below hb); have S_4 := Lib.hid (S_3.out.below hb)
  have HG := Lib.hid hg.src
  have HT := Lib.hid hs1
  have z4 := hb.size
  clear hb hg hs1 hc1 hc2 HB3 A_3 R_3 S_3
  go_wp2_with fail
  refine (find_any a1 L.length c1 T at_ _ HG.out hL4 (HSRT.out T HT.out)).mono ?_
  rintro e w5 ⟨hb, hc⟩
  have HB5 := Lib.hid (HB4.out.trans (hb.mono HB4.out.size))
  have A_5 := Lib.hid (A_4.out.below hb); have R_5 := Lib.hid (R_4.out.below hb); have S_5 := Lib.hid (S_4.out.below hb)
  have G_5 := Lib.hid (HG.out.below hb)
  have z5 := hb.size
  clear hb HB4 A_4 R_4 S_4 HG
  obtain ⟨j, hj, hat, rfl⟩ : ∃ j, j < L.length ∧ (T j).at_ = at_ ∧ e = .returned (.agg #[.int .i64 0, .int .i64 (T j).at_, .int .i64 (T j).s, .int .i64 (T j).m, .int .i64 (T j).o, .int .i64 (T j).h, .slice (T j).a (T j).n (T j).c]) := by
    rcases hc with hc | ⟨hno, _⟩
    · exact hc
    · exfalso
      have hmem := List.mem_of_find?_eq_some HF.out
      obtain ⟨j, hj, hjy⟩ := List.getElem_of_mem hmem
      have hya := List.find?_some HF.out
      refine hno j hj ?_
      rw [(HT.out j hj).1, obT_get f hj, hjy]
      show y.at_ = at_
      simpa using hya
  have hLj : L[j] = y := by
    have e1 : L[j].at_ = at_ := by rw [← hat, (HT.out j hj).1, obT_get f hj]; rfl
    have e2 := findO_at HPZ.out hj
    rw [e1, HF.out] at e2
    exact (Option.some.inj e2).symm
  have hsm := HT.out j hj
  rw [obT_get f hj, hLj] at hsm
  have HSM : Hid (GSame (T j) (obG f y)) := Lib.hid hsm
  have HHD := Lib.hid (HHDS.out T HT.out j hj).1
  clear hsm hLj hat
  obtain ⟨t, ht⟩ : ∃ t, T j = t := ⟨_, rfl⟩
  rw [ht] at HSM HHD ⊢
  have HMG := Lib.hid (HMAY.out T HT.out)
  clear ht
  go_wp2_with fail
  have HIP : Hid (IsIP t.s t.m t.o t.h i false) := Lib.hid (.inl ⟨⟨HHD.out, by rw [HSM.out.2.1]; exact HI.out⟩, by rw [HSM.out.2.2.1]; show false = (y.m / P2 i % 2 == 1); symm; simpa using HBIT.out⟩)
  refine (fieldOf_plain t.s t.m t.o t.h i vl _ HIP.out).mono ?_
  rintro e w6 ⟨rfl, hb⟩
  have HB6 := Lib.hid (thru1 HB5.out hb)
  have A_6 := Lib.hid ((A_5.out.alloc _).below hb); have R_6 := Lib.hid ((R_5.out.alloc _).below hb); have S_6 := Lib.hid ((S_5.out.alloc _).below hb)
  have G_6 := Lib.hid ((G_5.out.alloc (.cells #[.int .i64 t.s, .int .i64 t.m, .int .i64 t.o, .int .i64 t.h] 28)).below hb)
  have H_6 := Lib.hid ((Blk.new_at (w := w5) (cs := #[.int .i64 t.s, .int .i64 t.m, .int .i64 t.o, .int .i64 t.h]) (t := 28) w5.heap.size rfl).below hb)
  have z6 : w5.heap.size + 1 ≤ w6.heap.size := by have := hb.size; simp at this; omega
  clear hb HB5 A_5 R_5 S_5 G_5
  have lH := H_6.out.1; have cH0 := H_6.out.at 0 rfl; have fH0 := H_6.out.free 0 rfl; have cH1 := H_6.out.at 1 rfl; have fH1 := H_6.out.free 1 rfl; have cH2 := H_6.out.at 2 rfl; have fH2 := H_6.out.free 2 rfl; have cH3 := H_6.out.at 3 rfl; have fH3 := H_6.out.free 3 rfl
  go_wp2_with fail
  clear lH cH0 fH0 cH1 fH1 cH2 fH2 cH3 fH3
  refine (may_plain _ t.o vl _).mono ?_
  rintro e w7 ⟨rfl, hb⟩
  have HB7 := Lib.hid (HB6.out.trans (hb.mono HB6.out.size))
  have A_7 := Lib.hid (A_6.out.below hb); have R_7 := Lib.hid (R_6.out.below hb); have S_7 := Lib.hid (S_6.out.below hb)
  have z7 := hb.size
  clear hb HB6 A_6 R_6 S_6 G_6 H_6
  have hm := call_word_plain _ _ rfl
  have hw1 : IntKind.i64.wrap (at_ + 2) = at_ + 2 := IntWalk.i64_in _ (by omega)
  have hw2 : IntKind.i64.wrap (at_ + 2 + i) = at_ + 2 + i := IntWalk.i64_in _ (by omega)
  have A_d := Lib.hid A_7.out.drew; have R_d := Lib.hid R_7.out.drew; have S_d := Lib.hid S_7.out.drew; have HB_d := Lib.hid HB7.out.drew
  have zd : w.heap.size + 2 ≤ w7.drew.heap.size := by show w.heap.size + 2 ≤ w7.heap.size; omega
  go_wp2_with fail
  go_region_held3 (fun w' => w'.cell? ⟨w.heap.size, 0, none⟩ = some (.int .i64 h) ∧ w'.cell? ⟨w.heap.size, 1, none⟩ = some (.slice a n c) ∧ w'.cell? ⟨w.heap.size, 2, none⟩ = some (.int .i64 ac) ∧ w'.cell? ⟨w.heap.size, 3, none⟩ = some (.int .i64 bu))
    (first | (with_reducible exact cells4 A_d.out) | (with_reducible exact cells4 A_8.out) | (with_reducible exact cells4 A_9.out) | (with_reducible exact cells4 (blk_six A_9.out (by omega) _ _ _ _ _ _)))
    (first | (go_at_call 152; refine (word_plain vl _).mono ?_; rintro e w8 ⟨rfl, hb⟩; have HB8 := Lib.hid (HB_d.out.trans (hb.mono HB_d.out.size)); have A_8 := Lib.hid (A_d.out.below hb); have R_8 := Lib.hid (R_d.out.below hb); have S_8 := Lib.hid (S_d.out.below hb); have z8 : w.heap.size + 2 ≤ w8.heap.size := Nat.le_trans zd hb.size; clear hb) | (go_at_call 81; refine (implWriteC_any h ac bu (at_ + 2 + i) vl a n c f _ _ S_8.out hnc HCM.out HW.out).mono ?_; rintro e w9 ⟨ra, rc, rfl, hro, hb, hrm⟩; dsimp only at hro hrm; dsimp only; have HB9 := Lib.hid (HB8.out.trans (hb.mono HB8.out.size)); have A_9 := Lib.hid (A_8.out.below hb); have R_9 := Lib.hid (R_8.out.below hb); have HRO := Lib.hid (hro.mono z8); have HRM := Lib.hid hrm; have z9 := hb.size; clear hb hro hrm; have lR := R_9.out.1; have cR0 := R_9.out.at 0 rfl; have fR0 := R_9.out.free 0 rfl; have cR1 := R_9.out.at 1 rfl; have fR1 := R_9.out.free 1 rfl; have cR2 := R_9.out.at 2 rfl; have fR2 := R_9.out.free 2 rfl; have cR3 := R_9.out.at 3 rfl; have fR3 := R_9.out.free 3 rfl; have cR4 := R_9.out.at 4 rfl; have fR4 := R_9.out.free 4 rfl; have cR5 := R_9.out.at 5 rfl; have fR5 := R_9.out.free 5 rfl))
  go_wp2
  refine bodyPost_ret (v := .agg #[.int .i64 0, .int .i64 h, .slice ra n rc, .int .i64 ac, .int .i64 bu, .int .i64 0]) (by simp [results, Try.results26, go_sem, cR0, cR1, cR2, cR3, cR4, cR5]) rfl ⟨ra, rc, rfl, ?_, ?_, fun _ => HRM.out trivial⟩
  · refine Own.mono (B := w.heap.size + 2) ?_ (by omega)
    repeat (first | (with_reducible refine Own.setCell ?_ (by (try simp); (try omega)) _) | (with_reducible refine Own.alloc ?_ _) | (with_reducible refine Own.drew ?_))
    exact HRO.out
  · repeat (first | (with_reducible refine Below.setCell ?_ (by (try simp); (try omega)) _) | (with_reducible refine Below.alloc ?_ (by (try simp); (try omega)) _) | (with_reducible refine Below.drew ?_))
    exact HB9.out

set_option maxRecDepth 100000 in
set_option maxHeartbeats 3200000 in
theorem se_ptr (h ac bu at_ i vl : Int) (a : Option Addr) (n c : Nat) (f : Nat → Int) (w : World) (hs : Src w a n f) (hnc : n ≤ c) (hcm : c ≤ maxLen) (y : Ob) (L : List Ob) (v : Int) (hk : IsFA h n f ac bu at_ i 0 v) (hi : 0 ≤ i ∧ i ≤ y.s - 1) (hw : -1000000000 ≤ vl ∧ vl ≤ 1000000000) (ho : IsOI h n f ac bu 0 L) (hf : findO L at_ = some y) (hb : y.m / P2 i % 2 = 1) (hl : leadsB L y.o vl = true) :
    Calls Try.prog 26 #[.agg #[.int .i64 h, .slice a n c, .int .i64 ac, .int .i64 bu], .int .i64 at_, .int .i64 i, .int .i64 vl] w (RetResC w ⟨0, h, n, upd f (y.at_.toNat + 2 + i.toNat) vl, ac, bu, 0⟩) := by
  have HLE := Lib.hid hl
  clear hl
  have hya : y.at_ = at_ := by simpa using List.find?_some hf
  have hpz := (isOI_zero ho).2
  obtain ⟨⟨⟨q1, q2⟩, ⟨q3, q4⟩, q5, q6⟩, qn, qw⟩ := isFault_ok (isOI_zero ho).1
  have hPUn : (baseI ac h).toNat + bu.toNat ≤ n := by rcases (by omega : ac = 0 ∨ ac = 1) with rfl | rfl <;> simp [baseI] <;> omega
  obtain ⟨⟨y1, y2⟩, _, _, ⟨y3, y4⟩, _⟩ := parse_ok hpz hPUn qw y (List.mem_of_find?_eq_some hf)
  have HSRT := Lib.hid (fun (T : Nat → GM) (hT : ∀ i, i < L.length → GSame (T i) (obT f L i)) => sorted_T hpz hT)
  have HHDS := Lib.hid (fun (T : Nat → GM) (hT : ∀ i, i < L.length → GSame (T i) (obT f L i)) => heads_T hpz hPUn qw hT)
  have HMAY := Lib.hid (fun (T : Nat → GM) (hT : ∀ i, i < L.length → GSame (T i) (obT f L i)) (o v : Int) => may_leads hpz hT o v)
  have hL4 : L.length ≤ 1048576 := by have := (isOI_small ho).1; omega
  have hat0 : 0 ≤ at_ := by omega
  have hat1 : at_ + 2 + i ≤ 399 := by omega
  have hi0 : 0 ≤ i := hi.1
  have hi1 : i ≤ 400 := by omega
  have HW : Hid (IsWrite h n f ac bu (at_ + 2 + i) vl ⟨0, h, n, upd f (y.at_.toNat + 2 + i.toNat) vl, ac, bu, 0⟩) := Lib.hid (.inr (.inr ⟨(isOI_zero ho).1, ⟨⟨by omega, by omega⟩, hw⟩, by rw [show (at_ + 2 + i).toNat = y.at_.toNat + 2 + i.toNat by omega]⟩))
  have HPZ := Lib.hid hpz; have HF := Lib.hid hf; have HO := Lib.hid ho; have HI := Lib.hid hi; have HBIT := Lib.hid hb; have HWD := Lib.hid hw
  have HS := Lib.hid hs; have HCM := Lib.hid hcm; have HK := Lib.hid hk
  clear hs hcm hk hpz hf ho hi hb hw qn qw hPUn q1 q2 q3 q4 q5 q6 y1 y2 y3 y4 hya
  go_enter Try.func26, Try.ntmps26
  go_wp2_with fail
  refine (implFA h ac bu a n c f at_ i 0 v _ ((HS.out.alloc _).alloc _) hnc HCM.out HK.out).mono ?_
  rintro e w1 ⟨rfl, hb⟩
  have HB1 := Lib.hid (thru2 (Below.refl _ _) hb)
  have A_1 := Lib.hid (((Blk.new_at (w := w) (cs := #[.int .i64 h, .slice a n c, .int .i64 ac, .int .i64 bu]) (t := 26) (w.heap.size) rfl).alloc (.cells #[.int .i64 0, .int .i64 0, .slice none 0 0, .int .i64 0, .int .i64 0, .int .i64 0] 32)).below hb)
  have R_1 := Lib.hid ((Blk.new_at (w := w.alloc (.cells #[.int .i64 h, .slice a n c, .int .i64 ac, .int .i64 bu] 26)) (cs := #[.int .i64 0, .int .i64 0, .slice none 0 0, .int .i64 0, .int .i64 0, .int .i64 0]) (t := 32) (w.heap.size + 1) (by simp)).below hb)
  have S_1 := Lib.hid (((HS.out.alloc _).alloc _).below hb)
  have z1 : w.heap.size + 2 ≤ w1.heap.size := by have := hb.size; simp at this; omega
  clear hb
  go_wp2_with fail
  refine (wordBound_any vl _).mono ?_
  rintro e w2 ⟨rfl, hb⟩
  have HB2 := Lib.hid (thru1 HB1.out hb)
  have A_2 := Lib.hid ((A_1.out.alloc _).below hb); have R_2 := Lib.hid ((R_1.out.alloc _).below hb); have S_2 := Lib.hid ((S_1.out.alloc _).below hb)
  have z2 : w1.heap.size + 1 ≤ w2.heap.size := by have := hb.size; simp at this; omega
  clear hb HB1 A_1 R_1 S_1
  go_wp2_with fail
  refine (isOut1 _ _ _ _ _ false (by simp) (.inl ⟨rfl, HWD.out⟩)).mono ?_
  rintro e w3 ⟨rfl, hb⟩
  have HB3 := Lib.hid (thru1 HB2.out hb)
  have A_3 := Lib.hid ((A_2.out.alloc _).below hb); have R_3 := Lib.hid ((R_2.out.alloc _).below hb); have S_3 := Lib.hid ((S_2.out.alloc _).below hb)
  have z3 : w2.heap.size + 1 ≤ w3.heap.size := by have := hb.size; simp at this; omega
  clear hb HB2 A_2 R_2 S_2
  have lA := A_3.out.1; have cA0 := A_3.out.at 0 rfl; have fA0 := A_3.out.free 0 rfl; have cA1 := A_3.out.at 1 rfl; have fA1 := A_3.out.free 1 rfl; have cA2 := A_3.out.at 2 rfl; have fA2 := A_3.out.free 2 rfl; have cA3 := A_3.out.at 3 rfl; have fA3 := A_3.out.free 3 rfl
  have hf37 := fld_list
  have hf44 := fld_obj
  have hf42 := fld_head
  go_wp2_with fail
  clear lA cA0 fA0 cA1 fA1 cA2 fA2 cA3 fA3
  refine (implOI h ac bu a n c f 0 L _ S_3.out hnc HCM.out HO.out).mono ?_
  rintro e w4 ⟨a1, c1, T, rfl, hg, hs1, hb, hc1, hc2⟩
  have HB4 := Lib.hid (HB3.out.trans (hb.mono HB3.out.size))
  have A_4 := Lib.hid (A_3.out.below hb); have R_4 := Lib.hid (R_3.out.below hb); have S_4 := Lib.hid (S_3.out.below hb)
  have HG := Lib.hid hg.src
  have HT := Lib.hid hs1
  have z4 := hb.size
  clear hb hg hs1 hc1 hc2 HB3 A_3 R_3 S_3
  go_wp2_with fail
  refine (find_any a1 L.length c1 T at_ _ HG.out hL4 (HSRT.out T HT.out)).mono ?_
  rintro e w5 ⟨hb, hc⟩
  have HB5 := Lib.hid (HB4.out.trans (hb.mono HB4.out.size))
  have A_5 := Lib.hid (A_4.out.below hb); have R_5 := Lib.hid (R_4.out.below hb); have S_5 := Lib.hid (S_4.out.below hb)
  have G_5 := Lib.hid (HG.out.below hb)
  have z5 := hb.size
  clear hb HB4 A_4 R_4 S_4 HG
  obtain ⟨j, hj, hat, rfl⟩ : ∃ j, j < L.length ∧ (T j).at_ = at_ ∧ e = .returned (.agg #[.int .i64 0, .int .i64 (T j).at_, .int .i64 (T j).s, .int .i64 (T j).m, .int .i64 (T j).o, .int .i64 (T j).h, .slice (T j).a (T j).n (T j).c]) := by
    rcases hc with hc | ⟨hno, _⟩
    · exact hc
    · exfalso
      have hmem := List.mem_of_find?_eq_some HF.out
      obtain ⟨j, hj, hjy⟩ := List.getElem_of_mem hmem
      have hya := List.find?_some HF.out
      refine hno j hj ?_
      rw [(HT.out j hj).1, obT_get f hj, hjy]
      show y.at_ = at_
      simpa using hya
  have hLj : L[j] = y := by
    have e1 : L[j].at_ = at_ := by rw [← hat, (HT.out j hj).1, obT_get f hj]; rfl
    have e2 := findO_at HPZ.out hj
    rw [e1, HF.out] at e2
    exact (Option.some.inj e2).symm
  have hsm := HT.out j hj
  rw [obT_get f hj, hLj] at hsm
  have HSM : Hid (GSame (T j) (obG f y)) := Lib.hid hsm
  have HHD := Lib.hid (HHDS.out T HT.out j hj).1
  clear hsm hLj hat
  obtain ⟨t, ht⟩ : ∃ t, T j = t := ⟨_, rfl⟩
  rw [ht] at HSM HHD ⊢
  have HMG := Lib.hid (HMAY.out T HT.out)
  clear ht
  go_wp2_with fail
  have HIP : Hid (IsIP t.s t.m t.o t.h i true) := Lib.hid (.inl ⟨⟨HHD.out, by rw [HSM.out.2.1]; exact HI.out⟩, by rw [HSM.out.2.2.1]; show true = (y.m / P2 i % 2 == 1); symm; simpa using HBIT.out⟩)
  have HLT : Hid (MayG L.length T t.o vl) := Lib.hid ((HMG.out t.o vl).2 (by rw [HSM.out.2.2.2.1]; exact HLE.out))
  refine (fieldOf_ptr t.s t.m t.o t.h i vl _ HIP.out).mono ?_
  rintro e w6 ⟨rfl, hb⟩
  have HB6 := Lib.hid (thru1 HB5.out hb)
  have A_6 := Lib.hid ((A_5.out.alloc _).below hb); have R_6 := Lib.hid ((R_5.out.alloc _).below hb); have S_6 := Lib.hid ((S_5.out.alloc _).below hb)
  have G_6 := Lib.hid ((G_5.out.alloc (.cells #[.int .i64 t.s, .int .i64 t.m, .int .i64 t.o, .int .i64 t.h] 28)).below hb)
  have H_6 := Lib.hid ((Blk.new_at (w := w5) (cs := #[.int .i64 t.s, .int .i64 t.m, .int .i64 t.o, .int .i64 t.h]) (t := 28) w5.heap.size rfl).below hb)
  have z6 : w5.heap.size + 1 ≤ w6.heap.size := by have := hb.size; simp at this; omega
  clear hb HB5 A_5 R_5 S_5 G_5
  have lH := H_6.out.1; have cH0 := H_6.out.at 0 rfl; have fH0 := H_6.out.free 0 rfl; have cH1 := H_6.out.at 1 rfl; have fH1 := H_6.out.free 1 rfl; have cH2 := H_6.out.at 2 rfl; have fH2 := H_6.out.free 2 rfl; have cH3 := H_6.out.at 3 rfl; have fH3 := H_6.out.free 3 rfl
  go_wp2_with fail
  clear lH cH0 fH0 cH1 fH1 cH2 fH2 cH3 fH3
  refine (may_ptr a1 L.length c1 T t.o vl true _ G_6.out hL4 (HSRT.out T HT.out) HWD.out.1 HWD.out.2 ⟨fun _ => HLT.out, fun _ => rfl⟩).mono ?_
  rintro e w7 ⟨rfl, hb⟩
  have HB7 := Lib.hid (HB6.out.trans (hb.mono HB6.out.size))
  have A_7 := Lib.hid (A_6.out.below hb); have R_7 := Lib.hid (R_6.out.below hb); have S_7 := Lib.hid (S_6.out.below hb)
  have z7 := hb.size
  clear hb HB6 A_6 R_6 S_6 G_6 H_6
  have hm := call_word_ptr _ _ rfl
  have hw1 : IntKind.i64.wrap (at_ + 2) = at_ + 2 := IntWalk.i64_in _ (by omega)
  have hw2 : IntKind.i64.wrap (at_ + 2 + i) = at_ + 2 + i := IntWalk.i64_in _ (by omega)
  have A_d := Lib.hid A_7.out.drew; have R_d := Lib.hid R_7.out.drew; have S_d := Lib.hid S_7.out.drew; have HB_d := Lib.hid HB7.out.drew
  have zd : w.heap.size + 2 ≤ w7.drew.heap.size := by show w.heap.size + 2 ≤ w7.heap.size; omega
  go_wp2_with fail
  go_region_held3 (fun w' => w'.cell? ⟨w.heap.size, 0, none⟩ = some (.int .i64 h) ∧ w'.cell? ⟨w.heap.size, 1, none⟩ = some (.slice a n c) ∧ w'.cell? ⟨w.heap.size, 2, none⟩ = some (.int .i64 ac) ∧ w'.cell? ⟨w.heap.size, 3, none⟩ = some (.int .i64 bu))
    (first | (with_reducible exact cells4 A_d.out) | (with_reducible exact cells4 A_8.out) | (with_reducible exact cells4 A_9.out) | (with_reducible exact cells4 (blk_six A_9.out (by omega) _ _ _ _ _ _)))
    (first | (go_at_call 151; refine (word_ptr vl _).mono ?_; rintro e w8 ⟨rfl, hb⟩; have HB8 := Lib.hid (HB_d.out.trans (hb.mono HB_d.out.size)); have A_8 := Lib.hid (A_d.out.below hb); have R_8 := Lib.hid (R_d.out.below hb); have S_8 := Lib.hid (S_d.out.below hb); have z8 : w.heap.size + 2 ≤ w8.heap.size := Nat.le_trans zd hb.size; clear hb) | (go_at_call 81; refine (implWriteC_any h ac bu (at_ + 2 + i) vl a n c f _ _ S_8.out hnc HCM.out HW.out).mono ?_; rintro e w9 ⟨ra, rc, rfl, hro, hb, hrm⟩; dsimp only at hro hrm; dsimp only; have HB9 := Lib.hid (HB8.out.trans (hb.mono HB8.out.size)); have A_9 := Lib.hid (A_8.out.below hb); have R_9 := Lib.hid (R_8.out.below hb); have HRO := Lib.hid (hro.mono z8); have HRM := Lib.hid hrm; have z9 := hb.size; clear hb hro hrm; have lR := R_9.out.1; have cR0 := R_9.out.at 0 rfl; have fR0 := R_9.out.free 0 rfl; have cR1 := R_9.out.at 1 rfl; have fR1 := R_9.out.free 1 rfl; have cR2 := R_9.out.at 2 rfl; have fR2 := R_9.out.free 2 rfl; have cR3 := R_9.out.at 3 rfl; have fR3 := R_9.out.free 3 rfl; have cR4 := R_9.out.at 4 rfl; have fR4 := R_9.out.free 4 rfl; have cR5 := R_9.out.at 5 rfl; have fR5 := R_9.out.free 5 rfl))
  go_wp2
  refine bodyPost_ret (v := .agg #[.int .i64 0, .int .i64 h, .slice ra n rc, .int .i64 ac, .int .i64 bu, .int .i64 0]) (by simp [results, Try.results26, go_sem, cR0, cR1, cR2, cR3, cR4, cR5]) rfl ⟨ra, rc, rfl, ?_, ?_, fun _ => HRM.out trivial⟩
  · refine Own.mono (B := w.heap.size + 2) ?_ (by omega)
    repeat (first | (with_reducible refine Own.setCell ?_ (by (try simp); (try omega)) _) | (with_reducible refine Own.alloc ?_ _) | (with_reducible refine Own.drew ?_))
    exact HRO.out
  · repeat (first | (with_reducible refine Below.setCell ?_ (by (try simp); (try omega)) _) | (with_reducible refine Below.alloc ?_ (by (try simp); (try omega)) _) | (with_reducible refine Below.drew ?_))
    exact HB9.out

set_option maxRecDepth 100000 in
set_option maxHeartbeats 3200000 in
theorem se_bad (h ac bu at_ i vl : Int) (a : Option Addr) (n c : Nat) (f : Nat → Int) (w : World) (hs : Src w a n f) (hnc : n ≤ c) (hcm : c ≤ maxLen) (y : Ob) (L : List Ob) (v : Int) (hk : IsFA h n f ac bu at_ i 0 v) (hi : 0 ≤ i ∧ i ≤ y.s - 1) (hw : -1000000000 ≤ vl ∧ vl ≤ 1000000000) (ho : IsOI h n f ac bu 0 L) (hf : findO L at_ = some y) (hb : y.m / P2 i % 2 = 1) (hl : leadsB L y.o vl = false) :
    Calls Try.prog 26 #[.agg #[.int .i64 h, .slice a n c, .int .i64 ac, .int .i64 bu], .int .i64 at_, .int .i64 i, .int .i64 vl] w (RetResC w (errAR 1)) := by
  have HLE := Lib.hid hl
  clear hl
  have hya : y.at_ = at_ := by simpa using List.find?_some hf
  have hpz := (isOI_zero ho).2
  obtain ⟨⟨⟨q1, q2⟩, ⟨q3, q4⟩, q5, q6⟩, qn, qw⟩ := isFault_ok (isOI_zero ho).1
  have hPUn : (baseI ac h).toNat + bu.toNat ≤ n := by rcases (by omega : ac = 0 ∨ ac = 1) with rfl | rfl <;> simp [baseI] <;> omega
  obtain ⟨⟨y1, y2⟩, _, _, ⟨y3, y4⟩, _⟩ := parse_ok hpz hPUn qw y (List.mem_of_find?_eq_some hf)
  have HSRT := Lib.hid (fun (T : Nat → GM) (hT : ∀ i, i < L.length → GSame (T i) (obT f L i)) => sorted_T hpz hT)
  have HHDS := Lib.hid (fun (T : Nat → GM) (hT : ∀ i, i < L.length → GSame (T i) (obT f L i)) => heads_T hpz hPUn qw hT)
  have HMAY := Lib.hid (fun (T : Nat → GM) (hT : ∀ i, i < L.length → GSame (T i) (obT f L i)) (o v : Int) => may_leads hpz hT o v)
  have hL4 : L.length ≤ 1048576 := by have := (isOI_small ho).1; omega
  have hat0 : 0 ≤ at_ := by omega
  have hat1 : at_ + 2 + i ≤ 399 := by omega
  have hi0 : 0 ≤ i := hi.1
  have hi1 : i ≤ 400 := by omega
  have HW : Hid (IsWrite h n f ac bu (at_ + 2 + i) vl ⟨0, h, n, upd f (y.at_.toNat + 2 + i.toNat) vl, ac, bu, 0⟩) := Lib.hid (.inr (.inr ⟨(isOI_zero ho).1, ⟨⟨by omega, by omega⟩, hw⟩, by rw [show (at_ + 2 + i).toNat = y.at_.toNat + 2 + i.toNat by omega]⟩))
  have HPZ := Lib.hid hpz; have HF := Lib.hid hf; have HO := Lib.hid ho; have HI := Lib.hid hi; have HBIT := Lib.hid hb; have HWD := Lib.hid hw
  have HS := Lib.hid hs; have HCM := Lib.hid hcm; have HK := Lib.hid hk
  clear hs hcm hk hpz hf ho hi hb hw qn qw hPUn q1 q2 q3 q4 q5 q6 y1 y2 y3 y4 hya
  go_enter Try.func26, Try.ntmps26
  go_wp2_with fail
  refine (implFA h ac bu a n c f at_ i 0 v _ ((HS.out.alloc _).alloc _) hnc HCM.out HK.out).mono ?_
  rintro e w1 ⟨rfl, hb⟩
  have HB1 := Lib.hid (thru2 (Below.refl _ _) hb)
  have A_1 := Lib.hid (((Blk.new_at (w := w) (cs := #[.int .i64 h, .slice a n c, .int .i64 ac, .int .i64 bu]) (t := 26) (w.heap.size) rfl).alloc (.cells #[.int .i64 0, .int .i64 0, .slice none 0 0, .int .i64 0, .int .i64 0, .int .i64 0] 32)).below hb)
  have R_1 := Lib.hid ((Blk.new_at (w := w.alloc (.cells #[.int .i64 h, .slice a n c, .int .i64 ac, .int .i64 bu] 26)) (cs := #[.int .i64 0, .int .i64 0, .slice none 0 0, .int .i64 0, .int .i64 0, .int .i64 0]) (t := 32) (w.heap.size + 1) (by simp)).below hb)
  have S_1 := Lib.hid (((HS.out.alloc _).alloc _).below hb)
  have z1 : w.heap.size + 2 ≤ w1.heap.size := by have := hb.size; simp at this; omega
  clear hb
  go_wp2_with fail
  refine (wordBound_any vl _).mono ?_
  rintro e w2 ⟨rfl, hb⟩
  have HB2 := Lib.hid (thru1 HB1.out hb)
  have A_2 := Lib.hid ((A_1.out.alloc _).below hb); have R_2 := Lib.hid ((R_1.out.alloc _).below hb); have S_2 := Lib.hid ((S_1.out.alloc _).below hb)
  have z2 : w1.heap.size + 1 ≤ w2.heap.size := by have := hb.size; simp at this; omega
  clear hb HB1 A_1 R_1 S_1
  go_wp2_with fail
  refine (isOut1 _ _ _ _ _ false (by simp) (.inl ⟨rfl, HWD.out⟩)).mono ?_
  rintro e w3 ⟨rfl, hb⟩
  have HB3 := Lib.hid (thru1 HB2.out hb)
  have A_3 := Lib.hid ((A_2.out.alloc _).below hb); have R_3 := Lib.hid ((R_2.out.alloc _).below hb); have S_3 := Lib.hid ((S_2.out.alloc _).below hb)
  have z3 : w2.heap.size + 1 ≤ w3.heap.size := by have := hb.size; simp at this; omega
  clear hb HB2 A_2 R_2 S_2
  have lA := A_3.out.1; have cA0 := A_3.out.at 0 rfl; have fA0 := A_3.out.free 0 rfl; have cA1 := A_3.out.at 1 rfl; have fA1 := A_3.out.free 1 rfl; have cA2 := A_3.out.at 2 rfl; have fA2 := A_3.out.free 2 rfl; have cA3 := A_3.out.at 3 rfl; have fA3 := A_3.out.free 3 rfl
  have hf37 := fld_list
  have hf44 := fld_obj
  have hf42 := fld_head
  go_wp2_with fail
  clear lA cA0 fA0 cA1 fA1 cA2 fA2 cA3 fA3
  refine (implOI h ac bu a n c f 0 L _ S_3.out hnc HCM.out HO.out).mono ?_
  rintro e w4 ⟨a1, c1, T, rfl, hg, hs1, hb, hc1, hc2⟩
  have HB4 := Lib.hid (HB3.out.trans (hb.mono HB3.out.size))
  have A_4 := Lib.hid (A_3.out.below hb); have R_4 := Lib.hid (R_3.out.below hb); have S_4 := Lib.hid (S_3.out.below hb)
  have HG := Lib.hid hg.src
  have HT := Lib.hid hs1
  have z4 := hb.size
  clear hb hg hs1 hc1 hc2 HB3 A_3 R_3 S_3
  go_wp2_with fail
  refine (find_any a1 L.length c1 T at_ _ HG.out hL4 (HSRT.out T HT.out)).mono ?_
  rintro e w5 ⟨hb, hc⟩
  have HB5 := Lib.hid (HB4.out.trans (hb.mono HB4.out.size))
  have A_5 := Lib.hid (A_4.out.below hb); have R_5 := Lib.hid (R_4.out.below hb); have S_5 := Lib.hid (S_4.out.below hb)
  have G_5 := Lib.hid (HG.out.below hb)
  have z5 := hb.size
  clear hb HB4 A_4 R_4 S_4 HG
  obtain ⟨j, hj, hat, rfl⟩ : ∃ j, j < L.length ∧ (T j).at_ = at_ ∧ e = .returned (.agg #[.int .i64 0, .int .i64 (T j).at_, .int .i64 (T j).s, .int .i64 (T j).m, .int .i64 (T j).o, .int .i64 (T j).h, .slice (T j).a (T j).n (T j).c]) := by
    rcases hc with hc | ⟨hno, _⟩
    · exact hc
    · exfalso
      have hmem := List.mem_of_find?_eq_some HF.out
      obtain ⟨j, hj, hjy⟩ := List.getElem_of_mem hmem
      have hya := List.find?_some HF.out
      refine hno j hj ?_
      rw [(HT.out j hj).1, obT_get f hj, hjy]
      show y.at_ = at_
      simpa using hya
  have hLj : L[j] = y := by
    have e1 : L[j].at_ = at_ := by rw [← hat, (HT.out j hj).1, obT_get f hj]; rfl
    have e2 := findO_at HPZ.out hj
    rw [e1, HF.out] at e2
    exact (Option.some.inj e2).symm
  have hsm := HT.out j hj
  rw [obT_get f hj, hLj] at hsm
  have HSM : Hid (GSame (T j) (obG f y)) := Lib.hid hsm
  have HHD := Lib.hid (HHDS.out T HT.out j hj).1
  clear hsm hLj hat
  obtain ⟨t, ht⟩ : ∃ t, T j = t := ⟨_, rfl⟩
  rw [ht] at HSM HHD ⊢
  have HMG := Lib.hid (HMAY.out T HT.out)
  clear ht
  go_wp2_with fail
  have HIP : Hid (IsIP t.s t.m t.o t.h i true) := Lib.hid (.inl ⟨⟨HHD.out, by rw [HSM.out.2.1]; exact HI.out⟩, by rw [HSM.out.2.2.1]; show true = (y.m / P2 i % 2 == 1); symm; simpa using HBIT.out⟩)
  have HLT : Hid (¬ MayG L.length T t.o vl) := Lib.hid (fun hx => by
    have h1 := (HMG.out t.o vl).1 hx
    have h2 : leadsB L y.o vl = true := by rw [← show t.o = y.o from HSM.out.2.2.2.1]; exact h1
    rw [HLE.out] at h2; cases h2)
  refine (fieldOf_ptr t.s t.m t.o t.h i vl _ HIP.out).mono ?_
  rintro e w6 ⟨rfl, hb⟩
  have HB6 := Lib.hid (thru1 HB5.out hb)
  have A_6 := Lib.hid ((A_5.out.alloc _).below hb); have R_6 := Lib.hid ((R_5.out.alloc _).below hb); have S_6 := Lib.hid ((S_5.out.alloc _).below hb)
  have G_6 := Lib.hid ((G_5.out.alloc (.cells #[.int .i64 t.s, .int .i64 t.m, .int .i64 t.o, .int .i64 t.h] 28)).below hb)
  have H_6 := Lib.hid ((Blk.new_at (w := w5) (cs := #[.int .i64 t.s, .int .i64 t.m, .int .i64 t.o, .int .i64 t.h]) (t := 28) w5.heap.size rfl).below hb)
  have z6 : w5.heap.size + 1 ≤ w6.heap.size := by have := hb.size; simp at this; omega
  clear hb HB5 A_5 R_5 S_5 G_5
  have lH := H_6.out.1; have cH0 := H_6.out.at 0 rfl; have fH0 := H_6.out.free 0 rfl; have cH1 := H_6.out.at 1 rfl; have fH1 := H_6.out.free 1 rfl; have cH2 := H_6.out.at 2 rfl; have fH2 := H_6.out.free 2 rfl; have cH3 := H_6.out.at 3 rfl; have fH3 := H_6.out.free 3 rfl
  go_wp2_with fail
  clear lH cH0 fH0 cH1 fH1 cH2 fH2 cH3 fH3
  refine (may_ptr a1 L.length c1 T t.o vl false _ G_6.out hL4 (HSRT.out T HT.out) HWD.out.1 HWD.out.2 ⟨fun hx => (by cases hx), fun hx => absurd hx HLT.out⟩).mono ?_
  rintro e w7 ⟨rfl, hb⟩
  have HB7 := Lib.hid (HB6.out.trans (hb.mono HB6.out.size))
  have A_7 := Lib.hid (A_6.out.below hb); have R_7 := Lib.hid (R_6.out.below hb); have S_7 := Lib.hid (S_6.out.below hb)
  have z7 := hb.size
  clear hb HB6 A_6 R_6 S_6 G_6 H_6
  have lR := R_7.out.1; have cR0 := R_7.out.at 0 rfl; have fR0 := R_7.out.free 0 rfl; have cR1 := R_7.out.at 1 rfl; have fR1 := R_7.out.free 1 rfl; have cR2 := R_7.out.at 2 rfl; have fR2 := R_7.out.free 2 rfl; have cR3 := R_7.out.at 3 rfl; have fR3 := R_7.out.free 3 rfl; have cR4 := R_7.out.at 4 rfl; have fR4 := R_7.out.free 4 rfl; have cR5 := R_7.out.at 5 rfl; have fR5 := R_7.out.free 5 rfl
  go_wp2
  refine bodyPost_ret (v := .agg #[.int .i64 1, .int .i64 0, .slice none 0 0, .int .i64 0, .int .i64 0, .int .i64 0]) (by simp [results, Try.results26, go_sem, cR0, cR1, cR2, cR3, cR4, cR5]) rfl ⟨none, 0, rfl, .inl rfl, ?_, fun hx => absurd (show (1 : Int) = 0 from hx) (by omega)⟩
  repeat (first | (with_reducible refine Below.setCell ?_ (by (try simp); (try omega)) _) | (with_reducible refine Below.alloc ?_ (by (try simp); (try omega)) _) | (with_reducible refine Below.drew ?_))
  exact HB7.out

theorem implSetC : ImplSetC := fun h ac bu a n c f at_ i vl r w hs hnc hcm hk => by
  rcases hk with ⟨k, h1, h2, rfl⟩ | ⟨y, h1, ⟨h2, rfl⟩ | ⟨h2, h3, rfl⟩ | ⟨h2, h3, L, h4, rfl⟩⟩
  · exact se_code h ac bu at_ i vl a n c f w hs hnc hcm k 0 ⟨k, none, h1, .inl ⟨h2, rfl, rfl⟩⟩ h2
  · exact se_code h ac bu at_ i vl a n c f w hs hnc hcm 3 0 ⟨0, some y, h1, .inr ⟨y, rfl, rfl, .inl ⟨h2, rfl, rfl⟩⟩⟩ (by omega)
  · exact se_word h ac bu at_ i vl a n c f w hs hnc hcm _ ⟨0, some y, h1, .inr ⟨y, rfl, rfl, .inr ⟨h2, rfl, rfl⟩⟩⟩ h3
  · obtain ⟨L', h5, h6, _⟩ := isAt_list h1
    have hLL : L' = L := by
      have e1 := (isOI_zero h5).2
      rw [(isOI_zero h4).2] at e1
      exact (Option.some.inj e1).symm
    subst hLL
    have hfa : IsFA h n f ac bu at_ i 0 (f (y.at_.toNat + 2 + i.toNat)) := ⟨0, some y, h1, .inr ⟨y, rfl, rfl, .inr ⟨h2, rfl, rfl⟩⟩⟩
    by_cases hb : y.m / P2 i % 2 = 1
    · cases hl : leadsB L' y.o vl
      · rw [if_pos ⟨by simpa using hb, rfl⟩]
        exact se_bad h ac bu at_ i vl a n c f w hs hnc hcm y L' _ hfa h2 h3 h4 h6 hb hl
      · rw [if_neg (fun hx => by cases hx.2)]
        exact se_ptr h ac bu at_ i vl a n c f w hs hnc hcm y L' _ hfa h2 h3 h4 h6 hb hl
    · rw [if_neg (fun hx => hb (by simpa using hx.1))]
      exact se_plain h ac bu at_ i vl a n c f w hs hnc hcm y L' _ hfa h2 h3 h4 h6 hb
end Go.Proofs.Ytlelgfkebcnepaa

