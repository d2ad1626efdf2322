/- Texts merged: S7 to U3. -/
import Derived.Test.YtdgppcaeknbnjaaVRE3
import Derived.Maps.Own
import Derived.Maps.OwnOps
import Derived.Maps.OwnSet
import Derived.OneCell
import Derived.WalkMore
namespace Go.Proofs.Ytdgppcaeknbnjaa
open Go.RowKit Go.Maps
set_option linter.unusedVariables false

theorem Try.underlyingMap : Try.prog.underlying 74 = some (.map 2 2) := by kernel_rfl

theorem Try.underlyingI : Try.prog.underlying 2 = some (.int .i64) := by kernel_rfl

theorem keyI : Keyed Try.prog 2 := int_keyed Try.underlyingI

theorem zeroI (w : World) : (zeroValue 2).run Try.prog w = .ok (.int .i64 0) w := by kernel_rfl

theorem wfI {p : Int} (h : -1000000000 ≤ p ∧ p ≤ 1000000000) : (Lit.int .i64 p).wf = true := WalkArith.wf_i64 (by omega)

/-- A block is a map in which the i-th of a list has the i-th value, and nothing else is there. -/
def MapT (w : World) (b n : Nat) (R : List Int) (v : Nat → Int) : Prop :=
  ∃ D : DataW Unit, w.ownsMap Try.prog 2 (plainElem Try.prog 2) b n D ∧ ∀ p, (Lit.int .i64 p).wf = true → Maps.has D (.int .i64 p) = decide (p ∈ R) ∧ D.atKey (.int .i64 p) (.lit (.int .i64 0)) = .lit (.int .i64 ((tab R v p).getD 0))

section

variable {w : World} {b n : Nat} {R : List Int} {v : Nat → Int} {p : Int}

theorem MapT.lt (h : MapT w b n R v) : b < w.heap.size := by obtain ⟨D, h1, _⟩ := h; exact h1.lt

theorem MapT.block {w' : World} (h : MapT w b n R v) (hb : w'.heap[b]? = w.heap[b]?) : MapT w' b n R v := by
  obtain ⟨D, ⟨es, clock, h1, h2⟩, h3⟩ := h
  exact ⟨D, ⟨es, clock, hb.trans h1, h2⟩, h3⟩

theorem MapT.below {w' : World} (h : MapT w b n R v) (hb : Below w.heap.size w w') : MapT w' b n R v := h.block (hb.block b h.lt)

theorem MapT.alloc (h : MapT w b n R v) (o : Obj) : MapT (w.alloc o) b n R v := h.below ((Below.refl _ _).alloc (Nat.le_refl _) o)

theorem MapT.drew (h : MapT w b n R v) : MapT w.drew b n R v := h.below (Below.refl _ _).drew

theorem MapT.drewN (h : MapT w b n R v) (q : Nat) : MapT (w.drewN q) b n R v := h.below (drewN_below w q)

theorem MapT.grown {w' : World} {row : Option Nat} (h : MapT w b n R v) (hg : w.grownBy w' row) (hne : row ≠ some b) : MapT w' b n R v := h.block (hg.block b h.lt (fun e => hne e.symm))

theorem MapT.set (h : MapT w b n R v) {p : Addr} (hp : b ≠ p.block) (u : Value) : MapT (w.setCell p u) b n R v := h.block (Below.heap_setCell _ _ _ b hp)

theorem MapT.made (w : World) (v : Nat → Int) : MapT (w.alloc (.map #[] 0)) w.heap.size 0 [] v := ⟨.map [], World.ownsMap_made _ _ _ _, fun p _ => ⟨by simp [Maps.has_eq], by simp [tab_nil]; rfl⟩⟩

theorem MapT.look_ok (h : MapT w b n R v) (hp : -1000000000 ≤ p ∧ p ≤ 1000000000) : (Instr.lookup 74 (.map (some b)) (.int .i64 p) true).run Try.prog w = .ok (.tuple #[.int .i64 ((tab R v p).getD 0), .bool (decide (p ∈ R))]) w := by
  obtain ⟨D, h1, h2⟩ := h
  obtain ⟨x, ps, hr, hx⟩ := h1.look_ok keyI Try.underlyingMap (zeroI w) (plainElem_int Try.underlyingI (wfI (p := 0) (by omega))) (keyOf_int_mk Try.underlyingI (wfI hp))
  obtain ⟨h3, h4⟩ := h2 p (wfI hp)
  rw [h4] at hx
  obtain ⟨c, rfl, hc, _⟩ := plainElem_int_inv Try.underlyingI hx
  have : (tab R v p).getD 0 = c := by simpa using congrArg Prod.fst hc
  rw [hr, h3, this]

theorem MapT.update (h : MapT w b n R v) (hn : n < maxLen) (hp : -1000000000 ≤ p ∧ p ≤ 1000000000) (hv : -1000000000 ≤ v R.length ∧ v R.length ≤ 1000000000) (hq : p ∉ R) : ∃ w', (Instr.mapUpdate 74 (.map (some b)) (.int .i64 p) (.int .i64 (v R.length))).run Try.prog w = .ok () w' ∧ MapT w' b (n + 1) (R ++ [p]) v ∧ w.grownBy w' (some b) := by
  obtain ⟨D, h1, h2⟩ := h
  obtain ⟨w', hr, h3, h4⟩ := h1.update keyI Try.underlyingMap hn (keyOf_int_mk Try.underlyingI (wfI hp)) (plainElem_int Try.underlyingI (wfI hv))
  refine ⟨w', hr, ⟨_, h3, fun q hwq => ?_⟩, h4⟩
  have hk : WideAt.IsKeyLit (Lit.int .i64 p) := by trivial
  by_cases e : q = p
  · subst e
    refine ⟨by rw [Maps.has_put_same h1.isMap hk]; simp, ?_⟩
    rw [Maps.atKey_put_same h1.isMap hk, tab_snoc hq, if_pos rfl]; rfl
  · have hne : Lit.int .i64 q ≠ Lit.int .i64 p := fun h => e (by simpa using h)
    refine ⟨by rw [Maps.has_put_other hne, (h2 q hwq).1]; simp [e], ?_⟩
    rw [Maps.atKey_put_other hne, (h2 q hwq).2, tab_snoc hq, if_neg e]

end

/-- A row of objects is read. -/
theorem rowG_GV {w : World} {base : Nat} {v : Value} {M : List GM} (h : w.ownsRow base 44 6 v M.length (rowG M)) (hf : ∀ t ∈ M, Src w t.a t.n t.f) : ∃ a c, v = .slice a M.length c ∧ GV w a M.length (gT M) := by
  rcases Nat.eq_zero_or_pos M.length with h0 | hp
  · rcases h.2 with ⟨h1, h2⟩ | ⟨g, cap, cur, h1, _⟩
    · exact ⟨none, 0, by rw [h1, h2], .inl h0⟩
    · exact ⟨_, _, h1, .inl h0⟩
  · obtain ⟨g, cap, rfl, hb, hlt⟩ := h.form hp
    have hce : ∀ i t, M[i]? = some t → ∀ j u, (gcells t)[j]? = some u → w.cell? ⟨g, i * 6 + j, none⟩ = some u := fun i t ht j u hu => by
      have hi : i < M.length := (List.getElem?_eq_some_iff.mp ht).1
      have hj : j < 6 := by
        have := (List.getElem?_eq_some_iff.mp hu).1
        simpa [gcells] using this
      have hc := h.cellAt (i * 6 + j) (by omega)
      rw [rowG_get M i t ht j hj, hu] at hc
      simpa using hc
    refine ⟨_, _, rfl, .inr ⟨g, 0, rfl, hlt, fun i hi => ?_, fun i hi => ?_⟩⟩
    · have ht := List.getElem?_eq_getElem hi
      rw [gT_at ht, Nat.zero_add]
      exact ⟨hce i _ ht 0 _ rfl, hce i _ ht 1 _ rfl, hce i _ ht 2 _ rfl, hce i _ ht 3 _ rfl, hce i _ ht 4 _ rfl, hce i _ ht 5 _ rfl⟩
    · rw [gT_at (List.getElem?_eq_getElem hi)]
      exact hf _ (List.getElem_mem hi)
end Go.Proofs.Ytdgppcaeknbnjaa

namespace Go.Proofs.Ytdgppcaeknbnjaa
open Go.RowKit Go.Maps
set_option linter.unusedVariables false

/-- Where a field of an object leads, in the program's words. -/
def tgtV (t : GM) (k : Nat) : Option Int := if t.m / P2 (k : Int) % 2 = 1 ∧ ¬ t.f k = 0 then some (t.f k - 1) else none

def RetTgt (W : World) (r : Option Int) (e : Ending) (w' : World) : Prop := Below W.heap.size W w' ∧ e = .returned (.tuple #[.int .i64 (r.getD 0), .bool r.isSome])

theorem mid5 {w : World} {b : Nat} {v0 v1 v2 v3 v4 v5 u : Value} {p : Addr} (h : Blk w b [v0, v1, v2, v3, v4, v5]) (hp : w.cell? p = some u) : w.cell? ⟨b, 1, none⟩ = some v1 ∧ w.cell? ⟨b, 2, none⟩ = some v2 ∧ w.cell? ⟨b, 3, none⟩ = some v3 ∧ w.cell? ⟨b, 4, none⟩ = some v4 ∧ w.cell? ⟨b, 5, none⟩ = some v5 ∧ w.cell? p = some u := ⟨h.at 1 rfl, h.at 2 rfl, h.at 3 rfl, h.at 4 rfl, h.at 5 rfl, hp⟩

set_option maxRecDepth 100000 in
set_option maxHeartbeats 3200000 in
theorem target_any (t : GM) (k : Nat) (w : World) (hs : Src w t.a t.n t.f) (hk : k < t.n) (hok : HOk t.s t.m t.o t.h) (htn : t.n = t.s.toNat) (hwd : -1000000000 ≤ t.f k ∧ t.f k ≤ 1000000000) :
    Calls Try.prog 114 #[.agg #[.int .i64 t.at_, .int .i64 t.s, .int .i64 t.m, .int .i64 t.o, .int .i64 t.h, .slice t.a t.n t.c], .int .i64 (k : Int)] w (RetTgt w (tgtV t k)) := by
  have ht12 : t.n ≤ 12 := by have := hok.1; omega
  have hst : t.s = (t.n : Int) := by have := hok.1; omega
  obtain ⟨tb, tf, hta, ltb, hck⟩ : ∃ tb tf, t.a = some ⟨tb, tf, none⟩ ∧ tb < w.heap.size ∧ w.cell? ⟨tb, tf + k, none⟩ = some (.int .i64 (t.f k)) := by
    rcases hs with h0 | ⟨tb, tf, h1, h2, h3⟩
    · omega
    · exact ⟨tb, tf, h1, h2, h3 k hk⟩
  obtain ⟨hw1, hw2⟩ := hwd
  have hk' : (k : Int) < (t.n : Int) := by omega
  have hk0 : (0 : Int) ≤ (k : Int) := by omega
  have hkI : (0 : Int) ≤ (k : Int) ∧ (k : Int) ≤ t.s - 1 := by omega
  have HIP : Hid (∃ r, IsIP t.s t.m t.o t.h (k : Int) r ∧ r = (t.m / P2 (k : Int) % 2 == 1)) := Lib.hid ⟨_, .inl ⟨⟨hok, hkI⟩, rfl⟩, rfl⟩
  obtain ⟨r, hip, hr⟩ := HIP.out
  have HI := Lib.hid hip; have HR := Lib.hid hr
  obtain ⟨y, hy⟩ : ∃ y, t.f k = y := ⟨_, rfl⟩
  have HY := Lib.hid hy
  rw [hy] at hck hw1 hw2
  rw [hta]
  have ha1 : ∀ (v : Int) (w : World), (Instr.typeAssert (fieldV true v) 156 151 true).run Try.prog w = .ok (.tuple #[.int .i64 v, .bool true]) w := fun v w => as_ptr _ w
  have ha2 : ∀ (v : Int) (w : World), (Instr.typeAssert (fieldV false v) 156 151 true).run Try.prog w = .ok (.tuple #[.int .i64 0, .bool false]) w := fun v w => as_plain _ w
  have X0 := Lib.hid (Blk.new_at (w := w) (cs := #[.int .i64 t.at_, .int .i64 t.s, .int .i64 t.m, .int .i64 t.o, .int .i64 t.h, .slice (some ⟨tb, tf, none⟩) t.n t.c]) (t := 44) w.heap.size rfl)
  have HB0 := Lib.hid ((Below.refl w.heap.size w).alloc (Nat.le_refl _) (.cells #[.int .i64 t.at_, .int .i64 t.s, .int .i64 t.m, .int .i64 t.o, .int .i64 t.h, .slice (some ⟨tb, tf, none⟩) t.n t.c] 44))
  have c0 := HB0.out.cell (p := ⟨tb, tf + k, none⟩) ltb
  rw [hck] at c0
  clear hip hr hs hok hta hck hkI HIP hy htn hst
  go_enter Try.func114, Try.ntmps114
  go_wp2_with fail
  have Xd := Lib.hid X0.out.drew
  have zz : w.heap.size + 1 ≤ (w.alloc (.cells #[.int .i64 t.at_, .int .i64 t.s, .int .i64 t.m, .int .i64 t.o, .int .i64 t.h, .slice (some ⟨tb, tf, none⟩) t.n t.c] 44)).heap.size := by simp
  have lt0 : tb < (w.alloc (.cells #[.int .i64 t.at_, .int .i64 t.s, .int .i64 t.m, .int .i64 t.o, .int .i64 t.h, .slice (some ⟨tb, tf, none⟩) t.n t.c] 44)).heap.size := by omega
  generalize w.alloc (.cells #[.int .i64 t.at_, .int .i64 t.s, .int .i64 t.m, .int .i64 t.o, .int .i64 t.h, .slice (some ⟨tb, tf, none⟩) t.n t.c] 44) = w0 at *
  have cd : w0.drew.cell? ⟨tb, tf + k, none⟩ = some (.int .i64 y) := by simpa using c0
  have ltd : tb < w0.drew.heap.size := by simpa using lt0
  cases r with
  | true =>
    have hd : t.m / P2 (k : Int) % 2 = 1 := by have := HR.out; simpa using this.symm
    go_region_held3 (fun w' => w'.cell? ⟨w.heap.size, 1, none⟩ = some (.int .i64 t.s) ∧ w'.cell? ⟨w.heap.size, 2, none⟩ = some (.int .i64 t.m) ∧ w'.cell? ⟨w.heap.size, 3, none⟩ = some (.int .i64 t.o) ∧ w'.cell? ⟨w.heap.size, 4, none⟩ = some (.int .i64 t.h) ∧ w'.cell? ⟨w.heap.size, 5, none⟩ = some (.slice (some ⟨tb, tf, none⟩) t.n t.c) ∧ w'.cell? ⟨tb, tf + k, none⟩ = some (.int .i64 y))
      (first | (with_reducible exact mid5 X0.out c0) | (with_reducible exact mid5 Xd.out cd) | (with_reducible exact mid5 X2.out c2))
      (first | (go_at_call 125; (refine (fieldOf_any t.s t.m t.o t.h (k : Int) y true _ HI.out).mono ?_; rintro e w2 ⟨rfl, hb⟩; have HB2 := Lib.hid ((HB0.out.drew).trans (hb.mono (by simp; omega))); have X2 := Lib.hid (Xd.out.below hb); have c2 := (hb.cell (p := ⟨tb, tf + k, none⟩) ltd).trans cd; clear hb)))
    by_cases h0 : y = 0
    · have HT : Hid (tgtV t k = none) := Lib.hid (by unfold tgtV; rw [HY.out, if_neg (fun h => h.2 h0)])
      subst h0
      go_wp2
      refine bodyPost_ret (v := .tuple #[.int .i64 0, .bool false]) (by simp [results, Try.results114, go_sem]) rfl ?_
      rw [HT.out]
      exact ⟨HB2.out, rfl⟩
    · have HT : Hid (tgtV t k = some (y - 1)) := Lib.hid (by unfold tgtV; rw [HY.out, if_pos ⟨hd, h0⟩])
      have h0' : (y == 0) = false := by simpa using h0
      clear hd
      go_wp2_with fail
      refine (place_any y _ hw1 hw2).mono ?_
      rintro e w3 ⟨rfl, hb⟩
      have HB3 := Lib.hid (HB2.out.trans (hb.mono HB2.out.size))
      clear hb
      go_wp2
      refine bodyPost_ret (v := .tuple #[.int .i64 (y - 1), .bool true]) (by simp [results, Try.results114, go_sem]) rfl ?_
      rw [HT.out]
      exact ⟨HB3.out, rfl⟩
  | false =>
    have hd : ¬ t.m / P2 (k : Int) % 2 = 1 := by have := HR.out; simpa using this.symm
    have HT : Hid (tgtV t k = none) := Lib.hid (by unfold tgtV; rw [if_neg (fun h => hd h.1)])
    clear hd
    go_region_held3 (fun w' => w'.cell? ⟨w.heap.size, 1, none⟩ = some (.int .i64 t.s) ∧ w'.cell? ⟨w.heap.size, 2, none⟩ = some (.int .i64 t.m) ∧ w'.cell? ⟨w.heap.size, 3, none⟩ = some (.int .i64 t.o) ∧ w'.cell? ⟨w.heap.size, 4, none⟩ = some (.int .i64 t.h) ∧ w'.cell? ⟨w.heap.size, 5, none⟩ = some (.slice (some ⟨tb, tf, none⟩) t.n t.c) ∧ w'.cell? ⟨tb, tf + k, none⟩ = some (.int .i64 y))
      (first | (with_reducible exact mid5 X0.out c0) | (with_reducible exact mid5 Xd.out cd) | (with_reducible exact mid5 X2.out c2))
      (first | (go_at_call 125; (refine (fieldOf_any t.s t.m t.o t.h (k : Int) y false _ HI.out).mono ?_; rintro e w2 ⟨rfl, hb⟩; have HB2 := Lib.hid ((HB0.out.drew).trans (hb.mono (by simp; omega))); have X2 := Lib.hid (Xd.out.below hb); have c2 := (hb.cell (p := ⟨tb, tf + k, none⟩) ltd).trans cd; clear hb)))
    go_wp2
    refine bodyPost_ret (v := .tuple #[.int .i64 0, .bool false]) (by simp [results, Try.results114, go_sem]) rfl ?_
    rw [HT.out]
    exact ⟨HB2.out, rfl⟩
end Go.Proofs.Ytdgppcaeknbnjaa

namespace Go.Proofs.Ytdgppcaeknbnjaa
open Go.RowKit Go.Maps
set_option linter.unusedVariables false

theorem Try.infoOb9 : (Try.prog.info? 44).map (fun i => (i.zero, i.size, i.bytes)) = some (some (.agg #[.int .i64 0, .int .i64 0, .int .i64 0, .int .i64 0, .int .i64 0, .slice none 0 0]), 6, 64) := by kernel_rfl

/-- What is reached so far, as the program has it: in the block rb, with the map mb and the row v. -/
structure RS (w : World) (base rb mb : Nat) (v : Value) (M : List GM) (f : Nat → Int) (L : List Ob) (O : List Int) : Prop where
  blk : Blk w rb [.int .i64 0, v, .map (some mb)]
  hrb : base ≤ rb
  hmb : base ≤ mb
  hne : mb ≠ rb
  vr : v.ownBlock ≠ some rb
  vm : v.ownBlock ≠ some mb
  row : w.ownsRow base 44 6 v M.length (rowG M)
  map : MapT w mb O.length O (fun i => (i : Int))
  len : M.length = O.length
  src : ∀ t ∈ M, Src w t.a t.n t.f ∧ (t.n = 0 ∨ t.g + 1 < base)
  same : ∀ i t, M[i]? = some t → ∃ x, findO L (lf O i) = some x ∧ GSame t (obG f x)

section

variable {w w' : World} {base rb mb : Nat} {v : Value} {M : List GM} {f : Nat → Int} {L : List Ob} {O : List Int}

theorem RS.below (h : RS w base rb mb v M f L O) (hb : Below w.heap.size w w') : RS w' base rb mb v M f L O :=
  ⟨h.blk.below hb, h.hrb, h.hmb, h.hne, h.vr, h.vm, ownsRow_below h.row hb, h.map.below hb, h.len, fun t ht => ⟨(h.src t ht).1.below hb, (h.src t ht).2⟩, h.same⟩

theorem src_far {base : Nat} {t : GM} (h : Src w t.a t.n t.f) (hg : t.n = 0 ∨ t.g + 1 < base) (hb : Below base w w') (hz : w.heap.size ≤ w'.heap.size) : Src w' t.a t.n t.f := by
  rcases h with h0 | ⟨b, o, e1, h2, h3⟩
  · exact .inl h0
  · rcases hg with h0 | hg
    · exact .inl h0
    · have hg' : b < base := by have : t.g = b := (by simp [GM.g, e1]); omega
      exact .inr ⟨b, o, e1, by omega, fun i hi => (World.cell?_of_block (w := w) (a := ⟨b, o + i, none⟩) (hb.block b hg')).trans (h3 i hi)⟩

theorem RS.set (h : RS w base rb mb v M f L O) {p : Addr} (hp : p.block + 1 = base) (u : Value) : RS (w.setCell p u) base rb mb v M f L O := by
  have h1 := h.hrb; have h2 := h.hmb
  refine ⟨h.blk.other (by omega) _, h.hrb, h.hmb, h.hne, h.vr, h.vm, row_set h.row (by omega) _, h.map.set (by omega) _, h.len, fun t ht => ⟨?_, (h.src t ht).2⟩, h.same⟩
  obtain ⟨h3, h4⟩ := h.src t ht
  rcases h3 with h0 | ⟨b, o, e1, h5, h6⟩
  · exact .inl h0
  · rcases h4 with h0 | h4
    · exact .inl h0
    · have : t.g = b := (by simp [GM.g, e1])
      exact .inr ⟨b, o, e1, by simpa using h5, fun i hi => (World.cell?_of_block (w := w) (a := ⟨b, o + i, none⟩) (Below.heap_setCell _ _ _ b (by omega))).trans (h6 i hi)⟩

theorem RS.out (h : RS w base rb mb v M f L O) : ∃ a c, v = .slice a M.length c ∧ GV w a M.length (gT M) := rowG_GV h.row (fun t ht => (h.src t ht).1)

end

set_option maxRecDepth 100000 in
set_option maxHeartbeats 1600000 in
theorem add_old (base rb mb : Nat) (v : Value) (M : List GM) (f : Nat → Int) (L : List Ob) (O : List Int) (t : GM) (w : World) (h : RS w base rb mb v M f L O) (hp : -1000000000 ≤ t.at_ ∧ t.at_ ≤ 1000000000) (hin : t.at_ ∈ O) (hz : base ≤ w.heap.size) :
    Calls Try.prog 113 #[.pointer (some ⟨rb, 0, none⟩), .agg #[.int .i64 t.at_, .int .i64 t.s, .int .i64 t.m, .int .i64 t.o, .int .i64 t.h, .slice t.a t.n t.c]] w fun e w' => e = .returned (.tuple #[]) ∧ Below base w w' ∧ w.heap.size ≤ w'.heap.size ∧ RS w' base rb mb v M f L O := by
  have H := Lib.hid h
  have hd : decide (t.at_ ∈ O) = true := decide_eq_true hin
  have X0 := Lib.hid (Blk.new_at (w := w) (cs := #[.int .i64 t.at_, .int .i64 t.s, .int .i64 t.m, .int .i64 t.o, .int .i64 t.h, .slice t.a t.n t.c]) (t := 44) w.heap.size rfl)
  have B0 := Lib.hid (h.blk.alloc (.cells #[.int .i64 t.at_, .int .i64 t.s, .int .i64 t.m, .int .i64 t.o, .int .i64 t.h, .slice t.a t.n t.c] 44))
  have HB0 := Lib.hid ((Below.refl w.heap.size w).alloc (Nat.le_refl _) (.cells #[.int .i64 t.at_, .int .i64 t.s, .int .i64 t.m, .int .i64 t.o, .int .i64 t.h, .slice t.a t.n t.c] 44))
  have hlk := fun q => ((h.map.alloc (.cells #[.int .i64 t.at_, .int .i64 t.s, .int .i64 t.m, .int .i64 t.o, .int .i64 t.h, .slice t.a t.n t.c] 44)).drewN q).look_ok hp
  rw [hd] at hlk
  clear h
  go_enter Try.func113, Try.ntmps113
  go_wp2_with fail
  have zz : w.heap.size + 1 ≤ (w.alloc (.cells #[.int .i64 t.at_, .int .i64 t.s, .int .i64 t.m, .int .i64 t.o, .int .i64 t.h, .slice t.a t.n t.c] 44)).heap.size := by simp
  generalize w.alloc (.cells #[.int .i64 t.at_, .int .i64 t.s, .int .i64 t.m, .int .i64 t.o, .int .i64 t.h, .slice t.a t.n t.c] 44) = w0 at *
  have lX := X0.out.1; have cX0 := X0.out.at 0 rfl; have cX1 := X0.out.at 1 rfl; have cX2 := X0.out.at 2 rfl; have cX3 := X0.out.at 3 rfl; have cX4 := X0.out.at 4 rfl; have cX5 := X0.out.at 5 rfl
  have lB := B0.out.1; have cB0 := B0.out.at 0 rfl; have cB1 := B0.out.at 1 rfl; have cB2 := B0.out.at 2 rfl
  go_quiet (fail)
  clear hlk
  go_wp2
  refine bodyPost_ret (v := .tuple #[]) (by simp [results, Try.results113, go_sem]) rfl ?_
  have hb := below_drewN HB0.out
  exact ⟨rfl, (hb _).mono hz, (hb _).size, H.out.below (hb _)⟩
end Go.Proofs.Ytdgppcaeknbnjaa

namespace Go.Proofs.Ytdgppcaeknbnjaa
open Go.RowKit Go.Maps
set_option linter.unusedVariables false

theorem rowG_val {w : World} {base : Nat} {v : Value} {M : List GM} (h : w.ownsRow base 44 6 v M.length (rowG M)) : ∃ a c, v = .slice a M.length c := by
  rcases h.2 with ⟨e1, e2⟩ | ⟨g, cap, cur, e1, _⟩
  · exact ⟨none, 0, by rw [e1, e2]⟩
  · exact ⟨_, _, e1⟩

theorem obj_one (t : GM) : ∀ u ∈ gcells t, u.oneCell' = true := by
  intro u hu
  simp [gcells] at hu
  rcases hu with rfl | rfl | rfl | rfl | rfl | rfl <;> rfl

set_option maxRecDepth 100000 in
set_option maxHeartbeats 3200000 in
theorem add_new (base rb mb : Nat) (v : Value) (M : List GM) (f : Nat → Int) (L : List Ob) (O : List Int) (t : GM) (x : Ob) (w : World) (h : RS w base rb mb v M f L O) (hp : -1000000000 ≤ t.at_ ∧ t.at_ ≤ 1000000000) (hin : t.at_ ∉ O) (hz : base ≤ w.heap.size) (hx : findO L t.at_ = some x) (hsm : GSame t (obG f x)) (hsr : Src w t.a t.n t.f) (hfar : t.n = 0 ∨ t.g + 1 < base) (hl : O.length ≤ 400) :
    Calls Try.prog 113 #[.pointer (some ⟨rb, 0, none⟩), .agg #[.int .i64 t.at_, .int .i64 t.s, .int .i64 t.m, .int .i64 t.o, .int .i64 t.h, .slice t.a t.n t.c]] w fun e w' => e = .returned (.tuple #[]) ∧ Below base w w' ∧ w.heap.size ≤ w'.heap.size ∧ ∃ v', RS w' base rb mb v' (M ++ [t]) f L (O ++ [t.at_]) := by
  have HML := Lib.hid h.len
  have hml4 : M.length ≤ 400 := by rw [h.len]; exact hl
  have H := Lib.hid h; have HX := Lib.hid hx; have HSM := Lib.hid hsm; have HSR := Lib.hid hsr; have HFAR := Lib.hid hfar; have HP := Lib.hid hp; have HIN := Lib.hid hin
  have hd : decide (t.at_ ∈ O) = false := decide_eq_false hin
  have X0 := Lib.hid (Blk.new_at (w := w) (cs := #[.int .i64 t.at_, .int .i64 t.s, .int .i64 t.m, .int .i64 t.o, .int .i64 t.h, .slice t.a t.n t.c]) (t := 44) w.heap.size rfl)
  have B0 := Lib.hid (h.blk.alloc (.cells #[.int .i64 t.at_, .int .i64 t.s, .int .i64 t.m, .int .i64 t.o, .int .i64 t.h, .slice t.a t.n t.c] 44))
  have HB0 := Lib.hid ((Below.refl w.heap.size w).alloc (Nat.le_refl _) (.cells #[.int .i64 t.at_, .int .i64 t.s, .int .i64 t.m, .int .i64 t.o, .int .i64 t.h, .slice t.a t.n t.c] 44))
  have hlk := fun q => ((h.map.alloc (.cells #[.int .i64 t.at_, .int .i64 t.s, .int .i64 t.m, .int .i64 t.o, .int .i64 t.h, .slice t.a t.n t.c] 44)).drewN q).look_ok hp
  rw [hd] at hlk
  have hrbl : rb < w.heap.size := h.blk.1
  have hmbl : mb < w.heap.size := h.map.lt
  have hr1 := h.hrb; have hm1 := h.hmb; have hne := h.hne
  obtain ⟨j0, hif, hj0, hj1, hj2⟩ := info_parts Try.infoOb9
  obtain ⟨av, kv, hv⟩ := rowG_val h.row
  subst hv
  clear h hx hsm hsr hfar hp hin
  go_enter Try.func113, Try.ntmps113
  go_wp2_with fail
  have zz : w.heap.size + 1 = (w.alloc (.cells #[.int .i64 t.at_, .int .i64 t.s, .int .i64 t.m, .int .i64 t.o, .int .i64 t.h, .slice t.a t.n t.c] 44)).heap.size := by simp
  
  generalize w.alloc (.cells #[.int .i64 t.at_, .int .i64 t.s, .int .i64 t.m, .int .i64 t.o, .int .i64 t.h, .slice t.a t.n t.c] 44) = w0 at *
  have lX := X0.out.1; have cX0 := X0.out.at 0 rfl; have cX1 := X0.out.at 1 rfl; have cX2 := X0.out.at 2 rfl; have cX3 := X0.out.at 3 rfl; have cX4 := X0.out.at 4 rfl; have cX5 := X0.out.at 5 rfl
  have lB := B0.out.1; have cB0 := B0.out.at 0 rfl; have cB1 := B0.out.at 1 rfl; have cB2 := B0.out.at 2 rfl
  go_quiet (fail)
  clear hlk
  have M0 := Lib.hid (H.out.map.below (by rw [show w.heap.size = w.heap.size from rfl]; exact HB0.out))
  have HB1 := Lib.hid (below_drewN HB0.out nq)
  have X1 := Lib.hid (X0.out.below (drewN_below w0 nq)); have B1 := Lib.hid (B0.out.below (drewN_below w0 nq)); have M1 := Lib.hid (M0.out.drewN nq)
  have z1 : w.heap.size + 1 = (w0.drewN nq).heap.size := by simpa using zz
  clear lX cX0 cX1 cX2 cX3 cX4 cX5
  clear lB cB0 cB1 cB2
  clear X0 B0 HB0 M0 zz
  generalize w0.drewN nq = w1 at *
  go_wp2_with fail
  have lX := X1.out.1; have cX0 := X1.out.at 0 rfl; have cX1 := X1.out.at 1 rfl; have cX2 := X1.out.at 2 rfl; have cX3 := X1.out.at 3 rfl; have cX4 := X1.out.at 4 rfl; have cX5 := X1.out.at 5 rfl
  have lB := B1.out.1; have cB0 := B1.out.at 0 rfl; have cB1 := B1.out.at 1 rfl; have cB2 := B1.out.at 2 rfl
  go_still_tail 11, (by kernel_rfl)
  change wpList _ _ _ _ _ w1.drew
  clear lX cX0 cX1 cX2 cX3 cX4 cX5
  clear lB cB0 cB1 cB2
  have HB2 := Lib.hid HB1.out.drew; have X2 := Lib.hid X1.out.drew; have B2 := Lib.hid B1.out.drew; have M2 := Lib.hid M1.out.drew
  have z2 : w.heap.size + 1 = w1.drew.heap.size := by simpa using z1
  clear HB1 X1 B1 M1 z1
  generalize w1.drew = w2 at *
  obtain ⟨w3, hr3, hm3, hg3⟩ := M2.out.update (by unfold maxLen; omega) HP.out (by constructor <;> omega) HIN.out
  rw [← HML.out] at hr3
  have HB3 : Hid (Below base w w3) := Lib.hid ((HB2.out.mono hz).grown hg3 (by omega) (fun k hk => by cases hk; exact hm1))
  have hz3 : w.heap.size + 1 ≤ w3.heap.size := by have := hg3.size; omega
  have X3 := Lib.hid (blk_grown X2.out hg3 (by simp; omega))
  have B3 := Lib.hid (blk_grown B2.out hg3 (by simp; omega))
  have M3 := Lib.hid hm3
  have OW3 : Hid (w3.ownsRow base 44 6 (.slice av M.length kv) M.length (rowG M)) := Lib.hid ((ownsRow_below H.out.row HB2.out).kept hg3 (.inr H.out.vm))
  clear X2 B2 M2 HB2 hm3 hg3
  go_wp2_with fail
  clear hr3
  have lX := X3.out.1; have cX0 := X3.out.at 0 rfl; have cX1 := X3.out.at 1 rfl; have cX2 := X3.out.at 2 rfl; have cX3 := X3.out.at 3 rfl; have cX4 := X3.out.at 4 rfl; have cX5 := X3.out.at 5 rfl
  have lB := B3.out.1; have cB0 := B3.out.at 0 rfl; have fB0 := B3.out.free 0 rfl; have cB1 := B3.out.at 1 rfl; have fB1 := B3.out.free 1 rfl; have cB2 := B3.out.at 2 rfl; have fB2 := B3.out.free 2 rfl
  have hnew := cells_new6 w3.drew t
  go_region_law (first | (refine step_append_lies _ rfl (.tmp 32) (.tmp 34) 35 rfl base 44 j0 _ 6 64 Try.underlying35 hif hj0 hj1 hj2 rfl (by decide) (.slice av M.length kv) M.length (rowG M) rfl (OW3.out.drew.alloc _) ⟨w3.drew.heap.size, 0, none⟩ 1 1 (gcells t) rfl rfl hnew (obj_one t) (by omega) (by unfold maxLen; omega) (by omega) (by simp; omega) (w3.heap.size + 1) (by simp) ?_; intro g9 cap9 w9 hown9 hgrow9 hat9 hlt9; have T9 := Lib.hid (blk_grown (B3.out.drew.alloc _) hgrow9 H.out.vr); have l9 := T9.out.1; have d91 := T9.out.at 1 rfl; have e91 := T9.out.free 1 rfl))
  all_goals (
    have HB9 : Hid (Below base w w9) := Lib.hid ((HB3.out.drew.alloc (by simp; omega) _).grown hgrow9 (by simp; omega) (fun k hk => (OW3.out.lt k hk).1))
    have hz9 : w.heap.size ≤ w9.heap.size := (by have := hgrow9.size; simp at this; omega)
    have hg9r : g9 ≠ rb := (by rcases hat9 with he | he; (intro e; exact H.out.vr (by rw [he, e])); omega)
    have hg9m : g9 ≠ mb := (by rcases hat9 with he | he; (intro e; exact H.out.vm (by rw [he, e])); omega)
    have M9 := Lib.hid ((M3.out.drew.alloc (.cells #[.int .i64 t.at_, .int .i64 t.s, .int .i64 t.m, .int .i64 t.o, .int .i64 t.h, .slice t.a t.n t.c] 44)).grown hgrow9 H.out.vm)
    have OW9 := Lib.hid hown9
    clear hown9 hgrow9 hat9 l9 d91 e91 hnew
    clear lX cX0 cX1 cX2 cX3 cX4 cX5
    clear lB cB0 fB0 cB1 fB1 cB2 fB2
    go_wp2
    refine bodyPost_end (v := .tuple #[]) (by simp [results, Try.results113, go_sem]) rfl ?_
    have hbF : Below base w (w9.setCell ⟨rb, 1, none⟩ (.slice (some ⟨g9, 0, none⟩) (M.length + 1) cap9)) := HB9.out.setCell hr1 _
    have hzF : w.heap.size ≤ (w9.setCell ⟨rb, 1, none⟩ (.slice (some ⟨g9, 0, none⟩) (M.length + 1) cap9)).heap.size := (by simpa using hz9)
    refine ⟨rfl, hbF, hzF, .slice (some ⟨g9, 0, none⟩) (M.length + 1) cap9, T9.out.set 1 (by simp) _, hr1, hm1, hne, fun e => hg9r (by simpa [Value.ownBlock] using e), fun e => hg9m (by simpa [Value.ownBlock] using e), ?_, ?_, by rw [List.length_append, List.length_append, HML.out]; rfl, fun u hu => ?_, fun i u hu => ?_⟩
    · rw [rowG_snoc, List.length_append]
      exact ownsRow_setCell_other OW9.out (fun e => hg9r (by simpa [Value.ownBlock] using e)) _
    · rw [List.length_append]
      exact M9.out.set hne _
    · rcases List.mem_append.mp hu with hu | hu
      · exact ⟨src_far (H.out.src u hu).1 (H.out.src u hu).2 hbF hzF, (H.out.src u hu).2⟩
      · simp only [List.mem_singleton] at hu
        subst hu
        exact ⟨src_far HSR.out HFAR.out hbF hzF, HFAR.out⟩
    · rcases Nat.lt_or_ge i M.length with hi | hi
      · rw [List.getElem?_append_left hi] at hu
        obtain ⟨z, h1, h2⟩ := H.out.same i u hu
        exact ⟨z, by rw [lf_left (by rw [← HML.out]; exact hi)]; exact h1, h2⟩
      · have hi' : i = M.length := (by have := (List.getElem?_eq_some_iff.mp hu).1; simp at this; omega)
        subst hi'
        rw [List.getElem?_append_right (Nat.le_refl _), Nat.sub_self] at hu
        have hu' : t = u := (by simpa using hu)
        subst hu'
        exact ⟨x, by rw [HML.out, lf_last]; exact HX.out, HSM.out⟩)

theorem add_any (base rb mb : Nat) (v : Value) (M : List GM) (f : Nat → Int) (L : List Ob) (O : List Int) (t : GM) (x : Ob) (w : World) (h : RS w base rb mb v M f L O) (hp : -1000000000 ≤ t.at_ ∧ t.at_ ≤ 1000000000) (hz : base ≤ w.heap.size) (hx : findO L t.at_ = some x) (hsm : GSame t (obG f x)) (hsr : Src w t.a t.n t.f) (hfar : t.n = 0 ∨ t.g + 1 < base) (hl : O.length ≤ 400) :
    Calls Try.prog 113 #[.pointer (some ⟨rb, 0, none⟩), .agg #[.int .i64 t.at_, .int .i64 t.s, .int .i64 t.m, .int .i64 t.o, .int .i64 t.h, .slice t.a t.n t.c]] w fun e w' => e = .returned (.tuple #[]) ∧ Below base w w' ∧ w.heap.size ≤ w'.heap.size ∧ ∃ v' M', RS w' base rb mb v' M' f L (add1 O t.at_) := by
  by_cases hin : t.at_ ∈ O
  · refine (add_old base rb mb v M f L O t w h hp hin hz).mono ?_
    rintro e w' ⟨h1, h2, h3, h4⟩
    exact ⟨h1, h2, h3, v, M, by rw [add1, if_pos hin]; exact h4⟩
  · refine (add_new base rb mb v M f L O t x w h hp hin hz hx hsm hsr hfar hl).mono ?_
    rintro e w' ⟨h1, h2, h3, v', h4⟩
    exact ⟨h1, h2, h3, v', _, by rw [add1, if_neg hin]; exact h4⟩
end Go.Proofs.Ytdgppcaeknbnjaa

namespace Go.Proofs.Ytdgppcaeknbnjaa
open Go.RowKit Go.Maps
set_option linter.unusedVariables false

theorem fld_obj7 (v0 v1 v2 v3 v4 v5 v6 : Value) (w : World) : (Instr.field 119 (.agg #[v0, v1, v2, v3, v4, v5, v6]) 1).run Try.prog w = .ok (.agg #[v1, v2, v3, v4, v5, v6]) w := by kernel_rfl

/-- What is known of the objects of an arena without a fault, as the program reads them. -/
structure Shaped (w : World) (a : Option Addr) (T : Nat → GM) (f : Nat → Int) (L : List Ob) : Prop where
  gv : GV w a L.length T
  same : ∀ i, i < L.length → GSame (T i) (obT f L i)
  sort : ∀ i j, i < j → j < L.length → (T i).at_ < (T j).at_
  right : Right f L
  len : L.length ≤ 400
  place : ∀ x ∈ L, 0 ≤ x.at_ ∧ x.at_ ≤ 1000000
  word : ∀ x ∈ L, ∀ k, k < x.s.toNat → -1000000000 ≤ f (x.at_.toNat + 2 + k) ∧ f (x.at_.toNat + 2 + k) ≤ 1000000000

section

variable {w w' : World} {a : Option Addr} {T : Nat → GM} {f : Nat → Int} {L : List Ob}

theorem Shaped.below (h : Shaped w a T f L) (hb : Below w.heap.size w w') : Shaped w' a T f L := ⟨h.gv.below hb, h.same, h.sort, h.right, h.len, h.place, h.word⟩

theorem Shaped.src (h : Shaped w a T f L) {i : Nat} (hi : i < L.length) : Src w (T i).a (T i).n (T i).f := by
  rcases h.gv with h0 | ⟨b, q, _, g⟩
  · omega
  · exact g.flds i hi

theorem gm_lt {t : GM} (h : Src w t.a t.n t.f) : t.n = 0 ∨ t.g < w.heap.size := by
  rcases h with h0 | ⟨b, o, e, hb, _⟩
  · exact .inl h0
  · exact .inr (by simpa [GM.g, e] using hb)

theorem Shaped.obj (h : Shaped w a T f L) {i : Nat} (hi : i < L.length) : findO L (T i).at_ = some L[i] ∧ GSame (T i) (obG f L[i]) ∧ (0 ≤ (T i).at_ ∧ (T i).at_ ≤ 1000000) := by
  have hs := h.same i hi
  rw [obT_get f hi] at hs
  have e : (T i).at_ = L[i].at_ := hs.1
  exact ⟨by rw [e]; exact h.right.apart _ (List.getElem_mem hi), hs, by rw [e]; exact h.place _ (List.getElem_mem hi)⟩

theorem Shaped.nope (h : Shaped w a T f L) {p : Int} (hn : ∀ i, i < L.length → ¬ (T i).at_ = p) : p ∉ placesO L := fun hp => by
  obtain ⟨x, hx, rfl⟩ := List.mem_map.mp hp
  obtain ⟨i, hi, rfl⟩ := List.getElem_of_mem hx
  have hs := h.same i hi
  rw [obT_get f hi] at hs
  exact hn i hi hs.1

theorem Shaped.yes (h : Shaped w a T f L) {i : Nat} (hi : i < L.length) : (T i).at_ ∈ placesO L := mem_placesO.2 ⟨_, (h.obj hi).1⟩

end

/-- The program's scan: at a field of an object, or at the end. -/
def ST (f : Nat → Int) (L : List Ob) (roots : List Int) (n i : Nat) (O : List Int) : Prop := (n = O.length ∧ i = 0 ∧ SC f L roots n O) ∨ ∃ x, i ≤ x.s.toNat ∧ SI f L roots n i x O

theorem st_of_sc {f : Nat → Int} {L : List Ob} {roots O : List Int} {n : Nat} (h : SC f L roots n O) : ST f L roots n 0 O := by
  rcases Nat.lt_or_ge n O.length with h1 | h1
  · obtain ⟨x, _, hx⟩ := sc_in h h1
    exact .inr ⟨x, Nat.zero_le _, hx⟩
  · have := h.le
    exact .inl ⟨by omega, rfl, h⟩

theorem ST.len {f : Nat → Int} {L : List Ob} {roots O : List Int} {n i : Nat} (h : ST f L roots n i O) : O.length ≤ L.length := by
  rcases h with ⟨_, _, h⟩ | ⟨_, _, h⟩
  · exact h.len
  · exact h.len

theorem tgt_eq {t : GM} {f : Nat → Int} {x : Ob} (h : GSame t (obG f x)) {k : Nat} (hk : k < x.s.toNat) : tgtV t k = if x.m / P2 (k : Int) % 2 = 1 ∧ ¬ f (x.at_.toNat + 2 + k) = 0 then some (f (x.at_.toNat + 2 + k) - 1) else none := by
  obtain ⟨h1, h2, h3, h4, h5, h6, h7⟩ := h
  have e := h7 k (by rw [h6]; exact hk)
  have e' : t.f k = f (x.at_.toNat + 2 + k) := e
  have e3 : t.m = x.m := h3
  unfold tgtV
  rw [e', e3]

def RetReach (W : World) (f : Nat → Int) (L : List Ob) (roots : List Int) (e : Ending) (w' : World) : Prop :=
  Below W.heap.size W w' ∧ (((∃ p ∈ roots, p ∉ placesO L) ∧ e = .returned (.agg #[.int .i64 4, .slice none 0 0, .map none])) ∨
    ((∀ p ∈ roots, p ∈ placesO L) ∧ ∃ a c mb T, e = .returned (.agg #[.int .i64 0, .slice a (reachO f L roots).length c, .map (some mb)]) ∧ GV w' a (reachO f L roots).length T ∧ MapT w' mb (reachO f L roots).length (reachO f L roots) (fun i => (i : Int)) ∧ ∀ i, i < (reachO f L roots).length → ∃ x, findO L (lf (reachO f L roots) i) = some x ∧ GSame (T i) (obG f x)))

theorem ret_of_rs {W w : World} {base rb mb : Nat} {av : Option Addr} {kv : Nat} {M : List GM} {f : Nat → Int} {L : List Ob} {O roots : List Int} (hall : ∀ p ∈ roots, p ∈ placesO L) (he : reachO f L roots = O) (h : RS w base rb mb (.slice av M.length kv) M f L O) (hb : Below W.heap.size W w) : RetReach W f L roots (.returned (.agg #[.int .i64 0, .slice av M.length kv, .map (some mb)])) w := by
  obtain ⟨a, c, e, hg⟩ := h.out
  simp only [Value.slice.injEq] at e
  obtain ⟨rfl, -, rfl⟩ := e
  have hl := h.len
  rw [hl] at hg
  refine ⟨hb, .inr ⟨hall, av, kv, mb, gT M, by rw [he, hl], by rw [he]; exact hg, by rw [he]; exact h.map, fun i hi => ?_⟩⟩
  rw [he] at hi ⊢
  have hi' : i < M.length := by omega
  rw [gT_at (List.getElem?_eq_getElem hi')]
  exact h.same i _ (List.getElem?_eq_getElem hi')

set_option maxRecDepth 100000 in
set_option maxHeartbeats 1600000 in
theorem reachOf_any (a : Option Addr) (kc : Nat) (T : Nat → GM) (f : Nat → Int) (L : List Ob) (ra : Option Addr) (roots : List Int) (rc : Nat) (w : World) (hsh : Shaped w a T f L) (hrs : Src w ra roots.length (lf roots)) (hrn : roots.length ≤ 60) :
    Calls Try.prog 88 #[.slice a L.length kc, .slice ra roots.length rc] w (RetReach w f L roots) := by
  have HSH := Lib.hid hsh; have HRS := Lib.hid hrs
  have hL4 := hsh.len
  have hmk := @run_makeMap Try.prog
  clear hsh hrs
  go_enter Try.func88, Try.ntmps88
  go_wp2_with fail
  go_step3
  have HW0 := Lib.hid ((Below.refl w.heap.size w).alloc (Nat.le_refl _) (.cells #[.int .i64 0, .slice none 0 0, .map none] 76))
  have R0 := Lib.hid (Blk.new_at (w := w) (cs := #[.int .i64 0, .slice none 0 0, .map none]) (t := 76) w.heap.size rfl)
  have z0 : (w.alloc (.cells #[.int .i64 0, .slice none 0 0, .map none] 76)).heap.size = w.heap.size + 1 := by simp
  have HM1 := Lib.hid ((MapT.made (w.alloc (.cells #[.int .i64 0, .slice none 0 0, .map none] 76)) (fun i => (i : Int))).alloc (.cells #[.int .i64 0, .slice none 0 0, .map (some (w.heap.size + 1))] 76))
  have B1 := Lib.hid (Blk.new_at (w := (w.alloc (.cells #[.int .i64 0, .slice none 0 0, .map none] 76)).alloc (.map #[] 0)) (cs := #[.int .i64 0, .slice none 0 0, .map (some (w.heap.size + 1))]) (t := 76) (w.heap.size + 1 + 1) (by simp))
  go_wp2_with fail
  generalize w.alloc (.cells #[.int .i64 0, .slice none 0 0, .map none] 76) = W0 at *
  rw [z0] at HM1
  have RS0 : Hid (RS ((W0.alloc (.map #[] 0)).alloc (.cells #[.int .i64 0, .slice none 0 0, .map (some (w.heap.size + 1))] 76)) (w.heap.size + 1) (w.heap.size + 1 + 1) (w.heap.size + 1) (.slice none 0 0) [] f L []) := Lib.hid
    ⟨B1.out, by omega, Nat.le_refl _, by omega, by simp [Value.ownBlock], by simp [Value.ownBlock], World.ownsRow_nil _ _ _ _, HM1.out, rfl, fun t ht => (by cases ht), fun i t ht => (by simp at ht)⟩
  have HB0 : Hid (Below (w.heap.size + 1) W0 ((W0.alloc (.map #[] 0)).alloc (.cells #[.int .i64 0, .slice none 0 0, .map (some (w.heap.size + 1))] 76))) := Lib.hid (((Below.refl _ _).alloc (by omega) _).alloc (by simp; omega) _)
  have zz : w.heap.size + 3 ≤ ((W0.alloc (.map #[] 0)).alloc (.cells #[.int .i64 0, .slice none 0 0, .map (some (w.heap.size + 1))] 76)).heap.size := by simp; omega
  generalize (W0.alloc (.map #[] 0)).alloc (.cells #[.int .i64 0, .slice none 0 0, .map (some (w.heap.size + 1))] 76) = W3 at *
  clear HM1 B1
  generalize hrb : w.heap.size + 1 + 1 = rb at *
  generalize hmb : w.heap.size + 1 = mb at *
  have HBW : Hid (∀ wr, Below mb W0 wr → Below w.heap.size w wr) := Lib.hid (fun wr hb => HW0.out.trans (hb.mono (by omega)))
  go_loopw [17] (fun p wr => ∃ (i : Nat) (v : Value) (M : List GM), i ≤ roots.length ∧ p = .int .i64 (i : Int) ∧ Hid (Below mb W0 wr) ∧ Hid (RS wr mb rb mb v M f L (addNew [] (roots.take i))) ∧ Hid (∀ j, j < i → lf roots j ∈ placesO L)) (fun p _ => roots.length - (intOf p).toNat)
  case atStart => exact ⟨0, _, [], by omega, rfl, HB0, RS0, Lib.hid (fun j hj => by omega)⟩
  case round =>
    clear HB0 RS0 zz
    obtain ⟨i, v, M, hi, rfl, HB_r, RS_r, HD⟩ := hrel
    have hzr : mb ≤ wr.heap.size := by have := RS_r.out.map.lt; omega
    by_cases hlt : i < roots.length
    · have hlt' : (i : Int) < (roots.length : Int) := by omega
      have hi0 : (0 : Int) ≤ (i : Int) := by omega
      obtain ⟨xb, xo, rfl, hxb, hxc⟩ := src_some (HRS.out.below (HBW.out _ HB_r.out)) (by omega)
      have c0 := hxc i hlt
      obtain ⟨y, hy⟩ : ∃ y, lf roots i = y := ⟨_, rfl⟩
      have HY := Lib.hid hy
      have HME := Lib.hid (lf_mem hlt)
      have HSN := Lib.hid (roots_snoc hlt [])
      rw [hy] at c0 HME HSN
      clear hxc hy
      go_wp2_with fail
      refine (find_any a L.length kc T y _ (HSH.out.below (HBW.out _ HB_r.out)).gv (by omega) HSH.out.sort).mono ?_
      rintro e w1 ⟨hb, hr⟩
      have HB1 := Lib.hid (HB_r.out.trans (hb.mono hzr))
      have RS1 := Lib.hid (RS_r.out.below hb)
      have z1 := hb.size
      clear hb
      rcases hr with ⟨j, hj, hat, rfl⟩ | ⟨hn, rfl⟩
      · obtain ⟨ho1, ho2, ho3⟩ := HSH.out.obj hj
        have HO := Lib.hid (And.intro ho1 (And.intro ho2 (And.intro ho3 (And.intro (HSH.out.src hj) (HSH.out.yes hj)))))
        have HL6 := Lib.hid (addNew_len (roots.take i) [])
        have HAT := Lib.hid hat
        clear ho1 ho2 ho3 hat
        generalize T j = t at *
        go_wp2_with fail
        have RS2 := Lib.hid (RS1.out.below ((Below.refl _ _).alloc (Nat.le_refl _) (.cells #[.int .i64 0, .int .i64 t.at_, .int .i64 t.s, .int .i64 t.m, .int .i64 t.o, .int .i64 t.h, .slice t.a t.n t.c] 119)))
        have HB2 := Lib.hid (HB1.out.alloc (by omega) (.cells #[.int .i64 0, .int .i64 t.at_, .int .i64 t.s, .int .i64 t.m, .int .i64 t.o, .int .i64 t.h, .slice t.a t.n t.c] 119))
        have z2 : w1.heap.size + 1 = (w1.alloc (.cells #[.int .i64 0, .int .i64 t.at_, .int .i64 t.s, .int .i64 t.m, .int .i64 t.o, .int .i64 t.h, .slice t.a t.n t.c] 119)).heap.size := by simp
        clear RS1 HB1
        generalize w1.alloc (.cells #[.int .i64 0, .int .i64 t.at_, .int .i64 t.s, .int .i64 t.m, .int .i64 t.o, .int .i64 t.h, .slice t.a t.n t.c] 119) = w2 at *
        have hs2 := HO.out.2.2.2.1
        refine (add_any mb rb mb v M f L _ t L[j] _ RS2.out (by have := HO.out.2.2.1; omega) (by omega) HO.out.1 HO.out.2.1 (HO.out.2.2.2.1.below (HBW.out _ HB2.out)) (by rcases gm_lt hs2 with h0 | h0; exact .inl h0; exact .inr (by omega)) (by have := HL6.out; simp at this; omega)).mono ?_
        rintro e w3 ⟨rfl, hb, hz, v', M', hrs⟩
        have HB3 := Lib.hid (HB2.out.trans hb)
        have RS3 : Hid (RS w3 mb rb mb v' M' f L (addNew [] (roots.take (i + 1)))) := Lib.hid (by rw [HSN.out, ← HAT.out]; exact hrs)
        have HP := Lib.hid (show y ∈ placesO L by rw [← HAT.out]; exact HO.out.2.2.2.2)
        clear hb hrs hs2 HB2 RS2 HO
        go_wp2
        go_roundw
        case rel => first | exact ⟨i + 1, v', M', by omega, by go_num, HB3, RS3, Lib.hid (fun j hj => by rcases Nat.lt_succ_iff_lt_or_eq.mp hj with h1 | h1; exact HD.out j h1; subst h1; rw [HY.out]; exact HP.out)⟩ | ((repeat apply Exists.intro); exact ⟨⟨i + 1, v', M', by omega, by go_num, HB3, RS3, Lib.hid (fun j hj => by rcases Nat.lt_succ_iff_lt_or_eq.mp hj with h1 | h1; exact HD.out j h1; subst h1; rw [HY.out]; exact HP.out)⟩, rfl⟩)
        case measure => simp [intOf]; omega
      · have hnp := HSH.out.nope hn
        have HNP := Lib.hid hnp
        have R_1 := Lib.hid (blk_under R0.out HB1.out (by omega))
        clear hn hnp
        have lR := R_1.out.1; have cR0 := R_1.out.at 0 rfl; have fR0 := R_1.out.free 0 rfl; have cR1 := R_1.out.at 1 rfl; have fR1 := R_1.out.free 1 rfl; have cR2 := R_1.out.at 2 rfl; have fR2 := R_1.out.free 2 rfl
        go_wp2
        refine bodyPost_ret (v := .agg #[.int .i64 4, .slice none 0 0, .map none]) (by simp [results, Try.results88, go_sem, cR0, cR1, cR2, lR]) rfl ⟨?_, .inl ⟨⟨y, HME.out, HNP.out⟩, rfl⟩⟩
        repeat (first | (with_reducible refine Below.setCell ?_ (by (try simp); (try omega)) _) | (with_reducible refine Below.alloc ?_ (by (try simp); (try omega)) _) | (with_reducible refine Below.drew ?_))
        exact HBW.out _ HB1.out
    · have hlt' : ¬ (i : Int) < (roots.length : Int) := by omega
      obtain rfl : i = roots.length := by omega
      have HALL : Hid (∀ p ∈ roots, p ∈ placesO L) := Lib.hid (fun p hp => by
        obtain ⟨j, hj, rfl⟩ := List.getElem_of_mem hp
        rw [← lf_at hj]; exact HD.out j hj)
      have HSC : Hid (SC f L roots 0 (addNew [] roots)) := Lib.hid (sc_start HALL.out)
      have RS4 : Hid (RS wr mb rb mb v M f L (addNew [] roots)) := Lib.hid (by have := RS_r.out; rw [List.take_length] at this; exact this)
      clear HD RS_r
      have st0 := st_of_sc HSC.out
      have ST0 := Lib.hid st0
      clear hlt hlt' HSC HRS st0 hrn hi
      go_wp2
      go_step3
      go_wp2_with fail
      go_loopw [9, 10] (fun p q wr => ∃ (n i : Nat) (v : Value) (M : List GM) (O : List Int), p = .int .i64 (n : Int) ∧ q = .int .i64 (i : Int) ∧ n ≤ L.length ∧ i ≤ 12 ∧ Hid (Below mb W0 wr) ∧ Hid (RS wr mb rb mb v M f L O) ∧ Hid (ST f L roots n i O)) (fun p q _ => (L.length - (intOf p).toNat) * 14 + (13 - (intOf q).toNat))
      case atStart => exact ⟨0, 0, v, M, _, rfl, rfl, by omega, by omega, HB_r, RS4, ST0⟩
      case round =>
        clear HB_r RS4 ST0 hzr
        obtain ⟨n, i, v, M, O, rfl, rfl, hnl, hi12, HB_r, RS_r, STT⟩ := hrel
        have hzr : mb ≤ wr.heap.size := by have := RS_r.out.map.lt; omega
        have hml := Lib.hid RS_r.out.len
        have hol := ST.len STT.out
        have hB := RS_r.out.blk
        obtain ⟨av, kv, hv⟩ := rowG_val RS_r.out.row
        subst hv
        have lB := hB.1; have cB0 := hB.at 0 rfl; have cB1 := hB.at 1 rfl; have cB2 := hB.at 2 rfl
        clear hB
        rcases STT.out with ⟨hn, hi0, hsc⟩ | ⟨x, hix, hsi⟩
        · have hnm : n = M.length := by rw [hml.out]; exact hn
          subst hi0
          have HSC := Lib.hid hsc
          have R_r := Lib.hid (blk_under R0.out HB_r.out (by omega))
          have HE : Hid (reachO f L roots = O) := Lib.hid (sc_end hsc (by omega))
          obtain ⟨a', c', he, hg⟩ := rowG_GV RS_r.out.row (fun t ht => (RS_r.out.src t ht).1)
          have HGV := Lib.hid hg; have HEE := Lib.hid he
          clear hsc hg he hn
          subst hnm
          have lR := R_r.out.1; have cR0 := R_r.out.at 0 rfl; have fR0 := R_r.out.free 0 rfl; have cR1 := R_r.out.at 1 rfl; have fR1 := R_r.out.free 1 rfl; have cR2 := R_r.out.at 2 rfl; have fR2 := R_r.out.free 2 rfl
          go_wp2
          rw [Exit.noGoto_ret]
          refine bodyPost_ret (v := .agg #[.int .i64 0, .slice av M.length kv, .map (some mb)]) (by simp [results, Try.results88, go_sem, cR0, cR1, cR2]) rfl ?_
          have hRF := ((RS_r.out.set (p := ⟨w.heap.size, 0, none⟩) hmb (.int .i64 0)).set (p := ⟨w.heap.size, 1, none⟩) hmb (.slice av M.length kv)).set (p := ⟨w.heap.size, 2, none⟩) hmb (.map (some mb))
          have hBF : Below w.heap.size w (((wr.setCell ⟨w.heap.size, 0, none⟩ (.int .i64 0)).setCell ⟨w.heap.size, 1, none⟩ (.slice av M.length kv)).setCell ⟨w.heap.size, 2, none⟩ (.map (some mb))) := (((HBW.out _ HB_r.out).setCell (Nat.le_refl _) _).setCell (Nat.le_refl _) _).setCell (Nat.le_refl _) _
          exact ret_of_rs HALL.out HE.out hRF hBF
        · have hnO : n < O.length := hsi.lt
          have hnM : n < M.length := by rw [hml.out]; exact hnO
          have hnm : ¬ n = M.length := by omega
          have hnm' : ((n : Int) == (M.length : Int)) = false := by simp; omega
          have hn0 : (0 : Int) ≤ (n : Int) := by omega
          have hnI : (n : Int) < (M.length : Int) := by omega
          obtain ⟨a', c', he, hg⟩ := RS_r.out.out
          simp only [Value.slice.injEq] at he
          obtain ⟨rfl, -, rfl⟩ := he
          obtain ⟨gb, gq, rfl, gs⟩ : ∃ b q, av = some ⟨b, q, none⟩ ∧ GSrc wr b q M.length (gT M) := by
            rcases hg with h0 | h
            · omega
            · exact h
          have hMn : M[n]? = some M[n] := List.getElem?_eq_getElem hnM
          obtain ⟨x', hx', hsame⟩ := RS_r.out.same n M[n] hMn
          rw [hsi.at_] at hx'
          obtain rfl := Option.some.inj hx'
          have hsx := gs.six n hnM
          have hfx := gs.flds n hnM
          rw [gT_at hMn] at hsx hfx
          have hxL : x ∈ L := List.mem_of_find?_eq_some hsi.at_
          have hok := HSH.out.right.ok x hxL
          have hwd := HSH.out.word x hxL
          generalize M[n] = t at *
          obtain ⟨s0, s1, s2, s3, s4, s5⟩ := hsx
          have htn : t.n = x.s.toNat := hsame.2.2.2.2.2.1
          have htx : t.s = x.s ∧ t.m = x.m ∧ t.o = x.o ∧ t.h = x.h := ⟨hsame.2.1, hsame.2.2.1, hsame.2.2.2.1, hsame.2.2.2.2.1⟩
          have HSM := Lib.hid hsame; have HFX := Lib.hid hfx; have HOK := Lib.hid hok; have HWD := Lib.hid hwd; have HSI := Lib.hid hsi; have HTX := Lib.hid htx
          have hs12 : x.s.toNat ≤ 12 := by have := hok.1.1; omega
          have HTN := Lib.hid htn
          clear hsame hfx hok hwd hsi htx gs hg hMn hxL htn hml
          by_cases hie : i = t.n
          · have hie' : ((i : Int) == (t.n : Int)) = true := by simp; omega
            have STN := Lib.hid (st_of_sc (si_end HSI.out (by rw [← HTN.out, hie]; exact Nat.le_refl _)))
            go_wp2
            go_roundw
            case rel => first | exact ⟨n + 1, 0, _, M, O, by go_num, rfl, by omega, by omega, HB_r, RS_r, STN⟩ | ((repeat apply Exists.intro); exact ⟨⟨n + 1, 0, _, M, O, by go_num, rfl, by omega, by omega, HB_r, RS_r, STN⟩, rfl⟩)
            case measure => simp [intOf]; omega
          · have hie' : ((i : Int) == (t.n : Int)) = false := by simp; omega
            have hit : i < t.n := by have := HTN.out; omega
            have hkx : i < x.s.toNat := by have := HTN.out; omega
            have HTG := Lib.hid (tgt_eq HSM.out hkx)
            go_wp2_with fail
            clear s0 s1 s2 s3 s4 s5
            refine (target_any t i _ HFX.out hit (by rw [HTX.out.1, HTX.out.2.1, HTX.out.2.2.1, HTX.out.2.2.2]; exact HOK.out.1) (by rw [HTX.out.1]; exact HTN.out) (by rw [show t.f i = f (x.at_.toNat + 2 + i) from HSM.out.2.2.2.2.2.2 i hit]; exact HWD.out i hkx)).mono ?_
            rintro e w1 ⟨hb, rfl⟩
            have HB1 := Lib.hid (HB_r.out.trans (hb.mono hzr))
            have RS1 := Lib.hid (RS_r.out.below hb)
            have z1 := hb.size
            clear hb
            rw [HTG.out]
            by_cases hd : x.m / P2 (i : Int) % 2 = 1 ∧ ¬ f (x.at_.toNat + 2 + i) = 0
            · rw [if_pos hd]
              have hsy := si_yes HSH.out.right.points HSH.out.right.size HSI.out hkx hd.1 hd.2
              have hin := si_in HSH.out.right.points HSH.out.right.size HSI.out hkx hd.1 hd.2
              obtain ⟨y, hy⟩ : ∃ y, f (x.at_.toNat + 2 + i) - 1 = y := ⟨_, rfl⟩
              rw [hy] at hsy hin ⊢
              have HSY := Lib.hid hsy; have HIN := Lib.hid hin
              clear hsy hin hd hy
              simp only [Option.getD_some, Option.isSome_some]
              go_wp2_with fail
              refine (find_any _ L.length kc T y _ (HSH.out.below (HBW.out _ HB1.out)).gv (by omega) HSH.out.sort).mono ?_
              rintro e w2 ⟨hb, hr⟩
              have HB2 := Lib.hid (HB1.out.trans (hb.mono (by omega)))
              have RS2 := Lib.hid (RS1.out.below hb)
              have z2 := hb.size
              clear hb
              rcases hr with ⟨j, hj, hat, rfl⟩ | ⟨hn, rfl⟩
              case inr => exact absurd HIN.out (HSH.out.nope hn)
              obtain ⟨ho1, ho2, ho3⟩ := HSH.out.obj hj
              have HO := Lib.hid (And.intro ho1 (And.intro ho2 (And.intro ho3 (HSH.out.src hj))))
              have HAT := Lib.hid hat
              clear ho1 ho2 ho3 hat
              have hf7 := fld_obj7
              generalize T j = u at *
              go_wp2_with fail
              have hs2 := HO.out.2.2.2
              refine (add_any mb rb mb _ M f L O u L[j] _ RS2.out (by have := HO.out.2.2.1; omega) (by omega) HO.out.1 HO.out.2.1 (HO.out.2.2.2.below (HBW.out _ HB2.out)) (by rcases gm_lt hs2 with h0 | h0; exact .inl h0; exact .inr (by omega)) (by omega)).mono ?_
              rintro e w3 ⟨rfl, hb, hz, v', M', hrs⟩
              have HB3 := Lib.hid (HB2.out.trans hb)
              have RS3 : Hid (RS w3 mb rb mb v' M' f L (add1 O y)) := Lib.hid (by rw [← HAT.out]; exact hrs)
              have STN : Hid (ST f L roots n (i + 1) (add1 O y)) := Lib.hid (.inr ⟨x, by omega, HSY.out⟩)
              clear hb hrs hs2 HB2 RS2 HO hf7
              go_wp2
              go_roundw
              case rel => first | exact ⟨n, i + 1, v', M', _, rfl, by go_num, by omega, by omega, HB3, RS3, STN⟩ | ((repeat apply Exists.intro); exact ⟨⟨n, i + 1, v', M', _, rfl, by go_num, by omega, by omega, HB3, RS3, STN⟩, rfl⟩)
              case measure => simp [intOf]; omega
            · rw [if_neg hd]
              have STN : Hid (ST f L roots n (i + 1) O) := Lib.hid (.inr ⟨x, by omega, si_no HSI.out hkx hd⟩)
              simp only [Option.getD_none, Option.isSome_none]
              clear hd
              go_wp2
              go_roundw
              case rel => first | exact ⟨n, i + 1, _, M, O, rfl, by go_num, by omega, by omega, HB1, RS1, STN⟩ | ((repeat apply Exists.intro); exact ⟨⟨n, i + 1, _, M, O, rfl, by go_num, by omega, by omega, HB1, RS1, STN⟩, rfl⟩)
              case measure => simp [intOf]; omega
end Go.Proofs.Ytdgppcaeknbnjaa

namespace Go.Proofs.Ytdgppcaeknbnjaa
open Go.RowKit Go.Maps
set_option linter.unusedVariables false

theorem shaped_of {h : Int} {n : Nat} {f : Nat → Int} {ac bu : Int} {L : List Ob} {w : World} {a : Option Addr} {T : Nat → GM} (hk : IsSF h n f ac bu 0) (ho : IsOI h n f ac bu 0 L) (hg : GV w a L.length T) (hT : ∀ i, i < L.length → GSame (T i) (obT f L i)) : Shaped w a T f L := by
  obtain ⟨h4, h5⟩ := isOI_zero ho
  obtain ⟨⟨⟨g1, g2⟩, ⟨g3, g4⟩, g5, g6⟩, gn, gw⟩ := isFault_ok h4
  have hb := baseI_bd (ac := ac) g1
  have hPU : (baseI ac h).toNat + bu.toNat ≤ n := by
    have hb0 : 0 ≤ baseI ac h ∧ baseI ac h ≤ h ∧ baseI ac h + h ≤ 2 * h := by rcases (by omega : ac = 0 ∨ ac = 1) with rfl | rfl <;> simp [baseI] <;> omega
    omega
  have hok := parse_ok h5 hPU gw
  have hln := parse_length _ _ L (Nat.le_refl _) h5
  refine ⟨hg, hT, fun i j hij hj => sorted_T h5 hT i j hij hj, right_of hk ho, by omega, fun x hx => ?_, fun x hx => (hok x hx).2.2.2.2⟩
  have := (hok x hx).2.2.2.1
  omega

/-- A block that holds no more than a code, an empty row and no map. -/
def Dead (w : World) (R : Nat) : Prop := ∃ t fr, w.heap[R]? = some (.cells #[.int .i64 0, .slice none 0 0, .map none] t fr)

theorem dead_new {w : World} {t : TypeId} (R : Nat) (hR : R = w.heap.size) : Dead (w.alloc (.cells #[.int .i64 0, .slice none 0 0, .map none] t)) R := by
  subst hR
  exact ⟨t, _, (heap_alloc_new w _)⟩

theorem Dead.below {w w' : World} {R : Nat} (h : Dead w R) (hb : Below w.heap.size w w') : Dead w' R := by
  obtain ⟨t, fr, h1⟩ := h
  exact ⟨t, fr, (hb.block R (Array.getElem?_eq_some_iff.1 h1).1).trans h1⟩

def lain (w : World) (R : Nat) (x y : Value) : World := ((w.setCell ⟨R, 0, none⟩ (.int .i64 0)).setCell ⟨R, 1, none⟩ x).setCell ⟨R, 2, none⟩ y

theorem lain_block {w : World} {R b : Nat} {x y : Value} (h : b ≠ R) : (lain w R x y).heap[b]? = w.heap[b]? :=
  (Below.heap_setCell _ _ _ b h).trans ((Below.heap_setCell _ _ _ b h).trans (Below.heap_setCell _ _ _ b h))

theorem dead_cell {w : World} {R : Nat} (h : Dead w R) (o : Nat) : w.cell? ⟨R, o, none⟩ = (#[.int .i64 0, .slice none 0 0, .map none] : Array Value)[o]? := by
  obtain ⟨t, fr, h1⟩ := h
  exact cell_of_row w R o _ t fr h1

theorem dead_int {w : World} {R b o : Nat} {v : Int} (h : Dead w R) (hc : w.cell? ⟨b, o, none⟩ = some (.int .i64 v)) (x y : Value) : (lain w R x y).cell? ⟨b, o, none⟩ = some (.int .i64 v) := by
  by_cases e : b = R
  · subst e
    have h0 := dead_cell h o
    rw [hc] at h0
    match o, h0 with
    | 0, h0 =>
      have h9 : v = 0 := by simpa using h0
      subst h9
      have hc' : (w.setCell ⟨b, 0, none⟩ (.int .i64 0)).cell? ⟨b, 0, none⟩ = some (.int .i64 0) := by rw [World.cell?_setCell_same' _ _ _ (by rw [hc]; rfl)]
      unfold lain
      rw [World.cell?_setCell_other _ _ _ _ (by simp), World.cell?_setCell_other _ _ _ _ (by simp)]
      exact hc'
    | 1, h0 => simp at h0
    | 2, h0 => simp at h0
    | o + 3, h0 => simp at h0
  · exact (World.cell?_of_block (w := w) (a := ⟨b, o, none⟩) (lain_block e)).trans hc

theorem dead_src {w : World} {R : Nat} {a : Option Addr} {n : Nat} {f : Nat → Int} (h : Dead w R) (hs : Src w a n f) (x y : Value) : Src (lain w R x y) a n f := by
  rcases hs with h0 | ⟨b, o, e, hb, hc⟩
  · exact .inl h0
  · exact .inr ⟨b, o, e, by simpa [lain] using hb, fun i hi => dead_int h (hc i hi) x y⟩

theorem dead_gv {w : World} {R : Nat} {a : Option Addr} {N : Nat} {T : Nat → GM} (h : Dead w R) (hg : GV w a N T) (x y : Value) : GV (lain w R x y) a N T := by
  rcases hg with h0 | ⟨b, q, e, g⟩
  · exact .inl h0
  · rcases Nat.eq_zero_or_pos N with h0 | hp
    · exact .inl h0
    have hne : b ≠ R := fun e => by
      subst e
      have h0 := (g.six 0 hp).1
      have h1 := (g.six 0 hp).2.1
      rw [dead_cell h] at h0 h1
      match q, h0, h1 with
      | 0, h0, h1 => simp at h1
      | 1, h0, h1 => simp at h0
      | 2, h0, h1 => simp at h0
      | q + 3, h0, h1 => simp at h0
    exact .inr ⟨b, q, e, by have := g.lt; simpa [lain] using this, fun i hi => (g.six i hi).block (lain_block hne), fun i hi => dead_src h (g.flds i hi) x y⟩

theorem dead_map {w : World} {R mb n : Nat} {O : List Int} {v : Nat → Int} (h : Dead w R) (hm : MapT w mb n O v) (x y : Value) : MapT (lain w R x y) mb n O v := by
  refine hm.block (lain_block fun e => ?_)
  subst e
  obtain ⟨t, fr, h1⟩ := h
  obtain ⟨D, ⟨es, clock, h2, _⟩, _⟩ := hm
  rw [h1] at h2; cases h2

def RetIn (W : World) (f : Nat → Int) (roots : List Int) (co : Int) (L : List Ob) (e : Ending) (w' : World) : Prop :=
  Below W.heap.size W w' ∧ ((¬ co = 0 ∧ e = .returned (.agg #[.int .i64 co, .slice none 0 0, .map none])) ∨
    (co = 0 ∧ ∃ a c mb T, e = .returned (.agg #[.int .i64 0, .slice a (reachO f L roots).length c, .map (some mb)]) ∧ GV w' a (reachO f L roots).length T ∧ MapT w' mb (reachO f L roots).length (reachO f L roots) (fun i => (i : Int)) ∧ ∀ i, i < (reachO f L roots).length → ∃ x, findO L (lf (reachO f L roots) i) = some x ∧ GSame (T i) (obG f x)))

set_option maxRecDepth 100000 in
set_option maxHeartbeats 1600000 in
theorem reachIn_code (h ac bu : Int) (a : Option Addr) (n c : Nat) (f : Nat → Int) (ra : Option Addr) (roots : List Int) (rc : Nat) (co : Int) (L : List Ob) (w : World) (hs : Src w a n f) (hcn : n ≤ c) (hcm : c ≤ maxLen) (hrs : Src w ra roots.length (lf roots)) (hk : IsSF h n f ac bu co) (h0 : ¬ co = 0) :
    Calls Try.prog 51 #[.agg #[.int .i64 h, .slice a n c, .int .i64 ac, .int .i64 bu], .slice ra roots.length rc] w (RetIn w f roots co L) := by
  have HS := Lib.hid hs; have HK := Lib.hid hk; have HCM := Lib.hid hcm; have HRS := Lib.hid hrs
  clear hs hk hcm hrs
  go_enter Try.func51, Try.ntmps51
  go_wp2_with fail
  refine (shaped_any h ac bu a n c f _ ((HS.out.alloc _).alloc _) hcn HCM.out co [] (.inl ⟨HK.out, h0, rfl⟩)).mono ?_
  rintro e w1 ⟨a1, c1, T, rfl, hg, hT, hb, hc1, hc2⟩
  have HB1 := Lib.hid (thru2 (Below.refl _ _) hb)
  have R_1 := Lib.hid ((Blk.new_at (w := w.alloc (.cells #[.int .i64 h, .slice a n c, .int .i64 ac, .int .i64 bu] 26)) (cs := #[.int .i64 0, .slice none 0 0, .map none]) (t := 76) (w.heap.size + 1) (by simp)).below hb)
  have z1 : w.heap.size + 2 ≤ w1.heap.size := by have := hb.size; simp at this; omega
  have HG := Lib.hid hg; have HT := Lib.hid hT
  have HBb := Lib.hid hb
  clear hb hg hT hc1 hc2
  have hz := HB1.out.size
  have hd : (co != 0) = true := by simpa using h0
  have H0 := Lib.hid h0
  clear h0
  have lR := R_1.out.1; have cR0 := R_1.out.at 0 rfl; have fR0 := R_1.out.free 0 rfl; have cR1 := R_1.out.at 1 rfl; have fR1 := R_1.out.free 1 rfl; have cR2 := R_1.out.at 2 rfl; have fR2 := R_1.out.free 2 rfl
  go_wp2
  refine bodyPost_ret (v := .agg #[.int .i64 co, .slice none 0 0, .map none]) (by simp [results, Try.results51, go_sem, cR0, cR1, cR2, lR]) rfl ⟨?_, .inl ⟨H0.out, rfl⟩⟩
  repeat (first | (with_reducible refine Below.setCell ?_ (by (try simp); (try omega)) _) | (with_reducible refine Below.alloc ?_ (by (try simp); (try omega)) _) | (with_reducible refine Below.drew ?_))
  exact HB1.out

set_option maxRecDepth 100000 in
set_option maxHeartbeats 1600000 in
theorem reachIn_many (h ac bu : Int) (a : Option Addr) (n c : Nat) (f : Nat → Int) (ra : Option Addr) (roots : List Int) (rc : Nat) (co : Int) (L : List Ob) (w : World) (hs : Src w a n f) (hcn : n ≤ c) (hcm : c ≤ maxLen) (hrs : Src w ra roots.length (lf roots)) (hk : IsSF h n f ac bu 0) (L0 : List Ob) (ho : IsOI h n f ac bu 0 L0) (h0 : 60 < roots.length) :
    Calls Try.prog 51 #[.agg #[.int .i64 h, .slice a n c, .int .i64 ac, .int .i64 bu], .slice ra roots.length rc] w (RetIn w f roots 2 L) := by
  have HS := Lib.hid hs; have HK := Lib.hid hk; have HCM := Lib.hid hcm; have HRS := Lib.hid hrs
  clear hs hk hcm hrs
  go_enter Try.func51, Try.ntmps51
  go_wp2_with fail
  refine (shaped_any h ac bu a n c f _ ((HS.out.alloc _).alloc _) hcn HCM.out 0 L0 (.inr ⟨rfl, HK.out, ho⟩)).mono ?_
  rintro e w1 ⟨a1, c1, T, rfl, hg, hT, hb, hc1, hc2⟩
  have HB1 := Lib.hid (thru2 (Below.refl _ _) hb)
  have R_1 := Lib.hid ((Blk.new_at (w := w.alloc (.cells #[.int .i64 h, .slice a n c, .int .i64 ac, .int .i64 bu] 26)) (cs := #[.int .i64 0, .slice none 0 0, .map none]) (t := 76) (w.heap.size + 1) (by simp)).below hb)
  have z1 : w.heap.size + 2 ≤ w1.heap.size := by have := hb.size; simp at this; omega
  have HG := Lib.hid hg; have HT := Lib.hid hT
  have HBb := Lib.hid hb
  clear hb hg hT hc1 hc2
  have hz := HB1.out.size
  have hd : (60 : Int) < (roots.length : Int) := by omega
  clear h0 ho
  have lR := R_1.out.1; have cR0 := R_1.out.at 0 rfl; have fR0 := R_1.out.free 0 rfl; have cR1 := R_1.out.at 1 rfl; have fR1 := R_1.out.free 1 rfl; have cR2 := R_1.out.at 2 rfl; have fR2 := R_1.out.free 2 rfl
  go_wp2
  refine bodyPost_ret (v := .agg #[.int .i64 2, .slice none 0 0, .map none]) (by simp [results, Try.results51, go_sem, cR0, cR1, cR2, lR]) rfl ⟨?_, .inl ⟨by decide, rfl⟩⟩
  repeat (first | (with_reducible refine Below.setCell ?_ (by (try simp); (try omega)) _) | (with_reducible refine Below.alloc ?_ (by (try simp); (try omega)) _) | (with_reducible refine Below.drew ?_))
  exact HB1.out

set_option maxRecDepth 100000 in
set_option maxHeartbeats 1600000 in
theorem reachIn_rest (h ac bu : Int) (a : Option Addr) (n c : Nat) (f : Nat → Int) (ra : Option Addr) (roots : List Int) (rc : Nat) (co : Int) (L : List Ob) (w : World) (hs : Src w a n f) (hcn : n ≤ c) (hcm : c ≤ maxLen) (hrs : Src w ra roots.length (lf roots)) (hk : IsSF h n f ac bu 0) (ho : IsOI h n f ac bu 0 L) (h60 : roots.length ≤ 60) (hco : ((∃ p ∈ roots, p ∉ placesO L) ∧ co = 4) ∨ ((∀ p ∈ roots, p ∈ placesO L) ∧ co = 0)) :
    Calls Try.prog 51 #[.agg #[.int .i64 h, .slice a n c, .int .i64 ac, .int .i64 bu], .slice ra roots.length rc] w (RetIn w f roots co L) := by
  have HS := Lib.hid hs; have HK := Lib.hid hk; have HCM := Lib.hid hcm; have HRS := Lib.hid hrs
  have HO := Lib.hid ho; have HCO := Lib.hid hco
  clear hs hk hcm hrs ho hco
  go_enter Try.func51, Try.ntmps51
  go_wp2_with fail
  refine (shaped_any h ac bu a n c f _ ((HS.out.alloc _).alloc _) hcn HCM.out 0 L (.inr ⟨rfl, HK.out, HO.out⟩)).mono ?_
  rintro e w1 ⟨a1, c1, T, rfl, hg, hT, hb, hc1, hc2⟩
  have HB1 := Lib.hid (thru2 (Below.refl _ _) hb)
  have R_1 := Lib.hid ((Blk.new_at (w := w.alloc (.cells #[.int .i64 h, .slice a n c, .int .i64 ac, .int .i64 bu] 26)) (cs := #[.int .i64 0, .slice none 0 0, .map none]) (t := 76) (w.heap.size + 1) (by simp)).below hb)
  have z1 : w.heap.size + 2 ≤ w1.heap.size := by have := hb.size; simp at this; omega
  have HG := Lib.hid hg; have HT := Lib.hid hT
  have HBb := Lib.hid hb
  clear hb hg hT hc1 hc2
  have hz := HB1.out.size
  have hd : ¬ (60 : Int) < (roots.length : Int) := by omega
  have DE_1 := Lib.hid ((dead_new (w := w.alloc (.cells #[.int .i64 h, .slice a n c, .int .i64 ac, .int .i64 bu] 26)) (t := 76) (w.heap.size + 1) (by simp)).below HBb.out)
  have HSH := Lib.hid (shaped_of HK.out HO.out HG.out.src HT.out)
  clear HG HT
  go_wp2_with fail
  have HB2 := Lib.hid (HB1.out.alloc hz (.cells #[.int .i64 0, .slice a1 L.length c1] 37))
  have DE2 := Lib.hid (DE_1.out.below ((Below.refl _ _).alloc (Nat.le_refl _) (.cells #[.int .i64 0, .slice a1 L.length c1] 37)))
  have R_2 := Lib.hid (R_1.out.alloc (.cells #[.int .i64 0, .slice a1 L.length c1] 37))
  have SH2 := Lib.hid (HSH.out.below ((Below.refl _ _).alloc (Nat.le_refl _) (.cells #[.int .i64 0, .slice a1 L.length c1] 37)))
  have hz2 : w.heap.size + 2 ≤ (w1.alloc (.cells #[.int .i64 0, .slice a1 L.length c1] 37)).heap.size := by simp; omega
  clear HB1 R_1 HSH
  generalize w1.alloc (.cells #[.int .i64 0, .slice a1 L.length c1] 37) = w2 at *
  refine (reachOf_any a1 c1 T f L ra roots rc _ SH2.out (HRS.out.below HB2.out) h60).mono ?_
  rintro e w3 ⟨hb, hr⟩
  have HB3 := Lib.hid (thru0 HB2.out hb)
  have R_3 := Lib.hid (R_2.out.below hb)
  have DE3 := Lib.hid (DE2.out.below hb)
  have z3 := hb.size
  clear hb
  have lR := R_3.out.1; have cR0 := R_3.out.at 0 rfl; have fR0 := R_3.out.free 0 rfl; have cR1 := R_3.out.at 1 rfl; have fR1 := R_3.out.free 1 rfl; have cR2 := R_3.out.at 2 rfl; have fR2 := R_3.out.free 2 rfl
  rcases hr with ⟨hbad, rfl⟩ | ⟨hall, a3, c3, mb, U, rfl, hgv, hmp, hsm⟩
  · have hc4 : co = 4 := by
      rcases HCO.out with ⟨_, h4⟩ | ⟨hq, _⟩
      · exact h4
      · obtain ⟨p, hp, hq'⟩ := hbad; exact absurd (hq p hp) hq'
    subst hc4
    clear hbad
    go_wp2
    refine bodyPost_ret (v := .agg #[.int .i64 4, .slice none 0 0, .map none]) (by simp [results, Try.results51, go_sem, cR0, cR1, cR2]) rfl ⟨?_, .inl ⟨by decide, rfl⟩⟩
    repeat (first | (with_reducible refine Below.setCell ?_ (by (try simp); (try omega)) _) | (with_reducible refine Below.alloc ?_ (by (try simp); (try omega)) _) | (with_reducible refine Below.drew ?_))
    exact HB3.out
  · have hc0 : co = 0 := by
      rcases HCO.out with ⟨⟨p, hp, hq⟩, _⟩ | ⟨_, h0⟩
      · exact absurd (hall p hp) hq
      · exact h0
    subst hc0
    have HGV := Lib.hid hgv; have HMP := Lib.hid hmp; have HSM := Lib.hid hsm
    clear hall hgv hmp hsm
    go_wp2
    refine bodyPost_ret (v := .agg #[.int .i64 0, .slice a3 (reachO f L roots).length c3, .map (some mb)]) (by simp [results, Try.results51, go_sem, cR0, cR1, cR2]) rfl ⟨?_, .inr ⟨rfl, a3, c3, mb, U, rfl, dead_gv DE3.out HGV.out _ _, dead_map DE3.out HMP.out _ _, HSM.out⟩⟩
    repeat (first | (with_reducible refine Below.setCell ?_ (by (try simp); (try omega)) _) | (with_reducible refine Below.alloc ?_ (by (try simp); (try omega)) _) | (with_reducible refine Below.drew ?_))
    exact HB3.out
end Go.Proofs.Ytdgppcaeknbnjaa

namespace Go.Proofs.Ytdgppcaeknbnjaa
open Go.RowKit Go.Maps
set_option linter.unusedVariables false

theorem news1b (w : World) (x : Int) (B : Nat) (hB : B = w.heap.size) : ∀ (j : Nat) (u : Value), ([.int .i64 x] : List Value)[j]? = some u → (w.alloc (.cells #[.int .i64 x] 2)).cell? ((⟨B, 0, none⟩ : Addr).add j) = some u := hB ▸ news1 w x

theorem nums_succ (n : Nat) (f : Nat → Int) : nums (n + 1) f = nums n f ++ [.int .i64 (f n)] := by simp [nums, List.range_succ]

theorem fld_ir (x y : Value) (w : World) : (Instr.field 33 (.agg #[x, y]) 1).run Try.prog w = .ok y w := by kernel_rfl

theorem gv_get {w : World} {a : Option Addr} {N : Nat} {T : Nat → GM} (h : GV w a N T) {i : Nat} (hi : i < N) : ∃ b q, a = some ⟨b, q, none⟩ ∧ b < w.heap.size ∧ SixG w b (q + i * 6) (T i) := by
  rcases h with h0 | ⟨b, q, e, g⟩
  · omega
  · exact ⟨b, q, e, g.lt, g.six i hi⟩

set_option maxRecDepth 100000 in
set_option maxHeartbeats 1600000 in
theorem places_any (a : Option Addr) (O : List Int) (c : Nat) (T : Nat → GM) (w : World) (hg : GV w a O.length T) (hl : O.length ≤ 1000000) (hO : ∀ i, i < O.length → (T i).at_ = lf O i) :
    Calls Try.prog 52 #[.slice a O.length c] w (RetInts w O.length (lf O)) := by
  have G := Lib.hid hg; have HO := Lib.hid hO
  obtain ⟨i0, hif, hz0, hz1, hz2⟩ := info_parts Try.info2
  clear hg hO
  go_enter Try.func52, Try.ntmps52
  go_wp2
  go_loopw [3, 8] (fun u p wr => ∃ i : Nat, i ≤ O.length ∧ p = .int .i64 (i : Int) ∧ Hid (Below w.heap.size w wr) ∧ Hid (wr.ownsRow w.heap.size 2 1 u i (nums i (lf O)))) (fun _ p _ => O.length - (intOf p).toNat)
  case atStart => exact ⟨0, Nat.zero_le _, rfl, Below.refl _ _, World.ownsRow_nil _ _ _ _⟩
  case round =>
    obtain ⟨i, hi, rfl, HB_r, OW_r⟩ := hrel
    have hzr := HB_r.out.size
    by_cases hlt : i < O.length
    · have hlt' : (i : Int) < (O.length : Int) := by omega
      have hi0 : (0 : Int) ≤ (i : Int) := by omega
      obtain ⟨b, q, rfl, lb, hsix⟩ := gv_get (G.out.below HB_r.out) hlt
      have HAT := Lib.hid (HO.out i hlt)
      have HAL : Hid (Below w.heap.size w (wr.alloc (.cells #[.int .i64 (T i).at_, .int .i64 (T i).s, .int .i64 (T i).m, .int .i64 (T i).o, .int .i64 (T i).h, .slice (T i).a (T i).n (T i).c] 44))) := Lib.hid (HB_r.out.alloc hzr _)
      have OWA := Lib.hid (OW_r.out.alloc (.cells #[.int .i64 (T i).at_, .int .i64 (T i).s, .int .i64 (T i).m, .int .i64 (T i).o, .int .i64 (T i).h, .slice (T i).a (T i).n (T i).c] 44))
      have HGE : Hid (∀ k, u3.ownBlock = some k → w.heap.size ≤ k) := Lib.hid (fun k hk => (OW_r.out.lt k hk).1)
      generalize T i = t at *
      obtain ⟨s0, s1, s2, s3, s4, s5⟩ := hsix
      go_wp2_with (at_builtin; go_loud (refine wpList_append_lies _ rfl _ _ 24 rfl w.heap.size 2 i0 (.int .i64 0) 1 8 Try.underlying24 hif hz0 hz1 hz2 rfl (by decide) u3 i (nums i (lf O)) rfl (OWA.out.alloc _) ⟨wr.heap.size + 1, 0, none⟩ 1 1 [.int .i64 t.at_] rfl rfl (news1b (wr.alloc (.cells #[.int .i64 t.at_, .int .i64 t.s, .int .i64 t.m, .int .i64 t.o, .int .i64 t.h, .slice t.a t.n t.c] 44)) t.at_ (wr.heap.size + 1) (by simp)) (by intro u hu; simp only [List.mem_cons, List.mem_nil_iff, or_false] at hu; subst hu; rfl) (by omega) (by unfold maxLen; omega) (by omega) (by simp; omega) (wr.heap.size + 1 + 1) (by simp) ?_); intro g9 cap9 w9 hown9 hgrow9 hat9 hlt9)
      have HB9 : Hid (Below w.heap.size w w9) := (HAL.out.alloc (by simp; omega) _).grown hgrow9 (by simp; omega) (fun k hk => HGE.out k hk)
      have OW9 : Hid (w9.ownsRow w.heap.size 2 1 (.slice (some ⟨g9, 0, none⟩) (i + 1) cap9) (i + 1) (nums (i + 1) (lf O))) := Lib.hid (by rw [nums_succ, ← HAT.out]; exact hown9)
      clear hown9 hgrow9 hat9 s0 s1 s2 s3 s4 s5
      go_wp2
      go_roundw
      case rel => first | exact ⟨i + 1, by omega, by go_num, HB9, OW9⟩ | ((repeat apply Exists.intro); exact ⟨⟨i + 1, by omega, by go_num, HB9, OW9⟩, rfl⟩)
      case measure => simp [intOf]; omega
    · have hlt' : ¬ (i : Int) < (O.length : Int) := by omega
      obtain rfl : i = O.length := by omega
      have HRet := Lib.hid (retInts_of_row OW_r.out HB_r.out)
      go_wp2
      go_ret
      exact HRet.out

set_option maxRecDepth 100000 in
set_option maxHeartbeats 1600000 in
theorem words_any (co : Int) (mv : Value) (a : Option Addr) (O : List Int) (c : Nat) (T : Nat → GM) (L : List Ob) (f : Nat → Int) (w : World) (hg : GV w a O.length T) (hl : O.length ≤ 400) (hO : ∀ i, i < O.length → ∃ x, findO L (lf O i) = some x ∧ GSame (T i) (obG f x)) (hok : ∀ x ∈ L, ObOk x) :
    Calls Try.prog 56 #[.agg #[.int .i64 co, .slice a O.length c, mv]] w (fun e w' => e = .returned (.int .i64 (sumW (wordsAt L) O : Int)) ∧ Below w.heap.size w w') := by
  have G := Lib.hid hg; have HO := Lib.hid hO; have HOK := Lib.hid hok
  have hfi := fld_ir
  clear hg hO hok
  go_enter Try.func56, Try.ntmps56
  go_wp2
  go_loopw [3, 9] (fun u p wr => ∃ i : Nat, i ≤ O.length ∧ p = .int .i64 (i : Int) ∧ u = .int .i64 (sumW (wordsAt L) (O.take i) : Int) ∧ sumW (wordsAt L) (O.take i) ≤ i * 14 ∧ Hid (Below w.heap.size w wr)) (fun _ p _ => O.length - (intOf p).toNat)
  case atStart => exact ⟨0, Nat.zero_le _, rfl, by simp [sumW], by simp [sumW], (Below.refl _ _).alloc (Nat.le_refl _) _⟩
  case round =>
    obtain ⟨i, hi, rfl, rfl, hsum, HB_r⟩ := hrel
    have hzr := HB_r.out.size
    by_cases hlt : i < O.length
    · have hlt' : (i : Int) < (O.length : Int) := by omega
      have hi0 : (0 : Int) ≤ (i : Int) := by omega
      obtain ⟨b, q, rfl, lb, hsix⟩ := gv_get (G.out.below HB_r.out) hlt
      obtain ⟨x, hx, hs⟩ := HO.out i hlt
      have hok := HOK.out x (List.mem_of_find?_eq_some hx)
      have hts : (T i).s = x.s ∧ (T i).m = x.m ∧ (T i).o = x.o ∧ (T i).h = x.h := ⟨hs.2.1, hs.2.2.1, hs.2.2.2.1, hs.2.2.2.2.1⟩
      have HST := Lib.hid (sumW_take (u := wordsAt L) hlt)
      have HW := Lib.hid (wordsAt_some hx)
      have hs12 := hok.1.1
      have HK : Hid (HOk (T i).s (T i).m (T i).o (T i).h) := Lib.hid (by rw [hts.1, hts.2.1, hts.2.2.1, hts.2.2.2]; exact hok.1)
      have hss : (T i).s = x.s := hts.1
      have HSS := Lib.hid hss
      have hsb : 0 ≤ (T i).s ∧ (T i).s ≤ 12 := by rw [hss]; exact hs12
      have HAL : Hid (Below w.heap.size w (wr.alloc (.cells #[.int .i64 (T i).at_, .int .i64 (T i).s, .int .i64 (T i).m, .int .i64 (T i).o, .int .i64 (T i).h, .slice (T i).a (T i).n (T i).c] 44))) := Lib.hid (HB_r.out.alloc hzr _)
      have e3 : sumW (wordsAt L) (O.take (i + 1)) ≤ (i + 1) * 14 := by rw [HST.out, HW.out]; omega
      have e2 : (sumW (wordsAt L) (O.take (i + 1)) : Int) = (sumW (wordsAt L) (O.take i) : Int) + ((T i).s + 2) := by rw [HST.out, HW.out, hss]; omega
      have E2 := Lib.hid e2; have E3 := Lib.hid e3
      clear hs hok hts e2 e3 hx hss hs12
      generalize T i = t at *
      obtain ⟨s0, s1, s2, s3, s4, s5⟩ := hsix
      obtain ⟨hsb1, hsb2⟩ := hsb
      go_wp2_with fail
      refine (implWO_yes t.s t.m t.o t.h _ HK.out).mono ?_
      rintro e w2 ⟨rfl, hb⟩
      have HB2 := Lib.hid (thru0 HAL.out hb)
      clear hb s0 s1 s2 s3 s4 s5
      generalize sumW (wordsAt L) (O.take i) = sm at *
      go_wp2
      go_roundw
      case rel => first | exact ⟨i + 1, by omega, by go_num, by rw [E2.out], E3.out, HB2⟩ | ((repeat apply Exists.intro); exact ⟨⟨i + 1, by omega, by go_num, by rw [E2.out], E3.out, HB2⟩, rfl⟩)
      case measure => simp [intOf]; omega
    · have hlt' : ¬ (i : Int) < (O.length : Int) := by omega
      obtain rfl : i = O.length := by omega
      have HT : Hid (O.take O.length = O) := Lib.hid List.take_length
      go_wp2
      go_ret
      exact ⟨rfl, HB_r.out⟩
end Go.Proofs.Ytdgppcaeknbnjaa

namespace Go.Proofs.Ytdgppcaeknbnjaa
open Go.RowKit Go.Maps
set_option linter.unusedVariables false

theorem reachIn_any (h ac bu : Int) (a : Option Addr) (n c : Nat) (f : Nat → Int) (ra : Option Addr) (roots : List Int) (rc : Nat) (co : Int) (L : List Ob) (w : World) (hs : Src w a n f) (hcn : n ≤ c) (hcm : c ≤ maxLen) (hrs : Src w ra roots.length (lf roots)) (hk : IsAsk h n f ac bu roots co L) :
    Calls Try.prog 51 #[.agg #[.int .i64 h, .slice a n c, .int .i64 ac, .int .i64 bu], .slice ra roots.length rc] w (RetIn w f roots co L) := by
  rcases hk with ⟨h1, h2⟩ | ⟨h1, h2, rfl⟩ | ⟨h1, h2, h3, h4, rfl⟩ | ⟨h1, h2, h3, h4, rfl⟩
  · exact reachIn_code h ac bu a n c f ra roots rc co L w hs hcn hcm hrs h1 h2
  · obtain ⟨L0, hL0⟩ := isSF_zero h1
    exact reachIn_many h ac bu a n c f ra roots rc 2 L w hs hcn hcm hrs h1 L0 hL0 h2
  · exact reachIn_rest h ac bu a n c f ra roots rc 4 L w hs hcn hcm hrs h1 h2 h3 (.inl ⟨h4, rfl⟩)
  · exact reachIn_rest h ac bu a n c f ra roots rc 0 L w hs hcn hcm hrs h1 h2 h3 (.inr ⟨h4, rfl⟩)

theorem two3 {w : World} {b : Nat} {v0 v1 v2 : Value} (h : Blk w b [v0, v1, v2]) : w.cell? ⟨b, 0, none⟩ = some v0 ∧ w.cell? ⟨b, 1, none⟩ = some v1 := ⟨h.at 0 rfl, h.at 1 rfl⟩

theorem three3 {w : World} {b : Nat} {v0 v1 v2 : Value} (h : Blk w b [v0, v1, v2]) : w.cell? ⟨b, 0, none⟩ = some v0 ∧ w.cell? ⟨b, 1, none⟩ = some v1 ∧ w.cell? ⟨b, 2, none⟩ = some v2 := ⟨h.at 0 rfl, h.at 1 rfl, h.at 2 rfl⟩

set_option maxRecDepth 100000 in
set_option maxHeartbeats 3200000 in
theorem implRF_any (h ac bu : Int) (a : Option Addr) (n c : Nat) (f : Nat → Int) (ra : Option Addr) (roots : List Int) (rc : Nat) (co : Int) (L : List Ob) (w : World) (hs : Src w a n f) (hcn : n ≤ c) (hcm : c ≤ maxLen) (hrs : Src w ra roots.length (lf roots)) (hk : IsAsk h n f ac bu roots co L) :
    Calls Try.prog 13 #[.agg #[.int .i64 h, .slice a n c, .int .i64 ac, .int .i64 bu], .slice ra roots.length rc] w (RetIR w co (outR f L roots co).length (lf (outR f L roots co))) := by
  have HS := Lib.hid hs; have HK := Lib.hid hk; have HCM := Lib.hid hcm; have HRS := Lib.hid hrs
  clear hs hk hcm hrs
  go_enter Try.func13, Try.ntmps13
  go_wp2_with fail
  refine (reachIn_any h ac bu a n c f ra roots rc co L _ ((HS.out.alloc _).alloc _) hcn HCM.out ((HRS.out.alloc _).alloc _) HK.out).mono ?_
  rintro e w1 ⟨hb, hr⟩
  have HB1 := Lib.hid (thru2 (Below.refl _ _) hb)
  have R_1 := Lib.hid ((Blk.new_at (w := w.alloc (.cells #[.int .i64 h, .slice a n c, .int .i64 ac, .int .i64 bu] 26)) (cs := #[.int .i64 0, .slice none 0 0]) (t := 30) (w.heap.size + 1) (by simp)).below hb)
  have z1 : w.heap.size + 2 ≤ w1.heap.size := by have := hb.size; simp at this; omega
  clear hb
  have hz := HB1.out.size
  rcases hr with ⟨h0, rfl⟩ | ⟨rfl, a1, c1, mb, T, rfl, hg, hm, hsm⟩
  · have HE := Lib.hid (outR_no f L roots h0)
    clear h0
    have HB2 := Lib.hid (HB1.out.alloc hz (.cells #[.int .i64 co, .slice none 0 0, .map none] 76))
    have R_2 := Lib.hid (R_1.out.alloc (.cells #[.int .i64 co, .slice none 0 0, .map none] 76))
    have X_2 := Lib.hid (Blk.new_at (w := w1) (cs := #[.int .i64 co, .slice none 0 0, .map none]) (t := 76) w1.heap.size rfl)
    have hz2 : w1.heap.size + 1 = (w1.alloc (.cells #[.int .i64 co, .slice none 0 0, .map none] 76)).heap.size := by simp
    go_wp2_with fail
    clear HB1 R_1 hz
    generalize w1.alloc (.cells #[.int .i64 co, .slice none 0 0, .map none] 76) = w2 at *
    have X_d := Lib.hid X_2.out.drew; have R_d := Lib.hid R_2.out.drew; have HB_d := Lib.hid HB2.out.drew
    have hz2' : w1.heap.size + 1 = w2.drew.heap.size := by simpa using hz2
    skip
    have lR := R_d.out.1; have cR0 := R_d.out.at 0 rfl; have fR0 := R_d.out.free 0 rfl; have cR1 := R_d.out.at 1 rfl; have fR1 := R_d.out.free 1 rfl
    clear lR cR0 fR0 cR1 fR1
    go_region_held3 (fun w' => w'.cell? ⟨w1.heap.size, 0, none⟩ = some (.int .i64 co) ∧ w'.cell? ⟨w1.heap.size, 1, none⟩ = some (.slice none 0 0))
      (first | (with_reducible exact two3 X_2.out) | (with_reducible exact two3 X_d.out) | (with_reducible exact two3 X_3.out) | (exact two3 ((X_3.out.other (by (try simp); (try omega)) _).other (by (try simp); (try omega)) _)))
      (first | (go_at_call 52; (refine (places_any none [] 0 (fun _ => gzero) _ (.inl rfl) (by simp) (fun i hi => (by simp at hi))).mono ?_; rintro e w3 ⟨a3, c3, rfl, ho3, hb, h31, h32, h33⟩; have HB3 := Lib.hid (thru0 HB_d.out hb); have X_3 := Lib.hid (X_d.out.below hb); have R_3 := Lib.hid (R_d.out.below hb); have HO3 := Lib.hid ho3; have z3 := hb.size; clear hb ho3 h31 h32 h33; have lR := R_3.out.1; have cR0 := R_3.out.at 0 rfl; have fR0 := R_3.out.free 0 rfl; have cR1 := R_3.out.at 1 rfl; have fR1 := R_3.out.free 1 rfl)))
    have hz3 := HB3.out.size
    go_wp2
    refine bodyPost_ret (v := .agg #[.int .i64 co, .slice a3 ([] : List Int).length c3]) (by simp [results, Try.results13, go_sem, cR0, cR1]) rfl ?_
    rw [HE.out]
    refine ⟨a3, c3, rfl, .inl rfl, ?_⟩
    repeat (first | (with_reducible refine Below.setCell ?_ (by (try simp); (try omega)) _) | (with_reducible refine Below.alloc ?_ (by (try simp); (try omega)) _) | (with_reducible refine Below.drew ?_))
    exact HB3.out
  · have HKZ := Lib.hid (isAsk_zero HK.out)
    have HRI := Lib.hid (right_of HKZ.out.1 HKZ.out.2.1)
    have hrl : (reachO f L roots).length ≤ 1000000 := by
      have h9 := reachO_length HRI.out.points HRI.out.size HKZ.out.2.2.2
      have := (shaped_of (w := w1) (a := none) (T := obT f L) HKZ.out.1 HKZ.out.2.1)
      have h8 := isOI_small HKZ.out.2.1
      omega
    have HPL := Lib.hid (fun i hi => (by obtain ⟨x, hx, hs⟩ := hsm i hi; rw [hs.1]; show x.at_ = _; have := List.find?_some hx; simpa using this : (T i).at_ = lf (reachO f L roots) i))
    have HG := Lib.hid hg
    clear hg hm hsm
    have HB2 := Lib.hid (HB1.out.alloc hz (.cells #[.int .i64 0, .slice a1 (reachO f L roots).length c1, .map (some mb)] 76))
    have R_2 := Lib.hid (R_1.out.alloc (.cells #[.int .i64 0, .slice a1 (reachO f L roots).length c1, .map (some mb)] 76))
    have X_2 := Lib.hid (Blk.new_at (w := w1) (cs := #[.int .i64 0, .slice a1 (reachO f L roots).length c1, .map (some mb)]) (t := 76) w1.heap.size rfl)
    have hz2 : w1.heap.size + 1 = (w1.alloc (.cells #[.int .i64 0, .slice a1 (reachO f L roots).length c1, .map (some mb)] 76)).heap.size := by simp
    have HW12 := Lib.hid ((Below.refl w1.heap.size w1).alloc (Nat.le_refl _) (.cells #[.int .i64 0, .slice a1 (reachO f L roots).length c1, .map (some mb)] 76))
    go_wp2_with fail
    clear HB1 R_1 hz
    generalize w1.alloc (.cells #[.int .i64 0, .slice a1 (reachO f L roots).length c1, .map (some mb)] 76) = w2 at *
    have X_d := Lib.hid X_2.out.drew; have R_d := Lib.hid R_2.out.drew; have HB_d := Lib.hid HB2.out.drew
    have hz2' : w1.heap.size + 1 = w2.drew.heap.size := by simpa using hz2
    have HG2 := Lib.hid ((HG.out.below (show Below w1.heap.size w1 w2 from HW12.out)).drew)
    have lR := R_d.out.1; have cR0 := R_d.out.at 0 rfl; have fR0 := R_d.out.free 0 rfl; have cR1 := R_d.out.at 1 rfl; have fR1 := R_d.out.free 1 rfl
    clear lR cR0 fR0 cR1 fR1
    go_region_held3 (fun w' => w'.cell? ⟨w1.heap.size, 0, none⟩ = some (.int .i64 0) ∧ w'.cell? ⟨w1.heap.size, 1, none⟩ = some (.slice a1 (reachO f L roots).length c1))
      (first | (with_reducible exact two3 X_2.out) | (with_reducible exact two3 X_d.out) | (with_reducible exact two3 X_3.out) | (exact two3 ((X_3.out.other (by (try simp); (try omega)) _).other (by (try simp); (try omega)) _)))
      (first | (go_at_call 52; (refine (places_any a1 (reachO f L roots) c1 T _ HG2.out hrl HPL.out).mono ?_; rintro e w3 ⟨a3, c3, rfl, ho3, hb, h31, h32, h33⟩; have HB3 := Lib.hid (thru0 HB_d.out hb); have X_3 := Lib.hid (X_d.out.below hb); have R_3 := Lib.hid (R_d.out.below hb); have HO3 := Lib.hid ho3; have z3 := hb.size; clear hb ho3 h31 h32 h33; have lR := R_3.out.1; have cR0 := R_3.out.at 0 rfl; have fR0 := R_3.out.free 0 rfl; have cR1 := R_3.out.at 1 rfl; have fR1 := R_3.out.free 1 rfl)))
    have hz3 := HB3.out.size
    go_wp2
    refine bodyPost_ret (v := .agg #[.int .i64 0, .slice a3 (reachO f L roots).length c3]) (by simp [results, Try.results13, go_sem, cR0, cR1]) rfl ?_
    rw [outR_zero]
    refine ⟨a3, c3, rfl, ?_, ?_⟩
    · refine Own.mono (B := w2.drew.heap.size) ?_ (by have := HB_d.out.size; exact this)
      repeat (first | (with_reducible refine Own.setCell ?_ (by (try simp); (try omega)) _) | (with_reducible refine Own.alloc ?_ _) | (with_reducible refine Own.drew ?_))
      exact HO3.out
    · repeat (first | (with_reducible refine Below.setCell ?_ (by (try simp); (try omega)) _) | (with_reducible refine Below.alloc ?_ (by (try simp); (try omega)) _) | (with_reducible refine Below.drew ?_))
      exact HB3.out
end Go.Proofs.Ytdgppcaeknbnjaa

namespace Go.Proofs.Ytdgppcaeknbnjaa
open Go.RowKit Go.Maps
set_option linter.unusedVariables false

set_option maxRecDepth 100000 in
set_option maxHeartbeats 3200000 in
theorem implLW_any (h ac bu : Int) (a : Option Addr) (n c : Nat) (f : Nat → Int) (ra : Option Addr) (roots : List Int) (rc : Nat) (co : Int) (L : List Ob) (w : World) (hs : Src w a n f) (hcn : n ≤ c) (hcm : c ≤ maxLen) (hrs : Src w ra roots.length (lf roots)) (hk : IsAsk h n f ac bu roots co L) :
    Calls Try.prog 15 #[.agg #[.int .i64 h, .slice a n c, .int .i64 ac, .int .i64 bu], .slice ra roots.length rc] w (RetPair w co (outW f L roots co)) := by
  have HS := Lib.hid hs; have HK := Lib.hid hk; have HCM := Lib.hid hcm; have HRS := Lib.hid hrs
  clear hs hk hcm hrs
  go_enter Try.func15, Try.ntmps15
  go_wp2_with fail
  refine (reachIn_any h ac bu a n c f ra roots rc co L _ ((HS.out.alloc _).alloc _) hcn HCM.out ((HRS.out.alloc _).alloc _) HK.out).mono ?_
  rintro e w1 ⟨hb, hr⟩
  have HB1 := Lib.hid (thru2 (Below.refl _ _) hb)
  have R_1 := Lib.hid ((Blk.new_at (w := w.alloc (.cells #[.int .i64 h, .slice a n c, .int .i64 ac, .int .i64 bu] 26)) (cs := #[.int .i64 0, .int .i64 0]) (t := 33) (w.heap.size + 1) (by simp)).below hb)
  have z1 : w.heap.size + 2 ≤ w1.heap.size := by have := hb.size; simp at this; omega
  clear hb
  have hz := HB1.out.size
  rcases hr with ⟨h0, rfl⟩ | ⟨rfl, a1, c1, mb, T, rfl, hg, hm, hsm⟩
  · have HE := Lib.hid (outW_no f L roots h0)
    clear h0
    have HB2 := Lib.hid (HB1.out.alloc hz (.cells #[.int .i64 co, .slice none 0 0, .map none] 76))
    have R_2 := Lib.hid (R_1.out.alloc (.cells #[.int .i64 co, .slice none 0 0, .map none] 76))
    have X_2 := Lib.hid (Blk.new_at (w := w1) (cs := #[.int .i64 co, .slice none 0 0, .map none]) (t := 76) w1.heap.size rfl)
    have hz2 : w1.heap.size + 1 = (w1.alloc (.cells #[.int .i64 co, .slice none 0 0, .map none] 76)).heap.size := by simp
    have HW12 := Lib.hid ((Below.refl w1.heap.size w1).alloc (Nat.le_refl _) (.cells #[.int .i64 co, .slice none 0 0, .map none] 76))
    go_wp2_with fail
    clear HB1 R_1 hz
    generalize w1.alloc (.cells #[.int .i64 co, .slice none 0 0, .map none] 76) = w2 at *
    have X_d := Lib.hid X_2.out.drew; have R_d := Lib.hid R_2.out.drew; have HB_d := Lib.hid HB2.out.drew
    have hz2' : w1.heap.size + 1 = w2.drew.heap.size := by simpa using hz2
    skip
    go_region_held3 (fun w' => w'.cell? ⟨w1.heap.size, 0, none⟩ = some (.int .i64 co) ∧ w'.cell? ⟨w1.heap.size, 1, none⟩ = some (.slice none 0 0) ∧ w'.cell? ⟨w1.heap.size, 2, none⟩ = some (.map none))
      (first | (with_reducible exact three3 X_2.out) | (with_reducible exact three3 X_d.out) | (with_reducible exact three3 X_3.out) | (exact three3 ((X_3.out.other (by (try simp); (try omega)) _).other (by (try simp); (try omega)) _)))
      (first | (go_at_call 56; (refine (words_any co (.map none) none [] 0 (fun _ => gzero) [] f _ (.inl rfl) (by simp) (fun i hi => (by simp at hi)) (fun x hx => (by cases hx))).mono ?_; rintro e w3 ⟨rfl, hb⟩; have HB3 := Lib.hid (thru0 HB_d.out hb); have X_3 := Lib.hid (X_d.out.below hb); have R_3 := Lib.hid (R_d.out.below hb); have z3 := hb.size; clear hb; have lR := R_3.out.1; have cR0 := R_3.out.at 0 rfl; have fR0 := R_3.out.free 0 rfl; have cR1 := R_3.out.at 1 rfl; have fR1 := R_3.out.free 1 rfl)))
    have hz3 := HB3.out.size
    go_wp2
    refine bodyPost_ret (v := .agg #[.int .i64 co, .int .i64 0]) (by simp [results, Try.results15, go_sem, cR0, cR1, sumW]) rfl ?_
    rw [HE.out]
    refine ⟨rfl, ?_⟩
    repeat (first | (with_reducible refine Below.setCell ?_ (by (try simp); (try omega)) _) | (with_reducible refine Below.alloc ?_ (by (try simp); (try omega)) _) | (with_reducible refine Below.drew ?_))
    exact HB3.out
  · have HKZ := Lib.hid (isAsk_zero HK.out)
    have HRI := Lib.hid (right_of HKZ.out.1 HKZ.out.2.1)
    have hrl : (reachO f L roots).length ≤ 400 := by
      have h9 := reachO_length HRI.out.points HRI.out.size HKZ.out.2.2.2
      have h8 := isOI_small HKZ.out.2.1
      omega
    have HG := Lib.hid hg; have HSM := Lib.hid hsm
    clear hg hm hsm
    have HB2 := Lib.hid (HB1.out.alloc hz (.cells #[.int .i64 0, .slice a1 (reachO f L roots).length c1, .map (some mb)] 76))
    have R_2 := Lib.hid (R_1.out.alloc (.cells #[.int .i64 0, .slice a1 (reachO f L roots).length c1, .map (some mb)] 76))
    have X_2 := Lib.hid (Blk.new_at (w := w1) (cs := #[.int .i64 0, .slice a1 (reachO f L roots).length c1, .map (some mb)]) (t := 76) w1.heap.size rfl)
    have hz2 : w1.heap.size + 1 = (w1.alloc (.cells #[.int .i64 0, .slice a1 (reachO f L roots).length c1, .map (some mb)] 76)).heap.size := by simp
    have HW12 := Lib.hid ((Below.refl w1.heap.size w1).alloc (Nat.le_refl _) (.cells #[.int .i64 0, .slice a1 (reachO f L roots).length c1, .map (some mb)] 76))
    go_wp2_with fail
    clear HB1 R_1 hz
    generalize w1.alloc (.cells #[.int .i64 0, .slice a1 (reachO f L roots).length c1, .map (some mb)] 76) = w2 at *
    have X_d := Lib.hid X_2.out.drew; have R_d := Lib.hid R_2.out.drew; have HB_d := Lib.hid HB2.out.drew
    have hz2' : w1.heap.size + 1 = w2.drew.heap.size := by simpa using hz2
    have HG2 := Lib.hid ((HG.out.below (show Below w1.heap.size w1 w2 from HW12.out)).drew)
    go_region_held3 (fun w' => w'.cell? ⟨w1.heap.size, 0, none⟩ = some (.int .i64 0) ∧ w'.cell? ⟨w1.heap.size, 1, none⟩ = some (.slice a1 (reachO f L roots).length c1) ∧ w'.cell? ⟨w1.heap.size, 2, none⟩ = some (.map (some mb)))
      (first | (with_reducible exact three3 X_2.out) | (with_reducible exact three3 X_d.out) | (with_reducible exact three3 X_3.out) | (exact three3 ((X_3.out.other (by (try simp); (try omega)) _).other (by (try simp); (try omega)) _)))
      (first | (go_at_call 56; (refine (words_any 0 (.map (some mb)) a1 (reachO f L roots) c1 T L f _ HG2.out hrl HSM.out HRI.out.ok).mono ?_; rintro e w3 ⟨rfl, hb⟩; have HB3 := Lib.hid (thru0 HB_d.out hb); have X_3 := Lib.hid (X_d.out.below hb); have R_3 := Lib.hid (R_d.out.below hb); have z3 := hb.size; clear hb; have lR := R_3.out.1; have cR0 := R_3.out.at 0 rfl; have fR0 := R_3.out.free 0 rfl; have cR1 := R_3.out.at 1 rfl; have fR1 := R_3.out.free 1 rfl)))
    have hz3 := HB3.out.size
    go_wp2
    refine bodyPost_ret (v := .agg #[.int .i64 0, .int .i64 (sumW (wordsAt L) (reachO f L roots) : Int)]) (by simp [results, Try.results15, go_sem, cR0, cR1]) rfl ⟨?_, ?_⟩
    · unfold outW; rw [if_pos rfl]
    · repeat (first | (with_reducible refine Below.setCell ?_ (by (try simp); (try omega)) _) | (with_reducible refine Below.alloc ?_ (by (try simp); (try omega)) _) | (with_reducible refine Below.drew ?_))
      exact HB3.out
end Go.Proofs.Ytdgppcaeknbnjaa

namespace Go.Proofs.Ytdgppcaeknbnjaa
open Go.RowKit Go.Maps
set_option linter.unusedVariables false

theorem reach_small {h : Int} {n : Nat} {f : Nat → Int} {ac bu : Int} {roots : List Int} {co : Int} {L : List Ob} (hk : IsAsk h n f ac bu roots co L) : (outR f L roots co).length ≤ 400 ∧ (outG f L roots co).length ≤ 400 := by
  by_cases h0 : co = 0
  · subst h0
    obtain ⟨h1, h2, h3, h4⟩ := isAsk_zero hk
    have hri := right_of h1 h2
    have h9 := reachO_length hri.points hri.size h4
    have h8 := isOI_small h2
    refine ⟨by rw [outR_zero]; omega, ?_⟩
    unfold outG
    rw [if_pos rfl]
    have := List.length_filter_le (fun p => decide (p ∉ reachO f L roots)) (placesO L)
    simp [placesO] at this ⊢
    omega
  · rw [outR_no f L roots h0, outG_no f L roots h0]; simp
end Go.Proofs.Ytdgppcaeknbnjaa

namespace Go.Proofs.Ytdgppcaeknbnjaa
open Go.RowKit Go.Maps
set_option linter.unusedVariables false

/-- What the closure reads. -/
structure Cap (w : World) (rb mb nn : Nat) (v : Value) (O : List Int) : Prop where
  blk : Blk w rb [.int .i64 0, v, .map (some mb)]
  map : MapT w mb nn O (fun i => (i : Int))

theorem Cap.below {w w' : World} {rb mb nn : Nat} {v : Value} {O : List Int} (h : Cap w rb mb nn v O) (hb : Below w.heap.size w w') : Cap w' rb mb nn v O := ⟨h.blk.below hb, h.map.below hb⟩

set_option maxRecDepth 100000 in
set_option maxHeartbeats 1600000 in
theorem clos_any (rb mb nn : Nat) (v : Value) (O : List Int) (t : GM) (w : World) (h : Cap w rb mb nn v O) (hp : -1000000000 ≤ t.at_ ∧ t.at_ ≤ 1000000000) :
    Calls Try.prog 55 #[.agg #[.int .i64 t.at_, .int .i64 t.s, .int .i64 t.m, .int .i64 t.o, .int .i64 t.h, .slice t.a t.n t.c], .pointer (some ⟨rb, 0, none⟩)] w (RetBool w (decide (t.at_ ∈ O))) := by
  have H := Lib.hid h
  have X0 := Lib.hid (Blk.new_at (w := w) (cs := #[.int .i64 t.at_, .int .i64 t.s, .int .i64 t.m, .int .i64 t.o, .int .i64 t.h, .slice t.a t.n t.c]) (t := 44) w.heap.size rfl)
  have B0 := Lib.hid (h.blk.alloc (.cells #[.int .i64 t.at_, .int .i64 t.s, .int .i64 t.m, .int .i64 t.o, .int .i64 t.h, .slice t.a t.n t.c] 44))
  have HB0 := Lib.hid ((Below.refl w.heap.size w).alloc (Nat.le_refl _) (.cells #[.int .i64 t.at_, .int .i64 t.s, .int .i64 t.m, .int .i64 t.o, .int .i64 t.h, .slice t.a t.n t.c] 44))
  have hlk := (h.map.alloc (.cells #[.int .i64 t.at_, .int .i64 t.s, .int .i64 t.m, .int .i64 t.o, .int .i64 t.h, .slice t.a t.n t.c] 44)).look_ok hp
  obtain ⟨bb, hbb⟩ : ∃ bb, decide (t.at_ ∈ O) = bb := ⟨_, rfl⟩
  have HBB := Lib.hid hbb
  rw [hbb] at hlk
  clear h hbb
  have lX := X0.out.1; have cX0 := X0.out.at 0 rfl; have cX1 := X0.out.at 1 rfl; have cX2 := X0.out.at 2 rfl; have cX3 := X0.out.at 3 rfl; have cX4 := X0.out.at 4 rfl; have cX5 := X0.out.at 5 rfl
  have lB := B0.out.1; have cB0 := B0.out.at 0 rfl; have cB1 := B0.out.at 1 rfl; have cB2 := B0.out.at 2 rfl
  clear X0 B0
  go_enter Try.func55, Try.ntmps55
  go_wp2
  go_ret
  exact ⟨by rw [HBB.out]; rfl, HB0.out⟩
end Go.Proofs.Ytdgppcaeknbnjaa

namespace Go.Proofs.Ytdgppcaeknbnjaa
open Go.RowKit Go.Maps
set_option linter.unusedVariables false

set_option maxRecDepth 100000 in
set_option maxHeartbeats 1600000 in
theorem index_any (a : Option Addr) (N c : Nat) (T : Nat → GM) (rb mb nn : Nat) (v : Value) (O : List Int) (w : World) (hg : GV w a N T) (hN : N ≤ 1048576) (hc : Cap w rb mb nn v O) (hp : ∀ i, i < N → -1000000000 ≤ (T i).at_ ∧ (T i).at_ ≤ 1000000000) :
    Calls Try.prog 89 #[.slice a N c, .func (.func 55) #[] #[.pointer (some ⟨rb, 0, none⟩)]] w (fun e w' => Below w.heap.size w w' ∧ (((∀ j, j < N → (T j).at_ ∉ O) ∧ e = .returned (.int .i64 (-1))) ∨ ∃ i : Nat, i < N ∧ (T i).at_ ∈ O ∧ (∀ j, j < i → (T j).at_ ∉ O) ∧ e = .returned (.int .i64 (i : Int)))) := by
  have G := Lib.hid hg; have HC := Lib.hid hc; have HP := Lib.hid hp
  have eg : ∀ args w, (callFunc 55 args).run Try.prog w = .ok (.enter 55 args) w := enters_of Try.func55 (by kernel_rfl) rfl
  clear hg hc hp
  go_enter Try.func89, Try.ntmps89
  go_wp2
  go_loopw [8] (fun p wr => ∃ i : Nat, i ≤ N ∧ p = .int .i64 (i : Int) ∧ Hid (Below w.heap.size w wr) ∧ Hid (∀ j, j < i → (T j).at_ ∉ O)) (fun p _ => N - (intOf p).toNat)
  case atStart => exact ⟨0, Nat.zero_le _, rfl, Below.refl _ _, Lib.hid (fun j hj => by omega)⟩
  case round =>
    obtain ⟨i, hi, rfl, HB_r, HD⟩ := hrel
    by_cases hlt : i < N
    · have hlt' : (i : Int) < (N : Int) := by omega
      have hi0 : (0 : Int) ≤ (i : Int) := by omega
      obtain ⟨b, q, rfl, lb, hsix⟩ := gv_get (G.out.below HB_r.out) hlt
      have hp := HP.out i hlt
      have HNX : Hid ((T i).at_ ∉ O → ∀ j, j < i + 1 → (T j).at_ ∉ O) := Lib.hid (fun h j hj => by
        rcases Nat.lt_succ_iff_lt_or_eq.mp hj with h1 | h1
        · exact HD.out j h1
        · subst h1; exact h)
      have HFD : Hid ((T i).at_ ∈ O → ∃ i' : Nat, i' < N ∧ (T i').at_ ∈ O ∧ (∀ j, j < i' → (T j).at_ ∉ O) ∧ Ending.returned (.int .i64 (i : Int)) = Ending.returned (.int .i64 (i' : Int))) := Lib.hid (fun h => ⟨i, hlt, h, HD.out, rfl⟩)
      generalize T i = t at *
      obtain ⟨s0, s1, s2, s3, s4, s5⟩ := hsix
      by_cases hin : t.at_ ∈ O
      · have hd : decide (t.at_ ∈ O) = true := decide_eq_true hin
        have HIN := Lib.hid hin
        clear hin
        go_wp2_with (go_at_fn 55; refine (clos_any rb mb nn v O t _ (HC.out.below HB_r.out) hp).mono ?_; rintro e w1 ⟨rfl, hb⟩; rw [hd]; have HB1 := Lib.hid (thru0 HB_r.out hb); clear hb)
        go_ret
        exact ⟨HB1.out, .inr (HFD.out HIN.out)⟩
      · have hd : decide (t.at_ ∈ O) = false := decide_eq_false hin
        have HN := Lib.hid (HNX.out hin)
        clear hin
        go_wp2_with (go_at_fn 55; refine (clos_any rb mb nn v O t _ (HC.out.below HB_r.out) hp).mono ?_; rintro e w1 ⟨rfl, hb⟩; rw [hd]; have HB1 := Lib.hid (thru0 HB_r.out hb); clear hb)
        clear s0 s1 s2 s3 s4 s5 hd
        go_roundw
        case rel => first | exact ⟨i + 1, by omega, by go_num, HB1, HN⟩ | ((repeat apply Exists.intro); exact ⟨⟨i + 1, by omega, by go_num, HB1, HN⟩, rfl⟩)
        case measure => simp [intOf]; omega
    · have hlt' : ¬ (i : Int) < (N : Int) := by omega
      go_wp2
      go_ret
      exact ⟨HB_r.out, .inl ⟨fun j hj => HD.out j (by omega), rfl⟩⟩
end Go.Proofs.Ytdgppcaeknbnjaa

namespace Go.Proofs.Ytdgppcaeknbnjaa
open Go.RowKit Go.Maps
set_option linter.unusedVariables false

/-- A row of objects that may be written. -/
structure RW (w : World) (b q N : Nat) (V : Nat → GM) : Prop where
  lt : b < w.heap.size
  six : ∀ k, k < N → SixG w b (q + k * 6) (V k)
  free : ∀ k, k < N → SixF w b (q + k * 6)
  flds : ∀ k, k < N → Src w (V k).a (V k).n (V k).f
  off : ∀ k, k < N → (V k).n = 0 ∨ (V k).g ≠ b

theorem RW.of {w : World} {lo hi b q N : Nat} {T : Nat → GM} (h : GOwn w lo hi b q N T) : RW w b q N T := ⟨h.lt, h.six, h.free, fun k hk => (h.flds k hk).src, h.off⟩

theorem RW.below {w w' : World} {b q N : Nat} {V : Nat → GM} (h : RW w b q N V) (hb : Below w.heap.size w w') : RW w' b q N V :=
  ⟨Nat.lt_of_lt_of_le h.lt hb.size, fun k hk => (h.six k hk).below hb h.lt, fun k hk => (h.free k hk).below hb h.lt, fun k hk => (h.flds k hk).below hb, h.off⟩

theorem src_six {w : World} {b o : Nat} {t u : GM} (h : Src w u.a u.n u.f) (hb : u.n = 0 ∨ u.g ≠ b) : Src (sixW w b o t) u.a u.n u.f := by
  rcases h with h0 | ⟨b', o', e, h1, h2⟩
  · exact .inl h0
  · rcases hb with h0 | hb
    · exact .inl h0
    · have hg : u.g = b' := by simp [GM.g, e]
      have hk := (sixW_keeps w b o t).block b' h1 (by omega)
      exact .inr ⟨b', o', e, Nat.lt_of_lt_of_le h1 (sixW_keeps w b o t).size, fun i hi => (World.cell?_of_block (w := w) (a := ⟨b', o' + i, none⟩) hk).trans (h2 i hi)⟩

theorem sixF_six {w : World} {b o o' : Nat} {t : GM} (h : SixF w b o) : SixF (sixW w b o' t) b o :=
  ⟨(sixW_frozen _ _ _ _ _).trans h.1, (sixW_frozen _ _ _ _ _).trans h.2.1, (sixW_frozen _ _ _ _ _).trans h.2.2.1, (sixW_frozen _ _ _ _ _).trans h.2.2.2.1, (sixW_frozen _ _ _ _ _).trans h.2.2.2.2.1, (sixW_frozen _ _ _ _ _).trans h.2.2.2.2.2⟩

theorem RW.set {w : World} {b q N i : Nat} {V : Nat → GM} {t : GM} (h : RW w b q N V) (hi : i < N) (hs : Src w t.a t.n t.f) (ho : t.n = 0 ∨ t.g ≠ b) : RW (sixW w b (q + i * 6) t) b q N (fun k => if k = i then t else V k) := by
  refine ⟨Nat.lt_of_lt_of_le h.lt (sixW_keeps w b _ t).size, fun k hk => ?_, fun k hk => sixF_six (h.free k hk), fun k hk => ?_, fun k hk => ?_⟩
  · by_cases e : k = i
    · subst e; rw [if_pos rfl]; exact sixW_at (h.six k hk) t
    · rw [if_neg e]; exact sixW_other (h.six k hk) (by omega) t
  · by_cases e : k = i
    · rw [if_pos e]; exact src_six hs ho
    · rw [if_neg e]; exact src_six (h.flds k hk) (h.off k hk)
  · by_cases e : k = i
    · rw [if_pos e]; exact ho
    · rw [if_neg e]; exact h.off k hk

def ki (T : Nat → GM) (O : List Int) (j : Nat) : List Nat := (List.range j).filter (fun k => decide ((T k).at_ ∉ O))

theorem ki_succ (T : Nat → GM) (O : List Int) (j : Nat) : ki T O (j + 1) = if (T j).at_ ∉ O then ki T O j ++ [j] else ki T O j := by
  unfold ki
  rw [List.range_succ, List.filter_append]
  by_cases h : (T j).at_ ∉ O
  · rw [if_pos h]; simp [h]
  · rw [if_neg h]; simp [h]

theorem ki_first (T : Nat → GM) (O : List Int) : ∀ i, (∀ j, j < i → (T j).at_ ∉ O) → ki T O i = List.range i := fun i h => by
  unfold ki
  rw [List.filter_eq_self]
  intro k hk
  exact decide_eq_true (h k (by simpa using hk))

theorem ki_le (T : Nat → GM) (O : List Int) (j : Nat) : (ki T O j).length ≤ j := by
  have := List.length_filter_le (fun k => decide ((T k).at_ ∉ O)) (List.range j)
  simpa [ki] using this

/-- What the row is like when the objects ahead of j have been looked at. -/
def KI (T : Nat → GM) (O : List Int) (N i j : Nat) (V : Nat → GM) : Prop := i = (ki T O j).length ∧ (∀ k (hk : k < (ki T O j).length), V k = T (ki T O j)[k]) ∧ ∀ k, j ≤ k → k < N → V k = T k

theorem KI.start {T : Nat → GM} {O : List Int} {N i : Nat} (h : ∀ j, j < i → (T j).at_ ∉ O) (hi : (T i).at_ ∈ O) : KI T O N i (i + 1) T := by
  have e : ki T O (i + 1) = List.range i := by rw [ki_succ, if_neg (fun hn => hn hi), ki_first T O i h]
  refine ⟨by rw [e]; simp, fun k hk => ?_, fun k _ _ => rfl⟩
  simp only [e, List.getElem_range]

theorem KI.skip {T : Nat → GM} {O : List Int} {N i j : Nat} {V : Nat → GM} (h : KI T O N i j V) (hj : (T j).at_ ∈ O) : KI T O N i (j + 1) V := by
  have e : ki T O (j + 1) = ki T O j := by rw [ki_succ, if_neg (fun hn => hn hj)]
  refine ⟨by rw [e]; exact h.1, fun k hk => ?_, fun k hk => h.2.2 k (by omega)⟩
  have hk' : k < (ki T O j).length := by rw [e] at hk; exact hk
  rw [h.2.1 k hk']
  simp only [e]

theorem KI.keep {T : Nat → GM} {O : List Int} {N i j : Nat} {V : Nat → GM} (h : KI T O N i j V) (hij : i < j) (hj : (T j).at_ ∉ O) : KI T O N (i + 1) (j + 1) (fun k => if k = i then T j else V k) := by
  have e : ki T O (j + 1) = ki T O j ++ [j] := by rw [ki_succ, if_pos hj]
  refine ⟨by rw [e, List.length_append, ← h.1]; rfl, fun k hk => ?_, fun k hk hkN => ?_⟩
  · have hk2 : k < (ki T O j).length + 1 := by rw [e] at hk; simpa using hk
    simp only [e]
    by_cases ek : k = i
    · subst ek
      rw [if_pos rfl, List.getElem_append_right (by rw [← h.1]; exact Nat.le_refl _)]
      simp [← h.1]
    · rw [if_neg ek, List.getElem_append_left (by have := h.1; omega)]
      exact h.2.1 k _
  · show (if k = i then T j else V k) = T k
    rw [if_neg (by omega)]; exact h.2.2 k (by omega) hkN

theorem Cap.under {w w' : World} {B rb mb nn : Nat} {v : Value} {O : List Int} (h : Cap w rb mb nn v O) (hb : Below B w w') (h1 : rb < B) (h2 : mb < B) : Cap w' rb mb nn v O := ⟨blk_under h.blk hb h1, h.map.block (hb.block mb h2)⟩

/-- clear of a row of objects. -/
theorem run_clear_obj (w : World) (ty : TypeId) (b o n c : Nat) (hn : 0 < n) (hc : ∀ j, j < n * 6 → (w.cell? ⟨b, o + j, none⟩).isSome = true) (hf : ∀ j, j < n * 6 → w.frozen? ⟨b, o + j, none⟩ = false) :
    ∃ zs, (Builtin.clear_ #[35] ty #[.slice (some ⟨b, o, none⟩) n c]).run Try.prog w = .ok (.tuple #[]) (w.setCells b o zs) := by
  refine ⟨(Builtin.zeroCells #[.int .i64 0, .int .i64 0, .int .i64 0, .int .i64 0, .int .i64 0, .slice none 0 0] n).toList, ?_⟩
  have hz : ∀ w, (zeroValue 44).run Try.prog w = .ok (.agg #[.int .i64 0, .int .i64 0, .int .i64 0, .int .i64 0, .int .i64 0, .slice none 0 0]) w := fun w => by kernel_rfl
  have hlen : (Builtin.zeroCells #[.int .i64 0, .int .i64 0, .int .i64 0, .int .i64 0, .int .i64 0, .slice none 0 0] n).toList.length = n * 6 := by
    rw [Array.length_toList, size_zeroCells]; rfl
  have hone : ∀ v ∈ (Builtin.zeroCells #[.int .i64 0, .int .i64 0, .int .i64 0, .int .i64 0, .int .i64 0, .slice none 0 0] n).toList, v.oneCell' = true := by
    intro v hv
    simp only [Builtin.zeroCells, Array.toList_map, List.mem_map] at hv
    obtain ⟨i, _, rfl⟩ := hv
    have h6 : i % 6 < 6 := Nat.mod_lt _ (by omega)
    show (#[Value.int .i64 0, .int .i64 0, .int .i64 0, .int .i64 0, .int .i64 0, .slice none 0 0][i % 6]!).oneCell' = true
    generalize i % 6 = k at h6
    match k, h6 with
    | 0, _ => rfl
    | 1, _ => rfl
    | 2, _ => rfl
    | 3, _ => rfl
    | 4, _ => rfl
    | 5, _ => rfl
  have hst := run_storeCells_cells (P := Try.prog) b o (Builtin.zeroCells #[.int .i64 0, .int .i64 0, .int .i64 0, .int .i64 0, .int .i64 0, .slice none 0 0] n).toList 0 w (by rw [hlen]; simpa using hc) (by rw [hlen]; simpa using hf) hone
  simp only [Nat.add_zero] at hst
  obtain ⟨m, rfl⟩ : ∃ m, n = m + 1 := ⟨n - 1, by omega⟩
  simp [Builtin.clear_, run_underlying Try.underlying35, hz, Value.cells, hst]
end Go.Proofs.Ytdgppcaeknbnjaa

namespace Go.Proofs.Ytdgppcaeknbnjaa
open Go.RowKit Go.Maps
set_option linter.unusedVariables false

theorem setCells_block (b : Nat) : ∀ (vs : List Value) (o : Nat) (w : World) (k : Nat), k ≠ b → (w.setCells b o vs).heap[k]? = w.heap[k]?
  | [], o, w, k, h => rfl
  | v :: vs, o, w, k, h => by
    have h1 := setCells_block b vs (o + 1) (w.setCell ⟨b, o, none⟩ v) k h
    exact h1.trans (Below.heap_setCell w ⟨b, o, none⟩ v k h)

theorem setCells_size (b : Nat) : ∀ (vs : List Value) (o : Nat) (w : World), (w.setCells b o vs).heap.size = w.heap.size
  | [], o, w => rfl
  | v :: vs, o, w => by
    have h1 := setCells_size b vs (o + 1) (w.setCell ⟨b, o, none⟩ v)
    exact h1.trans (by simp)

theorem below_setC {B b : Nat} {w : World} (hb : B ≤ b) : ∀ (vs : List Value) (o : Nat) (w' : World), Below B w w' → Below B w (w'.setCells b o vs)
  | [], o, w', h => h
  | v :: vs, o, w', h => below_setC hb vs (o + 1) (w'.setCell ⟨b, o, none⟩ v) (Below.setCell h (show B ≤ (⟨b, o, none⟩ : Addr).block from hb) v)

theorem RW.has {w : World} {b q N : Nat} {V : Nat → GM} (h : RW w b q N V) (o : Nat) (ho : o < N * 6) : (w.cell? ⟨b, q + o, none⟩).isSome = true ∧ w.frozen? ⟨b, q + o, none⟩ = false := by
  obtain ⟨k, r, hr, e⟩ : ∃ k r, r < 6 ∧ o = k * 6 + r := ⟨o / 6, o % 6, Nat.mod_lt _ (by omega), by omega⟩
  subst e
  have hk : k < N := by omega
  obtain ⟨x0, x1, x2, x3, x4, x5⟩ := h.six k hk
  obtain ⟨g0, g1, g2, g3, g4, g5⟩ := h.free k hk
  rw [← Nat.add_assoc]
  match r, hr with
  | 0, _ => exact ⟨by rw [Nat.add_zero, x0]; rfl, g0⟩
  | 1, _ => exact ⟨by rw [x1]; rfl, g1⟩
  | 2, _ => exact ⟨by rw [x2]; rfl, g2⟩
  | 3, _ => exact ⟨by rw [x3]; rfl, g3⟩
  | 4, _ => exact ⟨by rw [x4]; rfl, g4⟩
  | 5, _ => exact ⟨by rw [x5]; rfl, g5⟩

theorem RW.cut {w : World} {b q N i : Nat} {V : Nat → GM} (h : RW w b q N V) (hi : i ≤ N) (zs : List Value) : GSrc (w.setCells b (q + i * 6) zs) b q i V := by
  have hc : ∀ o, o < i * 6 → (w.setCells b (q + i * 6) zs).cell? ⟨b, q + o, none⟩ = w.cell? ⟨b, q + o, none⟩ := fun o ho => World.cell?_setCells_out b zs (q + i * 6) w ⟨b, q + o, none⟩ (fun _ _ => .inl (by show q + o < q + i * 6; omega))
  refine ⟨by rw [setCells_size]; exact h.lt, fun k hk => ?_, fun k hk => ?_⟩
  · obtain ⟨x0, x1, x2, x3, x4, x5⟩ := h.six k (by omega)
    have e : ∀ j, j < 6 → (w.setCells b (q + i * 6) zs).cell? ⟨b, q + k * 6 + j, none⟩ = w.cell? ⟨b, q + k * 6 + j, none⟩ := fun j hj => by rw [Nat.add_assoc]; exact hc _ (by omega)
    exact ⟨(e 0 (by omega)).trans x0, (e 1 (by omega)).trans x1, (e 2 (by omega)).trans x2, (e 3 (by omega)).trans x3, (e 4 (by omega)).trans x4, (e 5 (by omega)).trans x5⟩
  · rcases h.flds k (by omega) with h0 | ⟨b', o', e, h1, h2⟩
    · exact .inl h0
    · rcases h.off k (by omega) with h0 | hne
      · exact .inl h0
      · have hg : (V k).g = b' := by simp [GM.g, e]
        exact .inr ⟨b', o', e, by rw [setCells_size]; exact h1, fun j hj => (World.cell?_of_block (w := w) (a := ⟨b', o' + j, none⟩) (setCells_block b zs _ w b' (by omega))).trans (h2 j hj)⟩

def RetDel (W : World) (lo N : Nat) (T : Nat → GM) (O : List Int) (e : Ending) (w' : World) : Prop :=
  Below lo W w' ∧ W.heap.size ≤ w'.heap.size ∧ ∃ a c U, e = .returned (.slice a (ki T O N).length c) ∧ GV w' a (ki T O N).length U ∧ ∀ k (hk : k < (ki T O N).length), U k = T (ki T O N)[k]

set_option maxRecDepth 100000 in
set_option maxHeartbeats 3200000 in
theorem delete_any (a : Option Addr) (lo hi N c : Nat) (T : Nat → GM) (rb mb nn : Nat) (v : Value) (O : List Int) (w : World) (hg : GVO w lo hi a N T) (hN : N ≤ 1000) (hNc : N ≤ c) (hcm : c ≤ maxLen) (hc : Cap w rb mb nn v O) (hrb : rb < lo) (hmb : mb < lo) (hlo : lo ≤ w.heap.size) (hp : ∀ i, i < N → -1000000000 ≤ (T i).at_ ∧ (T i).at_ ≤ 1000000000) :
    Calls Try.prog 53 #[.slice a N c, .func (.func 55) #[] #[.pointer (some ⟨rb, 0, none⟩)]] w (RetDel w lo N T O) := by
  have G := Lib.hid hg; have HC := Lib.hid hc; have HP := Lib.hid hp; have HCM := Lib.hid hcm
  have eg : ∀ args w, (callFunc 55 args).run Try.prog w = .ok (.enter 55 args) w := enters_of Try.func55 (by kernel_rfl) rfl
  clear hg hc hp hcm
  go_enter Try.func53, Try.ntmps53
  go_wp2_with fail
  refine (index_any a N c T rb mb nn v O _ G.out.src (by omega) HC.out HP.out).mono ?_
  rintro e w1 ⟨hb, hr⟩
  have HB1 := Lib.hid hb
  clear hb
  rcases hr with ⟨hall, rfl⟩ | ⟨i0, hi0N, hin, hfst, rfl⟩
  · have HK : Hid (ki T O N = List.range N) := Lib.hid (ki_first T O N hall)
    clear hall
    go_wp2
    go_ret
    refine ⟨HB1.out.mono hlo, HB1.out.size, a, c, T, ?_, ?_, fun k hk => ?_⟩
    · rw [HK.out]; simp
    · rw [HK.out, List.length_range]; exact G.out.src.below HB1.out
    · simp only [HK.out, List.getElem_range]
  · have HK0 := Lib.hid (KI.start (N := N) hfst hin)
    obtain ⟨b, q, rfl, hgo⟩ : ∃ b q, a = some ⟨b, q, none⟩ ∧ GOwn w lo hi b q N T := by
      rcases G.out with h0 | h
      · omega
      · exact h
    have hblo := hgo.glo
    have RW1 := Lib.hid ((RW.of hgo).below HB1.out)
    have HBl := Lib.hid (HB1.out.mono hlo)
    have z1 := HB1.out.size
    have hne : ((i0 : Int) == -1) = false := by simp
    clear hfst hin hgo
    go_wp2
    go_loopw [5, 6] (fun p p6 wr => ∃ (i j : Nat) (V : Nat → GM), i < j ∧ j ≤ N ∧ p = .int .i64 (i : Int) ∧ p6 = .int .i64 (j : Int) ∧ Hid (Below lo w wr) ∧ w.heap.size ≤ wr.heap.size ∧ Hid (RW wr b q N V) ∧ Hid (KI T O N i j V)) (fun _ p6 _ => N - (intOf p6).toNat)
    case atStart => exact ⟨i0, i0 + 1, T, by omega, by omega, rfl, by go_num, HBl, z1, RW1, HK0⟩
    case round =>
      clear HBl RW1 HK0 HB1
      obtain ⟨i, j, V, hij, hjN, rfl, rfl, HB_r, hzr, RW_r, HK⟩ := hrel
      by_cases hlt : j < N
      · have hlt' : (j : Int) < (N : Int) := by omega
        have hj0 : (0 : Int) ≤ (j : Int) := by omega
        have hi0' : (0 : Int) ≤ (i : Int) := by omega
        have hiI : (i : Int) < (N : Int) := by omega
        have hiN : i < N := by omega
        have hVj : V j = T j := HK.out.2.2 j (Nat.le_refl _) hlt
        have hsix := RW_r.out.six j hlt
        have hp := HP.out j hlt
        have hfl := RW_r.out.flds j hlt
        have hof := RW_r.out.off j hlt
        rw [hVj] at hsix hfl hof
        have lbb := RW_r.out.lt
        have HSK := Lib.hid (fun h => KI.skip HK.out h)
        have HKP := Lib.hid (fun h => KI.keep HK.out hij h)
        have HTJ : Hid (∃ t, T j = t) := Lib.hid ⟨_, rfl⟩
        obtain ⟨t, hte⟩ := HTJ.out
        rw [hte] at hsix hp hfl hof HSK HKP
        have HFL := Lib.hid hfl; have HOF := Lib.hid hof
        have HB0 := Lib.hid (HB_r.out.alloc (by omega) (.cells #[.int .i64 t.at_, .int .i64 t.s, .int .i64 t.m, .int .i64 t.o, .int .i64 t.h, .slice t.a t.n t.c] 44))
        have RW0 := Lib.hid (RW_r.out.below ((Below.refl _ _).alloc (Nat.le_refl _) (.cells #[.int .i64 t.at_, .int .i64 t.s, .int .i64 t.m, .int .i64 t.o, .int .i64 t.h, .slice t.a t.n t.c] 44)))
        have HFL0 := Lib.hid (hfl.alloc (.cells #[.int .i64 t.at_, .int .i64 t.s, .int .i64 t.m, .int .i64 t.o, .int .i64 t.h, .slice t.a t.n t.c] 44))
        have zz : wr.heap.size + 1 = (wr.alloc (.cells #[.int .i64 t.at_, .int .i64 t.s, .int .i64 t.m, .int .i64 t.o, .int .i64 t.h, .slice t.a t.n t.c] 44)).heap.size := by simp
        clear hVj hte hfl hof HTJ
        obtain ⟨s0, s1, s2, s3, s4, s5⟩ := hsix
        by_cases hin : t.at_ ∈ O
        · have hd : decide (t.at_ ∈ O) = true := decide_eq_true hin
          have HKN := Lib.hid (HSK.out hin)
          clear hin
          go_wp2_with (go_at_fn 55; refine (clos_any rb mb nn v O t _ (HC.out.under HB0.out hrb hmb) hp).mono ?_; rintro e w2 ⟨rfl, hb⟩; rw [hd]; have HB2 := Lib.hid (HB0.out.trans (hb.mono (by omega))); have RW2 := Lib.hid (RW0.out.below hb); have z2 := hb.size; clear hb)
          clear s0 s1 s2 s3 s4 s5 hd
          go_roundw
          case rel => first | exact ⟨i, j + 1, V, by omega, by omega, rfl, by go_num, HB2, by omega, RW2, HKN⟩ | ((repeat apply Exists.intro); exact ⟨⟨i, j + 1, V, by omega, by omega, rfl, by go_num, HB2, by omega, RW2, HKN⟩, rfl⟩)
          case measure => simp [intOf]; omega
        · have hd : decide (t.at_ ∈ O) = false := decide_eq_false hin
          have HKN := Lib.hid (HKP.out hin)
          have X0 := Lib.hid (Blk.new_at (w := wr) (cs := #[.int .i64 t.at_, .int .i64 t.s, .int .i64 t.m, .int .i64 t.o, .int .i64 t.h, .slice t.a t.n t.c]) (t := 44) wr.heap.size rfl)
          clear hin
          go_upto_region 9 with (go_at_fn 55; refine (clos_any rb mb nn v O t _ (HC.out.under HB0.out hrb hmb) hp).mono ?_; rintro e w2 ⟨rfl, hb⟩; rw [hd]; have HB2 := Lib.hid (HB0.out.trans (hb.mono (by omega))); have RW2 := Lib.hid (RW0.out.below hb); have X2 := Lib.hid (X0.out.below hb); have HFL2 := Lib.hid (HFL0.out.below hb); have z2 := hb.size; clear hb)
          clear s0 s1 s2 s3 s4 s5 hd
          have lX := X2.out.1; have cX0 := X2.out.at 0 rfl; have cX1 := X2.out.at 1 rfl; have cX2 := X2.out.at 2 rfl; have cX3 := X2.out.at 3 rfl; have cX4 := X2.out.at 4 rfl; have cX5 := X2.out.at 5 rfl
          obtain ⟨y0, y1, y2, y3, y4, y5⟩ := RW2.out.six i hiN
          obtain ⟨g0, g1, g2, g3, g4, g5⟩ := RW2.out.free i hiN
          have lb2 := RW2.out.lt
          go_upto_region 10 with fail
          clear y0 y1 y2 y3 y4 y5 g0 g1 g2 g3 g4 g5
          clear lX cX0 cX1 cX2 cX3 cX4 cX5
          have RW3 := Lib.hid (RW2.out.set hiN HFL2.out HOF.out)
          have HB3 := Lib.hid (HB2.out.trans ((sixW_keeps w2 b (q + i * 6) t).below (by omega) (by omega)))
          have z3 := (sixW_keeps w2 b (q + i * 6) t).size
          have hif : ∀ k, (if k = i then t else V k) = (if k = i then t else V k) := fun k => rfl
          change Code.wp _ _ _ _ (sixW w2 b (q + i * 6) t)
          generalize sixW w2 b (q + i * 6) t = w3 at *
          go_wp2
          go_roundw
          case rel => first | exact ⟨i + 1, j + 1, _, by omega, by omega, by go_num, by go_num, HB3, by omega, RW3, HKN⟩ | ((repeat apply Exists.intro); exact ⟨⟨i + 1, j + 1, _, by omega, by omega, by go_num, by go_num, HB3, by omega, RW3, HKN⟩, rfl⟩)
          case measure => simp [intOf]; omega
      · have hlt' : ¬ (j : Int) < (N : Int) := by omega
        obtain rfl : j = N := by omega
        have hiN : i < j := hij
        have hi0' : (0 : Int) ≤ (i : Int) := by omega
        have hl1 : (i : Int) ≤ (j : Int) := by omega
        have hl2 : (j : Int) ≤ (c : Int) := by omega
        have hl3 : (i : Int) ≤ (c : Int) := by omega
        have hci : ¬ c = i := by omega
        have lb9 := RW_r.out.lt
        obtain ⟨zs, hzs⟩ := run_clear_obj wr 0 b (q + i * 6) (j - i) (c - i) (by omega) (fun o ho => by rw [Nat.add_assoc]; exact (RW_r.out.has (i * 6 + o) (by omega)).1) (fun o ho => by rw [Nat.add_assoc]; exact (RW_r.out.has (i * 6 + o) (by omega)).2)
        go_wp2
        go_ret
        have hk1 := HK.out.1
        refine ⟨below_setC hblo _ _ _ HB_r.out, by rw [setCells_size]; exact hzr, some ⟨b, q, none⟩, c, V, ?_, ?_, HK.out.2.1⟩
        · rw [← hk1]; rfl
        · rw [← hk1]; exact .inr ⟨b, q, rfl, RW_r.out.cut (by omega) zs⟩
end Go.Proofs.Ytdgppcaeknbnjaa

namespace Go.Proofs.Ytdgppcaeknbnjaa
open Go.RowKit Go.Maps
set_option linter.unusedVariables false

theorem outG_get {f : Nat → Int} {L : List Ob} {roots : List Int} {T : Nat → GM} (hT : ∀ i, i < L.length → GSame (T i) (obT f L i)) : outG f L roots 0 = (ki T (reachO f L roots) L.length).map (fun k => (T k).at_) := by
  have e : placesO L = (List.range L.length).map (fun k => (T k).at_) := by
    apply List.ext_getElem?
    intro i
    by_cases hi : i < L.length
    · have hs := hT i hi
      rw [obT_get f hi] at hs
      have e1 : (T i).at_ = L[i].at_ := hs.1
      simp [placesO, hi, e1]
    · rw [List.getElem?_eq_none (by simp [placesO]; omega), List.getElem?_eq_none (by simp; omega)]
  unfold outG ki
  rw [if_pos rfl, e, List.filter_map]
  rfl

theorem fld_ors (x y : Value) (w : World) : (Instr.field 37 (.agg #[x, y]) 1).run Try.prog w = .ok y w := by kernel_rfl

set_option maxRecDepth 100000 in
set_option maxHeartbeats 3200000 in
theorem implGI_any (h ac bu : Int) (a : Option Addr) (n c : Nat) (f : Nat → Int) (ra : Option Addr) (roots : List Int) (rc : Nat) (co : Int) (L : List Ob) (w : World) (hs : Src w a n f) (hcn : n ≤ c) (hcm : c ≤ maxLen) (hrs : Src w ra roots.length (lf roots)) (hk : IsAsk h n f ac bu roots co L) :
    Calls Try.prog 14 #[.agg #[.int .i64 h, .slice a n c, .int .i64 ac, .int .i64 bu], .slice ra roots.length rc] w (RetIR w co (outG f L roots co).length (lf (outG f L roots co))) := by
  have HS := Lib.hid hs; have HK := Lib.hid hk; have HCM := Lib.hid hcm; have HRS := Lib.hid hrs
  clear hs hk hcm hrs
  go_enter Try.func14, Try.ntmps14
  go_wp2_with fail
  refine (reachIn_any h ac bu a n c f ra roots rc co L _ ((HS.out.alloc _).alloc _) hcn HCM.out ((HRS.out.alloc _).alloc _) HK.out).mono ?_
  rintro e w1 ⟨hb, hr⟩
  have HB1 := Lib.hid (thru2 (Below.refl _ _) hb)
  have R_1 := Lib.hid ((Blk.new_at (w := w.alloc (.cells #[.int .i64 h, .slice a n c, .int .i64 ac, .int .i64 bu] 26)) (cs := #[.int .i64 0, .slice none 0 0]) (t := 30) (w.heap.size + 1) (by simp)).below hb)
  have z1 : w.heap.size + 2 ≤ w1.heap.size := by have := hb.size; simp at this; omega
  have HBb := Lib.hid hb
  clear hb
  have hz := HB1.out.size
  rcases hr with ⟨h0, rfl⟩ | ⟨rfl, a1, c1, mb, T0, rfl, hg, hm, hsm⟩
  · have HE := Lib.hid (outG_no f L roots h0)
    have hd : (co != 0) = true := by simpa using h0
    clear h0
    have lR := R_1.out.1; have cR0 := R_1.out.at 0 rfl; have fR0 := R_1.out.free 0 rfl; have cR1 := R_1.out.at 1 rfl; have fR1 := R_1.out.free 1 rfl
    go_wp2
    refine bodyPost_ret (v := .agg #[.int .i64 co, .slice none 0 0]) (by simp [results, Try.results14, go_sem, cR0, cR1, lR]) rfl ?_
    rw [HE.out]
    refine ⟨none, 0, rfl, .inl rfl, ?_⟩
    repeat (first | (with_reducible refine Below.setCell ?_ (by (try simp); (try omega)) _) | (with_reducible refine Below.alloc ?_ (by (try simp); (try omega)) _) | (with_reducible refine Below.drew ?_))
    exact HB1.out
  · have HKZ := Lib.hid (isAsk_zero HK.out)
    have HM := Lib.hid hm
    clear hg hm hsm
    have HB2 := Lib.hid (HB1.out.alloc hz (.cells #[.int .i64 0, .slice a1 (reachO f L roots).length c1, .map (some mb)] 76))
    have R_2 := Lib.hid (R_1.out.alloc (.cells #[.int .i64 0, .slice a1 (reachO f L roots).length c1, .map (some mb)] 76))
    have X_2 := Lib.hid (Blk.new_at (w := w1) (cs := #[.int .i64 0, .slice a1 (reachO f L roots).length c1, .map (some mb)]) (t := 76) w1.heap.size rfl)
    have hz2 : w1.heap.size + 1 = (w1.alloc (.cells #[.int .i64 0, .slice a1 (reachO f L roots).length c1, .map (some mb)] 76)).heap.size := by simp
    have M_2 := Lib.hid (HM.out.alloc (.cells #[.int .i64 0, .slice a1 (reachO f L roots).length c1, .map (some mb)] 76))
    have hmb : mb < w1.heap.size := HM.out.lt
    have A_1 : Hid (Blk w1 w.heap.size [.int .i64 h, .slice a n c, .int .i64 ac, .int .i64 bu]) := Lib.hid (((Blk.new_at (w := w) (cs := #[.int .i64 h, .slice a n c, .int .i64 ac, .int .i64 bu]) (t := 26) w.heap.size rfl).alloc (.cells #[.int .i64 0, .slice none 0 0] 30)).below HBb.out)
    have A_2 := Lib.hid (A_1.out.alloc (.cells #[.int .i64 0, .slice a1 (reachO f L roots).length c1, .map (some mb)] 76))
    have lA := A_2.out.1; have cA0 := A_2.out.at 0 rfl; have cA1 := A_2.out.at 1 rfl; have cA2 := A_2.out.at 2 rfl; have cA3 := A_2.out.at 3 rfl
    have lX := X_2.out.1; have cX0 := X_2.out.at 0 rfl; have cX1 := X_2.out.at 1 rfl; have cX2 := X_2.out.at 2 rfl
    clear HB1 R_1 hz HM A_1
    have hf5 := fld_ors
    go_wp2_with fail
    clear lA cA0 cA1 cA2 cA3 lX cX0 cX1 cX2
    generalize w1.alloc (.cells #[.int .i64 0, .slice a1 (reachO f L roots).length c1, .map (some mb)] 76) = w2 at *
    refine (implOI h ac bu a n c f 0 L _ (HS.out.below HB2.out) hcn HCM.out HKZ.out.2.1).mono ?_
    rintro e w3 ⟨a3, c3, T, rfl, hgo, hT, hb, hc31, hc32⟩
    have HB3 := Lib.hid (HB2.out.trans (hb.mono HB2.out.size))
    have R_3 := Lib.hid (R_2.out.below hb); have X_3 := Lib.hid (X_2.out.below hb); have M_3 := Lib.hid (M_2.out.below hb)
    have HGO := Lib.hid hgo; have HT := Lib.hid hT
    have z3 := hb.size
    clear hb hgo hT R_2 X_2 M_2
    go_wp2_with fail
    have HSH := Lib.hid (shaped_of HKZ.out.1 HKZ.out.2.1 HGO.out.src HT.out)
    have hl4 := HSH.out.len
    refine (delete_any a3 w2.heap.size w3.heap.size L.length c3 T w1.heap.size mb (reachO f L roots).length (.slice a1 (reachO f L roots).length c1) (reachO f L roots) _ HGO.out (by omega) hc31 hc32 ⟨X_3.out, M_3.out⟩ (by omega) (by omega) z3 (fun i hi => by have := (HSH.out.obj hi).2.2; omega)).mono ?_
    rintro e w4 ⟨hb, hz4, a4, c4, U, rfl, hgU, hU⟩
    have HB4 := Lib.hid (HB3.out.trans (hb.mono HB2.out.size))
    have R_4 := Lib.hid (blk_under R_3.out hb (by omega))
    have HOG : Hid ((outG f L roots 0).length = (ki T (reachO f L roots) L.length).length ∧ ∀ k (hk : k < (ki T (reachO f L roots) L.length).length), lf (outG f L roots 0) k = (T (ki T (reachO f L roots) L.length)[k]).at_) := Lib.hid (by
      have e := outG_get (roots := roots) HT.out
      refine ⟨by rw [e]; simp, fun k hk => ?_⟩
      rw [e, lf_at (by simpa using hk)]
      simp)
    have HGU : Hid (GV w4 a4 (outG f L roots 0).length U) := Lib.hid (by rw [HOG.out.1]; exact hgU)
    have HUU : Hid (∀ k, k < (outG f L roots 0).length → (U k).at_ = lf (outG f L roots 0) k) := Lib.hid (fun k hk => by rw [HOG.out.1] at hk; rw [hU k hk, HOG.out.2 k hk])
    have hkl := ki_le T (reachO f L roots) L.length
    have hgl : (outG f L roots 0).length ≤ 1000000 := by have := HOG.out.1; omega
    rw [← HOG.out.1]
    clear hb hgU hU hc31 hc32 R_3 X_3 M_3 HSH HGO hkl
    go_wp2_with fail
    refine (places_any a4 (outG f L roots 0) c4 U _ HGU.out hgl HUU.out).mono ?_
    rintro e w5 ⟨a5, c5, rfl, ho5, hb, h51, h52, h53⟩
    have HB5 := Lib.hid (thru0 HB4.out hb)
    have R_5 := Lib.hid (R_4.out.below hb)
    have HO5 := Lib.hid ho5
    have z5 := hb.size
    clear hb ho5 h51 h52 h53 R_4
    have lR := R_5.out.1; have cR0 := R_5.out.at 0 rfl; have fR0 := R_5.out.free 0 rfl; have cR1 := R_5.out.at 1 rfl; have fR1 := R_5.out.free 1 rfl
    go_wp2
    refine bodyPost_ret (v := .agg #[.int .i64 0, .slice a5 (outG f L roots 0).length c5]) (by simp [results, Try.results14, go_sem, cR0, cR1]) rfl ⟨a5, c5, rfl, ?_, ?_⟩
    · refine Own.mono (B := w4.heap.size) ?_ (by omega)
      repeat (first | (with_reducible refine Own.setCell ?_ (by (try simp); (try omega)) _) | (with_reducible refine Own.alloc ?_ _) | (with_reducible refine Own.drew ?_))
      exact HO5.out
    · repeat (first | (with_reducible refine Below.setCell ?_ (by (try simp); (try omega)) _) | (with_reducible refine Below.alloc ?_ (by (try simp); (try omega)) _) | (with_reducible refine Below.drew ?_))
      exact HB5.out
end Go.Proofs.Ytdgppcaeknbnjaa

namespace Go.Proofs.Ytdgppcaeknbnjaa
open Go.RowKit Go.Maps
set_option linter.unusedVariables false

theorem keeps_grown {w w' : World} {b : Nat} (h : Keeps w w' b (b + 1)) : w.grownBy w' (some b) :=
  ⟨h.os, h.tape, h.output, h.size, fun k hk hne => h.block k hk (by rcases Nat.lt_trichotomy k b with h1 | h1 | h1; exact .inl h1; exact absurd (by rw [h1]) hne; exact .inr (by omega))⟩

/-- l3Objects, of an arena without a fault: some list. -/
theorem l3Objs_some (b : Nat) (h ac bu : Int) (a : Option Addr) (n c : Nat) (f : Nat → Int) (w : World) (hB : Blk w b [.int .i64 h, .slice a n c, .int .i64 ac, .int .i64 bu]) (hs : Src w a n f) (hcn : n ≤ c) (hcm : c ≤ maxLen) (hF : IsFault h n f ac bu 0) :
    Calls Try.prog 59 #[.pointer (some ⟨b, 0, none⟩)] w fun e w' => Below w.heap.size w w' ∧ ∃ (r : Bool) (a' : Option Addr) (M : List OM) (c' : Nat), e = .returned (.tuple #[.slice a' M.length c', .bool r]) ∧ OMS w' w.heap.size w.heap.size f (.slice a' M.length c') M := by
  obtain ⟨⟨⟨g1, g2⟩, ⟨g3, g4⟩, g5, g6⟩, gn, gw⟩ := isFault_ok hF
  cases hp : parse f ((baseI ac h).toNat + bu.toNat) (baseI ac h).toNat with
  | some L =>
    have ho : IsOI h n f ac bu 0 L := .inr (.inr ⟨hF, hp, rfl⟩)
    refine (l3Objs_any b h ac bu a n c f L w hB hs hcn hcm ho).mono ?_
    rintro e w' ⟨hb, v, M, hL, rfl, hm⟩
    obtain ⟨a1, k1, rfl⟩ := row_nil hm.row
    exact ⟨hb, true, a1, M, k1, rfl, hm⟩
  | none =>
    have hb := baseI_bd (ac := ac) g1
    obtain ⟨P, hP⟩ : ∃ P : Nat, baseI ac h = (P : Int) := ⟨(baseI ac h).toNat, by omega⟩
    obtain ⟨U, rfl⟩ : ∃ U : Nat, bu = (U : Int) := ⟨bu.toNat, by omega⟩
    obtain ⟨ab, ao, rfl, hab, hac⟩ := src_some hs (by omega)
    rw [hP, Int.toNat_natCast, Int.toNat_natCast] at hp
    have hPU : P + U ≤ n := by rcases (by omega : ac = 0 ∨ ac = 1) with rfl | rfl <;> simp [baseI] at hP <;> omega
    refine (l3Objects_any b P U h ac ab ao n c f w hB hs g1 g2 g3 g4 hP hPU (by omega) hcn hcm (fun i hi => by have := gw i hi; unfold Word at this; omega)).mono ?_
    rintro e w' ⟨hb1, hr⟩
    rw [hp] at hr
    obtain ⟨_, rfl⟩ | ⟨v, M, hx, _⟩ := hr
    · exact ⟨hb1, false, none, [], 0, rfl, World.ownsRow_nil _ _ _ _, ⟨fun t ht => (by cases ht), List.Pairwise.nil⟩, by simp, fun t ht => (by cases ht)⟩
    · cases hx

/-- Roots are drawn. -/
def RetRoots (W : World) (b : Nat) (ca : Option Addr) (k kc t : Nat) (e : Ending) (w' : World) : Prop :=
  ∃ (v : Value) (l : List Int) (t' : Nat), e = .returned v ∧ w'.ownsRow W.heap.size 2 1 v l.length (nums l.length (lf l)) ∧ l.length ≤ 4 ∧ Blk w' b [.slice ca k kc, .int .i64 (t' : Int)] ∧ t' ≤ t + 6 ∧ Keeps W w' b (b + 1)

set_option maxRecDepth 100000 in
set_option maxHeartbeats 3200000 in
theorem roots_any (b S : Nat) (ca : Option Addr) (k kc t : Nat) (B : Nat → Int) (P lo hi : Nat) (h ac bu : Int) (a : Option Addr) (n c : Nat) (f : Nat → Int) (w : World) (hB0 : Blk w b [.slice ca k kc, .int .i64 (t : Int)]) (hs : SrcB w S ca k B) (hS : S ≤ b) (hk0 : k ≤ 1048576) (ht : t ≤ 1000)
    (hA : Blk w P [.int .i64 h, .slice a n c, .int .i64 ac, .int .i64 bu]) (hPb : P ≠ b) (hO : OwnIn w lo hi a n f) (hlo : b + 1 ≤ lo) (hhi : hi ≤ w.heap.size) (hF : IsFault h n f ac bu 0) (hcn : n ≤ c) (hcm : c ≤ maxLen) :
    Calls Try.prog 48 #[.pointer (some ⟨b, 0, none⟩), .pointer (some ⟨P, 0, none⟩)] w (RetRoots w b ca k kc t) := by
  have S_0 := Lib.hid hB0; have B_0 := Lib.hid hs; have A_0 := Lib.hid hA; have O_0 := Lib.hid hO; have HF := Lib.hid hF; have HCM := Lib.hid hcm
  have hbl := hB0.1; have hPl := hA.1
  have hSl : S ≤ w.heap.size := by omega
  obtain ⟨i0, hif, hz0, hz1, hz2⟩ := info_parts Try.info2
  clear hB0 hs hA hO hF hcm
  go_enter Try.func48, Try.ntmps48
  go_wp2_with fail
  have K_a := Lib.hid ((Keeps.refl w b (b + 1)).alloc (.cells #[] 2))
  have S_a := Lib.hid (S_0.out.alloc (.cells #[] 2)); have B_a := Lib.hid (B_0.out.alloc (.cells #[] 2)); have A_a := Lib.hid (A_0.out.alloc (.cells #[] 2)); have O_a := Lib.hid (O_0.out.alloc (.cells #[] 2))
  have OWa : Hid ((w.alloc (.cells #[] 2)).ownsRow w.heap.size 2 1 (.slice (some ⟨w.heap.size, 0, none⟩) 0 0) ([] : List Int).length (nums ([] : List Int).length (lf []))) := World.ownsRow_lit w #[] 0 (Nat.le_refl _) (by simp [maxLen]) rfl
  clear S_0 B_0 A_0 O_0
  generalize w.alloc (.cells #[] 2) = wa at *
  refine (next_is 4 b S ca k kc t 4 B _ rfl S_a.out B_a.out hS hk0 (by omega) (by omega) (by omega)).mono ?_
  rintro e w1 ⟨m, rfl, hm4, hB, hk⟩
  have K_1 := Lib.hid (K_a.out.trans hk)
  have S_1 : Hid (Blk w1 b [.slice ca k kc, .int .i64 ((t + 1 : Nat) : Int)]) := Lib.hid (by have := hB; simpa using this)
  have B_1 := Lib.hid (B_a.out.keeps hk hS)
  have A_1 := Lib.hid (A_a.out.keeps hk (by omega)); have O_1 := Lib.hid (O_a.out.keeps hk (by omega))
  have OW_1 := Lib.hid (OWa.out.kept (keeps_grown hk) (.inr (by simp [Value.ownBlock]; omega)))
  clear hB hk K_a S_a B_a A_a O_a OWa
  go_wp2
  go_loopw [5, 6] (fun u p wr => ∃ (cnt t1 : Nat) (l : List Int), p = .int .i64 (cnt : Int) ∧ cnt + l.length ≤ 4 ∧ t1 + cnt ≤ t + 6 ∧ Hid (Keeps w wr b (b + 1)) ∧ Hid (Blk wr b [.slice ca k kc, .int .i64 (t1 : Int)]) ∧ Hid (SrcB wr S ca k B) ∧ Hid (Blk wr P [.int .i64 h, .slice a n c, .int .i64 ac, .int .i64 bu]) ∧ Hid (OwnIn wr lo hi a n f) ∧ Hid (wr.ownsRow w.heap.size 2 1 u l.length (nums l.length (lf l)))) (fun _ p _ => (intOf p).toNat)
  case atStart => exact ⟨m, t + 1, [], rfl, by simp; omega, by omega, K_1, S_1, B_1, A_1, O_1, OW_1⟩
  case round =>
    clear K_1 S_1 B_1 A_1 O_1 OW_1
    obtain ⟨cnt, t1, l, rfl, hcl, htc, K_r, S_r, B_r, A_r, O_r, OW_r⟩ := hrel
    have hzr := K_r.out.size
    by_cases h0 : 0 < cnt
    · have h0' : (0 : Int) < (cnt : Int) := by omega
      go_wp2_with fail
      refine (l3Objs_some P h ac bu a n c f _ A_r.out O_r.out.src hcn HCM.out HF.out).mono ?_
      rintro e w2 ⟨hb, r, a2, M, c2, rfl, hm⟩
      have hkb := keeps_of_below hb b (b + 1)
      have K_2 := Lib.hid (K_r.out.trans hkb)
      have S_2 := Lib.hid (S_r.out.below hb); have B_2 := Lib.hid (B_r.out.below hb); have A_2 := Lib.hid (A_r.out.below hb); have O_2 := Lib.hid (O_r.out.below hb); have OW_2 := Lib.hid (ownsRow_below OW_r.out hb)
      have M_2 := Lib.hid hm
      have hml := hm.len
      have z2 := hb.size
      clear hb hkb hm K_r S_r B_r A_r O_r OW_r
      by_cases hM : 0 < M.length
      · have hM' : (0 : Int) < (M.length : Int) := by omega
        go_wp2_with fail
        refine (next_is (M.length : Int) b S ca k kc t1 M.length B _ rfl S_2.out B_2.out hS hk0 (by omega) (by omega) (by omega)).mono ?_
        rintro e w3 ⟨j, rfl, hj, hB, hk⟩
        have K_3 := Lib.hid (K_2.out.trans hk)
        have S_3 : Hid (Blk w3 b [.slice ca k kc, .int .i64 ((t1 + 1 : Nat) : Int)]) := Lib.hid (by have := hB; simpa using this)
        have B_3 := Lib.hid (B_2.out.keeps hk hS)
        have A_3 := Lib.hid (A_2.out.keeps hk (by omega)); have O_3 := Lib.hid (O_2.out.keeps hk (by omega))
        have OW_3 := Lib.hid (OW_2.out.kept (keeps_grown hk) (.inr (fun e => by have := (OW_2.out.lt b e).1; omega)))
        have z3 := hk.size
        obtain ⟨x, hx⟩ : ∃ x, (M.map OM.x)[j]? = some x := ⟨_, List.getElem?_eq_getElem (by simpa using hj)⟩
        obtain ⟨g1, cc1, g, cg, e1, hjm, l1, x0, x1, x2, x3, x4, x5, lg, hfc, hss, hmm, hat, hwd⟩ := M_2.out.get hx
        simp only [Value.slice.injEq] at e1
        obtain ⟨rfl, -, rfl⟩ := e1
        have hgb : w.heap.size ≤ g1 := by
          have := M_2.out.row.lt g1 rfl
          omega
        have x0' := (World.cell?_of_block (w := w2) (a := ⟨g1, j * 6, none⟩) (hk.block g1 l1 (by omega))).trans x0
        have hj' : (j : Int) < (M.length : Int) := by omega
        have hj0 : (0 : Int) ≤ (j : Int) := by omega
        have HGE : Hid (∀ k, u5.ownBlock = some k → w.heap.size ≤ k) := Lib.hid (fun k hk => (OW_3.out.lt k hk).1)
        generalize x.at_ = y at *
        clear hB hk K_2 S_2 B_2 A_2 O_2 OW_2 M_2 hx x0 x1 x2 x3 x4 x5 lg hfc hss hmm hat hwd
        go_wp2_with (at_builtin; go_loud (refine wpList_append_lies _ rfl _ _ 24 rfl w.heap.size 2 i0 (.int .i64 0) 1 8 Try.underlying24 hif hz0 hz1 hz2 rfl (by decide) u5 l.length (nums l.length (lf l)) rfl (ownsRow_below OW_3.out ((Below.refl _ _).alloc (Nat.le_refl _) _)) ⟨w3.heap.size, 0, none⟩ 1 1 [.int .i64 y] rfl rfl (news1 w3 y) (by intro u hu; simp only [List.mem_cons, List.mem_nil_iff, or_false] at hu; subst hu; rfl) (by omega) (by unfold maxLen; omega) (by omega) (by simp; omega) (w3.heap.size + 1) (by simp) ?_); intro g9 cap9 w9 hown9 hgrow9 hat9 hlt9)
        have hz9 : w3.heap.size ≤ w9.heap.size := by have := hgrow9.size; simp at this; omega
        have hk9 : Keeps w3 w9 w.heap.size w9.heap.size := ⟨hgrow9.os, hgrow9.tape, hgrow9.output, hz9, fun q hq hd => by
          rcases hd with hd | hd
          · exact (hgrow9.block q (by simp; omega) (fun e => by have := HGE.out q e.symm; omega)).trans (Below.heap_alloc _ _ _ hq)
          · omega⟩
        have K_9 : Hid (Keeps w w9 b (b + 1)) := Lib.hid ⟨hk9.os.trans K_3.out.os, hk9.tape.trans K_3.out.tape, hk9.output.trans K_3.out.output, Nat.le_trans K_3.out.size hk9.size, fun q hq hd => (hk9.block q (by omega) (.inl hq)).trans (K_3.out.block q hq hd)⟩
        have S_9 := Lib.hid (S_3.out.keeps hk9 (.inl hbl)); have B_9 := Lib.hid (B_3.out.keeps hk9 hSl); have A_9 := Lib.hid (A_3.out.keeps hk9 (.inl hPl)); have O_9 := Lib.hid (O_3.out.keeps hk9 (.inl hhi))
        have OW_9 : Hid (w9.ownsRow w.heap.size 2 1 (.slice (some ⟨g9, 0, none⟩) (l.length + 1) cap9) (l ++ [y]).length (nums (l ++ [y]).length (lf (l ++ [y])))) := Lib.hid (by
          rw [show (l ++ [y]).length = l.length + 1 by simp, ← nums_snoc]; exact hown9)
        clear hown9 hgrow9 hat9 hk9 K_3 S_3 B_3 A_3 O_3 OW_3 x0'
        go_wp2
        go_roundw
        case rel => first | exact ⟨cnt - 1, t1 + 1, l ++ [y], by go_num, by simp; omega, by omega, K_9, S_9, B_9, A_9, O_9, OW_9⟩ | ((repeat apply Exists.intro); exact ⟨⟨cnt - 1, t1 + 1, l ++ [y], by go_num, by simp; omega, by omega, K_9, S_9, B_9, A_9, O_9, OW_9⟩, rfl⟩)
        case measure => simp [intOf]; omega
      · have hM' : ¬ (0 : Int) < (M.length : Int) := by omega
        go_wp2
        go_roundw
        case rel => first | exact ⟨cnt - 1, t1, l, by go_num, by omega, by omega, K_2, S_2, B_2, A_2, O_2, OW_2⟩ | ((repeat apply Exists.intro); exact ⟨⟨cnt - 1, t1, l, by go_num, by omega, by omega, K_2, S_2, B_2, A_2, O_2, OW_2⟩, rfl⟩)
        case measure => simp [intOf]; omega
    · have h0' : ¬ (0 : Int) < (cnt : Int) := by omega
      go_wp2
      go_ret
      exact ⟨_, l, t1, rfl, OW_r.out, by omega, S_r.out, by omega, K_r.out⟩
end Go.Proofs.Ytdgppcaeknbnjaa

namespace Go.Proofs.Ytdgppcaeknbnjaa
open Go.RowKit Go.Maps
set_option linter.unusedVariables false

def RetDR (W : World) (e : Ending) (w' : World) : Prop :=
  ∃ (h ac bu : Int) (n c : Nat) (a : Option Addr) (f : Nat → Int) (l : List Int) (ra : Option Addr) (rc : Nat), e = .returned (.tuple #[.agg #[.int .i64 h, .slice a n c, .int .i64 ac, .int .i64 bu], .slice ra l.length rc]) ∧ Own w' W.heap.size a n f ∧ Own w' W.heap.size ra l.length (lf l) ∧ Below W.heap.size W w' ∧ n ≤ 120 ∧ n ≤ c ∧ c ≤ maxLen ∧ l.length ≤ 100

/-- What is carried through the draw: the source, the bytes, the arena, the answer's block, the arena's words, the roots. -/
structure DS (W w : World) (ca : Option Addr) (k kc : Nat) (B : Nat → Int) (t P : Nat) (h ac bu : Int) (a : Option Addr) (n c : Nat) (f : Nat → Int) (u : Value) (l : List Int) : Prop where
  bel : Below W.heap.size W w
  src : Blk w (W.heap.size + 1) [.slice ca k kc, .int .i64 (t : Int)]
  byt : SrcB w (W.heap.size + 1) ca k B
  arn : Blk w P [.int .i64 h, .slice a n c, .int .i64 ac, .int .i64 bu]
  res : Blk w W.heap.size [.int .i64 0, .slice none 0 0, .int .i64 0, .int .i64 0]
  wrd : OwnIn w (W.heap.size + 2) P a n f
  row : w.ownsRow (P + 1) 2 1 u l.length (nums l.length (lf l))
  hP : W.heap.size + 2 ≤ P

theorem DS.below {W w w' : World} {ca : Option Addr} {k kc t P : Nat} {B f : Nat → Int} {h ac bu : Int} {a : Option Addr} {n c : Nat} {u : Value} {l : List Int} (d : DS W w ca k kc B t P h ac bu a n c f u l) (hb : Below w.heap.size w w') : DS W w' ca k kc B t P h ac bu a n c f u l :=
  ⟨d.bel.trans (hb.mono d.bel.size), d.src.below hb, d.byt.below hb, d.arn.below hb, d.res.below hb, d.wrd.below hb, ownsRow_below d.row hb, d.hP⟩

theorem DS.next {W w w' : World} {ca : Option Addr} {k kc t t' P : Nat} {B f : Nat → Int} {h ac bu : Int} {a : Option Addr} {n c : Nat} {u : Value} {l : List Int} (d : DS W w ca k kc B t P h ac bu a n c f u l) (hk : Keeps w w' (W.heap.size + 1) (W.heap.size + 1 + 1)) (hs : Blk w' (W.heap.size + 1) [.slice ca k kc, .int .i64 (t' : Int)]) : DS W w' ca k kc B t' P h ac bu a n c f u l := by
  have hP := d.hP
  exact ⟨d.bel.trans (hk.below (by omega) d.bel.size), hs, d.byt.keeps hk (Nat.le_refl _), d.arn.keeps hk (by omega), d.res.keeps hk (by omega), d.wrd.keeps hk (by omega), d.row.kept (keeps_grown hk) (.inr (fun e => by have := (d.row.lt _ e).1; omega)), d.hP⟩

theorem DS.append {W w w' : World} {o : Obj} {ca : Option Addr} {k kc t P : Nat} {B f : Nat → Int} {h ac bu : Int} {a : Option Addr} {n c : Nat} {u u' : Value} {l l' : List Int} (d : DS W w ca k kc B t P h ac bu a n c f u l) (hg : (w.alloc o).grownBy w' u.ownBlock) (hr : w'.ownsRow (P + 1) 2 1 u' l'.length (nums l'.length (lf l'))) : DS W w' ca k kc B t P h ac bu a n c f u' l' := by
  have hP := d.hP
  have hPw := d.arn.1
  have hz : w.heap.size ≤ w'.heap.size := by have := hg.size; simp at this; omega
  have hk : Keeps w w' (P + 1) w'.heap.size := ⟨hg.os, hg.tape, hg.output, hz, fun q hq hd => by
    rcases hd with hd | hd
    · exact (hg.block q (by simp; omega) (fun e => by have := (d.row.lt q e.symm).1; omega)).trans (Below.heap_alloc _ _ _ hq)
    · omega⟩
  exact ⟨d.bel.trans (hk.below (by omega) d.bel.size), d.src.keeps hk (.inl (by omega)), d.byt.keeps hk (by omega), d.arn.keeps hk (.inl (by omega)), d.res.keeps hk (.inl (by omega)), d.wrd.keeps hk (.inl (by omega)), hr, d.hP⟩

set_option maxRecDepth 100000 in
set_option maxHeartbeats 6400000 in
theorem drawRF_any' (ca : Option Addr) (k kc : Nat) (B : Nat → Int) (w : World) (hs : SrcB w w.heap.size ca k B) (hk0 : k ≤ 1048576) :
    Calls Try.prog 12 #[.slice ca k kc] w (RetDR w) := by
  have B_0 := Lib.hid hs
  obtain ⟨i0, hif, hz0, hz1, hz2⟩ := info_parts Try.info2
  clear hs
  go_enter Try.func12, Try.ntmps12
  go_wp2_with fail
  refine (source_any ca k kc _).mono ?_
  rintro e w' ⟨rfl, rfl⟩
  go_wp2_with fail
  refine (bent3_any (w.heap.size + 1) (w.heap.size + 1) ca k kc 0 B _ (Blk.new_at (w.heap.size + 1) (by simp)) (((B_0.out.alloc _).alloc _).mono (by omega)) (Nat.le_refl _) hk0 (by omega)).mono ?_
  rintro e w1 ⟨h, ac, bu, n, c, t, a, f, rfl, ho, hB, ht, hk, hn, hnc, hcm⟩
  have z1 : w.heap.size + 2 ≤ w1.heap.size := by have := hk.size; simp at this; omega
  have HB_1 : Hid (Below w.heap.size w w1) := (((Below.refl _ _).alloc (Nat.le_refl _) _).alloc (by simp) _).trans (hk.below (by omega) (by simp; omega))
  have S_1 := Lib.hid hB
  have B_1 : Hid (SrcB w1 (w.heap.size + 1) ca k B) := (((B_0.out.alloc _).alloc _).mono (by omega)).keeps hk (Nat.le_refl _)
  have R_1 := Lib.hid (((Blk.new_at (w.heap.size) rfl).alloc _).keeps hk (by omega))
  have RW_1 : Hid (OwnIn w1 (w.heap.size + 2) w1.heap.size a n f) := ho.widen (by simp) (Nat.le_refl _)
  clear ho hB hk B_0
  have D2 : Hid (DS w ((w1.alloc (.cells #[.int .i64 h, .slice a n c, .int .i64 ac, .int .i64 bu] 26)).alloc (.cells #[] 2)) ca k kc B t w1.heap.size h ac bu a n c f (.slice (some ⟨w1.heap.size + 1, 0, none⟩) 0 0) []) := Lib.hid
    ⟨(HB_1.out.alloc HB_1.out.size _).alloc (by have := HB_1.out.size; simp; omega) _, (S_1.out.alloc _).alloc _, (B_1.out.alloc _).alloc _, (Blk.new_at (w := w1) (w1.heap.size) rfl).alloc _, (R_1.out.alloc _).alloc _, (RW_1.out.alloc _).alloc _,
      (by have h9 := World.ownsRow_lit (w1.alloc (.cells #[.int .i64 h, .slice a n c, .int .i64 ac, .int .i64 bu] 26)) (e := 2) (size := 1) #[] 0 (Nat.le_refl _) (by simp [maxLen]) rfl; have e9 : (w1.alloc (.cells #[.int .i64 h, .slice a n c, .int .i64 ac, .int .i64 bu] 26)).heap.size = w1.heap.size + 1 := (by simp); rw [e9] at h9; exact h9), z1⟩
  clear HB_1 S_1 B_1 R_1 RW_1
  obtain ⟨kf, hkf⟩ := isFault_some h n f ac bu
  have HKF := Lib.hid hkf
  clear hkf
  have hT0 := D2.out.arn; have cT0 := hT0.at 0 rfl; have cT1 := hT0.at 1 rfl; have cT2 := hT0.at 2 rfl; have cT3 := hT0.at 3 rfl
  clear hT0
  go_wp2_with fail
  clear cT0 cT1 cT2 cT3
  generalize (w1.alloc (.cells #[.int .i64 h, .slice a n c, .int .i64 ac, .int .i64 bu] 26)).alloc (.cells #[] 2) = w2 at *
  refine (specFault_any h ac bu a n c f kf _ D2.out.wrd.src HKF.out).mono ?_
  rintro e w3 ⟨rfl, hb⟩
  have D3 := Lib.hid (D2.out.below hb)
  clear hb D2
  by_cases hkf0 : kf = 0
  · subst hkf0
    go_wp2_with fail
    refine (roots_any (w.heap.size + 1) (w.heap.size + 1) ca k kc t B w1.heap.size (w.heap.size + 2) w1.heap.size h ac bu a n c f _ D3.out.src D3.out.byt (Nat.le_refl _) hk0 (by omega) D3.out.arn (by omega) D3.out.wrd (Nat.le_refl _) (by have := D3.out.arn.1; omega) HKF.out hnc hcm).mono ?_
    rintro e w4 ⟨u, l, t4, rfl, how, hl4, hB, ht4, hk⟩
    have D4 : Hid (DS w w4 ca k kc B t4 w1.heap.size h ac bu a n c f u l) := Lib.hid (by
      have d := D3.out.next hk hB
      exact ⟨d.bel, d.src, d.byt, d.arn, d.res, d.wrd, ⟨how.1, by
        rcases how.2 with h0 | ⟨g, cap, cur, e1, e2, e3⟩
        · exact .inl h0
        · exact .inr ⟨g, cap, cur, e1, by have := D3.out.arn.1; omega, e3⟩⟩, d.hP⟩)
    clear how hB hk D3
    go_wp2_with fail
    refine (next_is 14 (w.heap.size + 1) (w.heap.size + 1) ca k kc t4 14 B _ rfl D4.out.src D4.out.byt (Nat.le_refl _) hk0 (by omega) (by omega) (by omega)).mono ?_
    rintro e w5 ⟨v, rfl, hv, hB, hk⟩
    have D5 : Hid (DS w w5 ca k kc B (t4 + 1) w1.heap.size h ac bu a n c f u l) := Lib.hid (D4.out.next hk (by have := hB; simpa using this))
    clear hB hk D4
    by_cases hv0 : v = 0
    · subst hv0
      go_wp2_with fail
      refine (of_any [1, -1, 400] (w.heap.size + 1) (w.heap.size + 1) _ ca k kc (t4 + 1) 3 B _ _ D5.out.src D5.out.byt (Nat.le_refl _) hk0 (by omega) rfl (by simp) (by simp) rfl rfl).mono ?_
      rintro e w6 ⟨x, rfl, mx, hB, hk⟩
      have D6 : Hid (DS w w6 ca k kc B (t4 + 1 + 1) w1.heap.size h ac bu a n c f u l) := Lib.hid ((D5.out.below ((Below.refl _ _).alloc (Nat.le_refl _) _)).next hk (by have := hB; simpa using this))
      have h6 := D6.out.arn.1
      clear hB hk D5 mx
      go_upto_region 14 with (at_builtin; go_loud (refine wpList_append_lies _ rfl _ _ 24 rfl (w1.heap.size + 1) 2 i0 (.int .i64 0) 1 8 Try.underlying24 hif hz0 hz1 hz2 rfl (by decide) u l.length (nums l.length (lf l)) rfl (ownsRow_below D6.out.row ((Below.refl _ _).alloc (Nat.le_refl _) _)) ⟨w6.heap.size, 0, none⟩ 1 1 [.int .i64 x] rfl rfl (news1 w6 x) (by intro u hu; simp only [List.mem_cons, List.mem_nil_iff, or_false] at hu; subst hu; rfl) (by omega) (by unfold maxLen; omega) (by omega) (by simp; omega) (w6.heap.size + 1) (by simp) ?_); intro g9 cap9 w9 hown9 hgrow9 hat9 hlt9)
      have D9 : Hid (DS w w9 ca k kc B (t4 + 1 + 1) w1.heap.size h ac bu a n c f (.slice (some ⟨g9, 0, none⟩) (l.length + 1) cap9) (l ++ [x])) := Lib.hid (D6.out.append hgrow9 (by rw [show (l ++ [x]).length = l.length + 1 by simp, ← nums_snoc]; exact hown9))
      clear hown9 hgrow9 hat9 D6
      generalize hu9 : Value.slice (some ⟨g9, 0, none⟩) (l.length + 1) cap9 = u9 at *
      clear hu9
      obtain ⟨ra, rc, hrv, _⟩ := row_shape D9.out.row
      first | subst hrv | (have hrv' := hrv.symm; simp only [Value.slice.injEq, true_and] at hrv'; obtain ⟨rfl, rfl⟩ := hrv'; clear hrv)
      have HO := Lib.hid (own_of_row D9.out.row)
      have hT := D9.out.arn; have cT0 := hT.at 0 rfl; have cT1 := hT.at 1 rfl; have cT2 := hT.at 2 rfl; have cT3 := hT.at 3 rfl; have lT := hT.1
      have hR := D9.out.res; have cR0 := hR.at 0 rfl; have fR0 := hR.free 0 rfl; have cR1 := hR.at 1 rfl; have fR1 := hR.free 1 rfl; have cR2 := hR.at 2 rfl; have fR2 := hR.free 2 rfl; have cR3 := hR.at 3 rfl; have fR3 := hR.free 3 rfl; have lR := hR.1
      have hz := D9.out.bel.size
      have hPw := D9.out.hP
      clear hT hR
      go_wp2
      refine bodyPost_ret (v := .tuple #[.agg #[.int .i64 h, .slice a n c, .int .i64 ac, .int .i64 bu], .slice ra (l ++ [x]).length rc]) (by simp [results, Try.results12, go_sem, cR0, cR1, cR2, cR3]) rfl ⟨h, ac, bu, n, c, a, f, (l ++ [x]), ra, rc, rfl, ?_, ?_, ?_, hn, hnc, hcm, by simp; omega⟩
      · refine Own.mono (B := w.heap.size + 2) ?_ (by omega)
        repeat (first | (with_reducible refine Own.setCell ?_ (by (try simp); (try omega)) _) | (with_reducible refine Own.alloc ?_ _) | (with_reducible refine Own.drew ?_))
        exact (D9.out.wrd.widen (Nat.le_refl _) (Nat.le_of_lt D9.out.arn.1)).out
      · refine Own.mono (B := w1.heap.size + 1) ?_ (by omega)
        repeat (first | (with_reducible refine Own.setCell ?_ (by (try simp); (try omega)) _) | (with_reducible refine Own.alloc ?_ _) | (with_reducible refine Own.drew ?_))
        exact HO.out
      · repeat (first | (with_reducible refine Below.setCell ?_ (by (try simp); (try omega)) _) | (with_reducible refine Below.alloc ?_ (by (try simp); (try omega)) _) | (with_reducible refine Below.drew ?_))
        exact D9.out.bel
    · have hv0' : ((v : Int) == 0) = false := by simp; omega
      by_cases hv1 : v = 1
      · subst hv1
        obtain ⟨ua, uc, hu0, _⟩ := row_shape D5.out.row
        subst hu0
        by_cases hl0 : 0 < l.length
        · have hl0' : (0 : Int) < (l.length : Int) := by omega
          go_wp2_with fail
          refine (of_any [60, 61] (w.heap.size + 1) (w.heap.size + 1) _ ca k kc (t4 + 1) 2 B _ _ D5.out.src D5.out.byt (Nat.le_refl _) hk0 (by omega) rfl (by simp) (by simp) rfl rfl).mono ?_
          rintro e w6 ⟨x, rfl, mx, hB, hk⟩
          have D6 : Hid (DS w w6 ca k kc B (t4 + 1 + 1) w1.heap.size h ac bu a n c f (.slice ua l.length uc) l) := Lib.hid ((D5.out.below ((Below.refl _ _).alloc (Nat.le_refl _) _)).next hk (by have := hB; simpa using this))
          have hx : 60 ≤ x ∧ x ≤ 61 := by simp at mx; omega
          obtain ⟨X, rfl⟩ : ∃ X : Nat, x = (X : Int) := ⟨x.toNat, by omega⟩
          clear hB hk D5 mx
          go_wp2
          go_loopw [6] (fun u wr => ∃ l' : List Int, Hid (DS w wr ca k kc B (t4 + 1 + 1) w1.heap.size h ac bu a n c f u l') ∧ 0 < l'.length ∧ l'.length ≤ 61) (fun u _ => X - (match u with | .slice _ n _ => n | _ => 0))
          case atStart => exact ⟨l, D6, hl0, by omega⟩
          case round =>
            obtain ⟨l', D7, hp7, hl7⟩ := hrel
            clear D6
            obtain ⟨ra7, rc7, hrv7, _⟩ := row_shape D7.out.row
            subst hrv7
            by_cases hlX : l'.length < X
            · have hlX' : (l'.length : Int) < (X : Int) := by omega
              obtain ⟨b7, o7, rfl, hb7, hc7⟩ := src_some (own_of_row D7.out.row).src hp7
              have c7 := hc7 0 hp7
              rw [Nat.add_zero] at c7
              have hp7' : (0 : Int) < (l'.length : Int) := by omega
              have h7 := D7.out.arn.1
              generalize lf l' 0 = y at *
              clear hc7
              go_wp2_with (at_builtin; go_loud (refine wpList_append_lies _ rfl _ _ 24 rfl (w1.heap.size + 1) 2 i0 (.int .i64 0) 1 8 Try.underlying24 hif hz0 hz1 hz2 rfl (by decide) (.slice (some ⟨b7, o7, none⟩) l'.length rc7) l'.length (nums l'.length (lf l')) rfl (ownsRow_below D7.out.row ((Below.refl _ _).alloc (Nat.le_refl _) _)) ⟨wr.heap.size, 0, none⟩ 1 1 [.int .i64 y] rfl rfl (news1 wr y) (by intro u hu; simp only [List.mem_cons, List.mem_nil_iff, or_false] at hu; subst hu; rfl) (by omega) (by unfold maxLen; omega) (by omega) (by simp; omega) (wr.heap.size + 1) (by simp) ?_); intro g9 cap9 w9 hown9 hgrow9 hat9 hlt9)
              have D9 : Hid (DS w w9 ca k kc B (t4 + 1 + 1) w1.heap.size h ac bu a n c f (.slice (some ⟨g9, 0, none⟩) (l'.length + 1) cap9) (l' ++ [y])) := Lib.hid (D7.out.append hgrow9 (by rw [show (l' ++ [y]).length = l'.length + 1 by simp, ← nums_snoc]; exact hown9))
              clear hown9 hgrow9 hat9 D7 c7
              go_wp2
              go_roundw
              case rel => first | exact ⟨l' ++ [y], D9, by simp, by simp; omega⟩ | ((repeat apply Exists.intro); exact ⟨⟨l' ++ [y], D9, by simp, by simp; omega⟩, rfl⟩)
              case measure => simp; omega
            · have hlX' : ¬ (l'.length : Int) < (X : Int) := by omega
              obtain ⟨ra, rc, hrv, _⟩ := row_shape D7.out.row
              first | subst hrv | (have hrv' := hrv.symm; simp only [Value.slice.injEq, true_and] at hrv'; obtain ⟨rfl, rfl⟩ := hrv'; clear hrv)
              have HO := Lib.hid (own_of_row D7.out.row)
              have hT := D7.out.arn; have cT0 := hT.at 0 rfl; have cT1 := hT.at 1 rfl; have cT2 := hT.at 2 rfl; have cT3 := hT.at 3 rfl; have lT := hT.1
              have hR := D7.out.res; have cR0 := hR.at 0 rfl; have fR0 := hR.free 0 rfl; have cR1 := hR.at 1 rfl; have fR1 := hR.free 1 rfl; have cR2 := hR.at 2 rfl; have fR2 := hR.free 2 rfl; have cR3 := hR.at 3 rfl; have fR3 := hR.free 3 rfl; have lR := hR.1
              have hz := D7.out.bel.size
              have hPw := D7.out.hP
              clear hT hR
              go_wp2
              refine bodyPost_ret (v := .tuple #[.agg #[.int .i64 h, .slice a n c, .int .i64 ac, .int .i64 bu], .slice ra l'.length rc]) (by simp [results, Try.results12, go_sem, cR0, cR1, cR2, cR3]) rfl ⟨h, ac, bu, n, c, a, f, l', ra, rc, rfl, ?_, ?_, ?_, hn, hnc, hcm, by omega⟩
              · refine Own.mono (B := w.heap.size + 2) ?_ (by omega)
                repeat (first | (with_reducible refine Own.setCell ?_ (by (try simp); (try omega)) _) | (with_reducible refine Own.alloc ?_ _) | (with_reducible refine Own.drew ?_))
                exact (D7.out.wrd.widen (Nat.le_refl _) (Nat.le_of_lt D7.out.arn.1)).out
              · refine Own.mono (B := w1.heap.size + 1) ?_ (by omega)
                repeat (first | (with_reducible refine Own.setCell ?_ (by (try simp); (try omega)) _) | (with_reducible refine Own.alloc ?_ _) | (with_reducible refine Own.drew ?_))
                exact HO.out
              · repeat (first | (with_reducible refine Below.setCell ?_ (by (try simp); (try omega)) _) | (with_reducible refine Below.alloc ?_ (by (try simp); (try omega)) _) | (with_reducible refine Below.drew ?_))
                exact D7.out.bel
        · have hl0' : ¬ (0 : Int) < (l.length : Int) := by omega
          obtain ⟨ra, rc, hrv, _⟩ := row_shape D5.out.row
          first | subst hrv | (have hrv' := hrv.symm; simp only [Value.slice.injEq, true_and] at hrv'; obtain ⟨rfl, rfl⟩ := hrv'; clear hrv)
          have HO := Lib.hid (own_of_row D5.out.row)
          have hT := D5.out.arn; have cT0 := hT.at 0 rfl; have cT1 := hT.at 1 rfl; have cT2 := hT.at 2 rfl; have cT3 := hT.at 3 rfl; have lT := hT.1
          have hR := D5.out.res; have cR0 := hR.at 0 rfl; have fR0 := hR.free 0 rfl; have cR1 := hR.at 1 rfl; have fR1 := hR.free 1 rfl; have cR2 := hR.at 2 rfl; have fR2 := hR.free 2 rfl; have cR3 := hR.at 3 rfl; have fR3 := hR.free 3 rfl; have lR := hR.1
          have hz := D5.out.bel.size
          have hPw := D5.out.hP
          clear hT hR
          go_wp2
          refine bodyPost_ret (v := .tuple #[.agg #[.int .i64 h, .slice a n c, .int .i64 ac, .int .i64 bu], .slice ra l.length rc]) (by simp [results, Try.results12, go_sem, cR0, cR1, cR2, cR3]) rfl ⟨h, ac, bu, n, c, a, f, l, ra, rc, rfl, ?_, ?_, ?_, hn, hnc, hcm, by omega⟩
          · refine Own.mono (B := w.heap.size + 2) ?_ (by omega)
            repeat (first | (with_reducible refine Own.setCell ?_ (by (try simp); (try omega)) _) | (with_reducible refine Own.alloc ?_ _) | (with_reducible refine Own.drew ?_))
            exact (D5.out.wrd.widen (Nat.le_refl _) (Nat.le_of_lt D5.out.arn.1)).out
          · refine Own.mono (B := w1.heap.size + 1) ?_ (by omega)
            repeat (first | (with_reducible refine Own.setCell ?_ (by (try simp); (try omega)) _) | (with_reducible refine Own.alloc ?_ _) | (with_reducible refine Own.drew ?_))
            exact HO.out
          · repeat (first | (with_reducible refine Below.setCell ?_ (by (try simp); (try omega)) _) | (with_reducible refine Below.alloc ?_ (by (try simp); (try omega)) _) | (with_reducible refine Below.drew ?_))
            exact D5.out.bel
      · have hv1' : ((v : Int) == 1) = false := by simp; omega
        obtain ⟨ra, rc, hrv, _⟩ := row_shape D5.out.row
        first | subst hrv | (have hrv' := hrv.symm; simp only [Value.slice.injEq, true_and] at hrv'; obtain ⟨rfl, rfl⟩ := hrv'; clear hrv)
        have HO := Lib.hid (own_of_row D5.out.row)
        have hT := D5.out.arn; have cT0 := hT.at 0 rfl; have cT1 := hT.at 1 rfl; have cT2 := hT.at 2 rfl; have cT3 := hT.at 3 rfl; have lT := hT.1
        have hR := D5.out.res; have cR0 := hR.at 0 rfl; have fR0 := hR.free 0 rfl; have cR1 := hR.at 1 rfl; have fR1 := hR.free 1 rfl; have cR2 := hR.at 2 rfl; have fR2 := hR.free 2 rfl; have cR3 := hR.at 3 rfl; have fR3 := hR.free 3 rfl; have lR := hR.1
        have hz := D5.out.bel.size
        have hPw := D5.out.hP
        clear hT hR
        go_wp2
        refine bodyPost_ret (v := .tuple #[.agg #[.int .i64 h, .slice a n c, .int .i64 ac, .int .i64 bu], .slice ra l.length rc]) (by simp [results, Try.results12, go_sem, cR0, cR1, cR2, cR3]) rfl ⟨h, ac, bu, n, c, a, f, l, ra, rc, rfl, ?_, ?_, ?_, hn, hnc, hcm, by omega⟩
        · refine Own.mono (B := w.heap.size + 2) ?_ (by omega)
          repeat (first | (with_reducible refine Own.setCell ?_ (by (try simp); (try omega)) _) | (with_reducible refine Own.alloc ?_ _) | (with_reducible refine Own.drew ?_))
          exact (D5.out.wrd.widen (Nat.le_refl _) (Nat.le_of_lt D5.out.arn.1)).out
        · refine Own.mono (B := w1.heap.size + 1) ?_ (by omega)
          repeat (first | (with_reducible refine Own.setCell ?_ (by (try simp); (try omega)) _) | (with_reducible refine Own.alloc ?_ _) | (with_reducible refine Own.drew ?_))
          exact HO.out
        · repeat (first | (with_reducible refine Below.setCell ?_ (by (try simp); (try omega)) _) | (with_reducible refine Below.alloc ?_ (by (try simp); (try omega)) _) | (with_reducible refine Below.drew ?_))
          exact D5.out.bel
  · have hkf' : (kf == 0) = false := by simpa using hkf0
    generalize hu : Value.slice (some ⟨w1.heap.size + 1, 0, none⟩) 0 0 = u at *
    obtain ⟨l, hl⟩ : ∃ l : List Int, l = [] := ⟨_, rfl⟩
    rw [← hl] at D3
    have hl4 : l.length ≤ 4 := by rw [hl]; simp
    clear hl hu
    go_wp2_with fail
    refine (next_is 14 (w.heap.size + 1) (w.heap.size + 1) ca k kc t 14 B _ rfl D3.out.src D3.out.byt (Nat.le_refl _) hk0 (by omega) (by omega) (by omega)).mono ?_
    rintro e w5 ⟨v, rfl, hv, hB, hk⟩
    have D5 : Hid (DS w w5 ca k kc B (t + 1) w1.heap.size h ac bu a n c f u l) := Lib.hid (D3.out.next hk (by have := hB; simpa using this))
    clear hB hk D3
    by_cases hv0 : v = 0
    · subst hv0
      go_wp2_with fail
      refine (of_any [1, -1, 400] (w.heap.size + 1) (w.heap.size + 1) _ ca k kc (t + 1) 3 B _ _ D5.out.src D5.out.byt (Nat.le_refl _) hk0 (by omega) rfl (by simp) (by simp) rfl rfl).mono ?_
      rintro e w6 ⟨x, rfl, mx, hB, hk⟩
      have D6 : Hid (DS w w6 ca k kc B (t + 1 + 1) w1.heap.size h ac bu a n c f u l) := Lib.hid ((D5.out.below ((Below.refl _ _).alloc (Nat.le_refl _) _)).next hk (by have := hB; simpa using this))
      have h6 := D6.out.arn.1
      clear hB hk D5 mx
      go_upto_region 14 with (at_builtin; go_loud (refine wpList_append_lies _ rfl _ _ 24 rfl (w1.heap.size + 1) 2 i0 (.int .i64 0) 1 8 Try.underlying24 hif hz0 hz1 hz2 rfl (by decide) u l.length (nums l.length (lf l)) rfl (ownsRow_below D6.out.row ((Below.refl _ _).alloc (Nat.le_refl _) _)) ⟨w6.heap.size, 0, none⟩ 1 1 [.int .i64 x] rfl rfl (news1 w6 x) (by intro u hu; simp only [List.mem_cons, List.mem_nil_iff, or_false] at hu; subst hu; rfl) (by omega) (by unfold maxLen; omega) (by omega) (by simp; omega) (w6.heap.size + 1) (by simp) ?_); intro g9 cap9 w9 hown9 hgrow9 hat9 hlt9)
      have D9 : Hid (DS w w9 ca k kc B (t + 1 + 1) w1.heap.size h ac bu a n c f (.slice (some ⟨g9, 0, none⟩) (l.length + 1) cap9) (l ++ [x])) := Lib.hid (D6.out.append hgrow9 (by rw [show (l ++ [x]).length = l.length + 1 by simp, ← nums_snoc]; exact hown9))
      clear hown9 hgrow9 hat9 D6
      generalize hu9 : Value.slice (some ⟨g9, 0, none⟩) (l.length + 1) cap9 = u9 at *
      clear hu9
      obtain ⟨ra, rc, hrv, _⟩ := row_shape D9.out.row
      first | subst hrv | (have hrv' := hrv.symm; simp only [Value.slice.injEq, true_and] at hrv'; obtain ⟨rfl, rfl⟩ := hrv'; clear hrv)
      have HO := Lib.hid (own_of_row D9.out.row)
      have hT := D9.out.arn; have cT0 := hT.at 0 rfl; have cT1 := hT.at 1 rfl; have cT2 := hT.at 2 rfl; have cT3 := hT.at 3 rfl; have lT := hT.1
      have hR := D9.out.res; have cR0 := hR.at 0 rfl; have fR0 := hR.free 0 rfl; have cR1 := hR.at 1 rfl; have fR1 := hR.free 1 rfl; have cR2 := hR.at 2 rfl; have fR2 := hR.free 2 rfl; have cR3 := hR.at 3 rfl; have fR3 := hR.free 3 rfl; have lR := hR.1
      have hz := D9.out.bel.size
      have hPw := D9.out.hP
      clear hT hR
      go_wp2
      refine bodyPost_ret (v := .tuple #[.agg #[.int .i64 h, .slice a n c, .int .i64 ac, .int .i64 bu], .slice ra (l ++ [x]).length rc]) (by simp [results, Try.results12, go_sem, cR0, cR1, cR2, cR3]) rfl ⟨h, ac, bu, n, c, a, f, (l ++ [x]), ra, rc, rfl, ?_, ?_, ?_, hn, hnc, hcm, by simp; omega⟩
      · refine Own.mono (B := w.heap.size + 2) ?_ (by omega)
        repeat (first | (with_reducible refine Own.setCell ?_ (by (try simp); (try omega)) _) | (with_reducible refine Own.alloc ?_ _) | (with_reducible refine Own.drew ?_))
        exact (D9.out.wrd.widen (Nat.le_refl _) (Nat.le_of_lt D9.out.arn.1)).out
      · refine Own.mono (B := w1.heap.size + 1) ?_ (by omega)
        repeat (first | (with_reducible refine Own.setCell ?_ (by (try simp); (try omega)) _) | (with_reducible refine Own.alloc ?_ _) | (with_reducible refine Own.drew ?_))
        exact HO.out
      · repeat (first | (with_reducible refine Below.setCell ?_ (by (try simp); (try omega)) _) | (with_reducible refine Below.alloc ?_ (by (try simp); (try omega)) _) | (with_reducible refine Below.drew ?_))
        exact D9.out.bel
    · have hv0' : ((v : Int) == 0) = false := by simp; omega
      by_cases hv1 : v = 1
      · subst hv1
        obtain ⟨ua, uc, hu0, _⟩ := row_shape D5.out.row
        subst hu0
        by_cases hl0 : 0 < l.length
        · have hl0' : (0 : Int) < (l.length : Int) := by omega
          go_wp2_with fail
          refine (of_any [60, 61] (w.heap.size + 1) (w.heap.size + 1) _ ca k kc (t + 1) 2 B _ _ D5.out.src D5.out.byt (Nat.le_refl _) hk0 (by omega) rfl (by simp) (by simp) rfl rfl).mono ?_
          rintro e w6 ⟨x, rfl, mx, hB, hk⟩
          have D6 : Hid (DS w w6 ca k kc B (t + 1 + 1) w1.heap.size h ac bu a n c f (.slice ua l.length uc) l) := Lib.hid ((D5.out.below ((Below.refl _ _).alloc (Nat.le_refl _) _)).next hk (by have := hB; simpa using this))
          have hx : 60 ≤ x ∧ x ≤ 61 := by simp at mx; omega
          obtain ⟨X, rfl⟩ : ∃ X : Nat, x = (X : Int) := ⟨x.toNat, by omega⟩
          clear hB hk D5 mx
          go_wp2
          go_loopw [6] (fun u wr => ∃ l' : List Int, Hid (DS w wr ca k kc B (t + 1 + 1) w1.heap.size h ac bu a n c f u l') ∧ 0 < l'.length ∧ l'.length ≤ 61) (fun u _ => X - (match u with | .slice _ n _ => n | _ => 0))
          case atStart => exact ⟨l, D6, hl0, by omega⟩
          case round =>
            obtain ⟨l', D7, hp7, hl7⟩ := hrel
            clear D6
            obtain ⟨ra7, rc7, hrv7, _⟩ := row_shape D7.out.row
            subst hrv7
            by_cases hlX : l'.length < X
            · have hlX' : (l'.length : Int) < (X : Int) := by omega
              obtain ⟨b7, o7, rfl, hb7, hc7⟩ := src_some (own_of_row D7.out.row).src hp7
              have c7 := hc7 0 hp7
              rw [Nat.add_zero] at c7
              have hp7' : (0 : Int) < (l'.length : Int) := by omega
              have h7 := D7.out.arn.1
              generalize lf l' 0 = y at *
              clear hc7
              go_wp2_with (at_builtin; go_loud (refine wpList_append_lies _ rfl _ _ 24 rfl (w1.heap.size + 1) 2 i0 (.int .i64 0) 1 8 Try.underlying24 hif hz0 hz1 hz2 rfl (by decide) (.slice (some ⟨b7, o7, none⟩) l'.length rc7) l'.length (nums l'.length (lf l')) rfl (ownsRow_below D7.out.row ((Below.refl _ _).alloc (Nat.le_refl _) _)) ⟨wr.heap.size, 0, none⟩ 1 1 [.int .i64 y] rfl rfl (news1 wr y) (by intro u hu; simp only [List.mem_cons, List.mem_nil_iff, or_false] at hu; subst hu; rfl) (by omega) (by unfold maxLen; omega) (by omega) (by simp; omega) (wr.heap.size + 1) (by simp) ?_); intro g9 cap9 w9 hown9 hgrow9 hat9 hlt9)
              have D9 : Hid (DS w w9 ca k kc B (t + 1 + 1) w1.heap.size h ac bu a n c f (.slice (some ⟨g9, 0, none⟩) (l'.length + 1) cap9) (l' ++ [y])) := Lib.hid (D7.out.append hgrow9 (by rw [show (l' ++ [y]).length = l'.length + 1 by simp, ← nums_snoc]; exact hown9))
              clear hown9 hgrow9 hat9 D7 c7
              go_wp2
              go_roundw
              case rel => first | exact ⟨l' ++ [y], D9, by simp, by simp; omega⟩ | ((repeat apply Exists.intro); exact ⟨⟨l' ++ [y], D9, by simp, by simp; omega⟩, rfl⟩)
              case measure => simp; omega
            · have hlX' : ¬ (l'.length : Int) < (X : Int) := by omega
              obtain ⟨ra, rc, hrv, _⟩ := row_shape D7.out.row
              first | subst hrv | (have hrv' := hrv.symm; simp only [Value.slice.injEq, true_and] at hrv'; obtain ⟨rfl, rfl⟩ := hrv'; clear hrv)
              have HO := Lib.hid (own_of_row D7.out.row)
              have hT := D7.out.arn; have cT0 := hT.at 0 rfl; have cT1 := hT.at 1 rfl; have cT2 := hT.at 2 rfl; have cT3 := hT.at 3 rfl; have lT := hT.1
              have hR := D7.out.res; have cR0 := hR.at 0 rfl; have fR0 := hR.free 0 rfl; have cR1 := hR.at 1 rfl; have fR1 := hR.free 1 rfl; have cR2 := hR.at 2 rfl; have fR2 := hR.free 2 rfl; have cR3 := hR.at 3 rfl; have fR3 := hR.free 3 rfl; have lR := hR.1
              have hz := D7.out.bel.size
              have hPw := D7.out.hP
              clear hT hR
              go_wp2
              refine bodyPost_ret (v := .tuple #[.agg #[.int .i64 h, .slice a n c, .int .i64 ac, .int .i64 bu], .slice ra l'.length rc]) (by simp [results, Try.results12, go_sem, cR0, cR1, cR2, cR3]) rfl ⟨h, ac, bu, n, c, a, f, l', ra, rc, rfl, ?_, ?_, ?_, hn, hnc, hcm, by omega⟩
              · refine Own.mono (B := w.heap.size + 2) ?_ (by omega)
                repeat (first | (with_reducible refine Own.setCell ?_ (by (try simp); (try omega)) _) | (with_reducible refine Own.alloc ?_ _) | (with_reducible refine Own.drew ?_))
                exact (D7.out.wrd.widen (Nat.le_refl _) (Nat.le_of_lt D7.out.arn.1)).out
              · refine Own.mono (B := w1.heap.size + 1) ?_ (by omega)
                repeat (first | (with_reducible refine Own.setCell ?_ (by (try simp); (try omega)) _) | (with_reducible refine Own.alloc ?_ _) | (with_reducible refine Own.drew ?_))
                exact HO.out
              · repeat (first | (with_reducible refine Below.setCell ?_ (by (try simp); (try omega)) _) | (with_reducible refine Below.alloc ?_ (by (try simp); (try omega)) _) | (with_reducible refine Below.drew ?_))
                exact D7.out.bel
        · have hl0' : ¬ (0 : Int) < (l.length : Int) := by omega
          obtain ⟨ra, rc, hrv, _⟩ := row_shape D5.out.row
          first | subst hrv | (have hrv' := hrv.symm; simp only [Value.slice.injEq, true_and] at hrv'; obtain ⟨rfl, rfl⟩ := hrv'; clear hrv)
          have HO := Lib.hid (own_of_row D5.out.row)
          have hT := D5.out.arn; have cT0 := hT.at 0 rfl; have cT1 := hT.at 1 rfl; have cT2 := hT.at 2 rfl; have cT3 := hT.at 3 rfl; have lT := hT.1
          have hR := D5.out.res; have cR0 := hR.at 0 rfl; have fR0 := hR.free 0 rfl; have cR1 := hR.at 1 rfl; have fR1 := hR.free 1 rfl; have cR2 := hR.at 2 rfl; have fR2 := hR.free 2 rfl; have cR3 := hR.at 3 rfl; have fR3 := hR.free 3 rfl; have lR := hR.1
          have hz := D5.out.bel.size
          have hPw := D5.out.hP
          clear hT hR
          go_wp2
          refine bodyPost_ret (v := .tuple #[.agg #[.int .i64 h, .slice a n c, .int .i64 ac, .int .i64 bu], .slice ra l.length rc]) (by simp [results, Try.results12, go_sem, cR0, cR1, cR2, cR3]) rfl ⟨h, ac, bu, n, c, a, f, l, ra, rc, rfl, ?_, ?_, ?_, hn, hnc, hcm, by omega⟩
          · refine Own.mono (B := w.heap.size + 2) ?_ (by omega)
            repeat (first | (with_reducible refine Own.setCell ?_ (by (try simp); (try omega)) _) | (with_reducible refine Own.alloc ?_ _) | (with_reducible refine Own.drew ?_))
            exact (D5.out.wrd.widen (Nat.le_refl _) (Nat.le_of_lt D5.out.arn.1)).out
          · refine Own.mono (B := w1.heap.size + 1) ?_ (by omega)
            repeat (first | (with_reducible refine Own.setCell ?_ (by (try simp); (try omega)) _) | (with_reducible refine Own.alloc ?_ _) | (with_reducible refine Own.drew ?_))
            exact HO.out
          · repeat (first | (with_reducible refine Below.setCell ?_ (by (try simp); (try omega)) _) | (with_reducible refine Below.alloc ?_ (by (try simp); (try omega)) _) | (with_reducible refine Below.drew ?_))
            exact D5.out.bel
      · have hv1' : ((v : Int) == 1) = false := by simp; omega
        obtain ⟨ra, rc, hrv, _⟩ := row_shape D5.out.row
        first | subst hrv | (have hrv' := hrv.symm; simp only [Value.slice.injEq, true_and] at hrv'; obtain ⟨rfl, rfl⟩ := hrv'; clear hrv)
        have HO := Lib.hid (own_of_row D5.out.row)
        have hT := D5.out.arn; have cT0 := hT.at 0 rfl; have cT1 := hT.at 1 rfl; have cT2 := hT.at 2 rfl; have cT3 := hT.at 3 rfl; have lT := hT.1
        have hR := D5.out.res; have cR0 := hR.at 0 rfl; have fR0 := hR.free 0 rfl; have cR1 := hR.at 1 rfl; have fR1 := hR.free 1 rfl; have cR2 := hR.at 2 rfl; have fR2 := hR.free 2 rfl; have cR3 := hR.at 3 rfl; have fR3 := hR.free 3 rfl; have lR := hR.1
        have hz := D5.out.bel.size
        have hPw := D5.out.hP
        clear hT hR
        go_wp2
        refine bodyPost_ret (v := .tuple #[.agg #[.int .i64 h, .slice a n c, .int .i64 ac, .int .i64 bu], .slice ra l.length rc]) (by simp [results, Try.results12, go_sem, cR0, cR1, cR2, cR3]) rfl ⟨h, ac, bu, n, c, a, f, l, ra, rc, rfl, ?_, ?_, ?_, hn, hnc, hcm, by omega⟩
        · refine Own.mono (B := w.heap.size + 2) ?_ (by omega)
          repeat (first | (with_reducible refine Own.setCell ?_ (by (try simp); (try omega)) _) | (with_reducible refine Own.alloc ?_ _) | (with_reducible refine Own.drew ?_))
          exact (D5.out.wrd.widen (Nat.le_refl _) (Nat.le_of_lt D5.out.arn.1)).out
        · refine Own.mono (B := w1.heap.size + 1) ?_ (by omega)
          repeat (first | (with_reducible refine Own.setCell ?_ (by (try simp); (try omega)) _) | (with_reducible refine Own.alloc ?_ _) | (with_reducible refine Own.drew ?_))
          exact HO.out
        · repeat (first | (with_reducible refine Below.setCell ?_ (by (try simp); (try omega)) _) | (with_reducible refine Below.alloc ?_ (by (try simp); (try omega)) _) | (with_reducible refine Below.drew ?_))
          exact D5.out.bel
end Go.Proofs.Ytdgppcaeknbnjaa

namespace Go.Proofs.Ytdgppcaeknbnjaa
open Go.RowKit Go.Maps
set_option linter.unusedVariables false

set_option maxRecDepth 100000 in
set_option maxHeartbeats 800000 in
theorem lwHas_any (a : Option Addr) (l : List Int) (c : Nat) (v : Int) (w : World) (hs : Src w a l.length (lf l)) (hl : l.length ≤ 1048576) :
    Calls Try.prog 20 #[.slice a l.length c, .int .i64 v] w fun e w' => e = .returned (.bool (decide (v ∈ l))) ∧ w = w' := by
  have HS := Lib.hid hs
  clear hs
  go_enter Try.func20, Try.ntmps20
  go_wp2
  go_loop [5] (fun p => ∃ i : Nat, i ≤ l.length ∧ p = .int .i64 (i : Int) ∧ Hid (∀ j, j < i → ¬ lf l j = v)) (fun p => l.length - (intOf p).toNat)
  case atStart => exact ⟨0, Nat.zero_le _, rfl, Lib.hid (fun j hj => by omega)⟩
  case round =>
    obtain ⟨i, hi, rfl, HD⟩ := hrel
    by_cases hlt : i < l.length
    · have hlt' : (i : Int) < (l.length : Int) := by omega
      have hi0 : (0 : Int) ≤ (i : Int) := by omega
      obtain ⟨b, off, rfl, hb, hc⟩ := src_some HS.out (by omega)
      have c0 := hc i hlt
      have hmem := lf_mem hlt
      obtain ⟨y, hy⟩ : ∃ y, lf l i = y := ⟨_, rfl⟩
      have HY := Lib.hid hy
      rw [hy] at c0 hmem
      clear hc hy
      by_cases he : y = v
      · subst he
        have HM : Hid (decide (y ∈ l) = true) := Lib.hid (decide_eq_true hmem)
        clear hmem
        go_wp2
        go_ret
        exact ⟨by rw [HM.out]; rfl, rfl⟩
      · have hb' : (y == v) = false := by simpa using he
        clear hmem
        go_wp2
        go_round
        case rel => exact ⟨i + 1, by omega, by go_num, Lib.hid (fun j hj => by
          rcases Nat.lt_succ_iff_lt_or_eq.mp hj with h1 | h1
          · exact HD.out j h1
          · subst h1; rw [HY.out]; exact he)⟩
        case measure => simp [intOf]; omega
    · have hlt' : ¬ (i : Int) < (l.length : Int) := by omega
      have HM : Hid (decide (v ∈ l) = false) := Lib.hid (decide_eq_false (fun hm => by
        obtain ⟨j, hj, he⟩ := List.getElem_of_mem hm
        exact HD.out j (by omega) (by rw [lf_at hj]; exact he)))
      go_wp2
      go_ret
      exact ⟨by rw [HM.out]; rfl, rfl⟩

theorem ir_code (x : Int) (y : Value) (w : World) : (Instr.field 30 (.agg #[.int .i64 x, y]) 0).run Try.prog w = .ok (.int .i64 x) w := by kernel_rfl

theorem ir_list (x : Int) (a : Option Addr) (n c : Nat) (w : World) : (Instr.field 30 (.agg #[.int .i64 x, .slice a n c]) 1).run Try.prog w = .ok (.slice a n c) w := by kernel_rfl

theorem or_list (x : Int) (a : Option Addr) (n c : Nat) (w : World) : (Instr.field 37 (.agg #[.int .i64 x, .slice a n c]) 1).run Try.prog w = .ok (.slice a n c) w := by kernel_rfl

theorem places_nodup {f : Nat → Int} {e a : Nat} {L : List Ob} (hp : parse f e a = some L) : (placesO L).Nodup := by
  have h := parse_sorted (e - a) a L (Nat.le_refl _) hp
  unfold placesO List.Nodup
  rw [List.pairwise_map]
  exact h.imp (fun hxy => by omega)

theorem filt_perm {R U : List Int} (hU : U.Nodup) (hR : R.Nodup) (hs : ∀ p ∈ R, p ∈ U) : (U.filter (fun p => decide (p ∈ R))).Perm R := by
  rw [List.perm_ext_iff_of_nodup (hU.filter _) hR]
  intro p
  simp only [List.mem_filter, decide_eq_true_eq]
  exact ⟨fun h => h.2, fun h => ⟨hs p h, h⟩⟩

theorem sumW_perm {u : Int → Nat} {l l' : List Int} (h : l.Perm l') : sumW u l = sumW u l' := by
  induction h with
  | nil => rfl
  | cons x _ ih => simp only [sumW, ih]
  | swap x y l => simp only [sumW]; omega
  | trans _ _ h1 h2 => exact h1.trans h2

theorem split_len {R U : List Int} (hU : U.Nodup) (hR : R.Nodup) (hs : ∀ p ∈ R, p ∈ U) : R.length + (U.filter (fun p => decide (p ∉ R))).length = U.length := by
  rw [← (filt_perm hU hR hs).length_eq]
  clear hU hs hR
  simp only [decide_not]
  induction U with
  | nil => rfl
  | cons x U ih =>
    by_cases h : x ∈ R
    · simp [h]; omega
    · simp [h]; omega
end Go.Proofs.Ytdgppcaeknbnjaa

