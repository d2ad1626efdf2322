/- Texts merged: Y4 to X3b. -/
import Derived.Test.YtihbenbfnpiikaaAL4
import Derived.Deep.RegionWith
namespace Go.Proofs.Ytihbenbfnpiikaa
open Go.RowKit Go.Maps
set_option linter.unusedVariables false

def RetInU (W : World) (f : Nat → Int) (roots : List Int) (co : Int) (L : List Ob) (e : Ending) (w' : World) : Prop :=
  Below W.heap.size W w' ∧ ∃ (a : Option Addr) (N c : Nat) (mv : Option Nat), e = .returned (.agg #[.int .i64 co, .slice a N c, .map mv]) ∧ (co = 0 → N = (reachO f L roots).length ∧ ∃ mb T, mv = some mb ∧ GV w' a (reachO f L roots).length T ∧ MapT w' mb (reachO f L roots).length (reachO f L roots) idV ∧ ∀ i, i < (reachO f L roots).length → ∃ x, findO L (lf (reachO f L roots) i) = some x ∧ GSame (T i) (obG f x))

theorem inU {W : World} {f : Nat → Int} {roots : List Int} {co : Int} {L : List Ob} {e : Ending} {w' : World} (h : RetIn W f roots co L e w') : RetInU W f roots co L e w' := by
  obtain ⟨h1, h2⟩ := h
  refine ⟨h1, ?_⟩
  rcases h2 with ⟨h0, rfl⟩ | ⟨rfl, a, c, mb, T, rfl, hg, hm, hs⟩
  · exact ⟨_, _, _, _, rfl, fun h => absurd h h0⟩
  · exact ⟨_, _, _, _, rfl, fun _ => ⟨rfl, mb, T, rfl, hg, hm, hs⟩⟩

theorem inU_any (h ac bu : Int) (a : Option Addr) (n c : Nat) (f : Nat → Int) (ra : Option Addr) (ra_ : List Int) (rc : Nat) (co : Int) (L : List Ob) (w : World) (hs : Src w a n f) (hcn : n ≤ c) (hcm : c ≤ maxLen) (hrs : Src w ra ra_.length (lf ra_)) (hk : IsAsk h n f ac bu ra_ co L) : Calls Try.prog 65 #[.agg #[.int .i64 h, .slice a n c, .int .i64 ac, .int .i64 bu], .slice ra ra_.length rc] w (RetInU w f ra_ co L) :=
  (reachIn_any h ac bu a n c f ra ra_ rc co L w hs hcn hcm hrs hk).mono fun e w' h => inU h

theorem eight {w : World} {b d : Nat} {u0 u1 u2 u3 v0 v1 v2 v3 : Value} (h : Blk w b [u0, u1, u2, u3]) (k : Blk w d [v0, v1, v2, v3]) : w.cell? ⟨b, 0, none⟩ = some u0 ∧ w.cell? ⟨b, 1, none⟩ = some u1 ∧ w.cell? ⟨b, 2, none⟩ = some u2 ∧ w.cell? ⟨b, 3, none⟩ = some u3 ∧ w.cell? ⟨d, 0, none⟩ = some v0 ∧ w.cell? ⟨d, 1, none⟩ = some v1 ∧ w.cell? ⟨d, 2, none⟩ = some v2 ∧ w.cell? ⟨d, 3, none⟩ = some v3 := ⟨h.at 0 rfl, h.at 1 rfl, h.at 2 rfl, h.at 3 rfl, k.at 0 rfl, k.at 1 rfl, k.at 2 rfl, k.at 3 rfl⟩

/-- The program's comparison is that of what is reached. -/
theorem so_iff {h ac bu : Int} {n : Nat} {f : Nat → Int} {L : List Ob} {ra : List Int} {h' ac' bu' : Int} {n' : Nat} {g : Nat → Int} {L' : List Ob} {rb : List Int} (hk : IsAsk h n f ac bu ra 0 L) (hk' : IsAsk h' n' g ac' bu' rb 0 L') {T U T' U' : Nat → GM}
    (hT : ∀ i, i < (reachO f L ra).length → ∃ x, findO L (lf (reachO f L ra) i) = some x ∧ GSame (T i) (obG f x)) (hU : ∀ i, i < (reachO f L ra).length → GSame (U i) (mvT (reachO f L ra) idV (T i)))
    (hT' : ∀ i, i < (reachO g L' rb).length → ∃ x, findO L' (lf (reachO g L' rb) i) = some x ∧ GSame (T' i) (obG g x)) (hU' : ∀ i, i < (reachO g L' rb).length → GSame (U' i) (mvT (reachO g L' rb) idV (T' i))) :
    ((reachO f L ra).length = (reachO g L' rb).length ∧ ∀ i, i < (reachO f L ra).length → GSame (U i) (U' i)) ↔ ((reachO f L ra).length = (reachO g L' rb).length ∧ ∀ i, i < (reachO f L ra).length → ∃ x y, findO L (lf (reachO f L ra) i) = some x ∧ findO L' (lf (reachO g L' rb) i) = some y ∧ ObAlike f (reachO f L ra) x g (reachO g L' rb) y) := by
  obtain ⟨k1, k2, k3, k4⟩ := isAsk_zero hk
  obtain ⟨q1, q2, q3, q4⟩ := isAsk_zero hk'
  refine ⟨fun hh => ⟨hh.1, fun i hi => ?_⟩, fun hh => ⟨hh.1, fun i hi => ?_⟩⟩
  all_goals
    have hi' : i < (reachO g L' rb).length := by rw [← hh.1]; exact hi
    obtain ⟨x, hx, hs⟩ := hT i hi
    obtain ⟨y, hy, hs'⟩ := hT' i hi'
    obtain ⟨t1, t2, t3, t4, t5, t6, t7⟩ := hs
    obtain ⟨p1, p2, p3, p4, p5, p6, p7⟩ := hs'
    obtain ⟨u1, u2, u3, u4, u5, u6, u7⟩ := hU i hi
    obtain ⟨v1, v2, v3, v4, v5, v6, v7⟩ := hU' i hi'
    have us : (U i).s = x.s := u2.trans t2
    have um : (U i).m = x.m := u3.trans t3
    have uo : (U i).o = x.o := u4.trans t4
    have uh : (U i).h = x.h := u5.trans t5
    have un : (U i).n = x.s.toNat := u6.trans t6
    have vs : (U' i).s = y.s := v2.trans p2
    have vm : (U' i).m = y.m := v3.trans p3
    have vo : (U' i).o = y.o := v4.trans p4
    have vh : (U' i).h = y.h := v5.trans p5
    have vn : (U' i).n = y.s.toNat := v6.trans p6
    have tn : (T i).n = x.s.toNat := t6
    have pn : (T' i).n = y.s.toNat := p6
    have ua : (U i).at_ = (i : Int) := by
      have e1 : (T i).at_ = lf (reachO f L ra) i := t1.trans (findO_place hx)
      rw [u1]; show (tab _ _ (T i).at_).getD 0 = _
      rw [e1, tab_at (reachO_nodup f L ra) hi]; rfl
    have va : (U' i).at_ = (i : Int) := by
      have e1 : (T' i).at_ = lf (reachO g L' rb) i := p1.trans (findO_place hy)
      rw [v1]; show (tab _ _ (T' i).at_).getD 0 = _
      rw [e1, tab_at (reachO_nodup g L' rb) hi']; rfl
    have uf : ∀ k, k < x.s.toNat → (U i).f k = if x.m / P2 (k : Int) % 2 = 1 ∧ ¬ f (x.at_.toNat + 2 + k) = 0 then (tab (reachO f L ra) idV (f (x.at_.toNat + 2 + k) - 1)).getD 0 + 1 else f (x.at_.toNat + 2 + k) := fun k hk => by
      rw [u7 k (by omega)]
      show mvF _ _ (T i) k = _
      have e7 : (T i).f k = f (x.at_.toNat + 2 + k) := t7 k (by omega)
      have e3 : (T i).m = x.m := t3
      unfold mvF
      rw [e7, e3]
    have vf : ∀ k, k < y.s.toNat → (U' i).f k = if y.m / P2 (k : Int) % 2 = 1 ∧ ¬ g (y.at_.toNat + 2 + k) = 0 then (tab (reachO g L' rb) idV (g (y.at_.toNat + 2 + k) - 1)).getD 0 + 1 else g (y.at_.toNat + 2 + k) := fun k hk => by
      rw [v7 k (by omega)]
      show mvF _ _ (T' i) k = _
      have e7 : (T' i).f k = g (y.at_.toNat + 2 + k) := p7 k (by omega)
      have e3 : (T' i).m = y.m := p3
      unfold mvF
      rw [e7, e3]
    have hin : ∀ k, k < x.s.toNat → x.m / P2 (k : Int) % 2 = 1 → ¬ f (x.at_.toNat + 2 + k) = 0 → f (x.at_.toNat + 2 + k) - 1 ∈ reachO f L ra := fun k hk hb h0 => reach_target k1 k2 k4 (lf_mem hi) hx hk hb h0
    have hin' : ∀ k, k < y.s.toNat → y.m / P2 (k : Int) % 2 = 1 → ¬ g (y.at_.toNat + 2 + k) = 0 → g (y.at_.toNat + 2 + k) - 1 ∈ reachO g L' rb := fun k hk hb h0 => reach_target q1 q2 q4 (lf_mem hi') hy hk hb h0
  · obtain ⟨g1, g2, g3, g4, g5, g6, g7⟩ := hh.2 i hi
    have es : x.s = y.s := by rw [← us, ← vs]; exact g2
    have em : x.m = y.m := by rw [← um, ← vm]; exact g3
    refine ⟨x, y, hx, hy, ⟨es, em, by rw [← uo, ← vo]; exact g4, by rw [← uh, ← vh]; exact g5⟩, fun k hk => ?_⟩
    have e := g7 k (by omega)
    rw [uf k hk, vf k (by rw [← es]; exact hk), ← em] at e
    exact (fld_iff (hin k hk) (by rw [em]; exact hin' k (by rw [← es]; exact hk))).1 e
  · obtain ⟨x', y', e1, e2, ⟨es, em, eo, eh⟩, e4⟩ := hh.2 i hi
    rw [hx] at e1
    rw [hy] at e2
    obtain rfl := Option.some.inj e1
    obtain rfl := Option.some.inj e2
    refine ⟨by rw [ua, va], by rw [us, vs]; exact es, by rw [um, vm]; exact em, by rw [uo, vo]; exact eo, by rw [uh, vh]; exact eh, by rw [un, vn, es], fun k hk => ?_⟩
    have hk1 : k < x.s.toNat := by omega
    rw [uf k hk1, vf k (by rw [← es]; exact hk1), ← em]
    exact (fld_iff (hin k hk1) (by rw [em]; exact hin' k (by rw [← es]; exact hk1))).2 (e4 k hk1)

theorem roots_iff {f : Nat → Int} {L : List Ob} {ra : List Int} {g : Nat → Int} {L' : List Ob} {rb : List Int} :
    eqB ra.length rb.length (lf (ra.map fun p => (tab (reachO f L ra) idV p).getD 0)) (lf (rb.map fun p => (tab (reachO g L' rb) idV p).getD 0)) = true ↔ ra.length = rb.length ∧ ∀ i, i < ra.length → numL (reachO f L ra) (lf ra i) = numL (reachO g L' rb) (lf rb i) := by
  rw [eqB_iff]
  have key : ∀ (l R : List Int) (i : Nat), i < l.length → lf (l.map fun p => (tab R idV p).getD 0) i = (tab R idV (lf l i)).getD 0 := fun l R i hi => by
    rw [lf_at (by simpa using hi), lf_at hi]; simp
  constructor
  · rintro ⟨h1, h2⟩
    refine ⟨h1, fun i hi => ?_⟩
    have e := h2 i hi
    rw [key _ _ i hi, key _ _ i (by omega)] at e
    exact (tab_num_eq (reachO_roots f L ra _ (lf_mem hi)) (reachO_roots g L' rb _ (lf_mem (by omega)))).1 e
  · rintro ⟨h1, h2⟩
    refine ⟨h1, fun i hi => ?_⟩
    rw [key _ _ i hi, key _ _ i (by omega)]
    exact (tab_num_eq (reachO_roots f L ra _ (lf_mem hi)) (reachO_roots g L' rb _ (lf_mem (by omega)))).2 (h2 i hi)

theorem idV_bound {R : List Int} (h : R.length ≤ 400) : ∀ p, 0 ≤ (tab R idV p).getD 0 ∧ (tab R idV p).getD 0 ≤ 1000000 := fun p => by
  unfold tab
  cases hn : numL R p with
  | none => exact ⟨Int.le_refl _, by decide⟩
  | some i =>
    have hi : i < R.length := by
      unfold numL at hn
      exact (List.findIdx?_eq_some_iff_getElem.mp hn).1
    show 0 ≤ (i : Int) ∧ (i : Int) ≤ 1000000
    omega

/-- What is known of what was reached, where both codes are 0. -/
def InU2 (w : World) (z : Prop) (f : Nat → Int) (L : List Ob) (roots : List Int) (a : Option Addr) (N : Nat) (mv : Option Nat) : Prop :=
  z → N = (reachO f L roots).length ∧ ∃ mb T, mv = some mb ∧ GV w a (reachO f L roots).length T ∧ MapT w mb (reachO f L roots).length (reachO f L roots) idV ∧ ∀ i, i < (reachO f L roots).length → ∃ x, findO L (lf (reachO f L roots) i) = some x ∧ GSame (T i) (obG f x)

theorem InU2.below {w w' : World} {z : Prop} {f : Nat → Int} {L : List Ob} {roots : List Int} {a : Option Addr} {N : Nat} {mv : Option Nat} (h : InU2 w z f L roots a N mv) (hb : Below w.heap.size w w') : InU2 w' z f L roots a N mv := fun hz => by
  obtain ⟨h1, mb, T, h2, h3, h4, h5⟩ := h hz
  exact ⟨h1, mb, T, h2, h3.below hb, h4.below hb, h5⟩

def lainC (w : World) (R : Nat) (cc : Int) (x y : Value) : World := ((w.setCell ⟨R, 0, none⟩ (.int .i64 cc)).setCell ⟨R, 1, none⟩ x).setCell ⟨R, 2, none⟩ y

theorem InU2.lain {w : World} {z : Prop} {f : Nat → Int} {L : List Ob} {roots : List Int} {a : Option Addr} {N : Nat} {mv : Option Nat} {R : Nat} {cc : Int} {x y : Value} (h : InU2 w z f L roots a N mv) (hd : Dead w R) (hc : z → cc = 0) : InU2 (lainC w R cc x y) z f L roots a N mv := fun hz => by
  obtain ⟨h1, mb, T, h2, h3, h4, h5⟩ := h hz
  have e : lainC w R cc x y = Go.Proofs.Ytihbenbfnpiikaa.lain w R x y := by unfold lainC Go.Proofs.Ytihbenbfnpiikaa.lain; rw [hc hz]
  rw [e]
  exact ⟨h1, mb, T, h2, dead_gv hd h3 x y, dead_map hd h4 x y, h5⟩

theorem dead_block {w w' : World} {R : Nat} (h : Dead w R) (e : w'.heap[R]? = w.heap[R]?) : Dead w' R := by
  obtain ⟨t, fr, h⟩ := h
  exact ⟨t, fr, e.trans h⟩

theorem lainC_block {w : World} {R b : Nat} {cc : Int} {x y : Value} (h : b ≠ R) : (lainC w R cc x y).heap[b]? = w.heap[b]? :=
  (Below.heap_setCell _ _ _ b h).trans ((Below.heap_setCell _ _ _ b h).trans (Below.heap_setCell _ _ _ b h))

theorem blk_lain {w : World} {R : Nat} {cc : Int} {x y z0 z1 z2 : Value} (h : Blk w R [z0, z1, z2]) : Blk (lainC w R cc x y) R [.int .i64 cc, x, y] := by
  have h1 := ((h.set 0 (by simp) (.int .i64 cc)).set 1 (by simp) x).set 2 (by simp) y
  exact h1

theorem blk_lainO {w : World} {R b : Nat} {cc : Int} {x y : Value} {cs : List Value} (h : Blk w b cs) (hne : b ≠ R) : Blk (lainC w R cc x y) b cs := ((h.other (p := ⟨R, 0, none⟩) (fun e => hne e.symm) _).other (p := ⟨R, 1, none⟩) (fun e => hne e.symm) _).other (p := ⟨R, 2, none⟩) (fun e => hne e.symm) _

theorem below_lainC {w0 w : World} {B R : Nat} {cc : Int} {x y : Value} (h : Below B w0 w) (hB : B ≤ R) : Below B w0 (lainC w R cc x y) := ((h.setCell (p := ⟨R, 0, none⟩) hB _).setCell (p := ⟨R, 1, none⟩) hB _).setCell (p := ⟨R, 2, none⟩) hB _

theorem eightB {w W : World} {b d : Nat} {u0 u1 u2 u3 v0 v1 v2 v3 : Value} (h : Blk w b [u0, u1, u2, u3]) (k : Blk w d [v0, v1, v2, v3]) (hb : Below w.heap.size w W) : W.cell? ⟨b, 0, none⟩ = some u0 ∧ W.cell? ⟨b, 1, none⟩ = some u1 ∧ W.cell? ⟨b, 2, none⟩ = some u2 ∧ W.cell? ⟨b, 3, none⟩ = some u3 ∧ W.cell? ⟨d, 0, none⟩ = some v0 ∧ W.cell? ⟨d, 1, none⟩ = some v1 ∧ W.cell? ⟨d, 2, none⟩ = some v2 ∧ W.cell? ⟨d, 3, none⟩ = some v3 := eight (h.below hb) (k.below hb)

theorem bel_tr {w W w' : World} (h : Below w.heap.size w W) (hb : Below W.heap.size W w') : Below w.heap.size w w' := h.trans (hb.mono h.size)

theorem bel_mono {w W : World} {m k : Nat} (hm : m + k = w.heap.size) (h : Below w.heap.size w W) : Below m w W := h.mono (by omega)

theorem bel_mono2 {w0 w W : World} (h0 : Below w0.heap.size w0 w) (h : Below w.heap.size w W) : Below w0.heap.size w W := h.mono h0.size

def IARel (w : World) (z : Prop) (f : Nat → Int) (L : List Ob) (ra : List Int) (co : Int) (g : Nat → Int) (L' : List Ob) (rb : List Int) (co' : Int) (sX sY : Value) (wx : World) : Prop :=
  ∃ (bx by_ : Nat) (a1 : Option Addr) (N1 c1 : Nat) (mv1 : Option Nat) (a2 : Option Addr) (N2 c2 : Nat) (mv2 : Option Nat), sX = .pointer (some ⟨bx, 0, none⟩) ∧ sY = .pointer (some ⟨by_, 0, none⟩) ∧ Below w.heap.size w wx ∧ Blk wx bx [.int .i64 co, .slice a1 N1 c1, .map mv1] ∧ Blk wx by_ [.int .i64 co', .slice a2 N2 c2, .map mv2] ∧ InU2 wx z f L ra a1 N1 mv1 ∧ InU2 wx z g L' rb a2 N2 mv2

theorem size_lainC (w : World) (R : Nat) (cc : Int) (x y : Value) : (lainC w R cc x y).heap.size = w.heap.size := by simp [lainC]

theorem rel_a {w w2 : World} {z : Prop} {f g : Nat → Int} {L L' : List Ob} {ra rb : List Int} {co co' : Int} {a1 a2 : Option Addr} {N1 N2 c1 c2 : Nat} {mv1 mv2 : Option Nat} (hB : Below w.heap.size w w2) (hx : InU2 w2 z f L ra a1 N1 mv1) (hy : InU2 w2 z g L' rb a2 N2 mv2) : IARel w z f L ra co g L' rb co' (.pointer (some ⟨w2.heap.size, 0, none⟩)) (.pointer (some ⟨w2.heap.size + 1, 0, none⟩)) ((w2.alloc (.cells #[.int .i64 co, .slice a1 N1 c1, .map mv1] 93)).alloc (.cells #[.int .i64 co', .slice a2 N2 c2, .map mv2] 93)) := by
  have hA := ((Below.refl w2.heap.size w2).alloc (Nat.le_refl _) (.cells #[.int .i64 co, .slice a1 N1 c1, .map mv1] 93)).alloc (by simp) (.cells #[.int .i64 co', .slice a2 N2 c2, .map mv2] 93)
  exact ⟨_, _, a1, N1, c1, mv1, a2, N2, c2, mv2, rfl, rfl, hB.trans (hA.mono hB.size), (Blk.new_at w2.heap.size rfl).alloc _, Blk.new_at (w2.heap.size + 1) (by simp), hx.below hA, hy.below hA⟩

theorem rel_b {w w2 : World} {z : Prop} {f g : Nat → Int} {L L' : List Ob} {ra rb : List Int} {co co' : Int} {a1 a2 : Option Addr} {N1 N2 c1 c2 : Nat} {mv1 mv2 : Option Nat} (hB : Below w.heap.size w w2) (hx : InU2 w2 z f L ra a1 N1 mv1) (hy : InU2 w2 z g L' rb a2 N2 mv2) : IARel w z f L ra co g L' rb co' (.pointer (some ⟨w2.heap.size + 1, 0, none⟩)) (.pointer (some ⟨w2.heap.size, 0, none⟩)) ((w2.alloc (.cells #[.int .i64 co', .slice a2 N2 c2, .map mv2] 93)).alloc (.cells #[.int .i64 co, .slice a1 N1 c1, .map mv1] 93)) := by
  have hA := ((Below.refl w2.heap.size w2).alloc (Nat.le_refl _) (.cells #[.int .i64 co', .slice a2 N2 c2, .map mv2] 93)).alloc (by simp) (.cells #[.int .i64 co, .slice a1 N1 c1, .map mv1] 93)
  exact ⟨_, _, a1, N1, c1, mv1, a2, N2, c2, mv2, rfl, rfl, hB.trans (hA.mono hB.size), Blk.new_at (w2.heap.size + 1) (by simp), (Blk.new_at w2.heap.size rfl).alloc _, hx.below hA, hy.below hA⟩

theorem rel_c {w w2 : World} {z : Prop} {f g : Nat → Int} {L L' : List Ob} {ra rb : List Int} {co co' : Int} {a1 a2 : Option Addr} {N1 N2 c1 c2 : Nat} {mv1 mv2 : Option Nat} {bx : Nat} (hB : Below w.heap.size w w2) (hx : InU2 w2 z f L ra a1 N1 mv1) (hy : InU2 w2 z g L' rb a2 N2 mv2) (hb : Blk w2 bx [.int .i64 0, .slice none 0 0, .map none]) (hd : Dead w2 bx) (hlt : w.heap.size ≤ bx) (hz : z → co = 0 ∧ co' = 0) : IARel w z f L ra co g L' rb co' (.pointer (some ⟨bx, 0, none⟩)) (.pointer (some ⟨w2.heap.size, 0, none⟩)) ((((w2.setCell ⟨bx, 0, none⟩ (.int .i64 co)).setCell ⟨bx, 1, none⟩ (.slice a1 N1 c1)).setCell ⟨bx, 2, none⟩ (.map mv1)).alloc (.cells #[.int .i64 co', .slice a2 N2 c2, .map mv2] 93)) := by
  have hs := size_lainC w2 bx co (.slice a1 N1 c1) (.map mv1)
  have hA := (Below.refl (lainC w2 bx co (.slice a1 N1 c1) (.map mv1)).heap.size (lainC w2 bx co (.slice a1 N1 c1) (.map mv1))).alloc (Nat.le_refl _) (.cells #[.int .i64 co', .slice a2 N2 c2, .map mv2] 93)
  exact ⟨bx, w2.heap.size, a1, N1, c1, mv1, a2, N2, c2, mv2, rfl, rfl, (below_lainC hB hlt).trans (hA.mono (by rw [hs]; exact hB.size)), (blk_lain hb).alloc _, Blk.new_at (w := lainC w2 bx co (.slice a1 N1 c1) (.map mv1)) w2.heap.size hs.symm, (hx.lain hd (fun h => (hz h).1)).below hA, (hy.lain hd (fun h => (hz h).1)).below hA⟩

theorem rel_d {w w2 : World} {z : Prop} {f g : Nat → Int} {L L' : List Ob} {ra rb : List Int} {co co' : Int} {a1 a2 : Option Addr} {N1 N2 c1 c2 : Nat} {mv1 mv2 : Option Nat} {by_ : Nat} (hB : Below w.heap.size w w2) (hx : InU2 w2 z f L ra a1 N1 mv1) (hy : InU2 w2 z g L' rb a2 N2 mv2) (hb : Blk w2 by_ [.int .i64 0, .slice none 0 0, .map none]) (hd : Dead w2 by_) (hlt : w.heap.size ≤ by_) (hz : z → co = 0 ∧ co' = 0) : IARel w z f L ra co g L' rb co' (.pointer (some ⟨w2.heap.size, 0, none⟩)) (.pointer (some ⟨by_, 0, none⟩)) ((((w2.setCell ⟨by_, 0, none⟩ (.int .i64 co')).setCell ⟨by_, 1, none⟩ (.slice a2 N2 c2)).setCell ⟨by_, 2, none⟩ (.map mv2)).alloc (.cells #[.int .i64 co, .slice a1 N1 c1, .map mv1] 93)) := by
  have hs := size_lainC w2 by_ co' (.slice a2 N2 c2) (.map mv2)
  have hA := (Below.refl (lainC w2 by_ co' (.slice a2 N2 c2) (.map mv2)).heap.size (lainC w2 by_ co' (.slice a2 N2 c2) (.map mv2))).alloc (Nat.le_refl _) (.cells #[.int .i64 co, .slice a1 N1 c1, .map mv1] 93)
  exact ⟨w2.heap.size, by_, a1, N1, c1, mv1, a2, N2, c2, mv2, rfl, rfl, (below_lainC hB hlt).trans (hA.mono (by rw [hs]; exact hB.size)), Blk.new_at (w := lainC w2 by_ co' (.slice a2 N2 c2) (.map mv2)) w2.heap.size hs.symm, (blk_lain hb).alloc _, (hx.lain hd (fun h => (hz h).2)).below hA, (hy.lain hd (fun h => (hz h).2)).below hA⟩

theorem rel_e {w w2 : World} {z : Prop} {f g : Nat → Int} {L L' : List Ob} {ra rb : List Int} {co co' : Int} {a1 a2 : Option Addr} {N1 N2 c1 c2 : Nat} {mv1 mv2 : Option Nat} {bx by_ : Nat} (hB : Below w.heap.size w w2) (hx : InU2 w2 z f L ra a1 N1 mv1) (hy : InU2 w2 z g L' rb a2 N2 mv2) (hb : Blk w2 bx [.int .i64 0, .slice none 0 0, .map none]) (hd : Dead w2 bx) (hb' : Blk w2 by_ [.int .i64 0, .slice none 0 0, .map none]) (hd' : Dead w2 by_) (hlt : w.heap.size ≤ bx) (hlt' : w.heap.size ≤ by_) (hne : bx ≠ by_) (hz : z → co = 0 ∧ co' = 0) : IARel w z f L ra co g L' rb co' (.pointer (some ⟨bx, 0, none⟩)) (.pointer (some ⟨by_, 0, none⟩)) ((((((w2.setCell ⟨bx, 0, none⟩ (.int .i64 co)).setCell ⟨bx, 1, none⟩ (.slice a1 N1 c1)).setCell ⟨bx, 2, none⟩ (.map mv1)).setCell ⟨by_, 0, none⟩ (.int .i64 co')).setCell ⟨by_, 1, none⟩ (.slice a2 N2 c2)).setCell ⟨by_, 2, none⟩ (.map mv2)) := by
  have hd2 : Dead (lainC w2 bx co (.slice a1 N1 c1) (.map mv1)) by_ := dead_block hd' (lainC_block (fun e => hne e.symm))
  exact ⟨bx, by_, a1, N1, c1, mv1, a2, N2, c2, mv2, rfl, rfl, below_lainC (below_lainC hB hlt) hlt', blk_lainO (blk_lain hb) hne, blk_lain (blk_lainO hb' (fun e => hne e.symm)), (hx.lain hd (fun h => (hz h).1)).lain hd2 (fun h => (hz h).2), (hy.lain hd (fun h => (hz h).1)).lain hd2 (fun h => (hz h).2)⟩

theorem six_bel {w W : World} {b d : Nat} {u0 u1 u2 v0 v1 v2 : Value} (h : Blk w b [u0, u1, u2]) (k : Blk w d [v0, v1, v2]) (hb : Below w.heap.size w W) : W.cell? ⟨b, 0, none⟩ = some u0 ∧ W.cell? ⟨b, 1, none⟩ = some u1 ∧ W.cell? ⟨b, 2, none⟩ = some u2 ∧ W.cell? ⟨d, 0, none⟩ = some v0 ∧ W.cell? ⟨d, 1, none⟩ = some v1 ∧ W.cell? ⟨d, 2, none⟩ = some v2 := ⟨(h.below hb).at 0 rfl, (h.below hb).at 1 rfl, (h.below hb).at 2 rfl, (k.below hb).at 0 rfl, (k.below hb).at 1 rfl, (k.below hb).at 2 rfl⟩

theorem gv_src {w : World} {a : Option Addr} {N : Nat} {T : Nat → GM} (h : GV w a N T) (i : Nat) (hi : i < N) : Src w (T i).a (T i).n (T i).f := by
  rcases h with h0 | ⟨b, q, e, hs⟩
  · omega
  · exact hs.flds i hi

set_option linter.unusedSimpArgs false in
set_option maxRecDepth 100000 in
set_option maxHeartbeats 6400000 in
theorem implIA_any (h ac bu : Int) (a : Option Addr) (n c : Nat) (f : Nat → Int) (ra : Option Addr) (ra_ : List Int) (rc : Nat) (co : Int) (L : List Ob) (h' ac' bu' : Int) (a' : Option Addr) (n' c' : Nat) (f' : Nat → Int) (rb : Option Addr) (rb_ : List Int) (rd : Nat) (co' : Int) (L' : List Ob) (r : Bool) (w : World) (hs : Src w a n f) (hcn : n ≤ c) (hcm : c ≤ maxLen) (hrs : Src w ra ra_.length (lf ra_)) (hk : IsAsk h n f ac bu ra_ co L) (hs' : Src w a' n' f') (hcn' : n' ≤ c') (hcm' : c' ≤ maxLen) (hrs' : Src w rb rb_.length (lf rb_)) (hk' : IsAsk h' n' f' ac' bu' rb_ co' L') (hr : IsIA co co' f L ra_ f' L' rb_ r) :
    Calls Try.prog 21 #[.agg #[.int .i64 h, .slice a n c, .int .i64 ac, .int .i64 bu], .slice ra ra_.length rc, .agg #[.int .i64 h', .slice a' n' c', .int .i64 ac', .int .i64 bu'], .slice rb rb_.length rd] w (RetBool w r) := by
  have HS := Lib.hid hs; have HCM := Lib.hid hcm; have HRS := Lib.hid hrs; have HK := Lib.hid hk; have HR := Lib.hid hr
  have HS' := Lib.hid hs'; have HCM' := Lib.hid hcm'; have HRS' := Lib.hid hrs'; have HK' := Lib.hid hk'
  have HB0 := Lib.hid (((Below.refl w.heap.size w).alloc (Nat.le_refl _) (.cells #[.int .i64 h, .slice a n c, .int .i64 ac, .int .i64 bu] 26)).alloc (by simp) (.cells #[.int .i64 h', .slice a' n' c', .int .i64 ac', .int .i64 bu'] 26))
  have A_0 := Lib.hid ((Blk.new_at (w := w) (cs := #[.int .i64 h, .slice a n c, .int .i64 ac, .int .i64 bu]) (t := 26) w.heap.size rfl).alloc (.cells #[.int .i64 h', .slice a' n' c', .int .i64 ac', .int .i64 bu'] 26))
  have B_0 := Lib.hid (Blk.new_at (w := w.alloc (.cells #[.int .i64 h, .slice a n c, .int .i64 ac, .int .i64 bu] 26)) (cs := #[.int .i64 h', .slice a' n' c', .int .i64 ac', .int .i64 bu']) (t := 26) (w.heap.size + 1) (by simp))
  have z0 : w.heap.size + 2 = ((w.alloc (.cells #[.int .i64 h, .slice a n c, .int .i64 ac, .int .i64 bu] 26)).alloc (.cells #[.int .i64 h', .slice a' n' c', .int .i64 ac', .int .i64 bu'] 26)).heap.size := by simp
  clear hs hcm hrs hk hr hs' hcm' hrs' hk'
  obtain ⟨z, hz⟩ : ∃ z : Prop, z = (co = 0 ∧ co' = 0) := ⟨_, rfl⟩
  have HZ : Hid (z → co = 0 ∧ co' = 0) := Lib.hid (fun h => by rw [hz] at h; exact h)
  have HZZ : Hid (co = 0 ∧ co' = 0 → z) := Lib.hid (fun h => by rw [hz]; exact h)
  clear hz
  go_enter Try.func21, Try.ntmps21
  go_wp2_with fail
  generalize (w.alloc (.cells #[.int .i64 h, .slice a n c, .int .i64 ac, .int .i64 bu] 26)).alloc (.cells #[.int .i64 h', .slice a' n' c', .int .i64 ac', .int .i64 bu'] 26) = w0 at *
  go_cut [9, 10] (fun sX sY wx => Hid (IARel w z f L ra_ co f' L' rb_ co' sX sY wx))
  case first =>
    go_region_held3 (fun w' => w'.cell? ⟨w.heap.size, 0, none⟩ = some (.int .i64 h) ∧ w'.cell? ⟨w.heap.size, 1, none⟩ = some (.slice a n c) ∧ w'.cell? ⟨w.heap.size, 2, none⟩ = some (.int .i64 ac) ∧ w'.cell? ⟨w.heap.size, 3, none⟩ = some (.int .i64 bu) ∧ w'.cell? ⟨w.heap.size + 1, 0, none⟩ = some (.int .i64 h') ∧ w'.cell? ⟨w.heap.size + 1, 1, none⟩ = some (.slice a' n' c') ∧ w'.cell? ⟨w.heap.size + 1, 2, none⟩ = some (.int .i64 ac') ∧ w'.cell? ⟨w.heap.size + 1, 3, none⟩ = some (.int .i64 bu'))
      (first | (with_reducible exact eightB A_0.out B_0.out (Below.refl w0.heap.size w0).drew) | (with_reducible exact eightB A_0.out B_0.out ((Below.refl w0.heap.size w0).alloc (by (try simp); (try omega)) _).drew) | (with_reducible exact eightB A_0.out B_0.out (((Below.refl w0.heap.size w0).alloc (by (try simp); (try omega)) _).alloc (by (try simp); (try omega)) _).drew) | (with_reducible exact eightB A_0.out B_0.out HW1.out) | (with_reducible exact eightB A_0.out B_0.out (HW1.out.alloc (by (try simp); (try omega)) _)) | (with_reducible exact eightB A_0.out B_0.out ((HW1.out.alloc (by (try simp); (try omega)) _).alloc (by (try simp); (try omega)) _)) | (with_reducible exact eightB A_0.out B_0.out HW2.out) | (with_reducible exact eightB A_0.out B_0.out (HW2.out.alloc (by (try simp); (try omega)) _)) | (with_reducible exact eightB A_0.out B_0.out ((HW2.out.alloc (by (try simp); (try omega)) _).alloc (by (try simp); (try omega)) _)) | (with_reducible exact eightB A_0.out B_0.out (((HW2.out.setCell (by (try simp); (try omega)) _).setCell (by (try simp); (try omega)) _).setCell (by (try simp); (try omega)) _)) | (with_reducible exact eightB A_0.out B_0.out ((((HW2.out.setCell (by (try simp); (try omega)) _).setCell (by (try simp); (try omega)) _).setCell (by (try simp); (try omega)) _).alloc (by (try simp); (try omega)) _)) | (with_reducible exact eightB A_0.out B_0.out ((((HW2.out.alloc (by (try simp); (try omega)) _).setCell (by (try simp); (try omega)) _).setCell (by (try simp); (try omega)) _).setCell (by (try simp); (try omega)) _)) | (with_reducible exact eightB A_0.out B_0.out ((((((HW2.out.setCell (by (try simp); (try omega)) _).setCell (by (try simp); (try omega)) _).setCell (by (try simp); (try omega)) _).setCell (by (try simp); (try omega)) _).setCell (by (try simp); (try omega)) _).setCell (by (try simp); (try omega)) _)))
      (first | (go_at_call 65; (first | ((with_reducible refine (inU_any h ac bu a n c f ra ra_ rc co L _ (HS.out.below (HB0.out.trans (bel_mono z0 (by first | exact Below.refl _ _ | exact (Below.refl _ _).drew | exact ((Below.refl _ _).alloc (Nat.le_refl _) _).drew | exact (((Below.refl _ _).alloc (Nat.le_refl _) _).alloc (by simp) _).drew | exact (Below.refl _ _).alloc (Nat.le_refl _) _ | exact ((Below.refl _ _).alloc (Nat.le_refl _) _).alloc (by simp) _)))) hcn HCM.out (HRS.out.below (HB0.out.trans (bel_mono z0 (by first | exact Below.refl _ _ | exact (Below.refl _ _).drew | exact ((Below.refl _ _).alloc (Nat.le_refl _) _).drew | exact (((Below.refl _ _).alloc (Nat.le_refl _) _).alloc (by simp) _).drew | exact (Below.refl _ _).alloc (Nat.le_refl _) _ | exact ((Below.refl _ _).alloc (Nat.le_refl _) _).alloc (by simp) _)))) HK.out).mono ?_); rintro e w1 ⟨hb, a1, N1, c1, mv1, rfl, hz1⟩; have hbd : Below w0.heap.size w0 w1 := (bel_tr (by first | exact Below.refl _ _ | exact (Below.refl _ _).drew | exact ((Below.refl _ _).alloc (Nat.le_refl _) _).drew | exact (((Below.refl _ _).alloc (Nat.le_refl _) _).alloc (by simp) _).drew | exact (Below.refl _ _).alloc (Nat.le_refl _) _ | exact ((Below.refl _ _).alloc (Nat.le_refl _) _).alloc (by simp) _) hb); have HB1 := Lib.hid (HB0.out.trans (hbd.mono HB0.out.size)); have HZ1 : Hid (InU2 w1 z f L ra_ a1 N1 mv1) := Lib.hid (fun h => hz1 (HZ.out h).1); have hs1 := hb.size; (try simp at hs1); (try have P_1 : Hid (Blk w1 w0.heap.size [.int .i64 0, .slice none 0 0, .map none]) := Lib.hid (((Blk.new_at (w := w0) (cs := #[.int .i64 0, .slice none 0 0, .map none]) (t := 93) w0.heap.size rfl).drew).below hb)); (try have DP_1 : Hid (Dead w1 w0.heap.size) := Lib.hid (((dead_new (w := w0) (t := 93) w0.heap.size rfl).below (Below.refl _ _).drew).below hb)); (try have P_1 : Hid (Blk w1 w0.heap.size [.int .i64 0, .slice none 0 0, .map none]) := Lib.hid ((((Blk.new_at (w := w0) (cs := #[.int .i64 0, .slice none 0 0, .map none]) (t := 93) w0.heap.size rfl).alloc (.cells #[.int .i64 0, .slice none 0 0, .map none] 93)).drew).below hb)); (try have DP_1 : Hid (Dead w1 w0.heap.size) := Lib.hid (((dead_new (w := w0) (t := 93) w0.heap.size rfl).below (((Below.refl _ _).alloc (Nat.le_refl _) (.cells #[.int .i64 0, .slice none 0 0, .map none] 93)).drew)).below hb)); (try have Q_1 : Hid (Blk w1 (w0.heap.size + 1) [.int .i64 0, .slice none 0 0, .map none]) := Lib.hid (((Blk.new_at (w := w0.alloc (.cells #[.int .i64 0, .slice none 0 0, .map none] 93)) (cs := #[.int .i64 0, .slice none 0 0, .map none]) (t := 93) (w0.heap.size + 1) (by simp)).drew).below hb)); (try have DQ_1 : Hid (Dead w1 (w0.heap.size + 1)) := Lib.hid (((dead_new (w := w0.alloc (.cells #[.int .i64 0, .slice none 0 0, .map none] 93)) (t := 93) (w0.heap.size + 1) (by simp)).below (Below.refl _ _).drew).below hb)); have HW1 := Lib.hid hbd; clear hb hz1 hbd) | ((with_reducible refine (inU_any h' ac' bu' a' n' c' f' rb rb_ rd co' L' _ (HS'.out.below (HB1.out.trans (bel_mono2 HB1.out (by first | exact Below.refl _ _ | exact (Below.refl _ _).drew | exact ((Below.refl _ _).alloc (Nat.le_refl _) _).drew | exact (((Below.refl _ _).alloc (Nat.le_refl _) _).alloc (by simp) _).drew | exact (Below.refl _ _).alloc (Nat.le_refl _) _ | exact ((Below.refl _ _).alloc (Nat.le_refl _) _).alloc (by simp) _)))) hcn' HCM'.out (HRS'.out.below (HB1.out.trans (bel_mono2 HB1.out (by first | exact Below.refl _ _ | exact (Below.refl _ _).drew | exact ((Below.refl _ _).alloc (Nat.le_refl _) _).drew | exact (((Below.refl _ _).alloc (Nat.le_refl _) _).alloc (by simp) _).drew | exact (Below.refl _ _).alloc (Nat.le_refl _) _ | exact ((Below.refl _ _).alloc (Nat.le_refl _) _).alloc (by simp) _)))) HK'.out).mono ?_); rintro e w2 ⟨hb, a2, N2, c2, mv2, rfl, hz2⟩; have hbd : Below w1.heap.size w1 w2 := (bel_tr (by first | exact Below.refl _ _ | exact (Below.refl _ _).drew | exact ((Below.refl _ _).alloc (Nat.le_refl _) _).drew | exact (((Below.refl _ _).alloc (Nat.le_refl _) _).alloc (by simp) _).drew | exact (Below.refl _ _).alloc (Nat.le_refl _) _ | exact ((Below.refl _ _).alloc (Nat.le_refl _) _).alloc (by simp) _) hb); have HB2 := Lib.hid (HB1.out.trans (hbd.mono HB1.out.size)); have HX2 := Lib.hid (HZ1.out.below hbd); have HY2 : Hid (InU2 w2 z f' L' rb_ a2 N2 mv2) := Lib.hid (fun h => hz2 (HZ.out h).2); have hs2 := hb.size; (try simp at hs2); (try have P_2 := Lib.hid (P_1.out.below hbd)); (try have DP_2 := Lib.hid (DP_1.out.below hbd)); (try have Q_2 := Lib.hid (Q_1.out.below hbd)); (try have DQ_2 := Lib.hid (DQ_1.out.below hbd)); (try have R_2 : Hid (Blk w2 w1.heap.size [.int .i64 0, .slice none 0 0, .map none]) := Lib.hid ((Blk.new_at (w := w1) (cs := #[.int .i64 0, .slice none 0 0, .map none]) (t := 93) w1.heap.size rfl).below hb)); (try have DR_2 : Hid (Dead w2 w1.heap.size) := Lib.hid ((dead_new (w := w1) (t := 93) w1.heap.size rfl).below hb)); (try have R_2 : Hid (Blk w2 w1.heap.size [.int .i64 0, .slice none 0 0, .map none]) := Lib.hid (((Blk.new_at (w := w1) (cs := #[.int .i64 0, .slice none 0 0, .map none]) (t := 93) w1.heap.size rfl).alloc (.cells #[.int .i64 0, .slice none 0 0, .map none] 93)).below hb)); (try have DR_2 : Hid (Dead w2 w1.heap.size) := Lib.hid (((dead_new (w := w1) (t := 93) w1.heap.size rfl).below ((Below.refl _ _).alloc (Nat.le_refl _) (.cells #[.int .i64 0, .slice none 0 0, .map none] 93))).below hb)); (try have S_2 : Hid (Blk w2 (w1.heap.size + 1) [.int .i64 0, .slice none 0 0, .map none]) := Lib.hid ((Blk.new_at (w := w1.alloc (.cells #[.int .i64 0, .slice none 0 0, .map none] 93)) (cs := #[.int .i64 0, .slice none 0 0, .map none]) (t := 93) (w1.heap.size + 1) (by simp)).below hb)); (try have DS_2 : Hid (Dead w2 (w1.heap.size + 1)) := Lib.hid ((dead_new (w := w1.alloc (.cells #[.int .i64 0, .slice none 0 0, .map none] 93)) (t := 93) (w1.heap.size + 1) (by simp)).below hb)); have HW2 := Lib.hid (HW1.out.trans (hbd.mono HW1.out.size)); clear hb hz2 hbd; (try (have lP := P_2.out.1; have cP0 := P_2.out.at 0 rfl; have fP0 := P_2.out.free 0 rfl; have cP1 := P_2.out.at 1 rfl; have fP1 := P_2.out.free 1 rfl; have cP2 := P_2.out.at 2 rfl; have fP2 := P_2.out.free 2 rfl)); (try (have lQ := Q_2.out.1; have cQ0 := Q_2.out.at 0 rfl; have fQ0 := Q_2.out.free 0 rfl; have cQ1 := Q_2.out.at 1 rfl; have fQ1 := Q_2.out.free 1 rfl; have cQ2 := Q_2.out.at 2 rfl; have fQ2 := Q_2.out.free 2 rfl)); (try (have lR := R_2.out.1; have cR0 := R_2.out.at 0 rfl; have fR0 := R_2.out.free 0 rfl; have cR1 := R_2.out.at 1 rfl; have fR1 := R_2.out.free 1 rfl; have cR2 := R_2.out.at 2 rfl; have fR2 := R_2.out.free 2 rfl)); (try (have lS := S_2.out.1; have cS0 := S_2.out.at 0 rfl; have fS0 := S_2.out.free 0 rfl; have cS1 := S_2.out.at 1 rfl; have fS1 := S_2.out.free 1 rfl; have cS2 := S_2.out.at 2 rfl; have fS2 := S_2.out.free 2 rfl))))))
    all_goals (go_wp2_with fail)
    all_goals go_meet
    all_goals first | with_reducible exact Lib.hid (rel_a HB2.out HX2.out HY2.out) | with_reducible exact Lib.hid (rel_b HB2.out HX2.out HY2.out) | with_reducible exact Lib.hid (rel_c HB2.out HX2.out HY2.out P_2.out DP_2.out (by omega) HZ.out) | with_reducible exact Lib.hid (rel_d HB2.out HX2.out HY2.out P_2.out DP_2.out (by omega) HZ.out) | with_reducible exact Lib.hid (rel_c HB2.out HX2.out HY2.out Q_2.out DQ_2.out (by omega) HZ.out) | with_reducible exact Lib.hid (rel_d HB2.out HX2.out HY2.out Q_2.out DQ_2.out (by omega) HZ.out) | with_reducible exact Lib.hid (rel_c HB2.out HX2.out HY2.out R_2.out DR_2.out (by omega) HZ.out) | with_reducible exact Lib.hid (rel_d HB2.out HX2.out HY2.out R_2.out DR_2.out (by omega) HZ.out) | with_reducible exact Lib.hid (rel_c HB2.out HX2.out HY2.out S_2.out DS_2.out (by omega) HZ.out) | with_reducible exact Lib.hid (rel_d HB2.out HX2.out HY2.out S_2.out DS_2.out (by omega) HZ.out) | with_reducible exact Lib.hid (rel_e HB2.out HX2.out HY2.out P_2.out DP_2.out Q_2.out DQ_2.out (by omega) (by omega) (by omega) HZ.out) | with_reducible exact Lib.hid (rel_e HB2.out HX2.out HY2.out P_2.out DP_2.out R_2.out DR_2.out (by omega) (by omega) (by omega) HZ.out) | with_reducible exact Lib.hid (rel_e HB2.out HX2.out HY2.out P_2.out DP_2.out S_2.out DS_2.out (by omega) (by omega) (by omega) HZ.out) | with_reducible exact Lib.hid (rel_e HB2.out HX2.out HY2.out Q_2.out DQ_2.out P_2.out DP_2.out (by omega) (by omega) (by omega) HZ.out) | with_reducible exact Lib.hid (rel_e HB2.out HX2.out HY2.out Q_2.out DQ_2.out R_2.out DR_2.out (by omega) (by omega) (by omega) HZ.out) | with_reducible exact Lib.hid (rel_e HB2.out HX2.out HY2.out Q_2.out DQ_2.out S_2.out DS_2.out (by omega) (by omega) (by omega) HZ.out) | with_reducible exact Lib.hid (rel_e HB2.out HX2.out HY2.out R_2.out DR_2.out P_2.out DP_2.out (by omega) (by omega) (by omega) HZ.out) | with_reducible exact Lib.hid (rel_e HB2.out HX2.out HY2.out R_2.out DR_2.out Q_2.out DQ_2.out (by omega) (by omega) (by omega) HZ.out) | with_reducible exact Lib.hid (rel_e HB2.out HX2.out HY2.out R_2.out DR_2.out S_2.out DS_2.out (by omega) (by omega) (by omega) HZ.out) | with_reducible exact Lib.hid (rel_e HB2.out HX2.out HY2.out S_2.out DS_2.out P_2.out DP_2.out (by omega) (by omega) (by omega) HZ.out) | with_reducible exact Lib.hid (rel_e HB2.out HX2.out HY2.out S_2.out DS_2.out Q_2.out DQ_2.out (by omega) (by omega) (by omega) HZ.out) | with_reducible exact Lib.hid (rel_e HB2.out HX2.out HY2.out S_2.out DS_2.out R_2.out DR_2.out (by omega) (by omega) (by omega) HZ.out)
  case rest =>
    obtain ⟨bx, by_, a1, N1, c1, mv1, a2, N2, c2, mv2, rfl, rfl, hB3, hX3, hY3, hU3, hV3⟩ := hcut.out
    have HB3 := Lib.hid hB3; have X_2 := Lib.hid hX3; have Y_2 := Lib.hid hY3; have HZ1 := Lib.hid hU3; have HZ2 := Lib.hid hV3
    clear hB3 hX3 hY3 hU3 hV3 hcut A_0 B_0 HB0
    rename World => w3
    have lX := X_2.out.1; have cX0 := X_2.out.at 0 rfl
    have lY := Y_2.out.1; have cY0 := Y_2.out.at 0 rfl
    by_cases h0 : co = 0
    · by_cases h1 : co' = 0
      · have hzz : z := HZZ.out ⟨h0, h1⟩
        subst h0; subst h1
        obtain ⟨rfl, mb, T, rfl, hG, hM, hT⟩ := HZ1.out hzz
        obtain ⟨rfl, mb', T', rfl, hG', hM', hT'⟩ := HZ2.out hzz
        clear hzz
        have h60 : ra_.length ≤ 60 := (isAsk_zero HK.out).2.2.1
        have h60' : rb_.length ≤ 60 := (isAsk_zero HK'.out).2.2.1
        have hl1 : (reachO f L ra_).length ≤ 400 := by have := (reach_small HK.out).1; rwa [outR_zero] at this
        have hl2 : (reachO f' L' rb_).length ≤ 400 := by have := (reach_small HK'.out).1; rwa [outR_zero] at this
        have HVB := Lib.hid (idV_bound hl1); have HVB' := Lib.hid (idV_bound hl2)
        have HPL : Hid (∀ p ∈ ra_, 0 ≤ p ∧ p ≤ 1000000) := Lib.hid (fun p hp => place_bound (isAsk_zero HK.out).1 (isAsk_zero HK.out).2.1 ((isAsk_zero HK.out).2.2.2 p hp))
        have HPL' : Hid (∀ p ∈ rb_, 0 ≤ p ∧ p ≤ 1000000) := Lib.hid (fun p hp => place_bound (isAsk_zero HK'.out).1 (isAsk_zero HK'.out).2.1 ((isAsk_zero HK'.out).2.2.2 p hp))
        have HT := Lib.hid hT; have HT' := Lib.hid hT'
        have HRI := Lib.hid (@roots_iff f L ra_ f' L' rb_)
        have HAL : Hid (r = true ↔ _) := Lib.hid (HR.out.trans ⟨fun h => alike_obj.1 h.2.2, fun h => ⟨rfl, rfl, alike_obj.2 h⟩⟩)
        have HSI := Lib.hid (fun (U U' : Nat → GM) hU hU' => so_iff (T := T) (U := U) (T' := T') (U' := U') HK.out HK'.out HT.out hU HT'.out hU')
        have HMVB : Hid (∀ (w : World) (i : Nat), i < (reachO f L ra_).length → Src w (T i).a (T i).n (T i).f → Movable w (reachO f L ra_) idV (T i)) := Lib.hid (fun w i hi hw => by
          obtain ⟨x, e1, e2⟩ := HT.out i hi
          exact movable_of (isAsk_zero HK.out).1 (isAsk_zero HK.out).2.1 (isAsk_zero HK.out).2.2.2 (lf_mem hi) e1 e2 hw)
        have HMVB' : Hid (∀ (w : World) (i : Nat), i < (reachO f' L' rb_).length → Src w (T' i).a (T' i).n (T' i).f → Movable w (reachO f' L' rb_) idV (T' i)) := Lib.hid (fun w i hi hw => by
          obtain ⟨x, e1, e2⟩ := HT'.out i hi
          exact movable_of (isAsk_zero HK'.out).1 (isAsk_zero HK'.out).2.1 (isAsk_zero HK'.out).2.2.2 (lf_mem hi) e1 e2 hw)
        have HTN : Hid (∀ i, i < (reachO f L ra_).length → (T i).n ≤ 1048576) := Lib.hid (fun i hi => by
          obtain ⟨x, e1, e2⟩ := HT.out i hi
          have h9 : (T i).n = x.s.toNat := e2.2.2.2.2.2.1
          have := ((right_of (isAsk_zero HK.out).1 (isAsk_zero HK.out).2.1).ok x (List.mem_of_find?_eq_some e1)).1.1
          omega)
        have HTN' : Hid (∀ i, i < (reachO f' L' rb_).length → (T' i).n ≤ 1048576) := Lib.hid (fun i hi => by
          obtain ⟨x, e1, e2⟩ := HT'.out i hi
          have h9 : (T' i).n = x.s.toNat := e2.2.2.2.2.2.1
          have := ((right_of (isAsk_zero HK'.out).1 (isAsk_zero HK'.out).2.1).ok x (List.mem_of_find?_eq_some e1)).1.1
          omega)
        have HG := Lib.hid hG; have HM := Lib.hid hM; have HG' := Lib.hid hG'; have HM' := Lib.hid hM'
        clear hG hM hT hG' hM' hT' HZ1 HZ2 HR HT HT' HK HK' HZ HZZ
        obtain ⟨R, hR⟩ : ∃ R, reachO f L ra_ = R := ⟨_, rfl⟩
        obtain ⟨R', hR'⟩ : ∃ R, reachO f' L' rb_ = R := ⟨_, rfl⟩
        rw [hR] at HG HM hl1 HVB HRI HSI HAL HMVB HTN X_2
        rw [hR'] at HG' HM' hl2 HVB' HRI HSI HAL HMVB' HTN' Y_2
        clear hR hR'
        have HRS3 := Lib.hid (HRS.out.below HB3.out); have HRS3' := Lib.hid (HRS'.out.below HB3.out)
        have HWd : Hid (Below w3.heap.size w3 w3.drew) := Lib.hid ((Below.refl _ _).drew)
        by_cases hq : ra_.length = rb_.length ∧ ∀ i, i < ra_.length → numL R (lf ra_ i) = numL R' (lf rb_ i)
        · have hre := Lib.hid (HRI.out.2 hq)
          have HR2 : Hid (∀ (U U' : Nat → GM), (∀ i, i < R.length → GSame (U i) (mvT R idV (T i))) → (∀ i, i < R'.length → GSame (U' i) (mvT R' idV (T' i))) → (r = true ↔ R.length = R'.length ∧ ∀ i, i < R.length → GSame (U i) (U' i))) := Lib.hid (fun U U' hU hU' => by
            rw [HSI.out U U' hU hU']
            exact HAL.out.trans ⟨fun h => ⟨h.2.1, h.2.2.1⟩, fun h => ⟨hq.1, h.1, h.2, hq.2⟩⟩)
          have HQ := Lib.hid hq
          clear hq HSI HAL HRI
          go_upto_region 4 with (fail)
          clear lX cX0 lY cY0
          go_region_held3 (fun w' => w'.cell? ⟨bx, 0, none⟩ = some (.int .i64 0) ∧ w'.cell? ⟨bx, 1, none⟩ = some (.slice a1 R.length c1) ∧ w'.cell? ⟨bx, 2, none⟩ = some (.map (some mb)) ∧ w'.cell? ⟨by_, 0, none⟩ = some (.int .i64 0) ∧ w'.cell? ⟨by_, 1, none⟩ = some (.slice a2 R'.length c2) ∧ w'.cell? ⟨by_, 2, none⟩ = some (.map (some mb')))
            (first | (with_reducible exact six_bel X_2.out Y_2.out HWd.out) | (with_reducible exact six_bel X_2.out Y_2.out HW4.out) | (with_reducible exact six_bel X_2.out Y_2.out HW5.out) | (with_reducible exact six_bel X_2.out Y_2.out HW6.out) | (with_reducible exact six_bel X_2.out Y_2.out HW7.out) | (with_reducible exact six_bel X_2.out Y_2.out HW8.out) | (with_reducible exact six_bel X_2.out Y_2.out HW9.out))
            (first | (go_at_call 73; (first | ((with_reducible refine (movedRoots_any ra ra_ rc mb R.length R idV _ (HRS3.out.below HWd.out) (by omega) (HM.out.below HWd.out) HPL.out).mono ?_); rintro e w4 ⟨q4, d4, rfl, ho, hb, _, _, _⟩; have HW4 := Lib.hid (HWd.out.trans (hb.mono HWd.out.size)); have HQ4 := Lib.hid ho.src; clear hb ho) | ((with_reducible refine (movedRoots_any rb rb_ rd mb' R'.length R' idV _ (HRS3'.out.below HW4.out) (by omega) (HM'.out.below HW4.out) HPL'.out).mono ?_); rintro e w5 ⟨q5, d5, rfl, ho, hb, _, _, _⟩; have HW5 := Lib.hid (HW4.out.trans (hb.mono HW4.out.size)); have HQ5 := Lib.hid ho.src; have HQ45 := Lib.hid (HQ4.out.below hb); clear hb ho))) | (go_at_call 77; (refine (slEqual_is true q4 q5 ra_.length rb_.length d4 d5 _ _ _ hre.out HQ45.out HQ5.out (by omega) (by omega)).mono ?_; rintro e w6 ⟨rfl, hb⟩; have HW6 := Lib.hid (HW5.out.trans (hb.mono HW5.out.size)); clear hb)) | (go_at_call 69; (first | ((with_reducible refine (movedAll_any a1 R.length c1 mb R.length T R idV _ (HG.out.below HW6.out) hl1 (HM.out.below HW6.out) (fun i hi => HMVB.out _ i hi (gv_src (HG.out.below HW6.out) i hi)) HVB.out).mono ?_); rintro e w7 ⟨a7, c7, U, rfl, hgv, hsm, hb⟩; have HW7 := Lib.hid (HW6.out.trans (hb.mono HW6.out.size)); have HU7 := Lib.hid hgv.gv; have HS7 := Lib.hid hsm; clear hb hgv hsm) | ((with_reducible refine (movedAll_any a2 R'.length c2 mb' R'.length T' R' idV _ (HG'.out.below HW7.out) hl2 (HM'.out.below HW7.out) (fun i hi => HMVB'.out _ i hi (gv_src (HG'.out.below HW7.out) i hi)) HVB'.out).mono ?_); rintro e w8 ⟨a8, c8, U', rfl, hgv, hsm, hb⟩; have HW8 := Lib.hid (HW7.out.trans (hb.mono HW7.out.size)); have HU8 := Lib.hid hgv.gv; have HS8 := Lib.hid hsm; have HU78 := Lib.hid (HU7.out.below hb); clear hb hgv hsm))) | (go_at_call 78; (refine (implSO a7 a8 R.length R'.length c7 c8 U U' r _ HU78.out HU8.out (HR2.out U U' HS7.out HS8.out) (by omega) (by omega) (fun i hi => by rw [(HS7.out i hi).2.2.2.2.2.1]; exact HTN.out i hi) (fun i hi => by rw [(HS8.out i hi).2.2.2.2.2.1]; exact HTN'.out i hi)).mono ?_; rintro e w9 ⟨rfl, hb⟩; have HW9 := Lib.hid (HW8.out.trans (hb.mono HW8.out.size)); clear hb)))
          go_wp2
          go_ret
          exact ⟨rfl, HB3.out.trans (HW9.out.mono HB3.out.size)⟩
        · have hrf : r = false := by
            cases r with
            | false => rfl
            | true => exact absurd ⟨(HAL.out.1 rfl).1, (HAL.out.1 rfl).2.2.2⟩ hq
          subst hrf
          have hre : Hid (eqB ra_.length rb_.length (lf (ra_.map fun p => (tab R idV p).getD 0)) (lf (rb_.map fun p => (tab R' idV p).getD 0)) = false) := Lib.hid (by
            cases he : eqB ra_.length rb_.length (lf (ra_.map fun p => (tab R idV p).getD 0)) (lf (rb_.map fun p => (tab R' idV p).getD 0)) with
            | false => rfl
            | true => exact absurd (HRI.out.1 he) hq)
          clear hq HSI HAL HRI
          go_upto_region 4 with (fail)
          clear lX cX0 lY cY0
          refine wp_region_held_drew (S := (fun w' => w'.cell? ⟨bx, 0, none⟩ = some (.int .i64 0) ∧ w'.cell? ⟨bx, 1, none⟩ = some (.slice a1 R.length c1) ∧ w'.cell? ⟨bx, 2, none⟩ = some (.map (some mb)) ∧ w'.cell? ⟨by_, 0, none⟩ = some (.int .i64 0) ∧ w'.cell? ⟨by_, 1, none⟩ = some (.slice a2 R'.length c2) ∧ w'.cell? ⟨by_, 2, none⟩ = some (.map (some mb')))) (by kernel_rfl) (six_bel X_2.out Y_2.out HWd.out) (fun hHeld => ?_)
          refine wpAnyH_take (i := 0) (oi := { dst := some 25, op := Op.move (Operand.tmp 1), type := 24, pos := "l04_copy.go:182", after := #[], guard := none }) (v := ?_) rfl (by kernel_rfl) (by kernel_rfl) (by kernel_rfl) (fun _ _ _ h => h) (Or.inl ⟨by rfl, ?_⟩) (by assumption) ?_
          rotate_left
          · intro w hSw; (try dsimp only at hSw); go_simp; (try with_reducible rfl)
          try simp only [Act.put, List.setIfInBounds_toArray, List.set_cons_zero, List.set_cons_succ]
          refine wpAnyH_take (i := 1) (oi := { dst := some 26, op := Op.fieldAddr 93 (Operand.tmp 9) 2, type := 0, pos := "l04_copy.go:182", after := #[], guard := none }) (v := ?_) rfl (by kernel_rfl) (by kernel_rfl) (by kernel_rfl) (fun _ _ _ h => h) (Or.inl ⟨by rfl, ?_⟩) (by assumption) ?_
          rotate_left
          · intro w hSw; (try dsimp only at hSw); go_simp; (try with_reducible rfl)
          try simp only [Act.put, List.setIfInBounds_toArray, List.set_cons_zero, List.set_cons_succ]
          refine wpAnyH_take (i := 2) (oi := { dst := some 27, op := Op.load 91 (Operand.tmp 26), type := 91, pos := "l04_copy.go:182", after := #[{ on := 1, ground := Ground.data }], guard := none }) (v := ?_) rfl (by kernel_rfl) (by kernel_rfl) (by kernel_rfl) (fun _ _ _ h => h) (Or.inl ⟨by rfl, ?_⟩) (by assumption) ?_
          rotate_left
          · intro w hSw; (try dsimp only at hSw); go_simp; (try with_reducible rfl)
          try simp only [Act.put, List.setIfInBounds_toArray, List.set_cons_zero, List.set_cons_succ]
          refine wpAnyH_take (i := 4) (oi := { dst := some 29, op := Op.move (Operand.tmp 3), type := 24, pos := "l04_copy.go:182", after := #[], guard := none }) (v := ?_) rfl (by kernel_rfl) (by kernel_rfl) (by kernel_rfl) (fun _ _ _ h => h) (Or.inl ⟨by rfl, ?_⟩) (by assumption) ?_
          rotate_left
          · intro w hSw; (try dsimp only at hSw); go_simp; (try with_reducible rfl)
          try simp only [Act.put, List.setIfInBounds_toArray, List.set_cons_zero, List.set_cons_succ]
          refine wpAnyH_take (i := 5) (oi := { dst := some 30, op := Op.fieldAddr 93 (Operand.tmp 10) 2, type := 0, pos := "l04_copy.go:182", after := #[], guard := none }) (v := ?_) rfl (by kernel_rfl) (by kernel_rfl) (by kernel_rfl) (fun _ _ _ h => h) (Or.inl ⟨by rfl, ?_⟩) (by assumption) ?_
          rotate_left
          · intro w hSw; (try dsimp only at hSw); go_simp; (try with_reducible rfl)
          try simp only [Act.put, List.setIfInBounds_toArray, List.set_cons_zero, List.set_cons_succ]
          refine wpAnyH_take (i := 6) (oi := { dst := some 31, op := Op.load 91 (Operand.tmp 30), type := 91, pos := "l04_copy.go:182", after := #[{ on := 5, ground := Ground.data }], guard := none }) (v := ?_) rfl (by kernel_rfl) (by kernel_rfl) (by kernel_rfl) (fun _ _ _ h => h) (Or.inl ⟨by rfl, ?_⟩) (by assumption) ?_
          rotate_left
          · intro w hSw; (try dsimp only at hSw); go_simp; (try with_reducible rfl)
          try simp only [Act.put, List.setIfInBounds_toArray, List.set_cons_zero, List.set_cons_succ]
          refine wpAnyH_ready (rs := [3]) (by kernel_rfl) (by simp) ?_
          refine AllReadyH.cons (o := _) rfl (fun K hK => ?_) AllReadyH.nil
          go_simp
          (go_at_call 73; (with_reducible refine (movedRoots_any ra ra_ rc mb R.length R idV _ (HRS3.out.below HWd.out) (by omega) (HM.out.below HWd.out) HPL.out).mono ?_); rintro e w4 ⟨q4, d4, rfl, ho, hb, _, _, _⟩; have HW4 := Lib.hid (HWd.out.trans (hb.mono HWd.out.size)); have HQ4 := Lib.hid ho.src; clear hb ho)
          first | (refine hK.out _ _ (six_bel X_2.out Y_2.out HW4.out) (fun hHeld => ?_)) | (go_wp2_with fail; refine hK.out _ _ (six_bel X_2.out Y_2.out HW4.out) (fun hHeld => ?_))
          clear hK K
          try simp only [Act.put, List.setIfInBounds_toArray, List.set_cons_zero, List.set_cons_succ]
          refine wpAnyH_ready (rs := [7]) (by kernel_rfl) (by simp) ?_
          refine AllReadyH.cons (o := _) rfl (fun K hK => ?_) AllReadyH.nil
          go_simp
          (go_at_call 73; (with_reducible refine (movedRoots_any rb rb_ rd mb' R'.length R' idV _ (HRS3'.out.below HW4.out) (by omega) (HM'.out.below HW4.out) HPL'.out).mono ?_); rintro e w5 ⟨q5, d5, rfl, ho, hb, _, _, _⟩; have HW5 := Lib.hid (HW4.out.trans (hb.mono HW4.out.size)); have HQ5 := Lib.hid ho.src; have HQ45 := Lib.hid (HQ4.out.below hb); clear hb ho)
          first | (refine hK.out _ _ (six_bel X_2.out Y_2.out HW5.out) (fun hHeld => ?_)) | (go_wp2_with fail; refine hK.out _ _ (six_bel X_2.out Y_2.out HW5.out) (fun hHeld => ?_))
          clear hK K
          try simp only [Act.put, List.setIfInBounds_toArray, List.set_cons_zero, List.set_cons_succ]
          refine wpAnyH_ready (rs := [8]) (by kernel_rfl) (by simp) ?_
          refine AllReadyH.cons (o := _) rfl (fun K hK => ?_) AllReadyH.nil
          go_simp
          (go_at_call 77; (refine (slEqual_is false q4 q5 ra_.length rb_.length d4 d5 _ _ _ hre.out HQ45.out HQ5.out (by omega) (by omega)).mono ?_); rintro e w6 ⟨rfl, hb⟩; have HW6 := Lib.hid (HW5.out.trans (hb.mono HW5.out.size)); clear hb)
          first | (refine hK.out _ _ (six_bel X_2.out Y_2.out HW6.out) (fun hHeld => ?_)) | (go_wp2_with fail; refine hK.out _ _ (six_bel X_2.out Y_2.out HW6.out) (fun hHeld => ?_))
          clear hK K
          try simp only [Act.put, List.setIfInBounds_toArray, List.set_cons_zero, List.set_cons_succ]
          refine wpAnyH_take (i := 9) (oi := { dst := some 34, op := Op.move (Operand.tmp 33), type := 4, pos := "l04_copy.go:182", after := #[{ on := 8, ground := Ground.data }, { on := 8, ground := Ground.chain }], guard := none }) (v := ?_) rfl (by kernel_rfl) (by kernel_rfl) (by kernel_rfl) (fun _ _ _ h => h) (Or.inl ⟨by rfl, ?_⟩) (by assumption) ?_
          rotate_left
          · intro w hSw; (try dsimp only at hSw); go_simp; (try with_reducible rfl)
          try simp only [Act.put, List.setIfInBounds_toArray, List.set_cons_zero, List.set_cons_succ]
          refine wpAnyH_take (i := 10) (oi := { dst := some 35, op := Op.fieldAddr 93 (Operand.tmp 9) 1, type := 0, pos := "l04_copy.go:182", after := #[{ on := 9, ground := Ground.guard }], guard := some (9, true) }) (v := _) rfl (by kernel_rfl) (by kernel_rfl) (by kernel_rfl) (fun _ _ _ h => h) (Or.inr ⟨by rfl, rfl⟩) (by assumption) ?_
          try simp only [Act.put, List.setIfInBounds_toArray, List.set_cons_zero, List.set_cons_succ]
          refine wpAnyH_take (i := 11) (oi := { dst := some 36, op := Op.load 90 (Operand.tmp 35), type := 90, pos := "l04_copy.go:182", after := #[{ on := 10, ground := Ground.data }, { on := 9, ground := Ground.guard }], guard := some (9, true) }) (v := _) rfl (by kernel_rfl) (by kernel_rfl) (by kernel_rfl) (fun _ _ _ h => h) (Or.inr ⟨by rfl, rfl⟩) (by assumption) ?_
          try simp only [Act.put, List.setIfInBounds_toArray, List.set_cons_zero, List.set_cons_succ]
          refine wpAnyH_take (i := 12) (oi := { dst := some 37, op := Op.fieldAddr 93 (Operand.tmp 9) 2, type := 0, pos := "l04_copy.go:182", after := #[{ on := 9, ground := Ground.guard }], guard := some (9, true) }) (v := _) rfl (by kernel_rfl) (by kernel_rfl) (by kernel_rfl) (fun _ _ _ h => h) (Or.inr ⟨by rfl, rfl⟩) (by assumption) ?_
          try simp only [Act.put, List.setIfInBounds_toArray, List.set_cons_zero, List.set_cons_succ]
          refine wpAnyH_take (i := 13) (oi := { dst := some 38, op := Op.load 91 (Operand.tmp 37), type := 91, pos := "l04_copy.go:182", after := #[{ on := 12, ground := Ground.data }, { on := 9, ground := Ground.guard }], guard := some (9, true) }) (v := _) rfl (by kernel_rfl) (by kernel_rfl) (by kernel_rfl) (fun _ _ _ h => h) (Or.inr ⟨by rfl, rfl⟩) (by assumption) ?_
          try simp only [Act.put, List.setIfInBounds_toArray, List.set_cons_zero, List.set_cons_succ]
          refine wpAnyH_take (i := 15) (oi := { dst := some 40, op := Op.fieldAddr 93 (Operand.tmp 10) 1, type := 0, pos := "l04_copy.go:182", after := #[{ on := 9, ground := Ground.guard }], guard := some (9, true) }) (v := _) rfl (by kernel_rfl) (by kernel_rfl) (by kernel_rfl) (fun _ _ _ h => h) (Or.inr ⟨by rfl, rfl⟩) (by assumption) ?_
          try simp only [Act.put, List.setIfInBounds_toArray, List.set_cons_zero, List.set_cons_succ]
          refine wpAnyH_take (i := 16) (oi := { dst := some 41, op := Op.load 90 (Operand.tmp 40), type := 90, pos := "l04_copy.go:182", after := #[{ on := 15, ground := Ground.data }, { on := 9, ground := Ground.guard }], guard := some (9, true) }) (v := _) rfl (by kernel_rfl) (by kernel_rfl) (by kernel_rfl) (fun _ _ _ h => h) (Or.inr ⟨by rfl, rfl⟩) (by assumption) ?_
          try simp only [Act.put, List.setIfInBounds_toArray, List.set_cons_zero, List.set_cons_succ]
          refine wpAnyH_take (i := 17) (oi := { dst := some 42, op := Op.fieldAddr 93 (Operand.tmp 10) 2, type := 0, pos := "l04_copy.go:182", after := #[{ on := 9, ground := Ground.guard }], guard := some (9, true) }) (v := _) rfl (by kernel_rfl) (by kernel_rfl) (by kernel_rfl) (fun _ _ _ h => h) (Or.inr ⟨by rfl, rfl⟩) (by assumption) ?_
          try simp only [Act.put, List.setIfInBounds_toArray, List.set_cons_zero, List.set_cons_succ]
          refine wpAnyH_take (i := 18) (oi := { dst := some 43, op := Op.load 91 (Operand.tmp 42), type := 91, pos := "l04_copy.go:182", after := #[{ on := 17, ground := Ground.data }, { on := 9, ground := Ground.guard }], guard := some (9, true) }) (v := _) rfl (by kernel_rfl) (by kernel_rfl) (by kernel_rfl) (fun _ _ _ h => h) (Or.inr ⟨by rfl, rfl⟩) (by assumption) ?_
          try simp only [Act.put, List.setIfInBounds_toArray, List.set_cons_zero, List.set_cons_succ]
          refine wpAnyH_ready (rs := [14]) (by kernel_rfl) (by simp) ?_
          refine AllReadyH.cons (o := _) rfl (fun K hK => ?_) AllReadyH.nil
          go_simp
          refine hK.out _ _ (six_bel X_2.out Y_2.out HW6.out) (fun hHeld => ?_)
          clear hK K
          try simp only [Act.put, List.setIfInBounds_toArray, List.set_cons_zero, List.set_cons_succ]
          refine wpAnyH_ready (rs := [19]) (by kernel_rfl) (by simp) ?_
          refine AllReadyH.cons (o := _) rfl (fun K hK => ?_) AllReadyH.nil
          go_simp
          refine hK.out _ _ (six_bel X_2.out Y_2.out HW6.out) (fun hHeld => ?_)
          clear hK K
          try simp only [Act.put, List.setIfInBounds_toArray, List.set_cons_zero, List.set_cons_succ]
          refine wpAnyH_ready (rs := [20]) (by kernel_rfl) (by simp) ?_
          refine AllReadyH.cons (o := _) rfl (fun K hK => ?_) AllReadyH.nil
          go_simp
          refine hK.out _ _ (six_bel X_2.out Y_2.out HW6.out) (fun hHeld => ?_)
          clear hK K
          try simp only [Act.put, List.setIfInBounds_toArray, List.set_cons_zero, List.set_cons_succ]
          refine wpAnyH_take (i := 21) (oi := { dst := some 46, op := Op.pick (Operand.tmp 34) (Operand.tmp 45) (Operand.const (Value.bool false)), type := 4, pos := "l04_copy.go:182", after := #[{ on := 9, ground := Ground.data }, { on := 20, ground := Ground.data }], guard := none }) (v := ?_) rfl (by kernel_rfl) (by kernel_rfl) (by kernel_rfl) (fun _ _ _ h => h) (Or.inl ⟨by rfl, ?_⟩) (by assumption) ?_
          rotate_left
          · intro w hSw; (try dsimp only at hSw); go_simp; (try with_reducible rfl)
          try simp only [Act.put, List.setIfInBounds_toArray, List.set_cons_zero, List.set_cons_succ]
          refine wpAnyH_take (i := 22) (oi := { dst := some 8, op := Op.assign (Operand.tmp 46), type := 4, pos := "l04_copy.go:182", after := #[{ on := 21, ground := Ground.data }, { on := 20, ground := Ground.chain }, { on := 0, ground := Ground.phase }, { on := 1, ground := Ground.phase }, { on := 2, ground := Ground.phase }, { on := 3, ground := Ground.phase }, { on := 4, ground := Ground.phase }, { on := 5, ground := Ground.phase }, { on := 6, ground := Ground.phase }, { on := 7, ground := Ground.phase }, { on := 8, ground := Ground.phase }, { on := 9, ground := Ground.phase }, { on := 10, ground := Ground.phase }, { on := 11, ground := Ground.phase }, { on := 12, ground := Ground.phase }, { on := 13, ground := Ground.phase }, { on := 14, ground := Ground.phase }, { on := 15, ground := Ground.phase }, { on := 16, ground := Ground.phase }, { on := 17, ground := Ground.phase }, { on := 18, ground := Ground.phase }, { on := 19, ground := Ground.phase }, { on := 20, ground := Ground.phase }, { on := 21, ground := Ground.phase }], guard := none }) (v := ?_) rfl (by kernel_rfl) (by kernel_rfl) (by kernel_rfl) (fun _ _ _ h => h) (Or.inl ⟨by rfl, ?_⟩) (by assumption) ?_
          rotate_left
          · intro w hSw; (try dsimp only at hSw); go_simp; (try with_reducible rfl)
          try simp only [Act.put, List.setIfInBounds_toArray, List.set_cons_zero, List.set_cons_succ]
          refine wpAnyH_done (by kernel_rfl) ?_ _
          go_wp2
          go_ret
          exact ⟨rfl, HB3.out.trans (HW6.out.mono HB3.out.size)⟩
      · subst h0
        have hd1 : (co' != 0) = true := by simpa using h1
        have hrf : r = false := by
          cases r with
          | false => rfl
          | true => exact absurd (HR.out.1 rfl) (fun h => h1 h.2.1)
        subst hrf
        clear h1
        go_wp2
        go_ret
        exact ⟨rfl, HB3.out⟩
    · have hd0 : (co != 0) = true := by simpa using h0
      have hrf : r = false := by
        cases r with
        | false => rfl
        | true => exact absurd (HR.out.1 rfl) (fun h => h0 h.1)
      subst hrf
      clear h0
      go_wp2
      go_ret
      exact ⟨rfl, HB3.out⟩
end Go.Proofs.Ytihbenbfnpiikaa

namespace Go.Proofs.Ytihbenbfnpiikaa
open Go.RowKit Go.Maps
set_option linter.unusedVariables false

/-- What is known of the draw: two arenas and two lists, any. -/
def RetDI (W : World) (e : Ending) (w' : World) : Prop :=
  ∃ (h ac bu : Int) (a : Option Addr) (n c : Nat) (f : Nat → Int) (ra : Option Addr) (l : List Int) (rc : Nat) (h' ac' bu' : Int) (a' : Option Addr) (n' c' : Nat) (f' : Nat → Int) (rb : Option Addr) (l' : List Int) (rd : Nat),
    e = .returned (.tuple #[.agg #[.int .i64 h, .slice a n c, .int .i64 ac, .int .i64 bu], .slice ra l.length rc, .agg #[.int .i64 h', .slice a' n' c', .int .i64 ac', .int .i64 bu'], .slice rb l'.length rd]) ∧ Src w' a n f ∧ n ≤ c ∧ c ≤ maxLen ∧ Src w' ra l.length (lf l) ∧ Src w' a' n' f' ∧ n' ≤ c' ∧ c' ≤ maxLen ∧ Src w' rb l'.length (lf l') ∧ Below W.heap.size W w'

def DrawIA : Prop := ∀ (ca : Option Addr) (k kc : Nat) (B : Nat → Int) (w : World), SrcB w w.heap.size ca k B → k ≤ 1048576 → Calls Try.prog 26 #[.slice ca k kc] w (RetDI w)

structure LA (W w : World) (P : Nat) (h ac bu : Int) (a : Option Addr) (n c : Nat) (f : Nat → Int) (ra : Option Addr) (l : List Int) (h' ac' bu' : Int) (a' : Option Addr) (n' c' : Nat) (f' : Nat → Int) (rb : Option Addr) (l' : List Int) : Prop where
  bel : Below W.heap.size W w
  ab : Blk w P [.int .i64 h, .slice a n c, .int .i64 ac, .int .i64 bu]
  bb : Blk w (P + 1) [.int .i64 h', .slice a' n' c', .int .i64 ac', .int .i64 bu']
  wa : Src w a n f
  ra : Src w ra l.length (lf l)
  wb : Src w a' n' f'
  rb : Src w rb l'.length (lf l')

section

variable {W w w' : World} {P : Nat} {h ac bu : Int} {a : Option Addr} {n c : Nat} {f : Nat → Int} {ra : Option Addr} {l : List Int} {h' ac' bu' : Int} {a' : Option Addr} {n' c' : Nat} {f' : Nat → Int} {rb : Option Addr} {l' : List Int}

theorem LA.below (d : LA W w P h ac bu a n c f ra l h' ac' bu' a' n' c' f' rb l') (hb : Below w.heap.size w w') : LA W w' P h ac bu a n c f ra l h' ac' bu' a' n' c' f' rb l' :=
  ⟨d.bel.trans (hb.mono d.bel.size), d.ab.below hb, d.bb.below hb, d.wa.below hb, d.ra.below hb, d.wb.below hb, d.rb.below hb⟩

theorem LA.drew (d : LA W w P h ac bu a n c f ra l h' ac' bu' a' n' c' f' rb l') : LA W w.drew P h ac bu a n c f ra l h' ac' bu' a' n' c' f' rb l' := d.below (Below.refl _ _).drew

theorem LA.c8 (d : LA W w P h ac bu a n c f ra l h' ac' bu' a' n' c' f' rb l') : w.cell? ⟨P, 0, none⟩ = some (.int .i64 h) ∧ w.cell? ⟨P, 1, none⟩ = some (.slice a n c) ∧ w.cell? ⟨P, 2, none⟩ = some (.int .i64 ac) ∧ w.cell? ⟨P, 3, none⟩ = some (.int .i64 bu) ∧ w.cell? ⟨P + 1, 0, none⟩ = some (.int .i64 h') ∧ w.cell? ⟨P + 1, 1, none⟩ = some (.slice a' n' c') ∧ w.cell? ⟨P + 1, 2, none⟩ = some (.int .i64 ac') ∧ w.cell? ⟨P + 1, 3, none⟩ = some (.int .i64 bu') := eight d.ab d.bb

end

theorem isIA_symm {co co' : Int} {f : Nat → Int} {L : List Ob} {ra : List Int} {g : Nat → Int} {L' : List Ob} {rb : List Int} {r : Bool} (h : IsIA co co' f L ra g L' rb r) : IsIA co' co g L' rb f L ra r :=
  h.trans ⟨fun ⟨h1, h2, h3⟩ => ⟨h2, h1, h3.symm⟩, fun ⟨h1, h2, h3⟩ => ⟨h2, h1, h3.symm⟩⟩

theorem isIA_refl {h : Int} {n : Nat} {f : Nat → Int} {ac bu : Int} {l : List Int} {co : Int} {L : List Ob} (hk : IsAsk h n f ac bu l co L) : IsIA co co f L l f L l (decide (co = 0)) := by
  unfold IsIA
  rw [decide_eq_true_iff]
  refine ⟨fun h0 => ?_, fun h0 => h0.1⟩
  subst h0
  exact ⟨rfl, rfl, AlikeO.refl (right_of (isAsk_zero hk).1 (isAsk_zero hk).2.1) (isAsk_zero hk).2.2.2⟩

set_option maxRecDepth 100000 in
set_option maxHeartbeats 400000 in
theorem e4_far (ca : Option Addr) (k kc : Nat) (w : World) (hk : k ≤ maxLen) (h : 1048576 < k) : Calls Try.prog 4 #[.slice ca k kc] w (RetBool w true) := by
  go_enter Try.func4, Try.ntmps4
  go_wp2_with (go_at_call 16; refine (big_yes _ _ _ _ hk h).mono ?_; rintro e w' ⟨rfl, rfl⟩)
  go_ret
  exact ⟨rfl, Below.refl _ _⟩
end Go.Proofs.Ytihbenbfnpiikaa

namespace Go.Proofs.Ytihbenbfnpiikaa
open Go.RowKit
set_option linter.unusedVariables false

/-- A node in memory: as an object, with no owner. -/
def FivG (w : World) (b o : Nat) (t : GM) : Prop := w.cell? ⟨b, o, none⟩ = some (.int .i64 t.at_) ∧ w.cell? ⟨b, o + 1, none⟩ = some (.int .i64 t.s) ∧ w.cell? ⟨b, o + 2, none⟩ = some (.int .i64 t.m) ∧ w.cell? ⟨b, o + 3, none⟩ = some (.int .i64 t.h) ∧ w.cell? ⟨b, o + 4, none⟩ = some (.slice t.a t.n t.c)

def FivF (w : World) (b o : Nat) : Prop := w.frozen? ⟨b, o, none⟩ = false ∧ w.frozen? ⟨b, o + 1, none⟩ = false ∧ w.frozen? ⟨b, o + 2, none⟩ = false ∧ w.frozen? ⟨b, o + 3, none⟩ = false ∧ w.frozen? ⟨b, o + 4, none⟩ = false

theorem FivG.block {w w' : World} {b o : Nat} {t : GM} (h : FivG w b o t) (e : w'.heap[b]? = w.heap[b]?) : FivG w' b o t :=
  ⟨(World.cell?_of_block (w := w) (a := ⟨b, o, none⟩) e).trans h.1, (World.cell?_of_block (w := w) (a := ⟨b, o + 1, none⟩) e).trans h.2.1, (World.cell?_of_block (w := w) (a := ⟨b, o + 2, none⟩) e).trans h.2.2.1, (World.cell?_of_block (w := w) (a := ⟨b, o + 3, none⟩) e).trans h.2.2.2.1, (World.cell?_of_block (w := w) (a := ⟨b, o + 4, none⟩) e).trans h.2.2.2.2⟩

theorem FivF.block {w w' : World} {b o : Nat} (h : FivF w b o) (e : w'.heap[b]? = w.heap[b]?) : FivF w' b o :=
  ⟨(World.frozen?_of_block (w := w) (a := ⟨b, o, none⟩) e).trans h.1, (World.frozen?_of_block (w := w) (a := ⟨b, o + 1, none⟩) e).trans h.2.1, (World.frozen?_of_block (w := w) (a := ⟨b, o + 2, none⟩) e).trans h.2.2.1, (World.frozen?_of_block (w := w) (a := ⟨b, o + 3, none⟩) e).trans h.2.2.2.1, (World.frozen?_of_block (w := w) (a := ⟨b, o + 4, none⟩) e).trans h.2.2.2.2⟩

theorem FivG.below {w w' : World} {b o : Nat} {t : GM} (h : FivG w b o t) (hb : Below w.heap.size w w') (hl : b < w.heap.size) : FivG w' b o t := h.block (hb.block b hl)

theorem FivF.below {w w' : World} {b o : Nat} (h : FivF w b o) (hb : Below w.heap.size w w') (hl : b < w.heap.size) : FivF w' b o := h.block (hb.block b hl)

theorem FivG.keeps {w w' : World} {b o lo hi : Nat} {t : GM} (h : FivG w b o t) (hk : Keeps w w' lo hi) (hl : b < w.heap.size) (hd : b < lo ∨ hi ≤ b) : FivG w' b o t := h.block (hk.block b hl hd)

theorem FivF.keeps {w w' : World} {b o lo hi : Nat} (h : FivF w b o) (hk : Keeps w w' lo hi) (hl : b < w.heap.size) (hd : b < lo ∨ hi ≤ b) : FivF w' b o := h.block (hk.block b hl hd)

/-- A row of objects is read. -/
structure NSrc (w : World) (b q N : Nat) (T : Nat → GM) : Prop where
  lt : b < w.heap.size
  six : ∀ i, i < N → FivG w b (q + i * 5) (T i)
  flds : ∀ i, i < N → Src w (T i).a (T i).n (T i).f

/-- A row of objects of the call's own, in blocks from lo to hi. -/
structure NOwn (w : World) (lo hi b q N : Nat) (T : Nat → GM) : Prop where
  glo : lo ≤ b
  ghi : b < hi
  lt : b < w.heap.size
  six : ∀ i, i < N → FivG w b (q + i * 5) (T i)
  free : ∀ i, i < N → FivF w b (q + i * 5)
  flds : ∀ i, i < N → OwnIn w lo hi (T i).a (T i).n (T i).f
  off : ∀ i, i < N → (T i).n = 0 ∨ (T i).g ≠ b
  apart : ∀ i j, i < N → j < N → i ≠ j → (T i).n = 0 ∨ (T j).n = 0 ∨ (T i).g ≠ (T j).g

theorem NOwn.src {w : World} {lo hi b q N : Nat} {T : Nat → GM} (h : NOwn w lo hi b q N T) : NSrc w b q N T := ⟨h.lt, h.six, fun i hi => (h.flds i hi).src⟩

theorem NSrc.below {w w' : World} {b q N : Nat} {T : Nat → GM} (h : NSrc w b q N T) (hb : Below w.heap.size w w') : NSrc w' b q N T :=
  ⟨Nat.lt_of_lt_of_le h.lt hb.size, fun i hi => (h.six i hi).below hb h.lt, fun i hi => (h.flds i hi).below hb⟩

theorem NOwn.below {w w' : World} {lo hi b q N : Nat} {T : Nat → GM} (h : NOwn w lo hi b q N T) (hb : Below w.heap.size w w') : NOwn w' lo hi b q N T :=
  ⟨h.glo, h.ghi, Nat.lt_of_lt_of_le h.lt hb.size, fun i hi => (h.six i hi).below hb h.lt, fun i hi => (h.free i hi).below hb h.lt, fun i hi => (h.flds i hi).below hb, h.off, h.apart⟩

theorem NOwn.keeps {w w' : World} {lo hi lo' hi' b q N : Nat} {T : Nat → GM} (h : NOwn w lo hi b q N T) (hk : Keeps w w' lo' hi') (hd : hi ≤ lo' ∨ hi' ≤ lo) : NOwn w' lo hi b q N T := by
  have h1 := h.glo; have h2 := h.ghi
  exact ⟨h.glo, h.ghi, Nat.lt_of_lt_of_le h.lt hk.size, fun i hi => (h.six i hi).keeps hk h.lt (by omega), fun i hi => (h.free i hi).keeps hk h.lt (by omega), fun i hi => (h.flds i hi).keeps hk hd, h.off, h.apart⟩

theorem NSrc.keeps {w w' : World} {lo hi b q N : Nat} {T : Nat → GM} (h : NSrc w b q N T) (hk : Keeps w w' lo hi) (hd : b < lo ∨ hi ≤ b) (hf : ∀ i, i < N → (T i).n = 0 ∨ (T i).g < lo ∨ hi ≤ (T i).g) : NSrc w' b q N T := by
  refine ⟨Nat.lt_of_lt_of_le h.lt hk.size, fun i hi => (h.six i hi).keeps hk h.lt hd, fun i hi => ?_⟩
  rcases h.flds i hi with h0 | ⟨b', o', he, hl, hc⟩
  · exact .inl h0
  · rcases hf i hi with h0 | hf
    · exact .inl h0
    · have hg : (T i).g = b' := by simp [GM.g, he]
      have e := hk.block b' hl (by omega)
      exact .inr ⟨b', o', he, Nat.lt_of_lt_of_le hl hk.size, fun k hk' => (World.cell?_of_block (w := w) (a := ⟨b', o' + k, none⟩) e).trans (hc k hk')⟩

theorem NSrc.drew {w : World} {b q N : Nat} {T : Nat → GM} (h : NSrc w b q N T) : NSrc w.drew b q N T := h.below (Below.refl _ _).drew

theorem NSrc.alloc {w : World} {b q N : Nat} {T : Nat → GM} (h : NSrc w b q N T) (o : Obj) : NSrc (w.alloc o) b q N T := h.below ((Below.refl _ _).alloc (Nat.le_refl _) o)

theorem NOwn.drew {w : World} {lo hi b q N : Nat} {T : Nat → GM} (h : NOwn w lo hi b q N T) : NOwn w.drew lo hi b q N T := h.below (Below.refl _ _).drew

theorem NOwn.alloc {w : World} {lo hi b q N : Nat} {T : Nat → GM} (h : NOwn w lo hi b q N T) (o : Obj) : NOwn (w.alloc o) lo hi b q N T := h.below ((Below.refl _ _).alloc (Nat.le_refl _) o)
end Go.Proofs.Ytihbenbfnpiikaa

namespace Go.Proofs.Ytihbenbfnpiikaa
open Go.RowKit
set_option linter.unusedVariables false

def NV (w : World) (a : Option Addr) (N : Nat) (T : Nat → GM) : Prop := N = 0 ∨ ∃ b q, a = some ⟨b, q, none⟩ ∧ NSrc w b q N T

def NVO (w : World) (lo hi : Nat) (a : Option Addr) (N : Nat) (T : Nat → GM) : Prop := N = 0 ∨ ∃ b q, a = some ⟨b, q, none⟩ ∧ NOwn w lo hi b q N T

theorem NVO.src {w : World} {lo hi N : Nat} {a : Option Addr} {T : Nat → GM} (h : NVO w lo hi a N T) : NV w a N T := by
  rcases h with h0 | ⟨b, q, e, h⟩
  · exact .inl h0
  · exact .inr ⟨b, q, e, h.src⟩

theorem NV.below {w w' : World} {a : Option Addr} {N : Nat} {T : Nat → GM} (h : NV w a N T) (hb : Below w.heap.size w w') : NV w' a N T := by
  rcases h with h0 | ⟨b, q, e, h⟩
  · exact .inl h0
  · exact .inr ⟨b, q, e, h.below hb⟩

theorem NVO.below {w w' : World} {lo hi N : Nat} {a : Option Addr} {T : Nat → GM} (h : NVO w lo hi a N T) (hb : Below w.heap.size w w') : NVO w' lo hi a N T := by
  rcases h with h0 | ⟨b, q, e, h⟩
  · exact .inl h0
  · exact .inr ⟨b, q, e, h.below hb⟩

theorem NVO.keeps {w w' : World} {lo hi lo' hi' N : Nat} {a : Option Addr} {T : Nat → GM} (h : NVO w lo hi a N T) (hk : Keeps w w' lo' hi') (hd : hi ≤ lo' ∨ hi' ≤ lo) : NVO w' lo hi a N T := by
  rcases h with h0 | ⟨b, q, e, h⟩
  · exact .inl h0
  · exact .inr ⟨b, q, e, h.keeps hk hd⟩

theorem NV.drew {w : World} {a : Option Addr} {N : Nat} {T : Nat → GM} (h : NV w a N T) : NV w.drew a N T := h.below (Below.refl _ _).drew

theorem NV.alloc {w : World} {a : Option Addr} {N : Nat} {T : Nat → GM} (h : NV w a N T) (o : Obj) : NV (w.alloc o) a N T := h.below ((Below.refl _ _).alloc (Nat.le_refl _) o)

theorem NVO.drew {w : World} {lo hi N : Nat} {a : Option Addr} {T : Nat → GM} (h : NVO w lo hi a N T) : NVO w.drew lo hi a N T := h.below (Below.refl _ _).drew

theorem NVO.alloc {w : World} {lo hi N : Nat} {a : Option Addr} {T : Nat → GM} (h : NVO w lo hi a N T) (o : Obj) : NVO (w.alloc o) lo hi a N T := h.below ((Below.refl _ _).alloc (Nat.le_refl _) o)
end Go.Proofs.Ytihbenbfnpiikaa

namespace Go.Proofs.Ytihbenbfnpiikaa
open Go.RowKit
set_option linter.unusedVariables false

/-- A slot in memory. -/
structure SL where
  g : Int
  nd : Int

def TwoG (w : World) (b o : Nat) (t : SL) : Prop := w.cell? ⟨b, o, none⟩ = some (.int .i64 t.g) ∧ w.cell? ⟨b, o + 1, none⟩ = some (.int .i64 t.nd)

def TwoF (w : World) (b o : Nat) : Prop := w.frozen? ⟨b, o, none⟩ = false ∧ w.frozen? ⟨b, o + 1, none⟩ = false

theorem TwoG.block {w w' : World} {b o : Nat} {t : SL} (h : TwoG w b o t) (e : w'.heap[b]? = w.heap[b]?) : TwoG w' b o t :=
  ⟨(World.cell?_of_block (w := w) (a := ⟨b, o, none⟩) e).trans h.1, (World.cell?_of_block (w := w) (a := ⟨b, o + 1, none⟩) e).trans h.2⟩

theorem TwoF.block {w w' : World} {b o : Nat} (h : TwoF w b o) (e : w'.heap[b]? = w.heap[b]?) : TwoF w' b o :=
  ⟨(World.frozen?_of_block (w := w) (a := ⟨b, o, none⟩) e).trans h.1, (World.frozen?_of_block (w := w) (a := ⟨b, o + 1, none⟩) e).trans h.2⟩

/-- A row of slots is read. -/
structure PSrc (w : World) (b q N : Nat) (T : Nat → SL) : Prop where
  lt : b < w.heap.size
  two : ∀ i, i < N → TwoG w b (q + i * 2) (T i)

/-- A row of slots of the call's own. -/
structure POwn (w : World) (lo hi b q N : Nat) (T : Nat → SL) : Prop where
  glo : lo ≤ b
  ghi : b < hi
  lt : b < w.heap.size
  two : ∀ i, i < N → TwoG w b (q + i * 2) (T i)
  free : ∀ i, i < N → TwoF w b (q + i * 2)

theorem POwn.src {w : World} {lo hi b q N : Nat} {T : Nat → SL} (h : POwn w lo hi b q N T) : PSrc w b q N T := ⟨h.lt, h.two⟩

theorem PSrc.below {w w' : World} {b q N : Nat} {T : Nat → SL} (h : PSrc w b q N T) (hb : Below w.heap.size w w') : PSrc w' b q N T :=
  ⟨Nat.lt_of_lt_of_le h.lt hb.size, fun i hi => (h.two i hi).block (hb.block b h.lt)⟩

theorem POwn.below {w w' : World} {lo hi b q N : Nat} {T : Nat → SL} (h : POwn w lo hi b q N T) (hb : Below w.heap.size w w') : POwn w' lo hi b q N T :=
  ⟨h.glo, h.ghi, Nat.lt_of_lt_of_le h.lt hb.size, fun i hi => (h.two i hi).block (hb.block b h.lt), fun i hi => (h.free i hi).block (hb.block b h.lt)⟩

theorem PSrc.keeps {w w' : World} {lo hi b q N : Nat} {T : Nat → SL} (h : PSrc w b q N T) (hk : Keeps w w' lo hi) (hd : b < lo ∨ hi ≤ b) : PSrc w' b q N T :=
  ⟨Nat.lt_of_lt_of_le h.lt hk.size, fun i hi => (h.two i hi).block (hk.block b h.lt hd)⟩

theorem POwn.keeps {w w' : World} {lo hi lo' hi' b q N : Nat} {T : Nat → SL} (h : POwn w lo hi b q N T) (hk : Keeps w w' lo' hi') (hd : hi ≤ lo' ∨ hi' ≤ lo) : POwn w' lo hi b q N T := by
  have h1 := h.glo; have h2 := h.ghi
  exact ⟨h.glo, h.ghi, Nat.lt_of_lt_of_le h.lt hk.size, fun i hi => (h.two i hi).block (hk.block b h.lt (by omega)), fun i hi => (h.free i hi).block (hk.block b h.lt (by omega))⟩

theorem POwn.widen {w : World} {lo hi lo' hi' b q N : Nat} {T : Nat → SL} (h : POwn w lo hi b q N T) (h1 : lo' ≤ lo) (h2 : hi ≤ hi') : POwn w lo' hi' b q N T :=
  ⟨Nat.le_trans h1 h.glo, Nat.lt_of_lt_of_le h.ghi h2, h.lt, h.two, h.free⟩

def PV (w : World) (a : Option Addr) (N : Nat) (T : Nat → SL) : Prop := N = 0 ∨ ∃ b q, a = some ⟨b, q, none⟩ ∧ PSrc w b q N T

def PVO (w : World) (lo hi : Nat) (a : Option Addr) (N : Nat) (T : Nat → SL) : Prop := N = 0 ∨ ∃ b q, a = some ⟨b, q, none⟩ ∧ POwn w lo hi b q N T

theorem PVO.src {w : World} {lo hi N : Nat} {a : Option Addr} {T : Nat → SL} (h : PVO w lo hi a N T) : PV w a N T := by
  rcases h with h0 | ⟨b, q, ha, h⟩
  · exact .inl h0
  · exact .inr ⟨b, q, ha, h.src⟩

theorem PV.below {w w' : World} {N : Nat} {a : Option Addr} {T : Nat → SL} (h : PV w a N T) (hb : Below w.heap.size w w') : PV w' a N T := by
  rcases h with h0 | ⟨b, q, ha, h⟩
  · exact .inl h0
  · exact .inr ⟨b, q, ha, h.below hb⟩

theorem PVO.below {w w' : World} {lo hi N : Nat} {a : Option Addr} {T : Nat → SL} (h : PVO w lo hi a N T) (hb : Below w.heap.size w w') : PVO w' lo hi a N T := by
  rcases h with h0 | ⟨b, q, ha, h⟩
  · exact .inl h0
  · exact .inr ⟨b, q, ha, h.below hb⟩

theorem PVO.keeps {w w' : World} {lo hi lo' hi' N : Nat} {a : Option Addr} {T : Nat → SL} (h : PVO w lo hi a N T) (hk : Keeps w w' lo' hi') (hd : hi ≤ lo' ∨ hi' ≤ lo) : PVO w' lo hi a N T := by
  rcases h with h0 | ⟨b, q, ha, h⟩
  · exact .inl h0
  · exact .inr ⟨b, q, ha, h.keeps hk hd⟩

theorem PVO.widen {w : World} {lo hi lo' hi' N : Nat} {a : Option Addr} {T : Nat → SL} (h : PVO w lo hi a N T) (h1 : lo' ≤ lo) (h2 : hi ≤ hi') : PVO w lo' hi' a N T := by
  rcases h with h0 | ⟨b, q, ha, h⟩
  · exact .inl h0
  · exact .inr ⟨b, q, ha, h.widen h1 h2⟩

theorem PV.drew {w : World} {N : Nat} {a : Option Addr} {T : Nat → SL} (h : PV w a N T) : PV w.drew a N T := h.below (Below.refl _ _).drew

theorem PV.alloc {w : World} {N : Nat} {a : Option Addr} {T : Nat → SL} (h : PV w a N T) (o : Obj) : PV (w.alloc o) a N T := h.below ((Below.refl _ _).alloc (Nat.le_refl _) o)

theorem PVO.drew {w : World} {lo hi N : Nat} {a : Option Addr} {T : Nat → SL} (h : PVO w lo hi a N T) : PVO w.drew lo hi a N T := h.below (Below.refl _ _).drew

theorem PVO.alloc {w : World} {lo hi N : Nat} {a : Option Addr} {T : Nat → SL} (h : PVO w lo hi a N T) (o : Obj) : PVO (w.alloc o) lo hi a N T := h.below ((Below.refl _ _).alloc (Nat.le_refl _) o)
end Go.Proofs.Ytihbenbfnpiikaa

namespace Go.Proofs.Ytihbenbfnpiikaa
open Go.RowKit Go.Maps
set_option linter.unusedVariables false

set_option maxRecDepth 100000 in
set_option maxHeartbeats 3200000 in
theorem specRF_any (h ac bu : Int) (a : Option Addr) (n c : Nat) (f : Nat → Int) (ra : Option Addr) (roots : List Int) (rc : Nat) (co : Int) (L : List Ob) (w : World) (hs : Src w a n f) (hcn : n ≤ c) (hcm : c ≤ maxLen) (hrs : Src w ra roots.length (lf roots)) (hk : IsAsk h n f ac bu roots co L) :
    Calls Try.prog 27 #[.agg #[.int .i64 h, .slice a n c, .int .i64 ac, .int .i64 bu], .slice ra roots.length rc] w (RetIR w co (outR f L roots co).length (lf (outR f L roots co))) := by
  have HS := Lib.hid hs; have HK := Lib.hid hk; have HCM := Lib.hid hcm; have HRS := Lib.hid hrs
  clear hs hk hcm hrs
  go_enter Try.func27, Try.ntmps27
  go_wp2_with fail
  refine (l4Ask_any (w.heap.size) h ac bu a n c f ra roots rc co L _ ((((Blk.new_at (w := w) (cs := #[.int .i64 h, .slice a n c, .int .i64 ac, .int .i64 bu]) (t := 26) (w.heap.size) rfl)).alloc _)) ((HS.out.alloc _).alloc _) hcn HCM.out ((HRS.out.alloc _).alloc _) HK.out).mono ?_
  rintro e w1 ⟨hb, hr⟩
  have HB1 := Lib.hid (thru2 (Below.refl _ _) hb)
  have R_1 := Lib.hid ((Blk.new_at (w := w.alloc (.cells #[.int .i64 h, .slice a n c, .int .i64 ac, .int .i64 bu] 26)) (cs := #[.int .i64 0, .slice none 0 0]) (t := 35) (w.heap.size + 1) (by simp)).below hb)
  have z1 : w.heap.size + 2 ≤ w1.heap.size := by have := hb.size; simp at this; omega
  clear hb
  have hz := HB1.out.size
  rcases hr with ⟨h0, rfl⟩ | ⟨rfl, v, M, a1, c1, hL, rfl, hm, ho, hc1, hc2⟩
  · have HE := Lib.hid (outR_no f L roots h0)
    have lR := R_1.out.1; have cR0 := R_1.out.at 0 rfl; have fR0 := R_1.out.free 0 rfl; have cR1 := R_1.out.at 1 rfl; have fR1 := R_1.out.free 1 rfl
    clear h0
    go_wp2
    refine bodyPost_ret (v := .agg #[.int .i64 co, .slice none 0 0]) (by simp [results, Try.results27, go_sem, cR0, cR1]) rfl ?_
    rw [HE.out]
    refine ⟨none, 0, rfl, .inl rfl, ?_⟩
    repeat (first | (with_reducible refine Below.setCell ?_ (by (try simp); (try omega)) _) | (with_reducible refine Below.alloc ?_ (by (try simp); (try omega)) _) | (with_reducible refine Below.drew ?_))
    exact HB1.out
  · have HO := Lib.hid ho
    clear hL hm ho hc1 hc2
    have lR := R_1.out.1; have cR0 := R_1.out.at 0 rfl; have fR0 := R_1.out.free 0 rfl; have cR1 := R_1.out.at 1 rfl; have fR1 := R_1.out.free 1 rfl
    go_wp2
    refine bodyPost_ret (v := .agg #[.int .i64 0, .slice a1 (reachO f L roots).length c1]) (by simp [results, Try.results27, go_sem, cR0, cR1]) rfl ⟨a1, c1, rfl, ?_, ?_⟩
    · rw [outR_zero]
      refine Own.mono (B := w.heap.size + 2) ?_ (by omega)
      repeat (first | (with_reducible refine Own.setCell ?_ (by (try simp); (try omega)) _) | (with_reducible refine Own.alloc ?_ _) | (with_reducible refine Own.drew ?_))
      have := HO.out
      simpa using this
    · repeat (first | (with_reducible refine Below.setCell ?_ (by (try simp); (try omega)) _) | (with_reducible refine Below.alloc ?_ (by (try simp); (try omega)) _) | (with_reducible refine Below.drew ?_))
      exact HB1.out

set_option maxRecDepth 100000 in
set_option maxHeartbeats 6400000 in
theorem drawRF_any' (ca : Option Addr) (k kc : Nat) (B : Nat → Int) (w : World) (hs : SrcB w w.heap.size ca k B) (hk0 : k ≤ 1048576) :
    Calls Try.prog 64 #[.slice ca k kc] w (RetDR w) := by
  have B_0 := Lib.hid hs
  obtain ⟨i0, hif, hz0, hz1, hz2⟩ := info_parts Try.info2
  clear hs
  go_enter Try.func64, Try.ntmps64
  go_wp2_with fail
  refine (source_any ca k kc _).mono ?_
  rintro e w' ⟨rfl, rfl⟩
  go_wp2_with fail
  refine (bent3_any (w.heap.size + 1) (w.heap.size + 1) ca k kc 0 B _ (Blk.new_at (w.heap.size + 1) (by simp)) (((B_0.out.alloc _).alloc _).mono (by omega)) (Nat.le_refl _) hk0 (by omega)).mono ?_
  rintro e w1 ⟨h, ac, bu, n, c, t, a, f, rfl, ho, hB, ht, hk, hn, hnc, hcm⟩
  have z1 : w.heap.size + 2 ≤ w1.heap.size := by have := hk.size; simp at this; omega
  have HB_1 : Hid (Below w.heap.size w w1) := (((Below.refl _ _).alloc (Nat.le_refl _) _).alloc (by simp) _).trans (hk.below (by omega) (by simp; omega))
  have S_1 := Lib.hid hB
  have B_1 : Hid (SrcB w1 (w.heap.size + 1) ca k B) := (((B_0.out.alloc _).alloc _).mono (by omega)).keeps hk (Nat.le_refl _)
  have R_1 := Lib.hid (((Blk.new_at (w.heap.size) rfl).alloc _).keeps hk (by omega))
  have RW_1 : Hid (OwnIn w1 (w.heap.size + 2) w1.heap.size a n f) := ho.widen (by simp) (Nat.le_refl _)
  clear ho hB hk B_0
  have D2 : Hid (DS w ((w1.alloc (.cells #[.int .i64 h, .slice a n c, .int .i64 ac, .int .i64 bu] 26)).alloc (.cells #[] 2)) ca k kc B t w1.heap.size h ac bu a n c f (.slice (some ⟨w1.heap.size + 1, 0, none⟩) 0 0) []) := Lib.hid
    ⟨(HB_1.out.alloc HB_1.out.size _).alloc (by have := HB_1.out.size; simp; omega) _, (S_1.out.alloc _).alloc _, (B_1.out.alloc _).alloc _, (Blk.new_at (w := w1) (w1.heap.size) rfl).alloc _, (R_1.out.alloc _).alloc _, (RW_1.out.alloc _).alloc _,
      (by have h9 := World.ownsRow_lit (w1.alloc (.cells #[.int .i64 h, .slice a n c, .int .i64 ac, .int .i64 bu] 26)) (e := 2) (size := 1) #[] 0 (Nat.le_refl _) (by simp [maxLen]) rfl; have e9 : (w1.alloc (.cells #[.int .i64 h, .slice a n c, .int .i64 ac, .int .i64 bu] 26)).heap.size = w1.heap.size + 1 := (by simp); rw [e9] at h9; exact h9), z1⟩
  clear HB_1 S_1 B_1 R_1 RW_1
  obtain ⟨kf, hkf⟩ := isFault_some h n f ac bu
  have HKF := Lib.hid hkf
  clear hkf
  have hT0 := D2.out.arn; have cT0 := hT0.at 0 rfl; have cT1 := hT0.at 1 rfl; have cT2 := hT0.at 2 rfl; have cT3 := hT0.at 3 rfl
  clear hT0
  go_wp2_with fail
  clear cT0 cT1 cT2 cT3
  generalize (w1.alloc (.cells #[.int .i64 h, .slice a n c, .int .i64 ac, .int .i64 bu] 26)).alloc (.cells #[] 2) = w2 at *
  refine (specFault_any h ac bu a n c f kf _ D2.out.wrd.src HKF.out).mono ?_
  rintro e w3 ⟨rfl, hb⟩
  have D3 := Lib.hid (D2.out.below hb)
  clear hb D2
  by_cases hkf0 : kf = 0
  · subst hkf0
    go_wp2_with fail
    refine (roots_any (w.heap.size + 1) (w.heap.size + 1) ca k kc t B w1.heap.size (w.heap.size + 2) w1.heap.size h ac bu a n c f _ D3.out.src D3.out.byt (Nat.le_refl _) hk0 (by omega) D3.out.arn (by omega) D3.out.wrd (Nat.le_refl _) (by have := D3.out.arn.1; omega) HKF.out hnc hcm).mono ?_
    rintro e w4 ⟨u, l, t4, rfl, how, hl4, hB, ht4, hk⟩
    have D4 : Hid (DS w w4 ca k kc B t4 w1.heap.size h ac bu a n c f u l) := Lib.hid (by
      have d := D3.out.next hk hB
      exact ⟨d.bel, d.src, d.byt, d.arn, d.res, d.wrd, ⟨how.1, by
        rcases how.2 with h0 | ⟨g, cap, cur, e1, e2, e3⟩
        · exact .inl h0
        · exact .inr ⟨g, cap, cur, e1, by have := D3.out.arn.1; omega, e3⟩⟩, d.hP⟩)
    clear how hB hk D3
    go_wp2_with fail
    refine (next_is 14 (w.heap.size + 1) (w.heap.size + 1) ca k kc t4 14 B _ rfl D4.out.src D4.out.byt (Nat.le_refl _) hk0 (by omega) (by omega) (by omega)).mono ?_
    rintro e w5 ⟨v, rfl, hv, hB, hk⟩
    have D5 : Hid (DS w w5 ca k kc B (t4 + 1) w1.heap.size h ac bu a n c f u l) := Lib.hid (D4.out.next hk (by have := hB; simpa using this))
    clear hB hk D4
    by_cases hv0 : v = 0
    · subst hv0
      go_wp2_with fail
      refine (of_any [1, -1, 400] (w.heap.size + 1) (w.heap.size + 1) _ ca k kc (t4 + 1) 3 B _ _ D5.out.src D5.out.byt (Nat.le_refl _) hk0 (by omega) rfl (by simp) (by simp) rfl rfl).mono ?_
      rintro e w6 ⟨x, rfl, mx, hB, hk⟩
      have D6 : Hid (DS w w6 ca k kc B (t4 + 1 + 1) w1.heap.size h ac bu a n c f u l) := Lib.hid ((D5.out.below ((Below.refl _ _).alloc (Nat.le_refl _) _)).next hk (by have := hB; simpa using this))
      have h6 := D6.out.arn.1
      clear hB hk D5 mx
      go_upto_region 14 with (at_builtin; go_loud (refine wpList_append_lies _ rfl _ _ 24 rfl (w1.heap.size + 1) 2 i0 (.int .i64 0) 1 8 Try.underlying24 hif hz0 hz1 hz2 rfl (by decide) u l.length (nums l.length (lf l)) rfl (ownsRow_below D6.out.row ((Below.refl _ _).alloc (Nat.le_refl _) _)) ⟨w6.heap.size, 0, none⟩ 1 1 [.int .i64 x] rfl rfl (news1 w6 x) (by intro u hu; simp only [List.mem_cons, List.mem_nil_iff, or_false] at hu; subst hu; rfl) (by omega) (by unfold maxLen; omega) (by omega) (by simp; omega) (w6.heap.size + 1) (by simp) ?_); intro g9 cap9 w9 hown9 hgrow9 hat9 hlt9)
      have D9 : Hid (DS w w9 ca k kc B (t4 + 1 + 1) w1.heap.size h ac bu a n c f (.slice (some ⟨g9, 0, none⟩) (l.length + 1) cap9) (l ++ [x])) := Lib.hid (D6.out.append hgrow9 (by rw [show (l ++ [x]).length = l.length + 1 by simp, ← nums_snoc]; exact hown9))
      clear hown9 hgrow9 hat9 D6
      generalize hu9 : Value.slice (some ⟨g9, 0, none⟩) (l.length + 1) cap9 = u9 at *
      clear hu9
      obtain ⟨ra, rc, hrv, _⟩ := row_shape D9.out.row
      first | subst hrv | (have hrv' := hrv.symm; simp only [Value.slice.injEq, true_and] at hrv'; obtain ⟨rfl, rfl⟩ := hrv'; clear hrv)
      have HO := Lib.hid (own_of_row D9.out.row)
      have hT := D9.out.arn; have cT0 := hT.at 0 rfl; have cT1 := hT.at 1 rfl; have cT2 := hT.at 2 rfl; have cT3 := hT.at 3 rfl; have lT := hT.1
      have hR := D9.out.res; have cR0 := hR.at 0 rfl; have fR0 := hR.free 0 rfl; have cR1 := hR.at 1 rfl; have fR1 := hR.free 1 rfl; have cR2 := hR.at 2 rfl; have fR2 := hR.free 2 rfl; have cR3 := hR.at 3 rfl; have fR3 := hR.free 3 rfl; have lR := hR.1
      have hz := D9.out.bel.size
      have hPw := D9.out.hP
      clear hT hR
      go_wp2
      refine bodyPost_ret (v := .tuple #[.agg #[.int .i64 h, .slice a n c, .int .i64 ac, .int .i64 bu], .slice ra (l ++ [x]).length rc]) (by simp [results, Try.results64, go_sem, cR0, cR1, cR2, cR3]) rfl ⟨h, ac, bu, n, c, a, f, (l ++ [x]), ra, rc, rfl, ?_, ?_, ?_, hn, hnc, hcm, by simp; omega⟩
      · refine Own.mono (B := w.heap.size + 2) ?_ (by omega)
        repeat (first | (with_reducible refine Own.setCell ?_ (by (try simp); (try omega)) _) | (with_reducible refine Own.alloc ?_ _) | (with_reducible refine Own.drew ?_))
        exact (D9.out.wrd.widen (Nat.le_refl _) (Nat.le_of_lt D9.out.arn.1)).out
      · refine Own.mono (B := w1.heap.size + 1) ?_ (by omega)
        repeat (first | (with_reducible refine Own.setCell ?_ (by (try simp); (try omega)) _) | (with_reducible refine Own.alloc ?_ _) | (with_reducible refine Own.drew ?_))
        exact HO.out
      · repeat (first | (with_reducible refine Below.setCell ?_ (by (try simp); (try omega)) _) | (with_reducible refine Below.alloc ?_ (by (try simp); (try omega)) _) | (with_reducible refine Below.drew ?_))
        exact D9.out.bel
    · have hv0' : ((v : Int) == 0) = false := by simp; omega
      by_cases hv1 : v = 1
      · subst hv1
        obtain ⟨ua, uc, hu0, _⟩ := row_shape D5.out.row
        subst hu0
        by_cases hl0 : 0 < l.length
        · have hl0' : (0 : Int) < (l.length : Int) := by omega
          go_wp2_with fail
          refine (of_any [60, 61] (w.heap.size + 1) (w.heap.size + 1) _ ca k kc (t4 + 1) 2 B _ _ D5.out.src D5.out.byt (Nat.le_refl _) hk0 (by omega) rfl (by simp) (by simp) rfl rfl).mono ?_
          rintro e w6 ⟨x, rfl, mx, hB, hk⟩
          have D6 : Hid (DS w w6 ca k kc B (t4 + 1 + 1) w1.heap.size h ac bu a n c f (.slice ua l.length uc) l) := Lib.hid ((D5.out.below ((Below.refl _ _).alloc (Nat.le_refl _) _)).next hk (by have := hB; simpa using this))
          have hx : 60 ≤ x ∧ x ≤ 61 := by simp at mx; omega
          obtain ⟨X, rfl⟩ : ∃ X : Nat, x = (X : Int) := ⟨x.toNat, by omega⟩
          clear hB hk D5 mx
          go_wp2
          go_loopw [6] (fun u wr => ∃ l' : List Int, Hid (DS w wr ca k kc B (t4 + 1 + 1) w1.heap.size h ac bu a n c f u l') ∧ 0 < l'.length ∧ l'.length ≤ 61) (fun u _ => X - (match u with | .slice _ n _ => n | _ => 0))
          case atStart => exact ⟨l, D6, hl0, by omega⟩
          case round =>
            obtain ⟨l', D7, hp7, hl7⟩ := hrel
            clear D6
            obtain ⟨ra7, rc7, hrv7, _⟩ := row_shape D7.out.row
            subst hrv7
            by_cases hlX : l'.length < X
            · have hlX' : (l'.length : Int) < (X : Int) := by omega
              obtain ⟨b7, o7, rfl, hb7, hc7⟩ := src_some (own_of_row D7.out.row).src hp7
              have c7 := hc7 0 hp7
              rw [Nat.add_zero] at c7
              have hp7' : (0 : Int) < (l'.length : Int) := by omega
              have h7 := D7.out.arn.1
              generalize lf l' 0 = y at *
              clear hc7
              go_wp2_with (at_builtin; go_loud (refine wpList_append_lies _ rfl _ _ 24 rfl (w1.heap.size + 1) 2 i0 (.int .i64 0) 1 8 Try.underlying24 hif hz0 hz1 hz2 rfl (by decide) (.slice (some ⟨b7, o7, none⟩) l'.length rc7) l'.length (nums l'.length (lf l')) rfl (ownsRow_below D7.out.row ((Below.refl _ _).alloc (Nat.le_refl _) _)) ⟨wr.heap.size, 0, none⟩ 1 1 [.int .i64 y] rfl rfl (news1 wr y) (by intro u hu; simp only [List.mem_cons, List.mem_nil_iff, or_false] at hu; subst hu; rfl) (by omega) (by unfold maxLen; omega) (by omega) (by simp; omega) (wr.heap.size + 1) (by simp) ?_); intro g9 cap9 w9 hown9 hgrow9 hat9 hlt9)
              have D9 : Hid (DS w w9 ca k kc B (t4 + 1 + 1) w1.heap.size h ac bu a n c f (.slice (some ⟨g9, 0, none⟩) (l'.length + 1) cap9) (l' ++ [y])) := Lib.hid (D7.out.append hgrow9 (by rw [show (l' ++ [y]).length = l'.length + 1 by simp, ← nums_snoc]; exact hown9))
              clear hown9 hgrow9 hat9 D7 c7
              go_wp2
              go_roundw
              case rel => first | exact ⟨l' ++ [y], D9, by simp, by simp; omega⟩ | ((repeat apply Exists.intro); exact ⟨⟨l' ++ [y], D9, by simp, by simp; omega⟩, rfl⟩)
              case measure => simp; omega
            · have hlX' : ¬ (l'.length : Int) < (X : Int) := by omega
              obtain ⟨ra, rc, hrv, _⟩ := row_shape D7.out.row
              first | subst hrv | (have hrv' := hrv.symm; simp only [Value.slice.injEq, true_and] at hrv'; obtain ⟨rfl, rfl⟩ := hrv'; clear hrv)
              have HO := Lib.hid (own_of_row D7.out.row)
              have hT := D7.out.arn; have cT0 := hT.at 0 rfl; have cT1 := hT.at 1 rfl; have cT2 := hT.at 2 rfl; have cT3 := hT.at 3 rfl; have lT := hT.1
              have hR := D7.out.res; have cR0 := hR.at 0 rfl; have fR0 := hR.free 0 rfl; have cR1 := hR.at 1 rfl; have fR1 := hR.free 1 rfl; have cR2 := hR.at 2 rfl; have fR2 := hR.free 2 rfl; have cR3 := hR.at 3 rfl; have fR3 := hR.free 3 rfl; have lR := hR.1
              have hz := D7.out.bel.size
              have hPw := D7.out.hP
              clear hT hR
              go_wp2
              refine bodyPost_ret (v := .tuple #[.agg #[.int .i64 h, .slice a n c, .int .i64 ac, .int .i64 bu], .slice ra l'.length rc]) (by simp [results, Try.results64, go_sem, cR0, cR1, cR2, cR3]) rfl ⟨h, ac, bu, n, c, a, f, l', ra, rc, rfl, ?_, ?_, ?_, hn, hnc, hcm, by omega⟩
              · refine Own.mono (B := w.heap.size + 2) ?_ (by omega)
                repeat (first | (with_reducible refine Own.setCell ?_ (by (try simp); (try omega)) _) | (with_reducible refine Own.alloc ?_ _) | (with_reducible refine Own.drew ?_))
                exact (D7.out.wrd.widen (Nat.le_refl _) (Nat.le_of_lt D7.out.arn.1)).out
              · refine Own.mono (B := w1.heap.size + 1) ?_ (by omega)
                repeat (first | (with_reducible refine Own.setCell ?_ (by (try simp); (try omega)) _) | (with_reducible refine Own.alloc ?_ _) | (with_reducible refine Own.drew ?_))
                exact HO.out
              · repeat (first | (with_reducible refine Below.setCell ?_ (by (try simp); (try omega)) _) | (with_reducible refine Below.alloc ?_ (by (try simp); (try omega)) _) | (with_reducible refine Below.drew ?_))
                exact D7.out.bel
        · have hl0' : ¬ (0 : Int) < (l.length : Int) := by omega
          obtain ⟨ra, rc, hrv, _⟩ := row_shape D5.out.row
          first | subst hrv | (have hrv' := hrv.symm; simp only [Value.slice.injEq, true_and] at hrv'; obtain ⟨rfl, rfl⟩ := hrv'; clear hrv)
          have HO := Lib.hid (own_of_row D5.out.row)
          have hT := D5.out.arn; have cT0 := hT.at 0 rfl; have cT1 := hT.at 1 rfl; have cT2 := hT.at 2 rfl; have cT3 := hT.at 3 rfl; have lT := hT.1
          have hR := D5.out.res; have cR0 := hR.at 0 rfl; have fR0 := hR.free 0 rfl; have cR1 := hR.at 1 rfl; have fR1 := hR.free 1 rfl; have cR2 := hR.at 2 rfl; have fR2 := hR.free 2 rfl; have cR3 := hR.at 3 rfl; have fR3 := hR.free 3 rfl; have lR := hR.1
          have hz := D5.out.bel.size
          have hPw := D5.out.hP
          clear hT hR
          go_wp2
          refine bodyPost_ret (v := .tuple #[.agg #[.int .i64 h, .slice a n c, .int .i64 ac, .int .i64 bu], .slice ra l.length rc]) (by simp [results, Try.results64, go_sem, cR0, cR1, cR2, cR3]) rfl ⟨h, ac, bu, n, c, a, f, l, ra, rc, rfl, ?_, ?_, ?_, hn, hnc, hcm, by omega⟩
          · refine Own.mono (B := w.heap.size + 2) ?_ (by omega)
            repeat (first | (with_reducible refine Own.setCell ?_ (by (try simp); (try omega)) _) | (with_reducible refine Own.alloc ?_ _) | (with_reducible refine Own.drew ?_))
            exact (D5.out.wrd.widen (Nat.le_refl _) (Nat.le_of_lt D5.out.arn.1)).out
          · refine Own.mono (B := w1.heap.size + 1) ?_ (by omega)
            repeat (first | (with_reducible refine Own.setCell ?_ (by (try simp); (try omega)) _) | (with_reducible refine Own.alloc ?_ _) | (with_reducible refine Own.drew ?_))
            exact HO.out
          · repeat (first | (with_reducible refine Below.setCell ?_ (by (try simp); (try omega)) _) | (with_reducible refine Below.alloc ?_ (by (try simp); (try omega)) _) | (with_reducible refine Below.drew ?_))
            exact D5.out.bel
      · have hv1' : ((v : Int) == 1) = false := by simp; omega
        obtain ⟨ra, rc, hrv, _⟩ := row_shape D5.out.row
        first | subst hrv | (have hrv' := hrv.symm; simp only [Value.slice.injEq, true_and] at hrv'; obtain ⟨rfl, rfl⟩ := hrv'; clear hrv)
        have HO := Lib.hid (own_of_row D5.out.row)
        have hT := D5.out.arn; have cT0 := hT.at 0 rfl; have cT1 := hT.at 1 rfl; have cT2 := hT.at 2 rfl; have cT3 := hT.at 3 rfl; have lT := hT.1
        have hR := D5.out.res; have cR0 := hR.at 0 rfl; have fR0 := hR.free 0 rfl; have cR1 := hR.at 1 rfl; have fR1 := hR.free 1 rfl; have cR2 := hR.at 2 rfl; have fR2 := hR.free 2 rfl; have cR3 := hR.at 3 rfl; have fR3 := hR.free 3 rfl; have lR := hR.1
        have hz := D5.out.bel.size
        have hPw := D5.out.hP
        clear hT hR
        go_wp2
        refine bodyPost_ret (v := .tuple #[.agg #[.int .i64 h, .slice a n c, .int .i64 ac, .int .i64 bu], .slice ra l.length rc]) (by simp [results, Try.results64, go_sem, cR0, cR1, cR2, cR3]) rfl ⟨h, ac, bu, n, c, a, f, l, ra, rc, rfl, ?_, ?_, ?_, hn, hnc, hcm, by omega⟩
        · refine Own.mono (B := w.heap.size + 2) ?_ (by omega)
          repeat (first | (with_reducible refine Own.setCell ?_ (by (try simp); (try omega)) _) | (with_reducible refine Own.alloc ?_ _) | (with_reducible refine Own.drew ?_))
          exact (D5.out.wrd.widen (Nat.le_refl _) (Nat.le_of_lt D5.out.arn.1)).out
        · refine Own.mono (B := w1.heap.size + 1) ?_ (by omega)
          repeat (first | (with_reducible refine Own.setCell ?_ (by (try simp); (try omega)) _) | (with_reducible refine Own.alloc ?_ _) | (with_reducible refine Own.drew ?_))
          exact HO.out
        · repeat (first | (with_reducible refine Below.setCell ?_ (by (try simp); (try omega)) _) | (with_reducible refine Below.alloc ?_ (by (try simp); (try omega)) _) | (with_reducible refine Below.drew ?_))
          exact D5.out.bel
  · have hkf' : (kf == 0) = false := by simpa using hkf0
    generalize hu : Value.slice (some ⟨w1.heap.size + 1, 0, none⟩) 0 0 = u at *
    obtain ⟨l, hl⟩ : ∃ l : List Int, l = [] := ⟨_, rfl⟩
    rw [← hl] at D3
    have hl4 : l.length ≤ 4 := by rw [hl]; simp
    clear hl hu
    go_wp2_with fail
    refine (next_is 14 (w.heap.size + 1) (w.heap.size + 1) ca k kc t 14 B _ rfl D3.out.src D3.out.byt (Nat.le_refl _) hk0 (by omega) (by omega) (by omega)).mono ?_
    rintro e w5 ⟨v, rfl, hv, hB, hk⟩
    have D5 : Hid (DS w w5 ca k kc B (t + 1) w1.heap.size h ac bu a n c f u l) := Lib.hid (D3.out.next hk (by have := hB; simpa using this))
    clear hB hk D3
    by_cases hv0 : v = 0
    · subst hv0
      go_wp2_with fail
      refine (of_any [1, -1, 400] (w.heap.size + 1) (w.heap.size + 1) _ ca k kc (t + 1) 3 B _ _ D5.out.src D5.out.byt (Nat.le_refl _) hk0 (by omega) rfl (by simp) (by simp) rfl rfl).mono ?_
      rintro e w6 ⟨x, rfl, mx, hB, hk⟩
      have D6 : Hid (DS w w6 ca k kc B (t + 1 + 1) w1.heap.size h ac bu a n c f u l) := Lib.hid ((D5.out.below ((Below.refl _ _).alloc (Nat.le_refl _) _)).next hk (by have := hB; simpa using this))
      have h6 := D6.out.arn.1
      clear hB hk D5 mx
      go_upto_region 14 with (at_builtin; go_loud (refine wpList_append_lies _ rfl _ _ 24 rfl (w1.heap.size + 1) 2 i0 (.int .i64 0) 1 8 Try.underlying24 hif hz0 hz1 hz2 rfl (by decide) u l.length (nums l.length (lf l)) rfl (ownsRow_below D6.out.row ((Below.refl _ _).alloc (Nat.le_refl _) _)) ⟨w6.heap.size, 0, none⟩ 1 1 [.int .i64 x] rfl rfl (news1 w6 x) (by intro u hu; simp only [List.mem_cons, List.mem_nil_iff, or_false] at hu; subst hu; rfl) (by omega) (by unfold maxLen; omega) (by omega) (by simp; omega) (w6.heap.size + 1) (by simp) ?_); intro g9 cap9 w9 hown9 hgrow9 hat9 hlt9)
      have D9 : Hid (DS w w9 ca k kc B (t + 1 + 1) w1.heap.size h ac bu a n c f (.slice (some ⟨g9, 0, none⟩) (l.length + 1) cap9) (l ++ [x])) := Lib.hid (D6.out.append hgrow9 (by rw [show (l ++ [x]).length = l.length + 1 by simp, ← nums_snoc]; exact hown9))
      clear hown9 hgrow9 hat9 D6
      generalize hu9 : Value.slice (some ⟨g9, 0, none⟩) (l.length + 1) cap9 = u9 at *
      clear hu9
      obtain ⟨ra, rc, hrv, _⟩ := row_shape D9.out.row
      first | subst hrv | (have hrv' := hrv.symm; simp only [Value.slice.injEq, true_and] at hrv'; obtain ⟨rfl, rfl⟩ := hrv'; clear hrv)
      have HO := Lib.hid (own_of_row D9.out.row)
      have hT := D9.out.arn; have cT0 := hT.at 0 rfl; have cT1 := hT.at 1 rfl; have cT2 := hT.at 2 rfl; have cT3 := hT.at 3 rfl; have lT := hT.1
      have hR := D9.out.res; have cR0 := hR.at 0 rfl; have fR0 := hR.free 0 rfl; have cR1 := hR.at 1 rfl; have fR1 := hR.free 1 rfl; have cR2 := hR.at 2 rfl; have fR2 := hR.free 2 rfl; have cR3 := hR.at 3 rfl; have fR3 := hR.free 3 rfl; have lR := hR.1
      have hz := D9.out.bel.size
      have hPw := D9.out.hP
      clear hT hR
      go_wp2
      refine bodyPost_ret (v := .tuple #[.agg #[.int .i64 h, .slice a n c, .int .i64 ac, .int .i64 bu], .slice ra (l ++ [x]).length rc]) (by simp [results, Try.results64, go_sem, cR0, cR1, cR2, cR3]) rfl ⟨h, ac, bu, n, c, a, f, (l ++ [x]), ra, rc, rfl, ?_, ?_, ?_, hn, hnc, hcm, by simp; omega⟩
      · refine Own.mono (B := w.heap.size + 2) ?_ (by omega)
        repeat (first | (with_reducible refine Own.setCell ?_ (by (try simp); (try omega)) _) | (with_reducible refine Own.alloc ?_ _) | (with_reducible refine Own.drew ?_))
        exact (D9.out.wrd.widen (Nat.le_refl _) (Nat.le_of_lt D9.out.arn.1)).out
      · refine Own.mono (B := w1.heap.size + 1) ?_ (by omega)
        repeat (first | (with_reducible refine Own.setCell ?_ (by (try simp); (try omega)) _) | (with_reducible refine Own.alloc ?_ _) | (with_reducible refine Own.drew ?_))
        exact HO.out
      · repeat (first | (with_reducible refine Below.setCell ?_ (by (try simp); (try omega)) _) | (with_reducible refine Below.alloc ?_ (by (try simp); (try omega)) _) | (with_reducible refine Below.drew ?_))
        exact D9.out.bel
    · have hv0' : ((v : Int) == 0) = false := by simp; omega
      by_cases hv1 : v = 1
      · subst hv1
        obtain ⟨ua, uc, hu0, _⟩ := row_shape D5.out.row
        subst hu0
        by_cases hl0 : 0 < l.length
        · have hl0' : (0 : Int) < (l.length : Int) := by omega
          go_wp2_with fail
          refine (of_any [60, 61] (w.heap.size + 1) (w.heap.size + 1) _ ca k kc (t + 1) 2 B _ _ D5.out.src D5.out.byt (Nat.le_refl _) hk0 (by omega) rfl (by simp) (by simp) rfl rfl).mono ?_
          rintro e w6 ⟨x, rfl, mx, hB, hk⟩
          have D6 : Hid (DS w w6 ca k kc B (t + 1 + 1) w1.heap.size h ac bu a n c f (.slice ua l.length uc) l) := Lib.hid ((D5.out.below ((Below.refl _ _).alloc (Nat.le_refl _) _)).next hk (by have := hB; simpa using this))
          have hx : 60 ≤ x ∧ x ≤ 61 := by simp at mx; omega
          obtain ⟨X, rfl⟩ : ∃ X : Nat, x = (X : Int) := ⟨x.toNat, by omega⟩
          clear hB hk D5 mx
          go_wp2
          go_loopw [6] (fun u wr => ∃ l' : List Int, Hid (DS w wr ca k kc B (t + 1 + 1) w1.heap.size h ac bu a n c f u l') ∧ 0 < l'.length ∧ l'.length ≤ 61) (fun u _ => X - (match u with | .slice _ n _ => n | _ => 0))
          case atStart => exact ⟨l, D6, hl0, by omega⟩
          case round =>
            obtain ⟨l', D7, hp7, hl7⟩ := hrel
            clear D6
            obtain ⟨ra7, rc7, hrv7, _⟩ := row_shape D7.out.row
            subst hrv7
            by_cases hlX : l'.length < X
            · have hlX' : (l'.length : Int) < (X : Int) := by omega
              obtain ⟨b7, o7, rfl, hb7, hc7⟩ := src_some (own_of_row D7.out.row).src hp7
              have c7 := hc7 0 hp7
              rw [Nat.add_zero] at c7
              have hp7' : (0 : Int) < (l'.length : Int) := by omega
              have h7 := D7.out.arn.1
              generalize lf l' 0 = y at *
              clear hc7
              go_wp2_with (at_builtin; go_loud (refine wpList_append_lies _ rfl _ _ 24 rfl (w1.heap.size + 1) 2 i0 (.int .i64 0) 1 8 Try.underlying24 hif hz0 hz1 hz2 rfl (by decide) (.slice (some ⟨b7, o7, none⟩) l'.length rc7) l'.length (nums l'.length (lf l')) rfl (ownsRow_below D7.out.row ((Below.refl _ _).alloc (Nat.le_refl _) _)) ⟨wr.heap.size, 0, none⟩ 1 1 [.int .i64 y] rfl rfl (news1 wr y) (by intro u hu; simp only [List.mem_cons, List.mem_nil_iff, or_false] at hu; subst hu; rfl) (by omega) (by unfold maxLen; omega) (by omega) (by simp; omega) (wr.heap.size + 1) (by simp) ?_); intro g9 cap9 w9 hown9 hgrow9 hat9 hlt9)
              have D9 : Hid (DS w w9 ca k kc B (t + 1 + 1) w1.heap.size h ac bu a n c f (.slice (some ⟨g9, 0, none⟩) (l'.length + 1) cap9) (l' ++ [y])) := Lib.hid (D7.out.append hgrow9 (by rw [show (l' ++ [y]).length = l'.length + 1 by simp, ← nums_snoc]; exact hown9))
              clear hown9 hgrow9 hat9 D7 c7
              go_wp2
              go_roundw
              case rel => first | exact ⟨l' ++ [y], D9, by simp, by simp; omega⟩ | ((repeat apply Exists.intro); exact ⟨⟨l' ++ [y], D9, by simp, by simp; omega⟩, rfl⟩)
              case measure => simp; omega
            · have hlX' : ¬ (l'.length : Int) < (X : Int) := by omega
              obtain ⟨ra, rc, hrv, _⟩ := row_shape D7.out.row
              first | subst hrv | (have hrv' := hrv.symm; simp only [Value.slice.injEq, true_and] at hrv'; obtain ⟨rfl, rfl⟩ := hrv'; clear hrv)
              have HO := Lib.hid (own_of_row D7.out.row)
              have hT := D7.out.arn; have cT0 := hT.at 0 rfl; have cT1 := hT.at 1 rfl; have cT2 := hT.at 2 rfl; have cT3 := hT.at 3 rfl; have lT := hT.1
              have hR := D7.out.res; have cR0 := hR.at 0 rfl; have fR0 := hR.free 0 rfl; have cR1 := hR.at 1 rfl; have fR1 := hR.free 1 rfl; have cR2 := hR.at 2 rfl; have fR2 := hR.free 2 rfl; have cR3 := hR.at 3 rfl; have fR3 := hR.free 3 rfl; have lR := hR.1
              have hz := D7.out.bel.size
              have hPw := D7.out.hP
              clear hT hR
              go_wp2
              refine bodyPost_ret (v := .tuple #[.agg #[.int .i64 h, .slice a n c, .int .i64 ac, .int .i64 bu], .slice ra l'.length rc]) (by simp [results, Try.results64, go_sem, cR0, cR1, cR2, cR3]) rfl ⟨h, ac, bu, n, c, a, f, l', ra, rc, rfl, ?_, ?_, ?_, hn, hnc, hcm, by omega⟩
              · refine Own.mono (B := w.heap.size + 2) ?_ (by omega)
                repeat (first | (with_reducible refine Own.setCell ?_ (by (try simp); (try omega)) _) | (with_reducible refine Own.alloc ?_ _) | (with_reducible refine Own.drew ?_))
                exact (D7.out.wrd.widen (Nat.le_refl _) (Nat.le_of_lt D7.out.arn.1)).out
              · refine Own.mono (B := w1.heap.size + 1) ?_ (by omega)
                repeat (first | (with_reducible refine Own.setCell ?_ (by (try simp); (try omega)) _) | (with_reducible refine Own.alloc ?_ _) | (with_reducible refine Own.drew ?_))
                exact HO.out
              · repeat (first | (with_reducible refine Below.setCell ?_ (by (try simp); (try omega)) _) | (with_reducible refine Below.alloc ?_ (by (try simp); (try omega)) _) | (with_reducible refine Below.drew ?_))
                exact D7.out.bel
        · have hl0' : ¬ (0 : Int) < (l.length : Int) := by omega
          obtain ⟨ra, rc, hrv, _⟩ := row_shape D5.out.row
          first | subst hrv | (have hrv' := hrv.symm; simp only [Value.slice.injEq, true_and] at hrv'; obtain ⟨rfl, rfl⟩ := hrv'; clear hrv)
          have HO := Lib.hid (own_of_row D5.out.row)
          have hT := D5.out.arn; have cT0 := hT.at 0 rfl; have cT1 := hT.at 1 rfl; have cT2 := hT.at 2 rfl; have cT3 := hT.at 3 rfl; have lT := hT.1
          have hR := D5.out.res; have cR0 := hR.at 0 rfl; have fR0 := hR.free 0 rfl; have cR1 := hR.at 1 rfl; have fR1 := hR.free 1 rfl; have cR2 := hR.at 2 rfl; have fR2 := hR.free 2 rfl; have cR3 := hR.at 3 rfl; have fR3 := hR.free 3 rfl; have lR := hR.1
          have hz := D5.out.bel.size
          have hPw := D5.out.hP
          clear hT hR
          go_wp2
          refine bodyPost_ret (v := .tuple #[.agg #[.int .i64 h, .slice a n c, .int .i64 ac, .int .i64 bu], .slice ra l.length rc]) (by simp [results, Try.results64, go_sem, cR0, cR1, cR2, cR3]) rfl ⟨h, ac, bu, n, c, a, f, l, ra, rc, rfl, ?_, ?_, ?_, hn, hnc, hcm, by omega⟩
          · refine Own.mono (B := w.heap.size + 2) ?_ (by omega)
            repeat (first | (with_reducible refine Own.setCell ?_ (by (try simp); (try omega)) _) | (with_reducible refine Own.alloc ?_ _) | (with_reducible refine Own.drew ?_))
            exact (D5.out.wrd.widen (Nat.le_refl _) (Nat.le_of_lt D5.out.arn.1)).out
          · refine Own.mono (B := w1.heap.size + 1) ?_ (by omega)
            repeat (first | (with_reducible refine Own.setCell ?_ (by (try simp); (try omega)) _) | (with_reducible refine Own.alloc ?_ _) | (with_reducible refine Own.drew ?_))
            exact HO.out
          · repeat (first | (with_reducible refine Below.setCell ?_ (by (try simp); (try omega)) _) | (with_reducible refine Below.alloc ?_ (by (try simp); (try omega)) _) | (with_reducible refine Below.drew ?_))
            exact D5.out.bel
      · have hv1' : ((v : Int) == 1) = false := by simp; omega
        obtain ⟨ra, rc, hrv, _⟩ := row_shape D5.out.row
        first | subst hrv | (have hrv' := hrv.symm; simp only [Value.slice.injEq, true_and] at hrv'; obtain ⟨rfl, rfl⟩ := hrv'; clear hrv)
        have HO := Lib.hid (own_of_row D5.out.row)
        have hT := D5.out.arn; have cT0 := hT.at 0 rfl; have cT1 := hT.at 1 rfl; have cT2 := hT.at 2 rfl; have cT3 := hT.at 3 rfl; have lT := hT.1
        have hR := D5.out.res; have cR0 := hR.at 0 rfl; have fR0 := hR.free 0 rfl; have cR1 := hR.at 1 rfl; have fR1 := hR.free 1 rfl; have cR2 := hR.at 2 rfl; have fR2 := hR.free 2 rfl; have cR3 := hR.at 3 rfl; have fR3 := hR.free 3 rfl; have lR := hR.1
        have hz := D5.out.bel.size
        have hPw := D5.out.hP
        clear hT hR
        go_wp2
        refine bodyPost_ret (v := .tuple #[.agg #[.int .i64 h, .slice a n c, .int .i64 ac, .int .i64 bu], .slice ra l.length rc]) (by simp [results, Try.results64, go_sem, cR0, cR1, cR2, cR3]) rfl ⟨h, ac, bu, n, c, a, f, l, ra, rc, rfl, ?_, ?_, ?_, hn, hnc, hcm, by omega⟩
        · refine Own.mono (B := w.heap.size + 2) ?_ (by omega)
          repeat (first | (with_reducible refine Own.setCell ?_ (by (try simp); (try omega)) _) | (with_reducible refine Own.alloc ?_ _) | (with_reducible refine Own.drew ?_))
          exact (D5.out.wrd.widen (Nat.le_refl _) (Nat.le_of_lt D5.out.arn.1)).out
        · refine Own.mono (B := w1.heap.size + 1) ?_ (by omega)
          repeat (first | (with_reducible refine Own.setCell ?_ (by (try simp); (try omega)) _) | (with_reducible refine Own.alloc ?_ _) | (with_reducible refine Own.drew ?_))
          exact HO.out
        · repeat (first | (with_reducible refine Below.setCell ?_ (by (try simp); (try omega)) _) | (with_reducible refine Below.alloc ?_ (by (try simp); (try omega)) _) | (with_reducible refine Below.drew ?_))
          exact D5.out.bel

set_option maxRecDepth 100000 in
set_option maxHeartbeats 6400000 in
theorem e4_near (HI0 : DrawIA) (ca : Option Addr) (k kc : Nat) (B : Nat → Int) (w : World) (hs : SrcB w w.heap.size ca k B) (hk : k ≤ 1048576) :
    Calls Try.prog 4 #[.slice ca k kc] w (RetBool w true) := by
  have SB := Lib.hid hs; have hfc := ir_code
  clear hs
  go_enter Try.func4, Try.ntmps4
  go_wp2_with fail
  refine (big_no _ _ _ _ hk).mono ?_
  rintro e w' ⟨rfl, rfl⟩
  go_wp2_with fail
  refine (HI0 ca k kc B _ SB.out hk).mono ?_
  rintro e w1 ⟨h, ac, bu, a, n, c, f, ra, l, rc, h', ac', bu', a', n', c', f', rb, l', rd, rfl, ha, hnc, hcm, hq, ha', hnc', hcm', hq', hb⟩
  obtain ⟨co, L, hask⟩ := isAsk_some h n f ac bu l
  obtain ⟨co', L', hask'⟩ := isAsk_some h' n' f' ac' bu' l'
  obtain ⟨r, hr⟩ := isIA_some co co' f L l f' L' l'
  have HASK := Lib.hid hask; have HASK' := Lib.hid hask'; have HR := Lib.hid hr; have HRS := Lib.hid (isIA_symm hr); have HRR := Lib.hid (isIA_refl hask)
  have D1 : Hid (LA w ((w1.alloc (.cells #[.int .i64 h, .slice a n c, .int .i64 ac, .int .i64 bu] 26)).alloc (.cells #[.int .i64 h', .slice a' n' c', .int .i64 ac', .int .i64 bu'] 26)) w1.heap.size h ac bu a n c f ra l h' ac' bu' a' n' c' f' rb l') := Lib.hid
    ⟨(hb.alloc hb.size _).alloc (by have := hb.size; simp; omega) _, (Blk.new_at (w := w1) (cs := #[.int .i64 h, .slice a n c, .int .i64 ac, .int .i64 bu]) (t := 26) w1.heap.size rfl).alloc _, Blk.new_at (w := w1.alloc (.cells #[.int .i64 h, .slice a n c, .int .i64 ac, .int .i64 bu] 26)) (w1.heap.size + 1) (by simp), (ha.alloc _).alloc _, (hq.alloc _).alloc _, (ha'.alloc _).alloc _, (hq'.alloc _).alloc _⟩
  clear hask hask' hr hb ha hq ha' hq' SB
  go_wp2_with fail
  refine (implIA_any h ac bu a n c f ra l rc co L h' ac' bu' a' n' c' f' rb l' rd co' L' r _ D1.out.wa hnc hcm D1.out.ra HASK.out D1.out.wb hnc' hcm' D1.out.rb HASK'.out HR.out).mono ?_
  rintro e w2 ⟨rfl, hb⟩
  have D2 := Lib.hid (D1.out.below hb)
  clear hb D1
  generalize w1.heap.size = P at *
  have cA0 := D2.out.ab.at 0 rfl; have cB0 := D2.out.bb.at 0 rfl
  have cA1 := D2.out.ab.at 1 rfl; have cB1 := D2.out.bb.at 1 rfl
  have cA2 := D2.out.ab.at 2 rfl; have cB2 := D2.out.bb.at 2 rfl
  have cA3 := D2.out.ab.at 3 rfl; have cB3 := D2.out.bb.at 3 rfl
  go_wp2_with fail
  clear cA0 cB0 cA1 cB1 cA2 cB2 cA3 cB3
  refine (specIA_any h ac bu a n c f ra l rc co L h' ac' bu' a' n' c' f' rb l' rd co' L' r _ D2.out.wa hnc hcm D2.out.ra HASK.out D2.out.wb hnc' hcm' D2.out.rb HASK'.out HR.out).mono ?_
  rintro e w3 ⟨rfl, hb⟩
  have D3 := Lib.hid (D2.out.below hb)
  clear hb D2
  have cA0 := D3.out.ab.at 0 rfl; have cB0 := D3.out.bb.at 0 rfl
  have cA1 := D3.out.ab.at 1 rfl; have cB1 := D3.out.bb.at 1 rfl
  have cA2 := D3.out.ab.at 2 rfl; have cB2 := D3.out.bb.at 2 rfl
  have cA3 := D3.out.ab.at 3 rfl; have cB3 := D3.out.bb.at 3 rfl
  go_wp2_with fail
  clear cA0 cB0 cA1 cB1 cA2 cB2 cA3 cB3
  refine (implIA_any h' ac' bu' a' n' c' f' rb l' rd co' L' h ac bu a n c f ra l rc co L r _ D3.out.wb hnc' hcm' D3.out.rb HASK'.out D3.out.wa hnc hcm D3.out.ra HASK.out HRS.out).mono ?_
  rintro e w4 ⟨rfl, hb⟩
  have D4 := Lib.hid (D3.out.below hb)
  clear hb D3
  have cA0 := D4.out.ab.at 0 rfl; have cB0 := D4.out.bb.at 0 rfl
  have cA1 := D4.out.ab.at 1 rfl; have cB1 := D4.out.bb.at 1 rfl
  have cA2 := D4.out.ab.at 2 rfl; have cB2 := D4.out.bb.at 2 rfl
  have cA3 := D4.out.ab.at 3 rfl; have cB3 := D4.out.bb.at 3 rfl
  go_wp2_with fail
  clear cA0 cB0 cA1 cB1 cA2 cB2 cA3 cB3
  have D5 := Lib.hid D4.out.drew
  go_region_held3 (fun w' => w'.cell? ⟨P, 0, none⟩ = some (.int .i64 h) ∧ w'.cell? ⟨P, 1, none⟩ = some (.slice a n c) ∧ w'.cell? ⟨P, 2, none⟩ = some (.int .i64 ac) ∧ w'.cell? ⟨P, 3, none⟩ = some (.int .i64 bu) ∧ w'.cell? ⟨P + 1, 0, none⟩ = some (.int .i64 h') ∧ w'.cell? ⟨P + 1, 1, none⟩ = some (.slice a' n' c') ∧ w'.cell? ⟨P + 1, 2, none⟩ = some (.int .i64 ac') ∧ w'.cell? ⟨P + 1, 3, none⟩ = some (.int .i64 bu'))
    (first | (with_reducible exact D4.out.c8) | (with_reducible exact D5.out.c8) | (with_reducible exact D6.out.c8) | (with_reducible exact D7.out.c8))
    (first | (go_at_call 21; (refine (implIA_any h ac bu a n c f ra l rc co L h ac bu a n c f ra l rc co L (decide (co = 0)) _ D5.out.wa hnc hcm D5.out.ra HASK.out D5.out.wa hnc hcm D5.out.ra HASK.out HRR.out).mono ?_); rintro e w6 ⟨rfl, hb⟩; have D6 := Lib.hid (D5.out.below hb); clear hb) | (go_at_call 27; (refine (specRF_any h ac bu a n c f ra l rc co L _ D6.out.wa hnc hcm D6.out.ra HASK.out).mono ?_); rintro e w7 ⟨xa, xc, rfl, _, hb⟩; have D7 := Lib.hid (D6.out.below hb); clear hb))
  have hde : (decide (co = 0) == (co == 0)) = true := by by_cases h0 : co = 0 <;> simp [h0]
  go_wp2
  rw [hde]
  go_ret
  exact ⟨rfl, D7.out.bel⟩
end Go.Proofs.Ytihbenbfnpiikaa

namespace Go.Proofs.Ytihbenbfnpiikaa
open Go.RowKit
set_option linter.unusedVariables false

def RetCol3 (W : World) (f : Nat → Int) (L : List Ob) (R : List Int) (P : Nat) (X : List Ob) (roots : List Int) (h ac : Int) (n : Nat) (e : Ending) (w' : World) : Prop :=
  ∃ (a : Option Addr) (c : Nat) (ra : Option Addr) (rc mid : Nat) (g : Nat → Int), e = .returned (.tuple #[.agg #[.int .i64 h, .slice a n c, .int .i64 (1 - ac), .int .i64 (totO X : Int)], .slice ra roots.length rc]) ∧
    IsCol f L R P g ∧ OwnIn w' W.heap.size mid a n g ∧ w'.ownsRow mid 2 1 (.slice ra roots.length rc) roots.length (nums roots.length (lf (roots.map (goes R (newPlaces P X))))) ∧ mid ≤ w'.heap.size ∧ W.heap.size ≤ mid ∧ Below W.heap.size W w' ∧ n ≤ c ∧ c ≤ maxLen

set_option maxRecDepth 100000 in
set_option maxHeartbeats 6400000 in
theorem l4CollectR_any (b m : Nat) (ac bu : Int) (a : Option Addr) (c : Nat) (f : Nat → Int) (ra : Option Addr) (roots : List Int) (rc : Nat) (L : List Ob) (w : World) (hB : Blk w b [.int .i64 (m : Int), .slice a (2 * m) c, .int .i64 ac, .int .i64 bu]) (hs : Src w a (2 * m) f) (hcn : 2 * m ≤ c) (hcm : c ≤ maxLen) (hrs : Src w ra roots.length (lf roots)) (hk : IsSF (m : Int) (2 * m) f ac bu 0) (ho : IsOI (m : Int) (2 * m) f ac bu 0 L) (h60 : roots.length ≤ 60) (hall : ∀ p ∈ roots, p ∈ placesO L) :
    Calls Try.prog 75 #[.pointer (some ⟨b, 0, none⟩), .slice ra roots.length rc] w (RetCol3 w f L (reachO f L roots) (baseI (1 - ac) (m : Int)).toNat (objsO L (reachO f L roots)) roots (m : Int) ac (2 * m)) := by
  have hri := right_of hk ho
  have hsub := reachO_sub hri.points hri.size hall
  have hlen := objsO_length hsub
  have htot := tot_fits hk ho hall
  have hsm := reach_small (co := 0) (roots := roots) (.inr (.inr (.inr ⟨hk, ho, h60, hall, rfl⟩)))
  rw [outR_zero] at hsm
  have hrl := hsm.1
  obtain ⟨⟨⟨g1, g2⟩, ⟨g3, g4⟩, g5, g6⟩, gn, gw⟩ := isFault_ok (isOI_zero ho).1
  obtain ⟨P, hP⟩ : ∃ P : Nat, baseI (1 - ac) (m : Int) = (P : Int) := ⟨(baseI (1 - ac) (m : Int)).toNat, by have := baseI_bd (ac := 1 - ac) g1; omega⟩
  have hPm : P ≤ m := by have := baseI_bd (ac := 1 - ac) g1; omega
  have hPt : (baseI (1 - ac) (m : Int)).toNat = P := by omega
  obtain ⟨R, hR⟩ : ∃ R, reachO f L roots = R := ⟨_, rfl⟩
  obtain ⟨X, hX⟩ : ∃ X, objsO L R = X := ⟨_, rfl⟩
  rw [hPt, hR, hX]
  rw [hR] at hsub hlen htot hrl
  rw [hX] at hlen htot
  have hfit : P + totO X ≤ 2 * m := by omega
  have HB := Lib.hid hB; have HS := Lib.hid hs; have HK := Lib.hid hk; have HCM := Lib.hid hcm; have HRS := Lib.hid hrs; have HO := Lib.hid ho; have HALL := Lib.hid hall; have HRI := Lib.hid hri; have HSUB := Lib.hid hsub; have HLEN := Lib.hid hlen; have HP := Lib.hid hP; have HR := Lib.hid hR; have HX := Lib.hid hX
  have lb := HB.out.1; have cb0 := HB.out.at 0 rfl; have cb1 := HB.out.at 1 rfl; have cb2 := HB.out.at 2 rfl; have cb3 := HB.out.at 3 rfl
  obtain ⟨i0, hif, hz0, hz1, hz2⟩ := info_parts Try.info2
  clear hB hs hk hcm hrs ho hall hri hsub hlen hP hR hX hPt gn gw hsm htot
  go_enter Try.func75, Try.ntmps75
  go_wp2_with fail
  have HB0 := Lib.hid ((Below.refl w.heap.size w).alloc (Nat.le_refl _) (.cells #[.int .i64 0, .slice none 0 0, .int .i64 0, .int .i64 0] 26))
  have X0 := Lib.hid (Blk.new_at (w := w) (cs := #[.int .i64 0, .slice none 0 0, .int .i64 0, .int .i64 0]) (t := 26) w.heap.size rfl)
  have z0 : w.heap.size + 1 ≤ (w.alloc (.cells #[.int .i64 0, .slice none 0 0, .int .i64 0, .int .i64 0] 26)).heap.size := by simp
  generalize w.alloc (.cells #[.int .i64 0, .slice none 0 0, .int .i64 0, .int .i64 0] 26) = w0 at *
  refine (l3Objs_any b (m : Int) ac bu a (2 * m) c f L _ (HB.out.below HB0.out) (HS.out.below HB0.out) hcn HCM.out HO.out).mono ?_
  rintro e w1 ⟨hb, v, M, hL, rfl, hm⟩
  have HB1 := Lib.hid (thru0 HB0.out hb)
  have X1 := Lib.hid (X0.out.below hb)
  have HM := Lib.hid hm
  have HL := Lib.hid hL
  have z1 := hb.size
  clear hb hm hL X0 HB0
  go_wp2_with fail
  refine (l4Reach_any v M w0.heap.size w0.heap.size ra roots rc f _ HM.out (by rw [← HL.out]; exact HRI.out.points) (HRS.out.below HB1.out) (by omega) (by rw [← HL.out]; exact HALL.out)).mono ?_
  rw [← HL.out, HR.out]
  rintro e w2 ⟨a2, c2, rfl, ho2, hb, h21, h22, h23⟩
  have HB2 := Lib.hid (thru0 HB1.out hb)
  have X2 := Lib.hid (X1.out.below hb)
  have HM2 := Lib.hid (HM.out.below hb)
  have HR2 := Lib.hid ho2.src
  have z2 := hb.size
  clear hb ho2 h21 h22 h23 X1 HB1 HM
  have cw0 := (HB.out.below HB2.out).at 0 rfl
  have cw2 := (HB.out.below HB2.out).at 2 rfl
  clear cb0 cb1 cb2 cb3
  go_wp2_with fail
  refine (l1New_any m _ (by omega)).mono ?_
  rintro e w3 ⟨a3, c3, rfl, ho3, hb, h31, h32, h33⟩
  obtain ⟨g, q, rfl, hgl, hgs⟩ : ∃ g q, a3 = some ⟨g, q, none⟩ ∧ w2.heap.size ≤ g ∧ g < w3.heap.size := by
    rcases ho3 with h0 | ⟨g, q, e1, e2, e3, _⟩
    · omega
    · exact ⟨g, q, e1, e2, e3⟩
  have z3 := hb.size
  have HB3 := Lib.hid hb
  have HO3 := Lib.hid (ho3.into.widen (Nat.le_refl _) (Nat.le_succ _))
  have HC3 := Lib.hid (And.intro h31 h32)
  have cz2 := ((HB.out.below HB2.out).below hb).at 2 rfl
  clear hb ho3 h32 h33 cw0 cw2
  have lb3 : b < w3.heap.size := by omega
  go_wp2_with fail
  have HCS : Hid (CS w2 ((w3.alloc (.cells #[.int .i64 (m : Int), .slice (some ⟨g, q, none⟩) (2 * m) c3, .int .i64 (1 - ac), .int .i64 0] 26)).alloc (.cells #[] 2)) w3.heap.size g q (m : Int) (1 - ac) 0 (2 * m) c3 (.slice (some ⟨w3.heap.size + 1, 0, none⟩) 0 0) [] (fun _ => 0)) := Lib.hid (by
    refine ⟨(((HB3.out).alloc z3 _).alloc (by simp; omega) _), (Blk.new_at w3.heap.size rfl).alloc _, (HO3.out.alloc _).alloc _, ?_⟩
    have h9 := World.ownsRow_lit (w3.alloc (.cells #[.int .i64 (m : Int), .slice (some ⟨g, q, none⟩) (2 * m) c3, .int .i64 (1 - ac), .int .i64 0] 26)) #[] 0 (e := 2) (size := 1) (Nat.le_refl _) (by simp [maxLen]) rfl
    simpa [nums] using h9)
  have hw2 : w2.heap.size ≤ w3.heap.size := z3
  have HT0 : Hid (CS w2 ((w3.alloc (.cells #[.int .i64 (m : Int), .slice (some ⟨g, q, none⟩) (2 * m) c3, .int .i64 (1 - ac), .int .i64 0] 26)).alloc (.cells #[] 2)) w3.heap.size g q (m : Int) (1 - ac) ((totO (X.take 0) : Nat) : Int) (2 * m) c3 (.slice (some ⟨w3.heap.size + 1, 0, none⟩) 0 0) [] (fun _ => 0)) := HCS
  clear HCS HO3 HB3 cz2
  generalize (w3.alloc (.cells #[.int .i64 (m : Int), .slice (some ⟨g, q, none⟩) (2 * m) c3, .int .i64 (1 - ac), .int .i64 0] 26)).alloc (.cells #[] 2) = w5 at *
  clear z3 lb3
  generalize w3.heap.size = b3 at *
  obtain ⟨a1, k1, rfl⟩ := row_nil HM2.out.row
  go_loopw [10, 11] (fun u p wr => ∃ (i : Nat) (l : List Int) (G : Nat → Int), i ≤ R.length ∧ p = .int .i64 (i : Int) ∧ l.length = i ∧ Hid (CS w2 wr b3 g q (m : Int) (1 - ac) ((totO (X.take i) : Nat) : Int) (2 * m) c3 u l G) ∧ Hid (l = (newPlaces P X).take i) ∧ Hid (ColOn f R P X (fun j d => j < i ∧ d < 2) G)) (fun _ p _ => R.length - (intOf p).toNat)
  case atStart => exact ⟨0, [], fun _ => 0, by omega, rfl, rfl, HT0, Lib.hid (by simp), Lib.hid (colOn_zero.less (fun j d _ _ h => by omega))⟩
  case round =>
    clear HT0
    obtain ⟨i, l, G, hi, rfl, hll, HC, HLL, HON⟩ := hrel
    have hl4 : l.length ≤ 400 := by omega
    have HLI := Lib.hid hll
    clear hll
    have hbw := HC.out.bel.size
    have hbl := HC.out.arn.1
    by_cases hlt : i < R.length
    · have hlt' : (i : Int) < (R.length : Int) := by omega
      have hi0 : (0 : Int) ≤ (i : Int) := by omega
      have hiX : i < X.length := by rw [HLEN.out]; exact hlt
      obtain ⟨rb, ro, rfl, hrb, hrc⟩ := src_some (HR2.out.below HC.out.bel) (by omega)
      have c0 := hrc i hlt
      obtain ⟨y, hy⟩ : ∃ y, lf R i = y := ⟨_, rfl⟩
      obtain ⟨x, hx⟩ : ∃ x, X[i] = x := ⟨_, rfl⟩
      have HF : Hid (findO L y = some x) := Lib.hid (by
        have h9 := objsO_get HSUB.out i hlt (by rw [HX.out]; exact hiX)
        rw [← hy, ← hx, lf_at hlt, h9]
        simp only [HX.out])
      have HXX := Lib.hid hx
      rw [hy] at c0
      clear hrc hy hx
      go_wp2_with fail
      refine ((HM2.out.below HC.out.bel).find y).mono ?_
      rintro e w' ⟨rfl, hf⟩
      rw [← HL.out] at hf
      rcases hf with ⟨hf, rfl⟩ | ⟨j, x', hf, hx, rfl⟩
      · rw [HF.out] at hf; cases hf
      rw [HF.out] at hf
      obtain rfl := Option.some.inj hf
      rw [HL.out] at hx
      obtain ⟨g1, c1, gg, cc, e1, hjm, l1, x0, x1, x2, x3, x4, x5, lg, hfc, ⟨s0, s1⟩, hmm, hat, hwd⟩ := HM2.out.get hx
      simp only [Value.slice.injEq] at e1
      obtain ⟨rfl, -, rfl⟩ := e1
      have hj' : (j : Int) < (M.length : Int) := by omega
      have hj0 : (0 : Int) ≤ (j : Int) := by omega
      have HOKX := Lib.hid (HRI.out.ok x (List.mem_of_find?_eq_some HF.out))
      have hend := placeAt_end P X hiX
      have HWO : Hid (wordsO X[i] = 2 + x.s.toNat) := Lib.hid (by rw [HXX.out]; rfl)
      rw [HWO.out] at hend
      have HPL : Hid (placeAt P X i = P + totO (X.take i)) := Lib.hid rfl
      have HTT : Hid (((totO (X.take i) : Nat) : Int) + (x.s + 2) = ((totO (X.take (i + 1)) : Nat) : Int)) := Lib.hid (by rw [totO_take X hiX, HWO.out]; omega)
      obtain ⟨K, hK⟩ : ∃ K, placeAt P X i = K := ⟨_, rfl⟩
      rw [hK] at hend
      have HKK := Lib.hid hK
      have HHD := Lib.hid (show HdAt w2 g1 (j * 6 + 1) x.s x.m x.o x.h from ⟨l1, x1, x2, x3, x4⟩)
      clear hf hx hfc hwd hat x0 x1 x2 x3 x4 x5 lg hK hmm
      go_wp2_with fail
      refine (l3Put_at w2.heap.size (b3 + 1) b3 g1 (j * 6 + 1) g q P (totO (X.take i)) K (m : Int) (1 - ac) x.s x.m x.o x.h (2 * m) c3 G _ ⟨⟨hw2, by omega⟩, ⟨hgl, by omega⟩, by omega, by omega, by omega⟩ (by omega) HC.out.arn (HHD.out.below HC.out.bel) HC.out.wrd (by omega) (by omega) (by omega) (by omega) HP.out (by omega) (by rw [← HKK.out]; exact HPL.out) (by omega) HOKX.out.1).mono ?_
      rintro e w6 ⟨rfl, hA, hO, hk⟩
      rw [HTT.out] at hA
      have HC6 := Lib.hid (HC.out.put hw2 hk hA hO)
      have HON6 : Hid (ColOn f R P X (fun j d => j < i + 1 ∧ d < 2) (upd (upd G K (1 + 2 * (x.s + 16 * (x.m + 4096 * x.o)))) (K + 1) x.h)) := Lib.hid (by
        have q1 := HON.out.put hiX (d := 0) (by rw [HWO.out]; omega) (K := K) (by rw [HKK.out]; rfl) (v := 1 + 2 * (x.s + 16 * (x.m + 4096 * x.o))) (by unfold colAt; rw [if_pos rfl, HXX.out]; rfl)
        have q2 := q1.put hiX (d := 1) (by rw [HWO.out]; omega) (K := K + 1) (by rw [HKK.out]) (v := x.h) (by unfold colAt; rw [if_neg (by omega), if_pos rfl, HXX.out])
        exact q2.less (fun j d _ _ h => by omega))
      have hz6 := hk.size
      have hbl6 := hA.1
      clear hA hO hk HC HON c0
      obtain ⟨la, lc, rfl, -⟩ := row_src HC6.out.row
      have HLN : Hid (l ++ [(K : Int)] = (newPlaces P X).take (i + 1)) := Lib.hid (by rw [newPlaces_take P X hiX, ← HLL.out, HKK.out])
      go_wp2_with (at_builtin; go_loud (refine wpList_append_lies _ rfl _ _ 24 rfl (b3 + 1) 2 i0 (.int .i64 0) 1 8 Try.underlying24 hif hz0 hz1 hz2 rfl (by decide) (.slice la l.length lc) l.length (nums l.length (lf l)) rfl (ownsRow_below HC6.out.row ((Below.refl _ _).alloc (Nat.le_refl _) _)) ⟨w6.heap.size, 0, none⟩ 1 1 [.int .i64 (K : Int)] rfl rfl (news1 w6 (K : Int)) (by intro u hu; simp only [List.mem_cons, List.mem_nil_iff, or_false] at hu; subst hu; rfl) (by omega) (by unfold maxLen; omega) (by omega) (by simp; omega) (w6.heap.size + 1) (by simp) ?_); intro g9 cap9 w9 hown9 hgrow9 hat9 hlt9)
      have HC9 := Lib.hid (HC6.out.append hw2 hgrow9 (u' := .slice (some ⟨g9, 0, none⟩) (l.length + 1) cap9) (l' := l ++ [(K : Int)]) (by rw [show (l ++ [(K : Int)]).length = l.length + 1 by simp, ← nums_snoc]; exact hown9))
      clear hown9 hgrow9 hat9 HC6
      go_wp2
      go_roundw
      case rel => first | exact ⟨i + 1, l ++ [(K : Int)], _, by omega, by go_num, by rw [List.length_append, HLI.out]; rfl, HC9, HLN, HON6⟩ | ((repeat apply Exists.intro); exact ⟨⟨i + 1, l ++ [(K : Int)], _, by omega, by go_num, by rw [List.length_append, HLI.out]; rfl, HC9, HLN, HON6⟩, rfl⟩)
      case measure => simp [intOf]; omega
    · have hlt' : ¬ (i : Int) < (R.length : Int) := by omega
      obtain rfl : i = R.length := by omega
      obtain ⟨Q, hQ⟩ : ∃ Q, newPlaces P X = Q := ⟨_, rfl⟩
      have hlq : l = Q := by rw [HLL.out, hQ, List.take_of_length_le (by rw [← hQ, newPlaces_length, HLEN.out]; exact Nat.le_refl _)]
      subst hlq
      have HQL : Hid (l.length = R.length) := HLI
      have HQA : Hid (∀ i, i < R.length → lf l i = (placeAt P X i : Int)) := Lib.hid (fun i hi => by rw [← hQ]; exact newPlaces_lf P X (by rw [HLEN.out]; exact hi))
      have HQ := Lib.hid hQ
      have HC1 : Hid (CS w2 wr b3 g q (m : Int) (1 - ac) ((totO X : Nat) : Int) (2 * m) c3 u10 l G) := Lib.hid (by
        have h9 := HC.out
        rwa [List.take_of_length_le (by rw [HLEN.out]; exact Nat.le_refl _)] at h9)
      have HON1 : Hid (ColOn f R P X (fun j d => d < 2 ∨ j < 0) G) := Lib.hid (HON.out.less (fun j d hj _ h => by have := HLEN.out; omega))
      clear HC HON HLL HLI hQ
      obtain ⟨pa, pc, rfl, -⟩ := row_src HC1.out.row
      have HQX : Hid (l = newPlaces P X) := Lib.hid HQ.out.symm
      generalize l = Q at *
      clear HQ
      go_wp2
      go_loopw [12] (fun p wr => ∃ (i : Nat) (G : Nat → Int), i ≤ R.length ∧ p = .int .i64 (i : Int) ∧ Hid (CS w2 wr b3 g q (m : Int) (1 - ac) ((totO X : Nat) : Int) (2 * m) c3 (.slice pa Q.length pc) Q G) ∧ Hid (ColOn f R P X (fun j d => d < 2 ∨ j < i) G)) (fun p _ => R.length - (intOf p).toNat)
      case atStart => exact ⟨0, G, by omega, rfl, HC1, HON1⟩
      case round =>
        clear HC1 HON1 hbw hbl
        obtain ⟨i, G, hi, rfl, HC, HON⟩ := hrel
        have hbw := HC.out.bel.size
        have hbl := HC.out.arn.1
        by_cases hlt : i < R.length
        · have hlt' : (i : Int) < (R.length : Int) := by omega
          have hi0 : (0 : Int) ≤ (i : Int) := by omega
          have hiX : i < X.length := by rw [HLEN.out]; exact hlt
          obtain ⟨rb, ro, rfl, hrb, hrc⟩ := src_some (HR2.out.below HC.out.bel) (by omega)
          have c0 := hrc i hlt
          obtain ⟨y, hy⟩ : ∃ y, lf R i = y := ⟨_, rfl⟩
          obtain ⟨x, hx⟩ : ∃ x, X[i] = x := ⟨_, rfl⟩
          have HF : Hid (findO L y = some x) := Lib.hid (by
            have h9 := objsO_get HSUB.out i hlt (by rw [HX.out]; exact hiX)
            rw [← hy, ← hx, lf_at hlt, h9]
            simp only [HX.out])
          have HXX := Lib.hid hx
          have HYR : Hid (y ∈ R) := Lib.hid (hy ▸ lf_mem hlt)
          rw [hy] at c0
          clear hrc hy hx
          go_wp2_with fail
          refine ((HM2.out.below HC.out.bel).find y).mono ?_
          rintro e w' ⟨rfl, hf⟩
          rw [← HL.out] at hf
          rcases hf with ⟨hf, rfl⟩ | ⟨j, x', hf, hx, rfl⟩
          · rw [HF.out] at hf; cases hf
          rw [HF.out] at hf
          obtain rfl := Option.some.inj hf
          rw [HL.out] at hx
          obtain ⟨g1, c1, gg, cc, e1, hjm, l1, x0, x1, x2, x3, x4, x5, lg, hfc, ⟨s0, s1⟩, hmm, hat, hwd⟩ := HM2.out.get hx
          simp only [Value.slice.injEq] at e1
          obtain ⟨rfl, -, rfl⟩ := e1
          have hj' : (j : Int) < (M.length : Int) := by omega
          have hj0 : (0 : Int) ≤ (j : Int) := by omega
          have HFC := Lib.hid hfc; have HWD := Lib.hid hwd
          have hend := placeAt_end P X hiX
          have HWO : Hid (wordsO X[i] = 2 + x.s.toNat) := Lib.hid (by rw [HXX.out]; rfl)
          rw [HWO.out] at hend
          obtain ⟨K, hK⟩ : ∃ K, placeAt P X i = K := ⟨_, rfl⟩
          rw [hK] at hend
          have HKK := Lib.hid hK
          clear hf hx hfc hwd hat x0 x3 x4 hK
          have HC0 : Hid (ColOn f R P X (fun j d => d < 2 ∨ j < i ∨ (j = i ∧ d < 2 + 0)) G) := Lib.hid (HON.out.less (fun j d _ _ h => by omega))
          go_wp2
          go_loopw [14] (fun p wr => ∃ (k : Nat) (G : Nat → Int), (k : Int) ≤ x.s ∧ p = .int .i64 (k : Int) ∧ Hid (CS w2 wr b3 g q (m : Int) (1 - ac) ((totO X : Nat) : Int) (2 * m) c3 (.slice pa Q.length pc) Q G) ∧ Hid (ColOn f R P X (fun j d => d < 2 ∨ j < i ∨ (j = i ∧ d < 2 + k)) G)) (fun p _ => x.s.toNat - (intOf p).toNat)
          case atStart => exact ⟨0, G, by omega, rfl, HC, HC0⟩
          case round =>
            clear HC HC0 HON c0 hbw hbl
            obtain ⟨k, G, hks, rfl, HCQ, HONQ⟩ := hrel
            have hbw := HCQ.out.bel.size
            have hbl := HCQ.out.arn.1
            have x1q := (HCQ.out.bel.cell (p := ⟨g1, j * 6 + 1, none⟩) l1).trans x1
            have x2q := (HCQ.out.bel.cell (p := ⟨g1, j * 6 + 2, none⟩) l1).trans x2
            have x5q := (HCQ.out.bel.cell (p := ⟨g1, j * 6 + 5, none⟩) l1).trans x5
            have l1q : g1 < wr.heap.size := by omega
            by_cases hltk : (k : Int) < x.s
            · have hkt : k < x.s.toNat := by omega
              have hkn : (k : Int) < (x.s.toNat : Int) := by omega
              have hk0 : (0 : Int) ≤ (k : Int) := by omega
              have fk := (HCQ.out.bel.cell (p := ⟨gg, k, none⟩) lg).trans (HFC.out k hkt)
              obtain ⟨w1', w2'⟩ := HWD.out k hkt
              have HRS2 := Lib.hid (fun q => (HR2.out.below HCQ.out.bel).below (drewN_below wr q))
              have HCD := Lib.hid (fun q => HCQ.out.below (drewN_below wr q))
              have HTG := Lib.hid (fun hb h0 => by
                have h9 := reach_target (L := L) (roots := roots) HK.out HO.out HALL.out (y := y) (by rw [HR.out]; exact HYR.out) HF.out hkt hb h0
                rw [HR.out] at h9
                exact goes_mem (Q := newPlaces P X) h9)
              obtain ⟨Y, hY⟩ : ∃ Y, f (x.at_.toNat + 2 + k) = Y := ⟨_, rfl⟩
              have HY := Lib.hid hY
              rw [hY] at fk w1' w2' HTG
              clear hY
              have hdd : x.m / P2 k % 2 = 1 ∨ x.m / P2 k % 2 = 0 := by omega
              rcases hdd with hd | hd
              · by_cases h0 : Y = 0
                · have HB1' := Lib.hid hd
                  subst h0
                  clear HTG HRS2
                  go_wp2_with fail
                  refine (l2Pointer_at g1 (j * 6 + 1) k x.m true _ x2q hmm (by omega) (by rw [hd]; rfl)).mono ?_
                  rintro e w5 ⟨rfl, q5, rfl⟩
                  have HC6 := Lib.hid (HCD.out q5)
                  clear HCD x1q x2q x5q fk HCQ hbw hbl
                  have hbw6 := HC6.out.bel.size
                  have hbl6 := HC6.out.arn.1
                  generalize wr.drewN q5 = w6 at *
                  clear hd
                  go_wp2
                  obtain ⟨pb, po, rfl, hpb, hpl, hpc⟩ : ∃ pb po, pa = some ⟨pb, po, none⟩ ∧ b3 + 1 ≤ pb ∧ pb < w6.heap.size ∧ ∀ i, i < Q.length → w6.cell? ⟨pb, po + i, none⟩ = some (.int .i64 (lf Q i)) := by
                    rcases own_of_row HC6.out.row with h0 | ⟨pb, po, e1, e2, e3, e4⟩
                    · have := HQL.out; omega
                    · exact ⟨pb, po, e1, e2, e3, fun i hi => (e4 i hi).1⟩
                  have hci := hpc i (by have := HQL.out; omega)
                  rw [HQA.out i hlt, HKK.out] at hci
                  have A6 := Lib.hid HC6.out.arn
                  have hgb : g ≠ b3 := by omega
                  have hgp : g ≠ pb := by omega
                  have Ad := Lib.hid A6.out.drew
                  have Aw := Lib.hid ((A6.out.other (p := ⟨g, q + (K + 2 + k), none⟩) hgb (.int .i64 0)).drew)
                  have Aw2 := Lib.hid (Ad.out.other (p := ⟨g, q + (K + 2 + k), none⟩) hgb (.int .i64 0))
                  have hcd : w6.drew.cell? ⟨pb, po + i, none⟩ = some (.int .i64 (K : Int)) := ((Below.refl w6.heap.size w6).drew.cell (p := ⟨pb, po + i, none⟩) hpl).trans hci
                  have hcw : (w6.setCell ⟨g, q + (K + 2 + k), none⟩ (.int .i64 0)).drew.cell? ⟨pb, po + i, none⟩ = some (.int .i64 (K : Int)) := by
                    have h1 : (w6.setCell ⟨g, q + (K + 2 + k), none⟩ (.int .i64 0)).cell? ⟨pb, po + i, none⟩ = some (.int .i64 (K : Int)) := by rw [World.cell?_setCell_other _ _ _ _ (fun e => hgp (by have := congrArg Addr.block e; first | exact this | exact this.symm))]; exact hci
                    simpa using h1
                  have hcw2 : (w6.drew.setCell ⟨g, q + (K + 2 + k), none⟩ (.int .i64 0)).cell? ⟨pb, po + i, none⟩ = some (.int .i64 (K : Int)) := by
                    rw [World.cell?_setCell_other _ _ _ _ (fun e => hgp (by have := congrArg Addr.block e; first | exact this | exact this.symm))]; exact hcd
                  have a1 := A6.out.at 1 rfl
                  have la := A6.out.1
                  have hkI0 : (0 : Int) ≤ (K : Int) + 2 + (k : Int) := by omega
                  have hkI1 : (K : Int) + 2 + (k : Int) < ((2 * m : Nat) : Int) := by omega
                  have hkI1' : (K : Int) + 2 + (k : Int) < 2 * (m : Int) := by omega
                  have hpi0 : (i : Int) < (Q.length : Int) := by have := HQL.out; omega
                  have hi0' : (0 : Int) ≤ (i : Int) := by omega
                  obtain ⟨dd, hdd⟩ := ownIn_cell3 HC6.out.wrd (K + 2 + k) (by omega)
                  have hdf := (hdd.2).2
                  have hgl6 := hdd.1
                  have hd6 := (hdd.2).1
                  have HC9 : Hid (CS w2 ((w6.setCell ⟨g, q + (K + 2 + k), none⟩ (.int .i64 0)).drew) b3 g q (m : Int) (1 - ac) ((totO X : Nat) : Int) (2 * m) c3 (.slice (some ⟨pb, po, none⟩) Q.length pc) Q (upd G (K + 2 + k) 0)) := Lib.hid
                    ((HC6.out.put hw2 (keeps_setCell (p := ⟨g, q + (K + 2 + k), none⟩) hgl (by show g < b3 + 1; omega) (.int .i64 0)) (HC6.out.arn.other hgb _) (ownIn_put HC6.out.wrd (K + 2 + k) (by omega) 0)).below (Below.refl _ _).drew)
                  have HON9 : Hid (ColOn f R P X (fun j d => d < 2 ∨ j < i ∨ (j = i ∧ d < 2 + (k + 1))) (upd G (K + 2 + k) 0)) := Lib.hid (by
                    have q1 := HONQ.out.put hiX (d := 2 + k) (by rw [HWO.out]; omega) (K := K + 2 + k) (by rw [HKK.out]; omega) (v := 0) (by
                      unfold colAt
                      rw [if_neg (by omega), if_neg (by omega), show 2 + k - 2 = k by omega, HXX.out]
                      unfold mapF; rw [if_neg (fun h => h.2 HY.out), HY.out])
                    exact q1.less (fun j d _ _ h => by omega))
                  have HDD := Lib.hid hdd
                  clear hpc hdd
                  have hwA : IntKind.i64.wrap ((K : Int) + 2) = (K : Int) + 2 := IntWalk.i64_in _ (by omega)
                  have hwB : IntKind.i64.wrap ((K : Int) + 2 + (k : Int)) = (K : Int) + 2 + (k : Int) := IntWalk.i64_in _ (by omega)
                  have hwC : ((K : Int) + 2 + (k : Int)).toNat = K + 2 + k := by omega
                  go_region_held3 (fun w' => w'.cell? ⟨b3, 1, none⟩ = some (.slice (some ⟨g, q, none⟩) (2 * m) c3) ∧ w'.cell? ⟨pb, po + i, none⟩ = some (.int .i64 (K : Int)))
                    (first | (with_reducible exact two_cells A6.out hci) | (with_reducible exact two_cells Ad.out hcd) | (with_reducible exact two_cells Aw.out hcw) | (with_reducible exact two_cells Aw2.out hcw2))
                    (fail)
                  clear hwA hwB hwC hcw hcw2 hcd a1 A6 Ad Aw Aw2 hd6 hdf
                  generalize (w6.setCell ⟨g, q + (K + 2 + k), none⟩ (.int .i64 0)).drew = w9 at *
                  go_wp2
                  go_roundw
                  case rel => first | exact ⟨k + 1, _, by omega, by go_num, HC9, HON9⟩ | ((repeat apply Exists.intro); exact ⟨⟨k + 1, _, by omega, by go_num, HC9, HON9⟩, rfl⟩)
                  case measure => simp [intOf]; omega
                · obtain ⟨t, ht1, ht2, ht3⟩ := HTG.out hd h0
                  have HNI : Hid (numI R (Y - 1) = (t : Int)) := Lib.hid (by unfold numI; rw [ht1])
                  obtain ⟨z, hz⟩ : ∃ z : Nat, placeAt P X t = z := ⟨_, rfl⟩
                  have hzb : z ≤ 400 := by have := placeAt_top P X t; omega
                  have HG3 : Hid (goes R (newPlaces P X) (Y - 1) = (z : Int)) := Lib.hid (by rw [ht3, newPlaces_get P X (by rw [HLEN.out]; exact ht2), hz])
                  have HZ := Lib.hid hz
                  have HB1' := Lib.hid hd
                  have HB2' := Lib.hid h0
                  have h0b : (Y != 0) = true := by simpa using h0
                  clear h0
                  clear HTG ht1 ht3 hz
                  go_wp2_with fail
                  refine (l2Pointer_at g1 (j * 6 + 1) k x.m true _ x2q hmm (by omega) (by rw [hd]; rfl)).mono ?_
                  rintro e w5 ⟨rfl, q5, rfl⟩
                  have HC6 := Lib.hid (HCD.out q5)
                  have HR6 := Lib.hid (HRS2.out q5)
                  clear HCD HRS2 x1q x2q x5q fk HCQ hbw hbl
                  have hbw6 := HC6.out.bel.size
                  have hbl6 := HC6.out.arn.1
                  generalize wr.drewN q5 = w6 at *
                  clear hd
                  go_wp2_with fail
                  refine (l4Number_any (some ⟨rb, ro, none⟩) R c2 (Y - 1) _ HR6.out (by omega)).mono ?_
                  rintro e w' ⟨rfl, rfl⟩
                  rw [HNI.out]
                  obtain ⟨pb, po, rfl, hpb, hpl, hpc⟩ : ∃ pb po, pa = some ⟨pb, po, none⟩ ∧ b3 + 1 ≤ pb ∧ pb < w6.heap.size ∧ ∀ i, i < Q.length → w6.cell? ⟨pb, po + i, none⟩ = some (.int .i64 (lf Q i)) := by
                    rcases own_of_row HC6.out.row with h0 | ⟨pb, po, e1, e2, e3, e4⟩
                    · have := HQL.out; omega
                    · exact ⟨pb, po, e1, e2, e3, fun i hi => (e4 i hi).1⟩
                  have hzc := hpc t (by have := HQL.out; omega)
                  rw [HQA.out t ht2, HZ.out] at hzc
                  have htq : (t : Int) < (Q.length : Int) := by have := HQL.out; omega
                  have ht0 : (0 : Int) ≤ (t : Int) := by omega
                  go_wp2
                  have hci := hpc i (by have := HQL.out; omega)
                  rw [HQA.out i hlt, HKK.out] at hci
                  have A6 := Lib.hid HC6.out.arn
                  have hgb : g ≠ b3 := by omega
                  have hgp : g ≠ pb := by omega
                  have Ad := Lib.hid A6.out.drew
                  have Aw := Lib.hid ((A6.out.other (p := ⟨g, q + (K + 2 + k), none⟩) hgb (.int .i64 ((z : Int) + 1))).drew)
                  have Aw2 := Lib.hid (Ad.out.other (p := ⟨g, q + (K + 2 + k), none⟩) hgb (.int .i64 ((z : Int) + 1)))
                  have hcd : w6.drew.cell? ⟨pb, po + i, none⟩ = some (.int .i64 (K : Int)) := ((Below.refl w6.heap.size w6).drew.cell (p := ⟨pb, po + i, none⟩) hpl).trans hci
                  have hcw : (w6.setCell ⟨g, q + (K + 2 + k), none⟩ (.int .i64 ((z : Int) + 1))).drew.cell? ⟨pb, po + i, none⟩ = some (.int .i64 (K : Int)) := by
                    have h1 : (w6.setCell ⟨g, q + (K + 2 + k), none⟩ (.int .i64 ((z : Int) + 1))).cell? ⟨pb, po + i, none⟩ = some (.int .i64 (K : Int)) := by rw [World.cell?_setCell_other _ _ _ _ (fun e => hgp (by have := congrArg Addr.block e; first | exact this | exact this.symm))]; exact hci
                    simpa using h1
                  have hcw2 : (w6.drew.setCell ⟨g, q + (K + 2 + k), none⟩ (.int .i64 ((z : Int) + 1))).cell? ⟨pb, po + i, none⟩ = some (.int .i64 (K : Int)) := by
                    rw [World.cell?_setCell_other _ _ _ _ (fun e => hgp (by have := congrArg Addr.block e; first | exact this | exact this.symm))]; exact hcd
                  have a1 := A6.out.at 1 rfl
                  have la := A6.out.1
                  have hkI0 : (0 : Int) ≤ (K : Int) + 2 + (k : Int) := by omega
                  have hkI1 : (K : Int) + 2 + (k : Int) < ((2 * m : Nat) : Int) := by omega
                  have hkI1' : (K : Int) + 2 + (k : Int) < 2 * (m : Int) := by omega
                  have hpi0 : (i : Int) < (Q.length : Int) := by have := HQL.out; omega
                  have hi0' : (0 : Int) ≤ (i : Int) := by omega
                  obtain ⟨dd, hdd⟩ := ownIn_cell3 HC6.out.wrd (K + 2 + k) (by omega)
                  have hdf := (hdd.2).2
                  have hgl6 := hdd.1
                  have hd6 := (hdd.2).1
                  have HC9 : Hid (CS w2 ((w6.setCell ⟨g, q + (K + 2 + k), none⟩ (.int .i64 ((z : Int) + 1))).drew) b3 g q (m : Int) (1 - ac) ((totO X : Nat) : Int) (2 * m) c3 (.slice (some ⟨pb, po, none⟩) Q.length pc) Q (upd G (K + 2 + k) ((z : Int) + 1))) := Lib.hid
                    ((HC6.out.put hw2 (keeps_setCell (p := ⟨g, q + (K + 2 + k), none⟩) hgl (by show g < b3 + 1; omega) (.int .i64 ((z : Int) + 1))) (HC6.out.arn.other hgb _) (ownIn_put HC6.out.wrd (K + 2 + k) (by omega) ((z : Int) + 1))).below (Below.refl _ _).drew)
                  have HON9 : Hid (ColOn f R P X (fun j d => d < 2 ∨ j < i ∨ (j = i ∧ d < 2 + (k + 1))) (upd G (K + 2 + k) ((z : Int) + 1))) := Lib.hid (by
                    have q1 := HONQ.out.put hiX (d := 2 + k) (by rw [HWO.out]; omega) (K := K + 2 + k) (by rw [HKK.out]; omega) (v := (z : Int) + 1) (by
                      unfold colAt
                      rw [if_neg (by omega), if_neg (by omega), show 2 + k - 2 = k by omega, HXX.out]
                      unfold mapF; rw [if_pos ⟨HB1'.out, fun h => HB2'.out (HY.out.symm.trans h)⟩, HY.out, HG3.out])
                    exact q1.less (fun j d _ _ h => by omega))
                  have HDD := Lib.hid hdd
                  clear hpc hdd
                  have hwA : IntKind.i64.wrap ((K : Int) + 2) = (K : Int) + 2 := IntWalk.i64_in _ (by omega)
                  have hwB : IntKind.i64.wrap ((K : Int) + 2 + (k : Int)) = (K : Int) + 2 + (k : Int) := IntWalk.i64_in _ (by omega)
                  have hwC : ((K : Int) + 2 + (k : Int)).toNat = K + 2 + k := by omega
                  go_region_held3 (fun w' => w'.cell? ⟨b3, 1, none⟩ = some (.slice (some ⟨g, q, none⟩) (2 * m) c3) ∧ w'.cell? ⟨pb, po + i, none⟩ = some (.int .i64 (K : Int)))
                    (first | (with_reducible exact two_cells A6.out hci) | (with_reducible exact two_cells Ad.out hcd) | (with_reducible exact two_cells Aw.out hcw) | (with_reducible exact two_cells Aw2.out hcw2))
                    (fail)
                  clear hwA hwB hwC hcw hcw2 hcd a1 A6 Ad Aw Aw2 hd6 hdf
                  generalize (w6.setCell ⟨g, q + (K + 2 + k), none⟩ (.int .i64 ((z : Int) + 1))).drew = w9 at *
                  go_wp2
                  go_roundw
                  case rel => first | exact ⟨k + 1, _, by omega, by go_num, HC9, HON9⟩ | ((repeat apply Exists.intro); exact ⟨⟨k + 1, _, by omega, by go_num, HC9, HON9⟩, rfl⟩)
                  case measure => simp [intOf]; omega
              · have HB1' : Hid (¬ x.m / P2 (k : Int) % 2 = 1) := Lib.hid (by omega)
                clear HTG HRS2
                go_wp2_with fail
                refine (l2Pointer_at g1 (j * 6 + 1) k x.m false _ x2q hmm (by omega) (by rw [hd]; rfl)).mono ?_
                rintro e w5 ⟨rfl, q5, rfl⟩
                have HC6 := Lib.hid (HCD.out q5)
                clear HCD x1q x2q x5q fk HCQ hbw hbl
                have hbw6 := HC6.out.bel.size
                have hbl6 := HC6.out.arn.1
                generalize wr.drewN q5 = w6 at *
                clear hd
                go_wp2
                obtain ⟨pb, po, rfl, hpb, hpl, hpc⟩ : ∃ pb po, pa = some ⟨pb, po, none⟩ ∧ b3 + 1 ≤ pb ∧ pb < w6.heap.size ∧ ∀ i, i < Q.length → w6.cell? ⟨pb, po + i, none⟩ = some (.int .i64 (lf Q i)) := by
                  rcases own_of_row HC6.out.row with h0 | ⟨pb, po, e1, e2, e3, e4⟩
                  · have := HQL.out; omega
                  · exact ⟨pb, po, e1, e2, e3, fun i hi => (e4 i hi).1⟩
                have hci := hpc i (by have := HQL.out; omega)
                rw [HQA.out i hlt, HKK.out] at hci
                have A6 := Lib.hid HC6.out.arn
                have hgb : g ≠ b3 := by omega
                have hgp : g ≠ pb := by omega
                have Ad := Lib.hid A6.out.drew
                have Aw := Lib.hid ((A6.out.other (p := ⟨g, q + (K + 2 + k), none⟩) hgb (.int .i64 (Y))).drew)
                have Aw2 := Lib.hid (Ad.out.other (p := ⟨g, q + (K + 2 + k), none⟩) hgb (.int .i64 (Y)))
                have hcd : w6.drew.cell? ⟨pb, po + i, none⟩ = some (.int .i64 (K : Int)) := ((Below.refl w6.heap.size w6).drew.cell (p := ⟨pb, po + i, none⟩) hpl).trans hci
                have hcw : (w6.setCell ⟨g, q + (K + 2 + k), none⟩ (.int .i64 (Y))).drew.cell? ⟨pb, po + i, none⟩ = some (.int .i64 (K : Int)) := by
                  have h1 : (w6.setCell ⟨g, q + (K + 2 + k), none⟩ (.int .i64 (Y))).cell? ⟨pb, po + i, none⟩ = some (.int .i64 (K : Int)) := by rw [World.cell?_setCell_other _ _ _ _ (fun e => hgp (by have := congrArg Addr.block e; first | exact this | exact this.symm))]; exact hci
                  simpa using h1
                have hcw2 : (w6.drew.setCell ⟨g, q + (K + 2 + k), none⟩ (.int .i64 (Y))).cell? ⟨pb, po + i, none⟩ = some (.int .i64 (K : Int)) := by
                  rw [World.cell?_setCell_other _ _ _ _ (fun e => hgp (by have := congrArg Addr.block e; first | exact this | exact this.symm))]; exact hcd
                have a1 := A6.out.at 1 rfl
                have la := A6.out.1
                have hkI0 : (0 : Int) ≤ (K : Int) + 2 + (k : Int) := by omega
                have hkI1 : (K : Int) + 2 + (k : Int) < ((2 * m : Nat) : Int) := by omega
                have hkI1' : (K : Int) + 2 + (k : Int) < 2 * (m : Int) := by omega
                have hpi0 : (i : Int) < (Q.length : Int) := by have := HQL.out; omega
                have hi0' : (0 : Int) ≤ (i : Int) := by omega
                obtain ⟨dd, hdd⟩ := ownIn_cell3 HC6.out.wrd (K + 2 + k) (by omega)
                have hdf := (hdd.2).2
                have hgl6 := hdd.1
                have hd6 := (hdd.2).1
                have HC9 : Hid (CS w2 ((w6.setCell ⟨g, q + (K + 2 + k), none⟩ (.int .i64 (Y))).drew) b3 g q (m : Int) (1 - ac) ((totO X : Nat) : Int) (2 * m) c3 (.slice (some ⟨pb, po, none⟩) Q.length pc) Q (upd G (K + 2 + k) (Y))) := Lib.hid
                  ((HC6.out.put hw2 (keeps_setCell (p := ⟨g, q + (K + 2 + k), none⟩) hgl (by show g < b3 + 1; omega) (.int .i64 (Y))) (HC6.out.arn.other hgb _) (ownIn_put HC6.out.wrd (K + 2 + k) (by omega) (Y))).below (Below.refl _ _).drew)
                have HON9 : Hid (ColOn f R P X (fun j d => d < 2 ∨ j < i ∨ (j = i ∧ d < 2 + (k + 1))) (upd G (K + 2 + k) (Y))) := Lib.hid (by
                  have q1 := HONQ.out.put hiX (d := 2 + k) (by rw [HWO.out]; omega) (K := K + 2 + k) (by rw [HKK.out]; omega) (v := Y) (by
                    unfold colAt
                    rw [if_neg (by omega), if_neg (by omega), show 2 + k - 2 = k by omega, HXX.out]
                    unfold mapF; rw [if_neg (fun h => HB1'.out h.1), HY.out])
                  exact q1.less (fun j d _ _ h => by omega))
                have HDD := Lib.hid hdd
                clear hpc hdd
                have hwA : IntKind.i64.wrap ((K : Int) + 2) = (K : Int) + 2 := IntWalk.i64_in _ (by omega)
                have hwB : IntKind.i64.wrap ((K : Int) + 2 + (k : Int)) = (K : Int) + 2 + (k : Int) := IntWalk.i64_in _ (by omega)
                have hwC : ((K : Int) + 2 + (k : Int)).toNat = K + 2 + k := by omega
                go_region_held3 (fun w' => w'.cell? ⟨b3, 1, none⟩ = some (.slice (some ⟨g, q, none⟩) (2 * m) c3) ∧ w'.cell? ⟨pb, po + i, none⟩ = some (.int .i64 (K : Int)))
                  (first | (with_reducible exact two_cells A6.out hci) | (with_reducible exact two_cells Ad.out hcd) | (with_reducible exact two_cells Aw.out hcw) | (with_reducible exact two_cells Aw2.out hcw2))
                  (fail)
                clear hwA hwB hwC hcw hcw2 hcd a1 A6 Ad Aw Aw2 hd6 hdf
                generalize (w6.setCell ⟨g, q + (K + 2 + k), none⟩ (.int .i64 (Y))).drew = w9 at *
                go_wp2
                go_roundw
                case rel => first | exact ⟨k + 1, _, by omega, by go_num, HC9, HON9⟩ | ((repeat apply Exists.intro); exact ⟨⟨k + 1, _, by omega, by go_num, HC9, HON9⟩, rfl⟩)
                case measure => simp [intOf]; omega
            · have HON2 : Hid (ColOn f R P X (fun j d => d < 2 ∨ j < i + 1) G) := Lib.hid (HONQ.out.less (fun j d hj hd h => by
                by_cases hji : j = i
                · subst hji
                  have := HWO.out
                  omega
                · omega))
              go_wp2
              go_roundw
              case rel => first | exact ⟨i + 1, G, by omega, by go_num, HCQ, HON2⟩ | ((repeat apply Exists.intro); exact ⟨⟨i + 1, G, by omega, by go_num, HCQ, HON2⟩, rfl⟩)
              case measure => simp [intOf]; omega
        · have hlt' : ¬ (i : Int) < (R.length : Int) := by omega
          obtain rfl : i = R.length := by omega
          have HCOL : Hid (IsCol f L R P G) := Lib.hid (isCol_of (by rw [HX.out]; exact HON.out.less (fun j d hj _ _ => by have := HLEN.out; omega)))
          clear hbw hbl HON
          generalize wr = w7 at *
          have HB7 := Lib.hid (HB2.out.trans (HC.out.bel.mono HB2.out.size))
          have hz7 := HB7.out.size
          have hz72 := HC.out.bel.size
          have hb37 := HC.out.arn.1
          have OW7 : Hid ((w7.alloc (.cells #[] 2)).ownsRow w7.heap.size 2 1 (.slice (some ⟨w7.heap.size, 0, none⟩) 0 0) ([] : List Int).length (nums ([] : List Int).length (lf []))) := Lib.hid (by
            have h9 := World.ownsRow_lit w7 #[] 0 (e := 2) (size := 1) (Nat.le_refl _) (by simp [maxLen]) rfl
            simpa [nums] using h9)
          have HA7 : Hid (Below w7.heap.size w7 (w7.alloc (.cells #[] 2))) := Lib.hid ((Below.refl _ _).alloc (Nat.le_refl _) _)
          go_wp2
          generalize w7.alloc (.cells #[] 2) = w8 at *
          go_loopw [16, 17] (fun u p wr => ∃ (i : Nat) (l : List Int), i ≤ roots.length ∧ p = .int .i64 (i : Int) ∧ l.length = i ∧ Hid (Below w7.heap.size w7 wr) ∧ Hid (wr.ownsRow w7.heap.size 2 1 u l.length (nums l.length (lf l))) ∧ Hid (l = (roots.map (goes R (newPlaces P X))).take i)) (fun _ p _ => roots.length - (intOf p).toNat)
          case atStart => exact ⟨0, [], by omega, rfl, rfl, HA7, OW7, Lib.hid (by simp)⟩
          case round =>
            clear HA7 OW7
            obtain ⟨i, l, hi, rfl, hll, HB, OW, HLL⟩ := hrel
            have hl4 : l.length ≤ 400 := by omega
            have HLI := Lib.hid hll
            have hzr := HB.out.size
            clear hll
            by_cases hlt : i < roots.length
            · have hlt' : (i : Int) < (roots.length : Int) := by omega
              have hi0 : (0 : Int) ≤ (i : Int) := by omega
              obtain ⟨rb, ro, rfl, hrb, hrc⟩ := src_some ((HRS.out.below HB7.out).below HB.out) (by omega)
              have c0 := hrc i hlt
              have HYR : Hid (lf roots i ∈ R) := Lib.hid (by rw [← HR.out]; exact reachO_roots f L roots _ (lf_mem hlt))
              have HLA : Hid ((roots.map (goes R (newPlaces P X))).take (i + 1) = (roots.map (goes R (newPlaces P X))).take i ++ [goes R (newPlaces P X) (lf roots i)]) := Lib.hid (by
                rw [List.take_succ_eq_append_getElem (by simpa using hlt), lf_at hlt]; simp)
              obtain ⟨y, hy⟩ : ∃ y, lf roots i = y := ⟨_, rfl⟩
              rw [hy] at c0 HYR HLA
              obtain ⟨t, ht1, ht2, ht3⟩ := goes_mem (Q := newPlaces P X) HYR.out
              have HNI : Hid (numI R y = (t : Int)) := Lib.hid (by unfold numI; rw [ht1])
              obtain ⟨z, hz⟩ : ∃ z : Nat, placeAt P X t = z := ⟨_, rfl⟩
              have HG3 : Hid (goes R (newPlaces P X) y = (z : Int)) := Lib.hid (by rw [ht3, newPlaces_get P X (by rw [HLEN.out]; exact ht2), hz])
              have HZ := Lib.hid hz
              clear hrc hy ht1 ht3 hz
              have HR7 := Lib.hid ((HR2.out.below HC.out.bel).below HB.out)
              obtain ⟨pb, po, rfl, hpb, hpl, hpc⟩ : ∃ pb po, pa = some ⟨pb, po, none⟩ ∧ b3 + 1 ≤ pb ∧ pb < w7.heap.size ∧ ∀ i, i < Q.length → w7.cell? ⟨pb, po + i, none⟩ = some (.int .i64 (lf Q i)) := by
                rcases own_of_row HC.out.row with h0 | ⟨pb, po, e1, e2, e3, e4⟩
                · have := HQL.out; omega
                · exact ⟨pb, po, e1, e2, e3, fun i hi => (e4 i hi).1⟩
              have hzc := hpc t (by have := HQL.out; omega)
              rw [HQA.out t ht2, HZ.out] at hzc
              have hzd := (HB.out.cell (p := ⟨pb, po + t, none⟩) hpl).trans hzc
              have hplr : pb < wr.heap.size := by omega
              have htq : (t : Int) < (Q.length : Int) := by have := HQL.out; omega
              have ht0 : (0 : Int) ≤ (t : Int) := by omega
              clear hpc hzc
              obtain ⟨la, lc, rfl, -⟩ := row_src OW.out
              have HGE : Hid (∀ k, (Value.slice la l.length lc).ownBlock = some k → w7.heap.size ≤ k) := Lib.hid (fun k hk => (OW.out.lt k hk).1)
              go_wp2_with fail
              refine (l4Number_any a2 R c2 y _ HR7.out (by omega)).mono ?_
              rintro e w' ⟨rfl, rfl⟩
              rw [HNI.out]
              go_wp2_with (at_builtin; go_loud (refine wpList_append_lies _ rfl _ _ 24 rfl (w7.heap.size) 2 i0 (.int .i64 0) 1 8 Try.underlying24 hif hz0 hz1 hz2 rfl (by decide) (.slice la l.length lc) l.length (nums l.length (lf l)) rfl (ownsRow_below OW.out ((Below.refl _ _).alloc (Nat.le_refl _) _)) ⟨wr.heap.size, 0, none⟩ 1 1 [.int .i64 (z : Int)] rfl rfl (news1 wr (z : Int)) (by intro u hu; simp only [List.mem_cons, List.mem_nil_iff, or_false] at hu; subst hu; rfl) (by omega) (by unfold maxLen; omega) (by omega) (by simp; omega) (wr.heap.size + 1) (by simp) ?_); intro g9 cap9 w9 hown9 hgrow9 hat9 hlt9)
              have HB9 : Hid (Below w7.heap.size w7 w9) := Lib.hid ((HB.out.alloc hzr _).grown hgrow9 (by simp; omega) (fun k hk => HGE.out k hk))
              have OW9 : Hid (w9.ownsRow w7.heap.size 2 1 (.slice (some ⟨g9, 0, none⟩) (l.length + 1) cap9) (l ++ [(z : Int)]).length (nums (l ++ [(z : Int)]).length (lf (l ++ [(z : Int)])))) := Lib.hid (by rw [show (l ++ [(z : Int)]).length = l.length + 1 by simp, ← nums_snoc]; exact hown9)
              have HLL9 : Hid (l ++ [(z : Int)] = (roots.map (goes R (newPlaces P X))).take (i + 1)) := Lib.hid (by rw [HLA.out, ← HLL.out, HG3.out])
              clear hown9 hgrow9 hat9 hzd c0
              go_wp2
              go_roundw
              case rel => first | exact ⟨i + 1, l ++ [(z : Int)], by omega, by go_num, by rw [List.length_append, HLI.out]; rfl, HB9, OW9, HLL9⟩ | ((repeat apply Exists.intro); exact ⟨⟨i + 1, l ++ [(z : Int)], by omega, by go_num, by rw [List.length_append, HLI.out]; rfl, HB9, OW9, HLL9⟩, rfl⟩)
              case measure => simp [intOf]; omega
            · have hlt' : ¬ (i : Int) < (roots.length : Int) := by omega
              obtain rfl : i = roots.length := by omega
              have hle : l = roots.map (goes R (newPlaces P X)) := by rw [HLL.out, List.take_of_length_le (by simp)]
              have HLE := Lib.hid hle
              clear hle
              have AF := Lib.hid (HC.out.arn.below HB.out)
              have XF := Lib.hid ((X2.out.below HC.out.bel).below HB.out)
              have WF := Lib.hid (HC.out.wrd.below HB.out)
              have HBF := Lib.hid (HB7.out.trans (HB.out.mono hz7))
              obtain ⟨la, lc, rfl, hlo⟩ := own_of_row' OW.out
              have HLO := Lib.hid hlo
              clear hlo
              have lA := AF.out.1; have cA0 := AF.out.at 0 rfl; have cA1 := AF.out.at 1 rfl; have cA2 := AF.out.at 2 rfl; have cA3 := AF.out.at 3 rfl
              have lX := XF.out.1; have cX0 := XF.out.at 0 rfl; have fX0 := XF.out.free 0 rfl; have cX1 := XF.out.at 1 rfl; have fX1 := XF.out.free 1 rfl; have cX2 := XF.out.at 2 rfl; have fX2 := XF.out.free 2 rfl; have cX3 := XF.out.at 3 rfl; have fX3 := XF.out.free 3 rfl
              go_wp2
              have hneX : ∀ k, (⟨w.heap.size, k, none⟩ : Addr).block < w2.heap.size := fun k => by show w.heap.size < w2.heap.size; omega
              refine bodyPost_ret (v := .tuple #[.agg #[.int .i64 (m : Int), .slice (some ⟨g, q, none⟩) (2 * m) c3, .int .i64 (1 - ac), .int .i64 ((totO X : Nat) : Int)], .slice la l.length lc]) (by simp [results, Try.results75, go_sem, cX0, cX1, cX2, cX3]) rfl ⟨some ⟨g, q, none⟩, c3, la, lc, w7.heap.size, G, by rw [HLI.out], HCOL.out, ?_, ?_, ?_, hz7, ?_, HC3.out⟩
              · refine OwnIn.widen (lo := w2.heap.size) (hi := b3 + 1) ?_ (by omega) (by omega)
                repeat (with_reducible refine OwnIn.setCell ?_ (.inl (hneX _)) _)
                exact WF.out
              · rw [← HLE.out, ← HLI.out]
                refine row_keeps (w := wr) (lo := w.heap.size) (hi := w.heap.size + 1) OW.out ?_ (by omega)
                repeat (refine Keeps.trans ?_ (keeps_setCell (Nat.le_refl _) (Nat.lt_succ_self _) _))
                exact Keeps.refl _ _ _
              · simp; omega
              · repeat (first | (with_reducible refine Below.setCell ?_ (by (try simp); (try omega)) _) | (with_reducible refine Below.alloc ?_ (by (try simp); (try omega)) _) | (with_reducible refine Below.drew ?_))
                exact HBF.out
end Go.Proofs.Ytihbenbfnpiikaa

