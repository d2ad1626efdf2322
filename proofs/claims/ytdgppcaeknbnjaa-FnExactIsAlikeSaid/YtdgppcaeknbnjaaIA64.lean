/- Texts merged: Y4 to Y5. -/
import Derived.Test.YtdgppcaeknbnjaaIA63
import Derived.Deep.RegionWith
namespace Go.Proofs.Ytdgppcaeknbnjaa
open Go.RowKit Go.Maps
set_option linter.unusedVariables false

def RetInU (W : World) (f : Nat → Int) (roots : List Int) (co : Int) (L : List Ob) (e : Ending) (w' : World) : Prop :=
  Below W.heap.size W w' ∧ ∃ (a : Option Addr) (N c : Nat) (mv : Option Nat), e = .returned (.agg #[.int .i64 co, .slice a N c, .map mv]) ∧ (co = 0 → N = (reachO f L roots).length ∧ ∃ mb T, mv = some mb ∧ GV w' a (reachO f L roots).length T ∧ MapT w' mb (reachO f L roots).length (reachO f L roots) idV ∧ ∀ i, i < (reachO f L roots).length → ∃ x, findO L (lf (reachO f L roots) i) = some x ∧ GSame (T i) (obG f x))

theorem inU {W : World} {f : Nat → Int} {roots : List Int} {co : Int} {L : List Ob} {e : Ending} {w' : World} (h : RetIn W f roots co L e w') : RetInU W f roots co L e w' := by
  obtain ⟨h1, h2⟩ := h
  refine ⟨h1, ?_⟩
  rcases h2 with ⟨h0, rfl⟩ | ⟨rfl, a, c, mb, T, rfl, hg, hm, hs⟩
  · exact ⟨_, _, _, _, rfl, fun h => absurd h h0⟩
  · exact ⟨_, _, _, _, rfl, fun _ => ⟨rfl, mb, T, rfl, hg, hm, hs⟩⟩

theorem inU_any (h ac bu : Int) (a : Option Addr) (n c : Nat) (f : Nat → Int) (ra : Option Addr) (ra_ : List Int) (rc : Nat) (co : Int) (L : List Ob) (w : World) (hs : Src w a n f) (hcn : n ≤ c) (hcm : c ≤ maxLen) (hrs : Src w ra ra_.length (lf ra_)) (hk : IsAsk h n f ac bu ra_ co L) : Calls Try.prog 51 #[.agg #[.int .i64 h, .slice a n c, .int .i64 ac, .int .i64 bu], .slice ra ra_.length rc] w (RetInU w f ra_ co L) :=
  (reachIn_any h ac bu a n c f ra ra_ rc co L w hs hcn hcm hrs hk).mono fun e w' h => inU h

theorem eight {w : World} {b d : Nat} {u0 u1 u2 u3 v0 v1 v2 v3 : Value} (h : Blk w b [u0, u1, u2, u3]) (k : Blk w d [v0, v1, v2, v3]) : w.cell? ⟨b, 0, none⟩ = some u0 ∧ w.cell? ⟨b, 1, none⟩ = some u1 ∧ w.cell? ⟨b, 2, none⟩ = some u2 ∧ w.cell? ⟨b, 3, none⟩ = some u3 ∧ w.cell? ⟨d, 0, none⟩ = some v0 ∧ w.cell? ⟨d, 1, none⟩ = some v1 ∧ w.cell? ⟨d, 2, none⟩ = some v2 ∧ w.cell? ⟨d, 3, none⟩ = some v3 := ⟨h.at 0 rfl, h.at 1 rfl, h.at 2 rfl, h.at 3 rfl, k.at 0 rfl, k.at 1 rfl, k.at 2 rfl, k.at 3 rfl⟩

/-- The program's comparison is that of what is reached. -/
theorem so_iff {h ac bu : Int} {n : Nat} {f : Nat → Int} {L : List Ob} {ra : List Int} {h' ac' bu' : Int} {n' : Nat} {g : Nat → Int} {L' : List Ob} {rb : List Int} (hk : IsAsk h n f ac bu ra 0 L) (hk' : IsAsk h' n' g ac' bu' rb 0 L') {T U T' U' : Nat → GM}
    (hT : ∀ i, i < (reachO f L ra).length → ∃ x, findO L (lf (reachO f L ra) i) = some x ∧ GSame (T i) (obG f x)) (hU : ∀ i, i < (reachO f L ra).length → GSame (U i) (mvT (reachO f L ra) idV (T i)))
    (hT' : ∀ i, i < (reachO g L' rb).length → ∃ x, findO L' (lf (reachO g L' rb) i) = some x ∧ GSame (T' i) (obG g x)) (hU' : ∀ i, i < (reachO g L' rb).length → GSame (U' i) (mvT (reachO g L' rb) idV (T' i))) :
    ((reachO f L ra).length = (reachO g L' rb).length ∧ ∀ i, i < (reachO f L ra).length → GSame (U i) (U' i)) ↔ ((reachO f L ra).length = (reachO g L' rb).length ∧ ∀ i, i < (reachO f L ra).length → ∃ x y, findO L (lf (reachO f L ra) i) = some x ∧ findO L' (lf (reachO g L' rb) i) = some y ∧ ObAlike f (reachO f L ra) x g (reachO g L' rb) y) := by
  obtain ⟨k1, k2, k3, k4⟩ := isAsk_zero hk
  obtain ⟨q1, q2, q3, q4⟩ := isAsk_zero hk'
  refine ⟨fun hh => ⟨hh.1, fun i hi => ?_⟩, fun hh => ⟨hh.1, fun i hi => ?_⟩⟩
  all_goals
    have hi' : i < (reachO g L' rb).length := by rw [← hh.1]; exact hi
    obtain ⟨x, hx, hs⟩ := hT i hi
    obtain ⟨y, hy, hs'⟩ := hT' i hi'
    obtain ⟨t1, t2, t3, t4, t5, t6, t7⟩ := hs
    obtain ⟨p1, p2, p3, p4, p5, p6, p7⟩ := hs'
    obtain ⟨u1, u2, u3, u4, u5, u6, u7⟩ := hU i hi
    obtain ⟨v1, v2, v3, v4, v5, v6, v7⟩ := hU' i hi'
    have us : (U i).s = x.s := u2.trans t2
    have um : (U i).m = x.m := u3.trans t3
    have uo : (U i).o = x.o := u4.trans t4
    have uh : (U i).h = x.h := u5.trans t5
    have un : (U i).n = x.s.toNat := u6.trans t6
    have vs : (U' i).s = y.s := v2.trans p2
    have vm : (U' i).m = y.m := v3.trans p3
    have vo : (U' i).o = y.o := v4.trans p4
    have vh : (U' i).h = y.h := v5.trans p5
    have vn : (U' i).n = y.s.toNat := v6.trans p6
    have tn : (T i).n = x.s.toNat := t6
    have pn : (T' i).n = y.s.toNat := p6
    have ua : (U i).at_ = (i : Int) := by
      have e1 : (T i).at_ = lf (reachO f L ra) i := t1.trans (findO_place hx)
      rw [u1]; show (tab _ _ (T i).at_).getD 0 = _
      rw [e1, tab_at (reachO_nodup f L ra) hi]; rfl
    have va : (U' i).at_ = (i : Int) := by
      have e1 : (T' i).at_ = lf (reachO g L' rb) i := p1.trans (findO_place hy)
      rw [v1]; show (tab _ _ (T' i).at_).getD 0 = _
      rw [e1, tab_at (reachO_nodup g L' rb) hi']; rfl
    have uf : ∀ k, k < x.s.toNat → (U i).f k = if x.m / P2 (k : Int) % 2 = 1 ∧ ¬ f (x.at_.toNat + 2 + k) = 0 then (tab (reachO f L ra) idV (f (x.at_.toNat + 2 + k) - 1)).getD 0 + 1 else f (x.at_.toNat + 2 + k) := fun k hk => by
      rw [u7 k (by omega)]
      show mvF _ _ (T i) k = _
      have e7 : (T i).f k = f (x.at_.toNat + 2 + k) := t7 k (by omega)
      have e3 : (T i).m = x.m := t3
      unfold mvF
      rw [e7, e3]
    have vf : ∀ k, k < y.s.toNat → (U' i).f k = if y.m / P2 (k : Int) % 2 = 1 ∧ ¬ g (y.at_.toNat + 2 + k) = 0 then (tab (reachO g L' rb) idV (g (y.at_.toNat + 2 + k) - 1)).getD 0 + 1 else g (y.at_.toNat + 2 + k) := fun k hk => by
      rw [v7 k (by omega)]
      show mvF _ _ (T' i) k = _
      have e7 : (T' i).f k = g (y.at_.toNat + 2 + k) := p7 k (by omega)
      have e3 : (T' i).m = y.m := p3
      unfold mvF
      rw [e7, e3]
    have hin : ∀ k, k < x.s.toNat → x.m / P2 (k : Int) % 2 = 1 → ¬ f (x.at_.toNat + 2 + k) = 0 → f (x.at_.toNat + 2 + k) - 1 ∈ reachO f L ra := fun k hk hb h0 => reach_target k1 k2 k4 (lf_mem hi) hx hk hb h0
    have hin' : ∀ k, k < y.s.toNat → y.m / P2 (k : Int) % 2 = 1 → ¬ g (y.at_.toNat + 2 + k) = 0 → g (y.at_.toNat + 2 + k) - 1 ∈ reachO g L' rb := fun k hk hb h0 => reach_target q1 q2 q4 (lf_mem hi') hy hk hb h0
  · obtain ⟨g1, g2, g3, g4, g5, g6, g7⟩ := hh.2 i hi
    have es : x.s = y.s := by rw [← us, ← vs]; exact g2
    have em : x.m = y.m := by rw [← um, ← vm]; exact g3
    refine ⟨x, y, hx, hy, ⟨es, em, by rw [← uo, ← vo]; exact g4, by rw [← uh, ← vh]; exact g5⟩, fun k hk => ?_⟩
    have e := g7 k (by omega)
    rw [uf k hk, vf k (by rw [← es]; exact hk), ← em] at e
    exact (fld_iff (hin k hk) (by rw [em]; exact hin' k (by rw [← es]; exact hk))).1 e
  · obtain ⟨x', y', e1, e2, ⟨es, em, eo, eh⟩, e4⟩ := hh.2 i hi
    rw [hx] at e1
    rw [hy] at e2
    obtain rfl := Option.some.inj e1
    obtain rfl := Option.some.inj e2
    refine ⟨by rw [ua, va], by rw [us, vs]; exact es, by rw [um, vm]; exact em, by rw [uo, vo]; exact eo, by rw [uh, vh]; exact eh, by rw [un, vn, es], fun k hk => ?_⟩
    have hk1 : k < x.s.toNat := by omega
    rw [uf k hk1, vf k (by rw [← es]; exact hk1), ← em]
    exact (fld_iff (hin k hk1) (by rw [em]; exact hin' k (by rw [← es]; exact hk1))).2 (e4 k hk1)

theorem roots_iff {f : Nat → Int} {L : List Ob} {ra : List Int} {g : Nat → Int} {L' : List Ob} {rb : List Int} :
    eqB ra.length rb.length (lf (ra.map fun p => (tab (reachO f L ra) idV p).getD 0)) (lf (rb.map fun p => (tab (reachO g L' rb) idV p).getD 0)) = true ↔ ra.length = rb.length ∧ ∀ i, i < ra.length → numL (reachO f L ra) (lf ra i) = numL (reachO g L' rb) (lf rb i) := by
  rw [eqB_iff]
  have key : ∀ (l R : List Int) (i : Nat), i < l.length → lf (l.map fun p => (tab R idV p).getD 0) i = (tab R idV (lf l i)).getD 0 := fun l R i hi => by
    rw [lf_at (by simpa using hi), lf_at hi]; simp
  constructor
  · rintro ⟨h1, h2⟩
    refine ⟨h1, fun i hi => ?_⟩
    have e := h2 i hi
    rw [key _ _ i hi, key _ _ i (by omega)] at e
    exact (tab_num_eq (reachO_roots f L ra _ (lf_mem hi)) (reachO_roots g L' rb _ (lf_mem (by omega)))).1 e
  · rintro ⟨h1, h2⟩
    refine ⟨h1, fun i hi => ?_⟩
    rw [key _ _ i hi, key _ _ i (by omega)]
    exact (tab_num_eq (reachO_roots f L ra _ (lf_mem hi)) (reachO_roots g L' rb _ (lf_mem (by omega)))).2 (h2 i hi)

theorem idV_bound {R : List Int} (h : R.length ≤ 400) : ∀ p, 0 ≤ (tab R idV p).getD 0 ∧ (tab R idV p).getD 0 ≤ 1000000 := fun p => by
  unfold tab
  cases hn : numL R p with
  | none => exact ⟨Int.le_refl _, by decide⟩
  | some i =>
    have hi : i < R.length := by
      unfold numL at hn
      exact (List.findIdx?_eq_some_iff_getElem.mp hn).1
    show 0 ≤ (i : Int) ∧ (i : Int) ≤ 1000000
    omega

/-- What is known of what was reached, where both codes are 0. -/
def InU2 (w : World) (z : Prop) (f : Nat → Int) (L : List Ob) (roots : List Int) (a : Option Addr) (N : Nat) (mv : Option Nat) : Prop :=
  z → N = (reachO f L roots).length ∧ ∃ mb T, mv = some mb ∧ GV w a (reachO f L roots).length T ∧ MapT w mb (reachO f L roots).length (reachO f L roots) idV ∧ ∀ i, i < (reachO f L roots).length → ∃ x, findO L (lf (reachO f L roots) i) = some x ∧ GSame (T i) (obG f x)

theorem InU2.below {w w' : World} {z : Prop} {f : Nat → Int} {L : List Ob} {roots : List Int} {a : Option Addr} {N : Nat} {mv : Option Nat} (h : InU2 w z f L roots a N mv) (hb : Below w.heap.size w w') : InU2 w' z f L roots a N mv := fun hz => by
  obtain ⟨h1, mb, T, h2, h3, h4, h5⟩ := h hz
  exact ⟨h1, mb, T, h2, h3.below hb, h4.below hb, h5⟩

def lainC (w : World) (R : Nat) (cc : Int) (x y : Value) : World := ((w.setCell ⟨R, 0, none⟩ (.int .i64 cc)).setCell ⟨R, 1, none⟩ x).setCell ⟨R, 2, none⟩ y

theorem InU2.lain {w : World} {z : Prop} {f : Nat → Int} {L : List Ob} {roots : List Int} {a : Option Addr} {N : Nat} {mv : Option Nat} {R : Nat} {cc : Int} {x y : Value} (h : InU2 w z f L roots a N mv) (hd : Dead w R) (hc : z → cc = 0) : InU2 (lainC w R cc x y) z f L roots a N mv := fun hz => by
  obtain ⟨h1, mb, T, h2, h3, h4, h5⟩ := h hz
  have e : lainC w R cc x y = Go.Proofs.Ytdgppcaeknbnjaa.lain w R x y := by unfold lainC Go.Proofs.Ytdgppcaeknbnjaa.lain; rw [hc hz]
  rw [e]
  exact ⟨h1, mb, T, h2, dead_gv hd h3 x y, dead_map hd h4 x y, h5⟩

theorem dead_block {w w' : World} {R : Nat} (h : Dead w R) (e : w'.heap[R]? = w.heap[R]?) : Dead w' R := by
  obtain ⟨t, fr, h⟩ := h
  exact ⟨t, fr, e.trans h⟩

theorem lainC_block {w : World} {R b : Nat} {cc : Int} {x y : Value} (h : b ≠ R) : (lainC w R cc x y).heap[b]? = w.heap[b]? :=
  (Below.heap_setCell _ _ _ b h).trans ((Below.heap_setCell _ _ _ b h).trans (Below.heap_setCell _ _ _ b h))

theorem blk_lain {w : World} {R : Nat} {cc : Int} {x y z0 z1 z2 : Value} (h : Blk w R [z0, z1, z2]) : Blk (lainC w R cc x y) R [.int .i64 cc, x, y] := by
  have h1 := ((h.set 0 (by simp) (.int .i64 cc)).set 1 (by simp) x).set 2 (by simp) y
  exact h1

theorem blk_lainO {w : World} {R b : Nat} {cc : Int} {x y : Value} {cs : List Value} (h : Blk w b cs) (hne : b ≠ R) : Blk (lainC w R cc x y) b cs := ((h.other (p := ⟨R, 0, none⟩) (fun e => hne e.symm) _).other (p := ⟨R, 1, none⟩) (fun e => hne e.symm) _).other (p := ⟨R, 2, none⟩) (fun e => hne e.symm) _

theorem below_lainC {w0 w : World} {B R : Nat} {cc : Int} {x y : Value} (h : Below B w0 w) (hB : B ≤ R) : Below B w0 (lainC w R cc x y) := ((h.setCell (p := ⟨R, 0, none⟩) hB _).setCell (p := ⟨R, 1, none⟩) hB _).setCell (p := ⟨R, 2, none⟩) hB _

theorem eightB {w W : World} {b d : Nat} {u0 u1 u2 u3 v0 v1 v2 v3 : Value} (h : Blk w b [u0, u1, u2, u3]) (k : Blk w d [v0, v1, v2, v3]) (hb : Below w.heap.size w W) : W.cell? ⟨b, 0, none⟩ = some u0 ∧ W.cell? ⟨b, 1, none⟩ = some u1 ∧ W.cell? ⟨b, 2, none⟩ = some u2 ∧ W.cell? ⟨b, 3, none⟩ = some u3 ∧ W.cell? ⟨d, 0, none⟩ = some v0 ∧ W.cell? ⟨d, 1, none⟩ = some v1 ∧ W.cell? ⟨d, 2, none⟩ = some v2 ∧ W.cell? ⟨d, 3, none⟩ = some v3 := eight (h.below hb) (k.below hb)

theorem bel_tr {w W w' : World} (h : Below w.heap.size w W) (hb : Below W.heap.size W w') : Below w.heap.size w w' := h.trans (hb.mono h.size)

theorem bel_mono {w W : World} {m k : Nat} (hm : m + k = w.heap.size) (h : Below w.heap.size w W) : Below m w W := h.mono (by omega)

theorem bel_mono2 {w0 w W : World} (h0 : Below w0.heap.size w0 w) (h : Below w.heap.size w W) : Below w0.heap.size w W := h.mono h0.size

def IARel (w : World) (z : Prop) (f : Nat → Int) (L : List Ob) (ra : List Int) (co : Int) (g : Nat → Int) (L' : List Ob) (rb : List Int) (co' : Int) (sX sY : Value) (wx : World) : Prop :=
  ∃ (bx by_ : Nat) (a1 : Option Addr) (N1 c1 : Nat) (mv1 : Option Nat) (a2 : Option Addr) (N2 c2 : Nat) (mv2 : Option Nat), sX = .pointer (some ⟨bx, 0, none⟩) ∧ sY = .pointer (some ⟨by_, 0, none⟩) ∧ Below w.heap.size w wx ∧ Blk wx bx [.int .i64 co, .slice a1 N1 c1, .map mv1] ∧ Blk wx by_ [.int .i64 co', .slice a2 N2 c2, .map mv2] ∧ InU2 wx z f L ra a1 N1 mv1 ∧ InU2 wx z g L' rb a2 N2 mv2

theorem size_lainC (w : World) (R : Nat) (cc : Int) (x y : Value) : (lainC w R cc x y).heap.size = w.heap.size := by simp [lainC]

theorem rel_a {w w2 : World} {z : Prop} {f g : Nat → Int} {L L' : List Ob} {ra rb : List Int} {co co' : Int} {a1 a2 : Option Addr} {N1 N2 c1 c2 : Nat} {mv1 mv2 : Option Nat} (hB : Below w.heap.size w w2) (hx : InU2 w2 z f L ra a1 N1 mv1) (hy : InU2 w2 z g L' rb a2 N2 mv2) : IARel w z f L ra co g L' rb co' (.pointer (some ⟨w2.heap.size, 0, none⟩)) (.pointer (some ⟨w2.heap.size + 1, 0, none⟩)) ((w2.alloc (.cells #[.int .i64 co, .slice a1 N1 c1, .map mv1] 76)).alloc (.cells #[.int .i64 co', .slice a2 N2 c2, .map mv2] 76)) := by
  have hA := ((Below.refl w2.heap.size w2).alloc (Nat.le_refl _) (.cells #[.int .i64 co, .slice a1 N1 c1, .map mv1] 76)).alloc (by simp) (.cells #[.int .i64 co', .slice a2 N2 c2, .map mv2] 76)
  exact ⟨_, _, a1, N1, c1, mv1, a2, N2, c2, mv2, rfl, rfl, hB.trans (hA.mono hB.size), (Blk.new_at w2.heap.size rfl).alloc _, Blk.new_at (w2.heap.size + 1) (by simp), hx.below hA, hy.below hA⟩

theorem rel_b {w w2 : World} {z : Prop} {f g : Nat → Int} {L L' : List Ob} {ra rb : List Int} {co co' : Int} {a1 a2 : Option Addr} {N1 N2 c1 c2 : Nat} {mv1 mv2 : Option Nat} (hB : Below w.heap.size w w2) (hx : InU2 w2 z f L ra a1 N1 mv1) (hy : InU2 w2 z g L' rb a2 N2 mv2) : IARel w z f L ra co g L' rb co' (.pointer (some ⟨w2.heap.size + 1, 0, none⟩)) (.pointer (some ⟨w2.heap.size, 0, none⟩)) ((w2.alloc (.cells #[.int .i64 co', .slice a2 N2 c2, .map mv2] 76)).alloc (.cells #[.int .i64 co, .slice a1 N1 c1, .map mv1] 76)) := by
  have hA := ((Below.refl w2.heap.size w2).alloc (Nat.le_refl _) (.cells #[.int .i64 co', .slice a2 N2 c2, .map mv2] 76)).alloc (by simp) (.cells #[.int .i64 co, .slice a1 N1 c1, .map mv1] 76)
  exact ⟨_, _, a1, N1, c1, mv1, a2, N2, c2, mv2, rfl, rfl, hB.trans (hA.mono hB.size), Blk.new_at (w2.heap.size + 1) (by simp), (Blk.new_at w2.heap.size rfl).alloc _, hx.below hA, hy.below hA⟩

theorem rel_c {w w2 : World} {z : Prop} {f g : Nat → Int} {L L' : List Ob} {ra rb : List Int} {co co' : Int} {a1 a2 : Option Addr} {N1 N2 c1 c2 : Nat} {mv1 mv2 : Option Nat} {bx : Nat} (hB : Below w.heap.size w w2) (hx : InU2 w2 z f L ra a1 N1 mv1) (hy : InU2 w2 z g L' rb a2 N2 mv2) (hb : Blk w2 bx [.int .i64 0, .slice none 0 0, .map none]) (hd : Dead w2 bx) (hlt : w.heap.size ≤ bx) (hz : z → co = 0 ∧ co' = 0) : IARel w z f L ra co g L' rb co' (.pointer (some ⟨bx, 0, none⟩)) (.pointer (some ⟨w2.heap.size, 0, none⟩)) ((((w2.setCell ⟨bx, 0, none⟩ (.int .i64 co)).setCell ⟨bx, 1, none⟩ (.slice a1 N1 c1)).setCell ⟨bx, 2, none⟩ (.map mv1)).alloc (.cells #[.int .i64 co', .slice a2 N2 c2, .map mv2] 76)) := by
  have hs := size_lainC w2 bx co (.slice a1 N1 c1) (.map mv1)
  have hA := (Below.refl (lainC w2 bx co (.slice a1 N1 c1) (.map mv1)).heap.size (lainC w2 bx co (.slice a1 N1 c1) (.map mv1))).alloc (Nat.le_refl _) (.cells #[.int .i64 co', .slice a2 N2 c2, .map mv2] 76)
  exact ⟨bx, w2.heap.size, a1, N1, c1, mv1, a2, N2, c2, mv2, rfl, rfl, (below_lainC hB hlt).trans (hA.mono (by rw [hs]; exact hB.size)), (blk_lain hb).alloc _, Blk.new_at (w := lainC w2 bx co (.slice a1 N1 c1) (.map mv1)) w2.heap.size hs.symm, (hx.lain hd (fun h => (hz h).1)).below hA, (hy.lain hd (fun h => (hz h).1)).below hA⟩

theorem rel_d {w w2 : World} {z : Prop} {f g : Nat → Int} {L L' : List Ob} {ra rb : List Int} {co co' : Int} {a1 a2 : Option Addr} {N1 N2 c1 c2 : Nat} {mv1 mv2 : Option Nat} {by_ : Nat} (hB : Below w.heap.size w w2) (hx : InU2 w2 z f L ra a1 N1 mv1) (hy : InU2 w2 z g L' rb a2 N2 mv2) (hb : Blk w2 by_ [.int .i64 0, .slice none 0 0, .map none]) (hd : Dead w2 by_) (hlt : w.heap.size ≤ by_) (hz : z → co = 0 ∧ co' = 0) : IARel w z f L ra co g L' rb co' (.pointer (some ⟨w2.heap.size, 0, none⟩)) (.pointer (some ⟨by_, 0, none⟩)) ((((w2.setCell ⟨by_, 0, none⟩ (.int .i64 co')).setCell ⟨by_, 1, none⟩ (.slice a2 N2 c2)).setCell ⟨by_, 2, none⟩ (.map mv2)).alloc (.cells #[.int .i64 co, .slice a1 N1 c1, .map mv1] 76)) := by
  have hs := size_lainC w2 by_ co' (.slice a2 N2 c2) (.map mv2)
  have hA := (Below.refl (lainC w2 by_ co' (.slice a2 N2 c2) (.map mv2)).heap.size (lainC w2 by_ co' (.slice a2 N2 c2) (.map mv2))).alloc (Nat.le_refl _) (.cells #[.int .i64 co, .slice a1 N1 c1, .map mv1] 76)
  exact ⟨w2.heap.size, by_, a1, N1, c1, mv1, a2, N2, c2, mv2, rfl, rfl, (below_lainC hB hlt).trans (hA.mono (by rw [hs]; exact hB.size)), Blk.new_at (w := lainC w2 by_ co' (.slice a2 N2 c2) (.map mv2)) w2.heap.size hs.symm, (blk_lain hb).alloc _, (hx.lain hd (fun h => (hz h).2)).below hA, (hy.lain hd (fun h => (hz h).2)).below hA⟩

theorem rel_e {w w2 : World} {z : Prop} {f g : Nat → Int} {L L' : List Ob} {ra rb : List Int} {co co' : Int} {a1 a2 : Option Addr} {N1 N2 c1 c2 : Nat} {mv1 mv2 : Option Nat} {bx by_ : Nat} (hB : Below w.heap.size w w2) (hx : InU2 w2 z f L ra a1 N1 mv1) (hy : InU2 w2 z g L' rb a2 N2 mv2) (hb : Blk w2 bx [.int .i64 0, .slice none 0 0, .map none]) (hd : Dead w2 bx) (hb' : Blk w2 by_ [.int .i64 0, .slice none 0 0, .map none]) (hd' : Dead w2 by_) (hlt : w.heap.size ≤ bx) (hlt' : w.heap.size ≤ by_) (hne : bx ≠ by_) (hz : z → co = 0 ∧ co' = 0) : IARel w z f L ra co g L' rb co' (.pointer (some ⟨bx, 0, none⟩)) (.pointer (some ⟨by_, 0, none⟩)) ((((((w2.setCell ⟨bx, 0, none⟩ (.int .i64 co)).setCell ⟨bx, 1, none⟩ (.slice a1 N1 c1)).setCell ⟨bx, 2, none⟩ (.map mv1)).setCell ⟨by_, 0, none⟩ (.int .i64 co')).setCell ⟨by_, 1, none⟩ (.slice a2 N2 c2)).setCell ⟨by_, 2, none⟩ (.map mv2)) := by
  have hd2 : Dead (lainC w2 bx co (.slice a1 N1 c1) (.map mv1)) by_ := dead_block hd' (lainC_block (fun e => hne e.symm))
  exact ⟨bx, by_, a1, N1, c1, mv1, a2, N2, c2, mv2, rfl, rfl, below_lainC (below_lainC hB hlt) hlt', blk_lainO (blk_lain hb) hne, blk_lain (blk_lainO hb' (fun e => hne e.symm)), (hx.lain hd (fun h => (hz h).1)).lain hd2 (fun h => (hz h).2), (hy.lain hd (fun h => (hz h).1)).lain hd2 (fun h => (hz h).2)⟩

theorem six_bel {w W : World} {b d : Nat} {u0 u1 u2 v0 v1 v2 : Value} (h : Blk w b [u0, u1, u2]) (k : Blk w d [v0, v1, v2]) (hb : Below w.heap.size w W) : W.cell? ⟨b, 0, none⟩ = some u0 ∧ W.cell? ⟨b, 1, none⟩ = some u1 ∧ W.cell? ⟨b, 2, none⟩ = some u2 ∧ W.cell? ⟨d, 0, none⟩ = some v0 ∧ W.cell? ⟨d, 1, none⟩ = some v1 ∧ W.cell? ⟨d, 2, none⟩ = some v2 := ⟨(h.below hb).at 0 rfl, (h.below hb).at 1 rfl, (h.below hb).at 2 rfl, (k.below hb).at 0 rfl, (k.below hb).at 1 rfl, (k.below hb).at 2 rfl⟩

theorem gv_src {w : World} {a : Option Addr} {N : Nat} {T : Nat → GM} (h : GV w a N T) (i : Nat) (hi : i < N) : Src w (T i).a (T i).n (T i).f := by
  rcases h with h0 | ⟨b, q, e, hs⟩
  · omega
  · exact hs.flds i hi

set_option linter.unusedSimpArgs false in
set_option maxRecDepth 100000 in
set_option maxHeartbeats 6400000 in
theorem implIA_any (h ac bu : Int) (a : Option Addr) (n c : Nat) (f : Nat → Int) (ra : Option Addr) (ra_ : List Int) (rc : Nat) (co : Int) (L : List Ob) (h' ac' bu' : Int) (a' : Option Addr) (n' c' : Nat) (f' : Nat → Int) (rb : Option Addr) (rb_ : List Int) (rd : Nat) (co' : Int) (L' : List Ob) (r : Bool) (w : World) (hs : Src w a n f) (hcn : n ≤ c) (hcm : c ≤ maxLen) (hrs : Src w ra ra_.length (lf ra_)) (hk : IsAsk h n f ac bu ra_ co L) (hs' : Src w a' n' f') (hcn' : n' ≤ c') (hcm' : c' ≤ maxLen) (hrs' : Src w rb rb_.length (lf rb_)) (hk' : IsAsk h' n' f' ac' bu' rb_ co' L') (hr : IsIA co co' f L ra_ f' L' rb_ r) :
    Calls Try.prog 26 #[.agg #[.int .i64 h, .slice a n c, .int .i64 ac, .int .i64 bu], .slice ra ra_.length rc, .agg #[.int .i64 h', .slice a' n' c', .int .i64 ac', .int .i64 bu'], .slice rb rb_.length rd] w (RetBool w r) := by
  have HS := Lib.hid hs; have HCM := Lib.hid hcm; have HRS := Lib.hid hrs; have HK := Lib.hid hk; have HR := Lib.hid hr
  have HS' := Lib.hid hs'; have HCM' := Lib.hid hcm'; have HRS' := Lib.hid hrs'; have HK' := Lib.hid hk'
  have HB0 := Lib.hid (((Below.refl w.heap.size w).alloc (Nat.le_refl _) (.cells #[.int .i64 h, .slice a n c, .int .i64 ac, .int .i64 bu] 26)).alloc (by simp) (.cells #[.int .i64 h', .slice a' n' c', .int .i64 ac', .int .i64 bu'] 26))
  have A_0 := Lib.hid ((Blk.new_at (w := w) (cs := #[.int .i64 h, .slice a n c, .int .i64 ac, .int .i64 bu]) (t := 26) w.heap.size rfl).alloc (.cells #[.int .i64 h', .slice a' n' c', .int .i64 ac', .int .i64 bu'] 26))
  have B_0 := Lib.hid (Blk.new_at (w := w.alloc (.cells #[.int .i64 h, .slice a n c, .int .i64 ac, .int .i64 bu] 26)) (cs := #[.int .i64 h', .slice a' n' c', .int .i64 ac', .int .i64 bu']) (t := 26) (w.heap.size + 1) (by simp))
  have z0 : w.heap.size + 2 = ((w.alloc (.cells #[.int .i64 h, .slice a n c, .int .i64 ac, .int .i64 bu] 26)).alloc (.cells #[.int .i64 h', .slice a' n' c', .int .i64 ac', .int .i64 bu'] 26)).heap.size := by simp
  clear hs hcm hrs hk hr hs' hcm' hrs' hk'
  obtain ⟨z, hz⟩ : ∃ z : Prop, z = (co = 0 ∧ co' = 0) := ⟨_, rfl⟩
  have HZ : Hid (z → co = 0 ∧ co' = 0) := Lib.hid (fun h => by rw [hz] at h; exact h)
  have HZZ : Hid (co = 0 ∧ co' = 0 → z) := Lib.hid (fun h => by rw [hz]; exact h)
  clear hz
  go_enter Try.func26, Try.ntmps26
  go_wp2_with fail
  generalize (w.alloc (.cells #[.int .i64 h, .slice a n c, .int .i64 ac, .int .i64 bu] 26)).alloc (.cells #[.int .i64 h', .slice a' n' c', .int .i64 ac', .int .i64 bu'] 26) = w0 at *
  go_cut [9, 10] (fun sX sY wx => Hid (IARel w z f L ra_ co f' L' rb_ co' sX sY wx))
  case first =>
    go_region_held3 (fun w' => w'.cell? ⟨w.heap.size, 0, none⟩ = some (.int .i64 h) ∧ w'.cell? ⟨w.heap.size, 1, none⟩ = some (.slice a n c) ∧ w'.cell? ⟨w.heap.size, 2, none⟩ = some (.int .i64 ac) ∧ w'.cell? ⟨w.heap.size, 3, none⟩ = some (.int .i64 bu) ∧ w'.cell? ⟨w.heap.size + 1, 0, none⟩ = some (.int .i64 h') ∧ w'.cell? ⟨w.heap.size + 1, 1, none⟩ = some (.slice a' n' c') ∧ w'.cell? ⟨w.heap.size + 1, 2, none⟩ = some (.int .i64 ac') ∧ w'.cell? ⟨w.heap.size + 1, 3, none⟩ = some (.int .i64 bu'))
      (first | (with_reducible exact eightB A_0.out B_0.out (Below.refl w0.heap.size w0).drew) | (with_reducible exact eightB A_0.out B_0.out ((Below.refl w0.heap.size w0).alloc (by (try simp); (try omega)) _).drew) | (with_reducible exact eightB A_0.out B_0.out (((Below.refl w0.heap.size w0).alloc (by (try simp); (try omega)) _).alloc (by (try simp); (try omega)) _).drew) | (with_reducible exact eightB A_0.out B_0.out HW1.out) | (with_reducible exact eightB A_0.out B_0.out (HW1.out.alloc (by (try simp); (try omega)) _)) | (with_reducible exact eightB A_0.out B_0.out ((HW1.out.alloc (by (try simp); (try omega)) _).alloc (by (try simp); (try omega)) _)) | (with_reducible exact eightB A_0.out B_0.out HW2.out) | (with_reducible exact eightB A_0.out B_0.out (HW2.out.alloc (by (try simp); (try omega)) _)) | (with_reducible exact eightB A_0.out B_0.out ((HW2.out.alloc (by (try simp); (try omega)) _).alloc (by (try simp); (try omega)) _)) | (with_reducible exact eightB A_0.out B_0.out (((HW2.out.setCell (by (try simp); (try omega)) _).setCell (by (try simp); (try omega)) _).setCell (by (try simp); (try omega)) _)) | (with_reducible exact eightB A_0.out B_0.out ((((HW2.out.setCell (by (try simp); (try omega)) _).setCell (by (try simp); (try omega)) _).setCell (by (try simp); (try omega)) _).alloc (by (try simp); (try omega)) _)) | (with_reducible exact eightB A_0.out B_0.out ((((HW2.out.alloc (by (try simp); (try omega)) _).setCell (by (try simp); (try omega)) _).setCell (by (try simp); (try omega)) _).setCell (by (try simp); (try omega)) _)) | (with_reducible exact eightB A_0.out B_0.out ((((((HW2.out.setCell (by (try simp); (try omega)) _).setCell (by (try simp); (try omega)) _).setCell (by (try simp); (try omega)) _).setCell (by (try simp); (try omega)) _).setCell (by (try simp); (try omega)) _).setCell (by (try simp); (try omega)) _)))
      (first | (go_at_call 51; (first | ((with_reducible refine (inU_any h ac bu a n c f ra ra_ rc co L _ (HS.out.below (HB0.out.trans (bel_mono z0 (by first | exact Below.refl _ _ | exact (Below.refl _ _).drew | exact ((Below.refl _ _).alloc (Nat.le_refl _) _).drew | exact (((Below.refl _ _).alloc (Nat.le_refl _) _).alloc (by simp) _).drew | exact (Below.refl _ _).alloc (Nat.le_refl _) _ | exact ((Below.refl _ _).alloc (Nat.le_refl _) _).alloc (by simp) _)))) hcn HCM.out (HRS.out.below (HB0.out.trans (bel_mono z0 (by first | exact Below.refl _ _ | exact (Below.refl _ _).drew | exact ((Below.refl _ _).alloc (Nat.le_refl _) _).drew | exact (((Below.refl _ _).alloc (Nat.le_refl _) _).alloc (by simp) _).drew | exact (Below.refl _ _).alloc (Nat.le_refl _) _ | exact ((Below.refl _ _).alloc (Nat.le_refl _) _).alloc (by simp) _)))) HK.out).mono ?_); rintro e w1 ⟨hb, a1, N1, c1, mv1, rfl, hz1⟩; have hbd : Below w0.heap.size w0 w1 := (bel_tr (by first | exact Below.refl _ _ | exact (Below.refl _ _).drew | exact ((Below.refl _ _).alloc (Nat.le_refl _) _).drew | exact (((Below.refl _ _).alloc (Nat.le_refl _) _).alloc (by simp) _).drew | exact (Below.refl _ _).alloc (Nat.le_refl _) _ | exact ((Below.refl _ _).alloc (Nat.le_refl _) _).alloc (by simp) _) hb); have HB1 := Lib.hid (HB0.out.trans (hbd.mono HB0.out.size)); have HZ1 : Hid (InU2 w1 z f L ra_ a1 N1 mv1) := Lib.hid (fun h => hz1 (HZ.out h).1); have hs1 := hb.size; (try simp at hs1); (try have P_1 : Hid (Blk w1 w0.heap.size [.int .i64 0, .slice none 0 0, .map none]) := Lib.hid (((Blk.new_at (w := w0) (cs := #[.int .i64 0, .slice none 0 0, .map none]) (t := 76) w0.heap.size rfl).drew).below hb)); (try have DP_1 : Hid (Dead w1 w0.heap.size) := Lib.hid (((dead_new (w := w0) (t := 76) w0.heap.size rfl).below (Below.refl _ _).drew).below hb)); (try have P_1 : Hid (Blk w1 w0.heap.size [.int .i64 0, .slice none 0 0, .map none]) := Lib.hid ((((Blk.new_at (w := w0) (cs := #[.int .i64 0, .slice none 0 0, .map none]) (t := 76) w0.heap.size rfl).alloc (.cells #[.int .i64 0, .slice none 0 0, .map none] 76)).drew).below hb)); (try have DP_1 : Hid (Dead w1 w0.heap.size) := Lib.hid (((dead_new (w := w0) (t := 76) w0.heap.size rfl).below (((Below.refl _ _).alloc (Nat.le_refl _) (.cells #[.int .i64 0, .slice none 0 0, .map none] 76)).drew)).below hb)); (try have Q_1 : Hid (Blk w1 (w0.heap.size + 1) [.int .i64 0, .slice none 0 0, .map none]) := Lib.hid (((Blk.new_at (w := w0.alloc (.cells #[.int .i64 0, .slice none 0 0, .map none] 76)) (cs := #[.int .i64 0, .slice none 0 0, .map none]) (t := 76) (w0.heap.size + 1) (by simp)).drew).below hb)); (try have DQ_1 : Hid (Dead w1 (w0.heap.size + 1)) := Lib.hid (((dead_new (w := w0.alloc (.cells #[.int .i64 0, .slice none 0 0, .map none] 76)) (t := 76) (w0.heap.size + 1) (by simp)).below (Below.refl _ _).drew).below hb)); have HW1 := Lib.hid hbd; clear hb hz1 hbd) | ((with_reducible refine (inU_any h' ac' bu' a' n' c' f' rb rb_ rd co' L' _ (HS'.out.below (HB1.out.trans (bel_mono2 HB1.out (by first | exact Below.refl _ _ | exact (Below.refl _ _).drew | exact ((Below.refl _ _).alloc (Nat.le_refl _) _).drew | exact (((Below.refl _ _).alloc (Nat.le_refl _) _).alloc (by simp) _).drew | exact (Below.refl _ _).alloc (Nat.le_refl _) _ | exact ((Below.refl _ _).alloc (Nat.le_refl _) _).alloc (by simp) _)))) hcn' HCM'.out (HRS'.out.below (HB1.out.trans (bel_mono2 HB1.out (by first | exact Below.refl _ _ | exact (Below.refl _ _).drew | exact ((Below.refl _ _).alloc (Nat.le_refl _) _).drew | exact (((Below.refl _ _).alloc (Nat.le_refl _) _).alloc (by simp) _).drew | exact (Below.refl _ _).alloc (Nat.le_refl _) _ | exact ((Below.refl _ _).alloc (Nat.le_refl _) _).alloc (by simp) _)))) HK'.out).mono ?_); rintro e w2 ⟨hb, a2, N2, c2, mv2, rfl, hz2⟩; have hbd : Below w1.heap.size w1 w2 := (bel_tr (by first | exact Below.refl _ _ | exact (Below.refl _ _).drew | exact ((Below.refl _ _).alloc (Nat.le_refl _) _).drew | exact (((Below.refl _ _).alloc (Nat.le_refl _) _).alloc (by simp) _).drew | exact (Below.refl _ _).alloc (Nat.le_refl _) _ | exact ((Below.refl _ _).alloc (Nat.le_refl _) _).alloc (by simp) _) hb); have HB2 := Lib.hid (HB1.out.trans (hbd.mono HB1.out.size)); have HX2 := Lib.hid (HZ1.out.below hbd); have HY2 : Hid (InU2 w2 z f' L' rb_ a2 N2 mv2) := Lib.hid (fun h => hz2 (HZ.out h).2); have hs2 := hb.size; (try simp at hs2); (try have P_2 := Lib.hid (P_1.out.below hbd)); (try have DP_2 := Lib.hid (DP_1.out.below hbd)); (try have Q_2 := Lib.hid (Q_1.out.below hbd)); (try have DQ_2 := Lib.hid (DQ_1.out.below hbd)); (try have R_2 : Hid (Blk w2 w1.heap.size [.int .i64 0, .slice none 0 0, .map none]) := Lib.hid ((Blk.new_at (w := w1) (cs := #[.int .i64 0, .slice none 0 0, .map none]) (t := 76) w1.heap.size rfl).below hb)); (try have DR_2 : Hid (Dead w2 w1.heap.size) := Lib.hid ((dead_new (w := w1) (t := 76) w1.heap.size rfl).below hb)); (try have R_2 : Hid (Blk w2 w1.heap.size [.int .i64 0, .slice none 0 0, .map none]) := Lib.hid (((Blk.new_at (w := w1) (cs := #[.int .i64 0, .slice none 0 0, .map none]) (t := 76) w1.heap.size rfl).alloc (.cells #[.int .i64 0, .slice none 0 0, .map none] 76)).below hb)); (try have DR_2 : Hid (Dead w2 w1.heap.size) := Lib.hid (((dead_new (w := w1) (t := 76) w1.heap.size rfl).below ((Below.refl _ _).alloc (Nat.le_refl _) (.cells #[.int .i64 0, .slice none 0 0, .map none] 76))).below hb)); (try have S_2 : Hid (Blk w2 (w1.heap.size + 1) [.int .i64 0, .slice none 0 0, .map none]) := Lib.hid ((Blk.new_at (w := w1.alloc (.cells #[.int .i64 0, .slice none 0 0, .map none] 76)) (cs := #[.int .i64 0, .slice none 0 0, .map none]) (t := 76) (w1.heap.size + 1) (by simp)).below hb)); (try have DS_2 : Hid (Dead w2 (w1.heap.size + 1)) := Lib.hid ((dead_new (w := w1.alloc (.cells #[.int .i64 0, .slice none 0 0, .map none] 76)) (t := 76) (w1.heap.size + 1) (by simp)).below hb)); have HW2 := Lib.hid (HW1.out.trans (hbd.mono HW1.out.size)); clear hb hz2 hbd; (try (have lP := P_2.out.1; have cP0 := P_2.out.at 0 rfl; have fP0 := P_2.out.free 0 rfl; have cP1 := P_2.out.at 1 rfl; have fP1 := P_2.out.free 1 rfl; have cP2 := P_2.out.at 2 rfl; have fP2 := P_2.out.free 2 rfl)); (try (have lQ := Q_2.out.1; have cQ0 := Q_2.out.at 0 rfl; have fQ0 := Q_2.out.free 0 rfl; have cQ1 := Q_2.out.at 1 rfl; have fQ1 := Q_2.out.free 1 rfl; have cQ2 := Q_2.out.at 2 rfl; have fQ2 := Q_2.out.free 2 rfl)); (try (have lR := R_2.out.1; have cR0 := R_2.out.at 0 rfl; have fR0 := R_2.out.free 0 rfl; have cR1 := R_2.out.at 1 rfl; have fR1 := R_2.out.free 1 rfl; have cR2 := R_2.out.at 2 rfl; have fR2 := R_2.out.free 2 rfl)); (try (have lS := S_2.out.1; have cS0 := S_2.out.at 0 rfl; have fS0 := S_2.out.free 0 rfl; have cS1 := S_2.out.at 1 rfl; have fS1 := S_2.out.free 1 rfl; have cS2 := S_2.out.at 2 rfl; have fS2 := S_2.out.free 2 rfl))))))
    all_goals (go_wp2_with fail)
    all_goals go_meet
    all_goals first | with_reducible exact Lib.hid (rel_a HB2.out HX2.out HY2.out) | with_reducible exact Lib.hid (rel_b HB2.out HX2.out HY2.out) | with_reducible exact Lib.hid (rel_c HB2.out HX2.out HY2.out P_2.out DP_2.out (by omega) HZ.out) | with_reducible exact Lib.hid (rel_d HB2.out HX2.out HY2.out P_2.out DP_2.out (by omega) HZ.out) | with_reducible exact Lib.hid (rel_c HB2.out HX2.out HY2.out Q_2.out DQ_2.out (by omega) HZ.out) | with_reducible exact Lib.hid (rel_d HB2.out HX2.out HY2.out Q_2.out DQ_2.out (by omega) HZ.out) | with_reducible exact Lib.hid (rel_c HB2.out HX2.out HY2.out R_2.out DR_2.out (by omega) HZ.out) | with_reducible exact Lib.hid (rel_d HB2.out HX2.out HY2.out R_2.out DR_2.out (by omega) HZ.out) | with_reducible exact Lib.hid (rel_c HB2.out HX2.out HY2.out S_2.out DS_2.out (by omega) HZ.out) | with_reducible exact Lib.hid (rel_d HB2.out HX2.out HY2.out S_2.out DS_2.out (by omega) HZ.out) | with_reducible exact Lib.hid (rel_e HB2.out HX2.out HY2.out P_2.out DP_2.out Q_2.out DQ_2.out (by omega) (by omega) (by omega) HZ.out) | with_reducible exact Lib.hid (rel_e HB2.out HX2.out HY2.out P_2.out DP_2.out R_2.out DR_2.out (by omega) (by omega) (by omega) HZ.out) | with_reducible exact Lib.hid (rel_e HB2.out HX2.out HY2.out P_2.out DP_2.out S_2.out DS_2.out (by omega) (by omega) (by omega) HZ.out) | with_reducible exact Lib.hid (rel_e HB2.out HX2.out HY2.out Q_2.out DQ_2.out P_2.out DP_2.out (by omega) (by omega) (by omega) HZ.out) | with_reducible exact Lib.hid (rel_e HB2.out HX2.out HY2.out Q_2.out DQ_2.out R_2.out DR_2.out (by omega) (by omega) (by omega) HZ.out) | with_reducible exact Lib.hid (rel_e HB2.out HX2.out HY2.out Q_2.out DQ_2.out S_2.out DS_2.out (by omega) (by omega) (by omega) HZ.out) | with_reducible exact Lib.hid (rel_e HB2.out HX2.out HY2.out R_2.out DR_2.out P_2.out DP_2.out (by omega) (by omega) (by omega) HZ.out) | with_reducible exact Lib.hid (rel_e HB2.out HX2.out HY2.out R_2.out DR_2.out Q_2.out DQ_2.out (by omega) (by omega) (by omega) HZ.out) | with_reducible exact Lib.hid (rel_e HB2.out HX2.out HY2.out R_2.out DR_2.out S_2.out DS_2.out (by omega) (by omega) (by omega) HZ.out) | with_reducible exact Lib.hid (rel_e HB2.out HX2.out HY2.out S_2.out DS_2.out P_2.out DP_2.out (by omega) (by omega) (by omega) HZ.out) | with_reducible exact Lib.hid (rel_e HB2.out HX2.out HY2.out S_2.out DS_2.out Q_2.out DQ_2.out (by omega) (by omega) (by omega) HZ.out) | with_reducible exact Lib.hid (rel_e HB2.out HX2.out HY2.out S_2.out DS_2.out R_2.out DR_2.out (by omega) (by omega) (by omega) HZ.out)
  case rest =>
    obtain ⟨bx, by_, a1, N1, c1, mv1, a2, N2, c2, mv2, rfl, rfl, hB3, hX3, hY3, hU3, hV3⟩ := hcut.out
    have HB3 := Lib.hid hB3; have X_2 := Lib.hid hX3; have Y_2 := Lib.hid hY3; have HZ1 := Lib.hid hU3; have HZ2 := Lib.hid hV3
    clear hB3 hX3 hY3 hU3 hV3 hcut A_0 B_0 HB0
    rename World => w3
    have lX := X_2.out.1; have cX0 := X_2.out.at 0 rfl
    have lY := Y_2.out.1; have cY0 := Y_2.out.at 0 rfl
    by_cases h0 : co = 0
    · by_cases h1 : co' = 0
      · have hzz : z := HZZ.out ⟨h0, h1⟩
        subst h0; subst h1
        obtain ⟨rfl, mb, T, rfl, hG, hM, hT⟩ := HZ1.out hzz
        obtain ⟨rfl, mb', T', rfl, hG', hM', hT'⟩ := HZ2.out hzz
        clear hzz
        have h60 : ra_.length ≤ 60 := (isAsk_zero HK.out).2.2.1
        have h60' : rb_.length ≤ 60 := (isAsk_zero HK'.out).2.2.1
        have hl1 : (reachO f L ra_).length ≤ 400 := by have := (reach_small HK.out).1; rwa [outR_zero] at this
        have hl2 : (reachO f' L' rb_).length ≤ 400 := by have := (reach_small HK'.out).1; rwa [outR_zero] at this
        have HVB := Lib.hid (idV_bound hl1); have HVB' := Lib.hid (idV_bound hl2)
        have HPL : Hid (∀ p ∈ ra_, 0 ≤ p ∧ p ≤ 1000000) := Lib.hid (fun p hp => place_bound (isAsk_zero HK.out).1 (isAsk_zero HK.out).2.1 ((isAsk_zero HK.out).2.2.2 p hp))
        have HPL' : Hid (∀ p ∈ rb_, 0 ≤ p ∧ p ≤ 1000000) := Lib.hid (fun p hp => place_bound (isAsk_zero HK'.out).1 (isAsk_zero HK'.out).2.1 ((isAsk_zero HK'.out).2.2.2 p hp))
        have HT := Lib.hid hT; have HT' := Lib.hid hT'
        have HRI := Lib.hid (@roots_iff f L ra_ f' L' rb_)
        have HAL : Hid (r = true ↔ _) := Lib.hid (HR.out.trans ⟨fun h => alike_obj.1 h.2.2, fun h => ⟨rfl, rfl, alike_obj.2 h⟩⟩)
        have HSI := Lib.hid (fun (U U' : Nat → GM) hU hU' => so_iff (T := T) (U := U) (T' := T') (U' := U') HK.out HK'.out HT.out hU HT'.out hU')
        have HMVB : Hid (∀ (w : World) (i : Nat), i < (reachO f L ra_).length → Src w (T i).a (T i).n (T i).f → Movable w (reachO f L ra_) idV (T i)) := Lib.hid (fun w i hi hw => by
          obtain ⟨x, e1, e2⟩ := HT.out i hi
          exact movable_of (isAsk_zero HK.out).1 (isAsk_zero HK.out).2.1 (isAsk_zero HK.out).2.2.2 (lf_mem hi) e1 e2 hw)
        have HMVB' : Hid (∀ (w : World) (i : Nat), i < (reachO f' L' rb_).length → Src w (T' i).a (T' i).n (T' i).f → Movable w (reachO f' L' rb_) idV (T' i)) := Lib.hid (fun w i hi hw => by
          obtain ⟨x, e1, e2⟩ := HT'.out i hi
          exact movable_of (isAsk_zero HK'.out).1 (isAsk_zero HK'.out).2.1 (isAsk_zero HK'.out).2.2.2 (lf_mem hi) e1 e2 hw)
        have HTN : Hid (∀ i, i < (reachO f L ra_).length → (T i).n ≤ 1048576) := Lib.hid (fun i hi => by
          obtain ⟨x, e1, e2⟩ := HT.out i hi
          have h9 : (T i).n = x.s.toNat := e2.2.2.2.2.2.1
          have := ((right_of (isAsk_zero HK.out).1 (isAsk_zero HK.out).2.1).ok x (List.mem_of_find?_eq_some e1)).1.1
          omega)
        have HTN' : Hid (∀ i, i < (reachO f' L' rb_).length → (T' i).n ≤ 1048576) := Lib.hid (fun i hi => by
          obtain ⟨x, e1, e2⟩ := HT'.out i hi
          have h9 : (T' i).n = x.s.toNat := e2.2.2.2.2.2.1
          have := ((right_of (isAsk_zero HK'.out).1 (isAsk_zero HK'.out).2.1).ok x (List.mem_of_find?_eq_some e1)).1.1
          omega)
        have HG := Lib.hid hG; have HM := Lib.hid hM; have HG' := Lib.hid hG'; have HM' := Lib.hid hM'
        clear hG hM hT hG' hM' hT' HZ1 HZ2 HR HT HT' HK HK' HZ HZZ
        obtain ⟨R, hR⟩ : ∃ R, reachO f L ra_ = R := ⟨_, rfl⟩
        obtain ⟨R', hR'⟩ : ∃ R, reachO f' L' rb_ = R := ⟨_, rfl⟩
        rw [hR] at HG HM hl1 HVB HRI HSI HAL HMVB HTN X_2
        rw [hR'] at HG' HM' hl2 HVB' HRI HSI HAL HMVB' HTN' Y_2
        clear hR hR'
        have HRS3 := Lib.hid (HRS.out.below HB3.out); have HRS3' := Lib.hid (HRS'.out.below HB3.out)
        have HWd : Hid (Below w3.heap.size w3 w3.drew) := Lib.hid ((Below.refl _ _).drew)
        by_cases hq : ra_.length = rb_.length ∧ ∀ i, i < ra_.length → numL R (lf ra_ i) = numL R' (lf rb_ i)
        · have hre := Lib.hid (HRI.out.2 hq)
          have HR2 : Hid (∀ (U U' : Nat → GM), (∀ i, i < R.length → GSame (U i) (mvT R idV (T i))) → (∀ i, i < R'.length → GSame (U' i) (mvT R' idV (T' i))) → (r = true ↔ R.length = R'.length ∧ ∀ i, i < R.length → GSame (U i) (U' i))) := Lib.hid (fun U U' hU hU' => by
            rw [HSI.out U U' hU hU']
            exact HAL.out.trans ⟨fun h => ⟨h.2.1, h.2.2.1⟩, fun h => ⟨hq.1, h.1, h.2, hq.2⟩⟩)
          have HQ := Lib.hid hq
          clear hq HSI HAL HRI
          go_upto_region 4 with (fail)
          clear lX cX0 lY cY0
          go_region_held3 (fun w' => w'.cell? ⟨bx, 0, none⟩ = some (.int .i64 0) ∧ w'.cell? ⟨bx, 1, none⟩ = some (.slice a1 R.length c1) ∧ w'.cell? ⟨bx, 2, none⟩ = some (.map (some mb)) ∧ w'.cell? ⟨by_, 0, none⟩ = some (.int .i64 0) ∧ w'.cell? ⟨by_, 1, none⟩ = some (.slice a2 R'.length c2) ∧ w'.cell? ⟨by_, 2, none⟩ = some (.map (some mb')))
            (first | (with_reducible exact six_bel X_2.out Y_2.out HWd.out) | (with_reducible exact six_bel X_2.out Y_2.out HW4.out) | (with_reducible exact six_bel X_2.out Y_2.out HW5.out) | (with_reducible exact six_bel X_2.out Y_2.out HW6.out) | (with_reducible exact six_bel X_2.out Y_2.out HW7.out) | (with_reducible exact six_bel X_2.out Y_2.out HW8.out) | (with_reducible exact six_bel X_2.out Y_2.out HW9.out))
            (first | (go_at_call 68; (first | ((with_reducible refine (movedRoots_any ra ra_ rc mb R.length R idV _ (HRS3.out.below HWd.out) (by omega) (HM.out.below HWd.out) HPL.out).mono ?_); rintro e w4 ⟨q4, d4, rfl, ho, hb, _, _, _⟩; have HW4 := Lib.hid (HWd.out.trans (hb.mono HWd.out.size)); have HQ4 := Lib.hid ho.src; clear hb ho) | ((with_reducible refine (movedRoots_any rb rb_ rd mb' R'.length R' idV _ (HRS3'.out.below HW4.out) (by omega) (HM'.out.below HW4.out) HPL'.out).mono ?_); rintro e w5 ⟨q5, d5, rfl, ho, hb, _, _, _⟩; have HW5 := Lib.hid (HW4.out.trans (hb.mono HW4.out.size)); have HQ5 := Lib.hid ho.src; have HQ45 := Lib.hid (HQ4.out.below hb); clear hb ho))) | (go_at_call 71; (refine (slEqual_is true q4 q5 ra_.length rb_.length d4 d5 _ _ _ hre.out HQ45.out HQ5.out (by omega) (by omega)).mono ?_; rintro e w6 ⟨rfl, hb⟩; have HW6 := Lib.hid (HW5.out.trans (hb.mono HW5.out.size)); clear hb)) | (go_at_call 65; (first | ((with_reducible refine (movedAll_any a1 R.length c1 mb R.length T R idV _ (HG.out.below HW6.out) hl1 (HM.out.below HW6.out) (fun i hi => HMVB.out _ i hi (gv_src (HG.out.below HW6.out) i hi)) HVB.out).mono ?_); rintro e w7 ⟨a7, c7, U, rfl, hgv, hsm, hb⟩; have HW7 := Lib.hid (HW6.out.trans (hb.mono HW6.out.size)); have HU7 := Lib.hid hgv.gv; have HS7 := Lib.hid hsm; clear hb hgv hsm) | ((with_reducible refine (movedAll_any a2 R'.length c2 mb' R'.length T' R' idV _ (HG'.out.below HW7.out) hl2 (HM'.out.below HW7.out) (fun i hi => HMVB'.out _ i hi (gv_src (HG'.out.below HW7.out) i hi)) HVB'.out).mono ?_); rintro e w8 ⟨a8, c8, U', rfl, hgv, hsm, hb⟩; have HW8 := Lib.hid (HW7.out.trans (hb.mono HW7.out.size)); have HU8 := Lib.hid hgv.gv; have HS8 := Lib.hid hsm; have HU78 := Lib.hid (HU7.out.below hb); clear hb hgv hsm))) | (go_at_call 72; (refine (implSO a7 a8 R.length R'.length c7 c8 U U' r _ HU78.out HU8.out (HR2.out U U' HS7.out HS8.out) (by omega) (by omega) (fun i hi => by rw [(HS7.out i hi).2.2.2.2.2.1]; exact HTN.out i hi) (fun i hi => by rw [(HS8.out i hi).2.2.2.2.2.1]; exact HTN'.out i hi)).mono ?_; rintro e w9 ⟨rfl, hb⟩; have HW9 := Lib.hid (HW8.out.trans (hb.mono HW8.out.size)); clear hb)))
          go_wp2
          go_ret
          exact ⟨rfl, HB3.out.trans (HW9.out.mono HB3.out.size)⟩
        · have hrf : r = false := by
            cases r with
            | false => rfl
            | true => exact absurd ⟨(HAL.out.1 rfl).1, (HAL.out.1 rfl).2.2.2⟩ hq
          subst hrf
          have hre : Hid (eqB ra_.length rb_.length (lf (ra_.map fun p => (tab R idV p).getD 0)) (lf (rb_.map fun p => (tab R' idV p).getD 0)) = false) := Lib.hid (by
            cases he : eqB ra_.length rb_.length (lf (ra_.map fun p => (tab R idV p).getD 0)) (lf (rb_.map fun p => (tab R' idV p).getD 0)) with
            | false => rfl
            | true => exact absurd (HRI.out.1 he) hq)
          clear hq HSI HAL HRI
          go_upto_region 4 with (fail)
          clear lX cX0 lY cY0
          refine wp_region_held_drew (S := (fun w' => w'.cell? ⟨bx, 0, none⟩ = some (.int .i64 0) ∧ w'.cell? ⟨bx, 1, none⟩ = some (.slice a1 R.length c1) ∧ w'.cell? ⟨bx, 2, none⟩ = some (.map (some mb)) ∧ w'.cell? ⟨by_, 0, none⟩ = some (.int .i64 0) ∧ w'.cell? ⟨by_, 1, none⟩ = some (.slice a2 R'.length c2) ∧ w'.cell? ⟨by_, 2, none⟩ = some (.map (some mb')))) (by kernel_rfl) (six_bel X_2.out Y_2.out HWd.out) (fun hHeld => ?_)
          refine wpAnyH_take (i := 0) (oi := { dst := some 25, op := Op.move (Operand.tmp 1), type := 24, pos := "l04_copy.go:182", after := #[], guard := none }) (v := ?_) rfl (by kernel_rfl) (by kernel_rfl) (by kernel_rfl) (fun _ _ _ h => h) (Or.inl ⟨by rfl, ?_⟩) (by assumption) ?_
          rotate_left
          · intro w hSw; (try dsimp only at hSw); go_simp; (try with_reducible rfl)
          try simp only [Act.put, List.setIfInBounds_toArray, List.set_cons_zero, List.set_cons_succ]
          refine wpAnyH_take (i := 1) (oi := { dst := some 26, op := Op.fieldAddr 76 (Operand.tmp 9) 2, type := 0, pos := "l04_copy.go:182", after := #[], guard := none }) (v := ?_) rfl (by kernel_rfl) (by kernel_rfl) (by kernel_rfl) (fun _ _ _ h => h) (Or.inl ⟨by rfl, ?_⟩) (by assumption) ?_
          rotate_left
          · intro w hSw; (try dsimp only at hSw); go_simp; (try with_reducible rfl)
          try simp only [Act.put, List.setIfInBounds_toArray, List.set_cons_zero, List.set_cons_succ]
          refine wpAnyH_take (i := 2) (oi := { dst := some 27, op := Op.load 74 (Operand.tmp 26), type := 74, pos := "l04_copy.go:182", after := #[{ on := 1, ground := Ground.data }], guard := none }) (v := ?_) rfl (by kernel_rfl) (by kernel_rfl) (by kernel_rfl) (fun _ _ _ h => h) (Or.inl ⟨by rfl, ?_⟩) (by assumption) ?_
          rotate_left
          · intro w hSw; (try dsimp only at hSw); go_simp; (try with_reducible rfl)
          try simp only [Act.put, List.setIfInBounds_toArray, List.set_cons_zero, List.set_cons_succ]
          refine wpAnyH_take (i := 4) (oi := { dst := some 29, op := Op.move (Operand.tmp 3), type := 24, pos := "l04_copy.go:182", after := #[], guard := none }) (v := ?_) rfl (by kernel_rfl) (by kernel_rfl) (by kernel_rfl) (fun _ _ _ h => h) (Or.inl ⟨by rfl, ?_⟩) (by assumption) ?_
          rotate_left
          · intro w hSw; (try dsimp only at hSw); go_simp; (try with_reducible rfl)
          try simp only [Act.put, List.setIfInBounds_toArray, List.set_cons_zero, List.set_cons_succ]
          refine wpAnyH_take (i := 5) (oi := { dst := some 30, op := Op.fieldAddr 76 (Operand.tmp 10) 2, type := 0, pos := "l04_copy.go:182", after := #[], guard := none }) (v := ?_) rfl (by kernel_rfl) (by kernel_rfl) (by kernel_rfl) (fun _ _ _ h => h) (Or.inl ⟨by rfl, ?_⟩) (by assumption) ?_
          rotate_left
          · intro w hSw; (try dsimp only at hSw); go_simp; (try with_reducible rfl)
          try simp only [Act.put, List.setIfInBounds_toArray, List.set_cons_zero, List.set_cons_succ]
          refine wpAnyH_take (i := 6) (oi := { dst := some 31, op := Op.load 74 (Operand.tmp 30), type := 74, pos := "l04_copy.go:182", after := #[{ on := 5, ground := Ground.data }], guard := none }) (v := ?_) rfl (by kernel_rfl) (by kernel_rfl) (by kernel_rfl) (fun _ _ _ h => h) (Or.inl ⟨by rfl, ?_⟩) (by assumption) ?_
          rotate_left
          · intro w hSw; (try dsimp only at hSw); go_simp; (try with_reducible rfl)
          try simp only [Act.put, List.setIfInBounds_toArray, List.set_cons_zero, List.set_cons_succ]
          refine wpAnyH_ready (rs := [3]) (by kernel_rfl) (by simp) ?_
          refine AllReadyH.cons (o := _) rfl (fun K hK => ?_) AllReadyH.nil
          go_simp
          (go_at_call 68; (with_reducible refine (movedRoots_any ra ra_ rc mb R.length R idV _ (HRS3.out.below HWd.out) (by omega) (HM.out.below HWd.out) HPL.out).mono ?_); rintro e w4 ⟨q4, d4, rfl, ho, hb, _, _, _⟩; have HW4 := Lib.hid (HWd.out.trans (hb.mono HWd.out.size)); have HQ4 := Lib.hid ho.src; clear hb ho)
          first | (refine hK.out _ _ (six_bel X_2.out Y_2.out HW4.out) (fun hHeld => ?_)) | (go_wp2_with fail; refine hK.out _ _ (six_bel X_2.out Y_2.out HW4.out) (fun hHeld => ?_))
          clear hK K
          try simp only [Act.put, List.setIfInBounds_toArray, List.set_cons_zero, List.set_cons_succ]
          refine wpAnyH_ready (rs := [7]) (by kernel_rfl) (by simp) ?_
          refine AllReadyH.cons (o := _) rfl (fun K hK => ?_) AllReadyH.nil
          go_simp
          (go_at_call 68; (with_reducible refine (movedRoots_any rb rb_ rd mb' R'.length R' idV _ (HRS3'.out.below HW4.out) (by omega) (HM'.out.below HW4.out) HPL'.out).mono ?_); rintro e w5 ⟨q5, d5, rfl, ho, hb, _, _, _⟩; have HW5 := Lib.hid (HW4.out.trans (hb.mono HW4.out.size)); have HQ5 := Lib.hid ho.src; have HQ45 := Lib.hid (HQ4.out.below hb); clear hb ho)
          first | (refine hK.out _ _ (six_bel X_2.out Y_2.out HW5.out) (fun hHeld => ?_)) | (go_wp2_with fail; refine hK.out _ _ (six_bel X_2.out Y_2.out HW5.out) (fun hHeld => ?_))
          clear hK K
          try simp only [Act.put, List.setIfInBounds_toArray, List.set_cons_zero, List.set_cons_succ]
          refine wpAnyH_ready (rs := [8]) (by kernel_rfl) (by simp) ?_
          refine AllReadyH.cons (o := _) rfl (fun K hK => ?_) AllReadyH.nil
          go_simp
          (go_at_call 71; (refine (slEqual_is false q4 q5 ra_.length rb_.length d4 d5 _ _ _ hre.out HQ45.out HQ5.out (by omega) (by omega)).mono ?_); rintro e w6 ⟨rfl, hb⟩; have HW6 := Lib.hid (HW5.out.trans (hb.mono HW5.out.size)); clear hb)
          first | (refine hK.out _ _ (six_bel X_2.out Y_2.out HW6.out) (fun hHeld => ?_)) | (go_wp2_with fail; refine hK.out _ _ (six_bel X_2.out Y_2.out HW6.out) (fun hHeld => ?_))
          clear hK K
          try simp only [Act.put, List.setIfInBounds_toArray, List.set_cons_zero, List.set_cons_succ]
          refine wpAnyH_take (i := 9) (oi := { dst := some 34, op := Op.move (Operand.tmp 33), type := 4, pos := "l04_copy.go:182", after := #[{ on := 8, ground := Ground.data }, { on := 8, ground := Ground.chain }], guard := none }) (v := ?_) rfl (by kernel_rfl) (by kernel_rfl) (by kernel_rfl) (fun _ _ _ h => h) (Or.inl ⟨by rfl, ?_⟩) (by assumption) ?_
          rotate_left
          · intro w hSw; (try dsimp only at hSw); go_simp; (try with_reducible rfl)
          try simp only [Act.put, List.setIfInBounds_toArray, List.set_cons_zero, List.set_cons_succ]
          refine wpAnyH_take (i := 10) (oi := { dst := some 35, op := Op.fieldAddr 76 (Operand.tmp 9) 1, type := 0, pos := "l04_copy.go:182", after := #[{ on := 9, ground := Ground.guard }], guard := some (9, true) }) (v := _) rfl (by kernel_rfl) (by kernel_rfl) (by kernel_rfl) (fun _ _ _ h => h) (Or.inr ⟨by rfl, rfl⟩) (by assumption) ?_
          try simp only [Act.put, List.setIfInBounds_toArray, List.set_cons_zero, List.set_cons_succ]
          refine wpAnyH_take (i := 11) (oi := { dst := some 36, op := Op.load 35 (Operand.tmp 35), type := 35, pos := "l04_copy.go:182", after := #[{ on := 10, ground := Ground.data }, { on := 9, ground := Ground.guard }], guard := some (9, true) }) (v := _) rfl (by kernel_rfl) (by kernel_rfl) (by kernel_rfl) (fun _ _ _ h => h) (Or.inr ⟨by rfl, rfl⟩) (by assumption) ?_
          try simp only [Act.put, List.setIfInBounds_toArray, List.set_cons_zero, List.set_cons_succ]
          refine wpAnyH_take (i := 12) (oi := { dst := some 37, op := Op.fieldAddr 76 (Operand.tmp 9) 2, type := 0, pos := "l04_copy.go:182", after := #[{ on := 9, ground := Ground.guard }], guard := some (9, true) }) (v := _) rfl (by kernel_rfl) (by kernel_rfl) (by kernel_rfl) (fun _ _ _ h => h) (Or.inr ⟨by rfl, rfl⟩) (by assumption) ?_
          try simp only [Act.put, List.setIfInBounds_toArray, List.set_cons_zero, List.set_cons_succ]
          refine wpAnyH_take (i := 13) (oi := { dst := some 38, op := Op.load 74 (Operand.tmp 37), type := 74, pos := "l04_copy.go:182", after := #[{ on := 12, ground := Ground.data }, { on := 9, ground := Ground.guard }], guard := some (9, true) }) (v := _) rfl (by kernel_rfl) (by kernel_rfl) (by kernel_rfl) (fun _ _ _ h => h) (Or.inr ⟨by rfl, rfl⟩) (by assumption) ?_
          try simp only [Act.put, List.setIfInBounds_toArray, List.set_cons_zero, List.set_cons_succ]
          refine wpAnyH_take (i := 15) (oi := { dst := some 40, op := Op.fieldAddr 76 (Operand.tmp 10) 1, type := 0, pos := "l04_copy.go:182", after := #[{ on := 9, ground := Ground.guard }], guard := some (9, true) }) (v := _) rfl (by kernel_rfl) (by kernel_rfl) (by kernel_rfl) (fun _ _ _ h => h) (Or.inr ⟨by rfl, rfl⟩) (by assumption) ?_
          try simp only [Act.put, List.setIfInBounds_toArray, List.set_cons_zero, List.set_cons_succ]
          refine wpAnyH_take (i := 16) (oi := { dst := some 41, op := Op.load 35 (Operand.tmp 40), type := 35, pos := "l04_copy.go:182", after := #[{ on := 15, ground := Ground.data }, { on := 9, ground := Ground.guard }], guard := some (9, true) }) (v := _) rfl (by kernel_rfl) (by kernel_rfl) (by kernel_rfl) (fun _ _ _ h => h) (Or.inr ⟨by rfl, rfl⟩) (by assumption) ?_
          try simp only [Act.put, List.setIfInBounds_toArray, List.set_cons_zero, List.set_cons_succ]
          refine wpAnyH_take (i := 17) (oi := { dst := some 42, op := Op.fieldAddr 76 (Operand.tmp 10) 2, type := 0, pos := "l04_copy.go:182", after := #[{ on := 9, ground := Ground.guard }], guard := some (9, true) }) (v := _) rfl (by kernel_rfl) (by kernel_rfl) (by kernel_rfl) (fun _ _ _ h => h) (Or.inr ⟨by rfl, rfl⟩) (by assumption) ?_
          try simp only [Act.put, List.setIfInBounds_toArray, List.set_cons_zero, List.set_cons_succ]
          refine wpAnyH_take (i := 18) (oi := { dst := some 43, op := Op.load 74 (Operand.tmp 42), type := 74, pos := "l04_copy.go:182", after := #[{ on := 17, ground := Ground.data }, { on := 9, ground := Ground.guard }], guard := some (9, true) }) (v := _) rfl (by kernel_rfl) (by kernel_rfl) (by kernel_rfl) (fun _ _ _ h => h) (Or.inr ⟨by rfl, rfl⟩) (by assumption) ?_
          try simp only [Act.put, List.setIfInBounds_toArray, List.set_cons_zero, List.set_cons_succ]
          refine wpAnyH_ready (rs := [14]) (by kernel_rfl) (by simp) ?_
          refine AllReadyH.cons (o := _) rfl (fun K hK => ?_) AllReadyH.nil
          go_simp
          refine hK.out _ _ (six_bel X_2.out Y_2.out HW6.out) (fun hHeld => ?_)
          clear hK K
          try simp only [Act.put, List.setIfInBounds_toArray, List.set_cons_zero, List.set_cons_succ]
          refine wpAnyH_ready (rs := [19]) (by kernel_rfl) (by simp) ?_
          refine AllReadyH.cons (o := _) rfl (fun K hK => ?_) AllReadyH.nil
          go_simp
          refine hK.out _ _ (six_bel X_2.out Y_2.out HW6.out) (fun hHeld => ?_)
          clear hK K
          try simp only [Act.put, List.setIfInBounds_toArray, List.set_cons_zero, List.set_cons_succ]
          refine wpAnyH_ready (rs := [20]) (by kernel_rfl) (by simp) ?_
          refine AllReadyH.cons (o := _) rfl (fun K hK => ?_) AllReadyH.nil
          go_simp
          refine hK.out _ _ (six_bel X_2.out Y_2.out HW6.out) (fun hHeld => ?_)
          clear hK K
          try simp only [Act.put, List.setIfInBounds_toArray, List.set_cons_zero, List.set_cons_succ]
          refine wpAnyH_take (i := 21) (oi := { dst := some 46, op := Op.pick (Operand.tmp 34) (Operand.tmp 45) (Operand.const (Value.bool false)), type := 4, pos := "l04_copy.go:182", after := #[{ on := 9, ground := Ground.data }, { on := 20, ground := Ground.data }], guard := none }) (v := ?_) rfl (by kernel_rfl) (by kernel_rfl) (by kernel_rfl) (fun _ _ _ h => h) (Or.inl ⟨by rfl, ?_⟩) (by assumption) ?_
          rotate_left
          · intro w hSw; (try dsimp only at hSw); go_simp; (try with_reducible rfl)
          try simp only [Act.put, List.setIfInBounds_toArray, List.set_cons_zero, List.set_cons_succ]
          refine wpAnyH_take (i := 22) (oi := { dst := some 8, op := Op.assign (Operand.tmp 46), type := 4, pos := "l04_copy.go:182", after := #[{ on := 21, ground := Ground.data }, { on := 20, ground := Ground.chain }, { on := 0, ground := Ground.phase }, { on := 1, ground := Ground.phase }, { on := 2, ground := Ground.phase }, { on := 3, ground := Ground.phase }, { on := 4, ground := Ground.phase }, { on := 5, ground := Ground.phase }, { on := 6, ground := Ground.phase }, { on := 7, ground := Ground.phase }, { on := 8, ground := Ground.phase }, { on := 9, ground := Ground.phase }, { on := 10, ground := Ground.phase }, { on := 11, ground := Ground.phase }, { on := 12, ground := Ground.phase }, { on := 13, ground := Ground.phase }, { on := 14, ground := Ground.phase }, { on := 15, ground := Ground.phase }, { on := 16, ground := Ground.phase }, { on := 17, ground := Ground.phase }, { on := 18, ground := Ground.phase }, { on := 19, ground := Ground.phase }, { on := 20, ground := Ground.phase }, { on := 21, ground := Ground.phase }], guard := none }) (v := ?_) rfl (by kernel_rfl) (by kernel_rfl) (by kernel_rfl) (fun _ _ _ h => h) (Or.inl ⟨by rfl, ?_⟩) (by assumption) ?_
          rotate_left
          · intro w hSw; (try dsimp only at hSw); go_simp; (try with_reducible rfl)
          try simp only [Act.put, List.setIfInBounds_toArray, List.set_cons_zero, List.set_cons_succ]
          refine wpAnyH_done (by kernel_rfl) ?_ _
          go_wp2
          go_ret
          exact ⟨rfl, HB3.out.trans (HW6.out.mono HB3.out.size)⟩
      · subst h0
        have hd1 : (co' != 0) = true := by simpa using h1
        have hrf : r = false := by
          cases r with
          | false => rfl
          | true => exact absurd (HR.out.1 rfl) (fun h => h1 h.2.1)
        subst hrf
        clear h1
        go_wp2
        go_ret
        exact ⟨rfl, HB3.out⟩
    · have hd0 : (co != 0) = true := by simpa using h0
      have hrf : r = false := by
        cases r with
        | false => rfl
        | true => exact absurd (HR.out.1 rfl) (fun h => h0 h.1)
      subst hrf
      clear h0
      go_wp2
      go_ret
      exact ⟨rfl, HB3.out⟩
end Go.Proofs.Ytdgppcaeknbnjaa

namespace Go.Proofs.Ytdgppcaeknbnjaa
open Go.RowKit Go.Maps
set_option linter.unusedVariables false

def BothI (sp im : Nat) (h : Int) (n : Nat) (f : Nat → Int) (ac bu : Int) (ra_ : List Int) (h' : Int) (n' : Nat) (f' : Nat → Int) (ac' bu' : Int) (rb_ : List Int) (r : Bool) : Prop :=
  (∀ (a : Option Addr) (c : Nat) (ra : Option Addr) (rc : Nat) (a' : Option Addr) (c' : Nat) (rb : Option Addr) (rd : Nat) (w : World), Src w a n f → n ≤ c → c ≤ maxLen → Src w ra ra_.length (lf ra_) → Src w a' n' f' → n' ≤ c' → c' ≤ maxLen → Src w rb rb_.length (lf rb_) → Calls Try.prog sp #[.agg #[.int .i64 h, .slice a n c, .int .i64 ac, .int .i64 bu], .slice ra ra_.length rc, .agg #[.int .i64 h', .slice a' n' c', .int .i64 ac', .int .i64 bu'], .slice rb rb_.length rd] w (RetBool w r)) ∧ (∀ (a : Option Addr) (c : Nat) (ra : Option Addr) (rc : Nat) (a' : Option Addr) (c' : Nat) (rb : Option Addr) (rd : Nat) (w : World), Src w a n f → n ≤ c → c ≤ maxLen → Src w ra ra_.length (lf ra_) → Src w a' n' f' → n' ≤ c' → c' ≤ maxLen → Src w rb rb_.length (lf rb_) → Calls Try.prog im #[.agg #[.int .i64 h, .slice a n c, .int .i64 ac, .int .i64 bu], .slice ra ra_.length rc, .agg #[.int .i64 h', .slice a' n' c', .int .i64 ac', .int .i64 bu'], .slice rb rb_.length rd] w (RetBool w r))

theorem both_ia (h : Int) (n : Nat) (f : Nat → Int) (ac bu : Int) (ra_ : List Int) (h' : Int) (n' : Nat) (f' : Nat → Int) (ac' bu' : Int) (rb_ : List Int) : ∃ r, BothI 27 26 h n f ac bu ra_ h' n' f' ac' bu' rb_ r := by
  obtain ⟨co, L, hk⟩ := isAsk_some h n f ac bu ra_
  obtain ⟨co', L', hk'⟩ := isAsk_some h' n' f' ac' bu' rb_
  obtain ⟨r, hr⟩ := isIA_some co co' f L ra_ f' L' rb_
  exact ⟨r, fun a c ra rc a' c' rb rd w h1 h2 h3 h4 h5 h6 h7 h8 => specIA_any h ac bu a n c f ra ra_ rc co L h' ac' bu' a' n' c' f' rb rb_ rd co' L' r w h1 h2 h3 h4 hk h5 h6 h7 h8 hk' hr, fun a c ra rc a' c' rb rd w h1 h2 h3 h4 h5 h6 h7 h8 => implIA_any h ac bu a n c f ra ra_ rc co L h' ac' bu' a' n' c' f' rb rb_ rd co' L' r w h1 h2 h3 h4 hk h5 h6 h7 h8 hk' hr⟩

set_option maxRecDepth 100000 in
set_option maxHeartbeats 400000 in
theorem e10_farR (h ac bu : Int) (a : Option Addr) (n c : Nat) (f : Nat → Int) (ra : Option Addr) (ra_ : List Int) (rc : Nat) (h' ac' bu' : Int) (a' : Option Addr) (n' c' : Nat) (f' : Nat → Int) (rb : Option Addr) (rb_ : List Int) (rd : Nat) (w : World) (hrb : 1048576 < ra_.length) :
    Calls Try.prog 10 #[.agg #[.int .i64 h, .slice a n c, .int .i64 ac, .int .i64 bu], .slice ra ra_.length rc, .agg #[.int .i64 h', .slice a' n' c', .int .i64 ac', .int .i64 bu'], .slice rb rb_.length rd] w (RetBool w true) := by
  have hrd : (1048576 : Int) < (ra_.length : Int) := by omega
  go_enter Try.func10, Try.ntmps10
  go_wp2
  go_ret
  exact ⟨rfl, ((Below.refl _ _).alloc (Nat.le_refl _) _).alloc (by simp) _⟩

set_option maxRecDepth 100000 in
set_option maxHeartbeats 400000 in
theorem e10_farR2 (h ac bu : Int) (a : Option Addr) (n c : Nat) (f : Nat → Int) (ra : Option Addr) (ra_ : List Int) (rc : Nat) (h' ac' bu' : Int) (a' : Option Addr) (n' c' : Nat) (f' : Nat → Int) (rb : Option Addr) (rb_ : List Int) (rd : Nat) (w : World) (hra : ra_.length ≤ 1048576) (hrb : 1048576 < rb_.length) :
    Calls Try.prog 10 #[.agg #[.int .i64 h, .slice a n c, .int .i64 ac, .int .i64 bu], .slice ra ra_.length rc, .agg #[.int .i64 h', .slice a' n' c', .int .i64 ac', .int .i64 bu'], .slice rb rb_.length rd] w (RetBool w true) := by
  have hrd : ¬ (1048576 : Int) < (ra_.length : Int) := by omega
  have hrd' : (1048576 : Int) < (rb_.length : Int) := by omega
  go_enter Try.func10, Try.ntmps10
  go_wp2
  go_ret
  exact ⟨rfl, ((Below.refl _ _).alloc (Nat.le_refl _) _).alloc (by simp) _⟩

set_option maxRecDepth 100000 in
set_option maxHeartbeats 800000 in
theorem e10_farA (h ac bu : Int) (a : Option Addr) (n c : Nat) (f : Nat → Int) (ra : Option Addr) (ra_ : List Int) (rc : Nat) (h' ac' bu' : Int) (a' : Option Addr) (n' c' : Nat) (f' : Nat → Int) (rb : Option Addr) (rb_ : List Int) (rd : Nat) (w : World) (hra : ra_.length ≤ 1048576) (hrb : rb_.length ≤ 1048576) (hn : n ≤ maxLen) (hbig : 1048576 < n) :
    Calls Try.prog 10 #[.agg #[.int .i64 h, .slice a n c, .int .i64 ac, .int .i64 bu], .slice ra ra_.length rc, .agg #[.int .i64 h', .slice a' n' c', .int .i64 ac', .int .i64 bu'], .slice rb rb_.length rd] w (RetBool w true) := by
  have hrd : ¬ (1048576 : Int) < (ra_.length : Int) := by omega
  have hrd' : ¬ (1048576 : Int) < (rb_.length : Int) := by omega
  go_enter Try.func10, Try.ntmps10
  go_wp2_with fail
  refine (szArena_no _ _ _ _ _ _ _ _ (by omega) (by omega) hn (by omega)).mono ?_
  rintro e w1 ⟨rfl, hb⟩
  have HB := Lib.hid (thru2 (Below.refl _ _) hb)
  clear hb
  go_wp2
  go_ret
  exact ⟨rfl, HB.out⟩

set_option maxRecDepth 100000 in
set_option maxHeartbeats 800000 in
theorem e10_farA2 (h ac bu : Int) (a : Option Addr) (n c : Nat) (f : Nat → Int) (ra : Option Addr) (ra_ : List Int) (rc : Nat) (h' ac' bu' : Int) (a' : Option Addr) (n' c' : Nat) (f' : Nat → Int) (rb : Option Addr) (rb_ : List Int) (rd : Nat) (w : World) (hra : ra_.length ≤ 1048576) (hrb : rb_.length ≤ 1048576) (hn' : n' ≤ maxLen) (hle : n ≤ 1048576) (hbig : 1048576 < n + n') :
    Calls Try.prog 10 #[.agg #[.int .i64 h, .slice a n c, .int .i64 ac, .int .i64 bu], .slice ra ra_.length rc, .agg #[.int .i64 h', .slice a' n' c', .int .i64 ac', .int .i64 bu'], .slice rb rb_.length rd] w (RetBool w true) := by
  have hrd : ¬ (1048576 : Int) < (ra_.length : Int) := by omega
  have hrd' : ¬ (1048576 : Int) < (rb_.length : Int) := by omega
  go_enter Try.func10, Try.ntmps10
  go_wp2_with fail
  refine (szArena_ok _ _ _ _ _ _ _ _ (by omega) (by omega) (by unfold maxLen; omega) (by omega)).mono ?_
  rintro e w1 ⟨rfl, hb⟩
  have HB := Lib.hid (thru2 (Below.refl _ _) hb)
  have hB := Lib.hid ((Blk.new_at (w.heap.size + 1) (by simp)).below hb)
  have cb0 := hB.out.at 0 rfl; have cb1 := hB.out.at 1 rfl; have cb2 := hB.out.at 2 rfl; have cb3 := hB.out.at 3 rfl
  clear hb
  go_wp2_with fail
  refine (szArena_no _ _ _ _ _ _ _ _ (by omega) (by omega) hn' (by omega)).mono ?_
  rintro e w2 ⟨rfl, hb⟩
  have HB2 := Lib.hid (thru0 HB.out hb)
  clear hb cb0 cb1 cb2 cb3 hB
  go_wp2
  go_ret
  exact ⟨rfl, HB2.out⟩

set_option maxRecDepth 100000 in
set_option maxHeartbeats 6400000 in
theorem e10_near (h ac bu : Int) (a : Option Addr) (n c : Nat) (f : Nat → Int) (ra : Option Addr) (ra_ : List Int) (rc : Nat) (h' ac' bu' : Int) (a' : Option Addr) (n' c' : Nat) (f' : Nat → Int) (rb : Option Addr) (rb_ : List Int) (rd : Nat) (w : World) (s1 : Src w a n f) (q1 : Src w ra ra_.length (lf ra_)) (s2 : Src w a' n' f') (q2 : Src w rb rb_.length (lf rb_)) (hnn : n + n' ≤ 1048576) (hra : ra_.length ≤ 1048576) (hrb : rb_.length ≤ 1048576) :
    Calls Try.prog 10 #[.agg #[.int .i64 h, .slice a n c, .int .i64 ac, .int .i64 bu], .slice ra ra_.length rc, .agg #[.int .i64 h', .slice a' n' c', .int .i64 ac', .int .i64 bu'], .slice rb rb_.length rd] w (RetBool w true) := by
  obtain ⟨r, hbo⟩ := both_ia h n f ac bu ra_ h' n' f' ac' bu' rb_
  have HSP := Lib.hid hbo.1; have HIM := Lib.hid hbo.2
  clear hbo
  have hrd : ¬ (1048576 : Int) < (ra_.length : Int) := by omega
  have hrd' : ¬ (1048576 : Int) < (rb_.length : Int) := by omega
  have hbig : n ≤ 1048576 := by omega
  have hbig' : n' ≤ 1048576 := by omega
  have SA := Lib.hid s1
  have SB := Lib.hid s2
  have QA := Lib.hid q1
  have QB := Lib.hid q2
  clear s1 s2 q1 q2
  go_enter Try.func10, Try.ntmps10
  go_wp2_with fail
  refine (szArena_ok _ _ _ _ _ _ _ _ (by omega) (by omega) (by unfold maxLen; omega) (by omega)).mono ?_
  rintro e w1 ⟨rfl, hb⟩
  have HB1 : Hid (Below w.heap.size w w1) := thru2 (Below.refl _ _) hb
  have z1 : w.heap.size + 2 ≤ w1.heap.size := by have := hb.size; simp at this; omega
  have SA_1 := Lib.hid (((SA.out.alloc _).alloc _).below hb)
  have SB_1 := Lib.hid (((SB.out.alloc _).alloc _).below hb)
  have QA_1 := Lib.hid (((QA.out.alloc _).alloc _).below hb)
  have QB_1 := Lib.hid (((QB.out.alloc _).alloc _).below hb)
  have A_1 := Lib.hid (((Blk.new_at (w.heap.size) (by simp)).alloc _).below hb)
  have B_1 := Lib.hid ((Blk.new_at (w.heap.size + 1) (by simp)).below hb)
  clear hb SA SB QA QB
  have lB := B_1.out.1
  have cB0 := B_1.out.at 0 rfl
  have cB1 := B_1.out.at 1 rfl
  have cB2 := B_1.out.at 2 rfl
  have cB3 := B_1.out.at 3 rfl
  go_wp2_with fail
  refine (szArena_ok _ _ _ _ _ _ _ _ (by omega) (by omega) (by unfold maxLen; omega) (by omega)).mono ?_
  rintro e w2 ⟨rfl, hb⟩
  have HB2 : Hid (Below w.heap.size w w2) := thru0 HB1.out hb
  have z2 : w1.heap.size ≤ w2.heap.size := hb.size
  have SA_2 := Lib.hid (SA_1.out.below hb)
  have SB_2 := Lib.hid (SB_1.out.below hb)
  have QA_2 := Lib.hid (QA_1.out.below hb)
  have QB_2 := Lib.hid (QB_1.out.below hb)
  have A_2 := Lib.hid (A_1.out.below hb)
  have B_2 := Lib.hid (B_1.out.below hb)
  clear hb lB cB0 cB1 cB2 cB3 SA_1 SB_1 QA_1 QB_1 A_1 B_1 HB1
  go_wp2_with fail
  have SA_d := Lib.hid SA_2.out.drew
  have SB_d := Lib.hid SB_2.out.drew
  have QA_d := Lib.hid QA_2.out.drew
  have QB_d := Lib.hid QB_2.out.drew
  have A_d := Lib.hid A_2.out.drew
  have B_d := Lib.hid B_2.out.drew
  have HB_d := Lib.hid HB2.out.drew
  go_region_held3 (fun w' => w'.cell? ⟨w.heap.size, 0, none⟩ = some (.int .i64 h) ∧ w'.cell? ⟨w.heap.size, 1, none⟩ = some (.slice a n c) ∧ w'.cell? ⟨w.heap.size, 2, none⟩ = some (.int .i64 ac) ∧ w'.cell? ⟨w.heap.size, 3, none⟩ = some (.int .i64 bu) ∧ w'.cell? ⟨w.heap.size + 1, 0, none⟩ = some (.int .i64 h') ∧ w'.cell? ⟨w.heap.size + 1, 1, none⟩ = some (.slice a' n' c') ∧ w'.cell? ⟨w.heap.size + 1, 2, none⟩ = some (.int .i64 ac') ∧ w'.cell? ⟨w.heap.size + 1, 3, none⟩ = some (.int .i64 bu'))
    (first | (with_reducible exact ⟨A_d.out.at 0 rfl, A_d.out.at 1 rfl, A_d.out.at 2 rfl, A_d.out.at 3 rfl, B_d.out.at 0 rfl, B_d.out.at 1 rfl, B_d.out.at 2 rfl, B_d.out.at 3 rfl⟩) | (with_reducible exact ⟨A_3.out.at 0 rfl, A_3.out.at 1 rfl, A_3.out.at 2 rfl, A_3.out.at 3 rfl, B_3.out.at 0 rfl, B_3.out.at 1 rfl, B_3.out.at 2 rfl, B_3.out.at 3 rfl⟩) | (with_reducible exact ⟨A_4.out.at 0 rfl, A_4.out.at 1 rfl, A_4.out.at 2 rfl, A_4.out.at 3 rfl, B_4.out.at 0 rfl, B_4.out.at 1 rfl, B_4.out.at 2 rfl, B_4.out.at 3 rfl⟩) | (with_reducible exact ⟨A_5.out.at 0 rfl, A_5.out.at 1 rfl, A_5.out.at 2 rfl, A_5.out.at 3 rfl, B_5.out.at 0 rfl, B_5.out.at 1 rfl, B_5.out.at 2 rfl, B_5.out.at 3 rfl⟩) | (with_reducible exact ⟨A_6.out.at 0 rfl, A_6.out.at 1 rfl, A_6.out.at 2 rfl, A_6.out.at 3 rfl, B_6.out.at 0 rfl, B_6.out.at 1 rfl, B_6.out.at 2 rfl, B_6.out.at 3 rfl⟩) | (with_reducible exact ⟨A_7.out.at 0 rfl, A_7.out.at 1 rfl, A_7.out.at 2 rfl, A_7.out.at 3 rfl, B_7.out.at 0 rfl, B_7.out.at 1 rfl, B_7.out.at 2 rfl, B_7.out.at 3 rfl⟩))
    (first | (go_at_call 31; (with_reducible refine (toArena_any _ _ _ _ _ _ f _ SA_d.out hbig).mono ?_); rintro e w3 ⟨u3, c3, rfl, ho, hb, hc3, hcm3, hn3⟩; have HB3 := Lib.hid (thru0 HB_d.out hb); have SA_3 := Lib.hid (SA_d.out.below hb); have SB_3 := Lib.hid (SB_d.out.below hb); have QA_3 := Lib.hid (QA_d.out.below hb); have QB_3 := Lib.hid (QB_d.out.below hb); have A_3 := Lib.hid (A_d.out.below hb); have B_3 := Lib.hid (B_d.out.below hb); have U_3 : Hid (Src w3 u3 n f) := ho.src; clear hb ho hn3) | (go_at_call 32; (with_reducible refine (toInts_any _ _ _ (lf ra_) _ QA_3.out hra).mono ?_); rintro e w4 ⟨u4, c4, rfl, ho, hb, hc4, hcm4, hn4⟩; have HB4 := Lib.hid (thru0 HB3.out hb); have SA_4 := Lib.hid (SA_3.out.below hb); have SB_4 := Lib.hid (SB_3.out.below hb); have QA_4 := Lib.hid (QA_3.out.below hb); have QB_4 := Lib.hid (QB_3.out.below hb); have A_4 := Lib.hid (A_3.out.below hb); have B_4 := Lib.hid (B_3.out.below hb); have U_4 := Lib.hid (U_3.out.below hb); have P_4 : Hid (Src w4 u4 ra_.length (lf ra_)) := ho.src; clear hb ho hn4) | (go_at_call 31; (with_reducible refine (toArena_any _ _ _ _ _ _ f' _ SB_4.out hbig').mono ?_); rintro e w5 ⟨u5, c5, rfl, ho, hb, hc5, hcm5, hn5⟩; have HB5 := Lib.hid (thru0 HB4.out hb); have SA_5 := Lib.hid (SA_4.out.below hb); have SB_5 := Lib.hid (SB_4.out.below hb); have QA_5 := Lib.hid (QA_4.out.below hb); have QB_5 := Lib.hid (QB_4.out.below hb); have A_5 := Lib.hid (A_4.out.below hb); have B_5 := Lib.hid (B_4.out.below hb); have U_5 := Lib.hid (U_4.out.below hb); have P_5 := Lib.hid (P_4.out.below hb); have V_5 : Hid (Src w5 u5 n' f') := ho.src; clear hb ho hn5) | (go_at_call 32; (with_reducible refine (toInts_any _ _ _ (lf rb_) _ QB_5.out hrb).mono ?_); rintro e w6 ⟨u6, c6, rfl, ho, hb, hc6, hcm6, hn6⟩; have HB6 := Lib.hid (thru0 HB5.out hb); have SA_6 := Lib.hid (SA_5.out.below hb); have SB_6 := Lib.hid (SB_5.out.below hb); have QA_6 := Lib.hid (QA_5.out.below hb); have QB_6 := Lib.hid (QB_5.out.below hb); have A_6 := Lib.hid (A_5.out.below hb); have B_6 := Lib.hid (B_5.out.below hb); have U_6 := Lib.hid (U_5.out.below hb); have P_6 := Lib.hid (P_5.out.below hb); have V_6 := Lib.hid (V_5.out.below hb); have Z_6 : Hid (Src w6 u6 rb_.length (lf rb_)) := ho.src; clear hb ho hn6) | (go_at_call 27; (refine (HSP.out _ _ _ _ _ _ _ _ _ U_6.out hc3 hcm3 P_6.out V_6.out hc5 hcm5 Z_6.out).mono ?_); rintro e w7 ⟨rfl, hb⟩; have HB7 := Lib.hid (thru0 HB6.out hb); have SA_7 := Lib.hid (SA_6.out.below hb); have SB_7 := Lib.hid (SB_6.out.below hb); have QA_7 := Lib.hid (QA_6.out.below hb); have QB_7 := Lib.hid (QB_6.out.below hb); have A_7 := Lib.hid (A_6.out.below hb); have B_7 := Lib.hid (B_6.out.below hb); clear hb))
  have z7 : w.heap.size + 2 ≤ w7.heap.size := by have := B_7.out.1; omega
  have lA := A_7.out.1
  have cA0 := A_7.out.at 0 rfl
  have cA1 := A_7.out.at 1 rfl
  have cA2 := A_7.out.at 2 rfl
  have cA3 := A_7.out.at 3 rfl
  go_wp2_with fail
  refine (toArena_any _ _ _ _ _ _ f _ SA_7.out hbig).mono ?_
  rintro e w8 ⟨u8, c8, rfl, ho, hb, hc8, hcm8, hn8⟩
  have HB8 : Hid (Below w.heap.size w w8) := thru0 HB7.out hb
  have z8 : w7.heap.size ≤ w8.heap.size := hb.size
  have SA_8 := Lib.hid (SA_7.out.below hb)
  have SB_8 := Lib.hid (SB_7.out.below hb)
  have QA_8 := Lib.hid (QA_7.out.below hb)
  have QB_8 := Lib.hid (QB_7.out.below hb)
  have A_8 := Lib.hid (A_7.out.below hb)
  have B_8 := Lib.hid (B_7.out.below hb)
  have RX_8 : Hid (OwnIn w8 (w7.heap.size) w8.heap.size u8 n f) := ho.into
  clear hb lA cA0 cA1 cA2 cA3 SA_7 SB_7 QA_7 QB_7 A_7 B_7 HB7 ho
  go_wp2_with fail
  refine (toInts_any _ _ _ (lf ra_) _ (QA_8.out.alloc _) hra).mono ?_
  rintro e w9 ⟨u9, c9, rfl, ho, hb, hc9, hcm9, hn9⟩
  have HB9 : Hid (Below w.heap.size w w9) := thru1 HB8.out hb
  have z9 : w8.heap.size + 1 ≤ w9.heap.size := by have := hb.size; simp at this; omega
  have SA_9 := Lib.hid ((SA_8.out.alloc _).below hb)
  have SB_9 := Lib.hid ((SB_8.out.alloc _).below hb)
  have QA_9 := Lib.hid ((QA_8.out.alloc _).below hb)
  have QB_9 := Lib.hid ((QB_8.out.alloc _).below hb)
  have A_9 := Lib.hid ((A_8.out.alloc _).below hb)
  have B_9 := Lib.hid ((B_8.out.alloc _).below hb)
  have RX_9 := Lib.hid ((RX_8.out.alloc _).below hb)
  have X_9 := Lib.hid ((Blk.new_at (w8.heap.size) (by simp)).below hb)
  have RQ_9 : Hid (OwnIn w9 (w8.heap.size + 1) w9.heap.size u9 ra_.length (lf ra_)) := (ho.mono (by simp)).into
  clear hb SA_8 SB_8 QA_8 QB_8 A_8 B_8 RX_8 HB8 ho
  have lB := B_9.out.1
  have cB0 := B_9.out.at 0 rfl
  have cB1 := B_9.out.at 1 rfl
  have cB2 := B_9.out.at 2 rfl
  have cB3 := B_9.out.at 3 rfl
  go_wp2_with fail
  refine (toArena_any _ _ _ _ _ _ f' _ SB_9.out hbig').mono ?_
  rintro e w10 ⟨u10, c10, rfl, ho, hb, hc10, hcm10, hn10⟩
  have HB10 : Hid (Below w.heap.size w w10) := thru0 HB9.out hb
  have z10 : w9.heap.size ≤ w10.heap.size := hb.size
  have SA_10 := Lib.hid (SA_9.out.below hb)
  have SB_10 := Lib.hid (SB_9.out.below hb)
  have QA_10 := Lib.hid (QA_9.out.below hb)
  have QB_10 := Lib.hid (QB_9.out.below hb)
  have A_10 := Lib.hid (A_9.out.below hb)
  have B_10 := Lib.hid (B_9.out.below hb)
  have RX_10 := Lib.hid (RX_9.out.below hb)
  have X_10 := Lib.hid (X_9.out.below hb)
  have RQ_10 := Lib.hid (RQ_9.out.below hb)
  have RY_10 : Hid (OwnIn w10 (w9.heap.size) w10.heap.size u10 n' f') := ho.into
  clear hb lB cB0 cB1 cB2 cB3 SA_9 SB_9 QA_9 QB_9 A_9 B_9 RX_9 X_9 RQ_9 HB9 ho
  go_wp2_with fail
  refine (toInts_any _ _ _ (lf rb_) _ (QB_10.out.alloc _) hrb).mono ?_
  rintro e w11 ⟨u11, c11, rfl, ho, hb, hc11, hcm11, hn11⟩
  have HB11 : Hid (Below w.heap.size w w11) := thru1 HB10.out hb
  have z11 : w10.heap.size + 1 ≤ w11.heap.size := by have := hb.size; simp at this; omega
  have SA_11 := Lib.hid ((SA_10.out.alloc _).below hb)
  have SB_11 := Lib.hid ((SB_10.out.alloc _).below hb)
  have QA_11 := Lib.hid ((QA_10.out.alloc _).below hb)
  have QB_11 := Lib.hid ((QB_10.out.alloc _).below hb)
  have A_11 := Lib.hid ((A_10.out.alloc _).below hb)
  have B_11 := Lib.hid ((B_10.out.alloc _).below hb)
  have RX_11 := Lib.hid ((RX_10.out.alloc _).below hb)
  have X_11 := Lib.hid ((X_10.out.alloc _).below hb)
  have RQ_11 := Lib.hid ((RQ_10.out.alloc _).below hb)
  have RY_11 := Lib.hid ((RY_10.out.alloc _).below hb)
  have Y_11 := Lib.hid ((Blk.new_at (w10.heap.size) (by simp)).below hb)
  have RR_11 : Hid (OwnIn w11 (w10.heap.size + 1) w11.heap.size u11 rb_.length (lf rb_)) := (ho.mono (by simp)).into
  clear hb SA_10 SB_10 QA_10 QB_10 A_10 B_10 RX_10 X_10 RQ_10 RY_10 HB10 ho
  have lX := X_11.out.1
  have cX0 := X_11.out.at 0 rfl
  have cX1 := X_11.out.at 1 rfl
  have cX2 := X_11.out.at 2 rfl
  have cX3 := X_11.out.at 3 rfl
  have lY := Y_11.out.1
  have cY0 := Y_11.out.at 0 rfl
  have cY1 := Y_11.out.at 1 rfl
  have cY2 := Y_11.out.at 2 rfl
  have cY3 := Y_11.out.at 3 rfl
  go_wp2_with fail
  refine (HIM.out _ _ _ _ _ _ _ _ _ RX_11.out.src hc8 hcm8 RQ_11.out.src RY_11.out.src hc10 hcm10 RR_11.out.src).mono ?_
  rintro e w12 ⟨rfl, hb⟩
  have HB12 : Hid (Below w.heap.size w w12) := thru0 HB11.out hb
  have z12 : w11.heap.size ≤ w12.heap.size := hb.size
  have SA_12 := Lib.hid (SA_11.out.below hb)
  have SB_12 := Lib.hid (SB_11.out.below hb)
  have QA_12 := Lib.hid (QA_11.out.below hb)
  have QB_12 := Lib.hid (QB_11.out.below hb)
  have A_12 := Lib.hid (A_11.out.below hb)
  have B_12 := Lib.hid (B_11.out.below hb)
  have RX_12 := Lib.hid (RX_11.out.below hb)
  have X_12 := Lib.hid (X_11.out.below hb)
  have RQ_12 := Lib.hid (RQ_11.out.below hb)
  have RY_12 := Lib.hid (RY_11.out.below hb)
  have Y_12 := Lib.hid (Y_11.out.below hb)
  have RR_12 := Lib.hid (RR_11.out.below hb)
  clear hb lX cX0 cX1 cX2 cX3 lY cY0 cY1 cY2 cY3 SA_11 SB_11 QA_11 QB_11 A_11 B_11 RX_11 X_11 RQ_11 RY_11 Y_11 RR_11 HB11
  have lA := A_12.out.1
  have cA0 := A_12.out.at 0 rfl
  have cA1 := A_12.out.at 1 rfl
  have cA2 := A_12.out.at 2 rfl
  have cA3 := A_12.out.at 3 rfl
  have lX := X_12.out.1
  have cX0 := X_12.out.at 0 rfl
  have cX1 := X_12.out.at 1 rfl
  have cX2 := X_12.out.at 2 rfl
  have cX3 := X_12.out.at 3 rfl
  go_wp2_with fail
  have SA_12d := Lib.hid SA_12.out.drew
  have SB_12d := Lib.hid SB_12.out.drew
  have QA_12d := Lib.hid QA_12.out.drew
  have QB_12d := Lib.hid QB_12.out.drew
  have A_12d := Lib.hid A_12.out.drew
  have B_12d := Lib.hid B_12.out.drew
  have RX_12d := Lib.hid RX_12.out.drew
  have X_12d := Lib.hid X_12.out.drew
  have RQ_12d := Lib.hid RQ_12.out.drew
  have RY_12d := Lib.hid RY_12.out.drew
  have Y_12d := Lib.hid Y_12.out.drew
  have RR_12d := Lib.hid RR_12.out.drew
  have HB12d := Lib.hid HB12.out.drew
  go_region_held3 (fun w' => w'.cell? ⟨w.heap.size, 0, none⟩ = some (.int .i64 h) ∧ w'.cell? ⟨w.heap.size, 1, none⟩ = some (.slice a n c) ∧ w'.cell? ⟨w.heap.size, 2, none⟩ = some (.int .i64 ac) ∧ w'.cell? ⟨w.heap.size, 3, none⟩ = some (.int .i64 bu) ∧ w'.cell? ⟨w8.heap.size, 0, none⟩ = some (.int .i64 h) ∧ w'.cell? ⟨w8.heap.size, 1, none⟩ = some (.slice u8 n c8) ∧ w'.cell? ⟨w8.heap.size, 2, none⟩ = some (.int .i64 ac) ∧ w'.cell? ⟨w8.heap.size, 3, none⟩ = some (.int .i64 bu))
    (first | exact ⟨A_12d.out.at 0 rfl, A_12d.out.at 1 rfl, A_12d.out.at 2 rfl, A_12d.out.at 3 rfl, X_12d.out.at 0 rfl, X_12d.out.at 1 rfl, X_12d.out.at 2 rfl, X_12d.out.at 3 rfl⟩ | exact ⟨A_13.out.at 0 rfl, A_13.out.at 1 rfl, A_13.out.at 2 rfl, A_13.out.at 3 rfl, X_13.out.at 0 rfl, X_13.out.at 1 rfl, X_13.out.at 2 rfl, X_13.out.at 3 rfl⟩ | exact ⟨A_14.out.at 0 rfl, A_14.out.at 1 rfl, A_14.out.at 2 rfl, A_14.out.at 3 rfl, X_14.out.at 0 rfl, X_14.out.at 1 rfl, X_14.out.at 2 rfl, X_14.out.at 3 rfl⟩)
    (first | (go_at_call 31; refine (toArena_any _ _ _ _ _ _ f _ SA_12d.out hbig).mono ?_; rintro e w13 ⟨u13, c13, rfl, ho, hb, hc13, hcm13, hn13⟩; have HB13 := Lib.hid (thru0 HB12d.out hb); have z13 : w12.heap.size ≤ w13.heap.size := hb.size; have SA_13 := Lib.hid (SA_12d.out.below hb); have SB_13 := Lib.hid (SB_12d.out.below hb); have QA_13 := Lib.hid (QA_12d.out.below hb); have QB_13 := Lib.hid (QB_12d.out.below hb); have A_13 := Lib.hid (A_12d.out.below hb); have B_13 := Lib.hid (B_12d.out.below hb); have RX_13 := Lib.hid (RX_12d.out.below hb); have X_13 := Lib.hid (X_12d.out.below hb); have RQ_13 := Lib.hid (RQ_12d.out.below hb); have RY_13 := Lib.hid (RY_12d.out.below hb); have Y_13 := Lib.hid (Y_12d.out.below hb); have RR_13 := Lib.hid (RR_12d.out.below hb); have RT_13 : Hid (OwnIn w13 w12.heap.size w13.heap.size u13 n f) := ho.into; clear hb ho) | (go_at_call 34; refine (eqArena_same _ _ _ _ _ _ _ _ f f _ RX_13.out.src RT_13.out.src hbig (fun _ _ => rfl)).mono ?_; rintro e w14 ⟨rfl, hb⟩; have HB14 := Lib.hid (thru0 HB13.out hb); have z14 : w13.heap.size ≤ w14.heap.size := hb.size; have SA_14 := Lib.hid (SA_13.out.below hb); have SB_14 := Lib.hid (SB_13.out.below hb); have QA_14 := Lib.hid (QA_13.out.below hb); have QB_14 := Lib.hid (QB_13.out.below hb); have A_14 := Lib.hid (A_13.out.below hb); have B_14 := Lib.hid (B_13.out.below hb); have RX_14 := Lib.hid (RX_13.out.below hb); have X_14 := Lib.hid (X_13.out.below hb); have RQ_14 := Lib.hid (RQ_13.out.below hb); have RY_14 := Lib.hid (RY_13.out.below hb); have Y_14 := Lib.hid (Y_13.out.below hb); have RR_14 := Lib.hid (RR_13.out.below hb); have RT_14 := Lib.hid (RT_13.out.below hb); clear hb))

  go_wp2_with fail
  refine (toInts_any _ _ _ (lf ra_) _ QA_14.out hra).mono ?_
  rintro e w15 ⟨u15, c15, rfl, ho, hb, hc15, hcm15, hn15⟩
  have HB15 : Hid (Below w.heap.size w w15) := thru0 HB14.out hb
  have z15 : w14.heap.size ≤ w15.heap.size := hb.size
  have SA_15 := Lib.hid (SA_14.out.below hb)
  have SB_15 := Lib.hid (SB_14.out.below hb)
  have QA_15 := Lib.hid (QA_14.out.below hb)
  have QB_15 := Lib.hid (QB_14.out.below hb)
  have A_15 := Lib.hid (A_14.out.below hb)
  have B_15 := Lib.hid (B_14.out.below hb)
  have RX_15 := Lib.hid (RX_14.out.below hb)
  have X_15 := Lib.hid (X_14.out.below hb)
  have RQ_15 := Lib.hid (RQ_14.out.below hb)
  have RY_15 := Lib.hid (RY_14.out.below hb)
  have Y_15 := Lib.hid (Y_14.out.below hb)
  have RR_15 := Lib.hid (RR_14.out.below hb)
  have QT_15 : Hid (OwnIn w15 (w14.heap.size) w15.heap.size u15 ra_.length (lf ra_)) := ho.into
  clear hb SA_14 SB_14 QA_14 QB_14 A_14 B_14 RX_14 X_14 RQ_14 RY_14 Y_14 RR_14 HB14 ho
  go_wp2_with fail
  refine (eqInts_same _ _ _ _ _ (lf ra_) (lf ra_) _ RQ_15.out.src QT_15.out.src hra).mono ?_
  rintro e w16 ⟨hret, hb⟩
  have HB16 : Hid (Below w.heap.size w w16) := thru0 HB15.out hb
  have z16 : w15.heap.size ≤ w16.heap.size := hb.size
  have SA_16 := Lib.hid (SA_15.out.below hb)
  have SB_16 := Lib.hid (SB_15.out.below hb)
  have QA_16 := Lib.hid (QA_15.out.below hb)
  have QB_16 := Lib.hid (QB_15.out.below hb)
  have A_16 := Lib.hid (A_15.out.below hb)
  have B_16 := Lib.hid (B_15.out.below hb)
  have RX_16 := Lib.hid (RX_15.out.below hb)
  have X_16 := Lib.hid (X_15.out.below hb)
  have RQ_16 := Lib.hid (RQ_15.out.below hb)
  have RY_16 := Lib.hid (RY_15.out.below hb)
  have Y_16 := Lib.hid (Y_15.out.below hb)
  have RR_16 := Lib.hid (RR_15.out.below hb)
  have QT_16 := Lib.hid (QT_15.out.below hb)
  rw [eqB_yes (fun _ _ => rfl)] at hret
  subst hret
  clear hb SA_15 SB_15 QA_15 QB_15 A_15 B_15 RX_15 X_15 RQ_15 RY_15 Y_15 RR_15 QT_15 HB15
  clear QT_16
  have lB := B_16.out.1
  have cB0 := B_16.out.at 0 rfl
  have cB1 := B_16.out.at 1 rfl
  have cB2 := B_16.out.at 2 rfl
  have cB3 := B_16.out.at 3 rfl
  have lY := Y_16.out.1
  have cY0 := Y_16.out.at 0 rfl
  have cY1 := Y_16.out.at 1 rfl
  have cY2 := Y_16.out.at 2 rfl
  have cY3 := Y_16.out.at 3 rfl
  go_wp2_with fail
  have SA_16d := Lib.hid SA_16.out.drew
  have SB_16d := Lib.hid SB_16.out.drew
  have QA_16d := Lib.hid QA_16.out.drew
  have QB_16d := Lib.hid QB_16.out.drew
  have A_16d := Lib.hid A_16.out.drew
  have B_16d := Lib.hid B_16.out.drew
  have RX_16d := Lib.hid RX_16.out.drew
  have X_16d := Lib.hid X_16.out.drew
  have RQ_16d := Lib.hid RQ_16.out.drew
  have RY_16d := Lib.hid RY_16.out.drew
  have Y_16d := Lib.hid Y_16.out.drew
  have RR_16d := Lib.hid RR_16.out.drew
  have HB16d := Lib.hid HB16.out.drew
  go_region_held3 (fun w' => w'.cell? ⟨w.heap.size + 1, 0, none⟩ = some (.int .i64 h') ∧ w'.cell? ⟨w.heap.size + 1, 1, none⟩ = some (.slice a' n' c') ∧ w'.cell? ⟨w.heap.size + 1, 2, none⟩ = some (.int .i64 ac') ∧ w'.cell? ⟨w.heap.size + 1, 3, none⟩ = some (.int .i64 bu') ∧ w'.cell? ⟨w10.heap.size, 0, none⟩ = some (.int .i64 h') ∧ w'.cell? ⟨w10.heap.size, 1, none⟩ = some (.slice u10 n' c10) ∧ w'.cell? ⟨w10.heap.size, 2, none⟩ = some (.int .i64 ac') ∧ w'.cell? ⟨w10.heap.size, 3, none⟩ = some (.int .i64 bu'))
    (first | exact ⟨B_16d.out.at 0 rfl, B_16d.out.at 1 rfl, B_16d.out.at 2 rfl, B_16d.out.at 3 rfl, Y_16d.out.at 0 rfl, Y_16d.out.at 1 rfl, Y_16d.out.at 2 rfl, Y_16d.out.at 3 rfl⟩ | exact ⟨B_17.out.at 0 rfl, B_17.out.at 1 rfl, B_17.out.at 2 rfl, B_17.out.at 3 rfl, Y_17.out.at 0 rfl, Y_17.out.at 1 rfl, Y_17.out.at 2 rfl, Y_17.out.at 3 rfl⟩ | exact ⟨B_18.out.at 0 rfl, B_18.out.at 1 rfl, B_18.out.at 2 rfl, B_18.out.at 3 rfl, Y_18.out.at 0 rfl, Y_18.out.at 1 rfl, Y_18.out.at 2 rfl, Y_18.out.at 3 rfl⟩)
    (first | (go_at_call 31; refine (toArena_any _ _ _ _ _ _ f' _ SB_16d.out hbig').mono ?_; rintro e w17 ⟨u17, c17, rfl, ho, hb, hc17, hcm17, hn17⟩; have HB17 := Lib.hid (thru0 HB16d.out hb); have z17 : w16.heap.size ≤ w17.heap.size := hb.size; have SA_17 := Lib.hid (SA_16d.out.below hb); have SB_17 := Lib.hid (SB_16d.out.below hb); have QA_17 := Lib.hid (QA_16d.out.below hb); have QB_17 := Lib.hid (QB_16d.out.below hb); have A_17 := Lib.hid (A_16d.out.below hb); have B_17 := Lib.hid (B_16d.out.below hb); have RX_17 := Lib.hid (RX_16d.out.below hb); have X_17 := Lib.hid (X_16d.out.below hb); have RQ_17 := Lib.hid (RQ_16d.out.below hb); have RY_17 := Lib.hid (RY_16d.out.below hb); have Y_17 := Lib.hid (Y_16d.out.below hb); have RR_17 := Lib.hid (RR_16d.out.below hb); have RT_17 : Hid (OwnIn w17 w16.heap.size w17.heap.size u17 n' f') := ho.into; clear hb ho) | (go_at_call 34; refine (eqArena_same _ _ _ _ _ _ _ _ f' f' _ RY_17.out.src RT_17.out.src hbig' (fun _ _ => rfl)).mono ?_; rintro e w18 ⟨rfl, hb⟩; have HB18 := Lib.hid (thru0 HB17.out hb); have z18 : w17.heap.size ≤ w18.heap.size := hb.size; have SA_18 := Lib.hid (SA_17.out.below hb); have SB_18 := Lib.hid (SB_17.out.below hb); have QA_18 := Lib.hid (QA_17.out.below hb); have QB_18 := Lib.hid (QB_17.out.below hb); have A_18 := Lib.hid (A_17.out.below hb); have B_18 := Lib.hid (B_17.out.below hb); have RX_18 := Lib.hid (RX_17.out.below hb); have X_18 := Lib.hid (X_17.out.below hb); have RQ_18 := Lib.hid (RQ_17.out.below hb); have RY_18 := Lib.hid (RY_17.out.below hb); have Y_18 := Lib.hid (Y_17.out.below hb); have RR_18 := Lib.hid (RR_17.out.below hb); have RT_18 := Lib.hid (RT_17.out.below hb); clear hb))

  go_wp2_with fail
  refine (toInts_any _ _ _ (lf rb_) _ QB_18.out hrb).mono ?_
  rintro e w19 ⟨u19, c19, rfl, ho, hb, hc19, hcm19, hn19⟩
  have HB19 : Hid (Below w.heap.size w w19) := thru0 HB18.out hb
  have z19 : w18.heap.size ≤ w19.heap.size := hb.size
  have SA_19 := Lib.hid (SA_18.out.below hb)
  have SB_19 := Lib.hid (SB_18.out.below hb)
  have QA_19 := Lib.hid (QA_18.out.below hb)
  have QB_19 := Lib.hid (QB_18.out.below hb)
  have A_19 := Lib.hid (A_18.out.below hb)
  have B_19 := Lib.hid (B_18.out.below hb)
  have RX_19 := Lib.hid (RX_18.out.below hb)
  have X_19 := Lib.hid (X_18.out.below hb)
  have RQ_19 := Lib.hid (RQ_18.out.below hb)
  have RY_19 := Lib.hid (RY_18.out.below hb)
  have Y_19 := Lib.hid (Y_18.out.below hb)
  have RR_19 := Lib.hid (RR_18.out.below hb)
  have QT_19 : Hid (OwnIn w19 (w18.heap.size) w19.heap.size u19 rb_.length (lf rb_)) := ho.into
  clear hb SA_18 SB_18 QA_18 QB_18 A_18 B_18 RX_18 X_18 RQ_18 RY_18 Y_18 RR_18 HB18 ho
  go_wp2_with fail
  refine (eqInts_same _ _ _ _ _ (lf rb_) (lf rb_) _ RR_19.out.src QT_19.out.src hrb).mono ?_
  rintro e w20 ⟨hret, hb⟩
  have HB20 : Hid (Below w.heap.size w w20) := thru0 HB19.out hb
  have z20 : w19.heap.size ≤ w20.heap.size := hb.size
  have SA_20 := Lib.hid (SA_19.out.below hb)
  have SB_20 := Lib.hid (SB_19.out.below hb)
  have QA_20 := Lib.hid (QA_19.out.below hb)
  have QB_20 := Lib.hid (QB_19.out.below hb)
  have A_20 := Lib.hid (A_19.out.below hb)
  have B_20 := Lib.hid (B_19.out.below hb)
  have RX_20 := Lib.hid (RX_19.out.below hb)
  have X_20 := Lib.hid (X_19.out.below hb)
  have RQ_20 := Lib.hid (RQ_19.out.below hb)
  have RY_20 := Lib.hid (RY_19.out.below hb)
  have Y_20 := Lib.hid (Y_19.out.below hb)
  have RR_20 := Lib.hid (RR_19.out.below hb)
  have QT_20 := Lib.hid (QT_19.out.below hb)
  rw [eqB_yes (fun _ _ => rfl)] at hret
  subst hret
  clear hb SA_19 SB_19 QA_19 QB_19 A_19 B_19 RX_19 X_19 RQ_19 RY_19 Y_19 RR_19 QT_19 HB19
  clear QT_20
  go_wp2
  go_ret
  exact ⟨rfl, HB20.out⟩

theorem e10_any (h ac bu : Int) (a : Option Addr) (n c : Nat) (f : Nat → Int) (ra : Option Addr) (rn rc : Nat) (rf : Nat → Int) (h' ac' bu' : Int) (a' : Option Addr) (n' c' : Nat) (f' : Nat → Int) (rb : Option Addr) (rm rd : Nat) (rg : Nat → Int) (w : World) (hs : Src w a n f) (hn : n ≤ maxLen) (hq : Src w ra rn rf) (hqn : rn ≤ maxLen) (hs' : Src w a' n' f') (hn' : n' ≤ maxLen) (hq' : Src w rb rm rg) (hqn' : rm ≤ maxLen) : Calls Try.prog 10 #[.agg #[.int .i64 h, .slice a n c, .int .i64 ac, .int .i64 bu], .slice ra rn rc, .agg #[.int .i64 h', .slice a' n' c', .int .i64 ac', .int .i64 bu'], .slice rb rm rd] w (RetBool w true) := by
  obtain ⟨ra_, rfl, k⟩ := src_list hq
  obtain ⟨rb_, rfl, k'⟩ := src_list hq'
  by_cases h1 : ra_.length ≤ 1048576
  · by_cases h2 : rb_.length ≤ 1048576
    · by_cases h3 : n ≤ 1048576
      · by_cases h4 : n + n' ≤ 1048576
        · exact e10_near h ac bu a n c f ra ra_ rc h' ac' bu' a' n' c' f' rb rb_ rd w hs k hs' k' h4 h1 h2
        · exact e10_farA2 h ac bu a n c f ra ra_ rc h' ac' bu' a' n' c' f' rb rb_ rd w h1 h2 hn' h3 (by omega)
      · exact e10_farA h ac bu a n c f ra ra_ rc h' ac' bu' a' n' c' f' rb rb_ rd w h1 h2 hn (by omega)
    · exact e10_farR2 h ac bu a n c f ra ra_ rc h' ac' bu' a' n' c' f' rb rb_ rd w h1 (by omega)
  · exact e10_farR h ac bu a n c f ra ra_ rc h' ac' bu' a' n' c' f' rb rb_ rd w (by omega)
end Go.Proofs.Ytdgppcaeknbnjaa

