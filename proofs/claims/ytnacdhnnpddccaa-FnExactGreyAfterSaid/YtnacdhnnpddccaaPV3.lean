/- Texts merged: CM1 to S12. -/
import Derived.Test.YtnacdhnnpddccaaPV2
import Derived.Maps.Own
import Derived.Maps.OwnOps
import Derived.Maps.OwnSet
import Derived.OneCell
import Derived.WalkMore
namespace Go.Proofs.Ytnacdhnnpddccaa
open Go.RowKit
set_option linter.unusedVariables false

/-- Nothing that was there is turned, but two blocks. -/
structure Kep (w w' : World) (b g : Nat) : Prop where
  os : w'.os = w.os
  tape : w'.tape = w.tape
  output : w'.output = w.output
  size : w.heap.size ≤ w'.heap.size
  block : ∀ k, k < w.heap.size → k ≠ b → k ≠ g → w'.heap[k]? = w.heap[k]?

theorem Kep.refl (w : World) (b g : Nat) : Kep w w b g := ⟨rfl, rfl, rfl, Nat.le_refl _, fun _ _ _ _ => rfl⟩

theorem Kep.trans {w w1 w2 : World} {b g : Nat} (h : Kep w w1 b g) (k : Kep w1 w2 b g) : Kep w w2 b g :=
  ⟨k.os.trans h.os, k.tape.trans h.tape, k.output.trans h.output, Nat.le_trans h.size k.size, fun i hi h1 h2 => (k.block i (Nat.lt_of_lt_of_le hi h.size) h1 h2).trans (h.block i hi h1 h2)⟩

theorem kep_of_below {w w' : World} (h : Below w.heap.size w w') (b g : Nat) : Kep w w' b g := ⟨h.os, h.tape, h.output, h.size, fun k hk _ _ => h.block k hk⟩

theorem kep_set {w : World} {b g : Nat} {p : Addr} (hp : p.block = b ∨ p.block = g) (u : Value) : Kep w (w.setCell p u) b g := by
  have h : Below p.block w (w.setCell p u) := (Below.refl _ _).setCell (Nat.le_refl _) u
  exact ⟨h.os, h.tape, h.output, h.size, fun k _ h1 h2 => Below.heap_setCell w p u k (by omega)⟩

theorem kep_of_keeps {w w' : World} {b g : Nat} (h : Keeps w w' g (g + 1)) : Kep w w' b g := ⟨h.os, h.tape, h.output, h.size, fun k hk _ h2 => h.block k hk (by omega)⟩

theorem Kep.below {w w' : World} {b g B : Nat} (h : Kep w w' b g) (h1 : B ≤ b) (h2 : B ≤ g) (hs : B ≤ w.heap.size) : Below B w w' :=
  ⟨h.os, h.tape, h.output, h.size, fun k hk => h.block k (by omega) (by omega) (by omega)⟩

theorem Blk.kep {w w' : World} {b g k : Nat} {cs : List Value} (h : Blk w k cs) (hk : Kep w w' b g) (h1 : k ≠ b) (h2 : k ≠ g) : Blk w' k cs := by
  have e := hk.block k h.1 h1 h2
  exact ⟨Nat.lt_of_lt_of_le h.1 hk.size, fun i u hu => ⟨(World.cell?_of_block (w := w) (a := ⟨k, i, none⟩) e).trans (h.2 i u hu).1, (World.frozen?_of_block (w := w) (a := ⟨k, i, none⟩) e).trans (h.2 i u hu).2⟩⟩

/-- A row of words that may be written. -/
structure Wrd (w : World) (g q n : Nat) (F : Nat → Int) : Prop where
  lt : g < w.heap.size
  cell : ∀ i, i < n → w.cell? ⟨g, q + i, none⟩ = some (.int .i64 (F i))
  free : ∀ i, i < n → w.frozen? ⟨g, q + i, none⟩ = false

theorem Wrd.block {w w' : World} {g q n : Nat} {F : Nat → Int} (h : Wrd w g q n F) (e : w'.heap[g]? = w.heap[g]?) (z : w.heap.size ≤ w'.heap.size) : Wrd w' g q n F :=
  ⟨Nat.lt_of_lt_of_le h.lt z, fun i hi => (World.cell?_of_block (w := w) (a := ⟨g, q + i, none⟩) e).trans (h.cell i hi), fun i hi => (World.frozen?_of_block (w := w) (a := ⟨g, q + i, none⟩) e).trans (h.free i hi)⟩

theorem Wrd.below {w w' : World} {g q n : Nat} {F : Nat → Int} (h : Wrd w g q n F) (hb : Below w.heap.size w w') : Wrd w' g q n F := h.block (hb.block g h.lt) hb.size

theorem Wrd.drew {w : World} {g q n : Nat} {F : Nat → Int} (h : Wrd w g q n F) : Wrd w.drew g q n F := h.below (Below.refl _ _).drew

theorem Wrd.alloc {w : World} {g q n : Nat} {F : Nat → Int} (h : Wrd w g q n F) (o : Obj) : Wrd (w.alloc o) g q n F := h.below ((Below.refl _ _).alloc (Nat.le_refl _) o)

theorem Wrd.ext {w W : World} {g q n : Nat} {F : Nat → Int} (h : Wrd w g q n F) (e : Ext w W) : Wrd W g q n F := by
  rcases e with rfl | ⟨o, rfl⟩
  · exact h
  · exact h.alloc o

theorem Wrd.other {w : World} {g q n : Nat} {F : Nat → Int} (h : Wrd w g q n F) {p : Addr} (hp : p.block ≠ g) (u : Value) : Wrd (w.setCell p u) g q n F := h.block (Below.heap_setCell w p u g (fun e => hp e.symm)) (by simp)

theorem Wrd.congr {w : World} {g q n : Nat} {F G : Nat → Int} (h : Wrd w g q n F) (e : ∀ i, i < n → F i = G i) : Wrd w g q n G := ⟨h.lt, fun i hi => by rw [h.cell i hi, e i hi], h.free⟩

theorem Wrd.own {w : World} {g q n : Nat} {F : Nat → Int} (h : Wrd w g q n F) : OwnIn w g (g + 1) (some ⟨g, q, none⟩) n F := .inr ⟨g, q, rfl, ⟨Nat.le_refl _, Nat.lt_succ_self _⟩, h.lt, fun i hi => ⟨h.cell i hi, h.free i hi⟩⟩

theorem Wrd.src {w : World} {g q n : Nat} {F : Nat → Int} (h : Wrd w g q n F) : Src w (some ⟨g, q, none⟩) n F := h.own.src

theorem wrd_of {w : World} {lo hi g q n : Nat} {F : Nat → Int} (h : OwnIn w lo hi (some ⟨g, q, none⟩) n F) (hn : 0 < n) : Wrd w g q n F ∧ lo ≤ g ∧ g < hi := by
  rcases h with h | ⟨b, off, h1, h2, h3, h4⟩
  · omega
  · cases h1
    exact ⟨⟨h3, fun i hi => (h4 i hi).1, fun i hi => (h4 i hi).2⟩, h2.1, h2.2⟩

theorem Wrd.put {w : World} {g q n : Nat} {F : Nat → Int} (h : Wrd w g q n F) (k : Nat) (hk : k < n) (v : Int) : Wrd (w.setCell ⟨g, q + k, none⟩ (.int .i64 v)) g q n (fun j => if j = k then v else F j) ∧ ∀ b, Kep w (w.setCell ⟨g, q + k, none⟩ (.int .i64 v)) b g := by
  obtain ⟨h1, h2⟩ := OwnIn.stored h.own k hk v
  exact ⟨(wrd_of h1 (by omega)).1, fun b => kep_of_keeps h2⟩

theorem Wrd.two {w : World} {g q n : Nat} {F : Nat → Int} (h : Wrd w g q n F) (i j : Nat) (hi : i < n) (hj : j < n) : w.cell? ⟨g, q + i, none⟩ = some (.int .i64 (F i)) ∧ w.cell? ⟨g, q + j, none⟩ = some (.int .i64 (F j)) := ⟨h.cell i hi, h.cell j hj⟩

/-- Words while an object is laid behind others. -/
def cpF (F : Nat → Int) (fr pn i : Nat) : Nat → Int := fun j => if fr ≤ j ∧ j < fr + i then F (pn + (j - fr)) else F j

theorem cpF_zero (F : Nat → Int) (fr pn : Nat) : cpF F fr pn 0 = F := by
  funext j
  unfold cpF
  rw [if_neg (by omega)]

theorem cpF_step (F : Nat → Int) (fr pn i : Nat) (v : Int) (hv : v = F (pn + i)) : ∀ j, (if j = fr + i then v else cpF F fr pn i j) = cpF F fr pn (i + 1) j := by
  intro j
  unfold cpF
  by_cases e : j = fr + i
  · rw [if_pos e, if_pos (by omega), hv]
    congr 1; omega
  · rw [if_neg e]
    by_cases h : fr ≤ j ∧ j < fr + i
    · rw [if_pos h, if_pos (by omega)]
    · rw [if_neg h, if_neg (by omega)]

theorem cpF_far {F : Nat → Int} {fr pn i j : Nat} (h : ¬ (fr ≤ j ∧ j < fr + i)) : cpF F fr pn i j = F j := by unfold cpF; rw [if_neg h]

theorem cpF_in {F : Nat → Int} {fr pn i k : Nat} (h : k < i) : cpF F fr pn i (fr + k) = F (pn + k) := by
  unfold cpF
  rw [if_pos (by omega)]
  congr 1; omega

/-- Words behind one that was brought over. -/
def brF (F : Nat → Int) (fr pn n : Nat) : Nat → Int := fun j => if j = pn then 2 * (fr : Int) + 2 else cpF F fr pn n j

theorem CW.brought {f F : Nat → Int} {L : List Ob} {B U P H s kk pn fr : Nat} {R : List Int} {x : Ob} (c : CW f L P R s kk F) (a : Cop f L B U P H) (hf : findO L (pn : Int) = some x) (hn : (pn : Int) ∉ R) (hfr : fr = P + totO (objsO L R)) : CW f L P (R ++ [(pn : Int)]) s kk (brF F fr pn (wordsO x)) := by
  have hx := List.mem_of_find?_eq_some hf
  have hxa : x.at_ = (pn : Int) := by simpa using List.find?_some hf
  have hb := a.bounds x hx
  have ht := c.tot a
  obtain ⟨r1, r2, r3⟩ := a.room
  have hw : wordsO x = 2 + x.s.toNat := rfl
  subst hfr
  have hnd : (R ++ [(pn : Int)]).Nodup := List.nodup_append.mpr ⟨c.nodup, by simp, fun q hq r hr e => by
    simp only [List.mem_singleton] at hr
    subst hr; subst e; exact hn hq⟩
  have hsub : ∀ q ∈ R ++ [(pn : Int)], q ∈ placesO L := fun q hq => by
    rcases List.mem_append.mp hq with h | h
    · exact c.sub q h
    · simp only [List.mem_singleton] at h; subst h; exact mem_placesO.2 ⟨x, hf⟩
  have ht2 : totO (objsO L R) + wordsO x ≤ U := by
    have h9 := Nat.le_trans (tot_le a.right.apart hnd hsub) a.tot
    rw [objsO_snoc hf, totO_append] at h9
    have : totO [x] = wordsO x := by simp [totO]
    omega
  refine c.bring a hf hn (fun k hk => ?_) ?_ (fun j h1 h2 => ?_)
  · unfold brF
    rw [if_neg (by omega), cpF_in hk]
    simp
  · unfold brF
    simp
  · unfold brF
    simp only [Int.toNat_natCast] at h2
    rw [if_neg h2, cpF_far h1]

theorem CW.fits {f F : Nat → Int} {L : List Ob} {B U P H s kk pn : Nat} {R : List Int} {x : Ob} (c : CW f L P R s kk F) (a : Cop f L B U P H) (hf : findO L (pn : Int) = some x) (hn : (pn : Int) ∉ R) : P + totO (objsO L R) + wordsO x ≤ 2 * H ∧ totO (objsO L (R ++ [(pn : Int)])) = totO (objsO L R) + wordsO x ∧ pn + wordsO x ≤ 2 * H ∧ totO (objsO L R) + wordsO x ≤ U ∧ (∀ k, k < wordsO x → ¬ (P + totO (objsO L R) ≤ pn + k ∧ pn + k < P + totO (objsO L R) + wordsO x)) ∧ F pn = packO x ∧ F (pn + 1) = x.h ∧ ObOk x := by
  have hx := List.mem_of_find?_eq_some hf
  have hxa : x.at_ = (pn : Int) := by simpa using List.find?_some hf
  have hb := a.bounds x hx
  have ht := c.tot a
  obtain ⟨r1, r2, r3⟩ := a.room
  have hw : wordsO x = 2 + x.s.toNat := rfl
  have hnd : (R ++ [(pn : Int)]).Nodup := List.nodup_append.mpr ⟨c.nodup, by simp, fun q hq r hr e => by
    simp only [List.mem_singleton] at hr
    subst hr; subst e; exact hn hq⟩
  have hsub : ∀ q ∈ R ++ [(pn : Int)], q ∈ placesO L := fun q hq => by
    rcases List.mem_append.mp hq with h | h
    · exact c.sub q h
    · simp only [List.mem_singleton] at h; subst h; exact mem_placesO.2 ⟨x, hf⟩
  have h8 : totO (objsO L (R ++ [(pn : Int)])) = totO (objsO L R) + wordsO x := by
    rw [objsO_snoc hf, totO_append]
    have : totO [x] = wordsO x := by simp [totO]
    omega
  have h9 := Nat.le_trans (tot_le a.right.apart hnd hsub) a.tot
  have o0 := c.old a hx (by rw [hxa]; exact hn) (k := 0) (by omega)
  have o1 := c.old a hx (by rw [hxa]; exact hn) (k := 1) (by omega)
  obtain ⟨e0, e1⟩ := a.heads x hx
  rw [hxa] at o0 o1 e0 e1 hb
  simp only [Int.toNat_natCast, Nat.add_zero] at o0 o1 e0 e1 hb
  refine ⟨by omega, h8, by omega, by omega, fun k hk => by omega, by rw [o0, e0], by rw [o1, e1], a.right.ok x hx⟩
end Go.Proofs.Ytnacdhnnpddccaa

namespace Go.Proofs.Ytnacdhnnpddccaa
open Go.RowKit
set_option linter.unusedVariables false

set_option maxRecDepth 100000 in
set_option maxHeartbeats 1600000 in
theorem l11Bring_old (b g q n c : Nat) (h ac bu nx sc fr : Int) (rv : Value) (F : Nat → Int) (pn : Nat) (f : Nat → Int) (L : List Ob) (B U P H : Nat) (R : List Int) (s kk : Nat) (w : World) (hB : Blk w b [.int .i64 h, .slice (some ⟨g, q, none⟩) n c, .int .i64 ac, .int .i64 bu, rv, .int .i64 nx, .int .i64 sc, .int .i64 fr]) (hW : Wrd w g q n F) (hbg : b ≠ g) (hn : n = 2 * H) (cw : CW f L P R s kk F) (a : Cop f L B U P H) (hp : (pn : Int) ∈ placesO L) (hR : (pn : Int) ∈ R) :
    Calls Try.prog 97 #[.pointer (some ⟨b, 0, none⟩), .int .i64 (pn : Int)] w fun e w' => e = .returned (.int .i64 (goes R (newPlaces P (objsO L R)) (pn : Int))) ∧ Below w.heap.size w w' := by
  have hwx := a.word_x hp
  have hfw := cw.forward a hR
  have hwd := cw.words a pn (by omega)
  simp only [Int.toNat_natCast] at hfw
  have c1 := hB.at 1 rfl; have lB := hB.1
  have v1 := hW.cell pn (by omega); have lg := hW.lt
  have hi0 : (0 : Int) ≤ (pn : Int) := by omega
  have hi1 : (pn : Int) < (n : Int) := by omega
  obtain ⟨V, hV⟩ : ∃ V, goes R (newPlaces P (objsO L R)) (pn : Int) = V := ⟨_, rfl⟩
  rw [hV] at hfw ⊢
  have HFW := Lib.hid hfw
  have hI : I64 (F pn) := by unfold Word at hwd; unfold I64; omega
  have HI := Lib.hid hI
  clear hB hW cw a hp hR hfw hwd hI hV
  go_enter Try.func97, Try.ntmps97
  go_wp2_with fail
  refine (specRF_any (F pn) 0 V _ HI.out HFW.out).mono ?_
  rintro e w1 ⟨rfl, hb⟩
  have HB1 := Lib.hid hb
  clear hb
  have T1 := Lib.hid (Blk.new_at (w := w1) (cs := #[.int .i64 0, .int .i64 V]) (t := 44) w1.heap.size rfl)
  have t0 := T1.out.at 0 rfl; have t1 := T1.out.at 1 rfl
  go_wp2
  go_ret
  exact ⟨rfl, HB1.out.alloc HB1.out.size _⟩

set_option maxRecDepth 100000 in
set_option maxHeartbeats 6400000 in
theorem l11Bring_new (b g q n c : Nat) (h ac bu nx sc : Int) (fr : Nat) (rv : Value) (F : Nat → Int) (pn : Nat) (x : Ob) (f : Nat → Int) (L : List Ob) (B U P H : Nat) (R : List Int) (s kk : Nat) (w : World) (hB : Blk w b [.int .i64 h, .slice (some ⟨g, q, none⟩) n c, .int .i64 ac, .int .i64 bu, rv, .int .i64 nx, .int .i64 sc, .int .i64 (fr : Int)]) (hW : Wrd w g q n F) (hbg : b ≠ g) (hn : n = 2 * H) (cw : CW f L P R s kk F) (a : Cop f L B U P H) (hp : (pn : Int) ∈ placesO L) (hR : (pn : Int) ∉ R) (hx : findO L (pn : Int) = some x) (hfr : fr = P + totO (objsO L R)) :
    Calls Try.prog 97 #[.pointer (some ⟨b, 0, none⟩), .int .i64 (pn : Int)] w fun e w' => e = .returned (.int .i64 (fr : Int)) ∧ Wrd w' g q n (brF F fr pn (wordsO x)) ∧ Blk w' b [.int .i64 h, .slice (some ⟨g, q, none⟩) n c, .int .i64 ac, .int .i64 bu, rv, .int .i64 nx, .int .i64 sc, .int .i64 ((fr + wordsO x : Nat) : Int)] ∧ Kep w w' b g := by
  have hwx := a.word_x hp
  have hfw := cw.noForward a hp hR
  have hwd := cw.words a pn (by omega)
  obtain ⟨z1, z2, z3, z4, z5, z6, z7, z8⟩ := cw.fits a hx hR
  obtain ⟨r1, r2, r3⟩ := a.room
  simp only [Int.toNat_natCast] at hfw
  rw [← hfr] at z1 z5
  have hI : I64 (F pn) := by unfold Word at hwd; unfold I64; omega
  have hF64 : F pn ≤ 9223372036854775807 := hI.2
  obtain ⟨y1, y2, y3, y4⟩ := pack_read z8
  have hro : ROk (F pn) (F (pn + 1)) := by unfold ROk; rw [z6, z7, y1, y2, y3]; exact ⟨y4, z8.1⟩
  obtain ⟨sN, hS⟩ : ∃ sN : Nat, x.s = (sN : Int) := ⟨x.s.toNat, by have := z8.1.1.1; omega⟩
  have hsN : sN ≤ 12 := by have := z8.1.1.2; omega
  have hws : wordsO x = sN + 2 := by unfold wordsO; omega
  rw [← z6] at y1 y2 y3
  rw [hws] at z1 z3 z4 z5 ⊢
  obtain ⟨xm, hxm⟩ : ∃ xm, x.m = xm := ⟨_, rfl⟩
  obtain ⟨xo, hxo⟩ : ∃ xo, x.o = xo := ⟨_, rfl⟩
  rw [hS] at y1; rw [hxm] at y2; rw [hxo] at y3
  have HFW := Lib.hid hfw; have HI := Lib.hid hI; have HRO := Lib.hid hro; have HF64 := Lib.hid hF64; have Y1 := Lib.hid y1; have Y2 := Lib.hid y2; have Y3 := Lib.hid y3; have Z5 := Lib.hid z5
  have B0 := Lib.hid hB; have W0 := Lib.hid hW
  have c1 := hB.at 1 rfl; have lB := hB.1
  have v1 := hW.cell pn (by omega); have lg := hW.lt
  have hi0 : (0 : Int) ≤ (pn : Int) := by omega
  have hi1 : (pn : Int) < (n : Int) := by omega
  have n1 : fr + (sN + 2) ≤ n := by omega
  have n3 : pn + (sN + 2) ≤ n := by omega
  have n4 : n ≤ 400 := by omega
  clear hB hW cw a hp hR hfw hwd hI hx hro hF64 z1 z2 z3 z4 z5 z6 z7 z8 y1 y2 y3 y4 hS hxm hxo hws r1 r2 r3 hn hfr hwx
  go_enter Try.func97, Try.ntmps97
  go_wp2_with fail
  refine (specRF_any (F pn) 1 0 _ HI.out HFW.out).mono ?_
  rintro e w1 ⟨rfl, hb⟩
  have HB1 := Lib.hid hb
  have B1 := Lib.hid (B0.out.below hb); have W1 := Lib.hid (W0.out.below hb)
  have hz1 := hb.size
  clear hb c1 v1
  have T1 := Lib.hid (Blk.new_at (w := w1) (cs := #[.int .i64 1, .int .i64 0]) (t := 44) w1.heap.size rfl)
  have t0 := T1.out.at 0 rfl
  have HB2 := Lib.hid (HB1.out.alloc hz1 (.cells #[.int .i64 1, .int .i64 0] 44))
  have B2 := Lib.hid (B1.out.alloc (.cells #[.int .i64 1, .int .i64 0] 44)); have W2 := Lib.hid (W1.out.alloc (.cells #[.int .i64 1, .int .i64 0] 44))
  go_wp2_with fail
  generalize w1.alloc (.cells #[.int .i64 1, .int .i64 0] 44) = w2 at *
  clear t0 T1 B1 W1 HB1
  have hwi : IntKind.i64.wrap ((pn : Int) + 1) = (pn : Int) + 1 := IntWalk.i64_in _ (by omega)
  have hi2 : (pn : Int) + 1 < (n : Int) := by omega
  have hi3 : (0 : Int) ≤ (pn : Int) + 1 := by omega
  have ht1 : ((pn : Int) + 1).toNat = pn + 1 := by omega
  have Bd := Lib.hid B2.out.drew; have Wd := Lib.hid W2.out.drew
  have HBd : Hid (Below w2.heap.size w2 w2.drew) := Lib.hid (Below.refl _ _).drew
  have hz2 := HB2.out.size
  have hp1 : pn < n := by omega
  have hp2 : pn + 1 < n := by omega
  go_region_held3 (fun w' => w'.cell? ⟨g, q + pn, none⟩ = some (.int .i64 (F pn)) ∧ w'.cell? ⟨g, q + (pn + 1), none⟩ = some (.int .i64 (F (pn + 1))))
    (first | (with_reducible exact Wrd.two W2.out pn (pn + 1) hp1 hp2) | (with_reducible exact Wrd.two Wd.out pn (pn + 1) hp1 hp2) | (with_reducible exact Wrd.two ((W2.out.alloc _).drew) pn (pn + 1) hp1 hp2) | (with_reducible exact Wrd.two W5.out pn (pn + 1) hp1 hp2) | (with_reducible exact Wrd.two (W5.out.alloc _) pn (pn + 1) hp1 hp2) | (with_reducible exact Wrd.two (((((W5.out.other (by (try simp); (try omega)) _).other (by (try simp); (try omega)) _).other (by (try simp); (try omega)) _).other (by (try simp); (try omega)) _)) pn (pn + 1) hp1 hp2))
    (first | (go_at_call 86; refine (l2Read_yes (F pn) (F (pn + 1)) _ HF64.out HRO.out).mono ?_; rintro e w5 ⟨s1, m1, o1, h5, rfl, hb, hv⟩; obtain ⟨rfl, rfl, rfl, rfl⟩ := hv (by trivial); have HB5 := Lib.hid (thru0 (below_ext (Below.refl w2.heap.size w2).drew (by first | exact .inl rfl | exact ext_drew _ _ | exact .inr ⟨_, rfl⟩)) hb); have W5 := Lib.hid ((Wd.out.ext (by first | exact .inl rfl | exact ext_drew _ _ | exact .inr ⟨_, rfl⟩)).below hb); have z5 : w2.heap.size ≤ w5.heap.size := (by have := hb.size; simp at this; omega); (first | (have T5 := Lib.hid ((Blk.new_at (w := w2) (cs := #[.int .i64 0, .int .i64 0, .int .i64 0, .int .i64 0]) (t := 85) (w2.heap.size) rfl).drew.below hb)) | skip); clear hb; (first | (have lT := T5.out.1; have cT0 := T5.out.at 0 rfl; have fT0 := T5.out.free 0 rfl; have cT1 := T5.out.at 1 rfl; have fT1 := T5.out.free 1 rfl; have cT2 := T5.out.at 2 rfl; have fT2 := T5.out.free 2 rfl; have cT3 := T5.out.at 3 rfl; have fT3 := T5.out.free 3 rfl) | skip)))
  all_goals (have Y1' := Y1.out; have Y2' := Y2.out; have Y3' := Y3.out)
  all_goals rw [Y1', Y2', Y3'] at *
  all_goals clear Y1 Y2 Y3 Y1' Y2' Y3'
  · refine then_named (fun w6 => Hid (Below w2.heap.size w2 w6) ∧ Hid (Blk w6 (w5.heap.size) [.int .i64 (sN : Int), .int .i64 xm, .int .i64 xo, .int .i64 (F (pn + 1))])) ⟨HB5.out.alloc HB5.out.size _, Blk.new_at _ rfl⟩ (fun w6 hF => ?_)
    obtain ⟨HB6, T6⟩ := hF
    have z6 := HB6.out.size
    have B6 := Lib.hid (B2.out.below HB6.out); have W6 := Lib.hid (W2.out.below HB6.out)
    have K6 : Hid (Kep w w6 b g) := Lib.hid (kep_of_below (HB2.out.trans (HB6.out.mono hz2)) b g)
    have hd1 : w5.heap.size ≠ b := by omega
    have hd2 : w5.heap.size ≠ g := by omega
    have lb6 : b < w6.heap.size := by omega
    have c7 := B6.out.at 7 rfl
    have hdl := T6.out.1
    clear HB5 W5 Wd Bd HBd hv B2 W2 HB6 
    generalize w5.heap.size = hd at *
    go_wp2
    clear c7
    go_loopw [10] (fun k wr => ∃ i : Nat, i ≤ sN + 2 ∧ k = .int .i64 (i : Int) ∧ Hid (Kep w6 wr b g) ∧ Hid (Wrd wr g q n (cpF F fr pn i)) ∧ Hid (Blk wr b [.int .i64 h, .slice (some ⟨g, q, none⟩) n c, .int .i64 ac, .int .i64 bu, rv, .int .i64 nx, .int .i64 sc, .int .i64 (fr : Int)])) (fun k _ => sN + 2 - (intOf k).toNat)
    case atStart => exact ⟨0, Nat.zero_le _, rfl, Lib.hid (Kep.refl _ _ _), Lib.hid (by rw [cpF_zero]; exact W6.out), B6⟩
    case round =>
      obtain ⟨i, hi, rfl, Kr, Wr, Br⟩ := hrel
      have Tr := Lib.hid (T6.out.kep Kr.out hd1 hd2)
      have zr := Kr.out.size
      by_cases hlt : i < sN + 2
      · have hlt' : (i : Int) < (sN : Int) + 2 := by omega
        go_wp2_with fail
        refine (l2Words_any hd (sN : Int) xm xo _ _ Tr.out ⟨by omega, by omega⟩).mono ?_
        rintro e w' ⟨rfl, rfl⟩
        have rc := Wr.out.cell (pn + i) (by omega)
        rw [cpF_far (by have := Z5.out i hlt; omega)] at rc
        have wc := Wr.out.cell (fr + i) (by omega); have wf := Wr.out.free (fr + i) (by omega)
        have j0 : (0 : Int) ≤ (fr : Int) + (i : Int) := by omega
        have j1 : (fr : Int) + (i : Int) < (n : Int) := by omega
        have j2 : ((fr : Int) + (i : Int)).toNat = fr + i := by omega
        have j3 : (0 : Int) ≤ (pn : Int) + (i : Int) := by omega
        have j4 : (pn : Int) + (i : Int) < (n : Int) := by omega
        have j5 : ((pn : Int) + (i : Int)).toNat = pn + i := by omega
        have lgr := Wr.out.lt
        go_wp2
        go_roundw
        case rel =>
          obtain ⟨hp1, hp2⟩ := Wr.out.put (fr + i) (by omega) (F (pn + i))
          exact ⟨i + 1, by omega, by go_num, Lib.hid (Kr.out.trans (hp2 b)), Lib.hid (hp1.congr fun j _ => cpF_step F fr pn i _ rfl j), Lib.hid (Br.out.other (by show g ≠ b; omega) _)⟩
        case measure => simp [intOf]; omega
      · have hlt' : ¬ (i : Int) < (sN : Int) + 2 := by omega
        obtain rfl : i = sN + 2 := by omega
        go_wp2_with fail
        refine (l2Words_any hd (sN : Int) xm xo _ _ Tr.out ⟨by omega, by omega⟩).mono ?_
        rintro e w' ⟨rfl, rfl⟩
        have c7 := Br.out.at 7 rfl; have f7 := Br.out.free 7 rfl
        have lbr : b < wr.heap.size := by omega
        have wc := Wr.out.cell pn (by omega); have wf := Wr.out.free pn (by omega); have lgr := Wr.out.lt
        go_upto_region 11 with (fail)
        go_still_tail 9, (by kernel_rfl)
        still_call (Calls.mono (l2Words_any hd (sN : Int) xm xo _ _ Tr.out.drew ⟨by omega, by omega⟩) fun _ _ h => ⟨h.1, h.2.symm⟩)
        repeat still_step
        try refine wpStill_nil ?_
        change wpList _ _ _ _ _ wr.drew
        have Wd := Lib.hid Wr.out.drew; have Bd := Lib.hid Br.out.drew; have Kd : Hid (Kep w6 wr.drew b g) := Lib.hid (Kr.out.trans (kep_of_below (Below.refl _ _).drew b g))
        have d7 := Bd.out.at 7 rfl; have e7 := Bd.out.free 7 rfl; have ldr := Bd.out.1
        have wd := Wd.out.cell pn (by omega); have we := Wd.out.free pn (by omega); have lgd := Wd.out.lt
        clear c7 f7 wc wf
        generalize wr.drew = wz at *
        go_wp2
        go_ret
        obtain ⟨hp1, hp2⟩ := (Wd.out.other (p := ⟨b, 7, none⟩) (by show b ≠ g; omega) (.int .i64 ((fr : Int) + ((sN : Int) + 2)))).put pn (by omega) (2 * (fr : Int) + 2)
        refine ⟨rfl, hp1, ?_, K6.out.trans (Kd.out.trans ((kep_set (p := ⟨b, 7, none⟩) (.inl rfl) _).trans (hp2 b)))⟩
        have hb7 := (Bd.out.set 7 (by simp) (.int .i64 ((fr : Int) + ((sN : Int) + 2)))).other (p := ⟨g, q + pn, none⟩) (by show g ≠ b; omega) (.int .i64 (2 * (fr : Int) + 2))
        have he : ((fr + (sN + 2) : Nat) : Int) = (fr : Int) + ((sN : Int) + 2) := by omega
        rw [he]
        exact hb7
  · refine then_named (fun w6 => Hid (Below w2.heap.size w2 w6) ∧ Hid (Blk w6 (w2.heap.size) [.int .i64 (sN : Int), .int .i64 xm, .int .i64 xo, .int .i64 (F (pn + 1))])) ⟨((((HB5.out.setCell (by (try simp); (try omega)) _).setCell (by (try simp); (try omega)) _).setCell (by (try simp); (try omega)) _).setCell (by (try simp); (try omega)) _), ((((T5.out.set 0 (by simp) _).set 1 (by simp) _).set 2 (by simp) _).set 3 (by simp) _)⟩ (fun w6 hF => ?_)
    clear T5 lT cT0 fT0 cT1 fT1 cT2 fT2 cT3 fT3
    obtain ⟨HB6, T6⟩ := hF
    have z6 := HB6.out.size
    have B6 := Lib.hid (B2.out.below HB6.out); have W6 := Lib.hid (W2.out.below HB6.out)
    have K6 : Hid (Kep w w6 b g) := Lib.hid (kep_of_below (HB2.out.trans (HB6.out.mono hz2)) b g)
    have hd1 : w2.heap.size ≠ b := by omega
    have hd2 : w2.heap.size ≠ g := by omega
    have lb6 : b < w6.heap.size := by omega
    have c7 := B6.out.at 7 rfl
    have hdl := T6.out.1
    clear HB5 W5 Wd Bd HBd hv B2 W2 HB6 
    generalize w2.heap.size = hd at *
    go_wp2
    clear c7
    go_loopw [10] (fun k wr => ∃ i : Nat, i ≤ sN + 2 ∧ k = .int .i64 (i : Int) ∧ Hid (Kep w6 wr b g) ∧ Hid (Wrd wr g q n (cpF F fr pn i)) ∧ Hid (Blk wr b [.int .i64 h, .slice (some ⟨g, q, none⟩) n c, .int .i64 ac, .int .i64 bu, rv, .int .i64 nx, .int .i64 sc, .int .i64 (fr : Int)])) (fun k _ => sN + 2 - (intOf k).toNat)
    case atStart => exact ⟨0, Nat.zero_le _, rfl, Lib.hid (Kep.refl _ _ _), Lib.hid (by rw [cpF_zero]; exact W6.out), B6⟩
    case round =>
      obtain ⟨i, hi, rfl, Kr, Wr, Br⟩ := hrel
      have Tr := Lib.hid (T6.out.kep Kr.out hd1 hd2)
      have zr := Kr.out.size
      by_cases hlt : i < sN + 2
      · have hlt' : (i : Int) < (sN : Int) + 2 := by omega
        go_wp2_with fail
        refine (l2Words_any hd (sN : Int) xm xo _ _ Tr.out ⟨by omega, by omega⟩).mono ?_
        rintro e w' ⟨rfl, rfl⟩
        have rc := Wr.out.cell (pn + i) (by omega)
        rw [cpF_far (by have := Z5.out i hlt; omega)] at rc
        have wc := Wr.out.cell (fr + i) (by omega); have wf := Wr.out.free (fr + i) (by omega)
        have j0 : (0 : Int) ≤ (fr : Int) + (i : Int) := by omega
        have j1 : (fr : Int) + (i : Int) < (n : Int) := by omega
        have j2 : ((fr : Int) + (i : Int)).toNat = fr + i := by omega
        have j3 : (0 : Int) ≤ (pn : Int) + (i : Int) := by omega
        have j4 : (pn : Int) + (i : Int) < (n : Int) := by omega
        have j5 : ((pn : Int) + (i : Int)).toNat = pn + i := by omega
        have lgr := Wr.out.lt
        go_wp2
        go_roundw
        case rel =>
          obtain ⟨hp1, hp2⟩ := Wr.out.put (fr + i) (by omega) (F (pn + i))
          exact ⟨i + 1, by omega, by go_num, Lib.hid (Kr.out.trans (hp2 b)), Lib.hid (hp1.congr fun j _ => cpF_step F fr pn i _ rfl j), Lib.hid (Br.out.other (by show g ≠ b; omega) _)⟩
        case measure => simp [intOf]; omega
      · have hlt' : ¬ (i : Int) < (sN : Int) + 2 := by omega
        obtain rfl : i = sN + 2 := by omega
        go_wp2_with fail
        refine (l2Words_any hd (sN : Int) xm xo _ _ Tr.out ⟨by omega, by omega⟩).mono ?_
        rintro e w' ⟨rfl, rfl⟩
        have c7 := Br.out.at 7 rfl; have f7 := Br.out.free 7 rfl
        have lbr : b < wr.heap.size := by omega
        have wc := Wr.out.cell pn (by omega); have wf := Wr.out.free pn (by omega); have lgr := Wr.out.lt
        go_upto_region 11 with (fail)
        go_still_tail 9, (by kernel_rfl)
        still_call (Calls.mono (l2Words_any hd (sN : Int) xm xo _ _ Tr.out.drew ⟨by omega, by omega⟩) fun _ _ h => ⟨h.1, h.2.symm⟩)
        repeat still_step
        try refine wpStill_nil ?_
        change wpList _ _ _ _ _ wr.drew
        have Wd := Lib.hid Wr.out.drew; have Bd := Lib.hid Br.out.drew; have Kd : Hid (Kep w6 wr.drew b g) := Lib.hid (Kr.out.trans (kep_of_below (Below.refl _ _).drew b g))
        have d7 := Bd.out.at 7 rfl; have e7 := Bd.out.free 7 rfl; have ldr := Bd.out.1
        have wd := Wd.out.cell pn (by omega); have we := Wd.out.free pn (by omega); have lgd := Wd.out.lt
        clear c7 f7 wc wf
        generalize wr.drew = wz at *
        go_wp2
        go_ret
        obtain ⟨hp1, hp2⟩ := (Wd.out.other (p := ⟨b, 7, none⟩) (by show b ≠ g; omega) (.int .i64 ((fr : Int) + ((sN : Int) + 2)))).put pn (by omega) (2 * (fr : Int) + 2)
        refine ⟨rfl, hp1, ?_, K6.out.trans (Kd.out.trans ((kep_set (p := ⟨b, 7, none⟩) (.inl rfl) _).trans (hp2 b)))⟩
        have hb7 := (Bd.out.set 7 (by simp) (.int .i64 ((fr : Int) + ((sN : Int) + 2)))).other (p := ⟨g, q + pn, none⟩) (by show g ≠ b; omega) (.int .i64 (2 * (fr : Int) + 2))
        have he : ((fr + (sN + 2) : Nat) : Int) = (fr : Int) + ((sN : Int) + 2) := by omega
        rw [he]
        exact hb7

/-- What is brought over in the model. -/
def RetBrM (W : World) (b g q n c : Nat) (h ac bu nx sc : Int) (rv : Value) (f : Nat → Int) (L : List Ob) (P : Nat) (R : List Int) (s kk : Nat) (p : Int) (e : Ending) (w' : World) : Prop :=
  ∃ F', e = .returned (.int .i64 (goes R (newPlaces P (objsO L R)) p)) ∧ Wrd w' g q n F' ∧ CW f L P R s kk F' ∧ Blk w' b [.int .i64 h, .slice (some ⟨g, q, none⟩) n c, .int .i64 ac, .int .i64 bu, rv, .int .i64 nx, .int .i64 sc, .int .i64 ((P + totO (objsO L R) : Nat) : Int)] ∧ Kep W w' b g

theorem l11Bring_any (b g q n c : Nat) (h ac bu nx sc : Int) (rv : Value) (F : Nat → Int) (p : Int) (f : Nat → Int) (L : List Ob) (B U P H : Nat) (R : List Int) (s kk : Nat) (w : World) (hB : Blk w b [.int .i64 h, .slice (some ⟨g, q, none⟩) n c, .int .i64 ac, .int .i64 bu, rv, .int .i64 nx, .int .i64 sc, .int .i64 ((P + totO (objsO L R) : Nat) : Int)]) (hW : Wrd w g q n F) (hbg : b ≠ g) (hn : n = 2 * H) (cw : CW f L P R s kk F) (a : Cop f L B U P H) (hp : p ∈ placesO L) :
    Calls Try.prog 97 #[.pointer (some ⟨b, 0, none⟩), .int .i64 p] w (RetBrM w b g q n c h ac bu nx sc rv f L P (addNew R [p]) s kk p) := by
  obtain ⟨pn, rfl⟩ : ∃ pn : Nat, p = (pn : Int) := ⟨p.toNat, by have := (a.word_x hp).1; omega⟩
  by_cases hR : (pn : Int) ∈ R
  · have e : addNew R [(pn : Int)] = R := by rw [addNew_one, if_pos hR]
    rw [e]
    refine (l11Bring_old b g q n c h ac bu nx sc _ rv F pn f L B U P H R s kk w hB hW hbg hn cw a hp hR).mono ?_
    rintro e w' ⟨rfl, hb⟩
    exact ⟨F, rfl, hW.below hb, cw, hB.below hb, kep_of_below hb b g⟩
  · have e : addNew R [(pn : Int)] = R ++ [(pn : Int)] := by rw [addNew_one, if_neg hR]
    rw [e]
    obtain ⟨x, hx⟩ := mem_placesO.1 hp
    obtain ⟨z1, z2, z3, z4, z5, z6, z7, z8⟩ := cw.fits a hx hR
    refine (l11Bring_new b g q n c h ac bu nx sc _ rv F pn x f L B U P H R s kk w hB hW hbg hn cw a hp hR hx rfl).mono ?_
    rintro e w' ⟨rfl, h1, h2, h3⟩
    refine ⟨_, ?_, h1, cw.brought a hx hR rfl, ?_, h3⟩
    · rw [objsO_snoc hx, goes_new cw.len hR]
    · rw [z2, ← Nat.add_assoc]
      exact h2
end Go.Proofs.Ytnacdhnnpddccaa

namespace Go.Proofs.Ytnacdhnnpddccaa
open Go.RowKit
set_option linter.unusedVariables false

/-- The load of the next root (a name of its own: the walk looks at it when its turn comes). -/
def opRt : Oper := { dst := some 35, op := .load 2 (.tmp 34), type := 2, pos := "l11_step.go:41", after := #[{ on := 17, ground := .data }], guard := none }
end Go.Proofs.Ytnacdhnnpddccaa

namespace Go.Proofs.Ytnacdhnnpddccaa
open Go.RowKit
set_option linter.unusedVariables false
attribute [local go_sem] opRt

/-- Nothing that was there is turned, but three blocks. -/
structure Kep3 (w w' : World) (b g r : Nat) : Prop where
  os : w'.os = w.os
  tape : w'.tape = w.tape
  output : w'.output = w.output
  size : w.heap.size ≤ w'.heap.size
  block : ∀ k, k < w.heap.size → k ≠ b → k ≠ g → k ≠ r → w'.heap[k]? = w.heap[k]?

theorem Kep3.trans {w w1 w2 : World} {b g r : Nat} (h : Kep3 w w1 b g r) (k : Kep3 w1 w2 b g r) : Kep3 w w2 b g r :=
  ⟨k.os.trans h.os, k.tape.trans h.tape, k.output.trans h.output, Nat.le_trans h.size k.size, fun i hi h1 h2 h3 => (k.block i (Nat.lt_of_lt_of_le hi h.size) h1 h2 h3).trans (h.block i hi h1 h2 h3)⟩

theorem Kep.three {w w' : World} {b g : Nat} (h : Kep w w' b g) (r : Nat) : Kep3 w w' b g r := ⟨h.os, h.tape, h.output, h.size, fun k hk h1 h2 _ => h.block k hk h1 h2⟩

theorem Kep3.below {w w' : World} {b g r B : Nat} (h : Kep3 w w' b g r) (h1 : B ≤ b) (h2 : B ≤ g) (h3 : B ≤ r) (hs : B ≤ w.heap.size) : Below B w w' :=
  ⟨h.os, h.tape, h.output, h.size, fun k hk => h.block k (by omega) (by omega) (by omega) (by omega)⟩

theorem kep3_set {w : World} {b g r : Nat} {p : Addr} (hp : p.block = r) (u : Value) : Kep3 w (w.setCell p u) b g r := by
  have h : Below p.block w (w.setCell p u) := (Below.refl _ _).setCell (Nat.le_refl _) u
  exact ⟨h.os, h.tape, h.output, h.size, fun k _ h1 h2 h3 => Below.heap_setCell w p u k (by omega)⟩

theorem Wrd.kep {w w' : World} {g q n b d : Nat} {F : Nat → Int} (h : Wrd w g q n F) (hk : Kep w w' b d) (h1 : g ≠ b) (h2 : g ≠ d) : Wrd w' g q n F := h.block (hk.block g h.lt h1 h2) hk.size

theorem cells45 {w : World} {b : Nat} {v0 v1 v2 v3 v4 v5 v6 v7 : Value} (h : Blk w b [v0, v1, v2, v3, v4, v5, v6, v7]) : w.cell? ⟨b, 4, none⟩ = some v4 ∧ w.cell? ⟨b, 5, none⟩ = some v5 := ⟨h.at 4 rfl, h.at 5 rfl⟩

set_option maxRecDepth 100000 in
set_option maxHeartbeats 3200000 in
theorem l11Step_root (b g q n c rg ro N rc nx : Nat) (h ac bu sc : Int) (RF F : Nat → Int) (f : Nat → Int) (L : List Ob) (B U P H : Nat) (R : List Int) (s kk : Nat) (w : World) (hB : Blk w b [.int .i64 h, .slice (some ⟨g, q, none⟩) n c, .int .i64 ac, .int .i64 bu, .slice (some ⟨rg, ro, none⟩) N rc, .int .i64 (nx : Int), .int .i64 sc, .int .i64 ((P + totO (objsO L R) : Nat) : Int)]) (hW : Wrd w g q n F) (hRW : Wrd w rg ro N RF) (hbg : b ≠ g) (hbr : b ≠ rg) (hgr : g ≠ rg) (hn : n = 2 * H) (cw : CW f L P R s kk F) (a : Cop f L B U P H) (hnx : nx < N) (hN : N ≤ 60) (hp : RF nx ∈ placesO L) :
    Calls Try.prog 77 #[.pointer (some ⟨b, 0, none⟩)] w fun e w' => e = .returned (.tuple #[]) ∧ ∃ F', Wrd w' g q n F' ∧ CW f L P (addNew R [RF nx]) s kk F' ∧ Wrd w' rg ro N (fun j => if j = nx then goes (addNew R [RF nx]) (newPlaces P (objsO L (addNew R [RF nx]))) (RF nx) else RF j) ∧ Blk w' b [.int .i64 h, .slice (some ⟨g, q, none⟩) n c, .int .i64 ac, .int .i64 bu, .slice (some ⟨rg, ro, none⟩) N rc, .int .i64 ((nx + 1 : Nat) : Int), .int .i64 sc, .int .i64 ((P + totO (objsO L (addNew R [RF nx])) : Nat) : Int)] ∧ Kep3 w w' b g rg := by
  have B0 := Lib.hid hB; have W0 := Lib.hid hW; have R0 := Lib.hid hRW; have CWH := Lib.hid cw; have AH := Lib.hid a; have HP := Lib.hid hp; have HN := Lib.hid hn
  have c4 := hB.at 4 rfl; have c5 := hB.at 5 rfl; have lB := hB.1
  have hnx' : (nx : Int) < (N : Int) := by omega
  have hnx0 : (0 : Int) ≤ (nx : Int) := by omega
  clear hB hW hRW cw a hp hn
  go_enter Try.func77, Try.ntmps77
  go_wp2
  go_quiet (fail)
  go_upto_region 1 with (fail)
  have HB1 := Lib.hid (drewN_below w nq)
  have B1 := Lib.hid (B0.out.below HB1.out); have W1 := Lib.hid (W0.out.below HB1.out); have R1 := Lib.hid (R0.out.below HB1.out)
  have K1 : Hid (Kep w (w.drewN nq) b g) := Lib.hid (kep_of_below HB1.out b g)
  clear c4 c5
  generalize w.drewN nq = w1 at *
  have Bd := Lib.hid B1.out.drew; have Wd := Lib.hid W1.out.drew; have Rd := Lib.hid R1.out.drew
  have Kd : Hid (Kep w w1.drew b g) := Lib.hid (K1.out.trans (kep_of_below (Below.refl _ _).drew b g))
  have rd := Rd.out.cell nx hnx
  have r1 := R1.out.cell nx hnx
  have lrd := Rd.out.lt
  have hlB : b < w1.heap.size := B1.out.1
  change Code.wp Try.prog (Code.region 1 #[_, _, _, _, _, _, _, _, _, _, _, _, _, _, _, _, _, _, opRt, _, _, _] true) _ _ _
  go_region_held3 (fun w' => w'.cell? ⟨b, 4, none⟩ = some (.slice (some ⟨rg, ro, none⟩) N rc) ∧ w'.cell? ⟨b, 5, none⟩ = some (.int .i64 (nx : Int)))
    (first | (with_reducible exact cells45 B1.out) | (with_reducible exact cells45 Bd.out) | (with_reducible exact cells45 B5.out) | (with_reducible exact cells45 (B5.out.other (by show rg ≠ b; omega) _)))
    (first | (go_at_call 97; refine (l11Bring_any b g q n c h ac bu (nx : Int) sc (.slice (some ⟨rg, ro, none⟩) N rc) F (RF nx) f L B U P H R s kk _ Bd.out Wd.out hbg HN.out CWH.out AH.out HP.out).mono ?_; rintro e w5 ⟨F', rfl, hw, hc, hb, hk⟩; have B5 := Lib.hid hb; have W5 := Lib.hid hw; have C5 := Lib.hid hc; have K5 := Lib.hid hk; have R5 := Lib.hid (Rd.out.kep hk (fun e => hbr e.symm) (fun e => hgr e.symm)); clear hb hw hc hk; have l5 := R5.out.lt; have r5 := R5.out.cell nx hnx; have f5 := R5.out.free nx hnx))
  have c5 := B5.out.at 5 rfl; have f5' := B5.out.free 5 rfl; have lb5 := B5.out.1
  go_wp2
  refine bodyPost_ret (v := .tuple #[]) (by simp [results, Try.results77, go_sem]) rfl ?_
  obtain ⟨V, hV⟩ : ∃ V, goes (addNew R [RF nx]) (newPlaces P (objsO L (addNew R [RF nx]))) (RF nx) = V := ⟨_, rfl⟩
  rw [hV]
  obtain ⟨hp1, hp2⟩ := R5.out.put nx hnx V
  have B6 := B5.out.other (p := ⟨rg, ro + nx, none⟩) (by show rg ≠ b; omega) (.int .i64 V)
  have W6 := W5.out.other (p := ⟨rg, ro + nx, none⟩) (by show rg ≠ g; omega) (.int .i64 V)
  have B7 := B6.set 5 (by simp) (.int .i64 ((nx : Int) + 1))
  refine ⟨rfl, F', W6.other (by show b ≠ g; omega) _, C5.out, hp1.other (by show b ≠ rg; omega) _, ?_, ?_⟩
  · rw [show ((nx + 1 : Nat) : Int) = (nx : Int) + 1 by omega]
    exact B7
  · exact ((Kd.out.trans K5.out).three rg).trans ((kep3_set (p := ⟨rg, ro + nx, none⟩) (r := rg) rfl _).trans ((kep_set (p := ⟨b, 5, none⟩) (.inl rfl) _).three rg))
end Go.Proofs.Ytnacdhnnpddccaa

namespace Go.Proofs.Ytnacdhnnpddccaa
open Go.RowKit
set_option linter.unusedVariables false

section

variable {f W : Nat → Int} {L : List Ob} {B U P H s k : Nat} {R : List Int} {x : Ob}

theorem prefix_at {R R' : List Int} (h : R <+: R') (hs : s < R.length) : ∃ hs' : s < R'.length, R'[s] = R[s] := by
  obtain ⟨T, rfl⟩ := h
  exact ⟨by simp; omega, List.getElem_append_left hs⟩

theorem CW.lookK (c : CW f L P (addNew R (ptrsK f x k)) s k W) (a : Cop f L B U P H) (hsub : ∀ p ∈ R, p ∈ placesO L) (hs : s < R.length) (hx : findO L R[s] = some x) :
    ∃ hs' : s < (addNew R (ptrsK f x k)).length, findO L (addNew R (ptrsK f x k))[s] = some x ∧ placeAt P (objsO L (addNew R (ptrsK f x k))) s = placeAt P (objsO L R) s ∧ (k < x.s.toNat → W (placeAt P (objsO L R) s + 2 + k) = f (x.at_.toNat + 2 + k)) ∧ P ≤ placeAt P (objsO L R) s ∧ placeAt P (objsO L R) s + 2 + x.s.toNat ≤ 2 * H ∧
      placeAt P (objsO L (addNew R (ptrsK f x k))) (s + 1) = placeAt P (objsO L R) s + 2 + x.s.toNat ∧ W (placeAt P (objsO L R) s) = packO x ∧ W (placeAt P (objsO L R) s + 1) = x.h := by
  have hp := addNew_prefix (ptrsK f x k) R
  obtain ⟨hs', he⟩ := prefix_at hp hs
  have hpl := placeAt_prefix P hp hsub (show s ≤ R.length by omega)
  obtain ⟨y, hy, h1, h2, h3, h4, h5, h6, h7, h8⟩ := c.look a hs'
  have hxy : y = x := by
    rw [he, hx] at h1
    exact (Option.some.inj h1).symm
  subst hxy
  rw [hpl] at h3 h4 h5 h6 h7 h8
  obtain ⟨r1, r2, r3⟩ := a.room
  have ht := c.tot a
  refine ⟨hs', by rw [he]; exact hx, hpl, fun hk => h8 k (Nat.le_refl _) hk, h4, by omega, h3, h6, h7⟩

theorem CW.lookStay (c : CW f L P (addNew R (ptrsK f x k)) s k W) (a : Cop f L B U P H) (hsub : ∀ p ∈ R, p ∈ placesO L) (hs : s < R.length) (hx : findO L R[s] = some x) (hk : k < x.s.toNat) (hb : ¬ (x.m / P2 (k : Int) % 2 = 1 ∧ ¬ f (x.at_.toNat + 2 + k) = 0)) : CW f L P (addNew R (ptrsK f x (k + 1))) s (k + 1) W := by
  obtain ⟨hs', h1, _⟩ := c.lookK a hsub hs hx
  rw [addK_no R hb]
  exact c.stay hs' h1 hk hb

theorem CW.lookLead {W' : Nat → Int} (a : Cop f L B U P H) (hsub : ∀ p ∈ R, p ∈ placesO L) (hs : s < R.length) (hx : findO L R[s] = some x) (hk : k < x.s.toNat) (hb : x.m / P2 (k : Int) % 2 = 1 ∧ ¬ f (x.at_.toNat + 2 + k) = 0)
    (c' : CW f L P (addNew (addNew R (ptrsK f x k)) [f (x.at_.toNat + 2 + k) - 1]) s k W') :
    CW f L P (addNew R (ptrsK f x (k + 1))) s (k + 1) (fun j => if j = placeAt P (objsO L R) s + 2 + k then Go.Proofs.Ytnacdhnnpddccaa.goes (addNew R (ptrsK f x (k + 1))) (newPlaces P (objsO L (addNew R (ptrsK f x (k + 1))))) (f (x.at_.toNat + 2 + k) - 1) + 1 else W' j) := by
  rw [← addK_yes R hb] at c'
  have hp := addNew_prefix (ptrsK f x (k + 1)) R
  obtain ⟨hs', he⟩ := prefix_at hp hs
  have hpl := placeAt_prefix P hp hsub (show s ≤ R.length by omega)
  refine c'.lead a hs' (by rw [he]; exact hx) hk hb ?_ ?_ fun j hj => ?_
  · rw [addK_yes R hb]
    exact (mem_addNew _ _ _).2 (.inr (by simp))
  · rw [hpl, if_pos rfl]
  · rw [hpl] at hj
    rw [if_neg hj]

theorem CW.lookEnd (c : CW f L P (addNew R (ptrsK f x k)) s k W) (a : Cop f L B U P H) (hsub : ∀ p ∈ R, p ∈ placesO L) (hs : s < R.length) (hx : findO L R[s] = some x) (hk : k = x.s.toNat) : CW f L P (addNew R (ptrs f x)) (s + 1) 0 W := by
  obtain ⟨hs', h1, _⟩ := c.lookK a hsub hs hx
  subst hk
  exact c.next hs' h1 rfl

theorem succ_at {R : List Int} (hs : s < R.length) (hx : findO L R[s] = some x) : succO f L (lf R s) = ptrs f x := by
  unfold succO
  rw [lf_at hs, hx]

end
end Go.Proofs.Ytnacdhnnpddccaa

namespace Go.Proofs.Ytnacdhnnpddccaa
open Go.RowKit
set_option linter.unusedVariables false

theorem cells16 {w : World} {b g q n i j : Nat} {F : Nat → Int} {v0 v1 v2 v3 v4 v5 v6 v7 : Value} (h : Blk w b [v0, v1, v2, v3, v4, v5, v6, v7]) (k : Wrd w g q n F) (hi : i < n) (hj : j < n) : w.cell? ⟨b, 1, none⟩ = some v1 ∧ w.cell? ⟨b, 6, none⟩ = some v6 ∧ w.cell? ⟨g, q + i, none⟩ = some (.int .i64 (F i)) ∧ w.cell? ⟨g, q + j, none⟩ = some (.int .i64 (F j)) := ⟨h.at 1 rfl, h.at 6 rfl, k.cell i hi, k.cell j hj⟩

theorem cell1 {w : World} {b : Nat} {v0 v1 v2 v3 v4 v5 v6 v7 : Value} (h : Blk w b [v0, v1, v2, v3, v4, v5, v6, v7]) : w.cell? ⟨b, 1, none⟩ = some v1 := h.at 1 rfl

set_option maxRecDepth 100000 in
set_option maxHeartbeats 6400000 in
theorem l11Step_look (b g q n c N rc : Nat) (ra : Option Addr) (h ac bu : Int) (F : Nat → Int) (f : Nat → Int) (L : List Ob) (B U P H sc fr : Nat) (R : List Int) (s : Nat) (x : Ob) (w : World) (hB : Blk w b [.int .i64 h, .slice (some ⟨g, q, none⟩) n c, .int .i64 ac, .int .i64 bu, .slice ra N rc, .int .i64 (N : Int), .int .i64 (sc : Int), .int .i64 (fr : Int)]) (hW : Wrd w g q n F) (hbg : b ≠ g) (hn : n = 2 * H) (cw : CW f L P R s 0 F) (a : Cop f L B U P H) (hs : s < R.length) (hx : findO L R[s] = some x) (hN : N ≤ 60) (hsc : sc = placeAt P (objsO L R) s) (hfr : fr = P + totO (objsO L R)) :
    Calls Try.prog 77 #[.pointer (some ⟨b, 0, none⟩)] w fun e w' => e = .returned (.tuple #[]) ∧ ∃ F', Wrd w' g q n F' ∧ CW f L P (addNew R (ptrs f x)) (s + 1) 0 F' ∧ Blk w' b [.int .i64 h, .slice (some ⟨g, q, none⟩) n c, .int .i64 ac, .int .i64 bu, .slice ra N rc, .int .i64 (N : Int), .int .i64 ((placeAt P (objsO L (addNew R (ptrs f x))) (s + 1) : Nat) : Int), .int .i64 ((P + totO (objsO L (addNew R (ptrs f x))) : Nat) : Int)] ∧ Kep w w' b g := by
  have hsub := cw.sub
  have hxL := List.mem_of_find?_eq_some hx
  have hok := a.right.ok x hxL
  have cw0 : CW f L P (addNew R (ptrsK f x 0)) s 0 F := cw
  obtain ⟨_, _, _, _, k4, k5, _, k7, k8⟩ := cw0.lookK a hsub hs hx
  have hlt := placeAt_lt P (objsO L R) s _ (by rw [cw.len]; exact hs) (Nat.le_refl _)
  rw [placeAt_all] at hlt
  have hwd := cw.words a sc (by omega)
  rw [← hsc] at k4 k5 k7 k8 hlt
  obtain ⟨y1, y2, y3, y4⟩ := pack_read hok
  have hro : ROk (F sc) (F (sc + 1)) := by unfold ROk; rw [k7, k8, y1, y2, y3]; exact ⟨y4, hok.1⟩
  have hF64 : F sc ≤ 9223372036854775807 := by unfold Word at hwd; omega
  obtain ⟨sN, hS⟩ : ∃ sN : Nat, x.s = (sN : Int) := ⟨x.s.toNat, by have := hok.1.1.1; omega⟩
  have hsN : sN ≤ 12 := by have := hok.1.1.2; omega
  have hsz : x.s.toNat = sN := by omega
  have hxm2 : 0 ≤ x.m ∧ x.m ≤ 4095 := ⟨hok.1.2.1.1, hok.2⟩
  rw [← k7] at y1 y2 y3
  rw [hS] at y1
  obtain ⟨xo, hxo⟩ : ∃ xo, x.o = xo := ⟨_, rfl⟩
  rw [hxo] at y3
  have hne : decide ((sc : Int) = (fr : Int)) = false := decide_eq_false (by omega)
  have hne' : ¬ (sc : Int) = (fr : Int) := by omega
  have hend : ptrsK f x sN = ptrs f x := by rw [← hsz]; exact ptrsK_all f x
  have hi0 : (0 : Int) ≤ (sc : Int) := by omega
  have hi1 : (sc : Int) < (n : Int) := by omega
  have hi2 : (sc : Int) + 1 < (n : Int) := by omega
  have hi3 : (0 : Int) ≤ (sc : Int) + 1 := by omega
  have ht1 : ((sc : Int) + 1).toNat = sc + 1 := by omega
  have hwi : IntKind.i64.wrap ((sc : Int) + 1) = (sc : Int) + 1 := IntWalk.i64_in _ (by have := a.room; omega)
  have hp1 : sc < n := by omega
  have hp2 : sc + 1 < n := by omega
  have n1 : sc + 2 + sN ≤ n := by omega
  have n4 : n ≤ 400 := by have := a.room; omega
  have hnN : ¬ (N : Int) < (N : Int) := by omega
  have B0 := Lib.hid hB; have W0 := Lib.hid hW; have CWH := Lib.hid cw0; have AH := Lib.hid a; have HN := Lib.hid hn; have HSC := Lib.hid hsc; have HFR := Lib.hid hfr; have HSUB := Lib.hid hsub; have HX := Lib.hid hx; have HXL := Lib.hid hxL; have HRO := Lib.hid hro; have HF64 := Lib.hid hF64; have Y1 := Lib.hid y1; have Y2 := Lib.hid y2; have Y3 := Lib.hid y3; have HSZ := Lib.hid hsz; have HXM := Lib.hid hxm2; have HEND := Lib.hid hend
  have c4 := hB.at 4 rfl; have c5 := hB.at 5 rfl; have c6 := hB.at 6 rfl; have c7 := hB.at 7 rfl; have lB := hB.1
  clear hB hW cw cw0 a hn hsc hfr hsub hx hxL hro hF64 y1 y2 y3 y4 hsz hxm2 hend k4 k5 k7 k8 hok hwd hS hxo hlt
  go_enter Try.func77, Try.ntmps77
  go_wp2
  go_quiet (fail)
  go_upto_region 3 with (fail)
  have HB1 := Lib.hid (drewN_below w nq)
  have B1 := Lib.hid (B0.out.below HB1.out); have W1 := Lib.hid (W0.out.below HB1.out)
  clear c4 c5 c6 c7
  generalize w.drewN nq = w1 at *
  have c6 := B1.out.at 6 rfl; have c7 := B1.out.at 7 rfl; have lB1 := B1.out.1
  go_quiet (fail)
  go_upto_region 4 with (fail)
  have HB2 := Lib.hid (HB1.out.trans ((drewN_below w1 nq).mono HB1.out.size))
  have B2 := Lib.hid (B1.out.below (drewN_below w1 nq)); have W2 := Lib.hid (W1.out.below (drewN_below w1 nq))
  clear c6 c7 B1 W1 HB1
  generalize w1.drewN nq = w2 at *
  have Bd := Lib.hid B2.out.drew; have Wd := Lib.hid W2.out.drew
  have HBd : Hid (Below w2.heap.size w2 w2.drew) := Lib.hid (Below.refl _ _).drew
  have hz2 := HB2.out.size
  have lb2 := B2.out.1; have lg2 := W2.out.lt
  go_region_held3 (fun w' => w'.cell? ⟨b, 1, none⟩ = some (.slice (some ⟨g, q, none⟩) n c) ∧ w'.cell? ⟨b, 6, none⟩ = some (.int .i64 (sc : Int)) ∧ w'.cell? ⟨g, q + sc, none⟩ = some (.int .i64 (F sc)) ∧ w'.cell? ⟨g, q + (sc + 1), none⟩ = some (.int .i64 (F (sc + 1))))
    (first | (with_reducible exact cells16 B2.out W2.out hp1 hp2) | (with_reducible exact cells16 Bd.out Wd.out hp1 hp2) | (with_reducible exact cells16 (B2.out.alloc _).drew (W2.out.alloc _).drew hp1 hp2) | (with_reducible exact cells16 B5.out W5.out hp1 hp2) | (with_reducible exact cells16 (B5.out.alloc _) (W5.out.alloc _) hp1 hp2) | (with_reducible exact cells16 (((((B5.out.other (by (try simp); (try omega)) _).other (by (try simp); (try omega)) _).other (by (try simp); (try omega)) _).other (by (try simp); (try omega)) _)) (((((W5.out.other (by (try simp); (try omega)) _).other (by (try simp); (try omega)) _).other (by (try simp); (try omega)) _).other (by (try simp); (try omega)) _)) hp1 hp2))
    (first | (go_at_call 86; refine (l2Read_yes (F sc) (F (sc + 1)) _ HF64.out HRO.out).mono ?_; rintro e w5 ⟨s1, m1, o1, h5, rfl, hb, hv⟩; obtain ⟨rfl, rfl, rfl, rfl⟩ := hv (by trivial); have HB5 := Lib.hid (thru0 (below_ext (Below.refl w2.heap.size w2).drew (by first | exact .inl rfl | exact ext_drew _ _ | exact .inr ⟨_, rfl⟩)) hb); have W5 := Lib.hid ((Wd.out.ext (by first | exact .inl rfl | exact ext_drew _ _ | exact .inr ⟨_, rfl⟩)).below hb); have B5 := Lib.hid ((Bd.out.ext (by first | exact .inl rfl | exact ext_drew _ _ | exact .inr ⟨_, rfl⟩)).below hb); have z5 : w2.heap.size ≤ w5.heap.size := (by have := hb.size; simp at this; omega); (first | (have T5 := Lib.hid ((Blk.new_at (w := w2) (cs := #[.int .i64 0, .int .i64 0, .int .i64 0, .int .i64 0]) (t := 85) (w2.heap.size) rfl).drew.below hb)) | skip); clear hb; (first | (have lT := T5.out.1; have cT0 := T5.out.at 0 rfl; have fT0 := T5.out.free 0 rfl; have cT1 := T5.out.at 1 rfl; have fT1 := T5.out.free 1 rfl; have cT2 := T5.out.at 2 rfl; have fT2 := T5.out.free 2 rfl; have cT3 := T5.out.at 3 rfl; have fT3 := T5.out.free 3 rfl) | skip)))
  all_goals (have Y1' := Y1.out; have Y2' := Y2.out; have Y3' := Y3.out)
  all_goals rw [Y1', Y2', Y3'] at *
  all_goals clear Y1 Y2 Y3 Y1' Y2' Y3'
  · refine then_named (fun w6 => Hid (Below w2.heap.size w2 w6) ∧ Hid (Blk w6 (w5.heap.size) [.int .i64 (sN : Int), .int .i64 x.m, .int .i64 xo, .int .i64 (F (sc + 1))])) ⟨HB5.out.alloc HB5.out.size _, Blk.new_at _ rfl⟩ (fun w6 hF => ?_)
    obtain ⟨HB6, T6⟩ := hF
    have z6 := HB6.out.size
    have B6 := Lib.hid (B2.out.below HB6.out); have W6 := Lib.hid (W2.out.below HB6.out)
    have K6 : Hid (Kep w w6 b g) := Lib.hid (kep_of_below (HB2.out.trans (HB6.out.mono hz2)) b g)
    have hd1 : w5.heap.size ≠ b := by omega
    have hd2 : w5.heap.size ≠ g := by omega
    have lb6 : b < w6.heap.size := by omega
    have hdl := T6.out.1
    clear HB5 W5 B5 Wd Bd HBd hv B2 W2 HB6 HRO HF64 hwi ht1 hi2 hi3 hne hne' hnN
    generalize w5.heap.size = hd at *
    go_wp2
    go_loopw [4] (fun k wr => ∃ (i : Nat) (G : Nat → Int), i ≤ sN ∧ k = .int .i64 (i : Int) ∧ Hid (Kep w6 wr b g) ∧ Hid (Wrd wr g q n G) ∧ Hid (CW f L P (addNew R (ptrsK f x i)) s i G) ∧ Hid (Blk wr b [.int .i64 h, .slice (some ⟨g, q, none⟩) n c, .int .i64 ac, .int .i64 bu, .slice ra N rc, .int .i64 (N : Int), .int .i64 (sc : Int), .int .i64 ((P + totO (objsO L (addNew R (ptrsK f x i))) : Nat) : Int)])) (fun k _ => sN - (intOf k).toNat)
    case atStart => exact ⟨0, F, Nat.zero_le _, rfl, Lib.hid (Kep.refl _ _ _), W6, CWH, Lib.hid (by have e : ((P + totO (objsO L (addNew R (ptrsK f x 0))) : Nat) : Int) = (fr : Int) := congrArg Int.ofNat HFR.out.symm; rw [e]; exact B6.out)⟩
    case round =>
      obtain ⟨i, G, hi, rfl, Kr, Wr, Cr, Br⟩ := hrel
      have Tr := Lib.hid (T6.out.kep Kr.out hd1 hd2)
      have zr := Kr.out.size
      obtain ⟨q1, q2, q3, q4, q5, q6, q7, q8, q9⟩ := Cr.out.lookK AH.out HSUB.out hs HX.out
      rw [← HSC.out] at q3 q4 q5 q6 q7 q8 q9
      rw [HSZ.out] at q4 q6 q7
      have Q7' := Lib.hid q7; have Q4 := Lib.hid q4
      clear q1 q2 q3 q4 q5 q6 q7 q8 q9
      have t0 := Tr.out.at 0 rfl; have t1 := Tr.out.at 1 rfl; have lT := Tr.out.1
      have d1 := Br.out.at 1 rfl; have d6 := Br.out.at 6 rfl; have ldb := Br.out.1; have lgr := Wr.out.lt
      by_cases hlt : i < sN
      · have hlt' : (i : Int) < (sN : Int) := by omega
        have rc := Wr.out.cell (sc + 2 + i) (by omega)
        rw [Q4.out hlt] at rc
        have hWv := Lib.hid (show Word (f (x.at_.toNat + 2 + i)) from by
          have := AH.out.bounds x HXL.out; have := AH.out.room; have := HSZ.out
          exact AH.out.word _ (by omega))
        obtain ⟨v, hv⟩ : ∃ v, f (x.at_.toNat + 2 + i) = v := ⟨_, rfl⟩
        rw [hv] at rc hWv
        have HV := Lib.hid hv
        clear hv
        have j0 : (0 : Int) ≤ (sc : Int) + 2 + (i : Int) := by omega
        have j1 : (sc : Int) + 2 + (i : Int) < (n : Int) := by omega
        have j2 : ((sc : Int) + 2 + (i : Int)).toNat = sc + 2 + i := by omega
        have hHW := HXM.out
        have hwv : IntKind.i64.wrap (v - 1) = v - 1 := IntWalk.i64_in _ (by have := hWv.out; unfold Word at this; omega)
        go_wp2_with fail
        by_cases hbit : x.m / P2 (i : Int) % 2 = 1
        · by_cases hv0 : v = 0
          · have hbn : Hid (¬ (x.m / P2 (i : Int) % 2 = 1 ∧ ¬ f (x.at_.toNat + 2 + i) = 0)) := Lib.hid (fun h => h.2 (HV.out.trans hv0))
            have hr1 : true = (x.m / P2 (i : Int) % 2 == 1) := by rw [hbit]; rfl
            subst hv0
            refine (l2Pointer_at hd 0 i x.m true _ (by rw [Nat.zero_add]; exact t1) hHW (by omega) hr1).mono ?_
            rintro e w' ⟨rfl, nq, rfl⟩
            have Hq := Lib.hid (drewN_below wr nq)
            have Kr2 : Hid (Kep w6 (wr.drewN nq) b g) := Lib.hid (Kr.out.trans (kep_of_below Hq.out b g)); have Wr2 := Lib.hid (Wr.out.below Hq.out)
            clear hbit hr1
            go_wp2
            go_roundw
            case rel => exact ⟨i + 1, G, by omega, by go_num, Kr2, Wr2, Lib.hid (Cr.out.lookStay AH.out HSUB.out hs HX.out (by rw [HSZ.out]; exact hlt) hbn.out), Lib.hid (by rw [addK_no R hbn.out]; exact Br.out.below Hq.out)⟩
            case measure => simp [intOf]; omega
          · have hb2 : x.m / P2 (i : Int) % 2 = 1 ∧ ¬ f (x.at_.toNat + 2 + i) = 0 := ⟨hbit, fun e => hv0 (HV.out.symm.trans e)⟩
            have hr1 : true = (x.m / P2 (i : Int) % 2 == 1) := by rw [hbit]; rfl
            have HB2' := Lib.hid hb2
            have hpl := AH.out.leads HXL.out (by rw [HSZ.out]; exact hlt) hb2
            rw [HV.out] at hpl
            have HPL := Lib.hid hpl
            clear hb2 hpl
            refine (l2Pointer_at hd 0 i x.m true _ (by rw [Nat.zero_add]; exact t1) hHW (by omega) hr1).mono ?_
            rintro e w' ⟨rfl, nq, rfl⟩
            have Hq := Lib.hid (drewN_below wr nq)
            have K7 : Hid (Kep w6 (wr.drewN nq) b g) := Lib.hid (Kr.out.trans (kep_of_below Hq.out b g)); have W7 := Lib.hid (Wr.out.below Hq.out); have B7 := Lib.hid (Br.out.below Hq.out)
            clear hbit hr1 Hq d1 d6 t0 t1 lT ldb lgr rc
            generalize wr.drewN nq = w7 at *
            have d1 := B7.out.at 1 rfl; have ldb := B7.out.1; have lgr := W7.out.lt
            have Bd := Lib.hid B7.out.drew; have Wd := Lib.hid W7.out.drew
            have Kd : Hid (Kep w6 w7.drew b g) := Lib.hid (K7.out.trans (kep_of_below (Below.refl _ _).drew b g))
            have hat : sc + 2 + i < n := by omega
            go_upto_region 11 with (fail)
            go_region_held3 (fun w' => w'.cell? ⟨b, 1, none⟩ = some (.slice (some ⟨g, q, none⟩) n c))
              (first | (with_reducible exact cell1 B7.out) | (with_reducible exact cell1 Bd.out) | (with_reducible exact cell1 B8.out) | (with_reducible exact cell1 (B8.out.other (by show g ≠ b; omega) _)))
              (first | (go_at_call 97; refine (l11Bring_any b g q n c h ac bu (N : Int) (sc : Int) (.slice ra N rc) G (v - 1) f L B U P H (addNew R (ptrsK f x i)) s i _ Bd.out Wd.out hbg HN.out Cr.out AH.out HPL.out).mono ?_; rintro e w8 ⟨G', rfl, hw, hc, hb, hk⟩; have hg9 := hc.goes AH.out ((mem_addNew _ _ _).2 (.inr (by simp)) : v - 1 ∈ addNew (addNew R (ptrsK f x i)) [v - 1]); have ht9 := hc.tot AH.out; have hm9 := AH.out.room; have B8 := Lib.hid hb; have W8 := Lib.hid hw; have C8 := Lib.hid hc; have K8 := Lib.hid (Kd.out.trans hk); clear hb hw hc hk; obtain ⟨V, hV⟩ : ∃ V, goes (addNew (addNew R (ptrsK f x i)) [v - 1]) (newPlaces P (objsO L (addNew (addNew R (ptrsK f x i)) [v - 1]))) (v - 1) = V := ⟨_, rfl⟩; rw [hV] at hg9 ⊢; have hwV : IntKind.i64.wrap (V + 1) = V + 1 := IntWalk.i64_in _ (by omega); have HVV := Lib.hid hV; clear hV hg9 ht9 hm9; have l8 := W8.out.lt; have r8 := W8.out.cell (sc + 2 + i) hat; have f8 := W8.out.free (sc + 2 + i) hat))
            go_wp2
            go_roundw
            case rel =>
              have h9 := CW.lookLead (W' := G') AH.out HSUB.out hs HX.out (by rw [HSZ.out]; exact hlt) HB2'.out (by rw [HV.out]; exact C8.out)
              have e9 : addNew R (ptrsK f x (i + 1)) = addNew (addNew R (ptrsK f x i)) [v - 1] := by rw [addK_yes R HB2'.out, HV.out]
              rw [HV.out, ← HSC.out, e9, HVV.out] at h9
              obtain ⟨hp1, hp2⟩ := W8.out.put (sc + 2 + i) hat (V + 1)
              exact ⟨i + 1, _, by omega, by go_num, Lib.hid (K8.out.trans (hp2 b)), Lib.hid hp1, Lib.hid (by rw [e9]; exact h9), Lib.hid (by rw [e9]; exact B8.out.other (by show g ≠ b; omega) _)⟩
            case measure => simp [intOf]; omega
        · have hbn : Hid (¬ (x.m / P2 (i : Int) % 2 = 1 ∧ ¬ f (x.at_.toNat + 2 + i) = 0)) := Lib.hid (fun h => hbit h.1)
          have hr1 : false = (x.m / P2 (i : Int) % 2 == 1) := by
            have : ¬ (x.m / P2 (i : Int) % 2 == 1) = true := by simpa using hbit
            cases hq : (x.m / P2 (i : Int) % 2 == 1)
            · rfl
            · exact absurd hq this
          clear hbit
          refine (l2Pointer_at hd 0 i x.m false _ (by rw [Nat.zero_add]; exact t1) hHW (by omega) hr1).mono ?_
          rintro e w' ⟨rfl, nq, rfl⟩
          have Hq := Lib.hid (drewN_below wr nq)
          have Kr2 : Hid (Kep w6 (wr.drewN nq) b g) := Lib.hid (Kr.out.trans (kep_of_below Hq.out b g)); have Wr2 := Lib.hid (Wr.out.below Hq.out)
          clear hr1
          go_wp2
          go_roundw
          case rel => exact ⟨i + 1, G, by omega, by go_num, Kr2, Wr2, Lib.hid (Cr.out.lookStay AH.out HSUB.out hs HX.out (by rw [HSZ.out]; exact hlt) hbn.out), Lib.hid (by rw [addK_no R hbn.out]; exact Br.out.below Hq.out)⟩
          case measure => simp [intOf]; omega
      · have hlt' : ¬ (i : Int) < (sN : Int) := by omega
        obtain rfl : i = sN := by omega
        go_upto_region 12 with (fail)
        go_still_tail 9, (by kernel_rfl)
        still_call (Calls.mono (l2Words_any hd (i : Int) _ _ _ _ Tr.out.drew ⟨by omega, by omega⟩) fun _ _ h => ⟨h.1, h.2.symm⟩)
        repeat still_step
        try refine wpStill_nil ?_
        change wpList _ _ _ _ _ wr.drew
        have Wd := Lib.hid Wr.out.drew; have Bd := Lib.hid Br.out.drew; have Kd : Hid (Kep w6 wr.drew b g) := Lib.hid (Kr.out.trans (kep_of_below (Below.refl _ _).drew b g))
        have e6 := Bd.out.at 6 rfl; have g6 := Bd.out.free 6 rfl; have ldr := Bd.out.1
        clear d1 d6 t0 t1
        generalize wr.drew = wz at *
        go_wp2
        refine bodyPost_end (v := .tuple #[]) (by simp [results, Try.results77, go_sem]) rfl ⟨rfl, G, Wd.out.other (by show b ≠ g; omega) _, ?_, ?_, K6.out.trans (Kd.out.trans (kep_set (.inl rfl) _))⟩
        · have h9 := Cr.out.lookEnd AH.out HSUB.out hs HX.out HSZ.out.symm
          exact h9
        · have h9 := Bd.out.set 6 (by simp) (.int .i64 ((sc : Int) + ((i : Int) + 2)))
          rw [HEND.out] at h9 Q7'
          have e9 : ((placeAt P (objsO L (addNew R (ptrs f x))) (s + 1) : Nat) : Int) = (sc : Int) + ((i : Int) + 2) := by rw [Q7'.out]; omega
          rw [e9]
          exact h9
  · refine then_named (fun w6 => Hid (Below w2.heap.size w2 w6) ∧ Hid (Blk w6 (w2.heap.size) [.int .i64 (sN : Int), .int .i64 x.m, .int .i64 xo, .int .i64 (F (sc + 1))])) ⟨((((HB5.out.setCell (by (try simp); (try omega)) _).setCell (by (try simp); (try omega)) _).setCell (by (try simp); (try omega)) _).setCell (by (try simp); (try omega)) _), ((((T5.out.set 0 (by simp) _).set 1 (by simp) _).set 2 (by simp) _).set 3 (by simp) _)⟩ (fun w6 hF => ?_)
    clear T5 lT cT0 fT0 cT1 fT1 cT2 fT2 cT3 fT3
    obtain ⟨HB6, T6⟩ := hF
    have z6 := HB6.out.size
    have B6 := Lib.hid (B2.out.below HB6.out); have W6 := Lib.hid (W2.out.below HB6.out)
    have K6 : Hid (Kep w w6 b g) := Lib.hid (kep_of_below (HB2.out.trans (HB6.out.mono hz2)) b g)
    have hd1 : w2.heap.size ≠ b := by omega
    have hd2 : w2.heap.size ≠ g := by omega
    have lb6 : b < w6.heap.size := by omega
    have hdl := T6.out.1
    clear HB5 W5 B5 Wd Bd HBd hv B2 W2 HB6 HRO HF64 hwi ht1 hi2 hi3 hne hne' hnN
    generalize w2.heap.size = hd at *
    go_wp2
    go_loopw [4] (fun k wr => ∃ (i : Nat) (G : Nat → Int), i ≤ sN ∧ k = .int .i64 (i : Int) ∧ Hid (Kep w6 wr b g) ∧ Hid (Wrd wr g q n G) ∧ Hid (CW f L P (addNew R (ptrsK f x i)) s i G) ∧ Hid (Blk wr b [.int .i64 h, .slice (some ⟨g, q, none⟩) n c, .int .i64 ac, .int .i64 bu, .slice ra N rc, .int .i64 (N : Int), .int .i64 (sc : Int), .int .i64 ((P + totO (objsO L (addNew R (ptrsK f x i))) : Nat) : Int)])) (fun k _ => sN - (intOf k).toNat)
    case atStart => exact ⟨0, F, Nat.zero_le _, rfl, Lib.hid (Kep.refl _ _ _), W6, CWH, Lib.hid (by have e : ((P + totO (objsO L (addNew R (ptrsK f x 0))) : Nat) : Int) = (fr : Int) := congrArg Int.ofNat HFR.out.symm; rw [e]; exact B6.out)⟩
    case round =>
      obtain ⟨i, G, hi, rfl, Kr, Wr, Cr, Br⟩ := hrel
      have Tr := Lib.hid (T6.out.kep Kr.out hd1 hd2)
      have zr := Kr.out.size
      obtain ⟨q1, q2, q3, q4, q5, q6, q7, q8, q9⟩ := Cr.out.lookK AH.out HSUB.out hs HX.out
      rw [← HSC.out] at q3 q4 q5 q6 q7 q8 q9
      rw [HSZ.out] at q4 q6 q7
      have Q7' := Lib.hid q7; have Q4 := Lib.hid q4
      clear q1 q2 q3 q4 q5 q6 q7 q8 q9
      have t0 := Tr.out.at 0 rfl; have t1 := Tr.out.at 1 rfl; have lT := Tr.out.1
      have d1 := Br.out.at 1 rfl; have d6 := Br.out.at 6 rfl; have ldb := Br.out.1; have lgr := Wr.out.lt
      by_cases hlt : i < sN
      · have hlt' : (i : Int) < (sN : Int) := by omega
        have rc := Wr.out.cell (sc + 2 + i) (by omega)
        rw [Q4.out hlt] at rc
        have hWv := Lib.hid (show Word (f (x.at_.toNat + 2 + i)) from by
          have := AH.out.bounds x HXL.out; have := AH.out.room; have := HSZ.out
          exact AH.out.word _ (by omega))
        obtain ⟨v, hv⟩ : ∃ v, f (x.at_.toNat + 2 + i) = v := ⟨_, rfl⟩
        rw [hv] at rc hWv
        have HV := Lib.hid hv
        clear hv
        have j0 : (0 : Int) ≤ (sc : Int) + 2 + (i : Int) := by omega
        have j1 : (sc : Int) + 2 + (i : Int) < (n : Int) := by omega
        have j2 : ((sc : Int) + 2 + (i : Int)).toNat = sc + 2 + i := by omega
        have hHW := HXM.out
        have hwv : IntKind.i64.wrap (v - 1) = v - 1 := IntWalk.i64_in _ (by have := hWv.out; unfold Word at this; omega)
        go_wp2_with fail
        by_cases hbit : x.m / P2 (i : Int) % 2 = 1
        · by_cases hv0 : v = 0
          · have hbn : Hid (¬ (x.m / P2 (i : Int) % 2 = 1 ∧ ¬ f (x.at_.toNat + 2 + i) = 0)) := Lib.hid (fun h => h.2 (HV.out.trans hv0))
            have hr1 : true = (x.m / P2 (i : Int) % 2 == 1) := by rw [hbit]; rfl
            subst hv0
            refine (l2Pointer_at hd 0 i x.m true _ (by rw [Nat.zero_add]; exact t1) hHW (by omega) hr1).mono ?_
            rintro e w' ⟨rfl, nq, rfl⟩
            have Hq := Lib.hid (drewN_below wr nq)
            have Kr2 : Hid (Kep w6 (wr.drewN nq) b g) := Lib.hid (Kr.out.trans (kep_of_below Hq.out b g)); have Wr2 := Lib.hid (Wr.out.below Hq.out)
            clear hbit hr1
            go_wp2
            go_roundw
            case rel => exact ⟨i + 1, G, by omega, by go_num, Kr2, Wr2, Lib.hid (Cr.out.lookStay AH.out HSUB.out hs HX.out (by rw [HSZ.out]; exact hlt) hbn.out), Lib.hid (by rw [addK_no R hbn.out]; exact Br.out.below Hq.out)⟩
            case measure => simp [intOf]; omega
          · have hb2 : x.m / P2 (i : Int) % 2 = 1 ∧ ¬ f (x.at_.toNat + 2 + i) = 0 := ⟨hbit, fun e => hv0 (HV.out.symm.trans e)⟩
            have hr1 : true = (x.m / P2 (i : Int) % 2 == 1) := by rw [hbit]; rfl
            have HB2' := Lib.hid hb2
            have hpl := AH.out.leads HXL.out (by rw [HSZ.out]; exact hlt) hb2
            rw [HV.out] at hpl
            have HPL := Lib.hid hpl
            clear hb2 hpl
            refine (l2Pointer_at hd 0 i x.m true _ (by rw [Nat.zero_add]; exact t1) hHW (by omega) hr1).mono ?_
            rintro e w' ⟨rfl, nq, rfl⟩
            have Hq := Lib.hid (drewN_below wr nq)
            have K7 : Hid (Kep w6 (wr.drewN nq) b g) := Lib.hid (Kr.out.trans (kep_of_below Hq.out b g)); have W7 := Lib.hid (Wr.out.below Hq.out); have B7 := Lib.hid (Br.out.below Hq.out)
            clear hbit hr1 Hq d1 d6 t0 t1 lT ldb lgr rc
            generalize wr.drewN nq = w7 at *
            have d1 := B7.out.at 1 rfl; have ldb := B7.out.1; have lgr := W7.out.lt
            have Bd := Lib.hid B7.out.drew; have Wd := Lib.hid W7.out.drew
            have Kd : Hid (Kep w6 w7.drew b g) := Lib.hid (K7.out.trans (kep_of_below (Below.refl _ _).drew b g))
            have hat : sc + 2 + i < n := by omega
            go_upto_region 11 with (fail)
            go_region_held3 (fun w' => w'.cell? ⟨b, 1, none⟩ = some (.slice (some ⟨g, q, none⟩) n c))
              (first | (with_reducible exact cell1 B7.out) | (with_reducible exact cell1 Bd.out) | (with_reducible exact cell1 B8.out) | (with_reducible exact cell1 (B8.out.other (by show g ≠ b; omega) _)))
              (first | (go_at_call 97; refine (l11Bring_any b g q n c h ac bu (N : Int) (sc : Int) (.slice ra N rc) G (v - 1) f L B U P H (addNew R (ptrsK f x i)) s i _ Bd.out Wd.out hbg HN.out Cr.out AH.out HPL.out).mono ?_; rintro e w8 ⟨G', rfl, hw, hc, hb, hk⟩; have hg9 := hc.goes AH.out ((mem_addNew _ _ _).2 (.inr (by simp)) : v - 1 ∈ addNew (addNew R (ptrsK f x i)) [v - 1]); have ht9 := hc.tot AH.out; have hm9 := AH.out.room; have B8 := Lib.hid hb; have W8 := Lib.hid hw; have C8 := Lib.hid hc; have K8 := Lib.hid (Kd.out.trans hk); clear hb hw hc hk; obtain ⟨V, hV⟩ : ∃ V, goes (addNew (addNew R (ptrsK f x i)) [v - 1]) (newPlaces P (objsO L (addNew (addNew R (ptrsK f x i)) [v - 1]))) (v - 1) = V := ⟨_, rfl⟩; rw [hV] at hg9 ⊢; have hwV : IntKind.i64.wrap (V + 1) = V + 1 := IntWalk.i64_in _ (by omega); have HVV := Lib.hid hV; clear hV hg9 ht9 hm9; have l8 := W8.out.lt; have r8 := W8.out.cell (sc + 2 + i) hat; have f8 := W8.out.free (sc + 2 + i) hat))
            go_wp2
            go_roundw
            case rel =>
              have h9 := CW.lookLead (W' := G') AH.out HSUB.out hs HX.out (by rw [HSZ.out]; exact hlt) HB2'.out (by rw [HV.out]; exact C8.out)
              have e9 : addNew R (ptrsK f x (i + 1)) = addNew (addNew R (ptrsK f x i)) [v - 1] := by rw [addK_yes R HB2'.out, HV.out]
              rw [HV.out, ← HSC.out, e9, HVV.out] at h9
              obtain ⟨hp1, hp2⟩ := W8.out.put (sc + 2 + i) hat (V + 1)
              exact ⟨i + 1, _, by omega, by go_num, Lib.hid (K8.out.trans (hp2 b)), Lib.hid hp1, Lib.hid (by rw [e9]; exact h9), Lib.hid (by rw [e9]; exact B8.out.other (by show g ≠ b; omega) _)⟩
            case measure => simp [intOf]; omega
        · have hbn : Hid (¬ (x.m / P2 (i : Int) % 2 = 1 ∧ ¬ f (x.at_.toNat + 2 + i) = 0)) := Lib.hid (fun h => hbit h.1)
          have hr1 : false = (x.m / P2 (i : Int) % 2 == 1) := by
            have : ¬ (x.m / P2 (i : Int) % 2 == 1) = true := by simpa using hbit
            cases hq : (x.m / P2 (i : Int) % 2 == 1)
            · rfl
            · exact absurd hq this
          clear hbit
          refine (l2Pointer_at hd 0 i x.m false _ (by rw [Nat.zero_add]; exact t1) hHW (by omega) hr1).mono ?_
          rintro e w' ⟨rfl, nq, rfl⟩
          have Hq := Lib.hid (drewN_below wr nq)
          have Kr2 : Hid (Kep w6 (wr.drewN nq) b g) := Lib.hid (Kr.out.trans (kep_of_below Hq.out b g)); have Wr2 := Lib.hid (Wr.out.below Hq.out)
          clear hr1
          go_wp2
          go_roundw
          case rel => exact ⟨i + 1, G, by omega, by go_num, Kr2, Wr2, Lib.hid (Cr.out.lookStay AH.out HSUB.out hs HX.out (by rw [HSZ.out]; exact hlt) hbn.out), Lib.hid (by rw [addK_no R hbn.out]; exact Br.out.below Hq.out)⟩
          case measure => simp [intOf]; omega
      · have hlt' : ¬ (i : Int) < (sN : Int) := by omega
        obtain rfl : i = sN := by omega
        go_upto_region 12 with (fail)
        go_still_tail 9, (by kernel_rfl)
        still_call (Calls.mono (l2Words_any hd (i : Int) _ _ _ _ Tr.out.drew ⟨by omega, by omega⟩) fun _ _ h => ⟨h.1, h.2.symm⟩)
        repeat still_step
        try refine wpStill_nil ?_
        change wpList _ _ _ _ _ wr.drew
        have Wd := Lib.hid Wr.out.drew; have Bd := Lib.hid Br.out.drew; have Kd : Hid (Kep w6 wr.drew b g) := Lib.hid (Kr.out.trans (kep_of_below (Below.refl _ _).drew b g))
        have e6 := Bd.out.at 6 rfl; have g6 := Bd.out.free 6 rfl; have ldr := Bd.out.1
        clear d1 d6 t0 t1
        generalize wr.drew = wz at *
        go_wp2
        refine bodyPost_end (v := .tuple #[]) (by simp [results, Try.results77, go_sem]) rfl ⟨rfl, G, Wd.out.other (by show b ≠ g; omega) _, ?_, ?_, K6.out.trans (Kd.out.trans (kep_set (.inl rfl) _))⟩
        · have h9 := Cr.out.lookEnd AH.out HSUB.out hs HX.out HSZ.out.symm
          exact h9
        · have h9 := Bd.out.set 6 (by simp) (.int .i64 ((sc : Int) + ((i : Int) + 2)))
          rw [HEND.out] at h9 Q7'
          have e9 : ((placeAt P (objsO L (addNew R (ptrs f x))) (s + 1) : Nat) : Int) = (sc : Int) + ((i : Int) + 2) := by rw [Q7'.out]; omega
          rw [e9]
          exact h9
end Go.Proofs.Ytnacdhnnpddccaa

namespace Go.Proofs.Ytnacdhnnpddccaa
open Go.RowKit
set_option linter.unusedVariables false

set_option maxRecDepth 100000 in
set_option maxHeartbeats 1600000 in
theorem strayw_any (h ac bu : Int) (a : Option Addr) (n c : Nat) (f : Nat → Int) (r : Bool) (w : World) (hs : Src w a n f) (hk : IsFault h n f ac bu 0) (hr : r = true ↔ ¬ Rest f n (baseI ac h).toNat bu.toNat) :
    Calls Try.prog 131 #[.agg #[.int .i64 h, .slice a n c, .int .i64 ac, .int .i64 bu]] w (RetBool w r) := by
  obtain ⟨⟨⟨g1, g2⟩, ⟨g3, g4⟩, g5, g6⟩, gn, gw⟩ := isFault_ok hk
  have hb0 : 0 ≤ baseI ac h ∧ baseI ac h ≤ h := by rcases (by omega : ac = 0 ∨ ac = 1) with rfl | rfl <;> simp [baseI] <;> omega
  obtain ⟨P, hP⟩ : ∃ P : Nat, baseI ac h = (P : Int) := ⟨(baseI ac h).toNat, by omega⟩
  obtain ⟨U, rfl⟩ : ∃ U : Nat, bu = (U : Int) := ⟨bu.toNat, by omega⟩
  rw [hP, Int.toNat_natCast, Int.toNat_natCast] at hr
  have hP2 : (P : Int) + (U : Int) ≤ 400 := by omega
  have hP3 : (P : Int) ≤ 200 := by omega
  have hU3 : (U : Int) ≤ 200 := by omega
  have hn4 : (n : Int) ≤ 400 := by omega
  have HS := Lib.hid hs; have HR := Lib.hid hr; have HP := Lib.hid hP
  clear hs hk hr hP gw g5 hb0
  go_enter Try.func131, Try.ntmps131
  go_wp2_with fail
  refine (baseOf_any h ac (U : Int) a n c _ g1 g2 g3 g4).mono ?_
  rintro e w1 ⟨rfl, hb⟩
  rw [HP.out]
  have HB1 := Lib.hid (thru1 (Below.refl _ _) hb)
  have A_1 := Lib.hid ((Blk.new_at (w := w) (cs := #[.int .i64 h, .slice a n c, .int .i64 ac, .int .i64 (U : Int)]) (t := 34) (w.heap.size) rfl).below hb)
  have S_1 := Lib.hid ((HS.out.alloc _).below hb)
  clear hb g1 g2 g3 g4 g6 gn
  have lA := A_1.out.1; have cA0 := A_1.out.at 0 rfl; have fA0 := A_1.out.free 0 rfl; have cA1 := A_1.out.at 1 rfl; have fA1 := A_1.out.free 1 rfl; have cA2 := A_1.out.at 2 rfl; have fA2 := A_1.out.free 2 rfl; have cA3 := A_1.out.at 3 rfl; have fA3 := A_1.out.free 3 rfl
  go_wp2
  clear lA cA0 fA0 cA1 fA1 cA2 fA2 cA3 fA3
  go_loopw [13] (fun p wr => ∃ j : Nat, j ≤ n ∧ p = .int .i64 (j : Int) ∧ Hid (Below w1.heap.size w1 wr) ∧ Hid (∀ k, k < j → ¬ (P ≤ k ∧ k < P + U) → f k = 0)) (fun p _ => n - (intOf p).toNat)
  case atStart => exact ⟨0, Nat.zero_le _, rfl, Below.refl _ _, Lib.hid (fun k hk => by omega)⟩
  case round =>
    obtain ⟨j, hj, rfl, HBq, HRS⟩ := hrel
    have HBr := Lib.hid (HB1.out.trans (HBq.out.mono HB1.out.size))
    by_cases hlt : j < n
    · have hlt' : (j : Int) < (n : Int) := by omega
      have hj0 : (0 : Int) ≤ (j : Int) := by omega
      have A_q := Lib.hid (A_1.out.below HBq.out)
      have cA3 := A_q.out.at 3 rfl
      have SQ := Lib.hid (S_1.out.below HBq.out)
      obtain ⟨tb, tf, rfl, ltb, cfk⟩ : ∃ tb tf, a = some ⟨tb, tf, none⟩ ∧ tb < wr.heap.size ∧ wr.cell? ⟨tb, tf + j, none⟩ = some (.int .i64 (f j)) := by
        rcases SQ.out with h0 | ⟨tb, tf, h1, h2, h3⟩
        · omega
        · exact ⟨tb, tf, h1, h2, h3 j hlt⟩
      have hPn : (0 : Int) ≤ (P : Int) := by omega
      have hUn : (0 : Int) ≤ (U : Int) := by omega
      by_cases h1 : (P : Int) ≤ (j : Int)
      · by_cases h2 : (j : Int) < (P : Int) + (U : Int)
        · have HIN := Lib.hid (show P ≤ j ∧ j < P + U by omega)
          go_wp2
          go_roundw
          case rel => exact ⟨j + 1, by omega, by go_num, HBq, Lib.hid (fun k hk hb => by rcases Nat.lt_succ_iff_lt_or_eq.mp hk with h' | h'; exact HRS.out k h' hb; subst h'; exact absurd HIN.out hb)⟩
          case measure => simp [intOf]; omega
        · have hni : ¬ (P ≤ j ∧ j < P + U) := by omega
          by_cases hz : f j = 0
          · have HZ := Lib.hid hz
            go_wp2
            go_roundw
            case rel => exact ⟨j + 1, by omega, by go_num, HBq, Lib.hid (fun k hk hb => by rcases Nat.lt_succ_iff_lt_or_eq.mp hk with h' | h'; exact HRS.out k h' hb; subst h'; exact HZ.out)⟩
            case measure => simp [intOf]; omega
          · have hrt : r = true := HR.out.2 (fun hp => hz (hp j hlt hni))
            subst hrt
            go_wp2
            go_ret
            exact ⟨rfl, HBr.out⟩
      · have hni : ¬ (P ≤ j ∧ j < P + U) := by omega
        by_cases hz : f j = 0
        · have HZ := Lib.hid hz
          go_wp2
          go_roundw
          case rel => exact ⟨j + 1, by omega, by go_num, HBq, Lib.hid (fun k hk hb => by rcases Nat.lt_succ_iff_lt_or_eq.mp hk with h' | h'; exact HRS.out k h' hb; subst h'; exact HZ.out)⟩
          case measure => simp [intOf]; omega
        · have hrt : r = true := HR.out.2 (fun hp => hz (hp j hlt hni))
          subst hrt
          go_wp2
          go_ret
          exact ⟨rfl, HBr.out⟩
    · have hlt' : ¬ (j : Int) < (n : Int) := by omega
      have hrf : r = false := by
        cases r with
        | false => rfl
        | true => exact absurd (fun k hk hb => HRS.out k (by omega) hb) (HR.out.1 rfl)
      subst hrf
      go_wp2
      go_ret
      exact ⟨rfl, HBr.out⟩
end Go.Proofs.Ytnacdhnnpddccaa

namespace Go.Proofs.Ytnacdhnnpddccaa
open Go.RowKit Go.Shelf
attribute [local go_sem] Oper.semAt_some
set_option linter.unusedVariables false

theorem cells_new6 (w : World) (t : GM) : ∀ j u, (gcells t)[j]? = some u → (w.alloc (.cells #[.int .i64 t.at_, .int .i64 t.s, .int .i64 t.m, .int .i64 t.o, .int .i64 t.h, .slice t.a t.n t.c] 87)).cell? ((⟨w.heap.size, 0, none⟩ : Addr).add j) = some u := fun j u h => by
  have := ((Blk.new w #[.int .i64 t.at_, .int .i64 t.s, .int .i64 t.m, .int .i64 t.o, .int .i64 t.h, .slice t.a t.n t.c] 87).2 j u h).1
  cases j with
  | zero => exact this
  | succ j => simpa [Addr.add] using this

theorem row_far {w : World} {base e size n b : Nat} {v : Value} {xs : List Value} (h : w.ownsRow base e size v n xs) (hb : b < base) : v.ownBlock ≠ some b := fun he => by have := (h.lt b he).1; omega

theorem blk_grown {w w' : World} {b : Nat} {cs : List Value} {row : Option Nat} (h : Blk w b cs) (hg : w.grownBy w' row) (hne : row ≠ some b) : Blk w' b cs := blk_block h (hg.block b h.1 (fun e => hne e.symm))

theorem row_set {w : World} {base e size n : Nat} {v : Value} {xs : List Value} (h : w.ownsRow base e size v n xs) {p : Addr} (hp : p.block < base) (u : Value) : (w.setCell p u).ownsRow base e size v n xs := by
  refine ⟨h.1, ?_⟩
  rcases h.2 with h0 | ⟨g, cap, cur, h1, h2, h3, h4⟩
  · exact .inl h0
  · exact .inr ⟨g, cap, cur, h1, h2, (Below.heap_setCell w p u g (by omega)).trans h3, h4⟩

theorem row_cells {w : World} {base e size n : Nat} {v : Value} {xs : List Value} (h : w.ownsRow base e size v n xs) (j : Nat) (o : Obj) (hj : v.ownBlock = some j) (ho : w.heap[j]? = some o) : o.isCells = true := by
  rcases h.2 with ⟨rfl, _⟩ | ⟨g, cap, cur, rfl, _, hg, _⟩
  · simp [Value.ownBlock] at hj
  · simp only [Value.ownBlock, Option.some.injEq] at hj
    subst hj
    rw [hg] at ho
    cases ho; rfl

set_option maxRecDepth 100000 in
set_option maxHeartbeats 800000 in
theorem implOI_fault (h ac bu : Int) (a : Option Addr) (n c : Nat) (f : Nat → Int) (k : Int) (w : World) (hs : Src w a n f) (hk : IsFault h n f ac bu k) (hk0 : ¬ k = 0) :
    Calls Try.prog 62 #[.agg #[.int .i64 h, .slice a n c, .int .i64 ac, .int .i64 bu]] w (RetORG w f k []) := by
  have HS := Lib.hid hs; have HK := Lib.hid hk
  clear hs hk
  go_enter Try.func62, Try.ntmps62
  go_wp2_with fail
  refine (implFault_any h ac bu a n c f k _ ((HS.out.alloc _).alloc _) HK.out).mono ?_
  rintro e w1 ⟨rfl, hb⟩
  have HB1 := Lib.hid (thru2 (Below.refl _ _) hb)
  have R_1 := Lib.hid ((Blk.new_at (w := w.alloc (.cells #[.int .i64 h, .slice a n c, .int .i64 ac, .int .i64 bu] 34)) (cs := #[.int .i64 0, .slice none 0 0]) (t := 92) (w.heap.size + 1) (by simp)).below hb)
  have z1 : w.heap.size + 2 ≤ w1.heap.size := by have := hb.size; simp at this; omega
  clear hb
  have hd : (k != 0) = true := by simpa using hk0
  have lR := R_1.out.1; have cR0 := R_1.out.at 0 rfl; have fR0 := R_1.out.free 0 rfl; have cR1 := R_1.out.at 1 rfl; have fR1 := R_1.out.free 1 rfl
  go_wp2
  refine bodyPost_ret (v := .agg #[.int .i64 k, .slice none 0 0]) (by simp [results, Try.results62, go_sem, cR0, cR1]) rfl ⟨none, 0, fun _ => gzero, rfl, .inl rfl, fun i hi => (by simp at hi), ?_, Nat.le_refl _, by simp [maxLen]⟩
  repeat (first | (with_reducible refine Below.setCell ?_ (by (try simp); (try omega)) _) | (with_reducible refine Below.alloc ?_ (by (try simp); (try omega)) _) | (with_reducible refine Below.drew ?_))
  exact HB1.out

set_option maxRecDepth 100000 in
set_option maxHeartbeats 3200000 in
theorem implOI_none (h ac bu : Int) (a : Option Addr) (n c : Nat) (f : Nat → Int) (co : Int) (L : List Ob) (w : World) (hs : Src w a n f) (hnc : n ≤ c) (hcm : c ≤ maxLen) (hk : IsFault h n f ac bu 0)
    (hc : (parse f ((baseI ac h).toNat + bu.toNat) (baseI ac h).toNat = none ∧ co = 1 ∧ L = []) ∨ (parse f ((baseI ac h).toNat + bu.toNat) (baseI ac h).toNat = some L ∧ co = 0)) :
    Calls Try.prog 62 #[.agg #[.int .i64 h, .slice a n c, .int .i64 ac, .int .i64 bu]] w (RetORG w f co L) := by
  obtain ⟨⟨⟨g1, g2⟩, ⟨g3, g4⟩, g5, g6⟩, gn, gw⟩ := isFault_ok hk
  have hb0 : 0 ≤ baseI ac h ∧ baseI ac h ≤ h ∧ baseI ac h + h ≤ 2 * h := by rcases (by omega : ac = 0 ∨ ac = 1) with rfl | rfl <;> simp [baseI] <;> omega
  obtain ⟨P, hP⟩ : ∃ P : Nat, baseI ac h = (P : Int) := ⟨(baseI ac h).toNat, by omega⟩
  obtain ⟨U, rfl⟩ : ∃ U : Nat, bu = (U : Int) := ⟨bu.toNat, by omega⟩
  rw [hP, Int.toNat_natCast, Int.toNat_natCast] at hc
  obtain ⟨ab, ao, rfl⟩ : ∃ ab ao, a = some ⟨ab, ao, none⟩ := by
    rcases hs with h0 | ⟨b, off, he, _⟩
    · omega
    · exact ⟨b, off, he⟩
  have hPU : P + U ≤ n := by omega
  have HS := Lib.hid hs; have HK := Lib.hid hk; have HC := Lib.hid hc; have HP := Lib.hid hP; have HCM := Lib.hid hcm
  have HG := Lib.hid (show 8 ≤ h ∧ h ≤ 200 ∧ 0 ≤ ac ∧ ac ≤ 1 ∧ (n : Int) = 2 * h from ⟨g1, g2, g3, g4, gn⟩)
  clear hs hk hc hP hcm gw hb0 g1 g2 g3 g4 g5 g6 gn
  obtain ⟨m, _⟩ : ∃ m : Nat, m = m := ⟨9, rfl⟩
  refine (callsIn_wide (n := m)).1 ?_
  refine callsIn_of_wp_marks Try.func62 rfl trivial ?_ rfl
  simp only [Try.ntmps62, List.size_toArray, List.length_cons, List.length_nil, Nat.reduceAdd, Nat.reduceSub, Array.replicate_succ, Array.replicate_zero, List.push_toArray, List.append_toArray, List.nil_append, List.cons_append]
  gi_wp2_with fail
  refine ⟨trivial, fun hx => (by simp [Fence.wide] at hx), (callsIn_wide.2 (implFault_any h ac (U : Int) (some ⟨ab, ao, none⟩) n c f 0 _ ((HS.out.alloc _).alloc _) HK.out)).mono ?_⟩
  rintro e w1 ⟨rfl, hb⟩
  have HB1 := Lib.hid (thru2 (Below.refl _ _) hb)
  have A_1 := Lib.hid (((Blk.new_at (w := w) (cs := #[.int .i64 h, .slice (some ⟨ab, ao, none⟩) n c, .int .i64 ac, .int .i64 (U : Int)]) (t := 34) (w.heap.size) rfl).alloc _).below hb)
  have R_1 := Lib.hid ((Blk.new_at (w := w.alloc (.cells #[.int .i64 h, .slice (some ⟨ab, ao, none⟩) n c, .int .i64 ac, .int .i64 (U : Int)] 34)) (cs := #[.int .i64 0, .slice none 0 0]) (t := 92) (w.heap.size + 1) (by simp)).below hb)
  have z1 : w.heap.size + 2 ≤ w1.heap.size := by have := hb.size; simp at this; omega
  clear hb
  have lA := A_1.out.1; have cA0 := A_1.out.at 0 rfl; have fA0 := A_1.out.free 0 rfl; have cA1 := A_1.out.at 1 rfl; have fA1 := A_1.out.free 1 rfl; have cA2 := A_1.out.at 2 rfl; have fA2 := A_1.out.free 2 rfl; have cA3 := A_1.out.at 3 rfl; have fA3 := A_1.out.free 3 rfl
  gi_wp2_with fail
  clear lA cA0 fA0 cA1 fA1 cA2 fA2 cA3 fA3
  refine ⟨trivial, fun hx => (by simp [Fence.wide] at hx), (callsIn_wide.2 (walk_any h ac (U : Int) (some ⟨ab, ao, none⟩) n c _)).mono ?_⟩
  rintro e w2 ⟨rfl, rfl⟩
  have HB0 : Hid (Below w.heap.size w ((w1.alloc (.cells #[.slice none 0 0] 76)).alloc (.cells #[.int .i64 h, .slice (some ⟨ab, ao, none⟩) n c, .int .i64 ac, .int .i64 (U : Int)] 34))) := Lib.hid ((HB1.out.alloc HB1.out.size _).alloc (by have := HB1.out.size; simp; omega) _)
  have T0 : Hid (Blk ((w1.alloc (.cells #[.slice none 0 0] 76)).alloc (.cells #[.int .i64 h, .slice (some ⟨ab, ao, none⟩) n c, .int .i64 ac, .int .i64 (U : Int)] 34)) w1.heap.size [.slice none 0 0]) := Lib.hid ((Blk.new_at (w := w1) (cs := #[.slice none 0 0]) (t := 76) w1.heap.size rfl).alloc _)
  have A0 : Hid (Blk ((w1.alloc (.cells #[.slice none 0 0] 76)).alloc (.cells #[.int .i64 h, .slice (some ⟨ab, ao, none⟩) n c, .int .i64 ac, .int .i64 (U : Int)] 34)) (w1.heap.size + 1) [.int .i64 h, .slice (some ⟨ab, ao, none⟩) n c, .int .i64 ac, .int .i64 (U : Int)]) := Lib.hid (Blk.new_at (w := w1.alloc (.cells #[.slice none 0 0] 76)) (cs := #[.int .i64 h, .slice (some ⟨ab, ao, none⟩) n c, .int .i64 ac, .int .i64 (U : Int)]) (t := 34) (w1.heap.size + 1) (by simp))
  have R0 : Hid (Blk ((w1.alloc (.cells #[.slice none 0 0] 76)).alloc (.cells #[.int .i64 h, .slice (some ⟨ab, ao, none⟩) n c, .int .i64 ac, .int .i64 (U : Int)] 34)) (w.heap.size + 1) [.int .i64 0, .slice none 0 0]) := Lib.hid ((R_1.out.alloc _).alloc _)
  have z0 : ((w1.alloc (.cells #[.slice none 0 0] 76)).alloc (.cells #[.int .i64 h, .slice (some ⟨ab, ao, none⟩) n c, .int .i64 ac, .int .i64 (U : Int)] 34)).heap.size = w1.heap.size + 2 := by simp
  gi_wp2
  generalize (w1.alloc (.cells #[.slice none 0 0] 76)).alloc (.cells #[.int .i64 h, .slice (some ⟨ab, ao, none⟩) n c, .int .i64 ac, .int .i64 (U : Int)] 34) = W0 at *
  have z0' : w.heap.size + 4 ≤ W0.heap.size := by omega
  have hn0 : w.heap.size ≤ W0.heap.size := by omega
  have hA1 : w1.heap.size + 1 < W0.heap.size := by omega
  have HZ0 := Lib.hid z0
  clear HB1 R_1 A_1 z0
  obtain ⟨i0, hi, hi0, hi1, hi2⟩ := info_parts Try.info87
  refine range_objs (gf := 107) (lb := #[.pointer (some ⟨w1.heap.size + 1, 0, none⟩)]) rfl (enters_of Try.func107 (by kernel_rfl) rfl)
    (fun xs => ∃ L', parse f (P + U) P = some L' ∧ Match f xs L') (parse f (P + U) P = none)
    (fun pre V => Below w.heap.size w V ∧ Blk V (w.heap.size + 1) [.int .i64 0, .slice none 0 0] ∧ ∃ va vc, Blk V w1.heap.size [.slice va pre.length vc] ∧ V.ownsRow W0.heap.size 87 6 (.slice va pre.length vc) pre.length (rowG pre) ∧ FldG V W0.heap.size (.slice va pre.length vc) pre)
    (fun V => Below w.heap.size w V ∧ Blk V (w.heap.size + 1) [.int .i64 1, .slice none 0 0])
    w.heap.size (w1.heap.size + 1) hn0 hA1 ?stable ?stablex ?start ?iter
    (fun v B => { tmps := #[.agg #[.int .i64 h, .slice (some ⟨ab, ao, none⟩) n c, .int .i64 ac, .int .i64 (U : Int)], .pointer (some ⟨w.heap.size, 0, none⟩), .pointer (some ⟨w.heap.size + 1, 0, none⟩), .int .i64 0, .pointer (some ⟨w1.heap.size, 0, none⟩), .pointer (some ⟨B, 0, none⟩), .agg #[.int .i64 h, .slice (some ⟨ab, ao, none⟩) n c, .int .i64 ac, .int .i64 (U : Int)], .int .i64 0, .int .i64 0, .bool false, undef, undef, .agg #[.int .i64 h, .slice (some ⟨ab, ao, none⟩) n c, .int .i64 ac, .int .i64 (U : Int)], .func (.func 107) #[] #[.pointer (some ⟨w1.heap.size + 1, 0, none⟩)], v, undef, undef, undef, undef, undef, undef, undef, undef, undef, undef, undef, undef, undef], defers := [] })
    ?assign ?go ?no ?done ?stop
  case stable =>
    rintro s V V' ⟨h1, h2, va, vc, h3, h4, h5⟩ hT
    exact ⟨h1.trans (hT.below hn0 h1.size), hT.blk h2 (by simp), va, vc, hT.blk h3 (by simp), hT.row h4, hT.fld h5⟩
  case stablex =>
    rintro V V' ⟨h1, h2⟩ hT
    exact ⟨h1.trans (hT.below hn0 h1.size), hT.blk h2 (by simp)⟩
  case start => exact ⟨HB0.out, R0.out, none, 0, T0.out, World.ownsRow_nil _ _ _ _, ⟨fun t ht => (by cases ht), List.Pairwise.nil⟩⟩
  case iter =>
    intro l J Jx W1 hb hJ hgo hno hJ0
    obtain ⟨g1, g2, g3, g4, gn⟩ := HG.out
    refine (iter_in (m - 1) l (w1.heap.size + 1) h ac ab ao n c P U f w W1 J Jx hJ hgo hno HS.out (HB0.out.trans (hb.mono hn0)) (A0.out.below hb) g1 g2 g3 g4 HP.out gn hPU hnc HCM.out hJ0).mono ?_
    rintro e V' ⟨hv, ⟨L', xs, h1, h2, h3⟩ | h1⟩
    · exact ⟨hv, .inl ⟨xs, ⟨L', h1, h2⟩, h3⟩⟩
    · exact ⟨hv, .inr h1⟩
  case assign =>
    intro l c0 c1 c2 c3 c4 c5 sa sn sc V1 K hK
    gi_wp2
    exact hK
  case go =>
    rintro l pre t V0 V1 V2 ⟨hB, hR, va, vc, hT, how, hfl⟩ hlen hTn hz hz2 hz0 hX ho
    have T2 := Lib.hid (hTn.blk hT (by simp)); have X2 := Lib.hid hX; have R2 := Lib.hid (hTn.blk hR (by simp)); have OW2 := Lib.hid (hTn.row how); have HFL := Lib.hid hfl; have HTN := Lib.hid hTn; have HO := Lib.hid ho; have HOW := Lib.hid how
    have HB2 := Lib.hid (hB.trans (hTn.below hn0 hB.size))
    have HZ2 := Lib.hid hz2
    have hV02 : V0.heap.size ≤ V2.heap.size := by omega
    clear hT hX hR how hfl hTn ho hB hz2
    have hnew := cells_new6 V2 t
    have lT := T2.out.1; have cT0 := T2.out.at 0 rfl; have fT0 := T2.out.free 0 rfl
    have lX := X2.out.1; have cX0 := X2.out.at 0 rfl; have fX0 := X2.out.free 0 rfl; have cX1 := X2.out.at 1 rfl; have fX1 := X2.out.free 1 rfl; have cX2 := X2.out.at 2 rfl; have fX2 := X2.out.free 2 rfl; have cX3 := X2.out.at 3 rfl; have fX3 := X2.out.free 3 rfl; have cX4 := X2.out.at 4 rfl; have fX4 := X2.out.free 4 rfl; have cX5 := X2.out.at 5 rfl; have fX5 := X2.out.free 5 rfl; have cX6 := X2.out.at 6 rfl; have fX6 := X2.out.free 6 rfl
    gi_wp2_with (gi_at_builtin; go_loud (refine wpListIn_append_own_at _ rfl _ _ 76 rfl W0.heap.size 87 i0 _ 6 64 Try.underlying76 hi hi0 hi1 hi2 rfl (by decide) _ pre.length _ rfl (OW2.out.alloc _) ⟨V2.heap.size, 0, none⟩ 1 1 (gcells t) rfl rfl hnew (by intro u hu; simp [gcells] at hu; rcases hu with rfl | rfl | rfl | rfl | rfl | rfl <;> rfl) (by unfold maxLen; omega) (by omega) (by simp; omega) ?_); intro v' w4 hown hgrow _ hat; obtain ⟨g', cap', rfl⟩ := ownsRow_succ hown; have T3 := Lib.hid (blk_grown (T2.out.alloc _) hgrow (row_far OW2.out (by omega))); clear lT cT0 fT0; have lT := T3.out.1; have cT0 := T3.out.at 0 rfl; have fT0 := T3.out.free 0 rfl)
    clear lT cT0 fT0 lX cX0 cX1 cX2 cX3 cX4 cX5 cX6 fX0 fX1 fX2 fX3 fX4 fX5 fX6
    have z := HZ0.out
    have hsv : some (⟨g', 0, none⟩ : Addr) = some ⟨g', 0, none⟩ := rfl
    have hfar : ∀ b, b < W0.heap.size → some b ≠ (Value.slice va pre.length vc).ownBlock := fun b hb e => row_far OW2.out hb e.symm
    have hBn : ∀ n1, n1 ≤ w1.heap.size → Below n1 V2 (w4.setCell ⟨w1.heap.size, 0, none⟩ (.slice (some ⟨g', 0, none⟩) (pre.length + 1) cap')) := fun n1 h1 =>
      (((Below.refl n1 V2).alloc (by omega) _).grown hgrow (by simp; omega) (fun k e => by have := (OW2.out.lt k e).1; omega)).setCell h1 _
    refine ⟨(KeepsOthers.alloc V2 _).trans ((KeepsOthers.of_grownBy hgrow (row_cells (OW2.out.alloc _))).trans (KeepsOthers.setCell _ _ _)), ⟨HB2.out.trans (hBn _ (by omega)), (blk_grown (R2.out.alloc _) hgrow (row_far OW2.out (by omega))).other (by simp; omega) _, some ⟨g', 0, none⟩, cap', T3.out.set 0 (by simp) _, row_set (by rw [rowG_snoc]; exact hown) (by show w1.heap.size < W0.heap.size; omega) _, ?_⟩, hBn _ (by omega), ?_, fun b hb1 hb2 => ?_⟩
    · exact (FldG.snoc t HFL.out (by simp; omega) (fun b o hb hc => (Below.heap_alloc _ _ _ (Array.getElem?_eq_some_iff.1 (HTN.out.same b o hb (.inr hc))).1).trans (HTN.out.same b o hb (.inr hc))) hgrow hat hz0 (fun k e => (HOW.out.lt k e).2) (HO.out.alloc _)).block (by simp) (fun b h1 _ _ => Below.heap_setCell _ _ _ b (by show b ≠ w1.heap.size; omega))
    · exact (Below.heap_setCell _ _ _ _ (by show w1.heap.size + 1 ≠ w1.heap.size; omega)).trans ((hgrow.block _ (by simp; omega) (hfar _ hA1)).trans (Below.heap_alloc _ _ _ (by omega)))
    · exact (Below.heap_setCell _ _ _ _ (by show b ≠ w1.heap.size; omega)).trans ((hgrow.block _ (by simp; omega) (fun e => by have := (HOW.out.lt b e.symm).2; omega)).trans (Below.heap_alloc _ _ _ hb2))
  case no =>
    rintro l pre V0 V1 V2 ⟨hB, hR, va, vc, hT, how, hfl⟩ hTn hz hz2 hz0 hX
    have X2 := Lib.hid hX; have R2 := Lib.hid (hTn.blk hR (by simp))
    have HB2 := Lib.hid (hB.trans (hTn.below hn0 hB.size))
    clear hT hX hR how hfl hTn hB
    have lX := X2.out.1; have cX0 := X2.out.at 0 rfl; have fX0 := X2.out.free 0 rfl; have cX1 := X2.out.at 1 rfl; have fX1 := X2.out.free 1 rfl; have cX2 := X2.out.at 2 rfl; have fX2 := X2.out.free 2 rfl; have cX3 := X2.out.at 3 rfl; have fX3 := X2.out.free 3 rfl; have cX4 := X2.out.at 4 rfl; have fX4 := X2.out.free 4 rfl; have cX5 := X2.out.at 5 rfl; have fX5 := X2.out.free 5 rfl; have cX6 := X2.out.at 6 rfl; have fX6 := X2.out.free 6 rfl
    have lR := R2.out.1; have cR0 := R2.out.at 0 rfl; have fR0 := R2.out.free 0 rfl; have cR1 := R2.out.at 1 rfl; have fR1 := R2.out.free 1 rfl
    gi_wp2
    exact ⟨(KeepsOthers.setCell _ _ _).trans (KeepsOthers.setCell _ _ _), HB2.out.trans (((Below.refl _ V2).setCell (by show w.heap.size ≤ w.heap.size + 1; omega) _).setCell (by show w.heap.size ≤ w.heap.size + 1; omega) _), (R2.out.set 0 (by simp) _).set 1 (by simp) _⟩
  case done =>
    rintro D xs V hD ⟨L', h1, h2⟩ ⟨hB, hR, va, vc, hT, how, hfl⟩ hK
    have T2 := Lib.hid hT; have R2 := Lib.hid hR
    have lT := T2.out.1; have cT0 := T2.out.at 0 rfl; have fT0 := T2.out.free 0 rfl
    have lR := R2.out.1; have cR0 := R2.out.at 0 rfl; have fR0 := R2.out.free 0 rfl; have cR1 := R2.out.at 1 rfl; have fR1 := R2.out.free 1 rfl
    gi_wp2
    clear lT cT0 fT0 lR cR0 cR1 fR0 fR1
    have hRD : (⟨w.heap.size + 1, 0, none⟩ : Addr).block < W0.heap.size := by show w.heap.size + 1 < W0.heap.size; omega
    have hK' := ((KeepsOthers.setCell V ⟨w.heap.size + 1, 0, none⟩ (.int .i64 0)).trans (KeepsOthers.setCell _ ⟨w.heap.size + 1, 1, none⟩ (.slice va xs.length vc))).same D _ hK rfl
    have hBV := ((Below.refl w.heap.size V).setCell (p := ⟨w.heap.size + 1, 0, none⟩) (by show w.heap.size ≤ w.heap.size + 1; omega) (.int .i64 0)).setCell (p := ⟨w.heap.size + 1, 1, none⟩) (by show w.heap.size ≤ w.heap.size + 1; omega) (.slice va xs.length vc)
    have hRV : Blk ((V.setCell ⟨w.heap.size + 1, 0, none⟩ (.int .i64 0)).setCell ⟨w.heap.size + 1, 1, none⟩ (.slice va xs.length vc)) (w.heap.size + 1) [.int .i64 0, .slice va xs.length vc] := (R2.out.set 0 (by simp) _).set 1 (by simp) _
    have hOV := row_set (row_set how hRD (.int .i64 0)) (p := ⟨w.heap.size + 1, 1, none⟩) hRD (.slice va xs.length vc)
    have hFV : FldG ((V.setCell ⟨w.heap.size + 1, 0, none⟩ (.int .i64 0)).setCell ⟨w.heap.size + 1, 1, none⟩ (.slice va xs.length vc)) W0.heap.size (.slice va xs.length vc) xs := hfl.block (by simp) (fun b hb _ _ => (Below.heap_setCell _ _ _ b (by show b ≠ w.heap.size + 1; omega)).trans (Below.heap_setCell _ _ _ b (by show b ≠ w.heap.size + 1; omega)))
    have hzV : V.heap.size ≤ ((V.setCell ⟨w.heap.size + 1, 0, none⟩ (.int .i64 0)).setCell ⟨w.heap.size + 1, 1, none⟩ (.slice va xs.length vc)).heap.size := by simp
    generalize (V.setCell ⟨w.heap.size + 1, 0, none⟩ (.int .i64 0)).setCell ⟨w.heap.size + 1, 1, none⟩ (.slice va xs.length vc) = Vf at *
    have hTF : Turn W0.heap.size Vf (Vf.putObj D (.deferred none)) := Turn.put _ hD hK' rfl
    have hRW := hTF.blk hRV (by simp)
    obtain ⟨rfl, rfl⟩ : co = 0 ∧ L = L' := by
      rcases HC.out with ⟨hx, _⟩ | ⟨hx, hy⟩
      · rw [hx] at h1; cases h1
      · rw [hx] at h1; cases h1; exact ⟨hy, rfl⟩
    obtain ⟨a', c', he, hg⟩ := rowG_GVO (hTF.row hOV) (hTF.fld hFV) (Nat.le_refl _)
    simp only [Value.slice.injEq] at he
    obtain ⟨rfl, _, rfl⟩ := he
    obtain ⟨hc1, hc2⟩ := row_cap (hTF.row hOV)
    have hBF := (hB.trans hBV).trans (hTF.below hn0 (by have := hB.size; omega))
    have c0 := hRW.at 0 rfl
    have c1 := hRW.at 1 rfl
    refine ⟨by simp, .inl ⟨_, _, rfl, run_takeDeferred hK', ?_⟩⟩
    refine ⟨.agg #[.int .i64 0, .slice va xs.length vc], by simp [results, Try.results62, go_sem, c0, c1], ?_⟩
    rw [h2.1] at hg hc1 ⊢
    exact ⟨va, vc, gT xs, rfl, gvo_mono hg hn0, match_same h2, hBF, hc1, hc2⟩
  case stop =>
    rintro D V hD hN ⟨hB, hR⟩ hK
    gi_wp2
    have hTF : Turn W0.heap.size V (V.putObj D (.deferred none)) := Turn.put _ hD hK rfl
    have hRW := hTF.blk hR (by simp)
    obtain ⟨rfl, rfl⟩ : co = 1 ∧ L = [] := by
      rcases HC.out with ⟨_, hx⟩ | ⟨hx, _⟩
      · exact hx
      · rw [hx] at hN; cases hN
    have hBF := hB.trans (hTF.below hn0 hB.size)
    have c0 := hRW.at 0 rfl
    have c1 := hRW.at 1 rfl
    refine ⟨by simp, .inl ⟨_, _, rfl, run_takeDeferred hK, ?_⟩⟩
    refine ⟨.agg #[.int .i64 1, .slice none 0 0], by simp [results, Try.results62, go_sem, c0, c1], ?_⟩
    exact ⟨none, 0, fun _ => gzero, rfl, .inl rfl, fun i hi => (by simp at hi), hBF, Nat.le_refl _, by simp [maxLen]⟩

theorem implOI : ImplOI := fun h ac bu a n c f co L w hs hnc hcm hk => by
  rcases hk with ⟨k, h1, h2, rfl, rfl⟩ | ⟨h1, h2, h3, h4⟩ | ⟨h1, h2, h3⟩
  · exact implOI_fault h ac bu a n c f _ w hs h1 h2
  · exact implOI_none h ac bu a n c f co L w hs hnc hcm h1 (.inl ⟨h2, h3, h4⟩)
  · exact implOI_none h ac bu a n c f co L w hs hnc hcm h1 (.inr ⟨h2, h3⟩)
end Go.Proofs.Ytnacdhnnpddccaa

namespace Go.Proofs.Ytnacdhnnpddccaa
open Go.RowKit
set_option linter.unusedVariables false

theorem gvo_set {w : World} {lo hi N : Nat} {a : Option Addr} {T : Nat → GM} (h : GVO w lo hi a N T) {p : Addr} (hp : p.block < lo) (u : Value) : GVO (w.setCell p u) lo hi a N T :=
  h.keeps (keeps_setCell (p := p) (Nat.le_refl _) (Nat.lt_succ_self _) u) (.inr (by omega))

theorem gvo_wide {w : World} {lo hi lo' hi' N : Nat} {a : Option Addr} {T : Nat → GM} (h : GVO w lo hi a N T) (h1 : lo' ≤ lo) (h2 : hi ≤ hi') : GVO w lo' hi' a N T := by
  rcases h with h0 | ⟨b, q, e, h⟩
  · exact .inl h0
  · exact .inr ⟨b, q, e, Nat.le_trans h1 h.glo, Nat.lt_of_lt_of_le h.ghi h2, h.lt, h.six, h.free, fun i hi => (h.flds i hi).widen h1 h2, h.off, h.apart⟩

theorem isOI_empty {h : Int} {n : Nat} {f : Nat → Int} {ac bu co : Int} {L : List Ob} (ho : IsOI h n f ac bu co L) (h0 : ¬ co = 0) : IsOI h n f ac bu co [] := by
  rcases ho with ⟨k, h1, h2, h3, _⟩ | ⟨h1, h2, h3, _⟩ | ⟨_, _, h3⟩
  · exact .inl ⟨k, h1, h2, h3, rfl⟩
  · exact .inr (.inl ⟨h1, h2, h3, rfl⟩)
  · exact absurd h3 h0

/-- What the objects of an arena that is right are, and the code of one that is not. -/
def IsSO (h : Int) (n : Nat) (f : Nat → Int) (ac bu k : Int) (L : List Ob) : Prop := (IsSF h n f ac bu k ∧ ¬ k = 0 ∧ L = []) ∨ (k = 0 ∧ IsSF h n f ac bu 0 ∧ IsOI h n f ac bu 0 L)

set_option maxRecDepth 100000 in
set_option maxHeartbeats 1600000 in
theorem shaped_fault (h ac bu : Int) (a : Option Addr) (n c : Nat) (f : Nat → Int) (w : World) (hs : Src w a n f) (hnc : n ≤ c) (hcm : c ≤ maxLen) (k : Int) (ho : IsOI h n f ac bu k []) (hk0 : ¬ k = 0) : Calls Try.prog 121 #[.agg #[.int .i64 h, .slice a n c, .int .i64 ac, .int .i64 bu]] w (RetORG w f k []) := by
  have HS := Lib.hid hs; have HCM := Lib.hid hcm; have HO := Lib.hid ho
  clear hs hcm ho
  go_enter Try.func121, Try.ntmps121
  go_wp2_with fail
  refine (implOI h ac bu a n c f k [] _ ((HS.out.alloc _).alloc _) hnc HCM.out HO.out).mono ?_
  rintro e w1 ⟨a1, c1, T, rfl, hg, hs1, hb, hc1, hc2⟩
  have HB1 := Lib.hid (thru2 (Below.refl _ _) hb)
  have A_1 := Lib.hid (((Blk.new_at (w := w) (cs := #[.int .i64 h, .slice a n c, .int .i64 ac, .int .i64 bu]) (t := 34) (w.heap.size) rfl).alloc _).below hb)
  have R_1 := Lib.hid ((Blk.new_at (w := w.alloc (.cells #[.int .i64 h, .slice a n c, .int .i64 ac, .int .i64 bu] 34)) (cs := #[.int .i64 0, .slice none 0 0]) (t := 92) (w.heap.size + 1) (by simp)).below hb)
  have S_1 := Lib.hid (((HS.out.alloc _).alloc _).below hb)
  have z1 : w.heap.size + 2 ≤ w1.heap.size := by have := hb.size; simp at this; omega
  have HG := Lib.hid (gvo_mono hg (show w.heap.size + 2 ≤ _ by simp))
  have HT := Lib.hid hs1
  have HC1 := Lib.hid (And.intro hc1 hc2)
  clear hb hg hs1 hc1 hc2
  have hd : (k != 0) = true := by simpa using hk0
  have HBL := HB1
  have lR := R_1.out.1; have cR0 := R_1.out.at 0 rfl; have fR0 := R_1.out.free 0 rfl; have cR1 := R_1.out.at 1 rfl; have fR1 := R_1.out.free 1 rfl
  go_wp2
  refine bodyPost_ret (v := .agg #[.int .i64 k, .slice a1 ([] : List Ob).length c1]) (by simp [results, Try.results121, go_sem, lR, cR0, cR1]) rfl ⟨a1, c1, T, rfl, ?_, HT.out, ?_, HC1.out.1, HC1.out.2⟩
  · refine gvo_wide (lo := w.heap.size + 2) (hi := w1.heap.size) ?_ (by omega) (by (try simp); (try omega))
    repeat (first | (with_reducible refine gvo_set ?_ (by (try simp); (try omega)) _) | (with_reducible refine GVO.alloc ?_ _))
    exact HG.out
  · repeat (first | (with_reducible refine Below.setCell ?_ (by (try simp); (try omega)) _) | (with_reducible refine Below.alloc ?_ (by (try simp); (try omega)) _) | (with_reducible refine Below.drew ?_))
    exact HBL.out

set_option maxRecDepth 100000 in
set_option maxHeartbeats 1600000 in
theorem shaped_stray (h ac bu : Int) (a : Option Addr) (n c : Nat) (f : Nat → Int) (w : World) (hs : Src w a n f) (hnc : n ≤ c) (hcm : c ≤ maxLen) (L : List Ob) (ho : IsOI h n f ac bu 0 L) (hp : ¬ Points f L) : Calls Try.prog 121 #[.agg #[.int .i64 h, .slice a n c, .int .i64 ac, .int .i64 bu]] w (RetORG w f 8 []) := by
  have hpz := (isOI_zero ho).2
  have hLs := parse_sizes _ _ L (Nat.le_refl _) hpz
  obtain ⟨⟨⟨q1, q2⟩, ⟨q3, q4⟩, q5, q6⟩, qn, qw⟩ := isFault_ok (isOI_zero ho).1
  have hPUn : (baseI ac h).toNat + bu.toNat ≤ n := by rcases (by omega : ac = 0 ∨ ac = 1) with rfl | rfl <;> simp [baseI] <;> omega
  have HSRT := Lib.hid (fun (T : Nat → GM) (hT : ∀ i, i < L.length → GSame (T i) (obT f L i)) => sorted_T hpz hT)
  have HHDS := Lib.hid (fun (T : Nat → GM) (hT : ∀ i, i < L.length → GSame (T i) (obT f L i)) => heads_T hpz hPUn qw hT)
  have HPTP := Lib.hid (fun (T : Nat → GM) (hT : ∀ i, i < L.length → GSame (T i) (obT f L i)) => ptg_points hpz hT hLs)
  have hL4 : L.length ≤ 1048576 := by have := parse_length _ _ L (Nat.le_refl _) hpz; omega
  have HKF := Lib.hid (isOI_zero ho).1
  have HO := Lib.hid ho
  clear hpz hLs q1 q2 q3 q4 q5 q6 qn qw hPUn ho
  have HS := Lib.hid hs; have HCM := Lib.hid hcm; have HNP := Lib.hid hp
  clear hs hcm hp
  go_enter Try.func121, Try.ntmps121
  go_wp2_with fail
  refine (implOI h ac bu a n c f 0 L _ ((HS.out.alloc _).alloc _) hnc HCM.out HO.out).mono ?_
  rintro e w1 ⟨a1, c1, T, rfl, hg, hs1, hb, hc1, hc2⟩
  have HB1 := Lib.hid (thru2 (Below.refl _ _) hb)
  have A_1 := Lib.hid (((Blk.new_at (w := w) (cs := #[.int .i64 h, .slice a n c, .int .i64 ac, .int .i64 bu]) (t := 34) (w.heap.size) rfl).alloc _).below hb)
  have R_1 := Lib.hid ((Blk.new_at (w := w.alloc (.cells #[.int .i64 h, .slice a n c, .int .i64 ac, .int .i64 bu] 34)) (cs := #[.int .i64 0, .slice none 0 0]) (t := 92) (w.heap.size + 1) (by simp)).below hb)
  have S_1 := Lib.hid (((HS.out.alloc _).alloc _).below hb)
  have z1 : w.heap.size + 2 ≤ w1.heap.size := by have := hb.size; simp at this; omega
  have HG := Lib.hid (gvo_mono hg (show w.heap.size + 2 ≤ _ by simp))
  have HT := Lib.hid hs1
  have HC1 := Lib.hid (And.intro hc1 hc2)
  clear hb hg hs1 hc1 hc2
  go_wp2_with fail
  refine (stray_any a1 L.length c1 T true _ (HG.out.src.alloc _) hL4 (HSRT.out T HT.out) (HHDS.out T HT.out) ⟨fun _ hq => HNP.out ((HPTP.out T HT.out).1 hq), fun _ => rfl⟩).mono ?_
  rintro e w2 ⟨rfl, hb⟩
  have HB2 := Lib.hid (thru1 HB1.out hb)
  have X_2 := Lib.hid ((Blk.new_at (w := w1) (cs := #[.int .i64 0, .slice a1 L.length c1]) (t := 92) (w1.heap.size) rfl).below hb)
  have R_2 := Lib.hid ((R_1.out.alloc _).below hb)
  have A_2 := Lib.hid ((A_1.out.alloc _).below hb)
  have S_2 := Lib.hid ((S_1.out.alloc _).below hb)
  have G_2 := Lib.hid ((HG.out.alloc (.cells #[.int .i64 0, .slice a1 L.length c1] 92)).below hb)
  have z2 : w1.heap.size + 1 ≤ w2.heap.size := by have := hb.size; simp at this; omega
  clear hb HB1 R_1 A_1 S_1 HG
  have HBL := HB2
  have lR := R_2.out.1; have cR0 := R_2.out.at 0 rfl; have fR0 := R_2.out.free 0 rfl; have cR1 := R_2.out.at 1 rfl; have fR1 := R_2.out.free 1 rfl
  go_wp2
  refine bodyPost_ret (v := .agg #[.int .i64 8, .slice none 0 0]) (by simp [results, Try.results121, go_sem, cR0, cR1]) rfl ⟨none, 0, fun _ => gzero, rfl, .inl rfl, fun i hi => (by simp at hi), ?_, Nat.le_refl _, by simp [maxLen]⟩
  repeat (first | (with_reducible refine Below.setCell ?_ (by (try simp); (try omega)) _) | (with_reducible refine Below.alloc ?_ (by (try simp); (try omega)) _) | (with_reducible refine Below.drew ?_))
  exact HBL.out

set_option maxRecDepth 100000 in
set_option maxHeartbeats 1600000 in
theorem shaped_word (h ac bu : Int) (a : Option Addr) (n c : Nat) (f : Nat → Int) (w : World) (hs : Src w a n f) (hnc : n ≤ c) (hcm : c ≤ maxLen) (L : List Ob) (ho : IsOI h n f ac bu 0 L) (hp : Points f L) (hr : ¬ Rest f n (baseI ac h).toNat bu.toNat) : Calls Try.prog 121 #[.agg #[.int .i64 h, .slice a n c, .int .i64 ac, .int .i64 bu]] w (RetORG w f 8 []) := by
  have hpz := (isOI_zero ho).2
  have hLs := parse_sizes _ _ L (Nat.le_refl _) hpz
  obtain ⟨⟨⟨q1, q2⟩, ⟨q3, q4⟩, q5, q6⟩, qn, qw⟩ := isFault_ok (isOI_zero ho).1
  have hPUn : (baseI ac h).toNat + bu.toNat ≤ n := by rcases (by omega : ac = 0 ∨ ac = 1) with rfl | rfl <;> simp [baseI] <;> omega
  have HSRT := Lib.hid (fun (T : Nat → GM) (hT : ∀ i, i < L.length → GSame (T i) (obT f L i)) => sorted_T hpz hT)
  have HHDS := Lib.hid (fun (T : Nat → GM) (hT : ∀ i, i < L.length → GSame (T i) (obT f L i)) => heads_T hpz hPUn qw hT)
  have HPTP := Lib.hid (fun (T : Nat → GM) (hT : ∀ i, i < L.length → GSame (T i) (obT f L i)) => ptg_points hpz hT hLs)
  have hL4 : L.length ≤ 1048576 := by have := parse_length _ _ L (Nat.le_refl _) hpz; omega
  have HKF := Lib.hid (isOI_zero ho).1
  have HO := Lib.hid ho
  clear hpz hLs q1 q2 q3 q4 q5 q6 qn qw hPUn ho
  have HS := Lib.hid hs; have HCM := Lib.hid hcm; have HNP := Lib.hid hp; have HRR := Lib.hid hr
  clear hs hcm hp hr
  go_enter Try.func121, Try.ntmps121
  go_wp2_with fail
  refine (implOI h ac bu a n c f 0 L _ ((HS.out.alloc _).alloc _) hnc HCM.out HO.out).mono ?_
  rintro e w1 ⟨a1, c1, T, rfl, hg, hs1, hb, hc1, hc2⟩
  have HB1 := Lib.hid (thru2 (Below.refl _ _) hb)
  have A_1 := Lib.hid (((Blk.new_at (w := w) (cs := #[.int .i64 h, .slice a n c, .int .i64 ac, .int .i64 bu]) (t := 34) (w.heap.size) rfl).alloc _).below hb)
  have R_1 := Lib.hid ((Blk.new_at (w := w.alloc (.cells #[.int .i64 h, .slice a n c, .int .i64 ac, .int .i64 bu] 34)) (cs := #[.int .i64 0, .slice none 0 0]) (t := 92) (w.heap.size + 1) (by simp)).below hb)
  have S_1 := Lib.hid (((HS.out.alloc _).alloc _).below hb)
  have z1 : w.heap.size + 2 ≤ w1.heap.size := by have := hb.size; simp at this; omega
  have HG := Lib.hid (gvo_mono hg (show w.heap.size + 2 ≤ _ by simp))
  have HT := Lib.hid hs1
  have HC1 := Lib.hid (And.intro hc1 hc2)
  clear hb hg hs1 hc1 hc2
  go_wp2_with fail
  refine (stray_any a1 L.length c1 T false _ (HG.out.src.alloc _) hL4 (HSRT.out T HT.out) (HHDS.out T HT.out) ⟨fun h => (by cases h), fun hq => absurd ((HPTP.out T HT.out).2 HNP.out) hq⟩).mono ?_
  rintro e w2 ⟨rfl, hb⟩
  have HB2 := Lib.hid (thru1 HB1.out hb)
  have X_2 := Lib.hid ((Blk.new_at (w := w1) (cs := #[.int .i64 0, .slice a1 L.length c1]) (t := 92) (w1.heap.size) rfl).below hb)
  have R_2 := Lib.hid ((R_1.out.alloc _).below hb)
  have A_2 := Lib.hid ((A_1.out.alloc _).below hb)
  have S_2 := Lib.hid ((S_1.out.alloc _).below hb)
  have G_2 := Lib.hid ((HG.out.alloc (.cells #[.int .i64 0, .slice a1 L.length c1] 92)).below hb)
  have z2 : w1.heap.size + 1 ≤ w2.heap.size := by have := hb.size; simp at this; omega
  clear hb HB1 R_1 A_1 S_1 HG
  have lA := A_2.out.1; have cA0 := A_2.out.at 0 rfl; have fA0 := A_2.out.free 0 rfl; have cA1 := A_2.out.at 1 rfl; have fA1 := A_2.out.free 1 rfl; have cA2 := A_2.out.at 2 rfl; have fA2 := A_2.out.free 2 rfl; have cA3 := A_2.out.at 3 rfl; have fA3 := A_2.out.free 3 rfl
  go_wp2_with fail
  clear lA cA0 fA0 cA1 fA1 cA2 fA2 cA3 fA3
  refine (strayw_any h ac bu a n c f true _ S_2.out HKF.out ⟨fun _ => HRR.out, fun _ => rfl⟩).mono ?_
  rintro e w3 ⟨rfl, hb⟩
  have HBL := Lib.hid (HB2.out.trans (hb.mono HB2.out.size))
  have X_3 := Lib.hid (X_2.out.below hb)
  have R_3 := Lib.hid (R_2.out.below hb)
  have G_3 := Lib.hid (G_2.out.below hb)
  have z3 := hb.size
  clear hb HB2 X_2 R_2 A_2 S_2 G_2
  have lR := R_3.out.1; have cR0 := R_3.out.at 0 rfl; have fR0 := R_3.out.free 0 rfl; have cR1 := R_3.out.at 1 rfl; have fR1 := R_3.out.free 1 rfl
  go_wp2
  refine bodyPost_ret (v := .agg #[.int .i64 8, .slice none 0 0]) (by simp [results, Try.results121, go_sem, cR0, cR1]) rfl ⟨none, 0, fun _ => gzero, rfl, .inl rfl, fun i hi => (by simp at hi), ?_, Nat.le_refl _, by simp [maxLen]⟩
  repeat (first | (with_reducible refine Below.setCell ?_ (by (try simp); (try omega)) _) | (with_reducible refine Below.alloc ?_ (by (try simp); (try omega)) _) | (with_reducible refine Below.drew ?_))
  exact HBL.out

set_option maxRecDepth 100000 in
set_option maxHeartbeats 1600000 in
theorem shaped_good (h ac bu : Int) (a : Option Addr) (n c : Nat) (f : Nat → Int) (w : World) (hs : Src w a n f) (hnc : n ≤ c) (hcm : c ≤ maxLen) (L : List Ob) (ho : IsOI h n f ac bu 0 L) (hp : Points f L) (hr : Rest f n (baseI ac h).toNat bu.toNat) : Calls Try.prog 121 #[.agg #[.int .i64 h, .slice a n c, .int .i64 ac, .int .i64 bu]] w (RetORG w f 0 L) := by
  have hpz := (isOI_zero ho).2
  have hLs := parse_sizes _ _ L (Nat.le_refl _) hpz
  obtain ⟨⟨⟨q1, q2⟩, ⟨q3, q4⟩, q5, q6⟩, qn, qw⟩ := isFault_ok (isOI_zero ho).1
  have hPUn : (baseI ac h).toNat + bu.toNat ≤ n := by rcases (by omega : ac = 0 ∨ ac = 1) with rfl | rfl <;> simp [baseI] <;> omega
  have HSRT := Lib.hid (fun (T : Nat → GM) (hT : ∀ i, i < L.length → GSame (T i) (obT f L i)) => sorted_T hpz hT)
  have HHDS := Lib.hid (fun (T : Nat → GM) (hT : ∀ i, i < L.length → GSame (T i) (obT f L i)) => heads_T hpz hPUn qw hT)
  have HPTP := Lib.hid (fun (T : Nat → GM) (hT : ∀ i, i < L.length → GSame (T i) (obT f L i)) => ptg_points hpz hT hLs)
  have hL4 : L.length ≤ 1048576 := by have := parse_length _ _ L (Nat.le_refl _) hpz; omega
  have HKF := Lib.hid (isOI_zero ho).1
  have HO := Lib.hid ho
  clear hpz hLs q1 q2 q3 q4 q5 q6 qn qw hPUn ho
  have HS := Lib.hid hs; have HCM := Lib.hid hcm; have HNP := Lib.hid hp; have HRR := Lib.hid hr
  clear hs hcm hp hr
  go_enter Try.func121, Try.ntmps121
  go_wp2_with fail
  refine (implOI h ac bu a n c f 0 L _ ((HS.out.alloc _).alloc _) hnc HCM.out HO.out).mono ?_
  rintro e w1 ⟨a1, c1, T, rfl, hg, hs1, hb, hc1, hc2⟩
  have HB1 := Lib.hid (thru2 (Below.refl _ _) hb)
  have A_1 := Lib.hid (((Blk.new_at (w := w) (cs := #[.int .i64 h, .slice a n c, .int .i64 ac, .int .i64 bu]) (t := 34) (w.heap.size) rfl).alloc _).below hb)
  have R_1 := Lib.hid ((Blk.new_at (w := w.alloc (.cells #[.int .i64 h, .slice a n c, .int .i64 ac, .int .i64 bu] 34)) (cs := #[.int .i64 0, .slice none 0 0]) (t := 92) (w.heap.size + 1) (by simp)).below hb)
  have S_1 := Lib.hid (((HS.out.alloc _).alloc _).below hb)
  have z1 : w.heap.size + 2 ≤ w1.heap.size := by have := hb.size; simp at this; omega
  have HG := Lib.hid (gvo_mono hg (show w.heap.size + 2 ≤ _ by simp))
  have HT := Lib.hid hs1
  have HC1 := Lib.hid (And.intro hc1 hc2)
  clear hb hg hs1 hc1 hc2
  go_wp2_with fail
  refine (stray_any a1 L.length c1 T false _ (HG.out.src.alloc _) hL4 (HSRT.out T HT.out) (HHDS.out T HT.out) ⟨fun h => (by cases h), fun hq => absurd ((HPTP.out T HT.out).2 HNP.out) hq⟩).mono ?_
  rintro e w2 ⟨rfl, hb⟩
  have HB2 := Lib.hid (thru1 HB1.out hb)
  have X_2 := Lib.hid ((Blk.new_at (w := w1) (cs := #[.int .i64 0, .slice a1 L.length c1]) (t := 92) (w1.heap.size) rfl).below hb)
  have R_2 := Lib.hid ((R_1.out.alloc _).below hb)
  have A_2 := Lib.hid ((A_1.out.alloc _).below hb)
  have S_2 := Lib.hid ((S_1.out.alloc _).below hb)
  have G_2 := Lib.hid ((HG.out.alloc (.cells #[.int .i64 0, .slice a1 L.length c1] 92)).below hb)
  have z2 : w1.heap.size + 1 ≤ w2.heap.size := by have := hb.size; simp at this; omega
  clear hb HB1 R_1 A_1 S_1 HG
  have lA := A_2.out.1; have cA0 := A_2.out.at 0 rfl; have fA0 := A_2.out.free 0 rfl; have cA1 := A_2.out.at 1 rfl; have fA1 := A_2.out.free 1 rfl; have cA2 := A_2.out.at 2 rfl; have fA2 := A_2.out.free 2 rfl; have cA3 := A_2.out.at 3 rfl; have fA3 := A_2.out.free 3 rfl
  go_wp2_with fail
  clear lA cA0 fA0 cA1 fA1 cA2 fA2 cA3 fA3
  refine (strayw_any h ac bu a n c f false _ S_2.out HKF.out ⟨fun h => (by cases h), fun hq => absurd HRR.out hq⟩).mono ?_
  rintro e w3 ⟨rfl, hb⟩
  have HBL := Lib.hid (HB2.out.trans (hb.mono HB2.out.size))
  have X_3 := Lib.hid (X_2.out.below hb)
  have R_3 := Lib.hid (R_2.out.below hb)
  have G_3 := Lib.hid (G_2.out.below hb)
  have z3 := hb.size
  clear hb HB2 X_2 R_2 A_2 S_2 G_2
  have lR := R_3.out.1; have cR0 := R_3.out.at 0 rfl; have fR0 := R_3.out.free 0 rfl; have cR1 := R_3.out.at 1 rfl; have fR1 := R_3.out.free 1 rfl
  have lX := X_3.out.1; have cX0 := X_3.out.at 0 rfl; have fX0 := X_3.out.free 0 rfl; have cX1 := X_3.out.at 1 rfl; have fX1 := X_3.out.free 1 rfl
  go_wp2
  refine bodyPost_ret (v := .agg #[.int .i64 0, .slice a1 (L).length c1]) (by simp [results, Try.results121, go_sem, cR0, cR1]) rfl ⟨a1, c1, T, rfl, ?_, HT.out, ?_, HC1.out.1, HC1.out.2⟩
  · refine gvo_wide (lo := w.heap.size + 2) (hi := w1.heap.size) ?_ (by omega) (by (try simp); (try omega))
    repeat (first | (with_reducible refine gvo_set ?_ (by (try simp); (try omega)) _) | (with_reducible refine GVO.alloc ?_ _))
    exact G_3.out
  · repeat (first | (with_reducible refine Below.setCell ?_ (by (try simp); (try omega)) _) | (with_reducible refine Below.alloc ?_ (by (try simp); (try omega)) _) | (with_reducible refine Below.drew ?_))
    exact HBL.out

theorem shaped_any (h ac bu : Int) (a : Option Addr) (n c : Nat) (f : Nat → Int) (w : World) (hs : Src w a n f) (hnc : n ≤ c) (hcm : c ≤ maxLen) (k : Int) (L : List Ob) (hk : IsSO h n f ac bu k L) : Calls Try.prog 121 #[.agg #[.int .i64 h, .slice a n c, .int .i64 ac, .int .i64 bu]] w (RetORG w f k L) := by
  rcases hk with ⟨hk, h0, rfl⟩ | ⟨rfl, hk, ho⟩
  · rcases hk with ⟨L0, ho, _⟩ | ⟨L0, ho, hsh, rfl⟩ | ⟨_, _, _, hz⟩
    · exact shaped_fault h ac bu a n c f w hs hnc hcm k (isOI_empty ho h0) h0
    · rcases hsh with ⟨_, _, hx⟩ | ⟨hx, _⟩
      · cases hx
      · by_cases hp : Points f L0
        · exact shaped_word h ac bu a n c f w hs hnc hcm L0 ho hp (fun hr => hx ⟨hp, hr⟩)
        · exact shaped_stray h ac bu a n c f w hs hnc hcm L0 ho hp
    · exact absurd hz h0
  · obtain ⟨hp, hr⟩ := isSF_shape hk ho
    exact shaped_good h ac bu a n c f w hs hnc hcm L ho hp hr
end Go.Proofs.Ytnacdhnnpddccaa

namespace Go.Proofs.Ytnacdhnnpddccaa
open Go.RowKit
set_option linter.unusedVariables false

theorem blk_under {w w' : World} {B b : Nat} {cs : List Value} (h : Blk w b cs) (hb : Below B w w') (hB : b < B) : Blk w' b cs :=
  ⟨Nat.lt_of_lt_of_le h.1 hb.size, fun i u hu => ⟨(hb.cell (p := ⟨b, i, none⟩) hB).trans (h.2 i u hu).1, (hb.frozen (p := ⟨b, i, none⟩) hB).trans (h.2 i u hu).2⟩⟩
end Go.Proofs.Ytnacdhnnpddccaa

namespace Go.Proofs.Ytnacdhnnpddccaa
open Go.RowKit
set_option linter.unusedVariables false

theorem news1 (w : World) (x : Int) : ∀ (j : Nat) (u : Value), ([.int .i64 x] : List Value)[j]? = some u → (w.alloc (.cells #[.int .i64 x] 2)).cell? ((⟨w.heap.size, 0, none⟩ : Addr).add j) = some u := fun j u hu => by
  match j, hu with
  | 0, hu => exact (Blk.new w #[.int .i64 x] 2).at 0 hu
  | j + 1, hu => simp at hu

set_option maxRecDepth 100000 in
set_option maxHeartbeats 800000 in
theorem l1Has_any (a : Option Addr) (l : List Int) (c : Nat) (v : Int) (w : World) (hs : Src w a l.length (lf l)) (hl : l.length ≤ 1048576) :
    Calls Try.prog 103 #[.slice a l.length c, .int .i64 v] w fun e w' => e = .returned (.bool (decide (v ∈ l))) ∧ w = w' := by
  have HS := Lib.hid hs
  clear hs
  go_enter Try.func103, Try.ntmps103
  go_wp2
  go_loop [5] (fun p => ∃ i : Nat, i ≤ l.length ∧ p = .int .i64 (i : Int) ∧ Hid (∀ j, j < i → ¬ lf l j = v)) (fun p => l.length - (intOf p).toNat)
  case atStart => exact ⟨0, Nat.zero_le _, rfl, Lib.hid (fun j hj => by omega)⟩
  case round =>
    obtain ⟨i, hi, rfl, HD⟩ := hrel
    by_cases hlt : i < l.length
    · have hlt' : (i : Int) < (l.length : Int) := by omega
      have hi0 : (0 : Int) ≤ (i : Int) := by omega
      obtain ⟨b, off, rfl, hb, hc⟩ := src_some HS.out (by omega)
      have c0 := hc i hlt
      have hmem := lf_mem hlt
      obtain ⟨y, hy⟩ : ∃ y, lf l i = y := ⟨_, rfl⟩
      have HY := Lib.hid hy
      rw [hy] at c0 hmem
      clear hc hy
      by_cases he : y = v
      · subst he
        have HM : Hid (decide (y ∈ l) = true) := Lib.hid (decide_eq_true hmem)
        clear hmem
        go_wp2
        go_ret
        exact ⟨by rw [HM.out]; rfl, rfl⟩
      · have hb' : (y == v) = false := by simpa using he
        clear hmem
        go_wp2
        go_round
        case rel => exact ⟨i + 1, by omega, by go_num, Lib.hid (fun j hj => by
          rcases Nat.lt_succ_iff_lt_or_eq.mp hj with h1 | h1
          · exact HD.out j h1
          · subst h1; rw [HY.out]; exact he)⟩
        case measure => simp [intOf]; omega
    · have hlt' : ¬ (i : Int) < (l.length : Int) := by omega
      have HM : Hid (decide (v ∈ l) = false) := Lib.hid (decide_eq_false (fun hm => by
        obtain ⟨j, hj, he⟩ := List.getElem_of_mem hm
        exact HD.out j (by omega) (by rw [lf_at hj]; exact he)))
      go_wp2
      go_ret
      exact ⟨by rw [HM.out]; rfl, rfl⟩
end Go.Proofs.Ytnacdhnnpddccaa

namespace Go.Proofs.Ytnacdhnnpddccaa
open Go.RowKit
set_option linter.unusedVariables false

theorem row_src {w : World} {B e : Nat} {v : Value} {l : List Int} (h : w.ownsRow B e 1 v l.length (nums l.length (lf l))) : ∃ a c, v = .slice a l.length c ∧ Src w a l.length (lf l) := by
  obtain ⟨a, c, rfl, _⟩ := row_shape h
  exact ⟨a, c, rfl, (own_of_row h).src⟩

/-- The objects of a list in memory, as the model walks need them. -/
structure OMS (w : World) (base lo : Nat) (f : Nat → Int) (v : Value) (M : List OM) : Prop where
  row : w.ownsRow base 87 6 v M.length (rowCells M)
  fl : Flds w lo f v M
  len : M.length ≤ 400
  ok : ∀ t ∈ M, (0 ≤ t.x.s ∧ t.x.s ≤ 12) ∧ (0 ≤ t.x.m ∧ t.x.m ≤ 4095) ∧ (0 ≤ t.x.at_ ∧ t.x.at_ ≤ 1000000) ∧ ∀ k, k < t.x.s.toNat → -1000000000 ≤ f (t.x.at_.toNat + 2 + k) ∧ f (t.x.at_.toNat + 2 + k) ≤ 1000000000

theorem OMS.below {w w' : World} {base lo : Nat} {f : Nat → Int} {v : Value} {M : List OM} (h : OMS w base lo f v M) (hb : Below w.heap.size w w') : OMS w' base lo f v M := ⟨ownsRow_below h.row hb, h.fl.below hb, h.len, h.ok⟩

/-- The object of a place, in memory. -/
theorem OMS.get {w : World} {base lo : Nat} {f : Nat → Int} {v : Value} {M : List OM} (h : OMS w base lo f v M) {i : Nat} {x : Ob} (hx : (M.map OM.x)[i]? = some x) :
    ∃ (g1 c1 g c : Nat), v = .slice (some ⟨g1, 0, none⟩) M.length c1 ∧ i < M.length ∧ g1 < w.heap.size ∧ w.cell? ⟨g1, i * 6, none⟩ = some (.int .i64 x.at_) ∧ w.cell? ⟨g1, i * 6 + 1, none⟩ = some (.int .i64 x.s) ∧ w.cell? ⟨g1, i * 6 + 2, none⟩ = some (.int .i64 x.m) ∧ w.cell? ⟨g1, i * 6 + 3, none⟩ = some (.int .i64 x.o) ∧ w.cell? ⟨g1, i * 6 + 4, none⟩ = some (.int .i64 x.h) ∧ w.cell? ⟨g1, i * 6 + 5, none⟩ = some (.slice (some ⟨g, 0, none⟩) x.s.toNat c) ∧ g < w.heap.size ∧ (∀ k, k < x.s.toNat → w.cell? ⟨g, k, none⟩ = some (.int .i64 (f (x.at_.toNat + 2 + k)))) ∧
      (0 ≤ x.s ∧ x.s ≤ 12) ∧ (0 ≤ x.m ∧ x.m ≤ 4095) ∧ (0 ≤ x.at_ ∧ x.at_ ≤ 1000000) ∧ ∀ k, k < x.s.toNat → -1000000000 ≤ f (x.at_.toNat + 2 + k) ∧ f (x.at_.toNat + 2 + k) ≤ 1000000000 := by
  have hlt : i < M.length := by have := (List.getElem?_eq_some_iff.mp hx).1; simpa using this
  obtain ⟨g1, c1, rfl, _, l1, o1⟩ := row_form h.row (by omega)
  have ht := (o1 i M[i] (List.getElem?_eq_getElem hlt)).six
  have hx' : M[i].x = x := by simpa [hlt] using hx
  have hfs := h.fl.1 M[i] (List.getElem_mem hlt)
  have hk := h.ok M[i] (List.getElem_mem hlt)
  generalize M[i] = t at *
  obtain ⟨x', g, c⟩ := t
  obtain rfl : x' = x := hx'
  obtain ⟨t0, t1, t2, t3, t4, t5⟩ := ht
  exact ⟨g1, c1, g, c, rfl, hlt, l1, t0, t1, t2, t3, t4, t5, hfs.2.1, fun k hk => (hfs.2.2.2 k hk).1, hk.1, hk.2.1, hk.2.2.1, hk.2.2.2⟩

theorem OMS.find {w : World} {base lo : Nat} {f : Nat → Int} {v : Value} {M : List OM} (h : OMS w base lo f v M) (p : Int) : Calls Try.prog 82 #[v, .int .i64 p] w (RetFind w (M.map OM.x) p) := l3Find_any v M base p w h.row h.len

theorem OMS.size {w : World} {base lo : Nat} {f : Nat → Int} {v : Value} {M : List OM} (h : OMS w base lo f v M) : ∀ x ∈ M.map OM.x, 0 ≤ x.s := fun x hx => by
  obtain ⟨t, ht, rfl⟩ := List.mem_map.mp hx
  exact (h.ok t ht).1.1

theorem OMS.place {w : World} {base lo : Nat} {f : Nat → Int} {v : Value} {M : List OM} (h : OMS w base lo f v M) : ∀ p ∈ placesO (M.map OM.x), 0 ≤ p ∧ p ≤ 1000000 := fun p hp => by
  obtain ⟨y, hy, rfl⟩ := List.mem_map.mp hp
  obtain ⟨t, ht, rfl⟩ := List.mem_map.mp hy
  exact (h.ok t ht).2.2.1

theorem roots_snoc {l : List Int} {i : Nat} (h : i < l.length) (O : List Int) : addNew O (l.take (i + 1)) = add1 (addNew O (l.take i)) (lf l i) := by
  rw [List.take_succ_eq_append_getElem h, addNew_append, lf_at h]; rfl

theorem addNew_len (xs : List Int) : ∀ O : List Int, (addNew O xs).length ≤ O.length + xs.length := by
  induction xs with
  | nil => intro O; exact Nat.le_refl _
  | cons x xs ih => intro O; have := ih (add1 O x); rw [addNew_cons]; have h2 : (add1 O x).length ≤ O.length + 1 := (by unfold add1; split <;> simp); simp only [List.length_cons]; omega

set_option maxRecDepth 100000 in
set_option maxHeartbeats 3200000 in
theorem l4Reach_any (v : Value) (M : List OM) (base lo : Nat) (ra : Option Addr) (roots : List Int) (rc : Nat) (f : Nat → Int) (w : World) (hm : OMS w base lo f v M) (hp : Points f (M.map OM.x)) (hrs : Src w ra roots.length (lf roots)) (hrn : roots.length ≤ 1048576) (hr : ∀ p ∈ roots, p ∈ placesO (M.map OM.x)) :
    Calls Try.prog 83 #[v, .slice ra roots.length rc] w (RetInts w (reachO f (M.map OM.x) roots).length (lf (reachO f (M.map OM.x) roots))) := by
  have HM := Lib.hid hm; have HP := Lib.hid hp; have HRS := Lib.hid hrs; have HR := Lib.hid hr
  have HSZ := Lib.hid hm.size
  have HPL := Lib.hid hm.place
  have hml := hm.len
  obtain ⟨a1, k1, rfl⟩ := row_nil hm.row
  obtain ⟨i0, hif, hz0, hz1, hz2⟩ := info_parts Try.info2
  clear hm hp hrs hr
  go_enter Try.func83, Try.ntmps83
  go_wp2_with fail
  have HBa : Hid (Below w.heap.size w (w.alloc (.cells #[] 2))) := (Below.refl _ _).alloc (Nat.le_refl _) _
  have OWa : Hid ((w.alloc (.cells #[] 2)).ownsRow w.heap.size 2 1 (.slice (some ⟨w.heap.size, 0, none⟩) 0 0) ([] : List Int).length (nums ([] : List Int).length (lf []))) := World.ownsRow_lit w #[] 0 (Nat.le_refl _) (by simp [maxLen]) rfl
  have za : w.heap.size + 1 ≤ (w.alloc (.cells #[] 2)).heap.size := by simp
  generalize w.alloc (.cells #[] 2) = wa at *
  go_loopw [5, 6] (fun u q wr => ∃ (i : Nat) (O : List Int), i ≤ roots.length ∧ q = .int .i64 (i : Int) ∧ Hid (Below w.heap.size w wr) ∧ Hid (wr.ownsRow w.heap.size 2 1 u O.length (nums O.length (lf O))) ∧ Hid (O = addNew [] (roots.take i)) ∧ O.length ≤ i) (fun _ q _ => roots.length - (intOf q).toNat)
  case atStart => exact ⟨0, [], by omega, rfl, HBa, OWa, Lib.hid rfl, by simp⟩
  case round =>
    obtain ⟨i, O, hi, rfl, HB_r, OW_r, HO, hol⟩ := hrel
    clear HBa OWa za
    by_cases hlt : i < roots.length
    · have hlt' : (i : Int) < (roots.length : Int) := by omega
      have hi0 : (0 : Int) ≤ (i : Int) := by omega
      have hzr := HB_r.out.size
      have RS := Lib.hid (HRS.out.below HB_r.out)
      obtain ⟨rb, ro, rfl, hrb, hrc⟩ := src_some RS.out (by omega)
      have c0 := hrc i hlt
      obtain ⟨a5, c5, rfl, hs5⟩ := row_src OW_r.out
      have HS5 := Lib.hid hs5
      have HSN := Lib.hid (roots_snoc hlt [])
      obtain ⟨y, hy⟩ : ∃ y, lf roots i = y := ⟨_, rfl⟩
      rw [hy] at c0
      have HY := Lib.hid hy
      clear hrc hs5 hy
      go_wp2_with fail
      refine (l1Has_any a5 O c5 y _ HS5.out (by omega)).mono ?_
      rintro e w' ⟨rfl, rfl⟩
      by_cases hin : y ∈ O
      · have hd : decide (y ∈ O) = true := decide_eq_true hin
        rw [hd]
        have HO' : Hid (O = addNew [] (roots.take (i + 1))) := Lib.hid (by rw [HSN.out, HY.out, ← HO.out, add1, if_pos hin])
        clear hin hd
        go_wp2
        go_roundw
        case rel => first | exact ⟨i + 1, O, by omega, by go_num, HB_r, OW_r, HO', by omega⟩ | ((repeat apply Exists.intro); exact ⟨⟨i + 1, O, by omega, by go_num, HB_r, OW_r, HO', by omega⟩, rfl⟩)
        case measure => simp [intOf]; omega
      · have hd : decide (y ∈ O) = false := decide_eq_false hin
        rw [hd]
        have HO' : Hid (O ++ [y] = addNew [] (roots.take (i + 1))) := Lib.hid (by rw [HSN.out, HY.out, ← HO.out, add1, if_neg hin])
        have HGE : Hid (∀ k, (Value.slice a5 O.length c5).ownBlock = some k → w.heap.size ≤ k) := Lib.hid (fun k hk => ownBlock_ge OW_r.out hk)
        clear hin hd
        go_wp2_with (at_builtin; go_loud (refine wpList_append_lies _ rfl _ _ 22 rfl w.heap.size 2 i0 (.int .i64 0) 1 8 Try.underlying22 hif hz0 hz1 hz2 rfl (by decide) (.slice a5 O.length c5) O.length (nums O.length (lf O)) rfl (ownsRow_below OW_r.out ((Below.refl _ _).alloc (Nat.le_refl _) _)) ⟨wr.heap.size, 0, none⟩ 1 1 [.int .i64 y] rfl rfl (news1 wr y) (by intro u hu; simp only [List.mem_cons, List.mem_nil_iff, or_false] at hu; subst hu; rfl) (by omega) (by unfold maxLen; omega) (by omega) (by simp; omega) (wr.heap.size + 1) (by simp) ?_); intro g9 cap9 w9 hown9 hgrow9 hat9 hlt9)
        have HB9 : Hid (Below w.heap.size w w9) := (HB_r.out.alloc hzr _).grown hgrow9 (by simp; omega) (fun k hk => HGE.out k hk)
        have OW9 : Hid (w9.ownsRow w.heap.size 2 1 (.slice (some ⟨g9, 0, none⟩) (O.length + 1) cap9) (O ++ [y]).length (nums (O ++ [y]).length (lf (O ++ [y])))) := Lib.hid (by
          rw [show (O ++ [y]).length = O.length + 1 by simp, ← nums_snoc]; exact hown9)
        clear hown9 hgrow9 hat9
        go_wp2
        go_roundw
        case rel => first | exact ⟨i + 1, O ++ [y], by omega, by go_num, HB9, OW9, HO', by simp; omega⟩ | ((repeat apply Exists.intro); exact ⟨⟨i + 1, O ++ [y], by omega, by go_num, HB9, OW9, HO', by simp; omega⟩, rfl⟩)
        case measure => simp [intOf]; omega
    · have hlt' : ¬ (i : Int) < (roots.length : Int) := by omega
      obtain rfl : i = roots.length := by omega
      have HSC : Hid (SC f (M.map OM.x) roots 0 O) := Lib.hid (by have e := HO.out; rw [List.take_length] at e; rw [e]; exact sc_start HR.out)
      clear HO
      go_wp2
      go_loopw [5, 7] (fun u q wq => ∃ (i : Nat) (O : List Int), q = .int .i64 (i : Int) ∧ i ≤ M.length ∧ Hid (Below w.heap.size w wq) ∧ Hid (wq.ownsRow w.heap.size 2 1 u O.length (nums O.length (lf O))) ∧ Hid (SC f (M.map OM.x) roots i O)) (fun _ q _ => M.length - (intOf q).toNat)
      case atStart => exact ⟨0, O, rfl, by omega, HB_r, OW_r, HSC⟩
      case round =>
        clear HB_r OW_r HSC
        obtain ⟨i, O, rfl, him, HB_r, OW_r, HSC⟩ := hrel
        have hom : O.length ≤ M.length := by have := HSC.out.len; simpa using this
        have hzr := HB_r.out.size
        obtain ⟨a5, c5, rfl, hs5⟩ := row_src OW_r.out
        by_cases hio : i < O.length
        · have hlt' : (i : Int) < (O.length : Int) := by omega
          have hi0 : (0 : Int) ≤ (i : Int) := by omega
          obtain ⟨ob, oo, rfl, hob, hoc⟩ := src_some hs5 (by omega)
          have c0 := hoc i hio
          obtain ⟨x, hx, hsi⟩ := sc_in HSC.out hio
          have HSI := Lib.hid hsi
          obtain ⟨y, hy⟩ : ∃ y, lf O i = y := ⟨_, rfl⟩
          rw [hy] at c0 hx
          have HX := Lib.hid hx
          clear hs5 hoc hy hsi hx
          go_wp2_with fail
          refine ((HM.out.below HB_r.out).find y).mono ?_
          rintro e w' ⟨rfl, hf⟩
          rcases hf with ⟨hf, rfl⟩ | ⟨j, x', hf, hx, rfl⟩
          · rw [HX.out] at hf; cases hf
          rw [HX.out] at hf
          obtain rfl := Option.some.inj hf
          obtain ⟨g1, c1, g, c, e1, hjm, l1, x0, x1, x2, x3, x4, x5, lg, hfc, ⟨s0, s1⟩, hmm, hat, hwd⟩ := HM.out.get hx
          simp only [Value.slice.injEq] at e1
          obtain ⟨rfl, -, rfl⟩ := e1
          have hj' : (j : Int) < (M.length : Int) := by omega
          have hj0 : (0 : Int) ≤ (j : Int) := by omega
          have HFC := Lib.hid hfc; have HWD := Lib.hid hwd; have HAT := Lib.hid hat
          clear hf hx hfc hwd hat
          go_wp2
          go_loopw [5, 9] (fun u q wq => ∃ (k : Nat) (O : List Int), (k : Int) ≤ x.s ∧ q = .int .i64 (k : Int) ∧ Hid (Below w.heap.size w wq) ∧ Hid (wq.ownsRow w.heap.size 2 1 u O.length (nums O.length (lf O))) ∧ Hid (SI f (M.map OM.x) roots i k x O)) (fun _ q _ => x.s.toNat - (intOf q).toNat)
          case atStart => exact ⟨0, O, by omega, rfl, HB_r, OW_r, HSI⟩
          case round =>
            clear OW_r HSI HSC HX c0 hom hio hlt' HB_r hzr
            obtain ⟨k, O, hks, rfl, HB_q, OW_q, HSI⟩ := hrel
            have hwz := HB_q.out.size
            have x1q := (HB_q.out.cell (p := ⟨g1, j * 6 + 1, none⟩) l1).trans x1
            have x2q := (HB_q.out.cell (p := ⟨g1, j * 6 + 2, none⟩) l1).trans x2
            have x5q := (HB_q.out.cell (p := ⟨g1, j * 6 + 5, none⟩) l1).trans x5
            have hom : O.length ≤ M.length := by have := HSI.out.len; simpa using this
            obtain ⟨a5, c5, rfl, hs5⟩ := row_src OW_q.out
            have HS5 := Lib.hid hs5
            have HSD := Lib.hid (fun q => hs5.below (drewN_below wr q))
            have l1q : g1 < wr.heap.size := by omega
            clear hs5
            by_cases hlt : (k : Int) < x.s
            · have hkt : k < x.s.toNat := by omega
              have hkn : (k : Int) < (x.s.toNat : Int) := by omega
              have hk0 : (0 : Int) ≤ (k : Int) := by omega
              have fk := (HB_q.out.cell (p := ⟨g, k, none⟩) lg).trans (HFC.out k hkt)
              obtain ⟨w1', w2'⟩ := HWD.out k hkt
              have HIN := Lib.hid (si_in HP.out HSZ.out HSI.out hkt)
              have HYES := Lib.hid (si_yes HP.out HSZ.out HSI.out hkt)
              have HNO := Lib.hid (si_no HSI.out hkt)
              obtain ⟨y, hy⟩ : ∃ y, f (x.at_.toNat + 2 + k) = y := ⟨_, rfl⟩
              rw [hy] at fk w1' w2' HIN HYES HNO
              clear hy
              have HQ9 := Lib.hid (fun q => below_drewN HB_q.out q)
              have OWD := Lib.hid (fun q => ownsRow_below OW_q.out (drewN_below wr q))
              have hdd : x.m / P2 k % 2 = 1 ∨ x.m / P2 k % 2 = 0 := by omega
              rcases hdd with hd | hd
              · by_cases h0 : y = 0
                · have HSI' := Lib.hid (HNO.out (fun h => h.2 h0))
                  have hge : ¬ (0 : Int) ≤ y - 1 := by omega
                  clear HIN HYES HNO
                  go_wp2_with fail
                  refine (l2Pointer_at g1 (j * 6 + 1) k x.m true _ x2q hmm (by omega) (by rw [hd]; rfl)).mono ?_
                  rintro e w5 ⟨rfl, q5, rfl⟩
                  have HB6 := Lib.hid (HQ9.out q5)
                  have OW6 := Lib.hid (OWD.out q5)
                  have SR6 := Lib.hid (HSD.out q5)
                  clear HQ9 OWD HSD
                  generalize wr.drewN q5 = w6 at *
                  go_wp2
                  go_roundw
                  case rel => first | exact ⟨k + 1, O, by omega, by go_num, HB6, OW6, HSI'⟩ | ((repeat apply Exists.intro); exact ⟨⟨k + 1, O, by omega, by go_num, HB6, OW6, HSI'⟩, rfl⟩)
                  case measure => simp [intOf]; omega
                · have hpl := HPL.out _ (HIN.out hd h0)
                  have hge : (0 : Int) ≤ y - 1 := by omega
                  have HSI' := Lib.hid (HYES.out hd h0)
                  clear HIN HYES HNO
                  by_cases hmem : y - 1 ∈ O
                  · have hdc : decide (y - 1 ∈ O) = true := decide_eq_true hmem
                    rw [add1, if_pos hmem] at HSI'
                    clear hmem
                    go_wp2_with fail
                    refine (l2Pointer_at g1 (j * 6 + 1) k x.m true _ x2q hmm (by omega) (by rw [hd]; rfl)).mono ?_
                    rintro e w5 ⟨rfl, q5, rfl⟩
                    have HB6 := Lib.hid (HQ9.out q5)
                    have OW6 := Lib.hid (OWD.out q5)
                    have SR6 := Lib.hid (HSD.out q5)
                    clear HQ9 OWD HSD
                    generalize wr.drewN q5 = w6 at *
                    go_wp2_with fail
                    refine (l1Has_any a5 O c5 (y - 1) _ SR6.out (by omega)).mono ?_
                    rintro e w' ⟨rfl, rfl⟩
                    rw [hdc]
                    go_wp2
                    go_roundw
                    case rel => first | exact ⟨k + 1, O, by omega, by go_num, HB6, OW6, HSI'⟩ | ((repeat apply Exists.intro); exact ⟨⟨k + 1, O, by omega, by go_num, HB6, OW6, HSI'⟩, rfl⟩)
                    case measure => simp [intOf]; omega
                  · have hdc : decide (y - 1 ∈ O) = false := decide_eq_false hmem
                    rw [add1, if_neg hmem] at HSI'
                    clear hmem
                    go_wp2_with fail
                    refine (l2Pointer_at g1 (j * 6 + 1) k x.m true _ x2q hmm (by omega) (by rw [hd]; rfl)).mono ?_
                    rintro e w5 ⟨rfl, q5, rfl⟩
                    have HB6 := Lib.hid (HQ9.out q5)
                    have OW6 := Lib.hid (OWD.out q5)
                    have SR6 := Lib.hid (HSD.out q5)
                    clear HQ9 OWD HSD
                    generalize wr.drewN q5 = w6 at *
                    go_wp2_with fail
                    refine (l1Has_any a5 O c5 (y - 1) _ SR6.out (by omega)).mono ?_
                    rintro e w' ⟨rfl, rfl⟩
                    rw [hdc]
                    have z6 := HB6.out.size
                    have HGE : Hid (∀ k, (Value.slice a5 O.length c5).ownBlock = some k → w.heap.size ≤ k) := Lib.hid (fun k hk => ownBlock_ge OW6.out hk)
                    clear x1q x2q x5q fk HS5 OW_q SR6
                    go_wp2_with (at_builtin; go_loud (refine wpList_append_lies _ rfl _ _ 22 rfl w.heap.size 2 i0 (.int .i64 0) 1 8 Try.underlying22 hif hz0 hz1 hz2 rfl (by decide) (.slice a5 O.length c5) O.length (nums O.length (lf O)) rfl (ownsRow_below OW6.out ((Below.refl _ _).alloc (Nat.le_refl _) _)) ⟨w6.heap.size, 0, none⟩ 1 1 [.int .i64 (y - 1)] rfl rfl (news1 w6 (y - 1)) (by intro u hu; simp only [List.mem_cons, List.mem_nil_iff, or_false] at hu; subst hu; rfl) (by omega) (by unfold maxLen; omega) (by omega) (by simp; omega) (w6.heap.size + 1) (by simp) ?_); intro g9 cap9 w9 hown9 hgrow9 hat9 hlt9)
                    have HB9 : Hid (Below w.heap.size w w9) := (HB6.out.alloc z6 _).grown hgrow9 (by simp; omega) (fun k hk => HGE.out k hk)
                    have OW9 : Hid (w9.ownsRow w.heap.size 2 1 (.slice (some ⟨g9, 0, none⟩) (O.length + 1) cap9) (O ++ [y - 1]).length (nums (O ++ [y - 1]).length (lf (O ++ [y - 1])))) := Lib.hid (by
                      rw [show (O ++ [y - 1]).length = O.length + 1 by simp, ← nums_snoc]; exact hown9)
                    clear hown9 hgrow9 hat9
                    go_wp2
                    go_roundw
                    case rel => first | exact ⟨k + 1, (O ++ [y - 1]), by omega, by go_num, HB9, OW9, HSI'⟩ | ((repeat apply Exists.intro); exact ⟨⟨k + 1, (O ++ [y - 1]), by omega, by go_num, HB9, OW9, HSI'⟩, rfl⟩)
                    case measure => simp [intOf]; omega
              · have HSI' := Lib.hid (HNO.out (fun h => by have := h.1; omega))
                clear HIN HYES HNO
                go_wp2_with fail
                refine (l2Pointer_at g1 (j * 6 + 1) k x.m false _ x2q hmm (by omega) (by rw [hd]; rfl)).mono ?_
                rintro e w5 ⟨rfl, q5, rfl⟩
                have HB6 := Lib.hid (HQ9.out q5)
                have OW6 := Lib.hid (OWD.out q5)
                have SR6 := Lib.hid (HSD.out q5)
                clear HQ9 OWD HSD
                generalize wr.drewN q5 = w6 at *
                go_wp2
                go_roundw
                case rel => first | exact ⟨k + 1, O, by omega, by go_num, HB6, OW6, HSI'⟩ | ((repeat apply Exists.intro); exact ⟨⟨k + 1, O, by omega, by go_num, HB6, OW6, HSI'⟩, rfl⟩)
                case measure => simp [intOf]; omega
            · have hio2 := HSI.out.lt
              have HSC' := Lib.hid (si_end HSI.out (by omega))
              go_wp2
              go_roundw
              case rel => first | exact ⟨i + 1, O, by go_num, by omega, HB_q, OW_q, HSC'⟩ | ((repeat apply Exists.intro); exact ⟨⟨i + 1, O, by go_num, by omega, HB_q, OW_q, HSC'⟩, rfl⟩)
              case measure => simp [intOf]; omega
        · have hlt' : ¬ (i : Int) < (O.length : Int) := by omega
          have HE := Lib.hid (sc_end HSC.out hio)
          have HRet := Lib.hid (retInts_of_row OW_r.out HB_r.out)
          clear hs5
          go_wp2
          go_ret
          rw [HE.out]
          exact HRet.out
end Go.Proofs.Ytnacdhnnpddccaa

namespace Go.Proofs.Ytnacdhnnpddccaa
open Go.RowKit Go.Maps
set_option linter.unusedVariables false

theorem Try.underlyingMap : Try.prog.underlying 140 = some (.map 2 2) := by kernel_rfl

theorem Try.underlyingI : Try.prog.underlying 2 = some (.int .i64) := by kernel_rfl

theorem keyI : Keyed Try.prog 2 := int_keyed Try.underlyingI

theorem zeroI (w : World) : (zeroValue 2).run Try.prog w = .ok (.int .i64 0) w := by kernel_rfl

theorem wfI {p : Int} (h : -1000000000 ≤ p ∧ p ≤ 1000000000) : (Lit.int .i64 p).wf = true := WalkArith.wf_i64 (by omega)

/-- A block is a map in which the i-th of a list has the i-th value, and nothing else is there. -/
def MapT (w : World) (b n : Nat) (R : List Int) (v : Nat → Int) : Prop :=
  ∃ D : DataW Unit, w.ownsMap Try.prog 2 (plainElem Try.prog 2) b n D ∧ ∀ p, (Lit.int .i64 p).wf = true → Maps.has D (.int .i64 p) = decide (p ∈ R) ∧ D.atKey (.int .i64 p) (.lit (.int .i64 0)) = .lit (.int .i64 ((tab R v p).getD 0))

section

variable {w : World} {b n : Nat} {R : List Int} {v : Nat → Int} {p : Int}

theorem MapT.lt (h : MapT w b n R v) : b < w.heap.size := by obtain ⟨D, h1, _⟩ := h; exact h1.lt

theorem MapT.block {w' : World} (h : MapT w b n R v) (hb : w'.heap[b]? = w.heap[b]?) : MapT w' b n R v := by
  obtain ⟨D, ⟨es, clock, h1, h2⟩, h3⟩ := h
  exact ⟨D, ⟨es, clock, hb.trans h1, h2⟩, h3⟩

theorem MapT.below {w' : World} (h : MapT w b n R v) (hb : Below w.heap.size w w') : MapT w' b n R v := h.block (hb.block b h.lt)

theorem MapT.alloc (h : MapT w b n R v) (o : Obj) : MapT (w.alloc o) b n R v := h.below ((Below.refl _ _).alloc (Nat.le_refl _) o)

theorem MapT.drew (h : MapT w b n R v) : MapT w.drew b n R v := h.below (Below.refl _ _).drew

theorem MapT.drewN (h : MapT w b n R v) (q : Nat) : MapT (w.drewN q) b n R v := h.below (drewN_below w q)

theorem MapT.grown {w' : World} {row : Option Nat} (h : MapT w b n R v) (hg : w.grownBy w' row) (hne : row ≠ some b) : MapT w' b n R v := h.block (hg.block b h.lt (fun e => hne e.symm))

theorem MapT.set (h : MapT w b n R v) {p : Addr} (hp : b ≠ p.block) (u : Value) : MapT (w.setCell p u) b n R v := h.block (Below.heap_setCell _ _ _ b hp)

theorem MapT.made (w : World) (v : Nat → Int) : MapT (w.alloc (.map #[] 0)) w.heap.size 0 [] v := ⟨.map [], World.ownsMap_made _ _ _ _, fun p _ => ⟨by simp [Maps.has_eq], by simp [tab_nil]; rfl⟩⟩

theorem MapT.look_ok (h : MapT w b n R v) (hp : -1000000000 ≤ p ∧ p ≤ 1000000000) : (Instr.lookup 140 (.map (some b)) (.int .i64 p) true).run Try.prog w = .ok (.tuple #[.int .i64 ((tab R v p).getD 0), .bool (decide (p ∈ R))]) w := by
  obtain ⟨D, h1, h2⟩ := h
  obtain ⟨x, ps, hr, hx⟩ := h1.look_ok keyI Try.underlyingMap (zeroI w) (plainElem_int Try.underlyingI (wfI (p := 0) (by omega))) (keyOf_int_mk Try.underlyingI (wfI hp))
  obtain ⟨h3, h4⟩ := h2 p (wfI hp)
  rw [h4] at hx
  obtain ⟨c, rfl, hc, _⟩ := plainElem_int_inv Try.underlyingI hx
  have : (tab R v p).getD 0 = c := by simpa using congrArg Prod.fst hc
  rw [hr, h3, this]

theorem MapT.look (h : MapT w b n R v) (hp : -1000000000 ≤ p ∧ p ≤ 1000000000) : (Instr.lookup 140 (.map (some b)) (.int .i64 p) false).run Try.prog w = .ok (.int .i64 ((tab R v p).getD 0)) w := by
  obtain ⟨D, h1, h2⟩ := h
  obtain ⟨c, hr, hc, _⟩ := h1.lookup_int keyI Try.underlyingMap Try.underlyingI (zeroI w) (keyOf_int_mk Try.underlyingI (wfI hp))
  obtain ⟨h3, h4⟩ := h2 p (wfI hp)
  rw [h4] at hc
  have : (tab R v p).getD 0 = c := by simpa using hc
  rw [hr, this]

theorem MapT.update (h : MapT w b n R v) (hn : n < maxLen) (hp : -1000000000 ≤ p ∧ p ≤ 1000000000) (hv : -1000000000 ≤ v R.length ∧ v R.length ≤ 1000000000) (hq : p ∉ R) : ∃ w', (Instr.mapUpdate 140 (.map (some b)) (.int .i64 p) (.int .i64 (v R.length))).run Try.prog w = .ok () w' ∧ MapT w' b (n + 1) (R ++ [p]) v ∧ w.grownBy w' (some b) := by
  obtain ⟨D, h1, h2⟩ := h
  obtain ⟨w', hr, h3, h4⟩ := h1.update keyI Try.underlyingMap hn (keyOf_int_mk Try.underlyingI (wfI hp)) (plainElem_int Try.underlyingI (wfI hv))
  refine ⟨w', hr, ⟨_, h3, fun q hwq => ?_⟩, h4⟩
  have hk : WideAt.IsKeyLit (Lit.int .i64 p) := by trivial
  by_cases e : q = p
  · subst e
    refine ⟨by rw [Maps.has_put_same h1.isMap hk]; simp, ?_⟩
    rw [Maps.atKey_put_same h1.isMap hk, tab_snoc hq, if_pos rfl]; rfl
  · have hne : Lit.int .i64 q ≠ Lit.int .i64 p := fun h => e (by simpa using h)
    refine ⟨by rw [Maps.has_put_other hne, (h2 q hwq).1]; simp [e], ?_⟩
    rw [Maps.atKey_put_other hne, (h2 q hwq).2, tab_snoc hq, if_neg e]

end

/-- A row of objects is read. -/
theorem rowG_GV {w : World} {base : Nat} {v : Value} {M : List GM} (h : w.ownsRow base 87 6 v M.length (rowG M)) (hf : ∀ t ∈ M, Src w t.a t.n t.f) : ∃ a c, v = .slice a M.length c ∧ GV w a M.length (gT M) := by
  rcases Nat.eq_zero_or_pos M.length with h0 | hp
  · rcases h.2 with ⟨h1, h2⟩ | ⟨g, cap, cur, h1, _⟩
    · exact ⟨none, 0, by rw [h1, h2], .inl h0⟩
    · exact ⟨_, _, h1, .inl h0⟩
  · obtain ⟨g, cap, rfl, hb, hlt⟩ := h.form hp
    have hce : ∀ i t, M[i]? = some t → ∀ j u, (gcells t)[j]? = some u → w.cell? ⟨g, i * 6 + j, none⟩ = some u := fun i t ht j u hu => by
      have hi : i < M.length := (List.getElem?_eq_some_iff.mp ht).1
      have hj : j < 6 := by
        have := (List.getElem?_eq_some_iff.mp hu).1
        simpa [gcells] using this
      have hc := h.cellAt (i * 6 + j) (by omega)
      rw [rowG_get M i t ht j hj, hu] at hc
      simpa using hc
    refine ⟨_, _, rfl, .inr ⟨g, 0, rfl, hlt, fun i hi => ?_, fun i hi => ?_⟩⟩
    · have ht := List.getElem?_eq_getElem hi
      rw [gT_at ht, Nat.zero_add]
      exact ⟨hce i _ ht 0 _ rfl, hce i _ ht 1 _ rfl, hce i _ ht 2 _ rfl, hce i _ ht 3 _ rfl, hce i _ ht 4 _ rfl, hce i _ ht 5 _ rfl⟩
    · rw [gT_at (List.getElem?_eq_getElem hi)]
      exact hf _ (List.getElem_mem hi)
end Go.Proofs.Ytnacdhnnpddccaa

namespace Go.Proofs.Ytnacdhnnpddccaa
open Go.RowKit Go.Maps
set_option linter.unusedVariables false

/-- Where a field of an object leads, in the program's words. -/
def tgtV (t : GM) (k : Nat) : Option Int := if t.m / P2 (k : Int) % 2 = 1 ∧ ¬ t.f k = 0 then some (t.f k - 1) else none

def RetTgt (W : World) (r : Option Int) (e : Ending) (w' : World) : Prop := Below W.heap.size W w' ∧ e = .returned (.tuple #[.int .i64 (r.getD 0), .bool r.isSome])

theorem mid5 {w : World} {b : Nat} {v0 v1 v2 v3 v4 v5 u : Value} {p : Addr} (h : Blk w b [v0, v1, v2, v3, v4, v5]) (hp : w.cell? p = some u) : w.cell? ⟨b, 1, none⟩ = some v1 ∧ w.cell? ⟨b, 2, none⟩ = some v2 ∧ w.cell? ⟨b, 3, none⟩ = some v3 ∧ w.cell? ⟨b, 4, none⟩ = some v4 ∧ w.cell? ⟨b, 5, none⟩ = some v5 ∧ w.cell? p = some u := ⟨h.at 1 rfl, h.at 2 rfl, h.at 3 rfl, h.at 4 rfl, h.at 5 rfl, hp⟩

set_option maxRecDepth 100000 in
set_option maxHeartbeats 3200000 in
theorem target_any (t : GM) (k : Nat) (w : World) (hs : Src w t.a t.n t.f) (hk : k < t.n) (hok : HOk t.s t.m t.o t.h) (htn : t.n = t.s.toNat) (hwd : -1000000000 ≤ t.f k ∧ t.f k ≤ 1000000000) :
    Calls Try.prog 116 #[.agg #[.int .i64 t.at_, .int .i64 t.s, .int .i64 t.m, .int .i64 t.o, .int .i64 t.h, .slice t.a t.n t.c], .int .i64 (k : Int)] w (RetTgt w (tgtV t k)) := by
  have ht12 : t.n ≤ 12 := by have := hok.1; omega
  have hst : t.s = (t.n : Int) := by have := hok.1; omega
  obtain ⟨tb, tf, hta, ltb, hck⟩ : ∃ tb tf, t.a = some ⟨tb, tf, none⟩ ∧ tb < w.heap.size ∧ w.cell? ⟨tb, tf + k, none⟩ = some (.int .i64 (t.f k)) := by
    rcases hs with h0 | ⟨tb, tf, h1, h2, h3⟩
    · omega
    · exact ⟨tb, tf, h1, h2, h3 k hk⟩
  obtain ⟨hw1, hw2⟩ := hwd
  have hk' : (k : Int) < (t.n : Int) := by omega
  have hk0 : (0 : Int) ≤ (k : Int) := by omega
  have hkI : (0 : Int) ≤ (k : Int) ∧ (k : Int) ≤ t.s - 1 := by omega
  have HIP : Hid (∃ r, IsIP t.s t.m t.o t.h (k : Int) r ∧ r = (t.m / P2 (k : Int) % 2 == 1)) := Lib.hid ⟨_, .inl ⟨⟨hok, hkI⟩, rfl⟩, rfl⟩
  obtain ⟨r, hip, hr⟩ := HIP.out
  have HI := Lib.hid hip; have HR := Lib.hid hr
  obtain ⟨y, hy⟩ : ∃ y, t.f k = y := ⟨_, rfl⟩
  have HY := Lib.hid hy
  rw [hy] at hck hw1 hw2
  rw [hta]
  have ha1 : ∀ (v : Int) (w : World), (Instr.typeAssert (fieldV true v) 167 156 true).run Try.prog w = .ok (.tuple #[.int .i64 v, .bool true]) w := fun v w => as_ptr _ w
  have ha2 : ∀ (v : Int) (w : World), (Instr.typeAssert (fieldV false v) 167 156 true).run Try.prog w = .ok (.tuple #[.int .i64 0, .bool false]) w := fun v w => as_plain _ w
  have X0 := Lib.hid (Blk.new_at (w := w) (cs := #[.int .i64 t.at_, .int .i64 t.s, .int .i64 t.m, .int .i64 t.o, .int .i64 t.h, .slice (some ⟨tb, tf, none⟩) t.n t.c]) (t := 87) w.heap.size rfl)
  have HB0 := Lib.hid ((Below.refl w.heap.size w).alloc (Nat.le_refl _) (.cells #[.int .i64 t.at_, .int .i64 t.s, .int .i64 t.m, .int .i64 t.o, .int .i64 t.h, .slice (some ⟨tb, tf, none⟩) t.n t.c] 87))
  have c0 := HB0.out.cell (p := ⟨tb, tf + k, none⟩) ltb
  rw [hck] at c0
  clear hip hr hs hok hta hck hkI HIP hy htn hst
  go_enter Try.func116, Try.ntmps116
  go_wp2_with fail
  have Xd := Lib.hid X0.out.drew
  have zz : w.heap.size + 1 ≤ (w.alloc (.cells #[.int .i64 t.at_, .int .i64 t.s, .int .i64 t.m, .int .i64 t.o, .int .i64 t.h, .slice (some ⟨tb, tf, none⟩) t.n t.c] 87)).heap.size := by simp
  have lt0 : tb < (w.alloc (.cells #[.int .i64 t.at_, .int .i64 t.s, .int .i64 t.m, .int .i64 t.o, .int .i64 t.h, .slice (some ⟨tb, tf, none⟩) t.n t.c] 87)).heap.size := by omega
  generalize w.alloc (.cells #[.int .i64 t.at_, .int .i64 t.s, .int .i64 t.m, .int .i64 t.o, .int .i64 t.h, .slice (some ⟨tb, tf, none⟩) t.n t.c] 87) = w0 at *
  have cd : w0.drew.cell? ⟨tb, tf + k, none⟩ = some (.int .i64 y) := by simpa using c0
  have ltd : tb < w0.drew.heap.size := by simpa using lt0
  cases r with
  | true =>
    have hd : t.m / P2 (k : Int) % 2 = 1 := by have := HR.out; simpa using this.symm
    go_region_held3 (fun w' => w'.cell? ⟨w.heap.size, 1, none⟩ = some (.int .i64 t.s) ∧ w'.cell? ⟨w.heap.size, 2, none⟩ = some (.int .i64 t.m) ∧ w'.cell? ⟨w.heap.size, 3, none⟩ = some (.int .i64 t.o) ∧ w'.cell? ⟨w.heap.size, 4, none⟩ = some (.int .i64 t.h) ∧ w'.cell? ⟨w.heap.size, 5, none⟩ = some (.slice (some ⟨tb, tf, none⟩) t.n t.c) ∧ w'.cell? ⟨tb, tf + k, none⟩ = some (.int .i64 y))
      (first | (with_reducible exact mid5 X0.out c0) | (with_reducible exact mid5 Xd.out cd) | (with_reducible exact mid5 X2.out c2))
      (first | (go_at_call 127; (refine (fieldOf_any t.s t.m t.o t.h (k : Int) y true _ HI.out).mono ?_; rintro e w2 ⟨rfl, hb⟩; have HB2 := Lib.hid ((HB0.out.drew).trans (hb.mono (by simp; omega))); have X2 := Lib.hid (Xd.out.below hb); have c2 := (hb.cell (p := ⟨tb, tf + k, none⟩) ltd).trans cd; clear hb)))
    by_cases h0 : y = 0
    · have HT : Hid (tgtV t k = none) := Lib.hid (by unfold tgtV; rw [HY.out, if_neg (fun h => h.2 h0)])
      subst h0
      go_wp2
      refine bodyPost_ret (v := .tuple #[.int .i64 0, .bool false]) (by simp [results, Try.results116, go_sem]) rfl ?_
      rw [HT.out]
      exact ⟨HB2.out, rfl⟩
    · have HT : Hid (tgtV t k = some (y - 1)) := Lib.hid (by unfold tgtV; rw [HY.out, if_pos ⟨hd, h0⟩])
      have h0' : (y == 0) = false := by simpa using h0
      clear hd
      go_wp2_with fail
      refine (place_any y _ hw1 hw2).mono ?_
      rintro e w3 ⟨rfl, hb⟩
      have HB3 := Lib.hid (HB2.out.trans (hb.mono HB2.out.size))
      clear hb
      go_wp2
      refine bodyPost_ret (v := .tuple #[.int .i64 (y - 1), .bool true]) (by simp [results, Try.results116, go_sem]) rfl ?_
      rw [HT.out]
      exact ⟨HB3.out, rfl⟩
  | false =>
    have hd : ¬ t.m / P2 (k : Int) % 2 = 1 := by have := HR.out; simpa using this.symm
    have HT : Hid (tgtV t k = none) := Lib.hid (by unfold tgtV; rw [if_neg (fun h => hd h.1)])
    clear hd
    go_region_held3 (fun w' => w'.cell? ⟨w.heap.size, 1, none⟩ = some (.int .i64 t.s) ∧ w'.cell? ⟨w.heap.size, 2, none⟩ = some (.int .i64 t.m) ∧ w'.cell? ⟨w.heap.size, 3, none⟩ = some (.int .i64 t.o) ∧ w'.cell? ⟨w.heap.size, 4, none⟩ = some (.int .i64 t.h) ∧ w'.cell? ⟨w.heap.size, 5, none⟩ = some (.slice (some ⟨tb, tf, none⟩) t.n t.c) ∧ w'.cell? ⟨tb, tf + k, none⟩ = some (.int .i64 y))
      (first | (with_reducible exact mid5 X0.out c0) | (with_reducible exact mid5 Xd.out cd) | (with_reducible exact mid5 X2.out c2))
      (first | (go_at_call 127; (refine (fieldOf_any t.s t.m t.o t.h (k : Int) y false _ HI.out).mono ?_; rintro e w2 ⟨rfl, hb⟩; have HB2 := Lib.hid ((HB0.out.drew).trans (hb.mono (by simp; omega))); have X2 := Lib.hid (Xd.out.below hb); have c2 := (hb.cell (p := ⟨tb, tf + k, none⟩) ltd).trans cd; clear hb)))
    go_wp2
    refine bodyPost_ret (v := .tuple #[.int .i64 0, .bool false]) (by simp [results, Try.results116, go_sem]) rfl ?_
    rw [HT.out]
    exact ⟨HB2.out, rfl⟩
end Go.Proofs.Ytnacdhnnpddccaa

namespace Go.Proofs.Ytnacdhnnpddccaa
open Go.RowKit Go.Maps
set_option linter.unusedVariables false

theorem Try.infoOb9 : (Try.prog.info? 87).map (fun i => (i.zero, i.size, i.bytes)) = some (some (.agg #[.int .i64 0, .int .i64 0, .int .i64 0, .int .i64 0, .int .i64 0, .slice none 0 0]), 6, 64) := by kernel_rfl

/-- What is reached so far, as the program has it: in the block rb, with the map mb and the row v. -/
structure RS (w : World) (base rb mb : Nat) (v : Value) (M : List GM) (f : Nat → Int) (L : List Ob) (O : List Int) : Prop where
  blk : Blk w rb [.int .i64 0, v, .map (some mb)]
  hrb : base ≤ rb
  hmb : base ≤ mb
  hne : mb ≠ rb
  vr : v.ownBlock ≠ some rb
  vm : v.ownBlock ≠ some mb
  row : w.ownsRow base 87 6 v M.length (rowG M)
  map : MapT w mb O.length O (fun i => (i : Int))
  len : M.length = O.length
  src : ∀ t ∈ M, Src w t.a t.n t.f ∧ (t.n = 0 ∨ t.g + 1 < base)
  same : ∀ i t, M[i]? = some t → ∃ x, findO L (lf O i) = some x ∧ GSame t (obG f x)

section

variable {w w' : World} {base rb mb : Nat} {v : Value} {M : List GM} {f : Nat → Int} {L : List Ob} {O : List Int}

theorem RS.below (h : RS w base rb mb v M f L O) (hb : Below w.heap.size w w') : RS w' base rb mb v M f L O :=
  ⟨h.blk.below hb, h.hrb, h.hmb, h.hne, h.vr, h.vm, ownsRow_below h.row hb, h.map.below hb, h.len, fun t ht => ⟨(h.src t ht).1.below hb, (h.src t ht).2⟩, h.same⟩

theorem src_far {base : Nat} {t : GM} (h : Src w t.a t.n t.f) (hg : t.n = 0 ∨ t.g + 1 < base) (hb : Below base w w') (hz : w.heap.size ≤ w'.heap.size) : Src w' t.a t.n t.f := by
  rcases h with h0 | ⟨b, o, e1, h2, h3⟩
  · exact .inl h0
  · rcases hg with h0 | hg
    · exact .inl h0
    · have hg' : b < base := by have : t.g = b := (by simp [GM.g, e1]); omega
      exact .inr ⟨b, o, e1, by omega, fun i hi => (World.cell?_of_block (w := w) (a := ⟨b, o + i, none⟩) (hb.block b hg')).trans (h3 i hi)⟩

theorem RS.set (h : RS w base rb mb v M f L O) {p : Addr} (hp : p.block + 1 = base) (u : Value) : RS (w.setCell p u) base rb mb v M f L O := by
  have h1 := h.hrb; have h2 := h.hmb
  refine ⟨h.blk.other (by omega) _, h.hrb, h.hmb, h.hne, h.vr, h.vm, row_set h.row (by omega) _, h.map.set (by omega) _, h.len, fun t ht => ⟨?_, (h.src t ht).2⟩, h.same⟩
  obtain ⟨h3, h4⟩ := h.src t ht
  rcases h3 with h0 | ⟨b, o, e1, h5, h6⟩
  · exact .inl h0
  · rcases h4 with h0 | h4
    · exact .inl h0
    · have : t.g = b := (by simp [GM.g, e1])
      exact .inr ⟨b, o, e1, by simpa using h5, fun i hi => (World.cell?_of_block (w := w) (a := ⟨b, o + i, none⟩) (Below.heap_setCell _ _ _ b (by omega))).trans (h6 i hi)⟩

theorem RS.out (h : RS w base rb mb v M f L O) : ∃ a c, v = .slice a M.length c ∧ GV w a M.length (gT M) := rowG_GV h.row (fun t ht => (h.src t ht).1)

end

set_option maxRecDepth 100000 in
set_option maxHeartbeats 1600000 in
theorem add_old (base rb mb : Nat) (v : Value) (M : List GM) (f : Nat → Int) (L : List Ob) (O : List Int) (t : GM) (w : World) (h : RS w base rb mb v M f L O) (hp : -1000000000 ≤ t.at_ ∧ t.at_ ≤ 1000000000) (hin : t.at_ ∈ O) (hz : base ≤ w.heap.size) :
    Calls Try.prog 133 #[.pointer (some ⟨rb, 0, none⟩), .agg #[.int .i64 t.at_, .int .i64 t.s, .int .i64 t.m, .int .i64 t.o, .int .i64 t.h, .slice t.a t.n t.c]] w fun e w' => e = .returned (.tuple #[]) ∧ Below base w w' ∧ w.heap.size ≤ w'.heap.size ∧ RS w' base rb mb v M f L O := by
  have H := Lib.hid h
  have hd : decide (t.at_ ∈ O) = true := decide_eq_true hin
  have X0 := Lib.hid (Blk.new_at (w := w) (cs := #[.int .i64 t.at_, .int .i64 t.s, .int .i64 t.m, .int .i64 t.o, .int .i64 t.h, .slice t.a t.n t.c]) (t := 87) w.heap.size rfl)
  have B0 := Lib.hid (h.blk.alloc (.cells #[.int .i64 t.at_, .int .i64 t.s, .int .i64 t.m, .int .i64 t.o, .int .i64 t.h, .slice t.a t.n t.c] 87))
  have HB0 := Lib.hid ((Below.refl w.heap.size w).alloc (Nat.le_refl _) (.cells #[.int .i64 t.at_, .int .i64 t.s, .int .i64 t.m, .int .i64 t.o, .int .i64 t.h, .slice t.a t.n t.c] 87))
  have hlk := fun q => ((h.map.alloc (.cells #[.int .i64 t.at_, .int .i64 t.s, .int .i64 t.m, .int .i64 t.o, .int .i64 t.h, .slice t.a t.n t.c] 87)).drewN q).look_ok hp
  rw [hd] at hlk
  clear h
  go_enter Try.func133, Try.ntmps133
  go_wp2_with fail
  have zz : w.heap.size + 1 ≤ (w.alloc (.cells #[.int .i64 t.at_, .int .i64 t.s, .int .i64 t.m, .int .i64 t.o, .int .i64 t.h, .slice t.a t.n t.c] 87)).heap.size := by simp
  generalize w.alloc (.cells #[.int .i64 t.at_, .int .i64 t.s, .int .i64 t.m, .int .i64 t.o, .int .i64 t.h, .slice t.a t.n t.c] 87) = w0 at *
  have lX := X0.out.1; have cX0 := X0.out.at 0 rfl; have cX1 := X0.out.at 1 rfl; have cX2 := X0.out.at 2 rfl; have cX3 := X0.out.at 3 rfl; have cX4 := X0.out.at 4 rfl; have cX5 := X0.out.at 5 rfl
  have lB := B0.out.1; have cB0 := B0.out.at 0 rfl; have cB1 := B0.out.at 1 rfl; have cB2 := B0.out.at 2 rfl
  go_quiet (fail)
  clear hlk
  go_wp2
  refine bodyPost_ret (v := .tuple #[]) (by simp [results, Try.results133, go_sem]) rfl ?_
  have hb := below_drewN HB0.out
  exact ⟨rfl, (hb _).mono hz, (hb _).size, H.out.below (hb _)⟩
end Go.Proofs.Ytnacdhnnpddccaa

namespace Go.Proofs.Ytnacdhnnpddccaa
open Go.RowKit Go.Maps
set_option linter.unusedVariables false

theorem rowG_val {w : World} {base : Nat} {v : Value} {M : List GM} (h : w.ownsRow base 87 6 v M.length (rowG M)) : ∃ a c, v = .slice a M.length c := by
  rcases h.2 with ⟨e1, e2⟩ | ⟨g, cap, cur, e1, _⟩
  · exact ⟨none, 0, by rw [e1, e2]⟩
  · exact ⟨_, _, e1⟩

theorem obj_one (t : GM) : ∀ u ∈ gcells t, u.oneCell' = true := by
  intro u hu
  simp [gcells] at hu
  rcases hu with rfl | rfl | rfl | rfl | rfl | rfl <;> rfl

set_option maxRecDepth 100000 in
set_option maxHeartbeats 3200000 in
theorem add_new (base rb mb : Nat) (v : Value) (M : List GM) (f : Nat → Int) (L : List Ob) (O : List Int) (t : GM) (x : Ob) (w : World) (h : RS w base rb mb v M f L O) (hp : -1000000000 ≤ t.at_ ∧ t.at_ ≤ 1000000000) (hin : t.at_ ∉ O) (hz : base ≤ w.heap.size) (hx : findO L t.at_ = some x) (hsm : GSame t (obG f x)) (hsr : Src w t.a t.n t.f) (hfar : t.n = 0 ∨ t.g + 1 < base) (hl : O.length ≤ 400) :
    Calls Try.prog 133 #[.pointer (some ⟨rb, 0, none⟩), .agg #[.int .i64 t.at_, .int .i64 t.s, .int .i64 t.m, .int .i64 t.o, .int .i64 t.h, .slice t.a t.n t.c]] w fun e w' => e = .returned (.tuple #[]) ∧ Below base w w' ∧ w.heap.size ≤ w'.heap.size ∧ ∃ v', RS w' base rb mb v' (M ++ [t]) f L (O ++ [t.at_]) := by
  have HML := Lib.hid h.len
  have hml4 : M.length ≤ 400 := by rw [h.len]; exact hl
  have H := Lib.hid h; have HX := Lib.hid hx; have HSM := Lib.hid hsm; have HSR := Lib.hid hsr; have HFAR := Lib.hid hfar; have HP := Lib.hid hp; have HIN := Lib.hid hin
  have hd : decide (t.at_ ∈ O) = false := decide_eq_false hin
  have X0 := Lib.hid (Blk.new_at (w := w) (cs := #[.int .i64 t.at_, .int .i64 t.s, .int .i64 t.m, .int .i64 t.o, .int .i64 t.h, .slice t.a t.n t.c]) (t := 87) w.heap.size rfl)
  have B0 := Lib.hid (h.blk.alloc (.cells #[.int .i64 t.at_, .int .i64 t.s, .int .i64 t.m, .int .i64 t.o, .int .i64 t.h, .slice t.a t.n t.c] 87))
  have HB0 := Lib.hid ((Below.refl w.heap.size w).alloc (Nat.le_refl _) (.cells #[.int .i64 t.at_, .int .i64 t.s, .int .i64 t.m, .int .i64 t.o, .int .i64 t.h, .slice t.a t.n t.c] 87))
  have hlk := fun q => ((h.map.alloc (.cells #[.int .i64 t.at_, .int .i64 t.s, .int .i64 t.m, .int .i64 t.o, .int .i64 t.h, .slice t.a t.n t.c] 87)).drewN q).look_ok hp
  rw [hd] at hlk
  have hrbl : rb < w.heap.size := h.blk.1
  have hmbl : mb < w.heap.size := h.map.lt
  have hr1 := h.hrb; have hm1 := h.hmb; have hne := h.hne
  obtain ⟨j0, hif, hj0, hj1, hj2⟩ := info_parts Try.infoOb9
  obtain ⟨av, kv, hv⟩ := rowG_val h.row
  subst hv
  clear h hx hsm hsr hfar hp hin
  go_enter Try.func133, Try.ntmps133
  go_wp2_with fail
  have zz : w.heap.size + 1 = (w.alloc (.cells #[.int .i64 t.at_, .int .i64 t.s, .int .i64 t.m, .int .i64 t.o, .int .i64 t.h, .slice t.a t.n t.c] 87)).heap.size := by simp
  
  generalize w.alloc (.cells #[.int .i64 t.at_, .int .i64 t.s, .int .i64 t.m, .int .i64 t.o, .int .i64 t.h, .slice t.a t.n t.c] 87) = w0 at *
  have lX := X0.out.1; have cX0 := X0.out.at 0 rfl; have cX1 := X0.out.at 1 rfl; have cX2 := X0.out.at 2 rfl; have cX3 := X0.out.at 3 rfl; have cX4 := X0.out.at 4 rfl; have cX5 := X0.out.at 5 rfl
  have lB := B0.out.1; have cB0 := B0.out.at 0 rfl; have cB1 := B0.out.at 1 rfl; have cB2 := B0.out.at 2 rfl
  go_quiet (fail)
  clear hlk
  have M0 := Lib.hid (H.out.map.below (by rw [show w.heap.size = w.heap.size from rfl]; exact HB0.out))
  have HB1 := Lib.hid (below_drewN HB0.out nq)
  have X1 := Lib.hid (X0.out.below (drewN_below w0 nq)); have B1 := Lib.hid (B0.out.below (drewN_below w0 nq)); have M1 := Lib.hid (M0.out.drewN nq)
  have z1 : w.heap.size + 1 = (w0.drewN nq).heap.size := by simpa using zz
  clear lX cX0 cX1 cX2 cX3 cX4 cX5
  clear lB cB0 cB1 cB2
  clear X0 B0 HB0 M0 zz
  generalize w0.drewN nq = w1 at *
  go_wp2_with fail
  have lX := X1.out.1; have cX0 := X1.out.at 0 rfl; have cX1 := X1.out.at 1 rfl; have cX2 := X1.out.at 2 rfl; have cX3 := X1.out.at 3 rfl; have cX4 := X1.out.at 4 rfl; have cX5 := X1.out.at 5 rfl
  have lB := B1.out.1; have cB0 := B1.out.at 0 rfl; have cB1 := B1.out.at 1 rfl; have cB2 := B1.out.at 2 rfl
  go_still_tail 11, (by kernel_rfl)
  change wpList _ _ _ _ _ w1.drew
  clear lX cX0 cX1 cX2 cX3 cX4 cX5
  clear lB cB0 cB1 cB2
  have HB2 := Lib.hid HB1.out.drew; have X2 := Lib.hid X1.out.drew; have B2 := Lib.hid B1.out.drew; have M2 := Lib.hid M1.out.drew
  have z2 : w.heap.size + 1 = w1.drew.heap.size := by simpa using z1
  clear HB1 X1 B1 M1 z1
  generalize w1.drew = w2 at *
  obtain ⟨w3, hr3, hm3, hg3⟩ := M2.out.update (by unfold maxLen; omega) HP.out (by constructor <;> omega) HIN.out
  rw [← HML.out] at hr3
  have HB3 : Hid (Below base w w3) := Lib.hid ((HB2.out.mono hz).grown hg3 (by omega) (fun k hk => by cases hk; exact hm1))
  have hz3 : w.heap.size + 1 ≤ w3.heap.size := by have := hg3.size; omega
  have X3 := Lib.hid (blk_grown X2.out hg3 (by simp; omega))
  have B3 := Lib.hid (blk_grown B2.out hg3 (by simp; omega))
  have M3 := Lib.hid hm3
  have OW3 : Hid (w3.ownsRow base 87 6 (.slice av M.length kv) M.length (rowG M)) := Lib.hid ((ownsRow_below H.out.row HB2.out).kept hg3 (.inr H.out.vm))
  clear X2 B2 M2 HB2 hm3 hg3
  go_wp2_with fail
  clear hr3
  have lX := X3.out.1; have cX0 := X3.out.at 0 rfl; have cX1 := X3.out.at 1 rfl; have cX2 := X3.out.at 2 rfl; have cX3 := X3.out.at 3 rfl; have cX4 := X3.out.at 4 rfl; have cX5 := X3.out.at 5 rfl
  have lB := B3.out.1; have cB0 := B3.out.at 0 rfl; have fB0 := B3.out.free 0 rfl; have cB1 := B3.out.at 1 rfl; have fB1 := B3.out.free 1 rfl; have cB2 := B3.out.at 2 rfl; have fB2 := B3.out.free 2 rfl
  have hnew := cells_new6 w3.drew t
  go_region_law (first | (refine step_append_lies _ rfl (.tmp 32) (.tmp 34) 76 rfl base 87 j0 _ 6 64 Try.underlying76 hif hj0 hj1 hj2 rfl (by decide) (.slice av M.length kv) M.length (rowG M) rfl (OW3.out.drew.alloc _) ⟨w3.drew.heap.size, 0, none⟩ 1 1 (gcells t) rfl rfl hnew (obj_one t) (by omega) (by unfold maxLen; omega) (by omega) (by simp; omega) (w3.heap.size + 1) (by simp) ?_; intro g9 cap9 w9 hown9 hgrow9 hat9 hlt9; have T9 := Lib.hid (blk_grown (B3.out.drew.alloc _) hgrow9 H.out.vr); have l9 := T9.out.1; have d91 := T9.out.at 1 rfl; have e91 := T9.out.free 1 rfl))
  all_goals (
    have HB9 : Hid (Below base w w9) := Lib.hid ((HB3.out.drew.alloc (by simp; omega) _).grown hgrow9 (by simp; omega) (fun k hk => (OW3.out.lt k hk).1))
    have hz9 : w.heap.size ≤ w9.heap.size := (by have := hgrow9.size; simp at this; omega)
    have hg9r : g9 ≠ rb := (by rcases hat9 with he | he; (intro e; exact H.out.vr (by rw [he, e])); omega)
    have hg9m : g9 ≠ mb := (by rcases hat9 with he | he; (intro e; exact H.out.vm (by rw [he, e])); omega)
    have M9 := Lib.hid ((M3.out.drew.alloc (.cells #[.int .i64 t.at_, .int .i64 t.s, .int .i64 t.m, .int .i64 t.o, .int .i64 t.h, .slice t.a t.n t.c] 87)).grown hgrow9 H.out.vm)
    have OW9 := Lib.hid hown9
    clear hown9 hgrow9 hat9 l9 d91 e91 hnew
    clear lX cX0 cX1 cX2 cX3 cX4 cX5
    clear lB cB0 fB0 cB1 fB1 cB2 fB2
    go_wp2
    refine bodyPost_end (v := .tuple #[]) (by simp [results, Try.results133, go_sem]) rfl ?_
    have hbF : Below base w (w9.setCell ⟨rb, 1, none⟩ (.slice (some ⟨g9, 0, none⟩) (M.length + 1) cap9)) := HB9.out.setCell hr1 _
    have hzF : w.heap.size ≤ (w9.setCell ⟨rb, 1, none⟩ (.slice (some ⟨g9, 0, none⟩) (M.length + 1) cap9)).heap.size := (by simpa using hz9)
    refine ⟨rfl, hbF, hzF, .slice (some ⟨g9, 0, none⟩) (M.length + 1) cap9, T9.out.set 1 (by simp) _, hr1, hm1, hne, fun e => hg9r (by simpa [Value.ownBlock] using e), fun e => hg9m (by simpa [Value.ownBlock] using e), ?_, ?_, by rw [List.length_append, List.length_append, HML.out]; rfl, fun u hu => ?_, fun i u hu => ?_⟩
    · rw [rowG_snoc, List.length_append]
      exact ownsRow_setCell_other OW9.out (fun e => hg9r (by simpa [Value.ownBlock] using e)) _
    · rw [List.length_append]
      exact M9.out.set hne _
    · rcases List.mem_append.mp hu with hu | hu
      · exact ⟨src_far (H.out.src u hu).1 (H.out.src u hu).2 hbF hzF, (H.out.src u hu).2⟩
      · simp only [List.mem_singleton] at hu
        subst hu
        exact ⟨src_far HSR.out HFAR.out hbF hzF, HFAR.out⟩
    · rcases Nat.lt_or_ge i M.length with hi | hi
      · rw [List.getElem?_append_left hi] at hu
        obtain ⟨z, h1, h2⟩ := H.out.same i u hu
        exact ⟨z, by rw [lf_left (by rw [← HML.out]; exact hi)]; exact h1, h2⟩
      · have hi' : i = M.length := (by have := (List.getElem?_eq_some_iff.mp hu).1; simp at this; omega)
        subst hi'
        rw [List.getElem?_append_right (Nat.le_refl _), Nat.sub_self] at hu
        have hu' : t = u := (by simpa using hu)
        subst hu'
        exact ⟨x, by rw [HML.out, lf_last]; exact HX.out, HSM.out⟩)

theorem add_any (base rb mb : Nat) (v : Value) (M : List GM) (f : Nat → Int) (L : List Ob) (O : List Int) (t : GM) (x : Ob) (w : World) (h : RS w base rb mb v M f L O) (hp : -1000000000 ≤ t.at_ ∧ t.at_ ≤ 1000000000) (hz : base ≤ w.heap.size) (hx : findO L t.at_ = some x) (hsm : GSame t (obG f x)) (hsr : Src w t.a t.n t.f) (hfar : t.n = 0 ∨ t.g + 1 < base) (hl : O.length ≤ 400) :
    Calls Try.prog 133 #[.pointer (some ⟨rb, 0, none⟩), .agg #[.int .i64 t.at_, .int .i64 t.s, .int .i64 t.m, .int .i64 t.o, .int .i64 t.h, .slice t.a t.n t.c]] w fun e w' => e = .returned (.tuple #[]) ∧ Below base w w' ∧ w.heap.size ≤ w'.heap.size ∧ ∃ v' M', RS w' base rb mb v' M' f L (add1 O t.at_) := by
  by_cases hin : t.at_ ∈ O
  · refine (add_old base rb mb v M f L O t w h hp hin hz).mono ?_
    rintro e w' ⟨h1, h2, h3, h4⟩
    exact ⟨h1, h2, h3, v, M, by rw [add1, if_pos hin]; exact h4⟩
  · refine (add_new base rb mb v M f L O t x w h hp hin hz hx hsm hsr hfar hl).mono ?_
    rintro e w' ⟨h1, h2, h3, v', h4⟩
    exact ⟨h1, h2, h3, v', _, by rw [add1, if_neg hin]; exact h4⟩
end Go.Proofs.Ytnacdhnnpddccaa

namespace Go.Proofs.Ytnacdhnnpddccaa
open Go.RowKit Go.Maps
set_option linter.unusedVariables false

theorem fld_obj7 (v0 v1 v2 v3 v4 v5 v6 : Value) (w : World) : (Instr.field 124 (.agg #[v0, v1, v2, v3, v4, v5, v6]) 1).run Try.prog w = .ok (.agg #[v1, v2, v3, v4, v5, v6]) w := by kernel_rfl

/-- What is known of the objects of an arena without a fault, as the program reads them. -/
structure Shaped (w : World) (a : Option Addr) (T : Nat → GM) (f : Nat → Int) (L : List Ob) : Prop where
  gv : GV w a L.length T
  same : ∀ i, i < L.length → GSame (T i) (obT f L i)
  sort : ∀ i j, i < j → j < L.length → (T i).at_ < (T j).at_
  right : Right f L
  len : L.length ≤ 400
  place : ∀ x ∈ L, 0 ≤ x.at_ ∧ x.at_ ≤ 1000000
  word : ∀ x ∈ L, ∀ k, k < x.s.toNat → -1000000000 ≤ f (x.at_.toNat + 2 + k) ∧ f (x.at_.toNat + 2 + k) ≤ 1000000000

section

variable {w w' : World} {a : Option Addr} {T : Nat → GM} {f : Nat → Int} {L : List Ob}

theorem Shaped.below (h : Shaped w a T f L) (hb : Below w.heap.size w w') : Shaped w' a T f L := ⟨h.gv.below hb, h.same, h.sort, h.right, h.len, h.place, h.word⟩

theorem Shaped.src (h : Shaped w a T f L) {i : Nat} (hi : i < L.length) : Src w (T i).a (T i).n (T i).f := by
  rcases h.gv with h0 | ⟨b, q, _, g⟩
  · omega
  · exact g.flds i hi

theorem gm_lt {t : GM} (h : Src w t.a t.n t.f) : t.n = 0 ∨ t.g < w.heap.size := by
  rcases h with h0 | ⟨b, o, e, hb, _⟩
  · exact .inl h0
  · exact .inr (by simpa [GM.g, e] using hb)

theorem Shaped.obj (h : Shaped w a T f L) {i : Nat} (hi : i < L.length) : findO L (T i).at_ = some L[i] ∧ GSame (T i) (obG f L[i]) ∧ (0 ≤ (T i).at_ ∧ (T i).at_ ≤ 1000000) := by
  have hs := h.same i hi
  rw [obT_get f hi] at hs
  have e : (T i).at_ = L[i].at_ := hs.1
  exact ⟨by rw [e]; exact h.right.apart _ (List.getElem_mem hi), hs, by rw [e]; exact h.place _ (List.getElem_mem hi)⟩

theorem Shaped.nope (h : Shaped w a T f L) {p : Int} (hn : ∀ i, i < L.length → ¬ (T i).at_ = p) : p ∉ placesO L := fun hp => by
  obtain ⟨x, hx, rfl⟩ := List.mem_map.mp hp
  obtain ⟨i, hi, rfl⟩ := List.getElem_of_mem hx
  have hs := h.same i hi
  rw [obT_get f hi] at hs
  exact hn i hi hs.1

theorem Shaped.yes (h : Shaped w a T f L) {i : Nat} (hi : i < L.length) : (T i).at_ ∈ placesO L := mem_placesO.2 ⟨_, (h.obj hi).1⟩

end

/-- The program's scan: at a field of an object, or at the end. -/
def ST (f : Nat → Int) (L : List Ob) (roots : List Int) (n i : Nat) (O : List Int) : Prop := (n = O.length ∧ i = 0 ∧ SC f L roots n O) ∨ ∃ x, i ≤ x.s.toNat ∧ SI f L roots n i x O

theorem st_of_sc {f : Nat → Int} {L : List Ob} {roots O : List Int} {n : Nat} (h : SC f L roots n O) : ST f L roots n 0 O := by
  rcases Nat.lt_or_ge n O.length with h1 | h1
  · obtain ⟨x, _, hx⟩ := sc_in h h1
    exact .inr ⟨x, Nat.zero_le _, hx⟩
  · have := h.le
    exact .inl ⟨by omega, rfl, h⟩

theorem ST.len {f : Nat → Int} {L : List Ob} {roots O : List Int} {n i : Nat} (h : ST f L roots n i O) : O.length ≤ L.length := by
  rcases h with ⟨_, _, h⟩ | ⟨_, _, h⟩
  · exact h.len
  · exact h.len

theorem tgt_eq {t : GM} {f : Nat → Int} {x : Ob} (h : GSame t (obG f x)) {k : Nat} (hk : k < x.s.toNat) : tgtV t k = if x.m / P2 (k : Int) % 2 = 1 ∧ ¬ f (x.at_.toNat + 2 + k) = 0 then some (f (x.at_.toNat + 2 + k) - 1) else none := by
  obtain ⟨h1, h2, h3, h4, h5, h6, h7⟩ := h
  have e := h7 k (by rw [h6]; exact hk)
  have e' : t.f k = f (x.at_.toNat + 2 + k) := e
  have e3 : t.m = x.m := h3
  unfold tgtV
  rw [e', e3]

def RetReach (W : World) (f : Nat → Int) (L : List Ob) (roots : List Int) (e : Ending) (w' : World) : Prop :=
  Below W.heap.size W w' ∧ (((∃ p ∈ roots, p ∉ placesO L) ∧ e = .returned (.agg #[.int .i64 4, .slice none 0 0, .map none])) ∨
    ((∀ p ∈ roots, p ∈ placesO L) ∧ ∃ a c mb T, e = .returned (.agg #[.int .i64 0, .slice a (reachO f L roots).length c, .map (some mb)]) ∧ GV w' a (reachO f L roots).length T ∧ MapT w' mb (reachO f L roots).length (reachO f L roots) (fun i => (i : Int)) ∧ ∀ i, i < (reachO f L roots).length → ∃ x, findO L (lf (reachO f L roots) i) = some x ∧ GSame (T i) (obG f x)))

theorem ret_of_rs {W w : World} {base rb mb : Nat} {av : Option Addr} {kv : Nat} {M : List GM} {f : Nat → Int} {L : List Ob} {O roots : List Int} (hall : ∀ p ∈ roots, p ∈ placesO L) (he : reachO f L roots = O) (h : RS w base rb mb (.slice av M.length kv) M f L O) (hb : Below W.heap.size W w) : RetReach W f L roots (.returned (.agg #[.int .i64 0, .slice av M.length kv, .map (some mb)])) w := by
  obtain ⟨a, c, e, hg⟩ := h.out
  simp only [Value.slice.injEq] at e
  obtain ⟨rfl, -, rfl⟩ := e
  have hl := h.len
  rw [hl] at hg
  refine ⟨hb, .inr ⟨hall, av, kv, mb, gT M, by rw [he, hl], by rw [he]; exact hg, by rw [he]; exact h.map, fun i hi => ?_⟩⟩
  rw [he] at hi ⊢
  have hi' : i < M.length := by omega
  rw [gT_at (List.getElem?_eq_getElem hi')]
  exact h.same i _ (List.getElem?_eq_getElem hi')

set_option maxRecDepth 100000 in
set_option maxHeartbeats 1600000 in
theorem reachOf_any (a : Option Addr) (kc : Nat) (T : Nat → GM) (f : Nat → Int) (L : List Ob) (ra : Option Addr) (roots : List Int) (rc : Nat) (w : World) (hsh : Shaped w a T f L) (hrs : Src w ra roots.length (lf roots)) (hrn : roots.length ≤ 60) :
    Calls Try.prog 122 #[.slice a L.length kc, .slice ra roots.length rc] w (RetReach w f L roots) := by
  have HSH := Lib.hid hsh; have HRS := Lib.hid hrs
  have hL4 := hsh.len
  have hmk := @run_makeMap Try.prog
  clear hsh hrs
  go_enter Try.func122, Try.ntmps122
  go_wp2_with fail
  go_step3
  have HW0 := Lib.hid ((Below.refl w.heap.size w).alloc (Nat.le_refl _) (.cells #[.int .i64 0, .slice none 0 0, .map none] 142))
  have R0 := Lib.hid (Blk.new_at (w := w) (cs := #[.int .i64 0, .slice none 0 0, .map none]) (t := 142) w.heap.size rfl)
  have z0 : (w.alloc (.cells #[.int .i64 0, .slice none 0 0, .map none] 142)).heap.size = w.heap.size + 1 := by simp
  have HM1 := Lib.hid ((MapT.made (w.alloc (.cells #[.int .i64 0, .slice none 0 0, .map none] 142)) (fun i => (i : Int))).alloc (.cells #[.int .i64 0, .slice none 0 0, .map (some (w.heap.size + 1))] 142))
  have B1 := Lib.hid (Blk.new_at (w := (w.alloc (.cells #[.int .i64 0, .slice none 0 0, .map none] 142)).alloc (.map #[] 0)) (cs := #[.int .i64 0, .slice none 0 0, .map (some (w.heap.size + 1))]) (t := 142) (w.heap.size + 1 + 1) (by simp))
  go_wp2_with fail
  generalize w.alloc (.cells #[.int .i64 0, .slice none 0 0, .map none] 142) = W0 at *
  rw [z0] at HM1
  have RS0 : Hid (RS ((W0.alloc (.map #[] 0)).alloc (.cells #[.int .i64 0, .slice none 0 0, .map (some (w.heap.size + 1))] 142)) (w.heap.size + 1) (w.heap.size + 1 + 1) (w.heap.size + 1) (.slice none 0 0) [] f L []) := Lib.hid
    ⟨B1.out, by omega, Nat.le_refl _, by omega, by simp [Value.ownBlock], by simp [Value.ownBlock], World.ownsRow_nil _ _ _ _, HM1.out, rfl, fun t ht => (by cases ht), fun i t ht => (by simp at ht)⟩
  have HB0 : Hid (Below (w.heap.size + 1) W0 ((W0.alloc (.map #[] 0)).alloc (.cells #[.int .i64 0, .slice none 0 0, .map (some (w.heap.size + 1))] 142))) := Lib.hid (((Below.refl _ _).alloc (by omega) _).alloc (by simp; omega) _)
  have zz : w.heap.size + 3 ≤ ((W0.alloc (.map #[] 0)).alloc (.cells #[.int .i64 0, .slice none 0 0, .map (some (w.heap.size + 1))] 142)).heap.size := by simp; omega
  generalize (W0.alloc (.map #[] 0)).alloc (.cells #[.int .i64 0, .slice none 0 0, .map (some (w.heap.size + 1))] 142) = W3 at *
  clear HM1 B1
  generalize hrb : w.heap.size + 1 + 1 = rb at *
  generalize hmb : w.heap.size + 1 = mb at *
  have HBW : Hid (∀ wr, Below mb W0 wr → Below w.heap.size w wr) := Lib.hid (fun wr hb => HW0.out.trans (hb.mono (by omega)))
  go_loopw [17] (fun p wr => ∃ (i : Nat) (v : Value) (M : List GM), i ≤ roots.length ∧ p = .int .i64 (i : Int) ∧ Hid (Below mb W0 wr) ∧ Hid (RS wr mb rb mb v M f L (addNew [] (roots.take i))) ∧ Hid (∀ j, j < i → lf roots j ∈ placesO L)) (fun p _ => roots.length - (intOf p).toNat)
  case atStart => exact ⟨0, _, [], by omega, rfl, HB0, RS0, Lib.hid (fun j hj => by omega)⟩
  case round =>
    clear HB0 RS0 zz
    obtain ⟨i, v, M, hi, rfl, HB_r, RS_r, HD⟩ := hrel
    have hzr : mb ≤ wr.heap.size := by have := RS_r.out.map.lt; omega
    by_cases hlt : i < roots.length
    · have hlt' : (i : Int) < (roots.length : Int) := by omega
      have hi0 : (0 : Int) ≤ (i : Int) := by omega
      obtain ⟨xb, xo, rfl, hxb, hxc⟩ := src_some (HRS.out.below (HBW.out _ HB_r.out)) (by omega)
      have c0 := hxc i hlt
      obtain ⟨y, hy⟩ : ∃ y, lf roots i = y := ⟨_, rfl⟩
      have HY := Lib.hid hy
      have HME := Lib.hid (lf_mem hlt)
      have HSN := Lib.hid (roots_snoc hlt [])
      rw [hy] at c0 HME HSN
      clear hxc hy
      go_wp2_with fail
      refine (find_any a L.length kc T y _ (HSH.out.below (HBW.out _ HB_r.out)).gv (by omega) HSH.out.sort).mono ?_
      rintro e w1 ⟨hb, hr⟩
      have HB1 := Lib.hid (HB_r.out.trans (hb.mono hzr))
      have RS1 := Lib.hid (RS_r.out.below hb)
      have z1 := hb.size
      clear hb
      rcases hr with ⟨j, hj, hat, rfl⟩ | ⟨hn, rfl⟩
      · obtain ⟨ho1, ho2, ho3⟩ := HSH.out.obj hj
        have HO := Lib.hid (And.intro ho1 (And.intro ho2 (And.intro ho3 (And.intro (HSH.out.src hj) (HSH.out.yes hj)))))
        have HL6 := Lib.hid (addNew_len (roots.take i) [])
        have HAT := Lib.hid hat
        clear ho1 ho2 ho3 hat
        generalize T j = t at *
        go_wp2_with fail
        have RS2 := Lib.hid (RS1.out.below ((Below.refl _ _).alloc (Nat.le_refl _) (.cells #[.int .i64 0, .int .i64 t.at_, .int .i64 t.s, .int .i64 t.m, .int .i64 t.o, .int .i64 t.h, .slice t.a t.n t.c] 124)))
        have HB2 := Lib.hid (HB1.out.alloc (by omega) (.cells #[.int .i64 0, .int .i64 t.at_, .int .i64 t.s, .int .i64 t.m, .int .i64 t.o, .int .i64 t.h, .slice t.a t.n t.c] 124))
        have z2 : w1.heap.size + 1 = (w1.alloc (.cells #[.int .i64 0, .int .i64 t.at_, .int .i64 t.s, .int .i64 t.m, .int .i64 t.o, .int .i64 t.h, .slice t.a t.n t.c] 124)).heap.size := by simp
        clear RS1 HB1
        generalize w1.alloc (.cells #[.int .i64 0, .int .i64 t.at_, .int .i64 t.s, .int .i64 t.m, .int .i64 t.o, .int .i64 t.h, .slice t.a t.n t.c] 124) = w2 at *
        have hs2 := HO.out.2.2.2.1
        refine (add_any mb rb mb v M f L _ t L[j] _ RS2.out (by have := HO.out.2.2.1; omega) (by omega) HO.out.1 HO.out.2.1 (HO.out.2.2.2.1.below (HBW.out _ HB2.out)) (by rcases gm_lt hs2 with h0 | h0; exact .inl h0; exact .inr (by omega)) (by have := HL6.out; simp at this; omega)).mono ?_
        rintro e w3 ⟨rfl, hb, hz, v', M', hrs⟩
        have HB3 := Lib.hid (HB2.out.trans hb)
        have RS3 : Hid (RS w3 mb rb mb v' M' f L (addNew [] (roots.take (i + 1)))) := Lib.hid (by rw [HSN.out, ← HAT.out]; exact hrs)
        have HP := Lib.hid (show y ∈ placesO L by rw [← HAT.out]; exact HO.out.2.2.2.2)
        clear hb hrs hs2 HB2 RS2 HO
        go_wp2
        go_roundw
        case rel => first | exact ⟨i + 1, v', M', by omega, by go_num, HB3, RS3, Lib.hid (fun j hj => by rcases Nat.lt_succ_iff_lt_or_eq.mp hj with h1 | h1; exact HD.out j h1; subst h1; rw [HY.out]; exact HP.out)⟩ | ((repeat apply Exists.intro); exact ⟨⟨i + 1, v', M', by omega, by go_num, HB3, RS3, Lib.hid (fun j hj => by rcases Nat.lt_succ_iff_lt_or_eq.mp hj with h1 | h1; exact HD.out j h1; subst h1; rw [HY.out]; exact HP.out)⟩, rfl⟩)
        case measure => simp [intOf]; omega
      · have hnp := HSH.out.nope hn
        have HNP := Lib.hid hnp
        have R_1 := Lib.hid (blk_under R0.out HB1.out (by omega))
        clear hn hnp
        have lR := R_1.out.1; have cR0 := R_1.out.at 0 rfl; have fR0 := R_1.out.free 0 rfl; have cR1 := R_1.out.at 1 rfl; have fR1 := R_1.out.free 1 rfl; have cR2 := R_1.out.at 2 rfl; have fR2 := R_1.out.free 2 rfl
        go_wp2
        refine bodyPost_ret (v := .agg #[.int .i64 4, .slice none 0 0, .map none]) (by simp [results, Try.results122, go_sem, cR0, cR1, cR2, lR]) rfl ⟨?_, .inl ⟨⟨y, HME.out, HNP.out⟩, rfl⟩⟩
        repeat (first | (with_reducible refine Below.setCell ?_ (by (try simp); (try omega)) _) | (with_reducible refine Below.alloc ?_ (by (try simp); (try omega)) _) | (with_reducible refine Below.drew ?_))
        exact HBW.out _ HB1.out
    · have hlt' : ¬ (i : Int) < (roots.length : Int) := by omega
      obtain rfl : i = roots.length := by omega
      have HALL : Hid (∀ p ∈ roots, p ∈ placesO L) := Lib.hid (fun p hp => by
        obtain ⟨j, hj, rfl⟩ := List.getElem_of_mem hp
        rw [← lf_at hj]; exact HD.out j hj)
      have HSC : Hid (SC f L roots 0 (addNew [] roots)) := Lib.hid (sc_start HALL.out)
      have RS4 : Hid (RS wr mb rb mb v M f L (addNew [] roots)) := Lib.hid (by have := RS_r.out; rw [List.take_length] at this; exact this)
      clear HD RS_r
      have st0 := st_of_sc HSC.out
      have ST0 := Lib.hid st0
      clear hlt hlt' HSC HRS st0 hrn hi
      go_wp2
      go_step3
      go_wp2_with fail
      go_loopw [9, 10] (fun p q wr => ∃ (n i : Nat) (v : Value) (M : List GM) (O : List Int), p = .int .i64 (n : Int) ∧ q = .int .i64 (i : Int) ∧ n ≤ L.length ∧ i ≤ 12 ∧ Hid (Below mb W0 wr) ∧ Hid (RS wr mb rb mb v M f L O) ∧ Hid (ST f L roots n i O)) (fun p q _ => (L.length - (intOf p).toNat) * 14 + (13 - (intOf q).toNat))
      case atStart => exact ⟨0, 0, v, M, _, rfl, rfl, by omega, by omega, HB_r, RS4, ST0⟩
      case round =>
        clear HB_r RS4 ST0 hzr
        obtain ⟨n, i, v, M, O, rfl, rfl, hnl, hi12, HB_r, RS_r, STT⟩ := hrel
        have hzr : mb ≤ wr.heap.size := by have := RS_r.out.map.lt; omega
        have hml := Lib.hid RS_r.out.len
        have hol := ST.len STT.out
        have hB := RS_r.out.blk
        obtain ⟨av, kv, hv⟩ := rowG_val RS_r.out.row
        subst hv
        have lB := hB.1; have cB0 := hB.at 0 rfl; have cB1 := hB.at 1 rfl; have cB2 := hB.at 2 rfl
        clear hB
        rcases STT.out with ⟨hn, hi0, hsc⟩ | ⟨x, hix, hsi⟩
        · have hnm : n = M.length := by rw [hml.out]; exact hn
          subst hi0
          have HSC := Lib.hid hsc
          have R_r := Lib.hid (blk_under R0.out HB_r.out (by omega))
          have HE : Hid (reachO f L roots = O) := Lib.hid (sc_end hsc (by omega))
          obtain ⟨a', c', he, hg⟩ := rowG_GV RS_r.out.row (fun t ht => (RS_r.out.src t ht).1)
          have HGV := Lib.hid hg; have HEE := Lib.hid he
          clear hsc hg he hn
          subst hnm
          have lR := R_r.out.1; have cR0 := R_r.out.at 0 rfl; have fR0 := R_r.out.free 0 rfl; have cR1 := R_r.out.at 1 rfl; have fR1 := R_r.out.free 1 rfl; have cR2 := R_r.out.at 2 rfl; have fR2 := R_r.out.free 2 rfl
          go_wp2
          rw [Exit.noGoto_ret]
          refine bodyPost_ret (v := .agg #[.int .i64 0, .slice av M.length kv, .map (some mb)]) (by simp [results, Try.results122, go_sem, cR0, cR1, cR2]) rfl ?_
          have hRF := ((RS_r.out.set (p := ⟨w.heap.size, 0, none⟩) hmb (.int .i64 0)).set (p := ⟨w.heap.size, 1, none⟩) hmb (.slice av M.length kv)).set (p := ⟨w.heap.size, 2, none⟩) hmb (.map (some mb))
          have hBF : Below w.heap.size w (((wr.setCell ⟨w.heap.size, 0, none⟩ (.int .i64 0)).setCell ⟨w.heap.size, 1, none⟩ (.slice av M.length kv)).setCell ⟨w.heap.size, 2, none⟩ (.map (some mb))) := (((HBW.out _ HB_r.out).setCell (Nat.le_refl _) _).setCell (Nat.le_refl _) _).setCell (Nat.le_refl _) _
          exact ret_of_rs HALL.out HE.out hRF hBF
        · have hnO : n < O.length := hsi.lt
          have hnM : n < M.length := by rw [hml.out]; exact hnO
          have hnm : ¬ n = M.length := by omega
          have hnm' : ((n : Int) == (M.length : Int)) = false := by simp; omega
          have hn0 : (0 : Int) ≤ (n : Int) := by omega
          have hnI : (n : Int) < (M.length : Int) := by omega
          obtain ⟨a', c', he, hg⟩ := RS_r.out.out
          simp only [Value.slice.injEq] at he
          obtain ⟨rfl, -, rfl⟩ := he
          obtain ⟨gb, gq, rfl, gs⟩ : ∃ b q, av = some ⟨b, q, none⟩ ∧ GSrc wr b q M.length (gT M) := by
            rcases hg with h0 | h
            · omega
            · exact h
          have hMn : M[n]? = some M[n] := List.getElem?_eq_getElem hnM
          obtain ⟨x', hx', hsame⟩ := RS_r.out.same n M[n] hMn
          rw [hsi.at_] at hx'
          obtain rfl := Option.some.inj hx'
          have hsx := gs.six n hnM
          have hfx := gs.flds n hnM
          rw [gT_at hMn] at hsx hfx
          have hxL : x ∈ L := List.mem_of_find?_eq_some hsi.at_
          have hok := HSH.out.right.ok x hxL
          have hwd := HSH.out.word x hxL
          generalize M[n] = t at *
          obtain ⟨s0, s1, s2, s3, s4, s5⟩ := hsx
          have htn : t.n = x.s.toNat := hsame.2.2.2.2.2.1
          have htx : t.s = x.s ∧ t.m = x.m ∧ t.o = x.o ∧ t.h = x.h := ⟨hsame.2.1, hsame.2.2.1, hsame.2.2.2.1, hsame.2.2.2.2.1⟩
          have HSM := Lib.hid hsame; have HFX := Lib.hid hfx; have HOK := Lib.hid hok; have HWD := Lib.hid hwd; have HSI := Lib.hid hsi; have HTX := Lib.hid htx
          have hs12 : x.s.toNat ≤ 12 := by have := hok.1.1; omega
          have HTN := Lib.hid htn
          clear hsame hfx hok hwd hsi htx gs hg hMn hxL htn hml
          by_cases hie : i = t.n
          · have hie' : ((i : Int) == (t.n : Int)) = true := by simp; omega
            have STN := Lib.hid (st_of_sc (si_end HSI.out (by rw [← HTN.out, hie]; exact Nat.le_refl _)))
            go_wp2
            go_roundw
            case rel => first | exact ⟨n + 1, 0, _, M, O, by go_num, rfl, by omega, by omega, HB_r, RS_r, STN⟩ | ((repeat apply Exists.intro); exact ⟨⟨n + 1, 0, _, M, O, by go_num, rfl, by omega, by omega, HB_r, RS_r, STN⟩, rfl⟩)
            case measure => simp [intOf]; omega
          · have hie' : ((i : Int) == (t.n : Int)) = false := by simp; omega
            have hit : i < t.n := by have := HTN.out; omega
            have hkx : i < x.s.toNat := by have := HTN.out; omega
            have HTG := Lib.hid (tgt_eq HSM.out hkx)
            go_wp2_with fail
            clear s0 s1 s2 s3 s4 s5
            refine (target_any t i _ HFX.out hit (by rw [HTX.out.1, HTX.out.2.1, HTX.out.2.2.1, HTX.out.2.2.2]; exact HOK.out.1) (by rw [HTX.out.1]; exact HTN.out) (by rw [show t.f i = f (x.at_.toNat + 2 + i) from HSM.out.2.2.2.2.2.2 i hit]; exact HWD.out i hkx)).mono ?_
            rintro e w1 ⟨hb, rfl⟩
            have HB1 := Lib.hid (HB_r.out.trans (hb.mono hzr))
            have RS1 := Lib.hid (RS_r.out.below hb)
            have z1 := hb.size
            clear hb
            rw [HTG.out]
            by_cases hd : x.m / P2 (i : Int) % 2 = 1 ∧ ¬ f (x.at_.toNat + 2 + i) = 0
            · rw [if_pos hd]
              have hsy := si_yes HSH.out.right.points HSH.out.right.size HSI.out hkx hd.1 hd.2
              have hin := si_in HSH.out.right.points HSH.out.right.size HSI.out hkx hd.1 hd.2
              obtain ⟨y, hy⟩ : ∃ y, f (x.at_.toNat + 2 + i) - 1 = y := ⟨_, rfl⟩
              rw [hy] at hsy hin ⊢
              have HSY := Lib.hid hsy; have HIN := Lib.hid hin
              clear hsy hin hd hy
              simp only [Option.getD_some, Option.isSome_some]
              go_wp2_with fail
              refine (find_any _ L.length kc T y _ (HSH.out.below (HBW.out _ HB1.out)).gv (by omega) HSH.out.sort).mono ?_
              rintro e w2 ⟨hb, hr⟩
              have HB2 := Lib.hid (HB1.out.trans (hb.mono (by omega)))
              have RS2 := Lib.hid (RS1.out.below hb)
              have z2 := hb.size
              clear hb
              rcases hr with ⟨j, hj, hat, rfl⟩ | ⟨hn, rfl⟩
              case inr => exact absurd HIN.out (HSH.out.nope hn)
              obtain ⟨ho1, ho2, ho3⟩ := HSH.out.obj hj
              have HO := Lib.hid (And.intro ho1 (And.intro ho2 (And.intro ho3 (HSH.out.src hj))))
              have HAT := Lib.hid hat
              clear ho1 ho2 ho3 hat
              have hf7 := fld_obj7
              generalize T j = u at *
              go_wp2_with fail
              have hs2 := HO.out.2.2.2
              refine (add_any mb rb mb _ M f L O u L[j] _ RS2.out (by have := HO.out.2.2.1; omega) (by omega) HO.out.1 HO.out.2.1 (HO.out.2.2.2.below (HBW.out _ HB2.out)) (by rcases gm_lt hs2 with h0 | h0; exact .inl h0; exact .inr (by omega)) (by omega)).mono ?_
              rintro e w3 ⟨rfl, hb, hz, v', M', hrs⟩
              have HB3 := Lib.hid (HB2.out.trans hb)
              have RS3 : Hid (RS w3 mb rb mb v' M' f L (add1 O y)) := Lib.hid (by rw [← HAT.out]; exact hrs)
              have STN : Hid (ST f L roots n (i + 1) (add1 O y)) := Lib.hid (.inr ⟨x, by omega, HSY.out⟩)
              clear hb hrs hs2 HB2 RS2 HO hf7
              go_wp2
              go_roundw
              case rel => first | exact ⟨n, i + 1, v', M', _, rfl, by go_num, by omega, by omega, HB3, RS3, STN⟩ | ((repeat apply Exists.intro); exact ⟨⟨n, i + 1, v', M', _, rfl, by go_num, by omega, by omega, HB3, RS3, STN⟩, rfl⟩)
              case measure => simp [intOf]; omega
            · rw [if_neg hd]
              have STN : Hid (ST f L roots n (i + 1) O) := Lib.hid (.inr ⟨x, by omega, si_no HSI.out hkx hd⟩)
              simp only [Option.getD_none, Option.isSome_none]
              clear hd
              go_wp2
              go_roundw
              case rel => first | exact ⟨n, i + 1, _, M, O, rfl, by go_num, by omega, by omega, HB1, RS1, STN⟩ | ((repeat apply Exists.intro); exact ⟨⟨n, i + 1, _, M, O, rfl, by go_num, by omega, by omega, HB1, RS1, STN⟩, rfl⟩)
              case measure => simp [intOf]; omega
end Go.Proofs.Ytnacdhnnpddccaa

namespace Go.Proofs.Ytnacdhnnpddccaa
open Go.RowKit Go.Maps
set_option linter.unusedVariables false

theorem shaped_of {h : Int} {n : Nat} {f : Nat → Int} {ac bu : Int} {L : List Ob} {w : World} {a : Option Addr} {T : Nat → GM} (hk : IsSF h n f ac bu 0) (ho : IsOI h n f ac bu 0 L) (hg : GV w a L.length T) (hT : ∀ i, i < L.length → GSame (T i) (obT f L i)) : Shaped w a T f L := by
  obtain ⟨h4, h5⟩ := isOI_zero ho
  obtain ⟨⟨⟨g1, g2⟩, ⟨g3, g4⟩, g5, g6⟩, gn, gw⟩ := isFault_ok h4
  have hb := baseI_bd (ac := ac) g1
  have hPU : (baseI ac h).toNat + bu.toNat ≤ n := by
    have hb0 : 0 ≤ baseI ac h ∧ baseI ac h ≤ h ∧ baseI ac h + h ≤ 2 * h := by rcases (by omega : ac = 0 ∨ ac = 1) with rfl | rfl <;> simp [baseI] <;> omega
    omega
  have hok := parse_ok h5 hPU gw
  have hln := parse_length _ _ L (Nat.le_refl _) h5
  refine ⟨hg, hT, fun i j hij hj => sorted_T h5 hT i j hij hj, right_of hk ho, by omega, fun x hx => ?_, fun x hx => (hok x hx).2.2.2.2⟩
  have := (hok x hx).2.2.2.1
  omega

/-- A block that holds no more than a code, an empty row and no map. -/
def Dead (w : World) (R : Nat) : Prop := ∃ t fr, w.heap[R]? = some (.cells #[.int .i64 0, .slice none 0 0, .map none] t fr)

theorem dead_new {w : World} {t : TypeId} (R : Nat) (hR : R = w.heap.size) : Dead (w.alloc (.cells #[.int .i64 0, .slice none 0 0, .map none] t)) R := by
  subst hR
  exact ⟨t, _, (heap_alloc_new w _)⟩

theorem Dead.below {w w' : World} {R : Nat} (h : Dead w R) (hb : Below w.heap.size w w') : Dead w' R := by
  obtain ⟨t, fr, h1⟩ := h
  exact ⟨t, fr, (hb.block R (Array.getElem?_eq_some_iff.1 h1).1).trans h1⟩

def lain (w : World) (R : Nat) (x y : Value) : World := ((w.setCell ⟨R, 0, none⟩ (.int .i64 0)).setCell ⟨R, 1, none⟩ x).setCell ⟨R, 2, none⟩ y

theorem lain_block {w : World} {R b : Nat} {x y : Value} (h : b ≠ R) : (lain w R x y).heap[b]? = w.heap[b]? :=
  (Below.heap_setCell _ _ _ b h).trans ((Below.heap_setCell _ _ _ b h).trans (Below.heap_setCell _ _ _ b h))

theorem dead_cell {w : World} {R : Nat} (h : Dead w R) (o : Nat) : w.cell? ⟨R, o, none⟩ = (#[.int .i64 0, .slice none 0 0, .map none] : Array Value)[o]? := by
  obtain ⟨t, fr, h1⟩ := h
  exact cell_of_row w R o _ t fr h1

theorem dead_int {w : World} {R b o : Nat} {v : Int} (h : Dead w R) (hc : w.cell? ⟨b, o, none⟩ = some (.int .i64 v)) (x y : Value) : (lain w R x y).cell? ⟨b, o, none⟩ = some (.int .i64 v) := by
  by_cases e : b = R
  · subst e
    have h0 := dead_cell h o
    rw [hc] at h0
    match o, h0 with
    | 0, h0 =>
      have h9 : v = 0 := by simpa using h0
      subst h9
      have hc' : (w.setCell ⟨b, 0, none⟩ (.int .i64 0)).cell? ⟨b, 0, none⟩ = some (.int .i64 0) := by rw [World.cell?_setCell_same' _ _ _ (by rw [hc]; rfl)]
      unfold lain
      rw [World.cell?_setCell_other _ _ _ _ (by simp), World.cell?_setCell_other _ _ _ _ (by simp)]
      exact hc'
    | 1, h0 => simp at h0
    | 2, h0 => simp at h0
    | o + 3, h0 => simp at h0
  · exact (World.cell?_of_block (w := w) (a := ⟨b, o, none⟩) (lain_block e)).trans hc

theorem dead_src {w : World} {R : Nat} {a : Option Addr} {n : Nat} {f : Nat → Int} (h : Dead w R) (hs : Src w a n f) (x y : Value) : Src (lain w R x y) a n f := by
  rcases hs with h0 | ⟨b, o, e, hb, hc⟩
  · exact .inl h0
  · exact .inr ⟨b, o, e, by simpa [lain] using hb, fun i hi => dead_int h (hc i hi) x y⟩

theorem dead_gv {w : World} {R : Nat} {a : Option Addr} {N : Nat} {T : Nat → GM} (h : Dead w R) (hg : GV w a N T) (x y : Value) : GV (lain w R x y) a N T := by
  rcases hg with h0 | ⟨b, q, e, g⟩
  · exact .inl h0
  · rcases Nat.eq_zero_or_pos N with h0 | hp
    · exact .inl h0
    have hne : b ≠ R := fun e => by
      subst e
      have h0 := (g.six 0 hp).1
      have h1 := (g.six 0 hp).2.1
      rw [dead_cell h] at h0 h1
      match q, h0, h1 with
      | 0, h0, h1 => simp at h1
      | 1, h0, h1 => simp at h0
      | 2, h0, h1 => simp at h0
      | q + 3, h0, h1 => simp at h0
    exact .inr ⟨b, q, e, by have := g.lt; simpa [lain] using this, fun i hi => (g.six i hi).block (lain_block hne), fun i hi => dead_src h (g.flds i hi) x y⟩

theorem dead_map {w : World} {R mb n : Nat} {O : List Int} {v : Nat → Int} (h : Dead w R) (hm : MapT w mb n O v) (x y : Value) : MapT (lain w R x y) mb n O v := by
  refine hm.block (lain_block fun e => ?_)
  subst e
  obtain ⟨t, fr, h1⟩ := h
  obtain ⟨D, ⟨es, clock, h2, _⟩, _⟩ := hm
  rw [h1] at h2; cases h2

def RetIn (W : World) (f : Nat → Int) (roots : List Int) (co : Int) (L : List Ob) (e : Ending) (w' : World) : Prop :=
  Below W.heap.size W w' ∧ ((¬ co = 0 ∧ e = .returned (.agg #[.int .i64 co, .slice none 0 0, .map none])) ∨
    (co = 0 ∧ ∃ a c mb T, e = .returned (.agg #[.int .i64 0, .slice a (reachO f L roots).length c, .map (some mb)]) ∧ GV w' a (reachO f L roots).length T ∧ MapT w' mb (reachO f L roots).length (reachO f L roots) (fun i => (i : Int)) ∧ ∀ i, i < (reachO f L roots).length → ∃ x, findO L (lf (reachO f L roots) i) = some x ∧ GSame (T i) (obG f x)))

set_option maxRecDepth 100000 in
set_option maxHeartbeats 1600000 in
theorem reachIn_code (h ac bu : Int) (a : Option Addr) (n c : Nat) (f : Nat → Int) (ra : Option Addr) (roots : List Int) (rc : Nat) (co : Int) (L : List Ob) (w : World) (hs : Src w a n f) (hcn : n ≤ c) (hcm : c ≤ maxLen) (hrs : Src w ra roots.length (lf roots)) (hk : IsSF h n f ac bu co) (h0 : ¬ co = 0) :
    Calls Try.prog 104 #[.agg #[.int .i64 h, .slice a n c, .int .i64 ac, .int .i64 bu], .slice ra roots.length rc] w (RetIn w f roots co L) := by
  have HS := Lib.hid hs; have HK := Lib.hid hk; have HCM := Lib.hid hcm; have HRS := Lib.hid hrs
  clear hs hk hcm hrs
  go_enter Try.func104, Try.ntmps104
  go_wp2_with fail
  refine (shaped_any h ac bu a n c f _ ((HS.out.alloc _).alloc _) hcn HCM.out co [] (.inl ⟨HK.out, h0, rfl⟩)).mono ?_
  rintro e w1 ⟨a1, c1, T, rfl, hg, hT, hb, hc1, hc2⟩
  have HB1 := Lib.hid (thru2 (Below.refl _ _) hb)
  have R_1 := Lib.hid ((Blk.new_at (w := w.alloc (.cells #[.int .i64 h, .slice a n c, .int .i64 ac, .int .i64 bu] 34)) (cs := #[.int .i64 0, .slice none 0 0, .map none]) (t := 142) (w.heap.size + 1) (by simp)).below hb)
  have z1 : w.heap.size + 2 ≤ w1.heap.size := by have := hb.size; simp at this; omega
  have HG := Lib.hid hg; have HT := Lib.hid hT
  have HBb := Lib.hid hb
  clear hb hg hT hc1 hc2
  have hz := HB1.out.size
  have hd : (co != 0) = true := by simpa using h0
  have H0 := Lib.hid h0
  clear h0
  have lR := R_1.out.1; have cR0 := R_1.out.at 0 rfl; have fR0 := R_1.out.free 0 rfl; have cR1 := R_1.out.at 1 rfl; have fR1 := R_1.out.free 1 rfl; have cR2 := R_1.out.at 2 rfl; have fR2 := R_1.out.free 2 rfl
  go_wp2
  refine bodyPost_ret (v := .agg #[.int .i64 co, .slice none 0 0, .map none]) (by simp [results, Try.results104, go_sem, cR0, cR1, cR2, lR]) rfl ⟨?_, .inl ⟨H0.out, rfl⟩⟩
  repeat (first | (with_reducible refine Below.setCell ?_ (by (try simp); (try omega)) _) | (with_reducible refine Below.alloc ?_ (by (try simp); (try omega)) _) | (with_reducible refine Below.drew ?_))
  exact HB1.out

set_option maxRecDepth 100000 in
set_option maxHeartbeats 1600000 in
theorem reachIn_many (h ac bu : Int) (a : Option Addr) (n c : Nat) (f : Nat → Int) (ra : Option Addr) (roots : List Int) (rc : Nat) (co : Int) (L : List Ob) (w : World) (hs : Src w a n f) (hcn : n ≤ c) (hcm : c ≤ maxLen) (hrs : Src w ra roots.length (lf roots)) (hk : IsSF h n f ac bu 0) (L0 : List Ob) (ho : IsOI h n f ac bu 0 L0) (h0 : 60 < roots.length) :
    Calls Try.prog 104 #[.agg #[.int .i64 h, .slice a n c, .int .i64 ac, .int .i64 bu], .slice ra roots.length rc] w (RetIn w f roots 2 L) := by
  have HS := Lib.hid hs; have HK := Lib.hid hk; have HCM := Lib.hid hcm; have HRS := Lib.hid hrs
  clear hs hk hcm hrs
  go_enter Try.func104, Try.ntmps104
  go_wp2_with fail
  refine (shaped_any h ac bu a n c f _ ((HS.out.alloc _).alloc _) hcn HCM.out 0 L0 (.inr ⟨rfl, HK.out, ho⟩)).mono ?_
  rintro e w1 ⟨a1, c1, T, rfl, hg, hT, hb, hc1, hc2⟩
  have HB1 := Lib.hid (thru2 (Below.refl _ _) hb)
  have R_1 := Lib.hid ((Blk.new_at (w := w.alloc (.cells #[.int .i64 h, .slice a n c, .int .i64 ac, .int .i64 bu] 34)) (cs := #[.int .i64 0, .slice none 0 0, .map none]) (t := 142) (w.heap.size + 1) (by simp)).below hb)
  have z1 : w.heap.size + 2 ≤ w1.heap.size := by have := hb.size; simp at this; omega
  have HG := Lib.hid hg; have HT := Lib.hid hT
  have HBb := Lib.hid hb
  clear hb hg hT hc1 hc2
  have hz := HB1.out.size
  have hd : (60 : Int) < (roots.length : Int) := by omega
  clear h0 ho
  have lR := R_1.out.1; have cR0 := R_1.out.at 0 rfl; have fR0 := R_1.out.free 0 rfl; have cR1 := R_1.out.at 1 rfl; have fR1 := R_1.out.free 1 rfl; have cR2 := R_1.out.at 2 rfl; have fR2 := R_1.out.free 2 rfl
  go_wp2
  refine bodyPost_ret (v := .agg #[.int .i64 2, .slice none 0 0, .map none]) (by simp [results, Try.results104, go_sem, cR0, cR1, cR2, lR]) rfl ⟨?_, .inl ⟨by decide, rfl⟩⟩
  repeat (first | (with_reducible refine Below.setCell ?_ (by (try simp); (try omega)) _) | (with_reducible refine Below.alloc ?_ (by (try simp); (try omega)) _) | (with_reducible refine Below.drew ?_))
  exact HB1.out

set_option maxRecDepth 100000 in
set_option maxHeartbeats 1600000 in
theorem reachIn_rest (h ac bu : Int) (a : Option Addr) (n c : Nat) (f : Nat → Int) (ra : Option Addr) (roots : List Int) (rc : Nat) (co : Int) (L : List Ob) (w : World) (hs : Src w a n f) (hcn : n ≤ c) (hcm : c ≤ maxLen) (hrs : Src w ra roots.length (lf roots)) (hk : IsSF h n f ac bu 0) (ho : IsOI h n f ac bu 0 L) (h60 : roots.length ≤ 60) (hco : ((∃ p ∈ roots, p ∉ placesO L) ∧ co = 4) ∨ ((∀ p ∈ roots, p ∈ placesO L) ∧ co = 0)) :
    Calls Try.prog 104 #[.agg #[.int .i64 h, .slice a n c, .int .i64 ac, .int .i64 bu], .slice ra roots.length rc] w (RetIn w f roots co L) := by
  have HS := Lib.hid hs; have HK := Lib.hid hk; have HCM := Lib.hid hcm; have HRS := Lib.hid hrs
  have HO := Lib.hid ho; have HCO := Lib.hid hco
  clear hs hk hcm hrs ho hco
  go_enter Try.func104, Try.ntmps104
  go_wp2_with fail
  refine (shaped_any h ac bu a n c f _ ((HS.out.alloc _).alloc _) hcn HCM.out 0 L (.inr ⟨rfl, HK.out, HO.out⟩)).mono ?_
  rintro e w1 ⟨a1, c1, T, rfl, hg, hT, hb, hc1, hc2⟩
  have HB1 := Lib.hid (thru2 (Below.refl _ _) hb)
  have R_1 := Lib.hid ((Blk.new_at (w := w.alloc (.cells #[.int .i64 h, .slice a n c, .int .i64 ac, .int .i64 bu] 34)) (cs := #[.int .i64 0, .slice none 0 0, .map none]) (t := 142) (w.heap.size + 1) (by simp)).below hb)
  have z1 : w.heap.size + 2 ≤ w1.heap.size := by have := hb.size; simp at this; omega
  have HG := Lib.hid hg; have HT := Lib.hid hT
  have HBb := Lib.hid hb
  clear hb hg hT hc1 hc2
  have hz := HB1.out.size
  have hd : ¬ (60 : Int) < (roots.length : Int) := by omega
  have DE_1 := Lib.hid ((dead_new (w := w.alloc (.cells #[.int .i64 h, .slice a n c, .int .i64 ac, .int .i64 bu] 34)) (t := 142) (w.heap.size + 1) (by simp)).below HBb.out)
  have HSH := Lib.hid (shaped_of HK.out HO.out HG.out.src HT.out)
  clear HG HT
  go_wp2_with fail
  have HB2 := Lib.hid (HB1.out.alloc hz (.cells #[.int .i64 0, .slice a1 L.length c1] 92))
  have DE2 := Lib.hid (DE_1.out.below ((Below.refl _ _).alloc (Nat.le_refl _) (.cells #[.int .i64 0, .slice a1 L.length c1] 92)))
  have R_2 := Lib.hid (R_1.out.alloc (.cells #[.int .i64 0, .slice a1 L.length c1] 92))
  have SH2 := Lib.hid (HSH.out.below ((Below.refl _ _).alloc (Nat.le_refl _) (.cells #[.int .i64 0, .slice a1 L.length c1] 92)))
  have hz2 : w.heap.size + 2 ≤ (w1.alloc (.cells #[.int .i64 0, .slice a1 L.length c1] 92)).heap.size := by simp; omega
  clear HB1 R_1 HSH
  generalize w1.alloc (.cells #[.int .i64 0, .slice a1 L.length c1] 92) = w2 at *
  refine (reachOf_any a1 c1 T f L ra roots rc _ SH2.out (HRS.out.below HB2.out) h60).mono ?_
  rintro e w3 ⟨hb, hr⟩
  have HB3 := Lib.hid (thru0 HB2.out hb)
  have R_3 := Lib.hid (R_2.out.below hb)
  have DE3 := Lib.hid (DE2.out.below hb)
  have z3 := hb.size
  clear hb
  have lR := R_3.out.1; have cR0 := R_3.out.at 0 rfl; have fR0 := R_3.out.free 0 rfl; have cR1 := R_3.out.at 1 rfl; have fR1 := R_3.out.free 1 rfl; have cR2 := R_3.out.at 2 rfl; have fR2 := R_3.out.free 2 rfl
  rcases hr with ⟨hbad, rfl⟩ | ⟨hall, a3, c3, mb, U, rfl, hgv, hmp, hsm⟩
  · have hc4 : co = 4 := by
      rcases HCO.out with ⟨_, h4⟩ | ⟨hq, _⟩
      · exact h4
      · obtain ⟨p, hp, hq'⟩ := hbad; exact absurd (hq p hp) hq'
    subst hc4
    clear hbad
    go_wp2
    refine bodyPost_ret (v := .agg #[.int .i64 4, .slice none 0 0, .map none]) (by simp [results, Try.results104, go_sem, cR0, cR1, cR2]) rfl ⟨?_, .inl ⟨by decide, rfl⟩⟩
    repeat (first | (with_reducible refine Below.setCell ?_ (by (try simp); (try omega)) _) | (with_reducible refine Below.alloc ?_ (by (try simp); (try omega)) _) | (with_reducible refine Below.drew ?_))
    exact HB3.out
  · have hc0 : co = 0 := by
      rcases HCO.out with ⟨⟨p, hp, hq⟩, _⟩ | ⟨_, h0⟩
      · exact absurd (hall p hp) hq
      · exact h0
    subst hc0
    have HGV := Lib.hid hgv; have HMP := Lib.hid hmp; have HSM := Lib.hid hsm
    clear hall hgv hmp hsm
    go_wp2
    refine bodyPost_ret (v := .agg #[.int .i64 0, .slice a3 (reachO f L roots).length c3, .map (some mb)]) (by simp [results, Try.results104, go_sem, cR0, cR1, cR2]) rfl ⟨?_, .inr ⟨rfl, a3, c3, mb, U, rfl, dead_gv DE3.out HGV.out _ _, dead_map DE3.out HMP.out _ _, HSM.out⟩⟩
    repeat (first | (with_reducible refine Below.setCell ?_ (by (try simp); (try omega)) _) | (with_reducible refine Below.alloc ?_ (by (try simp); (try omega)) _) | (with_reducible refine Below.drew ?_))
    exact HB3.out
end Go.Proofs.Ytnacdhnnpddccaa

namespace Go.Proofs.Ytnacdhnnpddccaa
open Go.RowKit Go.Maps
set_option linter.unusedVariables false

theorem news1b (w : World) (x : Int) (B : Nat) (hB : B = w.heap.size) : ∀ (j : Nat) (u : Value), ([.int .i64 x] : List Value)[j]? = some u → (w.alloc (.cells #[.int .i64 x] 2)).cell? ((⟨B, 0, none⟩ : Addr).add j) = some u := hB ▸ news1 w x

theorem nums_succ (n : Nat) (f : Nat → Int) : nums (n + 1) f = nums n f ++ [.int .i64 (f n)] := by simp [nums, List.range_succ]

theorem fld_ir (x y : Value) (w : World) : (Instr.field 44 (.agg #[x, y]) 1).run Try.prog w = .ok y w := by kernel_rfl

theorem gv_get {w : World} {a : Option Addr} {N : Nat} {T : Nat → GM} (h : GV w a N T) {i : Nat} (hi : i < N) : ∃ b q, a = some ⟨b, q, none⟩ ∧ b < w.heap.size ∧ SixG w b (q + i * 6) (T i) := by
  rcases h with h0 | ⟨b, q, e, g⟩
  · omega
  · exact ⟨b, q, e, g.lt, g.six i hi⟩

set_option maxRecDepth 100000 in
set_option maxHeartbeats 1600000 in
theorem places_any (a : Option Addr) (O : List Int) (c : Nat) (T : Nat → GM) (w : World) (hg : GV w a O.length T) (hl : O.length ≤ 1000000) (hO : ∀ i, i < O.length → (T i).at_ = lf O i) :
    Calls Try.prog 61 #[.slice a O.length c] w (RetInts w O.length (lf O)) := by
  have G := Lib.hid hg; have HO := Lib.hid hO
  obtain ⟨i0, hif, hz0, hz1, hz2⟩ := info_parts Try.info2
  clear hg hO
  go_enter Try.func61, Try.ntmps61
  go_wp2
  go_loopw [3, 8] (fun u p wr => ∃ i : Nat, i ≤ O.length ∧ p = .int .i64 (i : Int) ∧ Hid (Below w.heap.size w wr) ∧ Hid (wr.ownsRow w.heap.size 2 1 u i (nums i (lf O)))) (fun _ p _ => O.length - (intOf p).toNat)
  case atStart => exact ⟨0, Nat.zero_le _, rfl, Below.refl _ _, World.ownsRow_nil _ _ _ _⟩
  case round =>
    obtain ⟨i, hi, rfl, HB_r, OW_r⟩ := hrel
    have hzr := HB_r.out.size
    by_cases hlt : i < O.length
    · have hlt' : (i : Int) < (O.length : Int) := by omega
      have hi0 : (0 : Int) ≤ (i : Int) := by omega
      obtain ⟨b, q, rfl, lb, hsix⟩ := gv_get (G.out.below HB_r.out) hlt
      have HAT := Lib.hid (HO.out i hlt)
      have HAL : Hid (Below w.heap.size w (wr.alloc (.cells #[.int .i64 (T i).at_, .int .i64 (T i).s, .int .i64 (T i).m, .int .i64 (T i).o, .int .i64 (T i).h, .slice (T i).a (T i).n (T i).c] 87))) := Lib.hid (HB_r.out.alloc hzr _)
      have OWA := Lib.hid (OW_r.out.alloc (.cells #[.int .i64 (T i).at_, .int .i64 (T i).s, .int .i64 (T i).m, .int .i64 (T i).o, .int .i64 (T i).h, .slice (T i).a (T i).n (T i).c] 87))
      have HGE : Hid (∀ k, u3.ownBlock = some k → w.heap.size ≤ k) := Lib.hid (fun k hk => (OW_r.out.lt k hk).1)
      generalize T i = t at *
      obtain ⟨s0, s1, s2, s3, s4, s5⟩ := hsix
      go_wp2_with (at_builtin; go_loud (refine wpList_append_lies _ rfl _ _ 22 rfl w.heap.size 2 i0 (.int .i64 0) 1 8 Try.underlying22 hif hz0 hz1 hz2 rfl (by decide) u3 i (nums i (lf O)) rfl (OWA.out.alloc _) ⟨wr.heap.size + 1, 0, none⟩ 1 1 [.int .i64 t.at_] rfl rfl (news1b (wr.alloc (.cells #[.int .i64 t.at_, .int .i64 t.s, .int .i64 t.m, .int .i64 t.o, .int .i64 t.h, .slice t.a t.n t.c] 87)) t.at_ (wr.heap.size + 1) (by simp)) (by intro u hu; simp only [List.mem_cons, List.mem_nil_iff, or_false] at hu; subst hu; rfl) (by omega) (by unfold maxLen; omega) (by omega) (by simp; omega) (wr.heap.size + 1 + 1) (by simp) ?_); intro g9 cap9 w9 hown9 hgrow9 hat9 hlt9)
      have HB9 : Hid (Below w.heap.size w w9) := (HAL.out.alloc (by simp; omega) _).grown hgrow9 (by simp; omega) (fun k hk => HGE.out k hk)
      have OW9 : Hid (w9.ownsRow w.heap.size 2 1 (.slice (some ⟨g9, 0, none⟩) (i + 1) cap9) (i + 1) (nums (i + 1) (lf O))) := Lib.hid (by rw [nums_succ, ← HAT.out]; exact hown9)
      clear hown9 hgrow9 hat9 s0 s1 s2 s3 s4 s5
      go_wp2
      go_roundw
      case rel => first | exact ⟨i + 1, by omega, by go_num, HB9, OW9⟩ | ((repeat apply Exists.intro); exact ⟨⟨i + 1, by omega, by go_num, HB9, OW9⟩, rfl⟩)
      case measure => simp [intOf]; omega
    · have hlt' : ¬ (i : Int) < (O.length : Int) := by omega
      obtain rfl : i = O.length := by omega
      have HRet := Lib.hid (retInts_of_row OW_r.out HB_r.out)
      go_wp2
      go_ret
      exact HRet.out
end Go.Proofs.Ytnacdhnnpddccaa

