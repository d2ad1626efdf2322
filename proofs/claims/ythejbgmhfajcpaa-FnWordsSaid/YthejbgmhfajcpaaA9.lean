/- Contracts: l1Copy, halvesOf, put. -/
import Derived.Test.YthejbgmhfajcpaaA8
namespace Go.Proofs.Ythejbgmhfajcpaa
open Go.RowKit
set_option linter.unusedVariables false

set_option maxHeartbeats 400000 in
theorem l1Copy_any (b : Nat) (h ac bu : Int) (a : Option Addr) (n c : Nat) (f : Nat → Int) (w : World) (hB : Blk w b [.int .i64 h, .slice a n c, .int .i64 ac, .int .i64 bu]) (hs : Src w a n f) (hp : 0 < n) (hn : n ≤ 1048576) :
    Calls Try.prog 57 #[.pointer (some ⟨b, 0, none⟩)] w (RetArena w h n f ac bu) := by
  have p0 := hB.at 0 rfl
  have p1 := hB.at 1 rfl
  have p2 := hB.at 2 rfl
  have p3 := hB.at 3 rfl
  have lp := hB.1
  have HS := Lib.hid hs
  have HP := Lib.hid hB
  clear hs hB
  go_enter Try.func57, Try.ntmps57
  go_wp2_with fail
  refine (l1Ints_any _ _ _ f _ ((HS.out.alloc _).alloc _) hp hn).mono ?_
  rintro e w1 ⟨u, cu, rfl, ho, hb, hcu, hcm, hnu⟩
  have HB1 : Hid (Below w.heap.size w w1) := thru2 (Below.refl _ _) hb
  have HO : Hid (Own w1 (w.heap.size + 2) u n f) := ho.mono (by simp)
  have HN := Lib.hid hnu
  have HR := Lib.hid (((Blk.new_at (w.heap.size) rfl).alloc _).below hb)
  have HT := Lib.hid ((Blk.new_at (w.heap.size + 1) (by simp)).below hb)
  clear hb ho hnu p0 p1 p2 p3
  have cR0 := HR.out.at 0 rfl; have cR1 := HR.out.at 1 rfl; have cR2 := HR.out.at 2 rfl; have cR3 := HR.out.at 3 rfl; have fR0 := HR.out.free 0 rfl; have fR1 := HR.out.free 1 rfl; have fR2 := HR.out.free 2 rfl; have fR3 := HR.out.free 3 rfl
  have cT0 := HT.out.at 0 rfl; have cT1 := HT.out.at 1 rfl; have cT2 := HT.out.at 2 rfl; have cT3 := HT.out.at 3 rfl; have fT1 := HT.out.free 1 rfl
  go_wp2
  refine bodyPost_ret (v := .agg #[.int .i64 h, .slice u n cu, .int .i64 ac, .int .i64 bu]) (by simp [results, Try.results57, go_sem, cR0, cR1, cR2, cR3]) rfl ⟨u, cu, rfl, ?_, ?_, hcu, hcm, HN.out⟩
  · refine Own.mono (B := w.heap.size + 2) ?_ (by omega)
    repeat (with_reducible refine Own.setCell ?_ (by (try simp); (try omega)) _)
    exact HO.out
  · repeat (with_reducible refine Below.setCell ?_ (by (try simp); (try omega)) _)
    exact HB1.out


/-- Two halves of m words each, in blocks from lo to mid and from mid to hi: together F. -/
def Halves (w : World) (lo mid hi : Nat) (a1 a2 : Option Addr) (m : Nat) (F : Nat → Int) : Prop :=
  OwnIn w lo mid a1 m F ∧ OwnIn w mid hi a2 m (fun i => F (m + i))
def RetHalves (W : World) (m : Nat) (F : Nat → Int) (e : Ending) (w' : World) : Prop :=
  ∃ a1 c1 a2 c2 mid, e = .returned (.agg #[.slice a1 m c1, .slice a2 m c2]) ∧ Halves w' W.heap.size mid w'.heap.size a1 a2 m F ∧ Below W.heap.size W w' ∧ mid ≤ w'.heap.size ∧ W.heap.size ≤ mid
theorem OwnIn.setCell {w : World} {lo hi : Nat} {a : Option Addr} {n : Nat} {f : Nat → Int} (h : OwnIn w lo hi a n f) {p : Addr} (hp : p.block < lo ∨ hi ≤ p.block) (u : Value) : OwnIn (w.setCell p u) lo hi a n f :=
  h.keeps (keeps_setCell (Nat.le_refl p.block) (Nat.lt_succ_self _) u) (by omega)
theorem OwnIn.out {w : World} {lo hi : Nat} {a : Option Addr} {n : Nat} {f : Nat → Int} (h : OwnIn w lo hi a n f) : Own w lo a n f := by
  rcases h with h | ⟨b, off, h1, h2, h3, h4⟩
  · exact .inl h
  · exact .inr ⟨b, off, h1, h2.1, h3, h4⟩
theorem OwnIn.widen {w : World} {lo hi lo' hi' : Nat} {a : Option Addr} {n : Nat} {f : Nat → Int} (h : OwnIn w lo hi a n f) (h1 : lo' ≤ lo) (h2 : hi ≤ hi') : OwnIn w lo' hi' a n f := by
  rcases h with h | ⟨b, off, g1, g2, g3, g4⟩
  · exact .inl h
  · exact .inr ⟨b, off, g1, by omega, g3, g4⟩
theorem src_head {w : World} {a : Option Addr} {n : Nat} {F : Nat → Int} (h : Src w a n F) (m : Nat) (hm : m ≤ n) : Src w a m F := by
  rcases h with h | ⟨b, off, h1, h3, h4⟩
  · exact .inl (by omega)
  · exact .inr ⟨b, off, h1, h3, fun i hi => h4 i (by omega)⟩
theorem src_tail {w : World} {b off n : Nat} {F : Nat → Int} (h : Src w (some ⟨b, off, none⟩) n F) (m k : Nat) (hm : m + k ≤ n) (hk : 0 < k) : Src w (some ⟨b, off + m, none⟩) k (fun i => F (m + i)) := by
  rcases h with h | ⟨b', off', h1, h3, h4⟩
  · omega
  · simp only [Option.some.injEq, Addr.mk.injEq, and_true] at h1
    obtain ⟨rfl, rfl⟩ := h1
    exact .inr ⟨b, off + m, rfl, h3, fun i hi => by rw [Nat.add_assoc]; exact h4 (m + i) (by omega)⟩


set_option maxHeartbeats 800000 in
theorem halvesOf_any (ac bu : Int) (b off m c : Nat) (F : Nat → Int) (w : World) (hs : Src w (some ⟨b, off, none⟩) (2 * m) F) (hm0 : 8 ≤ m) (hm : m ≤ 200) (hc : 2 * m ≤ c) (hcm : c ≤ maxLen) :
    Calls Try.prog 50 #[.agg #[.int .i64 (m : Int), .slice (some ⟨b, off, none⟩) (2 * m) c, .int .i64 ac, .int .i64 bu]] w (RetHalves w m F) := by
  unfold maxLen at hcm
  have HS := Lib.hid hs
  have q1 : (m : Int) ≤ (c : Int) := by omega
  have q2 : (m : Int) ≤ (2 : Int) * (m : Int) := by omega
  have q3 : (0 : Int) ≤ (m : Int) := by omega
  have q4 : ¬ c = m := by omega
  have q5 : 2 * m - m = m := by omega
  clear hs
  go_enter Try.func50, Try.ntmps50
  go_wp2_with fail
  have HA := Lib.hid ((Blk.new w #[.int .i64 (m : Int), .slice (some ⟨b, off, none⟩) (2 * m) c, .int .i64 ac, .int .i64 bu] 26).alloc (.cells #[.slice none 0 0, .slice none 0 0] 66)).drew
  have HR := Lib.hid ((Blk.new_at (w := w.alloc (.cells #[.int .i64 (m : Int), .slice (some ⟨b, off, none⟩) (2 * m) c, .int .i64 ac, .int .i64 bu] 26)) (cs := #[.slice none 0 0, .slice none 0 0]) (t := 66) (w.heap.size + 1) (by simp))).drew
  have HS1 := Lib.hid (src_head ((HS.out.alloc (.cells #[.int .i64 (m : Int), .slice (some ⟨b, off, none⟩) (2 * m) c, .int .i64 ac, .int .i64 bu] 26)).alloc (.cells #[.slice none 0 0, .slice none 0 0] 66)).drew m (by omega))
  have HS2 := Lib.hid (src_tail ((HS.out.alloc (.cells #[.int .i64 (m : Int), .slice (some ⟨b, off, none⟩) (2 * m) c, .int .i64 ac, .int .i64 bu] 26)).alloc (.cells #[.slice none 0 0, .slice none 0 0] 66)).drew m m (by omega) (by omega))
  have HB0 : Hid (Below w.heap.size w ((w.alloc (.cells #[.int .i64 (m : Int), .slice (some ⟨b, off, none⟩) (2 * m) c, .int .i64 ac, .int .i64 bu] 26)).alloc (.cells #[.slice none 0 0, .slice none 0 0] 66)).drew) := (((Below.refl _ _).alloc (Nat.le_refl _) _).alloc (by simp) _).drew
  have lR := HR.out.1; have cR0 := HR.out.at 0 rfl; have cR1 := HR.out.at 1 rfl; have fR0 := HR.out.free 0 rfl; have fR1 := HR.out.free 1 rfl
  go_region_held3 (fun w' => w'.cell? ⟨w.heap.size, 0, none⟩ = some (.int .i64 (m : Int)) ∧ w'.cell? ⟨w.heap.size, 1, none⟩ = some (.slice (some ⟨b, off, none⟩) (2 * m) c))
    (first | exact ⟨HA.out.at 0 rfl, HA.out.at 1 rfl⟩ | exact ⟨HA1.out.at 0 rfl, HA1.out.at 1 rfl⟩ | exact ⟨HA2.out.at 0 rfl, HA2.out.at 1 rfl⟩ | exact ⟨by simp [HA2.out.at 0 rfl], by simp [HA2.out.at 1 rfl]⟩ | go_keep)
    (first
      | (go_at_call 71; (with_reducible refine (clone_any _ _ _ F _ HS1.out (by omega) (by omega)).mono ?_); rintro e w1 ⟨u1, c1, rfl, ho, hb, hc1, hcm1, hn1⟩; have HB1 := Lib.hid (thru0 HB0.out hb); have HA1 := Lib.hid (HA.out.below hb); have HR1 := Lib.hid (HR.out.below hb); have HS21 := Lib.hid (HS2.out.below hb); have HO1 : Hid (OwnIn w1 (w.heap.size + 2) w1.heap.size u1 m F) := (ho.mono (by simp)).into; have z1 : w.heap.size + 2 ≤ w1.heap.size := (by have := hb.size; simp at this; omega); clear hb ho hn1)
      | (go_at_call 71; (with_reducible refine (clone_any _ _ _ (fun i => F (m + i)) _ HS21.out (by omega) (by omega)).mono ?_); rintro e w2 ⟨u2, c2, rfl, ho, hb, hc2, hcm2, hn2⟩; have HB2 := Lib.hid (thru0 HB1.out hb); have HA2 := Lib.hid (HA1.out.below hb); have HR2 := Lib.hid (HR1.out.below hb); have HO12 := Lib.hid (HO1.out.below hb); have HO2 : Hid (OwnIn w2 w1.heap.size w2.heap.size u2 m (fun i => F (m + i))) := ho.into; have z2 := hb.size; clear hb ho hn2; have cR0 := HR2.out.at 0 rfl; have cR1 := HR2.out.at 1 rfl; have fR0 := HR2.out.free 0 rfl; have fR1 := HR2.out.free 1 rfl; have d0 := HA2.out.at 0 rfl; have d1 := HA2.out.at 1 rfl))
  go_wp2
  refine bodyPost_ret (v := .agg #[.slice u1 m c1, .slice u2 m c2]) (by simp [results, Try.results50, go_sem, cR0, cR1]) rfl ⟨u1, c1, u2, c2, w1.heap.size, rfl, ⟨?_, ?_⟩, ?_, ?_, by omega⟩
  · exact ((HO12.out.setCell (.inl (by simp)) _).setCell (.inl (by simp)) _).widen (by omega) (Nat.le_refl _)
  · rw [show ((w2.setCell ⟨w.heap.size + 1, 0, none⟩ (.slice u1 m c1)).setCell ⟨w.heap.size + 1, 1, none⟩ (.slice u2 m c2)).heap.size = w2.heap.size by simp]
    exact (HO2.out.setCell (.inl (by simp; omega)) _).setCell (.inl (by simp; omega)) _
  · exact (HB2.out.setCell (by simp) _).setCell (by simp) _
  · simp; omega


def upd (f : Nat → Int) (k : Nat) (v : Int) : Nat → Int := fun i => if i = k then v else f i
/-- put writes one word into the halves. -/
def RetPut (W : World) (lo mid hi : Nat) (a1 a2 : Option Addr) (m : Nat) (F : Nat → Int) (e : Ending) (w' : World) : Prop :=
  e = .returned (.tuple #[]) ∧ Halves w' lo mid hi a1 a2 m F ∧ Keeps W w' lo hi
theorem Keeps.widen {w w' : World} {lo hi lo' hi' : Nat} (h : Keeps w w' lo hi) (h1 : lo' ≤ lo) (h2 : hi ≤ hi') : Keeps w w' lo' hi' :=
  ⟨h.os, h.tape, h.output, h.size, fun k hk hd => h.block k hk (by omega)⟩
theorem ownIn_some {w : World} {lo hi : Nat} {a : Option Addr} {n : Nat} {f : Nat → Int} (h : OwnIn w lo hi a n f) (hp : 0 < n) : ∃ b off, a = some ⟨b, off, none⟩ ∧ (lo ≤ b ∧ b < hi) ∧ b < w.heap.size ∧ ∀ i, i < n → w.cell? ⟨b, off + i, none⟩ = some (.int .i64 (f i)) ∧ w.frozen? ⟨b, off + i, none⟩ = false := by
  rcases h with h | h
  · omega
  · exact h
set_option maxHeartbeats 800000 in
theorem put_low (lo mid hi : Nat) (a1 a2 : Option Addr) (c1 c2 m k : Nat) (F : Nat → Int) (v : Int) (w : World) (hh : Halves w lo mid hi a1 a2 m F) (h1 : lo ≤ mid) (h2 : mid ≤ hi) (h3 : hi ≤ w.heap.size) (hm : m ≤ 200) (hk : k < m) :
    Calls Try.prog 51 #[.agg #[.slice a1 m c1, .slice a2 m c2], .int .i64 (k : Int), .int .i64 v] w (RetPut w lo mid hi a1 a2 m (upd F k v)) := by
  obtain ⟨b, off, rfl, hlo, hb, hc⟩ := ownIn_some hh.1 (by omega)
  have HH := Lib.hid hh
  have c1' : (w.alloc (.cells #[.slice (some ⟨b, off, none⟩) m c1, .slice a2 m c2] 66)).cell? ⟨b, off + k, none⟩ = some (.int .i64 (F k)) := by
    rw [World.cell?_alloc_past _ _ _ hb]; exact (hc k hk).1
  have c2' : (w.alloc (.cells #[.slice (some ⟨b, off, none⟩) m c1, .slice a2 m c2] 66)).frozen? ⟨b, off + k, none⟩ = false := by
    rw [World.frozen?_alloc_past _ _ _ hb]; exact (hc k hk).2
  have hq : (k : Int) / (m : Int) = 0 := Int.ediv_eq_zero_of_lt (by omega) (by omega)
  have hr : (k : Int) % (m : Int) = k := Int.emod_eq_of_lt (by omega) (by omega)
  have hkm : (k : Int) < (m : Int) := by omega
  have hm0 : ((m : Int) == 0) = false := by simp; omega
  have hmne : ¬ (m : Int) = 0 := by omega
  clear hh hc
  go_enter Try.func51, Try.ntmps51
  go_wp2
  go_region
  go_end0
  have st := HH.out.1.stored k hk v
  exact ⟨rfl, ⟨((st.1.alloc _).drew : OwnIn _ lo mid _ m _), (((HH.out.2.keeps st.2 (.inr (Nat.le_refl _))).alloc _).drew).congr (fun i hi => by simp only [upd]; rw [if_neg (by omega)])⟩,
    (st.2.widen (Nat.le_refl _) h2).trans (keeps_of_below ((Below.refl _ _).alloc (Nat.le_refl _) _).drew lo hi)⟩
set_option maxHeartbeats 800000 in
theorem put_high (lo mid hi : Nat) (a1 a2 : Option Addr) (c1 c2 m k : Nat) (F : Nat → Int) (v : Int) (w : World) (hh : Halves w lo mid hi a1 a2 m F) (h1 : lo ≤ mid) (h2 : mid ≤ hi) (h3 : hi ≤ w.heap.size) (hm : m ≤ 200) (hk : k < m) :
    Calls Try.prog 51 #[.agg #[.slice a1 m c1, .slice a2 m c2], .int .i64 ((m : Int) + (k : Int)), .int .i64 v] w (RetPut w lo mid hi a1 a2 m (upd F (m + k) v)) := by
  obtain ⟨b, off, rfl, hlo, hb, hc⟩ := ownIn_some hh.2 (by omega)
  have HH := Lib.hid hh
  have c1' : (w.alloc (.cells #[.slice a1 m c1, .slice (some ⟨b, off, none⟩) m c2] 66)).cell? ⟨b, off + k, none⟩ = some (.int .i64 (F (m + k))) := by
    rw [World.cell?_alloc_past _ _ _ hb]; exact (hc k hk).1
  have c2' : (w.alloc (.cells #[.slice a1 m c1, .slice (some ⟨b, off, none⟩) m c2] 66)).frozen? ⟨b, off + k, none⟩ = false := by
    rw [World.frozen?_alloc_past _ _ _ hb]; exact (hc k hk).2
  have hq : ((m : Int) + (k : Int)) / (m : Int) = 1 := by
    rw [Int.add_ediv_of_dvd_left (Int.dvd_refl _), Int.ediv_self (by omega), Int.ediv_eq_zero_of_lt (by omega) (by omega)]; rfl
  have hr : ((m : Int) + (k : Int)) % (m : Int) = k := by rw [Int.add_emod_left]; exact Int.emod_eq_of_lt (by omega) (by omega)
  have hr2 : (k : Int) % (m : Int) = k := Int.emod_eq_of_lt (by omega) (by omega)
  have hkm : (k : Int) < (m : Int) := by omega
  have hm0 : ((m : Int) == 0) = false := by simp; omega
  have hmne : ¬ (m : Int) = 0 := by omega
  have hmp : (0 : Int) ≤ (m : Int) + (k : Int) := by omega
  clear hh hc
  go_enter Try.func51, Try.ntmps51
  go_wp2
  go_region
  go_end0
  have st := HH.out.2.stored k hk v
  exact ⟨rfl, ⟨(((HH.out.1.keeps st.2 (.inl (Nat.le_refl _))).alloc _).drew).congr (fun i hi => by simp only [upd]; rw [if_neg (by omega)]), ((st.1.alloc _).drew).congr (fun i hi => by simp only [upd]; by_cases e : i = k <;> simp [e])⟩,
    (st.2.widen h1 (Nat.le_refl _)).trans (keeps_of_below ((Below.refl _ _).alloc (Nat.le_refl _) _).drew lo hi)⟩
theorem put_any (lo mid hi : Nat) (a1 a2 : Option Addr) (c1 c2 m k : Nat) (F : Nat → Int) (v : Int) (w : World) (hh : Halves w lo mid hi a1 a2 m F) (h1 : lo ≤ mid) (h2 : mid ≤ hi) (h3 : hi ≤ w.heap.size) (hm : m ≤ 200) (hk : k < 2 * m) :
    Calls Try.prog 51 #[.agg #[.slice a1 m c1, .slice a2 m c2], .int .i64 (k : Int), .int .i64 v] w (RetPut w lo mid hi a1 a2 m (upd F k v)) := by
  by_cases h : k < m
  · exact put_low lo mid hi a1 a2 c1 c2 m k F v w hh h1 h2 h3 hm h
  · have e : k = m + (k - m) := by omega
    rw [e, Int.natCast_add]
    exact put_high lo mid hi a1 a2 c1 c2 m (k - m) F v w hh h1 h2 h3 hm (by omega)


theorem Halves.below {w w' : World} {lo mid hi : Nat} {a1 a2 : Option Addr} {m : Nat} {F : Nat → Int} (h : Halves w lo mid hi a1 a2 m F) (hb : Below w.heap.size w w') : Halves w' lo mid hi a1 a2 m F := ⟨h.1.below hb, h.2.below hb⟩
theorem Halves.alloc {w : World} {lo mid hi : Nat} {a1 a2 : Option Addr} {m : Nat} {F : Nat → Int} (h : Halves w lo mid hi a1 a2 m F) (o : Obj) : Halves (w.alloc o) lo mid hi a1 a2 m F := ⟨h.1.alloc o, h.2.alloc o⟩
theorem Src.keeps {w w' : World} {lo' hi' : Nat} {a : Option Addr} {n : Nat} {f : Nat → Int} (h : Src w a n f) (hk : Keeps w w' lo' hi') (hd : ∀ b off, a = some ⟨b, off, none⟩ → b < lo' ∨ hi' ≤ b) : Src w' a n f := by
  rcases h with h | ⟨b, off, h1, h3, h4⟩
  · exact .inl h
  · have e := hk.block b h3 (hd b off h1)
    exact .inr ⟨b, off, h1, Nat.lt_of_lt_of_le h3 hk.size, fun i hi => (World.cell?_of_block (w := w) (a := ⟨b, off + i, none⟩) e).trans (h4 i hi)⟩
theorem retHalf {w w' : World} {m : Nat} {G : Nat → Int} {h ac bu at_ : Int} {u : Option Addr} {cu : Nat} (ho : Own w' w.heap.size u (m + m) (cat m G (fun i => G (m + i)))) (hb : Below w.heap.size w w') :
    RetRes w ⟨0, h, 2 * m, G, ac, bu, at_⟩ (.returned (.agg #[.int .i64 0, .int .i64 h, .slice u (m + m) cu, .int .i64 ac, .int .i64 bu, .int .i64 at_])) w' := by
  have e : m + m = 2 * m := by omega
  refine ⟨u, cu, by rw [e], ?_, hb⟩
  show Own w' w.heap.size u (2 * m) G
  rw [← e]
  exact ho.congr fun i hi => by
    simp only [cat]
    by_cases h : i < m
    · rw [if_pos h]
    · rw [if_neg h]; congr 1; omega

end Go.Proofs.Ythejbgmhfajcpaa
