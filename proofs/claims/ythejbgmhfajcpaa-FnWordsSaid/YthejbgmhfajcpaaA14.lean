/- Contracts: FlipArena: refused; the model. -/
import Derived.Test.YthejbgmhfajcpaaA12
import Derived.Lib.SliceRun
import Derived.Deep.Upon
namespace Go.Proofs.Ythejbgmhfajcpaa
open Go.RowKit
set_option linter.unusedVariables false


theorem size_setCells (b : Nat) : ∀ (vs : List Value) (o : Nat) (w : World), (w.setCells b o vs).heap.size = w.heap.size
  | [], _, _ => rfl
  | v :: r, o, w => by rw [World.setCells, size_setCells b r]; simp
theorem below_setCells (b : Nat) {B : Nat} : ∀ (vs : List Value) (o : Nat) (w w0 : World), B ≤ b → Below B w0 w → Below B w0 (w.setCells b o vs)
  | [], _, _, _, _, h => h
  | v :: r, o, w, w0, hb, h => by rw [World.setCells]; exact below_setCells b r (o + 1) _ w0 hb (h.setCell hb v)
theorem OwnIn.cleared {w : World} {lo hi b off n : Nat} {f : Nat → Int} (h : OwnIn w lo hi (some ⟨b, off, none⟩) n f) (hp : 0 < n) :
    OwnIn (w.setCells b off (List.replicate n (.int .i64 0))) lo hi (some ⟨b, off, none⟩) n (fun _ => 0) ∧ Keeps w (w.setCells b off (List.replicate n (.int .i64 0))) lo hi := by
  rcases h with h | ⟨b', off', h1, h2, h3, h4⟩
  · omega
  · simp only [Option.some.injEq, Addr.mk.injEq, and_true] at h1
    obtain ⟨rfl, rfl⟩ := h1
    have hb := below_setCells b (List.replicate n (.int .i64 0)) off w w (Nat.le_refl b) (Below.refl b w)
    refine ⟨.inr ⟨b, off, rfl, h2, by rw [size_setCells]; exact h3, fun i hi => ⟨?_, ?_⟩⟩, ⟨hb.os, hb.tape, hb.output, hb.size, fun k hk hd => World.heap_setCells_other w b off _ hk (by omega)⟩⟩
    · rw [World.cell?_setCells_in b (List.replicate n (.int .i64 0)) off w (fun j hj => by rw [(h4 j (by simpa using hj)).1]; rfl) i (by simpa using hi)]
      simp
    · rw [World.frozen?_setCells]; exact (h4 i hi).2
theorem wpList_clear {P : Program} (w : World) {ops : Array Oper} {rest : List Oper} {o : Oper} {a : Act} {Q : Exit → Act → World → Prop} (hgd : o.guard = none) (s : Operand) (t : TypeId)
    (ho : o.op = .call { callee := .builtin .clear, args := #[s], argTypes := #[t] }) (vs : Value) (hs : a.eval s = vs)
    (v' : Value) (w' : World) (hr : (Builtin.clear_ #[t] o.type #[vs]).run P w = .ok v' w') (h : wpList P ops Q rest (a.put o.dst v') w') : wpList P ops Q (o :: rest) a w :=
  wpList_plain hgd fun _ hK => by
    unfold Oper.wp execOp
    simp only [ho, resolve, invoke, builtin, Sem.run_bind, Sem.run_pure, Result.andThen_ok, List.map_toArray, List.map_cons, List.map_nil, hs, hr]
    exact hK _ _ h
theorem run_clr (w : World) (ty : TypeId) (b off n c : Nat) (lo hi : Nat) (f : Nat → Int) (hn : 0 < n) (h : OwnIn w lo hi (some ⟨b, off, none⟩) n f) :
    (Builtin.clear_ #[24] ty #[.slice (some ⟨b, off, none⟩) n c]).run Try.prog w = .ok (.tuple #[]) (w.setCells b off (List.replicate n (.int .i64 0))) := by
  obtain ⟨b', o', h1, _, _, h4⟩ := ownIn_some h hn
  simp only [Option.some.injEq, Addr.mk.injEq, and_true] at h1
  obtain ⟨rfl, rfl⟩ := h1
  exact Lib.run_clear_slice w 24 2 ty (.int .i64 0) Try.underlying24 (fun w => by kernel_rfl) rfl rfl b off n c hn (fun j hj => by rw [(h4 j hj).1]; rfl) (fun j hj => (h4 j hj).2)

/-- What FlipArena answers. -/
def IsFlip (h : Int) (n : Nat) (f : Nat → Int) (ac bu : Int) (r : AR) : Prop :=
  (∃ k, IsFault h n f ac bu k ∧ ¬ k = 0 ∧ r = errAR k) ∨ (IsFault h n f ac bu 0 ∧ r = ⟨0, h, n, zeroR f (baseI ac h).toNat h.toNat, 1 - ac, 0, 0⟩)
theorem isFlip_some (h : Int) (n : Nat) (f : Nat → Int) (ac bu : Int) : ∃ r, IsFlip h n f ac bu r := by
  obtain ⟨k, hk⟩ := isFault_some h n f ac bu
  by_cases h0 : k = 0
  · subst h0
    exact ⟨_, .inr ⟨hk, rfl⟩⟩
  · exact ⟨_, .inl ⟨k, hk, h0, rfl⟩⟩
theorem isFlip_small {h : Int} {n : Nat} {f : Nat → Int} {ac bu : Int} {r : AR} (hr : IsFlip h n f ac bu r) : r.n ≤ 400 := by
  rcases hr with ⟨k, _, _, rfl⟩ | ⟨hk, rfl⟩
  · exact Nat.zero_le _
  · exact fault_small hk
theorem l1Base_is (b : Nat) (h ac bu B : Int) (a : Option Addr) (n c : Nat) (w : World) (hE : baseI ac h = B) (hB : Blk w b [.int .i64 h, .slice a n c, .int .i64 ac, .int .i64 bu]) (h1 : 8 ≤ h) (h2 : h ≤ 200) (h3 : 0 ≤ ac) (h4 : ac ≤ 1) :
    Calls Try.prog 63 #[.pointer (some ⟨b, 0, none⟩)] w (RetInt w B) := hE ▸ l1Base_any b h ac bu a n c w hB h1 h2 h3 h4

set_option maxHeartbeats 400000 in
theorem implFlip_fault (h ac bu : Int) (a : Option Addr) (n c : Nat) (f : Nat → Int) (k : Int) (w : World) (hs : Src w a n f) (hcn : n ≤ c) (hcm : c ≤ maxLen) (hk : IsFault h n f ac bu k) (h0 : ¬ k = 0) :
    Calls Try.prog 29 #[.agg #[.int .i64 h, .slice a n c, .int .i64 ac, .int .i64 bu]] w (RetRes w (errAR k)) := by
  have HS := Lib.hid hs
  have HK := Lib.hid hk
  clear hs hk
  have hd : (k != 0) = true := by simpa using h0
  go_enter Try.func29, Try.ntmps29
  go_wp2_with fail
  refine (implFault_any _ _ _ _ _ _ f k _ ((HS.out.alloc _).alloc _) HK.out).mono ?_
  rintro e w1 ⟨rfl, hb⟩
  have HB1 : Hid (Below w.heap.size w w1) := thru2 (Below.refl _ _) hb
  have z1 : w.heap.size + 2 ≤ w1.heap.size := by have := hb.size; simp at this; omega
  have HS_1 := Lib.hid (((HS.out.alloc _).alloc _).below hb)
  have R_1 := Lib.hid ((Blk.new_at (w.heap.size + 1) (by simp)).below hb)
  clear hb HS
  have lR := R_1.out.1
  have cR0 := R_1.out.at 0 rfl
  have cR1 := R_1.out.at 1 rfl
  have cR2 := R_1.out.at 2 rfl
  have cR3 := R_1.out.at 3 rfl
  have cR4 := R_1.out.at 4 rfl
  have cR5 := R_1.out.at 5 rfl
  have fR0 := R_1.out.free 0 rfl
  have fR1 := R_1.out.free 1 rfl
  have fR2 := R_1.out.free 2 rfl
  have fR3 := R_1.out.free 3 rfl
  have fR4 := R_1.out.free 4 rfl
  have fR5 := R_1.out.free 5 rfl
  go_wp2
  have hz := HB1.out.size
  refine bodyPost_ret (v := .agg #[.int .i64 k, .int .i64 0, .slice none 0 0, .int .i64 0, .int .i64 0, .int .i64 0]) (by simp [results, Try.results29, go_sem, cR0, cR1, cR2, cR3, cR4, cR5]) rfl ⟨none, 0, rfl, .inl rfl, ?_⟩
  repeat (with_reducible refine Below.setCell ?_ (by (try simp); (try omega)) _)
  exact HB1.out

set_option maxHeartbeats 400000 in
theorem specFlip_fault (h ac bu : Int) (a : Option Addr) (n c : Nat) (f : Nat → Int) (k : Int) (w : World) (hs : Src w a n f) (hcn : n ≤ c) (hcm : c ≤ maxLen) (hk : IsFault h n f ac bu k) (h0 : ¬ k = 0) :
    Calls Try.prog 33 #[.agg #[.int .i64 h, .slice a n c, .int .i64 ac, .int .i64 bu]] w (RetRes w (errAR k)) := by
  have HS := Lib.hid hs
  have HK := Lib.hid hk
  clear hs hk
  have hd : (k != 0) = true := by simpa using h0
  go_enter Try.func33, Try.ntmps33
  go_wp2_with fail
  refine (specFault_any _ _ _ _ _ _ f k _ ((HS.out.alloc _).alloc _) HK.out).mono ?_
  rintro e w1 ⟨rfl, hb⟩
  have HB1 : Hid (Below w.heap.size w w1) := thru2 (Below.refl _ _) hb
  have z1 : w.heap.size + 2 ≤ w1.heap.size := by have := hb.size; simp at this; omega
  have HS_1 := Lib.hid (((HS.out.alloc _).alloc _).below hb)
  have R_1 := Lib.hid ((Blk.new_at (w.heap.size + 1) (by simp)).below hb)
  clear hb HS
  have lR := R_1.out.1
  have cR0 := R_1.out.at 0 rfl
  have cR1 := R_1.out.at 1 rfl
  have cR2 := R_1.out.at 2 rfl
  have cR3 := R_1.out.at 3 rfl
  have cR4 := R_1.out.at 4 rfl
  have cR5 := R_1.out.at 5 rfl
  have fR0 := R_1.out.free 0 rfl
  have fR1 := R_1.out.free 1 rfl
  have fR2 := R_1.out.free 2 rfl
  have fR3 := R_1.out.free 3 rfl
  have fR4 := R_1.out.free 4 rfl
  have fR5 := R_1.out.free 5 rfl
  go_wp2
  have hz := HB1.out.size
  refine bodyPost_ret (v := .agg #[.int .i64 k, .int .i64 0, .slice none 0 0, .int .i64 0, .int .i64 0, .int .i64 0]) (by simp [results, Try.results33, go_sem, cR0, cR1, cR2, cR3, cR4, cR5]) rfl ⟨none, 0, rfl, .inl rfl, ?_⟩
  repeat (with_reducible refine Below.setCell ?_ (by (try simp); (try omega)) _)
  exact HB1.out

set_option maxHeartbeats 1600000 in
theorem specFlip_ok (m p : Nat) (ac bu : Int) (a : Option Addr) (c : Nat) (f : Nat → Int) (w : World) (hs : Src w a (2 * m) f) (hcn : 2 * m ≤ c) (hcm : c ≤ maxLen) (hk : IsFault (m : Int) (2 * m) f ac bu 0) (hp : baseI ac (m : Int) = (p : Int)) (hpm : p ≤ m) :
    Calls Try.prog 33 #[.agg #[.int .i64 (m : Int), .slice a (2 * m) c, .int .i64 ac, .int .i64 bu]] w (RetRes w ⟨0, m, 2 * m, zeroR f p m, 1 - ac, 0, 0⟩) := by
  obtain ⟨⟨⟨g1, g2⟩, ⟨g3, g4⟩, g5, g6⟩, _, _⟩ := isFault_ok hk
  have HS := Lib.hid hs
  have HK := Lib.hid hk
  have HP := Lib.hid hp
  clear hs hk hp
  go_enter Try.func33, Try.ntmps33
  go_wp2_with fail
  refine (specFault_any _ _ _ _ _ _ f 0 _ ((HS.out.alloc _).alloc _) HK.out).mono ?_
  rintro e w1 ⟨rfl, hb⟩
  have HB1 : Hid (Below w.heap.size w w1) := thru2 (Below.refl _ _) hb
  have z1 : w.heap.size + 2 ≤ w1.heap.size := by have := hb.size; simp at this; omega
  have HS_1 := Lib.hid (((HS.out.alloc _).alloc _).below hb)
  have A_1 := Lib.hid (((Blk.new_at (w.heap.size) (by simp)).alloc _).below hb)
  have R_1 := Lib.hid ((Blk.new_at (w.heap.size + 1) (by simp)).below hb)
  clear hb HS
  have lA := A_1.out.1
  have cA0 := A_1.out.at 0 rfl
  have cA1 := A_1.out.at 1 rfl
  have cA2 := A_1.out.at 2 rfl
  have cA3 := A_1.out.at 3 rfl
  go_wp2_with fail
  refine (l1Copy_any _ _ _ _ _ _ _ f _ A_1.out HS_1.out (by omega) (by omega)).mono ?_
  rintro e w2 ⟨u2, c2, rfl, ho, hb, hc2, hcm2, hn2⟩
  have HB2 : Hid (Below w.heap.size w w2) := thru0 HB1.out hb
  have z2 : w1.heap.size ≤ w2.heap.size := hb.size
  have HS_2 := Lib.hid (HS_1.out.below hb)
  have A_2 := Lib.hid (A_1.out.below hb)
  have R_2 := Lib.hid (R_1.out.below hb)
  have RW_2 : Hid (OwnIn w2 w1.heap.size w2.heap.size u2 (2 * m) f) := ho.into
  clear hb lA cA0 cA1 cA2 cA3 HS_1 A_1 R_1 HB1 ho
  clear HS_2
  go_wp2_with fail
  have C_d : Hid (Blk ((w2.alloc (.cells #[.int .i64 (m : Int), .slice u2 (2 * m) c2, .int .i64 ac, .int .i64 bu] 26)).drew) w2.heap.size [.int .i64 (m : Int), .slice u2 (2 * m) c2, .int .i64 ac, .int .i64 bu]) := (Blk.new_at (w2.heap.size) rfl).drew
  have A_d := Lib.hid (A_2.out.alloc (.cells #[.int .i64 (m : Int), .slice u2 (2 * m) c2, .int .i64 ac, .int .i64 bu] 26)).drew
  have R_d := Lib.hid (R_2.out.alloc (.cells #[.int .i64 (m : Int), .slice u2 (2 * m) c2, .int .i64 ac, .int .i64 bu] 26)).drew
  have RW_d := Lib.hid (RW_2.out.alloc (.cells #[.int .i64 (m : Int), .slice u2 (2 * m) c2, .int .i64 ac, .int .i64 bu] 26)).drew
  have HB_d : Hid (Below w.heap.size w ((w2.alloc (.cells #[.int .i64 (m : Int), .slice u2 (2 * m) c2, .int .i64 ac, .int .i64 bu] 26)).drew)) := (HB2.out.alloc HB2.out.size _).drew
  have lRC := R_2.out.1
  have zd := C_d.out.1
  go_region_held3 (fun w' => w'.cell? ⟨w.heap.size, 0, none⟩ = some (.int .i64 (m : Int)) ∧ w'.cell? ⟨w.heap.size, 1, none⟩ = some (.slice a (2 * m) c) ∧ w'.cell? ⟨w.heap.size, 2, none⟩ = some (.int .i64 ac) ∧ w'.cell? ⟨w.heap.size, 3, none⟩ = some (.int .i64 bu))
    (first | with_reducible exact ⟨A_d.out.at 0 rfl, A_d.out.at 1 rfl, A_d.out.at 2 rfl, A_d.out.at 3 rfl⟩ | with_reducible exact ⟨A_3.out.at 0 rfl, A_3.out.at 1 rfl, A_3.out.at 2 rfl, A_3.out.at 3 rfl⟩ | with_reducible exact ⟨A_4.out.at 0 rfl, A_4.out.at 1 rfl, A_4.out.at 2 rfl, A_4.out.at 3 rfl⟩)
    (first | (go_at_call 63; refine (l1Base_is _ _ _ _ _ _ _ _ _ HP.out A_d.out g1 g2 g3 g4).mono ?_; rintro e w3 ⟨rfl, hb⟩; have HB3 := Lib.hid (thru0 HB_d.out hb); have A_3 := Lib.hid (A_d.out.below hb); have R_3 := Lib.hid (R_d.out.below hb); have C_3 := Lib.hid (C_d.out.below hb); have RW_3 := Lib.hid (RW_d.out.below hb); have z3 := C_3.out.1; clear hb) | (go_at_call 59; refine (l1Zero_any _ _ _ p m _ _ _ _ _ _ f _ C_3.out RW_3.out (.inr (Nat.le_refl _)) (by omega) (by omega)).mono ?_; rintro e w4 ⟨rfl, ho, hk⟩; have HB4 := Lib.hid (HB3.out.trans (hk.below (by omega) HB3.out.size)); have A_4 := Lib.hid (A_3.out.keeps hk (by omega)); have R_4 := Lib.hid (R_3.out.keeps hk (by omega)); have C_4 := Lib.hid (C_3.out.keeps hk (by omega)); have RW_4 := Lib.hid ho; clear ho hk))
  have cA0 := A_4.out.at 0 rfl; have cC0 := C_4.out.at 0 rfl; have fC0 := C_4.out.free 0 rfl
  have cA1 := A_4.out.at 1 rfl; have cC1 := C_4.out.at 1 rfl; have fC1 := C_4.out.free 1 rfl
  have cA2 := A_4.out.at 2 rfl; have cC2 := C_4.out.at 2 rfl; have fC2 := C_4.out.free 2 rfl
  have cA3 := A_4.out.at 3 rfl; have cC3 := C_4.out.at 3 rfl; have fC3 := C_4.out.free 3 rfl
  go_upto_region 8 with (fail)
  have HB5 : Hid (Below w.heap.size w ((w4.setCell ⟨w2.heap.size, 2, none⟩ (.int .i64 (1 - ac))).setCell ⟨w2.heap.size, 3, none⟩ (.int .i64 0))) := (HB4.out.setCell (by (try simp); (try omega)) _).setCell (by (try simp); (try omega)) _
  have R_5 : Hid (Blk ((w4.setCell ⟨w2.heap.size, 2, none⟩ (.int .i64 (1 - ac))).setCell ⟨w2.heap.size, 3, none⟩ (.int .i64 0)) (w.heap.size + 1) [.int .i64 0, .int .i64 0, .slice none 0 0, .int .i64 0, .int .i64 0, .int .i64 0]) := (R_4.out.other (by (try simp); (try omega)) _).other (by (try simp); (try omega)) _
  have C_5 : Hid (Blk ((w4.setCell ⟨w2.heap.size, 2, none⟩ (.int .i64 (1 - ac))).setCell ⟨w2.heap.size, 3, none⟩ (.int .i64 0)) w2.heap.size [.int .i64 (m : Int), .slice u2 (2 * m) c2, .int .i64 (1 - ac), .int .i64 0]) := (C_4.out.set 2 (by simp) _).set 3 (by simp) _
  have RW_5 : Hid (OwnIn ((w4.setCell ⟨w2.heap.size, 2, none⟩ (.int .i64 (1 - ac))).setCell ⟨w2.heap.size, 3, none⟩ (.int .i64 0)) w1.heap.size w2.heap.size u2 (2 * m) (zeroR f p m)) := (RW_4.out.setCell (by (try simp); (try omega)) _).setCell (by (try simp); (try omega)) _
  clear HB4 R_4 C_4 RW_4 A_4 cA0 cC0 fC0 cA1 cC1 fC1 cA2 cC2 fC2 cA3 cC3 fC3
  generalize (w4.setCell ⟨w2.heap.size, 2, none⟩ (.int .i64 (1 - ac))).setCell ⟨w2.heap.size, 3, none⟩ (.int .i64 0) = w5 at *
  have lC := C_5.out.1
  have cC0 := C_5.out.at 0 rfl
  have cC1 := C_5.out.at 1 rfl
  have cC2 := C_5.out.at 2 rfl
  have cC3 := C_5.out.at 3 rfl
  have lR := R_5.out.1
  have cR0 := R_5.out.at 0 rfl
  have cR1 := R_5.out.at 1 rfl
  have cR2 := R_5.out.at 2 rfl
  have cR3 := R_5.out.at 3 rfl
  have cR4 := R_5.out.at 4 rfl
  have cR5 := R_5.out.at 5 rfl
  have fR0 := R_5.out.free 0 rfl
  have fR1 := R_5.out.free 1 rfl
  have fR2 := R_5.out.free 2 rfl
  have fR3 := R_5.out.free 3 rfl
  have fR4 := R_5.out.free 4 rfl
  have fR5 := R_5.out.free 5 rfl
  go_wp2
  have hz := HB5.out.size
  refine bodyPost_ret (v := .agg #[.int .i64 0, .int .i64 (m : Int), .slice u2 (2 * m) c2, .int .i64 (1 - ac), .int .i64 0, .int .i64 0]) (by simp [results, Try.results33, go_sem, cR0, cR1, cR2, cR3, cR4, cR5]) rfl ⟨_, _, rfl, ?_, ?_⟩
  · refine Own.mono (B := w.heap.size + 2) ?_ (by omega)
    repeat (with_reducible refine Own.setCell ?_ (by (try simp); (try omega)) _)
    exact (RW_5.out.widen (by omega) (Nat.le_refl _)).out
  · repeat (with_reducible refine Below.setCell ?_ (by (try simp); (try omega)) _)
    exact HB5.out

end Go.Proofs.Ythejbgmhfajcpaa
