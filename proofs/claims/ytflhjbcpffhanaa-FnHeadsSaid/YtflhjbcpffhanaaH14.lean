/- ReadHead, of the model. -/
import Derived.Test.YtflhjbcpffhanaaH12
import Derived.Test.YtflhjbcpffhanaaH13
namespace Go.Proofs.Ytflhjbcpffhanaa
open Go.RowKit
set_option linter.unusedVariables false

theorem ext_drew (w : World) (o : Obj) : Ext w.drew (w.alloc o).drew := .inr ⟨o, rfl⟩
theorem src_other {w : World} {ab ao n : Nat} {f : Nat → Int} (h : Src w (some ⟨ab, ao, none⟩) n f) {p : Addr} (hp : p.block ≠ ab) (u : Value) : Src (w.setCell p u) (some ⟨ab, ao, none⟩) n f :=
  h.keeps (keeps_setCell (Nat.le_refl p.block) (Nat.lt_succ_self _) u) (fun b off h => by simp only [Option.some.injEq, Addr.mk.injEq, and_true] at h; omega)
theorem src_at0 {w : World} {ab ao : Nat} {f : Nat → Int} (h : Src w (some ⟨ab, ao, none⟩) 2 f) : w.cell? ⟨ab, ao, none⟩ = some (.int .i64 (f 0)) := h.at 0 (by omega)
theorem src_at1 {w : World} {ab ao : Nat} {f : Nat → Int} (h : Src w (some ⟨ab, ao, none⟩) 2 f) : w.cell? ⟨ab, ao + 1, none⟩ = some (.int .i64 (f 1)) := h.at 1 (by omega)
/-- The world of a state that goes on is named, with what is known of it. -/
theorem then_named {K : Act → World → Prop} {Q : Exit → Act → World → Prop} {e : Exit} {a : Act} {W : World} (p : World → Prop) (hp : p W) (h : ∀ w', p w' → Exit.then K Q e a w') : Exit.then K Q e a W := h W hp

set_option maxHeartbeats 800000 in
theorem specRH_many (a : Option Addr) (n c : Nat) (w : World) (hn : n ≤ 1048576) (h2 : ¬ n = 2) :
    Calls Try.prog 21 #[.slice a n c] w (RetHR w 2 0 0 0 0) := by
  have hd : ((n : Int) != 2) = true := by simp; omega
  go_enter Try.func21, Try.ntmps21
  go_wp2
  exact bodyPost_ret (v := .agg #[.int .i64 2, .int .i64 0, .int .i64 0, .int .i64 0, .int .i64 0]) (by simp [results, Try.results21, go_sem]) rfl ⟨rfl, (Below.refl _ _).alloc (Nat.le_refl _) _⟩

set_option maxHeartbeats 3200000 in
theorem specRH_ok (a : Option Addr) (c : Nat) (f : Nat → Int) (w : World) (hs : Src w a 2 f) (hf : f 0 ≤ 9223372036854775807) (hk : ROk (f 0) (f 1)) :
    Calls Try.prog 21 #[.slice a 2 c] w (RetHR w 0 (f 0 / 2 % 16) (f 0 / 32 % 4096) (f 0 / 131072) (f 1)) := by
  obtain ⟨ab, ao, rfl, hab, hac⟩ := src_some hs (by omega)
  clear hac
  have HS := Lib.hid hs
  have HK := Lib.hid hk
  have HF := Lib.hid hf
  clear hs hk hf
  go_enter Try.func21, Try.ntmps21
  go_wp2_with fail
  have HB0 : Hid (Below w.heap.size w (w.alloc (.cells #[.int .i64 0, .int .i64 0, .int .i64 0, .int .i64 0, .int .i64 0] 33))) := (Below.refl _ _).alloc (Nat.le_refl _) _
  have R0 : Hid (Blk (w.alloc (.cells #[.int .i64 0, .int .i64 0, .int .i64 0, .int .i64 0, .int .i64 0] 33)) w.heap.size [.int .i64 0, .int .i64 0, .int .i64 0, .int .i64 0, .int .i64 0]) := Blk.new_at (w.heap.size) rfl
  have S0 : Hid (Src (w.alloc (.cells #[.int .i64 0, .int .i64 0, .int .i64 0, .int .i64 0, .int .i64 0] 33)) (some ⟨ab, ao, none⟩) 2 f) := HS.out.alloc _
  generalize w.alloc (.cells #[.int .i64 0, .int .i64 0, .int .i64 0, .int .i64 0, .int .i64 0] 33) = w0 at *
  have hab0 : ab < w0.heap.size := by have := HB0.out.size; omega
  have lR0 := R0.out.1
  have HBd := Lib.hid HB0.out.drew
  have Rd := Lib.hid R0.out.drew
  have Sd := Lib.hid S0.out.drew
  go_region_held3 (fun w' => w'.cell? ⟨ab, ao, none⟩ = some (.int .i64 (f 0)) ∧ w'.cell? ⟨ab, ao + 1, none⟩ = some (.int .i64 (f 1)))
    (first | (with_reducible exact ⟨src_at0 (S0.out), src_at1 (S0.out)⟩) | (with_reducible exact ⟨src_at0 (Sd.out), src_at1 (Sd.out)⟩) | (with_reducible exact ⟨src_at0 ((S0.out.alloc _).drew), src_at1 ((S0.out.alloc _).drew)⟩) | (with_reducible exact ⟨src_at0 (S1.out), src_at1 (S1.out)⟩) | (with_reducible exact ⟨src_at0 (S1.out.alloc _), src_at1 (S1.out.alloc _)⟩) | (exact ⟨src_at0 (src_other (src_other (src_other (src_other S1.out (by (try simp); (try omega)) _) (by (try simp); (try omega)) _) (by (try simp); (try omega)) _) (by (try simp); (try omega)) _), src_at1 (src_other (src_other (src_other (src_other S1.out (by (try simp); (try omega)) _) (by (try simp); (try omega)) _) (by (try simp); (try omega)) _) (by (try simp); (try omega)) _)⟩))
    (first | (go_at_call 48; refine (l2Read_yes (f 0) (f 1) _ HF.out HK.out).mono ?_; rintro e w1 ⟨s1, m1, o1, h1, rfl, hb, hv⟩; obtain ⟨rfl, rfl, rfl, rfl⟩ := hv (by trivial); have HB1 := Lib.hid (thru0 (below_ext HBd.out (by first | exact .inl rfl | exact ext_drew _ _ | exact .inr ⟨_, rfl⟩)) hb); have S1 := Lib.hid ((Sd.out.ext (by first | exact .inl rfl | exact ext_drew _ _ | exact .inr ⟨_, rfl⟩)).below hb); have R1 := Lib.hid ((Rd.out.ext (by first | exact .inl rfl | exact ext_drew _ _ | exact .inr ⟨_, rfl⟩)).below hb); have z1 : w0.heap.size ≤ w1.heap.size := (by have := hb.size; simp at this; omega); (first | (have T1 := Lib.hid ((Blk.new_at (w := w0) (cs := #[.int .i64 0, .int .i64 0, .int .i64 0, .int .i64 0]) (t := 25) (w0.heap.size) rfl).drew.below hb)) | skip); clear hb; (first | (have lT := T1.out.1; have cT0 := T1.out.at 0 rfl; have fT0 := T1.out.free 0 rfl; have cT1 := T1.out.at 1 rfl; have fT1 := T1.out.free 1 rfl; have cT2 := T1.out.at 2 rfl; have fT2 := T1.out.free 2 rfl; have cT3 := T1.out.at 3 rfl; have fT3 := T1.out.free 3 rfl) | skip)))
  · have zz := HB1.out.size; have z0 := HB0.out.size
    refine then_named (fun w2 => Hid (Below w.heap.size w w2) ∧ Hid (Blk w2 w.heap.size [.int .i64 0, .int .i64 0, .int .i64 0, .int .i64 0, .int .i64 0]) ∧ Hid (Blk w2 (w1.heap.size) [.int .i64 (f 0 / 2 % 16), .int .i64 (f 0 / 32 % 4096), .int .i64 (f 0 / 131072), .int .i64 (f 1)])) ⟨HB1.out.alloc HB1.out.size _, R1.out.alloc _, Blk.new_at _ rfl⟩ (fun w2 hF => ?_)
    obtain ⟨HB2, R2, T2⟩ := hF
    clear HB0 R0 S0 HBd Rd Sd HB1 S1 R1
    have hz := HB2.out.size; have lR := R2.out.1; have cR0 := R2.out.at 0 rfl; have fR0 := R2.out.free 0 rfl; have cR1 := R2.out.at 1 rfl; have fR1 := R2.out.free 1 rfl; have cR2 := R2.out.at 2 rfl; have fR2 := R2.out.free 2 rfl; have cR3 := R2.out.at 3 rfl; have fR3 := R2.out.free 3 rfl; have cR4 := R2.out.at 4 rfl; have fR4 := R2.out.free 4 rfl
    have cT0 := T2.out.at 0 rfl; have cT1 := T2.out.at 1 rfl; have cT2 := T2.out.at 2 rfl; have cT3 := T2.out.at 3 rfl
    go_wp2
    refine bodyPost_ret (v := .agg #[.int .i64 0, .int .i64 (f 0 / 2 % 16), .int .i64 (f 0 / 32 % 4096), .int .i64 (f 0 / 131072), .int .i64 (f 1)]) (by simp [results, Try.results21, go_sem, cR0, cR1, cR2, cR3, cR4]) rfl ⟨rfl, ?_⟩
    repeat (with_reducible refine Below.setCell ?_ (by (try simp); (try omega)) _)
    exact HB2.out
  · have zz := HB1.out.size; have z0 := HB0.out.size
    refine then_named (fun w2 => Hid (Below w.heap.size w w2) ∧ Hid (Blk w2 w.heap.size [.int .i64 0, .int .i64 0, .int .i64 0, .int .i64 0, .int .i64 0]) ∧ Hid (Blk w2 (w0.heap.size) [.int .i64 (f 0 / 2 % 16), .int .i64 (f 0 / 32 % 4096), .int .i64 (f 0 / 131072), .int .i64 (f 1)])) ⟨((((HB1.out.setCell (by (try simp); (try omega)) _).setCell (by (try simp); (try omega)) _).setCell (by (try simp); (try omega)) _).setCell (by (try simp); (try omega)) _), ((((R1.out.other (by (try simp); (try omega)) _).other (by (try simp); (try omega)) _).other (by (try simp); (try omega)) _).other (by (try simp); (try omega)) _), ((((T1.out.set 0 (by simp) _).set 1 (by simp) _).set 2 (by simp) _).set 3 (by simp) _)⟩ (fun w2 hF => ?_)
    obtain ⟨HB2, R2, T2⟩ := hF
    clear HB0 R0 S0 HBd Rd Sd HB1 S1 R1 T1 lT cT0 fT0 cT1 fT1 cT2 fT2 cT3 fT3
    have hz := HB2.out.size; have lR := R2.out.1; have cR0 := R2.out.at 0 rfl; have fR0 := R2.out.free 0 rfl; have cR1 := R2.out.at 1 rfl; have fR1 := R2.out.free 1 rfl; have cR2 := R2.out.at 2 rfl; have fR2 := R2.out.free 2 rfl; have cR3 := R2.out.at 3 rfl; have fR3 := R2.out.free 3 rfl; have cR4 := R2.out.at 4 rfl; have fR4 := R2.out.free 4 rfl
    have cT0 := T2.out.at 0 rfl; have cT1 := T2.out.at 1 rfl; have cT2 := T2.out.at 2 rfl; have cT3 := T2.out.at 3 rfl
    go_wp2
    refine bodyPost_ret (v := .agg #[.int .i64 0, .int .i64 (f 0 / 2 % 16), .int .i64 (f 0 / 32 % 4096), .int .i64 (f 0 / 131072), .int .i64 (f 1)]) (by simp [results, Try.results21, go_sem, cR0, cR1, cR2, cR3, cR4]) rfl ⟨rfl, ?_⟩
    repeat (with_reducible refine Below.setCell ?_ (by (try simp); (try omega)) _)
    exact HB2.out

set_option maxHeartbeats 3200000 in
theorem specRH_bad (a : Option Addr) (c : Nat) (f : Nat → Int) (w : World) (hs : Src w a 2 f) (hf : f 0 ≤ 9223372036854775807) (hk : ¬ ROk (f 0) (f 1)) :
    Calls Try.prog 21 #[.slice a 2 c] w (RetHR w 1 0 0 0 0) := by
  obtain ⟨ab, ao, rfl, hab, hac⟩ := src_some hs (by omega)
  clear hac
  have HS := Lib.hid hs
  have HK := Lib.hid hk
  have HF := Lib.hid hf
  clear hs hk hf
  go_enter Try.func21, Try.ntmps21
  go_wp2_with fail
  have HB0 : Hid (Below w.heap.size w (w.alloc (.cells #[.int .i64 0, .int .i64 0, .int .i64 0, .int .i64 0, .int .i64 0] 33))) := (Below.refl _ _).alloc (Nat.le_refl _) _
  have R0 : Hid (Blk (w.alloc (.cells #[.int .i64 0, .int .i64 0, .int .i64 0, .int .i64 0, .int .i64 0] 33)) w.heap.size [.int .i64 0, .int .i64 0, .int .i64 0, .int .i64 0, .int .i64 0]) := Blk.new_at (w.heap.size) rfl
  have S0 : Hid (Src (w.alloc (.cells #[.int .i64 0, .int .i64 0, .int .i64 0, .int .i64 0, .int .i64 0] 33)) (some ⟨ab, ao, none⟩) 2 f) := HS.out.alloc _
  generalize w.alloc (.cells #[.int .i64 0, .int .i64 0, .int .i64 0, .int .i64 0, .int .i64 0] 33) = w0 at *
  have hab0 : ab < w0.heap.size := by have := HB0.out.size; omega
  have lR0 := R0.out.1
  have HBd := Lib.hid HB0.out.drew
  have Rd := Lib.hid R0.out.drew
  have Sd := Lib.hid S0.out.drew
  go_region_held3 (fun w' => w'.cell? ⟨ab, ao, none⟩ = some (.int .i64 (f 0)) ∧ w'.cell? ⟨ab, ao + 1, none⟩ = some (.int .i64 (f 1)))
    (first | (with_reducible exact ⟨src_at0 (S0.out), src_at1 (S0.out)⟩) | (with_reducible exact ⟨src_at0 (Sd.out), src_at1 (Sd.out)⟩) | (with_reducible exact ⟨src_at0 ((S0.out.alloc _).drew), src_at1 ((S0.out.alloc _).drew)⟩) | (with_reducible exact ⟨src_at0 (S1.out), src_at1 (S1.out)⟩) | (with_reducible exact ⟨src_at0 (S1.out.alloc _), src_at1 (S1.out.alloc _)⟩) | (exact ⟨src_at0 (src_other (src_other (src_other (src_other S1.out (by (try simp); (try omega)) _) (by (try simp); (try omega)) _) (by (try simp); (try omega)) _) (by (try simp); (try omega)) _), src_at1 (src_other (src_other (src_other (src_other S1.out (by (try simp); (try omega)) _) (by (try simp); (try omega)) _) (by (try simp); (try omega)) _) (by (try simp); (try omega)) _)⟩))
    (first | (go_at_call 48; refine (l2Read_no (f 0) (f 1) _ HF.out HK.out).mono ?_; rintro e w1 ⟨s1, m1, o1, h1, rfl, hb, hv⟩; clear hv; have HB1 := Lib.hid (thru0 (below_ext HBd.out (by first | exact .inl rfl | exact ext_drew _ _ | exact .inr ⟨_, rfl⟩)) hb); have S1 := Lib.hid ((Sd.out.ext (by first | exact .inl rfl | exact ext_drew _ _ | exact .inr ⟨_, rfl⟩)).below hb); have R1 := Lib.hid ((Rd.out.ext (by first | exact .inl rfl | exact ext_drew _ _ | exact .inr ⟨_, rfl⟩)).below hb); have z1 : w0.heap.size ≤ w1.heap.size := (by have := hb.size; simp at this; omega); (first | (have T1 := Lib.hid ((Blk.new_at (w := w0) (cs := #[.int .i64 0, .int .i64 0, .int .i64 0, .int .i64 0]) (t := 25) (w0.heap.size) rfl).drew.below hb)) | skip); clear hb; (first | (have lT := T1.out.1; have cT0 := T1.out.at 0 rfl; have fT0 := T1.out.free 0 rfl; have cT1 := T1.out.at 1 rfl; have fT1 := T1.out.free 1 rfl; have cT2 := T1.out.at 2 rfl; have fT2 := T1.out.free 2 rfl; have cT3 := T1.out.at 3 rfl; have fT3 := T1.out.free 3 rfl) | skip)))
  · have zz := HB1.out.size; have z0 := HB0.out.size
    refine then_named (fun w2 => Hid (Below w.heap.size w w2) ∧ Hid (Blk w2 w.heap.size [.int .i64 0, .int .i64 0, .int .i64 0, .int .i64 0, .int .i64 0]) ∧ Hid (Blk w2 (w1.heap.size) [.int .i64 s1, .int .i64 m1, .int .i64 o1, .int .i64 h1])) ⟨HB1.out.alloc HB1.out.size _, R1.out.alloc _, Blk.new_at _ rfl⟩ (fun w2 hF => ?_)
    obtain ⟨HB2, R2, T2⟩ := hF
    clear HB0 R0 S0 HBd Rd Sd HB1 S1 R1
    have hz := HB2.out.size; have lR := R2.out.1; have cR0 := R2.out.at 0 rfl; have fR0 := R2.out.free 0 rfl; have cR1 := R2.out.at 1 rfl; have fR1 := R2.out.free 1 rfl; have cR2 := R2.out.at 2 rfl; have fR2 := R2.out.free 2 rfl; have cR3 := R2.out.at 3 rfl; have fR3 := R2.out.free 3 rfl; have cR4 := R2.out.at 4 rfl; have fR4 := R2.out.free 4 rfl
    have cT0 := T2.out.at 0 rfl; have cT1 := T2.out.at 1 rfl; have cT2 := T2.out.at 2 rfl; have cT3 := T2.out.at 3 rfl
    go_wp2
    refine bodyPost_ret (v := .agg #[.int .i64 1, .int .i64 0, .int .i64 0, .int .i64 0, .int .i64 0]) (by simp [results, Try.results21, go_sem, cR0, cR1, cR2, cR3, cR4]) rfl ⟨rfl, ?_⟩
    repeat (with_reducible refine Below.setCell ?_ (by (try simp); (try omega)) _)
    exact HB2.out
  · have zz := HB1.out.size; have z0 := HB0.out.size
    refine then_named (fun w2 => Hid (Below w.heap.size w w2) ∧ Hid (Blk w2 w.heap.size [.int .i64 0, .int .i64 0, .int .i64 0, .int .i64 0, .int .i64 0]) ∧ Hid (Blk w2 (w0.heap.size) [.int .i64 s1, .int .i64 m1, .int .i64 o1, .int .i64 h1])) ⟨((((HB1.out.setCell (by (try simp); (try omega)) _).setCell (by (try simp); (try omega)) _).setCell (by (try simp); (try omega)) _).setCell (by (try simp); (try omega)) _), ((((R1.out.other (by (try simp); (try omega)) _).other (by (try simp); (try omega)) _).other (by (try simp); (try omega)) _).other (by (try simp); (try omega)) _), ((((T1.out.set 0 (by simp) _).set 1 (by simp) _).set 2 (by simp) _).set 3 (by simp) _)⟩ (fun w2 hF => ?_)
    obtain ⟨HB2, R2, T2⟩ := hF
    clear HB0 R0 S0 HBd Rd Sd HB1 S1 R1 T1 lT cT0 fT0 cT1 fT1 cT2 fT2 cT3 fT3
    have hz := HB2.out.size; have lR := R2.out.1; have cR0 := R2.out.at 0 rfl; have fR0 := R2.out.free 0 rfl; have cR1 := R2.out.at 1 rfl; have fR1 := R2.out.free 1 rfl; have cR2 := R2.out.at 2 rfl; have fR2 := R2.out.free 2 rfl; have cR3 := R2.out.at 3 rfl; have fR3 := R2.out.free 3 rfl; have cR4 := R2.out.at 4 rfl; have fR4 := R2.out.free 4 rfl
    have cT0 := T2.out.at 0 rfl; have cT1 := T2.out.at 1 rfl; have cT2 := T2.out.at 2 rfl; have cT3 := T2.out.at 3 rfl
    go_wp2
    refine bodyPost_ret (v := .agg #[.int .i64 1, .int .i64 0, .int .i64 0, .int .i64 0, .int .i64 0]) (by simp [results, Try.results21, go_sem, cR0, cR1, cR2, cR3, cR4]) rfl ⟨rfl, ?_⟩
    repeat (with_reducible refine Below.setCell ?_ (by (try simp); (try omega)) _)
    exact HB2.out

/-- What ReadHead answers. -/
def IsRH (n : Nat) (f : Nat → Int) (c s m o h : Int) : Prop :=
  (¬ n = 2 ∧ c = 2 ∧ s = 0 ∧ m = 0 ∧ o = 0 ∧ h = 0) ∨ (n = 2 ∧ ROk (f 0) (f 1) ∧ c = 0 ∧ s = f 0 / 2 % 16 ∧ m = f 0 / 32 % 4096 ∧ o = f 0 / 131072 ∧ h = f 1) ∨ (n = 2 ∧ ¬ ROk (f 0) (f 1) ∧ c = 1 ∧ s = 0 ∧ m = 0 ∧ o = 0 ∧ h = 0)
theorem isRH_some (n : Nat) (f : Nat → Int) : ∃ c s m o h, IsRH n f c s m o h := by
  by_cases h2 : n = 2
  · by_cases x : ROk (f 0) (f 1)
    · exact ⟨_, _, _, _, _, .inr (.inl ⟨h2, x, rfl, rfl, rfl, rfl, rfl⟩)⟩
    · exact ⟨_, _, _, _, _, .inr (.inr ⟨h2, x, rfl, rfl, rfl, rfl, rfl⟩)⟩
  · exact ⟨_, _, _, _, _, .inl ⟨h2, rfl, rfl, rfl, rfl, rfl⟩⟩
theorem implRH_any (a : Option Addr) (n cap : Nat) (f : Nat → Int) (c s m o h : Int) (w : World) (hs : Src w a n f) (hn : n ≤ 1048576) (hk : IsRH n f c s m o h) : Calls Try.prog 15 #[.slice a n cap] w (RetHR w c s m o h) := by
  rcases hk with ⟨h2, rfl, rfl, rfl, rfl, rfl⟩ | ⟨rfl, x, rfl, rfl, rfl, rfl, rfl⟩ | ⟨rfl, x, rfl, rfl, rfl, rfl, rfl⟩
  · exact implRH_many a n cap w hn h2
  · exact implRH_ok a cap f w hs x
  · exact implRH_bad a cap f w hs x
theorem specRH_any (a : Option Addr) (n cap : Nat) (f : Nat → Int) (c s m o h : Int) (w : World) (hs : Src w a n f) (hn : n ≤ 1048576) (hf : ∀ i, i < n → f i ≤ 9223372036854775807) (hk : IsRH n f c s m o h) : Calls Try.prog 21 #[.slice a n cap] w (RetHR w c s m o h) := by
  rcases hk with ⟨h2, rfl, rfl, rfl, rfl, rfl⟩ | ⟨rfl, x, rfl, rfl, rfl, rfl, rfl⟩ | ⟨rfl, x, rfl, rfl, rfl, rfl, rfl⟩
  · exact specRH_many a n cap w hn h2
  · exact specRH_ok a cap f w hs (hf 0 (by omega)) x
  · exact specRH_bad a cap f w hs (hf 0 (by omega)) x

end Go.Proofs.Ytflhjbcpffhanaa
