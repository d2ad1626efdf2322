/- ReadHead, of the program. -/
import Derived.Test.YtflhjbcpffhanaaH11
import Derived.Defers
import Derived.Recover
import Derived.Laws.Pointers
import Derived.StillTailTactics
namespace Go.Proofs.Ytflhjbcpffhanaa
open Go.RowKit
set_option linter.unusedVariables false


/-- The five cells of a HeadResult. -/
def R5 (w : World) (b : Nat) (c s m o h : Int) : Prop := Blk w b [.int .i64 c, .int .i64 s, .int .i64 m, .int .i64 o, .int .i64 h]
theorem catch_panicking (b : Nat) (c s m o h : Int) (u : TypeId) (pv : Value) (older : List PanicEntry) (w : World) (hB : R5 w b c s m o h) :
    CallsD Try.prog 45 #[.pointer (some ⟨b, 0, none⟩)] (.panicking ({ v := .iface u pv, recovered := false } :: older)) w fun e u' w' =>
      e = .returned (.tuple #[]) ∧ u' = .panicking ({ v := .iface u pv, recovered := true } :: older) ∧ R5 w' b 1 0 0 0 0 ∧ Below b w w' := by
  have c0 := hB.at 0 rfl; have c1 := hB.at 1 rfl; have c2 := hB.at 2 rfl; have c3 := hB.at 3 rfl; have c4 := hB.at 4 rfl
  have f0 := hB.free 0 rfl; have f1 := hB.free 1 rfl; have f2 := hB.free 2 rfl; have f3 := hB.free 3 rfl; have f4 := hB.free 4 rfl
  have HB : Hid (Blk w b [.int .i64 c, .int .i64 s, .int .i64 m, .int .i64 o, .int .i64 h]) := hB
  clear hB
  refine callsD_of_wpS Try.func45 rfl fun c₀ cs hu => ?_
  apply wpS_seq
  apply wpS_region
  simp [wpOpsS, go_sem, recoverD, hu, Try.ntmps45, Exit.thenS]
  refine wpS_cond (t := true) (by simp [Act.eval, Array.replicate]) ?_
  simp only [if_true]
  apply wpS_region
  simp [wpOpsS, go_sem, c0, c1, c2, c3, c4, f0, f1, f2, f3, f4, bodyPostS, results, Try.results45]
  exact ⟨((((HB.out.set 0 (by simp) _).set 1 (by simp) _).set 2 (by simp) _).set 3 (by simp) _).set 4 (by simp) _,
    Below.setCell (Below.setCell (Below.setCell (Below.setCell (Below.setCell (Below.refl b w) (by simp) _) (by simp) _) (by simp) _) (by simp) _) (by simp) _⟩

theorem catch_idle (p : Addr) (w : World) :
    CallsD Try.prog 45 #[.pointer (some p)] .returning w fun e u' w' => e = .returned (.tuple #[]) ∧ u' = .returning ∧ w' = w := by
  refine callsD_of_wpS Try.func45 rfl fun c₀ cs hu => ?_
  apply wpS_seq
  apply wpS_region
  simp [wpOpsS, go_sem, recoverD, hu, Try.ntmps45, Exit.thenS]
  refine wpS_cond (t := false) (by simp [Act.eval, Array.replicate]) ?_
  simp only [Bool.false_eq_true, if_false]
  refine wpS_of_wp (wp_skip ?_)
  cases c₀
  simp_all [bodyPostS, results, Try.results45]

/-- A HeadResult comes back. -/
def RetHR (W : World) (c s m o h : Int) (e : Ending) (w' : World) : Prop := e = .returned (.agg #[.int .i64 c, .int .i64 s, .int .i64 m, .int .i64 o, .int .i64 h]) ∧ Below W.heap.size W w'

set_option maxHeartbeats 800000 in
theorem implRH_many (a : Option Addr) (n c : Nat) (w : World) (hn : n ≤ 1048576) (h2 : ¬ n = 2) :
    Calls Try.prog 15 #[.slice a n c] w (RetHR w 2 0 0 0 0) := by
  have hd : ((n : Int) != 2) = true := by simp; omega
  go_enter_defers Try.func15, Try.ntmps15
  go_wp2
  exact ⟨.agg #[.int .i64 2, .int .i64 0, .int .i64 0, .int .i64 0, .int .i64 0], by simp [results, Try.results15, go_sem], rfl, (Below.refl _ _).alloc (Nat.le_refl _) _⟩

set_option maxHeartbeats 800000 in
theorem implRH_ok (a : Option Addr) (c : Nat) (f : Nat → Int) (w : World) (hs : Src w a 2 f) (hk : ROk (f 0) (f 1)) :
    Calls Try.prog 15 #[.slice a 2 c] w (RetHR w 0 (f 0 / 2 % 16) (f 0 / 32 % 4096) (f 0 / 131072) (f 1)) := by
  have hmf : ∀ (fn : Fn) (first cap : Array Value) (w : World), (Instr.makeFunc fn first cap).run Try.prog w = .ok (.func fn first cap) w := fun _ _ _ _ => rfl
  obtain ⟨ab, ao, rfl, hab, hac⟩ := src_some hs (by omega)
  have c0 := hac 0 (by omega)
  have c1 := hac 1 (by omega)
  simp only [Nat.add_zero] at c0
  have HK := Lib.hid hk
  clear hac hk
  have hs' := hs
  clear hs
  have HS := Lib.hid hs'
  clear hs'
  go_enter_defers Try.func15, Try.ntmps15
  go_wp2_with fail
  have HB0 : Hid (Below w.heap.size w (w.alloc (.cells #[.int .i64 0, .int .i64 0, .int .i64 0, .int .i64 0, .int .i64 0] 33))) := (Below.refl _ _).alloc (Nat.le_refl _) _
  have HR0 : Hid (Blk (w.alloc (.cells #[.int .i64 0, .int .i64 0, .int .i64 0, .int .i64 0, .int .i64 0] 33)) w.heap.size [.int .i64 0, .int .i64 0, .int .i64 0, .int .i64 0, .int .i64 0]) := Blk.new_at (w.heap.size) rfl
  have d0 := (HB0.out.cell (p := ⟨ab, ao, none⟩) hab).trans c0
  have d1 := (HB0.out.cell (p := ⟨ab, ao + 1, none⟩) hab).trans c1
  clear c0 c1
  generalize w.alloc (.cells #[.int .i64 0, .int .i64 0, .int .i64 0, .int .i64 0, .int .i64 0] 33) = w0 at *
  go_still_tail 6, (by kernel_rfl)
  change wpList _ _ _ _ _ w0.drew
  have HB1 := Lib.hid HB0.out.drew
  have HR1 := Lib.hid HR0.out.drew
  clear d0 d1 HB0 HR0
  generalize w0.drew = w1 at *
  go_wp2_with fail
  refine (unpack_ok (f 0) (f 1) _ HK.out).mono ?_
  rintro e w2 ⟨rfl, hb⟩
  have HB2 := Lib.hid (thru0 HB1.out hb)
  have R := Lib.hid (HR1.out.below hb)
  clear hb HB1 HR1
  have hz := HB2.out.size
  have lR := R.out.1
  have cR0 := R.out.at 0 rfl; have cR1 := R.out.at 1 rfl; have cR2 := R.out.at 2 rfl; have cR3 := R.out.at 3 rfl; have cR4 := R.out.at 4 rfl
  have fR0 := R.out.free 0 rfl; have fR1 := R.out.free 1 rfl; have fR2 := R.out.free 2 rfl; have fR3 := R.out.free 3 rfl; have fR4 := R.out.free 4 rfl
  go_wp2
  refine leaves_cons (f := 45) (args := #[.pointer (some ⟨w.heap.size, 0, none⟩)]) (by simp) (by simp [go_sem]) ?_
  refine (catch_idle ⟨w.heap.size, 0, none⟩ _).mono ?_
  rintro e u' w'' ⟨rfl, rfl, rfl⟩
  refine ⟨.agg #[.int .i64 0, .int .i64 (f 0 / 2 % 16), .int .i64 (f 0 / 32 % 4096), .int .i64 (f 0 / 131072), .int .i64 (f 1)], by simp [results, Try.results15, go_sem, cR0, cR1, cR2, cR3, cR4], rfl, ?_⟩
  repeat (with_reducible refine Below.setCell ?_ (by (try simp); (try omega)) _)
  exact HB2.out

set_option maxHeartbeats 800000 in
theorem implRH_bad (a : Option Addr) (c : Nat) (f : Nat → Int) (w : World) (hs : Src w a 2 f) (hk : ¬ ROk (f 0) (f 1)) :
    Calls Try.prog 15 #[.slice a 2 c] w (RetHR w 1 0 0 0 0) := by
  have hmf : ∀ (fn : Fn) (first cap : Array Value) (w : World), (Instr.makeFunc fn first cap).run Try.prog w = .ok (.func fn first cap) w := fun _ _ _ _ => rfl
  obtain ⟨ab, ao, rfl, hab, hac⟩ := src_some hs (by omega)
  have c0 := hac 0 (by omega)
  have c1 := hac 1 (by omega)
  simp only [Nat.add_zero] at c0
  have HK := Lib.hid hk
  clear hac hk
  have hs' := hs
  clear hs
  have HS := Lib.hid hs'
  clear hs'
  go_enter_defers Try.func15, Try.ntmps15
  go_wp2_with fail
  have HB0 : Hid (Below w.heap.size w (w.alloc (.cells #[.int .i64 0, .int .i64 0, .int .i64 0, .int .i64 0, .int .i64 0] 33))) := (Below.refl _ _).alloc (Nat.le_refl _) _
  have HR0 : Hid (Blk (w.alloc (.cells #[.int .i64 0, .int .i64 0, .int .i64 0, .int .i64 0, .int .i64 0] 33)) w.heap.size [.int .i64 0, .int .i64 0, .int .i64 0, .int .i64 0, .int .i64 0]) := Blk.new_at (w.heap.size) rfl
  have d0 := (HB0.out.cell (p := ⟨ab, ao, none⟩) hab).trans c0
  have d1 := (HB0.out.cell (p := ⟨ab, ao + 1, none⟩) hab).trans c1
  clear c0 c1
  generalize w.alloc (.cells #[.int .i64 0, .int .i64 0, .int .i64 0, .int .i64 0, .int .i64 0] 33) = w0 at *
  go_still_tail 6, (by kernel_rfl)
  change wpList _ _ _ _ _ w0.drew
  have HB1 := Lib.hid HB0.out.drew
  have HR1 := Lib.hid HR0.out.drew
  clear d0 d1 HB0 HR0
  generalize w0.drew = w1 at *
  go_wp2_with fail
  refine (unpack_no (f 0) (f 1) _ HK.out).mono ?_
  rintro e w2 ⟨⟨pv, rfl⟩, hb⟩
  have HB2 := Lib.hid (thru0 HB1.out hb)
  have R := Lib.hid (HR1.out.below hb)
  clear hb HB1 HR1
  go_wp2
  refine leaves_cons (f := 45) (args := #[.pointer (some ⟨w.heap.size, 0, none⟩)]) (by simp) (by simp [go_sem]) ?_
  refine (catch_panicking w.heap.size 0 0 0 0 0 9 pv [] _ R.out).mono ?_
  rintro e u' w'' ⟨rfl, rfl, hr, hb⟩
  have cR0 := hr.at 0 rfl; have cR1 := hr.at 1 rfl; have cR2 := hr.at 2 rfl; have cR3 := hr.at 3 rfl; have cR4 := hr.at 4 rfl
  exact ⟨.agg #[.int .i64 1, .int .i64 0, .int .i64 0, .int .i64 0, .int .i64 0], by simp [results, Try.results15, go_sem, cR0, cR1, cR2, cR3, cR4], rfl, HB2.out.trans hb⟩

end Go.Proofs.Ytflhjbcpffhanaa
