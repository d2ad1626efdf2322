/- Texts merged: V11 to V15. -/
import Derived.Test.YtaenbjilcgpgcaaPSM1
namespace Go.Proofs.Ytaenbjilcgpgcaa
open Go.RowKit
set_option linter.unusedVariables false

theorem capNN {w : World} {A B : Nat} {x s m h x' s' m' h' : Int} {a a' : Option Addr} {n c n' c' : Nat} (hA : Blk w A [.int .i64 x, .int .i64 s, .int .i64 m, .int .i64 h, .slice a n c]) (hB : Blk w B [.int .i64 x', .int .i64 s', .int .i64 m', .int .i64 h', .slice a' n' c']) : w.cell? ⟨A, 0, none⟩ = some (.int .i64 x) ∧ w.cell? ⟨A, 1, none⟩ = some (.int .i64 s) ∧ w.cell? ⟨A, 2, none⟩ = some (.int .i64 m) ∧ w.cell? ⟨A, 3, none⟩ = some (.int .i64 h) ∧ w.cell? ⟨A, 4, none⟩ = some (.slice a n c) ∧ w.cell? ⟨B, 0, none⟩ = some (.int .i64 x') ∧ w.cell? ⟨B, 1, none⟩ = some (.int .i64 s') ∧ w.cell? ⟨B, 2, none⟩ = some (.int .i64 m') ∧ w.cell? ⟨B, 3, none⟩ = some (.int .i64 h') ∧ w.cell? ⟨B, 4, none⟩ = some (.slice a' n' c') :=
  ⟨hA.at 0 rfl, hA.at 1 rfl, hA.at 2 rfl, hA.at 3 rfl, hA.at 4 rfl, hB.at 0 rfl, hB.at 1 rfl, hB.at 2 rfl, hB.at 3 rfl, hB.at 4 rfl⟩

set_option maxRecDepth 100000 in
set_option maxHeartbeats 1600000 in
theorem sm_id (x s m h x' s' m' h' : Int) (a a' : Option Addr) (n c n' c' : Nat) (f g : Nat → Int) (w : World) (s1 : Src w a n f) (s2 : Src w a' n' g) (hx : (x == x') = false) :
    Calls Try.prog 103 #[.agg #[.int .i64 x, .int .i64 s, .int .i64 m, .int .i64 h, .slice a n c], .agg #[.int .i64 x', .int .i64 s', .int .i64 m', .int .i64 h', .slice a' n' c']] w (RetBool w false) := by
  have S1 := Lib.hid s1; have S2 := Lib.hid s2
  have HB0 := Lib.hid (((Below.refl w.heap.size w).alloc (Nat.le_refl _) (.cells #[.int .i64 x, .int .i64 s, .int .i64 m, .int .i64 h, .slice a n c] 133)).alloc (by simp) (.cells #[.int .i64 x', .int .i64 s', .int .i64 m', .int .i64 h', .slice a' n' c'] 133))
  have A_0 := Lib.hid ((Blk.new_at (w := w) (cs := #[.int .i64 x, .int .i64 s, .int .i64 m, .int .i64 h, .slice a n c]) (t := 133) w.heap.size rfl).alloc (.cells #[.int .i64 x', .int .i64 s', .int .i64 m', .int .i64 h', .slice a' n' c'] 133))
  have B_0 := Lib.hid (Blk.new_at (w := w.alloc (.cells #[.int .i64 x, .int .i64 s, .int .i64 m, .int .i64 h, .slice a n c] 133)) (cs := #[.int .i64 x', .int .i64 s', .int .i64 m', .int .i64 h', .slice a' n' c']) (t := 133) (w.heap.size + 1) (by simp))
  have S1a := Lib.hid (S1.out.below HB0.out); have S2a := Lib.hid (S2.out.below HB0.out)
  clear s1 s2 S1 S2
  go_enter Try.func103, Try.ntmps103
  go_wp2_with fail
  generalize (w.alloc (.cells #[.int .i64 x, .int .i64 s, .int .i64 m, .int .i64 h, .slice a n c] 133)).alloc (.cells #[.int .i64 x', .int .i64 s', .int .i64 m', .int .i64 h', .slice a' n' c'] 133) = w0 at *
  have A_d := Lib.hid A_0.out.drew; have B_d := Lib.hid B_0.out.drew; have HB_d := Lib.hid HB0.out.drew; have S1d := Lib.hid S1a.out.drew; have S2d := Lib.hid S2a.out.drew
  obtain ⟨y0, y1, y2, y3, y4, z0, z1, z2, z3, z4⟩ := capNN A_0.out B_0.out
  have lA := A_0.out.1; have lB := B_0.out.1
  go_quiet (fail)
  go_wp2
  go_ret
  exact ⟨rfl, below_drewN HB0.out _⟩

set_option maxRecDepth 100000 in
set_option maxHeartbeats 1600000 in
theorem sm_s (x s m h s' m' h' : Int) (a a' : Option Addr) (n c n' c' : Nat) (f g : Nat → Int) (w : World) (s1 : Src w a n f) (s2 : Src w a' n' g) (hx : ¬ s = s') :
    Calls Try.prog 103 #[.agg #[.int .i64 x, .int .i64 s, .int .i64 m, .int .i64 h, .slice a n c], .agg #[.int .i64 x, .int .i64 s', .int .i64 m', .int .i64 h', .slice a' n' c']] w (RetBool w false) := by
  have S1 := Lib.hid s1; have S2 := Lib.hid s2
  have HB0 := Lib.hid (((Below.refl w.heap.size w).alloc (Nat.le_refl _) (.cells #[.int .i64 x, .int .i64 s, .int .i64 m, .int .i64 h, .slice a n c] 133)).alloc (by simp) (.cells #[.int .i64 x, .int .i64 s', .int .i64 m', .int .i64 h', .slice a' n' c'] 133))
  have A_0 := Lib.hid ((Blk.new_at (w := w) (cs := #[.int .i64 x, .int .i64 s, .int .i64 m, .int .i64 h, .slice a n c]) (t := 133) w.heap.size rfl).alloc (.cells #[.int .i64 x, .int .i64 s', .int .i64 m', .int .i64 h', .slice a' n' c'] 133))
  have B_0 := Lib.hid (Blk.new_at (w := w.alloc (.cells #[.int .i64 x, .int .i64 s, .int .i64 m, .int .i64 h, .slice a n c] 133)) (cs := #[.int .i64 x, .int .i64 s', .int .i64 m', .int .i64 h', .slice a' n' c']) (t := 133) (w.heap.size + 1) (by simp))
  have S1a := Lib.hid (S1.out.below HB0.out); have S2a := Lib.hid (S2.out.below HB0.out)
  clear s1 s2 S1 S2
  go_enter Try.func103, Try.ntmps103
  go_wp2_with fail
  generalize (w.alloc (.cells #[.int .i64 x, .int .i64 s, .int .i64 m, .int .i64 h, .slice a n c] 133)).alloc (.cells #[.int .i64 x, .int .i64 s', .int .i64 m', .int .i64 h', .slice a' n' c'] 133) = w0 at *
  have A_d := Lib.hid A_0.out.drew; have B_d := Lib.hid B_0.out.drew; have HB_d := Lib.hid HB0.out.drew; have S1d := Lib.hid S1a.out.drew; have S2d := Lib.hid S2a.out.drew
  refine wp_region_held_drew (S := (fun w' => w'.cell? ⟨w.heap.size, 0, none⟩ = some (.int .i64 x) ∧ w'.cell? ⟨w.heap.size, 1, none⟩ = some (.int .i64 s) ∧ w'.cell? ⟨w.heap.size, 2, none⟩ = some (.int .i64 m) ∧ w'.cell? ⟨w.heap.size, 3, none⟩ = some (.int .i64 h) ∧ w'.cell? ⟨w.heap.size, 4, none⟩ = some (.slice a n c) ∧ w'.cell? ⟨(w.heap.size + 1), 0, none⟩ = some (.int .i64 x) ∧ w'.cell? ⟨(w.heap.size + 1), 1, none⟩ = some (.int .i64 s') ∧ w'.cell? ⟨(w.heap.size + 1), 2, none⟩ = some (.int .i64 m') ∧ w'.cell? ⟨(w.heap.size + 1), 3, none⟩ = some (.int .i64 h') ∧ w'.cell? ⟨(w.heap.size + 1), 4, none⟩ = some (.slice a' n' c'))) (by kernel_rfl) (capNN A_d.out B_d.out) (fun hHeld => ?_)
  refine wpAnyH_take (i := 0) (oi := { dst := some 5, op := Op.fieldAddr 133 (Operand.tmp 2) 0, type := 0, pos := "l05_graph.go:295", after := #[], guard := none }) (v := ?_) rfl (by kernel_rfl) (by kernel_rfl) (by kernel_rfl) (fun _ _ _ h => h) (Or.inl ⟨by rfl, ?_⟩) (by assumption) ?_
  rotate_left
  · intro w hSw; (try dsimp only at hSw); go_simp; (try with_reducible rfl)
  try simp only [Act.put, List.setIfInBounds_toArray, List.set_cons_zero, List.set_cons_succ]
  refine wpAnyH_take (i := 1) (oi := { dst := some 6, op := Op.load 2 (Operand.tmp 5), type := 2, pos := "l05_graph.go:295", after := #[{ on := 0, ground := Ground.data }], guard := none }) (v := ?_) rfl (by kernel_rfl) (by kernel_rfl) (by kernel_rfl) (fun _ _ _ h => h) (Or.inl ⟨by rfl, ?_⟩) (by assumption) ?_
  rotate_left
  · intro w hSw; (try dsimp only at hSw); go_simp; (try with_reducible rfl)
  try simp only [Act.put, List.setIfInBounds_toArray, List.set_cons_zero, List.set_cons_succ]
  refine wpAnyH_take (i := 2) (oi := { dst := some 7, op := Op.fieldAddr 133 (Operand.tmp 3) 0, type := 0, pos := "l05_graph.go:295", after := #[], guard := none }) (v := ?_) rfl (by kernel_rfl) (by kernel_rfl) (by kernel_rfl) (fun _ _ _ h => h) (Or.inl ⟨by rfl, ?_⟩) (by assumption) ?_
  rotate_left
  · intro w hSw; (try dsimp only at hSw); go_simp; (try with_reducible rfl)
  try simp only [Act.put, List.setIfInBounds_toArray, List.set_cons_zero, List.set_cons_succ]
  refine wpAnyH_take (i := 3) (oi := { dst := some 8, op := Op.load 2 (Operand.tmp 7), type := 2, pos := "l05_graph.go:295", after := #[{ on := 2, ground := Ground.data }], guard := none }) (v := ?_) rfl (by kernel_rfl) (by kernel_rfl) (by kernel_rfl) (fun _ _ _ h => h) (Or.inl ⟨by rfl, ?_⟩) (by assumption) ?_
  rotate_left
  · intro w hSw; (try dsimp only at hSw); go_simp; (try with_reducible rfl)
  try simp only [Act.put, List.setIfInBounds_toArray, List.set_cons_zero, List.set_cons_succ]
  refine wpAnyH_take (i := 4) (oi := { dst := some 9, op := Op.binOp BinOp.eql 2 (Operand.tmp 6) (Operand.tmp 8) 2, type := 4, pos := "l05_graph.go:295", after := #[{ on := 1, ground := Ground.data }, { on := 3, ground := Ground.data }], guard := none }) (v := ?_) rfl (by kernel_rfl) (by kernel_rfl) (by kernel_rfl) (fun _ _ _ h => h) (Or.inl ⟨by rfl, ?_⟩) (by assumption) ?_
  rotate_left
  · intro w hSw; (try dsimp only at hSw); go_simp; (try with_reducible rfl)
  try simp only [Act.put, List.setIfInBounds_toArray, List.set_cons_zero, List.set_cons_succ]
  refine wpAnyH_take (i := 5) (oi := { dst := some 10, op := Op.move (Operand.tmp 9), type := 4, pos := "l05_graph.go:295", after := #[{ on := 4, ground := Ground.data }], guard := none }) (v := ?_) rfl (by kernel_rfl) (by kernel_rfl) (by kernel_rfl) (fun _ _ _ h => h) (Or.inl ⟨by rfl, ?_⟩) (by assumption) ?_
  rotate_left
  · intro w hSw; (try dsimp only at hSw); go_simp; (try with_reducible rfl)
  try simp only [Act.put, List.setIfInBounds_toArray, List.set_cons_zero, List.set_cons_succ]
  refine wpAnyH_take (i := 6) (oi := { dst := some 11, op := Op.load 133 (Operand.tmp 2), type := 133, pos := "l05_graph.go:295", after := #[{ on := 5, ground := Ground.guard }], guard := some (5, true) }) (v := ?_) rfl (by kernel_rfl) (by kernel_rfl) (by kernel_rfl) (fun _ _ _ h => h) (Or.inl ⟨by rfl, ?_⟩) (by assumption) ?_
  rotate_left
  · intro w hSw; (try dsimp only at hSw); go_simp; (try with_reducible rfl)
  try simp only [Act.put, List.setIfInBounds_toArray, List.set_cons_zero, List.set_cons_succ]
  refine wpAnyH_take (i := 8) (oi := { dst := some 13, op := Op.load 133 (Operand.tmp 3), type := 133, pos := "l05_graph.go:295", after := #[{ on := 5, ground := Ground.guard }], guard := some (5, true) }) (v := ?_) rfl (by kernel_rfl) (by kernel_rfl) (by kernel_rfl) (fun _ _ _ h => h) (Or.inl ⟨by rfl, ?_⟩) (by assumption) ?_
  rotate_left
  · intro w hSw; (try dsimp only at hSw); go_simp; (try with_reducible rfl)
  try simp only [Act.put, List.setIfInBounds_toArray, List.set_cons_zero, List.set_cons_succ]
  refine wpAnyH_ready (rs := [7]) (by kernel_rfl) (by simp) ?_
  refine AllReadyH.cons (o := _) rfl (fun Kq hKq => ?_) AllReadyH.nil
  go_simp
  (go_at_call 104; refine (headOf_any ⟨x, s, m, 0, h, a, n, c, fun _ => 0⟩ _).mono ?_; rintro e w2 ⟨rfl, hb⟩; have HB2 := Lib.hid (HB_d.out.trans (hb.mono HB_d.out.size)); have A_2 := Lib.hid (A_d.out.below hb); have B_2 := Lib.hid (B_d.out.below hb); have S12 := Lib.hid (S1d.out.below hb); have S22 := Lib.hid (S2d.out.below hb); clear hb)
  first | (refine hKq.out _ _ (capNN A_2.out B_2.out) (fun hHeld => ?_)) | (go_wp2_with fail; refine hKq.out _ _ (capNN A_2.out B_2.out) (fun hHeld => ?_))
  clear hKq Kq
  refine wpAnyH_ready (rs := [9]) (by kernel_rfl) (by simp) ?_
  refine AllReadyH.cons (o := _) rfl (fun Kq hKq => ?_) AllReadyH.nil
  go_simp
  (go_at_call 104; refine (headOf_any ⟨x, s', m', 0, h', a', n', c', fun _ => 0⟩ _).mono ?_; rintro e w3 ⟨rfl, hb⟩; have HB3 := Lib.hid (thru0 HB2.out hb); have A_3 := Lib.hid (A_2.out.below hb); have B_3 := Lib.hid (B_2.out.below hb); have S13 := Lib.hid (S12.out.below hb); have S23 := Lib.hid (S22.out.below hb); clear hb)
  first | (refine hKq.out _ _ (capNN A_3.out B_3.out) (fun hHeld => ?_)) | (go_wp2_with fail; refine hKq.out _ _ (capNN A_3.out B_3.out) (fun hHeld => ?_))
  clear hKq Kq
  refine wpAnyH_take (i := 10) (oi := { dst := some 15, op := Op.binOp BinOp.eql 93 (Operand.tmp 12) (Operand.tmp 14) 93, type := 4, pos := "l05_graph.go:295", after := #[{ on := 7, ground := Ground.data }, { on := 9, ground := Ground.data }, { on := 5, ground := Ground.guard }], guard := some (5, true) }) (v := ?_) rfl (by kernel_rfl) (by kernel_rfl) (by kernel_rfl) (fun _ _ _ h => h) (Or.inl ⟨by rfl, ?_⟩) (by assumption) ?_
  rotate_left
  · intro w hSw; (try dsimp only at hSw); go_simp; (try with_reducible rfl)
  try simp only [Act.put, List.setIfInBounds_toArray, List.set_cons_zero, List.set_cons_succ]
  refine wpAnyH_take (i := 11) (oi := { dst := some 16, op := Op.pick (Operand.tmp 10) (Operand.tmp 15) (Operand.const (Value.bool false)), type := 4, pos := "l05_graph.go:295", after := #[{ on := 5, ground := Ground.data }, { on := 10, ground := Ground.data }], guard := none }) (v := ?_) rfl (by kernel_rfl) (by kernel_rfl) (by kernel_rfl) (fun _ _ _ h => h) (Or.inl ⟨by rfl, ?_⟩) (by assumption) ?_
  rotate_left
  · intro w hSw; (try dsimp only at hSw); go_simp; (try with_reducible rfl)
  try simp only [Act.put, List.setIfInBounds_toArray, List.set_cons_zero, List.set_cons_succ]
  refine wpAnyH_take (i := 12) (oi := { dst := some 17, op := Op.move (Operand.tmp 16), type := 4, pos := "l05_graph.go:295", after := #[{ on := 11, ground := Ground.data }, { on := 9, ground := Ground.chain }], guard := none }) (v := ?_) rfl (by kernel_rfl) (by kernel_rfl) (by kernel_rfl) (fun _ _ _ h => h) (Or.inl ⟨by rfl, ?_⟩) (by assumption) ?_
  rotate_left
  · intro w hSw; (try dsimp only at hSw); go_simp; (try with_reducible rfl)
  try simp only [Act.put, List.setIfInBounds_toArray, List.set_cons_zero, List.set_cons_succ]
  refine wpAnyH_take (i := 13) (oi := { dst := some 18, op := Op.fieldAddr 133 (Operand.tmp 2) 4, type := 0, pos := "l05_graph.go:295", after := #[{ on := 12, ground := Ground.guard }], guard := some (12, true) }) (v := _) rfl (by kernel_rfl) (by kernel_rfl) (by kernel_rfl) (fun _ _ _ h => h) (Or.inr ⟨by rfl, rfl⟩) (by assumption) ?_
  refine wpAnyH_take (i := 14) (oi := { dst := some 19, op := Op.load 24 (Operand.tmp 18), type := 24, pos := "l05_graph.go:295", after := #[{ on := 13, ground := Ground.data }, { on := 12, ground := Ground.guard }], guard := some (12, true) }) (v := _) rfl (by kernel_rfl) (by kernel_rfl) (by kernel_rfl) (fun _ _ _ h => h) (Or.inr ⟨by rfl, rfl⟩) (by assumption) ?_
  refine wpAnyH_take (i := 15) (oi := { dst := some 20, op := Op.fieldAddr 133 (Operand.tmp 3) 4, type := 0, pos := "l05_graph.go:295", after := #[{ on := 12, ground := Ground.guard }], guard := some (12, true) }) (v := _) rfl (by kernel_rfl) (by kernel_rfl) (by kernel_rfl) (fun _ _ _ h => h) (Or.inr ⟨by rfl, rfl⟩) (by assumption) ?_
  refine wpAnyH_take (i := 16) (oi := { dst := some 21, op := Op.load 24 (Operand.tmp 20), type := 24, pos := "l05_graph.go:295", after := #[{ on := 15, ground := Ground.data }, { on := 12, ground := Ground.guard }], guard := some (12, true) }) (v := _) rfl (by kernel_rfl) (by kernel_rfl) (by kernel_rfl) (fun _ _ _ h => h) (Or.inr ⟨by rfl, rfl⟩) (by assumption) ?_
  refine wpAnyH_ready (rs := [17]) (by kernel_rfl) (by simp) ?_
  refine AllReadyH.cons (o := _) rfl (fun Kq hKq => ?_) AllReadyH.nil
  go_simp
  refine hKq.out _ _ (capNN A_3.out B_3.out) (fun hHeld => ?_)
  clear hKq Kq
  try simp only [Act.put, List.setIfInBounds_toArray, List.set_cons_zero, List.set_cons_succ]
  refine wpAnyH_take (i := 18) (oi := { dst := some 23, op := Op.pick (Operand.tmp 17) (Operand.tmp 22) (Operand.const (Value.bool false)), type := 4, pos := "l05_graph.go:295", after := #[{ on := 12, ground := Ground.data }, { on := 17, ground := Ground.data }], guard := none }) (v := ?_) rfl (by kernel_rfl) (by kernel_rfl) (by kernel_rfl) (fun _ _ _ h => h) (Or.inl ⟨by rfl, ?_⟩) (by assumption) ?_
  rotate_left
  · intro w hSw; (try dsimp only at hSw); go_simp; (try with_reducible rfl)
  try simp only [Act.put, List.setIfInBounds_toArray, List.set_cons_zero, List.set_cons_succ]
  refine wpAnyH_take (i := 19) (oi := { dst := some 4, op := Op.assign (Operand.tmp 23), type := 4, pos := "l05_graph.go:295", after := #[{ on := 18, ground := Ground.data }, { on := 17, ground := Ground.chain }, { on := 0, ground := Ground.phase }, { on := 1, ground := Ground.phase }, { on := 2, ground := Ground.phase }, { on := 3, ground := Ground.phase }, { on := 4, ground := Ground.phase }, { on := 5, ground := Ground.phase }, { on := 6, ground := Ground.phase }, { on := 7, ground := Ground.phase }, { on := 8, ground := Ground.phase }, { on := 9, ground := Ground.phase }, { on := 10, ground := Ground.phase }, { on := 11, ground := Ground.phase }, { on := 12, ground := Ground.phase }, { on := 13, ground := Ground.phase }, { on := 14, ground := Ground.phase }, { on := 15, ground := Ground.phase }, { on := 16, ground := Ground.phase }, { on := 17, ground := Ground.phase }, { on := 18, ground := Ground.phase }], guard := none }) (v := ?_) rfl (by kernel_rfl) (by kernel_rfl) (by kernel_rfl) (fun _ _ _ h => h) (Or.inl ⟨by rfl, ?_⟩) (by assumption) ?_
  rotate_left
  · intro w hSw; (try dsimp only at hSw); go_simp; (try with_reducible rfl)
  try simp only [Act.put, List.setIfInBounds_toArray, List.set_cons_zero, List.set_cons_succ]
  refine wpAnyH_done (by kernel_rfl) ?_ _
  go_wp2
  go_ret
  exact ⟨rfl, HB3.out⟩

set_option maxRecDepth 100000 in
set_option maxHeartbeats 1600000 in
theorem sm_m (x s m h m' h' : Int) (a a' : Option Addr) (n c n' c' : Nat) (f g : Nat → Int) (w : World) (s1 : Src w a n f) (s2 : Src w a' n' g) (hx : ¬ m = m') :
    Calls Try.prog 103 #[.agg #[.int .i64 x, .int .i64 s, .int .i64 m, .int .i64 h, .slice a n c], .agg #[.int .i64 x, .int .i64 s, .int .i64 m', .int .i64 h', .slice a' n' c']] w (RetBool w false) := by
  have S1 := Lib.hid s1; have S2 := Lib.hid s2
  have HB0 := Lib.hid (((Below.refl w.heap.size w).alloc (Nat.le_refl _) (.cells #[.int .i64 x, .int .i64 s, .int .i64 m, .int .i64 h, .slice a n c] 133)).alloc (by simp) (.cells #[.int .i64 x, .int .i64 s, .int .i64 m', .int .i64 h', .slice a' n' c'] 133))
  have A_0 := Lib.hid ((Blk.new_at (w := w) (cs := #[.int .i64 x, .int .i64 s, .int .i64 m, .int .i64 h, .slice a n c]) (t := 133) w.heap.size rfl).alloc (.cells #[.int .i64 x, .int .i64 s, .int .i64 m', .int .i64 h', .slice a' n' c'] 133))
  have B_0 := Lib.hid (Blk.new_at (w := w.alloc (.cells #[.int .i64 x, .int .i64 s, .int .i64 m, .int .i64 h, .slice a n c] 133)) (cs := #[.int .i64 x, .int .i64 s, .int .i64 m', .int .i64 h', .slice a' n' c']) (t := 133) (w.heap.size + 1) (by simp))
  have S1a := Lib.hid (S1.out.below HB0.out); have S2a := Lib.hid (S2.out.below HB0.out)
  clear s1 s2 S1 S2
  go_enter Try.func103, Try.ntmps103
  go_wp2_with fail
  generalize (w.alloc (.cells #[.int .i64 x, .int .i64 s, .int .i64 m, .int .i64 h, .slice a n c] 133)).alloc (.cells #[.int .i64 x, .int .i64 s, .int .i64 m', .int .i64 h', .slice a' n' c'] 133) = w0 at *
  have A_d := Lib.hid A_0.out.drew; have B_d := Lib.hid B_0.out.drew; have HB_d := Lib.hid HB0.out.drew; have S1d := Lib.hid S1a.out.drew; have S2d := Lib.hid S2a.out.drew
  refine wp_region_held_drew (S := (fun w' => w'.cell? ⟨w.heap.size, 0, none⟩ = some (.int .i64 x) ∧ w'.cell? ⟨w.heap.size, 1, none⟩ = some (.int .i64 s) ∧ w'.cell? ⟨w.heap.size, 2, none⟩ = some (.int .i64 m) ∧ w'.cell? ⟨w.heap.size, 3, none⟩ = some (.int .i64 h) ∧ w'.cell? ⟨w.heap.size, 4, none⟩ = some (.slice a n c) ∧ w'.cell? ⟨(w.heap.size + 1), 0, none⟩ = some (.int .i64 x) ∧ w'.cell? ⟨(w.heap.size + 1), 1, none⟩ = some (.int .i64 s) ∧ w'.cell? ⟨(w.heap.size + 1), 2, none⟩ = some (.int .i64 m') ∧ w'.cell? ⟨(w.heap.size + 1), 3, none⟩ = some (.int .i64 h') ∧ w'.cell? ⟨(w.heap.size + 1), 4, none⟩ = some (.slice a' n' c'))) (by kernel_rfl) (capNN A_d.out B_d.out) (fun hHeld => ?_)
  refine wpAnyH_take (i := 0) (oi := { dst := some 5, op := Op.fieldAddr 133 (Operand.tmp 2) 0, type := 0, pos := "l05_graph.go:295", after := #[], guard := none }) (v := ?_) rfl (by kernel_rfl) (by kernel_rfl) (by kernel_rfl) (fun _ _ _ h => h) (Or.inl ⟨by rfl, ?_⟩) (by assumption) ?_
  rotate_left
  · intro w hSw; (try dsimp only at hSw); go_simp; (try with_reducible rfl)
  try simp only [Act.put, List.setIfInBounds_toArray, List.set_cons_zero, List.set_cons_succ]
  refine wpAnyH_take (i := 1) (oi := { dst := some 6, op := Op.load 2 (Operand.tmp 5), type := 2, pos := "l05_graph.go:295", after := #[{ on := 0, ground := Ground.data }], guard := none }) (v := ?_) rfl (by kernel_rfl) (by kernel_rfl) (by kernel_rfl) (fun _ _ _ h => h) (Or.inl ⟨by rfl, ?_⟩) (by assumption) ?_
  rotate_left
  · intro w hSw; (try dsimp only at hSw); go_simp; (try with_reducible rfl)
  try simp only [Act.put, List.setIfInBounds_toArray, List.set_cons_zero, List.set_cons_succ]
  refine wpAnyH_take (i := 2) (oi := { dst := some 7, op := Op.fieldAddr 133 (Operand.tmp 3) 0, type := 0, pos := "l05_graph.go:295", after := #[], guard := none }) (v := ?_) rfl (by kernel_rfl) (by kernel_rfl) (by kernel_rfl) (fun _ _ _ h => h) (Or.inl ⟨by rfl, ?_⟩) (by assumption) ?_
  rotate_left
  · intro w hSw; (try dsimp only at hSw); go_simp; (try with_reducible rfl)
  try simp only [Act.put, List.setIfInBounds_toArray, List.set_cons_zero, List.set_cons_succ]
  refine wpAnyH_take (i := 3) (oi := { dst := some 8, op := Op.load 2 (Operand.tmp 7), type := 2, pos := "l05_graph.go:295", after := #[{ on := 2, ground := Ground.data }], guard := none }) (v := ?_) rfl (by kernel_rfl) (by kernel_rfl) (by kernel_rfl) (fun _ _ _ h => h) (Or.inl ⟨by rfl, ?_⟩) (by assumption) ?_
  rotate_left
  · intro w hSw; (try dsimp only at hSw); go_simp; (try with_reducible rfl)
  try simp only [Act.put, List.setIfInBounds_toArray, List.set_cons_zero, List.set_cons_succ]
  refine wpAnyH_take (i := 4) (oi := { dst := some 9, op := Op.binOp BinOp.eql 2 (Operand.tmp 6) (Operand.tmp 8) 2, type := 4, pos := "l05_graph.go:295", after := #[{ on := 1, ground := Ground.data }, { on := 3, ground := Ground.data }], guard := none }) (v := ?_) rfl (by kernel_rfl) (by kernel_rfl) (by kernel_rfl) (fun _ _ _ h => h) (Or.inl ⟨by rfl, ?_⟩) (by assumption) ?_
  rotate_left
  · intro w hSw; (try dsimp only at hSw); go_simp; (try with_reducible rfl)
  try simp only [Act.put, List.setIfInBounds_toArray, List.set_cons_zero, List.set_cons_succ]
  refine wpAnyH_take (i := 5) (oi := { dst := some 10, op := Op.move (Operand.tmp 9), type := 4, pos := "l05_graph.go:295", after := #[{ on := 4, ground := Ground.data }], guard := none }) (v := ?_) rfl (by kernel_rfl) (by kernel_rfl) (by kernel_rfl) (fun _ _ _ h => h) (Or.inl ⟨by rfl, ?_⟩) (by assumption) ?_
  rotate_left
  · intro w hSw; (try dsimp only at hSw); go_simp; (try with_reducible rfl)
  try simp only [Act.put, List.setIfInBounds_toArray, List.set_cons_zero, List.set_cons_succ]
  refine wpAnyH_take (i := 6) (oi := { dst := some 11, op := Op.load 133 (Operand.tmp 2), type := 133, pos := "l05_graph.go:295", after := #[{ on := 5, ground := Ground.guard }], guard := some (5, true) }) (v := ?_) rfl (by kernel_rfl) (by kernel_rfl) (by kernel_rfl) (fun _ _ _ h => h) (Or.inl ⟨by rfl, ?_⟩) (by assumption) ?_
  rotate_left
  · intro w hSw; (try dsimp only at hSw); go_simp; (try with_reducible rfl)
  try simp only [Act.put, List.setIfInBounds_toArray, List.set_cons_zero, List.set_cons_succ]
  refine wpAnyH_take (i := 8) (oi := { dst := some 13, op := Op.load 133 (Operand.tmp 3), type := 133, pos := "l05_graph.go:295", after := #[{ on := 5, ground := Ground.guard }], guard := some (5, true) }) (v := ?_) rfl (by kernel_rfl) (by kernel_rfl) (by kernel_rfl) (fun _ _ _ h => h) (Or.inl ⟨by rfl, ?_⟩) (by assumption) ?_
  rotate_left
  · intro w hSw; (try dsimp only at hSw); go_simp; (try with_reducible rfl)
  try simp only [Act.put, List.setIfInBounds_toArray, List.set_cons_zero, List.set_cons_succ]
  refine wpAnyH_ready (rs := [7]) (by kernel_rfl) (by simp) ?_
  refine AllReadyH.cons (o := _) rfl (fun Kq hKq => ?_) AllReadyH.nil
  go_simp
  (go_at_call 104; refine (headOf_any ⟨x, s, m, 0, h, a, n, c, fun _ => 0⟩ _).mono ?_; rintro e w2 ⟨rfl, hb⟩; have HB2 := Lib.hid (HB_d.out.trans (hb.mono HB_d.out.size)); have A_2 := Lib.hid (A_d.out.below hb); have B_2 := Lib.hid (B_d.out.below hb); have S12 := Lib.hid (S1d.out.below hb); have S22 := Lib.hid (S2d.out.below hb); clear hb)
  first | (refine hKq.out _ _ (capNN A_2.out B_2.out) (fun hHeld => ?_)) | (go_wp2_with fail; refine hKq.out _ _ (capNN A_2.out B_2.out) (fun hHeld => ?_))
  clear hKq Kq
  refine wpAnyH_ready (rs := [9]) (by kernel_rfl) (by simp) ?_
  refine AllReadyH.cons (o := _) rfl (fun Kq hKq => ?_) AllReadyH.nil
  go_simp
  (go_at_call 104; refine (headOf_any ⟨x, s, m', 0, h', a', n', c', fun _ => 0⟩ _).mono ?_; rintro e w3 ⟨rfl, hb⟩; have HB3 := Lib.hid (thru0 HB2.out hb); have A_3 := Lib.hid (A_2.out.below hb); have B_3 := Lib.hid (B_2.out.below hb); have S13 := Lib.hid (S12.out.below hb); have S23 := Lib.hid (S22.out.below hb); clear hb)
  first | (refine hKq.out _ _ (capNN A_3.out B_3.out) (fun hHeld => ?_)) | (go_wp2_with fail; refine hKq.out _ _ (capNN A_3.out B_3.out) (fun hHeld => ?_))
  clear hKq Kq
  refine wpAnyH_take (i := 10) (oi := { dst := some 15, op := Op.binOp BinOp.eql 93 (Operand.tmp 12) (Operand.tmp 14) 93, type := 4, pos := "l05_graph.go:295", after := #[{ on := 7, ground := Ground.data }, { on := 9, ground := Ground.data }, { on := 5, ground := Ground.guard }], guard := some (5, true) }) (v := ?_) rfl (by kernel_rfl) (by kernel_rfl) (by kernel_rfl) (fun _ _ _ h => h) (Or.inl ⟨by rfl, ?_⟩) (by assumption) ?_
  rotate_left
  · intro w hSw; (try dsimp only at hSw); go_simp; (try with_reducible rfl)
  try simp only [Act.put, List.setIfInBounds_toArray, List.set_cons_zero, List.set_cons_succ]
  refine wpAnyH_take (i := 11) (oi := { dst := some 16, op := Op.pick (Operand.tmp 10) (Operand.tmp 15) (Operand.const (Value.bool false)), type := 4, pos := "l05_graph.go:295", after := #[{ on := 5, ground := Ground.data }, { on := 10, ground := Ground.data }], guard := none }) (v := ?_) rfl (by kernel_rfl) (by kernel_rfl) (by kernel_rfl) (fun _ _ _ h => h) (Or.inl ⟨by rfl, ?_⟩) (by assumption) ?_
  rotate_left
  · intro w hSw; (try dsimp only at hSw); go_simp; (try with_reducible rfl)
  try simp only [Act.put, List.setIfInBounds_toArray, List.set_cons_zero, List.set_cons_succ]
  refine wpAnyH_take (i := 12) (oi := { dst := some 17, op := Op.move (Operand.tmp 16), type := 4, pos := "l05_graph.go:295", after := #[{ on := 11, ground := Ground.data }, { on := 9, ground := Ground.chain }], guard := none }) (v := ?_) rfl (by kernel_rfl) (by kernel_rfl) (by kernel_rfl) (fun _ _ _ h => h) (Or.inl ⟨by rfl, ?_⟩) (by assumption) ?_
  rotate_left
  · intro w hSw; (try dsimp only at hSw); go_simp; (try with_reducible rfl)
  try simp only [Act.put, List.setIfInBounds_toArray, List.set_cons_zero, List.set_cons_succ]
  refine wpAnyH_take (i := 13) (oi := { dst := some 18, op := Op.fieldAddr 133 (Operand.tmp 2) 4, type := 0, pos := "l05_graph.go:295", after := #[{ on := 12, ground := Ground.guard }], guard := some (12, true) }) (v := _) rfl (by kernel_rfl) (by kernel_rfl) (by kernel_rfl) (fun _ _ _ h => h) (Or.inr ⟨by rfl, rfl⟩) (by assumption) ?_
  refine wpAnyH_take (i := 14) (oi := { dst := some 19, op := Op.load 24 (Operand.tmp 18), type := 24, pos := "l05_graph.go:295", after := #[{ on := 13, ground := Ground.data }, { on := 12, ground := Ground.guard }], guard := some (12, true) }) (v := _) rfl (by kernel_rfl) (by kernel_rfl) (by kernel_rfl) (fun _ _ _ h => h) (Or.inr ⟨by rfl, rfl⟩) (by assumption) ?_
  refine wpAnyH_take (i := 15) (oi := { dst := some 20, op := Op.fieldAddr 133 (Operand.tmp 3) 4, type := 0, pos := "l05_graph.go:295", after := #[{ on := 12, ground := Ground.guard }], guard := some (12, true) }) (v := _) rfl (by kernel_rfl) (by kernel_rfl) (by kernel_rfl) (fun _ _ _ h => h) (Or.inr ⟨by rfl, rfl⟩) (by assumption) ?_
  refine wpAnyH_take (i := 16) (oi := { dst := some 21, op := Op.load 24 (Operand.tmp 20), type := 24, pos := "l05_graph.go:295", after := #[{ on := 15, ground := Ground.data }, { on := 12, ground := Ground.guard }], guard := some (12, true) }) (v := _) rfl (by kernel_rfl) (by kernel_rfl) (by kernel_rfl) (fun _ _ _ h => h) (Or.inr ⟨by rfl, rfl⟩) (by assumption) ?_
  refine wpAnyH_ready (rs := [17]) (by kernel_rfl) (by simp) ?_
  refine AllReadyH.cons (o := _) rfl (fun Kq hKq => ?_) AllReadyH.nil
  go_simp
  refine hKq.out _ _ (capNN A_3.out B_3.out) (fun hHeld => ?_)
  clear hKq Kq
  try simp only [Act.put, List.setIfInBounds_toArray, List.set_cons_zero, List.set_cons_succ]
  refine wpAnyH_take (i := 18) (oi := { dst := some 23, op := Op.pick (Operand.tmp 17) (Operand.tmp 22) (Operand.const (Value.bool false)), type := 4, pos := "l05_graph.go:295", after := #[{ on := 12, ground := Ground.data }, { on := 17, ground := Ground.data }], guard := none }) (v := ?_) rfl (by kernel_rfl) (by kernel_rfl) (by kernel_rfl) (fun _ _ _ h => h) (Or.inl ⟨by rfl, ?_⟩) (by assumption) ?_
  rotate_left
  · intro w hSw; (try dsimp only at hSw); go_simp; (try with_reducible rfl)
  try simp only [Act.put, List.setIfInBounds_toArray, List.set_cons_zero, List.set_cons_succ]
  refine wpAnyH_take (i := 19) (oi := { dst := some 4, op := Op.assign (Operand.tmp 23), type := 4, pos := "l05_graph.go:295", after := #[{ on := 18, ground := Ground.data }, { on := 17, ground := Ground.chain }, { on := 0, ground := Ground.phase }, { on := 1, ground := Ground.phase }, { on := 2, ground := Ground.phase }, { on := 3, ground := Ground.phase }, { on := 4, ground := Ground.phase }, { on := 5, ground := Ground.phase }, { on := 6, ground := Ground.phase }, { on := 7, ground := Ground.phase }, { on := 8, ground := Ground.phase }, { on := 9, ground := Ground.phase }, { on := 10, ground := Ground.phase }, { on := 11, ground := Ground.phase }, { on := 12, ground := Ground.phase }, { on := 13, ground := Ground.phase }, { on := 14, ground := Ground.phase }, { on := 15, ground := Ground.phase }, { on := 16, ground := Ground.phase }, { on := 17, ground := Ground.phase }, { on := 18, ground := Ground.phase }], guard := none }) (v := ?_) rfl (by kernel_rfl) (by kernel_rfl) (by kernel_rfl) (fun _ _ _ h => h) (Or.inl ⟨by rfl, ?_⟩) (by assumption) ?_
  rotate_left
  · intro w hSw; (try dsimp only at hSw); go_simp; (try with_reducible rfl)
  try simp only [Act.put, List.setIfInBounds_toArray, List.set_cons_zero, List.set_cons_succ]
  refine wpAnyH_done (by kernel_rfl) ?_ _
  go_wp2
  go_ret
  exact ⟨rfl, HB3.out⟩

set_option maxRecDepth 100000 in
set_option maxHeartbeats 1600000 in
theorem sm_h (x s m h h' : Int) (a a' : Option Addr) (n c n' c' : Nat) (f g : Nat → Int) (w : World) (s1 : Src w a n f) (s2 : Src w a' n' g) (hx : ¬ h = h') :
    Calls Try.prog 103 #[.agg #[.int .i64 x, .int .i64 s, .int .i64 m, .int .i64 h, .slice a n c], .agg #[.int .i64 x, .int .i64 s, .int .i64 m, .int .i64 h', .slice a' n' c']] w (RetBool w false) := by
  have S1 := Lib.hid s1; have S2 := Lib.hid s2
  have HB0 := Lib.hid (((Below.refl w.heap.size w).alloc (Nat.le_refl _) (.cells #[.int .i64 x, .int .i64 s, .int .i64 m, .int .i64 h, .slice a n c] 133)).alloc (by simp) (.cells #[.int .i64 x, .int .i64 s, .int .i64 m, .int .i64 h', .slice a' n' c'] 133))
  have A_0 := Lib.hid ((Blk.new_at (w := w) (cs := #[.int .i64 x, .int .i64 s, .int .i64 m, .int .i64 h, .slice a n c]) (t := 133) w.heap.size rfl).alloc (.cells #[.int .i64 x, .int .i64 s, .int .i64 m, .int .i64 h', .slice a' n' c'] 133))
  have B_0 := Lib.hid (Blk.new_at (w := w.alloc (.cells #[.int .i64 x, .int .i64 s, .int .i64 m, .int .i64 h, .slice a n c] 133)) (cs := #[.int .i64 x, .int .i64 s, .int .i64 m, .int .i64 h', .slice a' n' c']) (t := 133) (w.heap.size + 1) (by simp))
  have S1a := Lib.hid (S1.out.below HB0.out); have S2a := Lib.hid (S2.out.below HB0.out)
  clear s1 s2 S1 S2
  go_enter Try.func103, Try.ntmps103
  go_wp2_with fail
  generalize (w.alloc (.cells #[.int .i64 x, .int .i64 s, .int .i64 m, .int .i64 h, .slice a n c] 133)).alloc (.cells #[.int .i64 x, .int .i64 s, .int .i64 m, .int .i64 h', .slice a' n' c'] 133) = w0 at *
  have A_d := Lib.hid A_0.out.drew; have B_d := Lib.hid B_0.out.drew; have HB_d := Lib.hid HB0.out.drew; have S1d := Lib.hid S1a.out.drew; have S2d := Lib.hid S2a.out.drew
  refine wp_region_held_drew (S := (fun w' => w'.cell? ⟨w.heap.size, 0, none⟩ = some (.int .i64 x) ∧ w'.cell? ⟨w.heap.size, 1, none⟩ = some (.int .i64 s) ∧ w'.cell? ⟨w.heap.size, 2, none⟩ = some (.int .i64 m) ∧ w'.cell? ⟨w.heap.size, 3, none⟩ = some (.int .i64 h) ∧ w'.cell? ⟨w.heap.size, 4, none⟩ = some (.slice a n c) ∧ w'.cell? ⟨(w.heap.size + 1), 0, none⟩ = some (.int .i64 x) ∧ w'.cell? ⟨(w.heap.size + 1), 1, none⟩ = some (.int .i64 s) ∧ w'.cell? ⟨(w.heap.size + 1), 2, none⟩ = some (.int .i64 m) ∧ w'.cell? ⟨(w.heap.size + 1), 3, none⟩ = some (.int .i64 h') ∧ w'.cell? ⟨(w.heap.size + 1), 4, none⟩ = some (.slice a' n' c'))) (by kernel_rfl) (capNN A_d.out B_d.out) (fun hHeld => ?_)
  refine wpAnyH_take (i := 0) (oi := { dst := some 5, op := Op.fieldAddr 133 (Operand.tmp 2) 0, type := 0, pos := "l05_graph.go:295", after := #[], guard := none }) (v := ?_) rfl (by kernel_rfl) (by kernel_rfl) (by kernel_rfl) (fun _ _ _ h => h) (Or.inl ⟨by rfl, ?_⟩) (by assumption) ?_
  rotate_left
  · intro w hSw; (try dsimp only at hSw); go_simp; (try with_reducible rfl)
  try simp only [Act.put, List.setIfInBounds_toArray, List.set_cons_zero, List.set_cons_succ]
  refine wpAnyH_take (i := 1) (oi := { dst := some 6, op := Op.load 2 (Operand.tmp 5), type := 2, pos := "l05_graph.go:295", after := #[{ on := 0, ground := Ground.data }], guard := none }) (v := ?_) rfl (by kernel_rfl) (by kernel_rfl) (by kernel_rfl) (fun _ _ _ h => h) (Or.inl ⟨by rfl, ?_⟩) (by assumption) ?_
  rotate_left
  · intro w hSw; (try dsimp only at hSw); go_simp; (try with_reducible rfl)
  try simp only [Act.put, List.setIfInBounds_toArray, List.set_cons_zero, List.set_cons_succ]
  refine wpAnyH_take (i := 2) (oi := { dst := some 7, op := Op.fieldAddr 133 (Operand.tmp 3) 0, type := 0, pos := "l05_graph.go:295", after := #[], guard := none }) (v := ?_) rfl (by kernel_rfl) (by kernel_rfl) (by kernel_rfl) (fun _ _ _ h => h) (Or.inl ⟨by rfl, ?_⟩) (by assumption) ?_
  rotate_left
  · intro w hSw; (try dsimp only at hSw); go_simp; (try with_reducible rfl)
  try simp only [Act.put, List.setIfInBounds_toArray, List.set_cons_zero, List.set_cons_succ]
  refine wpAnyH_take (i := 3) (oi := { dst := some 8, op := Op.load 2 (Operand.tmp 7), type := 2, pos := "l05_graph.go:295", after := #[{ on := 2, ground := Ground.data }], guard := none }) (v := ?_) rfl (by kernel_rfl) (by kernel_rfl) (by kernel_rfl) (fun _ _ _ h => h) (Or.inl ⟨by rfl, ?_⟩) (by assumption) ?_
  rotate_left
  · intro w hSw; (try dsimp only at hSw); go_simp; (try with_reducible rfl)
  try simp only [Act.put, List.setIfInBounds_toArray, List.set_cons_zero, List.set_cons_succ]
  refine wpAnyH_take (i := 4) (oi := { dst := some 9, op := Op.binOp BinOp.eql 2 (Operand.tmp 6) (Operand.tmp 8) 2, type := 4, pos := "l05_graph.go:295", after := #[{ on := 1, ground := Ground.data }, { on := 3, ground := Ground.data }], guard := none }) (v := ?_) rfl (by kernel_rfl) (by kernel_rfl) (by kernel_rfl) (fun _ _ _ h => h) (Or.inl ⟨by rfl, ?_⟩) (by assumption) ?_
  rotate_left
  · intro w hSw; (try dsimp only at hSw); go_simp; (try with_reducible rfl)
  try simp only [Act.put, List.setIfInBounds_toArray, List.set_cons_zero, List.set_cons_succ]
  refine wpAnyH_take (i := 5) (oi := { dst := some 10, op := Op.move (Operand.tmp 9), type := 4, pos := "l05_graph.go:295", after := #[{ on := 4, ground := Ground.data }], guard := none }) (v := ?_) rfl (by kernel_rfl) (by kernel_rfl) (by kernel_rfl) (fun _ _ _ h => h) (Or.inl ⟨by rfl, ?_⟩) (by assumption) ?_
  rotate_left
  · intro w hSw; (try dsimp only at hSw); go_simp; (try with_reducible rfl)
  try simp only [Act.put, List.setIfInBounds_toArray, List.set_cons_zero, List.set_cons_succ]
  refine wpAnyH_take (i := 6) (oi := { dst := some 11, op := Op.load 133 (Operand.tmp 2), type := 133, pos := "l05_graph.go:295", after := #[{ on := 5, ground := Ground.guard }], guard := some (5, true) }) (v := ?_) rfl (by kernel_rfl) (by kernel_rfl) (by kernel_rfl) (fun _ _ _ h => h) (Or.inl ⟨by rfl, ?_⟩) (by assumption) ?_
  rotate_left
  · intro w hSw; (try dsimp only at hSw); go_simp; (try with_reducible rfl)
  try simp only [Act.put, List.setIfInBounds_toArray, List.set_cons_zero, List.set_cons_succ]
  refine wpAnyH_take (i := 8) (oi := { dst := some 13, op := Op.load 133 (Operand.tmp 3), type := 133, pos := "l05_graph.go:295", after := #[{ on := 5, ground := Ground.guard }], guard := some (5, true) }) (v := ?_) rfl (by kernel_rfl) (by kernel_rfl) (by kernel_rfl) (fun _ _ _ h => h) (Or.inl ⟨by rfl, ?_⟩) (by assumption) ?_
  rotate_left
  · intro w hSw; (try dsimp only at hSw); go_simp; (try with_reducible rfl)
  try simp only [Act.put, List.setIfInBounds_toArray, List.set_cons_zero, List.set_cons_succ]
  refine wpAnyH_ready (rs := [7]) (by kernel_rfl) (by simp) ?_
  refine AllReadyH.cons (o := _) rfl (fun Kq hKq => ?_) AllReadyH.nil
  go_simp
  (go_at_call 104; refine (headOf_any ⟨x, s, m, 0, h, a, n, c, fun _ => 0⟩ _).mono ?_; rintro e w2 ⟨rfl, hb⟩; have HB2 := Lib.hid (HB_d.out.trans (hb.mono HB_d.out.size)); have A_2 := Lib.hid (A_d.out.below hb); have B_2 := Lib.hid (B_d.out.below hb); have S12 := Lib.hid (S1d.out.below hb); have S22 := Lib.hid (S2d.out.below hb); clear hb)
  first | (refine hKq.out _ _ (capNN A_2.out B_2.out) (fun hHeld => ?_)) | (go_wp2_with fail; refine hKq.out _ _ (capNN A_2.out B_2.out) (fun hHeld => ?_))
  clear hKq Kq
  refine wpAnyH_ready (rs := [9]) (by kernel_rfl) (by simp) ?_
  refine AllReadyH.cons (o := _) rfl (fun Kq hKq => ?_) AllReadyH.nil
  go_simp
  (go_at_call 104; refine (headOf_any ⟨x, s, m, 0, h', a', n', c', fun _ => 0⟩ _).mono ?_; rintro e w3 ⟨rfl, hb⟩; have HB3 := Lib.hid (thru0 HB2.out hb); have A_3 := Lib.hid (A_2.out.below hb); have B_3 := Lib.hid (B_2.out.below hb); have S13 := Lib.hid (S12.out.below hb); have S23 := Lib.hid (S22.out.below hb); clear hb)
  first | (refine hKq.out _ _ (capNN A_3.out B_3.out) (fun hHeld => ?_)) | (go_wp2_with fail; refine hKq.out _ _ (capNN A_3.out B_3.out) (fun hHeld => ?_))
  clear hKq Kq
  refine wpAnyH_take (i := 10) (oi := { dst := some 15, op := Op.binOp BinOp.eql 93 (Operand.tmp 12) (Operand.tmp 14) 93, type := 4, pos := "l05_graph.go:295", after := #[{ on := 7, ground := Ground.data }, { on := 9, ground := Ground.data }, { on := 5, ground := Ground.guard }], guard := some (5, true) }) (v := ?_) rfl (by kernel_rfl) (by kernel_rfl) (by kernel_rfl) (fun _ _ _ h => h) (Or.inl ⟨by rfl, ?_⟩) (by assumption) ?_
  rotate_left
  · intro w hSw; (try dsimp only at hSw); go_simp; (try with_reducible rfl)
  try simp only [Act.put, List.setIfInBounds_toArray, List.set_cons_zero, List.set_cons_succ]
  refine wpAnyH_take (i := 11) (oi := { dst := some 16, op := Op.pick (Operand.tmp 10) (Operand.tmp 15) (Operand.const (Value.bool false)), type := 4, pos := "l05_graph.go:295", after := #[{ on := 5, ground := Ground.data }, { on := 10, ground := Ground.data }], guard := none }) (v := ?_) rfl (by kernel_rfl) (by kernel_rfl) (by kernel_rfl) (fun _ _ _ h => h) (Or.inl ⟨by rfl, ?_⟩) (by assumption) ?_
  rotate_left
  · intro w hSw; (try dsimp only at hSw); go_simp; (try with_reducible rfl)
  try simp only [Act.put, List.setIfInBounds_toArray, List.set_cons_zero, List.set_cons_succ]
  refine wpAnyH_take (i := 12) (oi := { dst := some 17, op := Op.move (Operand.tmp 16), type := 4, pos := "l05_graph.go:295", after := #[{ on := 11, ground := Ground.data }, { on := 9, ground := Ground.chain }], guard := none }) (v := ?_) rfl (by kernel_rfl) (by kernel_rfl) (by kernel_rfl) (fun _ _ _ h => h) (Or.inl ⟨by rfl, ?_⟩) (by assumption) ?_
  rotate_left
  · intro w hSw; (try dsimp only at hSw); go_simp; (try with_reducible rfl)
  try simp only [Act.put, List.setIfInBounds_toArray, List.set_cons_zero, List.set_cons_succ]
  refine wpAnyH_take (i := 13) (oi := { dst := some 18, op := Op.fieldAddr 133 (Operand.tmp 2) 4, type := 0, pos := "l05_graph.go:295", after := #[{ on := 12, ground := Ground.guard }], guard := some (12, true) }) (v := _) rfl (by kernel_rfl) (by kernel_rfl) (by kernel_rfl) (fun _ _ _ h => h) (Or.inr ⟨by rfl, rfl⟩) (by assumption) ?_
  refine wpAnyH_take (i := 14) (oi := { dst := some 19, op := Op.load 24 (Operand.tmp 18), type := 24, pos := "l05_graph.go:295", after := #[{ on := 13, ground := Ground.data }, { on := 12, ground := Ground.guard }], guard := some (12, true) }) (v := _) rfl (by kernel_rfl) (by kernel_rfl) (by kernel_rfl) (fun _ _ _ h => h) (Or.inr ⟨by rfl, rfl⟩) (by assumption) ?_
  refine wpAnyH_take (i := 15) (oi := { dst := some 20, op := Op.fieldAddr 133 (Operand.tmp 3) 4, type := 0, pos := "l05_graph.go:295", after := #[{ on := 12, ground := Ground.guard }], guard := some (12, true) }) (v := _) rfl (by kernel_rfl) (by kernel_rfl) (by kernel_rfl) (fun _ _ _ h => h) (Or.inr ⟨by rfl, rfl⟩) (by assumption) ?_
  refine wpAnyH_take (i := 16) (oi := { dst := some 21, op := Op.load 24 (Operand.tmp 20), type := 24, pos := "l05_graph.go:295", after := #[{ on := 15, ground := Ground.data }, { on := 12, ground := Ground.guard }], guard := some (12, true) }) (v := _) rfl (by kernel_rfl) (by kernel_rfl) (by kernel_rfl) (fun _ _ _ h => h) (Or.inr ⟨by rfl, rfl⟩) (by assumption) ?_
  refine wpAnyH_ready (rs := [17]) (by kernel_rfl) (by simp) ?_
  refine AllReadyH.cons (o := _) rfl (fun Kq hKq => ?_) AllReadyH.nil
  go_simp
  refine hKq.out _ _ (capNN A_3.out B_3.out) (fun hHeld => ?_)
  clear hKq Kq
  try simp only [Act.put, List.setIfInBounds_toArray, List.set_cons_zero, List.set_cons_succ]
  refine wpAnyH_take (i := 18) (oi := { dst := some 23, op := Op.pick (Operand.tmp 17) (Operand.tmp 22) (Operand.const (Value.bool false)), type := 4, pos := "l05_graph.go:295", after := #[{ on := 12, ground := Ground.data }, { on := 17, ground := Ground.data }], guard := none }) (v := ?_) rfl (by kernel_rfl) (by kernel_rfl) (by kernel_rfl) (fun _ _ _ h => h) (Or.inl ⟨by rfl, ?_⟩) (by assumption) ?_
  rotate_left
  · intro w hSw; (try dsimp only at hSw); go_simp; (try with_reducible rfl)
  try simp only [Act.put, List.setIfInBounds_toArray, List.set_cons_zero, List.set_cons_succ]
  refine wpAnyH_take (i := 19) (oi := { dst := some 4, op := Op.assign (Operand.tmp 23), type := 4, pos := "l05_graph.go:295", after := #[{ on := 18, ground := Ground.data }, { on := 17, ground := Ground.chain }, { on := 0, ground := Ground.phase }, { on := 1, ground := Ground.phase }, { on := 2, ground := Ground.phase }, { on := 3, ground := Ground.phase }, { on := 4, ground := Ground.phase }, { on := 5, ground := Ground.phase }, { on := 6, ground := Ground.phase }, { on := 7, ground := Ground.phase }, { on := 8, ground := Ground.phase }, { on := 9, ground := Ground.phase }, { on := 10, ground := Ground.phase }, { on := 11, ground := Ground.phase }, { on := 12, ground := Ground.phase }, { on := 13, ground := Ground.phase }, { on := 14, ground := Ground.phase }, { on := 15, ground := Ground.phase }, { on := 16, ground := Ground.phase }, { on := 17, ground := Ground.phase }, { on := 18, ground := Ground.phase }], guard := none }) (v := ?_) rfl (by kernel_rfl) (by kernel_rfl) (by kernel_rfl) (fun _ _ _ h => h) (Or.inl ⟨by rfl, ?_⟩) (by assumption) ?_
  rotate_left
  · intro w hSw; (try dsimp only at hSw); go_simp; (try with_reducible rfl)
  try simp only [Act.put, List.setIfInBounds_toArray, List.set_cons_zero, List.set_cons_succ]
  refine wpAnyH_done (by kernel_rfl) ?_ _
  go_wp2
  go_ret
  exact ⟨rfl, HB3.out⟩

set_option maxRecDepth 100000 in
set_option maxHeartbeats 1600000 in
theorem sm_f (x s m h : Int) (a a' : Option Addr) (n c n' c' : Nat) (f g : Nat → Int) (w : World) (s1 : Src w a n f) (s2 : Src w a' n' g) (r : Bool) (hn : n ≤ 1048576) (hm : n' ≤ 1048576) (HE : Hid (eqB n n' f g = r)) :
    Calls Try.prog 103 #[.agg #[.int .i64 x, .int .i64 s, .int .i64 m, .int .i64 h, .slice a n c], .agg #[.int .i64 x, .int .i64 s, .int .i64 m, .int .i64 h, .slice a' n' c']] w (RetBool w r) := by
  have S1 := Lib.hid s1; have S2 := Lib.hid s2
  have HB0 := Lib.hid (((Below.refl w.heap.size w).alloc (Nat.le_refl _) (.cells #[.int .i64 x, .int .i64 s, .int .i64 m, .int .i64 h, .slice a n c] 133)).alloc (by simp) (.cells #[.int .i64 x, .int .i64 s, .int .i64 m, .int .i64 h, .slice a' n' c'] 133))
  have A_0 := Lib.hid ((Blk.new_at (w := w) (cs := #[.int .i64 x, .int .i64 s, .int .i64 m, .int .i64 h, .slice a n c]) (t := 133) w.heap.size rfl).alloc (.cells #[.int .i64 x, .int .i64 s, .int .i64 m, .int .i64 h, .slice a' n' c'] 133))
  have B_0 := Lib.hid (Blk.new_at (w := w.alloc (.cells #[.int .i64 x, .int .i64 s, .int .i64 m, .int .i64 h, .slice a n c] 133)) (cs := #[.int .i64 x, .int .i64 s, .int .i64 m, .int .i64 h, .slice a' n' c']) (t := 133) (w.heap.size + 1) (by simp))
  have S1a := Lib.hid (S1.out.below HB0.out); have S2a := Lib.hid (S2.out.below HB0.out)
  clear s1 s2 S1 S2
  go_enter Try.func103, Try.ntmps103
  go_wp2_with fail
  generalize (w.alloc (.cells #[.int .i64 x, .int .i64 s, .int .i64 m, .int .i64 h, .slice a n c] 133)).alloc (.cells #[.int .i64 x, .int .i64 s, .int .i64 m, .int .i64 h, .slice a' n' c'] 133) = w0 at *
  have A_d := Lib.hid A_0.out.drew; have B_d := Lib.hid B_0.out.drew; have HB_d := Lib.hid HB0.out.drew; have S1d := Lib.hid S1a.out.drew; have S2d := Lib.hid S2a.out.drew
  refine wp_region_held_drew (S := (fun w' => w'.cell? ⟨w.heap.size, 0, none⟩ = some (.int .i64 x) ∧ w'.cell? ⟨w.heap.size, 1, none⟩ = some (.int .i64 s) ∧ w'.cell? ⟨w.heap.size, 2, none⟩ = some (.int .i64 m) ∧ w'.cell? ⟨w.heap.size, 3, none⟩ = some (.int .i64 h) ∧ w'.cell? ⟨w.heap.size, 4, none⟩ = some (.slice a n c) ∧ w'.cell? ⟨(w.heap.size + 1), 0, none⟩ = some (.int .i64 x) ∧ w'.cell? ⟨(w.heap.size + 1), 1, none⟩ = some (.int .i64 s) ∧ w'.cell? ⟨(w.heap.size + 1), 2, none⟩ = some (.int .i64 m) ∧ w'.cell? ⟨(w.heap.size + 1), 3, none⟩ = some (.int .i64 h) ∧ w'.cell? ⟨(w.heap.size + 1), 4, none⟩ = some (.slice a' n' c'))) (by kernel_rfl) (capNN A_d.out B_d.out) (fun hHeld => ?_)
  refine wpAnyH_take (i := 0) (oi := { dst := some 5, op := Op.fieldAddr 133 (Operand.tmp 2) 0, type := 0, pos := "l05_graph.go:295", after := #[], guard := none }) (v := ?_) rfl (by kernel_rfl) (by kernel_rfl) (by kernel_rfl) (fun _ _ _ h => h) (Or.inl ⟨by rfl, ?_⟩) (by assumption) ?_
  rotate_left
  · intro w hSw; (try dsimp only at hSw); go_simp; (try with_reducible rfl)
  try simp only [Act.put, List.setIfInBounds_toArray, List.set_cons_zero, List.set_cons_succ]
  refine wpAnyH_take (i := 1) (oi := { dst := some 6, op := Op.load 2 (Operand.tmp 5), type := 2, pos := "l05_graph.go:295", after := #[{ on := 0, ground := Ground.data }], guard := none }) (v := ?_) rfl (by kernel_rfl) (by kernel_rfl) (by kernel_rfl) (fun _ _ _ h => h) (Or.inl ⟨by rfl, ?_⟩) (by assumption) ?_
  rotate_left
  · intro w hSw; (try dsimp only at hSw); go_simp; (try with_reducible rfl)
  try simp only [Act.put, List.setIfInBounds_toArray, List.set_cons_zero, List.set_cons_succ]
  refine wpAnyH_take (i := 2) (oi := { dst := some 7, op := Op.fieldAddr 133 (Operand.tmp 3) 0, type := 0, pos := "l05_graph.go:295", after := #[], guard := none }) (v := ?_) rfl (by kernel_rfl) (by kernel_rfl) (by kernel_rfl) (fun _ _ _ h => h) (Or.inl ⟨by rfl, ?_⟩) (by assumption) ?_
  rotate_left
  · intro w hSw; (try dsimp only at hSw); go_simp; (try with_reducible rfl)
  try simp only [Act.put, List.setIfInBounds_toArray, List.set_cons_zero, List.set_cons_succ]
  refine wpAnyH_take (i := 3) (oi := { dst := some 8, op := Op.load 2 (Operand.tmp 7), type := 2, pos := "l05_graph.go:295", after := #[{ on := 2, ground := Ground.data }], guard := none }) (v := ?_) rfl (by kernel_rfl) (by kernel_rfl) (by kernel_rfl) (fun _ _ _ h => h) (Or.inl ⟨by rfl, ?_⟩) (by assumption) ?_
  rotate_left
  · intro w hSw; (try dsimp only at hSw); go_simp; (try with_reducible rfl)
  try simp only [Act.put, List.setIfInBounds_toArray, List.set_cons_zero, List.set_cons_succ]
  refine wpAnyH_take (i := 4) (oi := { dst := some 9, op := Op.binOp BinOp.eql 2 (Operand.tmp 6) (Operand.tmp 8) 2, type := 4, pos := "l05_graph.go:295", after := #[{ on := 1, ground := Ground.data }, { on := 3, ground := Ground.data }], guard := none }) (v := ?_) rfl (by kernel_rfl) (by kernel_rfl) (by kernel_rfl) (fun _ _ _ h => h) (Or.inl ⟨by rfl, ?_⟩) (by assumption) ?_
  rotate_left
  · intro w hSw; (try dsimp only at hSw); go_simp; (try with_reducible rfl)
  try simp only [Act.put, List.setIfInBounds_toArray, List.set_cons_zero, List.set_cons_succ]
  refine wpAnyH_take (i := 5) (oi := { dst := some 10, op := Op.move (Operand.tmp 9), type := 4, pos := "l05_graph.go:295", after := #[{ on := 4, ground := Ground.data }], guard := none }) (v := ?_) rfl (by kernel_rfl) (by kernel_rfl) (by kernel_rfl) (fun _ _ _ h => h) (Or.inl ⟨by rfl, ?_⟩) (by assumption) ?_
  rotate_left
  · intro w hSw; (try dsimp only at hSw); go_simp; (try with_reducible rfl)
  try simp only [Act.put, List.setIfInBounds_toArray, List.set_cons_zero, List.set_cons_succ]
  refine wpAnyH_take (i := 6) (oi := { dst := some 11, op := Op.load 133 (Operand.tmp 2), type := 133, pos := "l05_graph.go:295", after := #[{ on := 5, ground := Ground.guard }], guard := some (5, true) }) (v := ?_) rfl (by kernel_rfl) (by kernel_rfl) (by kernel_rfl) (fun _ _ _ h => h) (Or.inl ⟨by rfl, ?_⟩) (by assumption) ?_
  rotate_left
  · intro w hSw; (try dsimp only at hSw); go_simp; (try with_reducible rfl)
  try simp only [Act.put, List.setIfInBounds_toArray, List.set_cons_zero, List.set_cons_succ]
  refine wpAnyH_take (i := 8) (oi := { dst := some 13, op := Op.load 133 (Operand.tmp 3), type := 133, pos := "l05_graph.go:295", after := #[{ on := 5, ground := Ground.guard }], guard := some (5, true) }) (v := ?_) rfl (by kernel_rfl) (by kernel_rfl) (by kernel_rfl) (fun _ _ _ h => h) (Or.inl ⟨by rfl, ?_⟩) (by assumption) ?_
  rotate_left
  · intro w hSw; (try dsimp only at hSw); go_simp; (try with_reducible rfl)
  try simp only [Act.put, List.setIfInBounds_toArray, List.set_cons_zero, List.set_cons_succ]
  refine wpAnyH_ready (rs := [7]) (by kernel_rfl) (by simp) ?_
  refine AllReadyH.cons (o := _) rfl (fun Kq hKq => ?_) AllReadyH.nil
  go_simp
  (go_at_call 104; refine (headOf_any ⟨x, s, m, 0, h, a, n, c, fun _ => 0⟩ _).mono ?_; rintro e w2 ⟨rfl, hb⟩; have HB2 := Lib.hid (HB_d.out.trans (hb.mono HB_d.out.size)); have A_2 := Lib.hid (A_d.out.below hb); have B_2 := Lib.hid (B_d.out.below hb); have S12 := Lib.hid (S1d.out.below hb); have S22 := Lib.hid (S2d.out.below hb); clear hb)
  first | (refine hKq.out _ _ (capNN A_2.out B_2.out) (fun hHeld => ?_)) | (go_wp2_with fail; refine hKq.out _ _ (capNN A_2.out B_2.out) (fun hHeld => ?_))
  clear hKq Kq
  refine wpAnyH_ready (rs := [9]) (by kernel_rfl) (by simp) ?_
  refine AllReadyH.cons (o := _) rfl (fun Kq hKq => ?_) AllReadyH.nil
  go_simp
  (go_at_call 104; refine (headOf_any ⟨x, s, m, 0, h, a', n', c', fun _ => 0⟩ _).mono ?_; rintro e w3 ⟨rfl, hb⟩; have HB3 := Lib.hid (thru0 HB2.out hb); have A_3 := Lib.hid (A_2.out.below hb); have B_3 := Lib.hid (B_2.out.below hb); have S13 := Lib.hid (S12.out.below hb); have S23 := Lib.hid (S22.out.below hb); clear hb)
  first | (refine hKq.out _ _ (capNN A_3.out B_3.out) (fun hHeld => ?_)) | (go_wp2_with fail; refine hKq.out _ _ (capNN A_3.out B_3.out) (fun hHeld => ?_))
  clear hKq Kq
  refine wpAnyH_take (i := 10) (oi := { dst := some 15, op := Op.binOp BinOp.eql 93 (Operand.tmp 12) (Operand.tmp 14) 93, type := 4, pos := "l05_graph.go:295", after := #[{ on := 7, ground := Ground.data }, { on := 9, ground := Ground.data }, { on := 5, ground := Ground.guard }], guard := some (5, true) }) (v := ?_) rfl (by kernel_rfl) (by kernel_rfl) (by kernel_rfl) (fun _ _ _ h => h) (Or.inl ⟨by rfl, ?_⟩) (by assumption) ?_
  rotate_left
  · intro w hSw; (try dsimp only at hSw); go_simp; (try with_reducible rfl)
  try simp only [Act.put, List.setIfInBounds_toArray, List.set_cons_zero, List.set_cons_succ]
  refine wpAnyH_take (i := 11) (oi := { dst := some 16, op := Op.pick (Operand.tmp 10) (Operand.tmp 15) (Operand.const (Value.bool false)), type := 4, pos := "l05_graph.go:295", after := #[{ on := 5, ground := Ground.data }, { on := 10, ground := Ground.data }], guard := none }) (v := ?_) rfl (by kernel_rfl) (by kernel_rfl) (by kernel_rfl) (fun _ _ _ h => h) (Or.inl ⟨by rfl, ?_⟩) (by assumption) ?_
  rotate_left
  · intro w hSw; (try dsimp only at hSw); go_simp; (try with_reducible rfl)
  try simp only [Act.put, List.setIfInBounds_toArray, List.set_cons_zero, List.set_cons_succ]
  refine wpAnyH_take (i := 12) (oi := { dst := some 17, op := Op.move (Operand.tmp 16), type := 4, pos := "l05_graph.go:295", after := #[{ on := 11, ground := Ground.data }, { on := 9, ground := Ground.chain }], guard := none }) (v := ?_) rfl (by kernel_rfl) (by kernel_rfl) (by kernel_rfl) (fun _ _ _ h => h) (Or.inl ⟨by rfl, ?_⟩) (by assumption) ?_
  rotate_left
  · intro w hSw; (try dsimp only at hSw); go_simp; (try with_reducible rfl)
  try simp only [Act.put, List.setIfInBounds_toArray, List.set_cons_zero, List.set_cons_succ]
  refine wpAnyH_take (i := 13) (oi := { dst := some 18, op := Op.fieldAddr 133 (Operand.tmp 2) 4, type := 0, pos := "l05_graph.go:295", after := #[{ on := 12, ground := Ground.guard }], guard := some (12, true) }) (v := ?_) rfl (by kernel_rfl) (by kernel_rfl) (by kernel_rfl) (fun _ _ _ h => h) (Or.inl ⟨by rfl, ?_⟩) (by assumption) ?_
  rotate_left
  · intro w hSw; (try dsimp only at hSw); go_simp; (try with_reducible rfl)
  try simp only [Act.put, List.setIfInBounds_toArray, List.set_cons_zero, List.set_cons_succ]
  refine wpAnyH_take (i := 14) (oi := { dst := some 19, op := Op.load 24 (Operand.tmp 18), type := 24, pos := "l05_graph.go:295", after := #[{ on := 13, ground := Ground.data }, { on := 12, ground := Ground.guard }], guard := some (12, true) }) (v := ?_) rfl (by kernel_rfl) (by kernel_rfl) (by kernel_rfl) (fun _ _ _ h => h) (Or.inl ⟨by rfl, ?_⟩) (by assumption) ?_
  rotate_left
  · intro w hSw; (try dsimp only at hSw); go_simp; (try with_reducible rfl)
  try simp only [Act.put, List.setIfInBounds_toArray, List.set_cons_zero, List.set_cons_succ]
  refine wpAnyH_take (i := 15) (oi := { dst := some 20, op := Op.fieldAddr 133 (Operand.tmp 3) 4, type := 0, pos := "l05_graph.go:295", after := #[{ on := 12, ground := Ground.guard }], guard := some (12, true) }) (v := ?_) rfl (by kernel_rfl) (by kernel_rfl) (by kernel_rfl) (fun _ _ _ h => h) (Or.inl ⟨by rfl, ?_⟩) (by assumption) ?_
  rotate_left
  · intro w hSw; (try dsimp only at hSw); go_simp; (try with_reducible rfl)
  try simp only [Act.put, List.setIfInBounds_toArray, List.set_cons_zero, List.set_cons_succ]
  refine wpAnyH_take (i := 16) (oi := { dst := some 21, op := Op.load 24 (Operand.tmp 20), type := 24, pos := "l05_graph.go:295", after := #[{ on := 15, ground := Ground.data }, { on := 12, ground := Ground.guard }], guard := some (12, true) }) (v := ?_) rfl (by kernel_rfl) (by kernel_rfl) (by kernel_rfl) (fun _ _ _ h => h) (Or.inl ⟨by rfl, ?_⟩) (by assumption) ?_
  rotate_left
  · intro w hSw; (try dsimp only at hSw); go_simp; (try with_reducible rfl)
  try simp only [Act.put, List.setIfInBounds_toArray, List.set_cons_zero, List.set_cons_succ]
  refine wpAnyH_ready (rs := [17]) (by kernel_rfl) (by simp) ?_
  refine AllReadyH.cons (o := _) rfl (fun Kq hKq => ?_) AllReadyH.nil
  go_simp
  (go_at_call 68; refine (slEqual_is r a a' n n' _ _ f g _ HE.out S13.out S23.out hn hm).mono ?_; rintro e w4 ⟨rfl, hb⟩; have HB4 := Lib.hid (thru0 HB3.out hb); have A_4 := Lib.hid (A_3.out.below hb); have B_4 := Lib.hid (B_3.out.below hb); clear hb)
  first | (refine hKq.out _ _ (capNN A_4.out B_4.out) (fun hHeld => ?_)) | (go_wp2_with fail; refine hKq.out _ _ (capNN A_4.out B_4.out) (fun hHeld => ?_))
  clear hKq Kq
  refine wpAnyH_take (i := 18) (oi := { dst := some 23, op := Op.pick (Operand.tmp 17) (Operand.tmp 22) (Operand.const (Value.bool false)), type := 4, pos := "l05_graph.go:295", after := #[{ on := 12, ground := Ground.data }, { on := 17, ground := Ground.data }], guard := none }) (v := ?_) rfl (by kernel_rfl) (by kernel_rfl) (by kernel_rfl) (fun _ _ _ h => h) (Or.inl ⟨by rfl, ?_⟩) (by assumption) ?_
  rotate_left
  · intro w hSw; (try dsimp only at hSw); go_simp; (try with_reducible rfl)
  try simp only [Act.put, List.setIfInBounds_toArray, List.set_cons_zero, List.set_cons_succ]
  refine wpAnyH_take (i := 19) (oi := { dst := some 4, op := Op.assign (Operand.tmp 23), type := 4, pos := "l05_graph.go:295", after := #[{ on := 18, ground := Ground.data }, { on := 17, ground := Ground.chain }, { on := 0, ground := Ground.phase }, { on := 1, ground := Ground.phase }, { on := 2, ground := Ground.phase }, { on := 3, ground := Ground.phase }, { on := 4, ground := Ground.phase }, { on := 5, ground := Ground.phase }, { on := 6, ground := Ground.phase }, { on := 7, ground := Ground.phase }, { on := 8, ground := Ground.phase }, { on := 9, ground := Ground.phase }, { on := 10, ground := Ground.phase }, { on := 11, ground := Ground.phase }, { on := 12, ground := Ground.phase }, { on := 13, ground := Ground.phase }, { on := 14, ground := Ground.phase }, { on := 15, ground := Ground.phase }, { on := 16, ground := Ground.phase }, { on := 17, ground := Ground.phase }, { on := 18, ground := Ground.phase }], guard := none }) (v := ?_) rfl (by kernel_rfl) (by kernel_rfl) (by kernel_rfl) (fun _ _ _ h => h) (Or.inl ⟨by rfl, ?_⟩) (by assumption) ?_
  rotate_left
  · intro w hSw; (try dsimp only at hSw); go_simp; (try with_reducible rfl)
  try simp only [Act.put, List.setIfInBounds_toArray, List.set_cons_zero, List.set_cons_succ]
  refine wpAnyH_done (by kernel_rfl) ?_ _
  go_wp2
  go_ret
  exact ⟨rfl, HB4.out⟩
end Go.Proofs.Ytaenbjilcgpgcaa

namespace Go.Proofs.Ytaenbjilcgpgcaa
open Go.RowKit
set_option linter.unusedVariables false

theorem sm1_any (t u : GM) (r : Bool) (w : World) (s1 : Src w t.a t.n t.f) (s2 : Src w u.a u.n u.f) (hn : t.n ≤ 1048576) (hm : u.n ≤ 1048576) (hr : r = true ↔ NSame t u) :
    Calls Try.prog 103 #[.agg #[.int .i64 t.at_, .int .i64 t.s, .int .i64 t.m, .int .i64 t.h, .slice t.a t.n t.c], .agg #[.int .i64 u.at_, .int .i64 u.s, .int .i64 u.m, .int .i64 u.h, .slice u.a u.n u.c]] w (RetBool w r) := by
  have hno : ¬ NSame t u → r = false := fun h => by
    cases hq : r
    · rfl
    · exact absurd (hr.1 hq) h
  by_cases h1 : t.at_ = u.at_
  · rw [← h1]
    by_cases d1 : t.s = u.s
    · rw [← d1]
      by_cases d2 : t.m = u.m
      · rw [← d2]
        by_cases d3 : t.h = u.h
        · rw [← d3]
          refine sm_f _ _ _ _ _ _ _ _ _ _ t.f u.f w s1 s2 r hn hm (Lib.hid ?_)
          cases hq : eqB t.n u.n t.f u.f with
          | true =>
            obtain ⟨q1, q2⟩ := (eqB_iff _ _ _ _).1 hq
            exact (hr.2 ⟨h1, d1, d2, d3, q1, q2⟩).symm
          | false =>
            cases r with
            | false => rfl
            | true =>
              obtain ⟨_, _, _, _, q1, q2⟩ := hr.1 rfl
              rw [(eqB_iff _ _ _ _).2 ⟨q1, q2⟩] at hq; cases hq
        · rw [hno fun h => d3 h.2.2.2.1]
          exact sm_h _ _ _ _ _ _ _ _ _ _ _ t.f u.f w s1 s2 d3
      · rw [hno fun h => d2 h.2.2.1]
        exact sm_m _ _ _ _ _ _ _ _ _ _ _ _ t.f u.f w s1 s2 d2
    · rw [hno fun h => d1 h.2.1]
      exact sm_s _ _ _ _ _ _ _ _ _ _ _ _ _ t.f u.f w s1 s2 d1
  · rw [hno fun h => h1 h.1]
    exact sm_id _ _ _ _ _ _ _ _ _ _ _ _ _ _ t.f u.f w s1 s2 (by simpa using h1)

set_option maxRecDepth 100000 in
set_option maxHeartbeats 1600000 in
theorem efn_any (a1 a2 : Option Addr) (N N' k1 k2 : Nat) (T U : Nat → GM) (r : Bool) (w : World) (g1 : NV w a1 N T) (g2 : NV w a2 N' U) (hr : r = true ↔ N = N' ∧ ∀ i, i < N → NSame (T i) (U i)) (hn : N ≤ 1048576) (hn' : N' ≤ 1048576) (ht : ∀ i, i < N → (T i).n ≤ 1048576) (hu : ∀ i, i < N' → (U i).n ≤ 1048576) :
    Calls Try.prog 102 #[.slice a1 N k1, .slice a2 N' k2, .func (.func 103) #[] #[]] w (RetBool w r) := by
  have G1 := Lib.hid g1; have G2 := Lib.hid g2; have HR := Lib.hid hr; have HT := Lib.hid ht; have HU := Lib.hid hu
  clear g1 g2 hr ht hu
  have eg : ∀ args w, (callFunc 103 args).run Try.prog w = .ok (.enter 103 args) w := enters_of Try.func103 (by kernel_rfl) rfl
  by_cases hl : N = N'
  · subst hl
    go_enter Try.func102, Try.ntmps102
    go_wp2
    go_loopw [17] (fun p wr => ∃ i : Nat, i ≤ N ∧ p = .int .i64 (i : Int) ∧ Hid (Below w.heap.size w wr) ∧ Hid (∀ j, j < i → NSame (T j) (U j))) (fun p _ => N - (intOf p).toNat)
    case atStart => exact ⟨0, Nat.zero_le _, rfl, Below.refl _ _, Lib.hid (fun j hj => by omega)⟩
    case round =>
      obtain ⟨i, hi, rfl, HBr, HE⟩ := hrel
      by_cases hlt : i < N
      · have hlt' : (i : Int) < (N : Int) := by omega
        have hi0 : (0 : Int) ≤ (i : Int) := by omega
        obtain ⟨b1, q1, rfl, s1⟩ : ∃ b q, a1 = some ⟨b, q, none⟩ ∧ NSrc w b q N T := by
          rcases G1.out with h0 | h
          · omega
          · exact h
        obtain ⟨b2, q2, rfl, s2⟩ : ∃ b q, a2 = some ⟨b, q, none⟩ ∧ NSrc w b q N U := by
          rcases G2.out with h0 | h
          · omega
          · exact h
        have x1 := (s1.six i hlt).below HBr.out s1.lt
        have x2 := (s2.six i hlt).below HBr.out s2.lt
        have f1 := (s1.flds i hlt).below HBr.out
        have f2 := (s2.flds i hlt).below HBr.out
        have hl2 : b2 < wr.heap.size := Nat.lt_of_lt_of_le s2.lt HBr.out.size
        have htn := HT.out i hlt
        have hun := HU.out i hlt
        have hnext : Hid (NSame (T i) (U i) → ∀ j, j < i + 1 → NSame (T j) (U j)) := Lib.hid (fun hx j hj => by
          rcases Nat.lt_succ_iff_lt_or_eq.mp hj with h | h
          · exact HE.out j h
          · subst h; exact hx)
        have hbad : Hid (¬ NSame (T i) (U i) → r = false) := Lib.hid (fun hx => by
          cases r with
          | false => rfl
          | true => exact absurd ((HR.out.1 rfl).2 i hlt) hx)
        obtain ⟨t, hte⟩ : ∃ t, T i = t := ⟨_, rfl⟩
        obtain ⟨u, hue⟩ : ∃ u, U i = u := ⟨_, rfl⟩
        rw [hte] at x1 f1 htn hnext hbad
        rw [hue] at x2 f2 hun hnext hbad
        have ST := Lib.hid f1; have SU := Lib.hid f2; have X1 := Lib.hid x1; have X2 := Lib.hid x2
        clear hte hue s1 s2 x1 x2 f1 f2
        have Y2 := Lib.hid (X2.out.below ((Below.refl wr.heap.size wr).alloc (Nat.le_refl _) (.cells #[.int .i64 t.at_, .int .i64 t.s, .int .i64 t.m, .int .i64 t.h, .slice t.a t.n t.c] 133)) hl2)
        obtain ⟨p0, p1, p2, p3, p4⟩ := X1.out
        obtain ⟨y0, y1, y2, y3, y4⟩ := Y2.out
        by_cases hs : NSame t u
        · have HS := Lib.hid hs
          clear hs
          go_wp2_with (go_at_fn 103; refine (sm1_any t u true _ (ST.out.below (((Below.refl wr.heap.size wr).alloc (Nat.le_refl _) _).alloc (by simp) _)) (SU.out.below (((Below.refl wr.heap.size wr).alloc (Nat.le_refl _) _).alloc (by simp) _)) htn hun ⟨fun _ => HS.out, fun _ => rfl⟩).mono ?_; rintro e w1 ⟨rfl, hb⟩; have HB1 := Lib.hid (thru2 HBr.out hb); clear hb)
          clear p0 p1 p2 p3 p4 y0 y1 y2 y3 y4
          have HN := Lib.hid (hnext.out HS.out)
          go_roundw
          case rel => exact ⟨i + 1, by omega, by go_num, HB1, HN⟩
          case measure => simp [intOf]; omega
        · have hrf := hbad.out hs
          subst hrf
          have HS := Lib.hid hs
          clear hs
          go_wp2_with (go_at_fn 103; refine (sm1_any t u false _ (ST.out.below (((Below.refl wr.heap.size wr).alloc (Nat.le_refl _) _).alloc (by simp) _)) (SU.out.below (((Below.refl wr.heap.size wr).alloc (Nat.le_refl _) _).alloc (by simp) _)) htn hun ⟨fun hx => (by cases hx), fun hx => absurd hx HS.out⟩).mono ?_; rintro e w1 ⟨rfl, hb⟩; have HB1 := Lib.hid (thru2 HBr.out hb); clear hb)
          go_ret
          exact ⟨rfl, HB1.out⟩
      · have hlt' : ¬ (i : Int) < (N : Int) := by omega
        have hrt : r = true := HR.out.2 ⟨by first | rfl | trivial, fun j hj => HE.out j (by omega)⟩
        subst hrt
        go_wp2
        go_ret
        exact ⟨rfl, HBr.out⟩
  · have hrf : r = false := by
      cases r with
      | false => rfl
      | true => exact absurd (HR.out.1 rfl).1 hl
    subst hrf
    have hd : ((N : Int) == (N' : Int)) = false := by simp; omega
    go_enter Try.func102, Try.ntmps102
    go_wp2
    go_ret
    exact ⟨rfl, Below.refl _ _⟩

set_option maxRecDepth 100000 in
set_option maxHeartbeats 1600000 in
theorem slEqualS_any (a1 a2 : Option Addr) (N N' k1 k2 : Nat) (T U : Nat → SL) (r : Bool) (w : World) (g1 : PV w a1 N T) (g2 : PV w a2 N' U) (hn : N ≤ 1048576) (hn' : N' ≤ 1048576) (hr : r = true ↔ N = N' ∧ ∀ i, i < N → T i = U i) :
    Calls Try.prog 101 #[.slice a1 N k1, .slice a2 N' k2] w (RetBool w r) := by
  have G1 := Lib.hid g1; have G2 := Lib.hid g2; have HR := Lib.hid hr
  have hno : ¬ (N = N' ∧ ∀ i, i < N → T i = U i) → r = false := fun h => by
    cases hq : r
    · rfl
    · exact absurd (hr.1 hq) h
  have HNO := Lib.hid hno
  clear g1 g2 hr hno
  by_cases hl : N = N'
  · subst hl
    go_enter Try.func101, Try.ntmps101
    go_wp2
    go_loopw [13] (fun p wr => ∃ i : Nat, i ≤ N ∧ p = .int .i64 (i : Int) ∧ Hid (Below w.heap.size w wr) ∧ Hid (∀ j, j < i → T j = U j)) (fun p _ => N - (intOf p).toNat)
    case atStart => exact ⟨0, Nat.zero_le _, rfl, Below.refl _ _, Lib.hid (fun j hj => by omega)⟩
    case round =>
      obtain ⟨i, hi, rfl, HBr, HE⟩ := hrel
      by_cases hlt : i < N
      · have hlt' : (i : Int) < (N : Int) := by omega
        have hi0 : (0 : Int) ≤ (i : Int) := by omega
        obtain ⟨b1, q1, e1, l1, x0, x1⟩ := pv_get (G1.out.below HBr.out) hlt
        obtain ⟨b2, q2, e2, l2, y0, y1⟩ := pv_get (G2.out.below HBr.out) hlt
        subst e1 e2
        by_cases he : T i = U i
        · have HD' : Hid (∀ j, j < i + 1 → T j = U j) := Lib.hid fun j hj => by
            rcases Nat.lt_succ_iff_lt_or_eq.mp hj with h1 | h1
            · exact HE.out j h1
            · subst h1; exact he
          rw [← he] at y0 y1
          generalize T i = s at *
          clear HE he
          have HB2 := Lib.hid HBr.out.drew
          go_wp2
          go_region
          go_wp2
          first | exact ⟨⟨i + 1, by omega, by go_num, HB2, HD'⟩, by simp [intOf]; omega⟩ | (go_roundw; (case rel => first | exact ⟨i + 1, by omega, by go_num, HB2, HD'⟩ | ((repeat apply Exists.intro); exact ⟨⟨i + 1, by omega, by go_num, HB2, HD'⟩, rfl⟩)); (case measure => simp [intOf]; omega))
        · have hne : ¬ ((T i).g = (U i).g ∧ (T i).nd = (U i).nd) := fun h => he (by
            cases hs : T i; cases hs' : U i; rw [hs, hs'] at h; obtain ⟨h1, h2⟩ := h; simp only at h1 h2; subst h1 h2; rfl)
          obtain rfl := HNO.out fun h => he (h.2 i hlt)
          clear HE he HNO HR
          generalize T i = s at *
          generalize U i = s' at *
          by_cases hg : s.g = s'.g
          · have hnd : ¬ s.nd = s'.nd := fun h => hne ⟨hg, h⟩
            rw [← hg] at y0
            clear hne
            go_wp2
            go_region
            go_wp2
            go_ret
            exact ⟨rfl, HBr.out.drew⟩
          · clear hne
            go_wp2
            go_region
            go_wp2
            go_ret
            exact ⟨rfl, HBr.out.drew⟩
      · have hlt' : ¬ (i : Int) < (N : Int) := by omega
        obtain rfl : r = true := HR.out.2 ⟨by first | rfl | trivial, fun j hj => HE.out j (by omega)⟩
        go_wp2
        go_ret
        exact ⟨rfl, HBr.out⟩
  · have hd : ((N : Int) != (N' : Int)) = true := by simp; omega
    obtain rfl := HNO.out fun h => hl h.1
    clear hl HNO HR
    go_enter Try.func101, Try.ntmps101
    go_wp2
    go_ret
    exact ⟨rfl, Below.refl _ _⟩
end Go.Proofs.Ytaenbjilcgpgcaa

namespace Go.Proofs.Ytaenbjilcgpgcaa
open Go.RowKit
set_option linter.unusedVariables false

set_option maxRecDepth 100000 in
set_option maxHeartbeats 800000 in
theorem implSM_any (te qu ha : Int) (sa : Option Addr) (M kc : Nat) (S : Nat → SL) (na : Option Addr) (K nc : Nat) (T : Nat → GM) (te' qu' ha' : Int) (sb : Option Addr) (M' kd : Nat) (S' : Nat → SL) (nb : Option Addr) (K' nd : Nat) (U : Nat → GM) (r : Bool) (w : World)
    (hp : PV w sa M S) (hg : NV w na K T) (hp' : PV w sb M' S') (hg' : NV w nb K' U) (hM : M ≤ 1048576) (hK : K ≤ 1048576) (hM' : M' ≤ 1048576) (hK' : K' ≤ 1048576) (hn : ∀ i, i < K → (T i).n ≤ 1048576) (hn' : ∀ i, i < K' → (U i).n ≤ 1048576) (hr : r = true ↔ MSame te qu ha M S K T te' qu' ha' M' S' K' U) :
    Calls Try.prog 41 #[.agg #[.int .i64 te, .int .i64 qu, .int .i64 ha, .slice sa M kc, .slice na K nc], .agg #[.int .i64 te', .int .i64 qu', .int .i64 ha', .slice sb M' kd, .slice nb K' nd]] w (RetBool w r) := by
  have HB0 := Lib.hid (((Below.refl w.heap.size w).alloc (Nat.le_refl _) (.cells #[.int .i64 te, .int .i64 qu, .int .i64 ha, .slice sa M kc, .slice na K nc] 54)).alloc (by simp) (.cells #[.int .i64 te', .int .i64 qu', .int .i64 ha', .slice sb M' kd, .slice nb K' nd] 54))
  have hno : ¬ MSame te qu ha M S K T te' qu' ha' M' S' K' U → r = false := fun h => by
    cases hq : r
    · rfl
    · exact absurd (hr.1 hq) h
  by_cases h1 : te = te' ∧ qu = qu' ∧ ha = ha'
  · obtain ⟨rfl, rfl, rfl⟩ := h1
    by_cases h2 : M = M' ∧ ∀ i, i < M → S i = S' i
    · have hr2 : r = true ↔ K = K' ∧ ∀ i, i < K → NSame (T i) (U i) := hr.trans ⟨fun h => ⟨h.2.2.2.2.1, h.2.2.2.2.2.2⟩, fun h => ⟨rfl, rfl, rfl, h2.1, h.1, h2.2, h.2⟩⟩
      have H2 := Lib.hid h2; have HR2 := Lib.hid hr2
      clear h2 hr2 hr hno
      go_enter Try.func41, Try.ntmps41
      go_wp2_with fail
      have HC := slEqualS_any sa sb M M' kc kd S S' true _ (hp.below HB0.out) (hp'.below HB0.out) hM hM' (Iff.intro (fun _ => H2.out) (fun _ => rfl))
      with_reducible refine HC.mono ?_
      clear HC
      rintro e w1 ⟨rfl, hb⟩
      have HB1 := Lib.hid (thru0 HB0.out hb)
      have hA := Lib.hid (((Blk.new_at (w.heap.size) rfl).alloc _).below hb)
      have hB := Lib.hid ((Blk.new_at (w.heap.size + 1) (by simp)).below hb)
      clear hb
      have ca4 := hA.out.at 4 rfl; have cb4 := hB.out.at 4 rfl
      have hg0 := hA.out.1; have hg1 := hB.out.1
      go_wp2_with fail
      have HC := efn_any na nb K K' nc nd T U r _ (hg.below HB1.out) (hg'.below HB1.out) HR2.out hK hK' hn hn'
      with_reducible refine HC.mono ?_
      clear HC
      rintro e w2 ⟨rfl, hb⟩
      have HB2 := Lib.hid (thru0 HB1.out hb)
      clear hb
      go_wp2
      go_ret
      exact ⟨rfl, HB2.out⟩
    · have hr0 := hno (fun h => h2 ⟨h.2.2.2.1, h.2.2.2.2.2.1⟩)
      subst hr0
      have H2 := Lib.hid h2
      clear h2 hr hno
      go_enter Try.func41, Try.ntmps41
      go_wp2_with fail
      have HC := slEqualS_any sa sb M M' kc kd S S' false _ (hp.below HB0.out) (hp'.below HB0.out) hM hM' (Iff.intro (fun h => absurd h (by simp)) (fun h => absurd h H2.out))
      with_reducible refine HC.mono ?_
      clear HC
      rintro e w1 ⟨rfl, hb⟩
      have HB1 := Lib.hid (thru0 HB0.out hb)
      clear hb
      go_wp2
      go_ret
      exact ⟨rfl, HB1.out⟩
  · have hr0 := hno (fun h => h1 ⟨h.1, h.2.1, h.2.2.1⟩)
    subst hr0
    clear hr hno
    by_cases e1 : te = te'
    · rw [← e1] at HB0 ⊢
      by_cases e2 : qu = qu'
      · rw [← e2] at HB0 ⊢
        have e3 : ¬ ha = ha' := fun e3 => h1 ⟨e1, e2, e3⟩
        have e3' : ¬ ha' = ha := fun h => e3 h.symm
        clear h1 e1 e2
        go_enter Try.func41, Try.ntmps41
        go_wp2
        go_ret
        exact ⟨rfl, HB0.out⟩
      · have e2' : ¬ qu' = qu := fun h => e2 h.symm
        clear h1 e1
        go_enter Try.func41, Try.ntmps41
        go_wp2
        go_ret
        exact ⟨rfl, HB0.out⟩
    · have e1' : ¬ te' = te := fun h => e1 h.symm
      clear h1
      go_enter Try.func41, Try.ntmps41
      go_wp2
      go_ret
      exact ⟨rfl, HB0.out⟩
end Go.Proofs.Ytaenbjilcgpgcaa

namespace Go.Proofs.Ytaenbjilcgpgcaa
open Go.RowKit
set_option linter.unusedVariables false

theorem nsame_trans {t u v : GM} (h : NSame t u) (g : NSame u v) : NSame t v :=
  ⟨h.1.trans g.1, h.2.1.trans g.2.1, h.2.2.1.trans g.2.2.1, h.2.2.2.1.trans g.2.2.2.1, h.2.2.2.2.1.trans g.2.2.2.2.1, fun k hk => (h.2.2.2.2.2 k hk).trans (g.2.2.2.2.2 k (h.2.2.2.2.1 ▸ hk))⟩

theorem nsame_of {t u : GM} (h : GSame t u) : NSame t u := by
  obtain ⟨h1, h2, h3, h4, h5, h6, h7⟩ := h
  refine ⟨by assumption, by assumption, by assumption, by assumption, by assumption, fun k hk => ?_⟩
  first | exact h7 k hk | exact h7 k (by omega)

theorem msame_copies {te qu ha : Int} {M : Nat} {S : Nat → SL} {K : Nat} {T T' : Nat → GM} {te' qu' ha' : Int} {M' : Nat} {S' : Nat → SL} {K' : Nat} {U U' : Nat → GM} (hT : ∀ i, i < K → GSame (T i) (T' i)) (hU : ∀ i, i < K' → GSame (U i) (U' i)) (r : Bool) (hr : r = true ↔ MSame te qu ha M S K T te' qu' ha' M' S' K' U) :
    r = true ↔ MSame te qu ha M S K T' te' qu' ha' M' S' K' U' :=
  hr.trans ⟨fun ⟨a, b, c, d, e, f, g⟩ => ⟨a, b, c, d, e, f, fun i hi => nsame_trans (nsame_of (gsame_symm (hT i hi))) (nsame_trans (g i hi) (nsame_of (hU i (e ▸ hi))))⟩,
    fun ⟨a, b, c, d, e, f, g⟩ => ⟨a, b, c, d, e, f, fun i hi => nsame_trans (nsame_of (hT i hi)) (nsame_trans (g i hi) (nsame_of (gsame_symm (hU i (e ▸ hi)))))⟩⟩

theorem msame_some (te qu ha : Int) (M : Nat) (S : Nat → SL) (K : Nat) (T : Nat → GM) (te' qu' ha' : Int) (M' : Nat) (S' : Nat → SL) (K' : Nat) (U : Nat → GM) : ∃ r : Bool, r = true ↔ MSame te qu ha M S K T te' qu' ha' M' S' K' U := by
  rcases Classical.em (MSame te qu ha M S K T te' qu' ha' M' S' K' U) with h | h
  · exact ⟨true, fun _ => h, fun _ => rfl⟩
  · exact ⟨false, fun g => absurd g (by simp), fun g => absurd g h⟩
end Go.Proofs.Ytaenbjilcgpgcaa

namespace Go.Proofs.Ytaenbjilcgpgcaa
open Go.RowKit
set_option linter.unusedVariables false

set_option maxRecDepth 100000 in
set_option maxHeartbeats 800000 in
theorem e10_any (te qu ha : Int) (sa : Option Addr) (M kc : Nat) (S : Nat → SL) (na : Option Addr) (K nc : Nat) (T : Nat → GM) (te' qu' ha' : Int) (sb : Option Addr) (M' kd : Nat) (S' : Nat → SL) (nb : Option Addr) (K' nd : Nat) (U : Nat → GM) (w : World) (hp : PV w sa M S) (hg : NV w na K T) (hM : M ≤ maxLen) (hK : K ≤ maxLen) (hn : ∀ i, i < K → (T i).n ≤ maxLen) (hp' : PV w sb M' S') (hg' : NV w nb K' U) (hM' : M' ≤ maxLen) (hK' : K' ≤ maxLen) (hn' : ∀ i, i < K' → (U i).n ≤ maxLen) :
    Calls Try.prog 10 #[.agg #[.int .i64 te, .int .i64 qu, .int .i64 ha, .slice sa M kc, .slice na K nc], .agg #[.int .i64 te', .int .i64 qu', .int .i64 ha', .slice sb M' kd, .slice nb K' nd]] w (RetBool w true) := by
  obtain ⟨r, hr⟩ := msame_some te qu ha M S K T te' qu' ha' M' S' K' U
  have HR := Lib.hid hr; have P0 := Lib.hid hp; have G0 := Lib.hid hg; have HN := Lib.hid hn; have P0' := Lib.hid hp'; have G0' := Lib.hid hg'; have HN' := Lib.hid hn'
  have A_0 := Lib.hid ((Blk.new_at (w := w) (cs := #[.int .i64 te, .int .i64 qu, .int .i64 ha, .slice sa M kc, .slice na K nc]) (t := 70) w.heap.size rfl).alloc (.cells #[.int .i64 te', .int .i64 qu', .int .i64 ha', .slice sb M' kd, .slice nb K' nd] 70))
  have B_0 := Lib.hid (Blk.new_at (w := w.alloc (.cells #[.int .i64 te, .int .i64 qu, .int .i64 ha, .slice sa M kc, .slice na K nc] 70)) (cs := #[.int .i64 te', .int .i64 qu', .int .i64 ha', .slice sb M' kd, .slice nb K' nd]) (t := 70) (w.heap.size + 1) (by simp))
  have HB0 := Lib.hid (((Below.refl w.heap.size w).alloc (Nat.le_refl _) (.cells #[.int .i64 te, .int .i64 qu, .int .i64 ha, .slice sa M kc, .slice na K nc] 70)).alloc (by simp) (.cells #[.int .i64 te', .int .i64 qu', .int .i64 ha', .slice sb M' kd, .slice nb K' nd] 70))
  have c0 := A_0.out.at 0 rfl; have c1 := A_0.out.at 1 rfl; have c2 := A_0.out.at 2 rfl; have c3 := A_0.out.at 3 rfl; have c4 := A_0.out.at 4 rfl; have lA := A_0.out.1
  have d0 := B_0.out.at 0 rfl; have d1 := B_0.out.at 1 rfl; have d2 := B_0.out.at 2 rfl; have d3 := B_0.out.at 3 rfl; have d4 := B_0.out.at 4 rfl; have lB := B_0.out.1
  clear hr hp hg hn hp' hg' hn'
  go_enter Try.func10, Try.ntmps10
  go_wp2_with fail
  refine (szMachine_any te qu ha sa M kc S na K nc T 1048576 _ (P0.out.below HB0.out) (G0.out.below HB0.out) hM hK HN.out (by omega) (by omega)).mono ?_
  rintro e w1 ⟨hb, r1, rfl, hr1, hr2⟩
  have HB1 := Lib.hid (thru0 HB0.out hb)
  have A_1 := Lib.hid (A_0.out.below hb); have B_1 := Lib.hid (B_0.out.below hb)
  clear hb c0 c1 c2 c3 c4 lA d0 d1 d2 d3 d4 lB A_0 B_0 HB0
  have d0 := B_1.out.at 0 rfl; have d1 := B_1.out.at 1 rfl; have d2 := B_1.out.at 2 rfl; have d3 := B_1.out.at 3 rfl; have d4 := B_1.out.at 4 rfl; have lB := B_1.out.1
  rcases hr2 with rfl | ⟨h0, h1, h2, h3⟩
  · go_wp2
    go_ret
    exact ⟨rfl, HB1.out⟩
  have h9 : ¬ r1 < 0 := by omega
  have hM1 : M ≤ 1048576 := by omega
  have hK1 : K ≤ 1048576 := by omega
  have HN1 : Hid (∀ i, i < K → (T i).n ≤ 1048576) := Lib.hid fun i hi => by have := h3 i hi; omega
  clear h1 h2 h3 HN hM hK
  go_wp2_with fail
  refine (szMachine_any te' qu' ha' sb M' kd S' nb K' nd U r1 _ (P0'.out.below HB1.out) (G0'.out.below HB1.out) hM' hK' HN'.out (by omega) (by omega)).mono ?_
  rintro e w2 ⟨hb, r2, rfl, hr1', hr2'⟩
  have HB2 := Lib.hid (thru0 HB1.out hb)
  have A_2 := Lib.hid (A_1.out.below hb); have B_2 := Lib.hid (B_1.out.below hb)
  clear hb d0 d1 d2 d3 d4 lB A_1 B_1 HB1
  have c0 := A_2.out.at 0 rfl; have c1 := A_2.out.at 1 rfl; have c2 := A_2.out.at 2 rfl; have c3 := A_2.out.at 3 rfl; have c4 := A_2.out.at 4 rfl; have lA := A_2.out.1
  have d0 := B_2.out.at 0 rfl; have d1 := B_2.out.at 1 rfl; have d2 := B_2.out.at 2 rfl; have d3 := B_2.out.at 3 rfl; have d4 := B_2.out.at 4 rfl; have lB := B_2.out.1
  rcases hr2' with rfl | ⟨h0', h1, h2, h3⟩
  · go_wp2
    go_ret
    exact ⟨rfl, HB2.out⟩
  have h9' : ¬ r2 < 0 := by omega
  have hM1' : M' ≤ 1048576 := by omega
  have hK1' : K' ≤ 1048576 := by omega
  have HN1' : Hid (∀ i, i < K' → (U i).n ≤ 1048576) := Lib.hid fun i hi => by have := h3 i hi; omega
  clear h1 h2 h3 HN' hM' hK'
  go_wp2_with fail
  have A_d := Lib.hid A_2.out.drew; have B_d := Lib.hid B_2.out.drew; have HB_d := Lib.hid HB2.out.drew
  go_region_held3 (fun w' => w'.cell? ⟨w.heap.size, 0, none⟩ = some (.int .i64 te) ∧ w'.cell? ⟨w.heap.size, 1, none⟩ = some (.int .i64 qu) ∧ w'.cell? ⟨w.heap.size, 2, none⟩ = some (.int .i64 ha) ∧ w'.cell? ⟨w.heap.size, 3, none⟩ = some (.slice sa M kc) ∧ w'.cell? ⟨w.heap.size, 4, none⟩ = some (.slice na K nc) ∧ w'.cell? ⟨w.heap.size + 1, 0, none⟩ = some (.int .i64 te') ∧ w'.cell? ⟨w.heap.size + 1, 1, none⟩ = some (.int .i64 qu') ∧ w'.cell? ⟨w.heap.size + 1, 2, none⟩ = some (.int .i64 ha') ∧ w'.cell? ⟨w.heap.size + 1, 3, none⟩ = some (.slice sb M' kd) ∧ w'.cell? ⟨w.heap.size + 1, 4, none⟩ = some (.slice nb K' nd))
    (first | (with_reducible exact ⟨A_2.out.at 0 rfl, A_2.out.at 1 rfl, A_2.out.at 2 rfl, A_2.out.at 3 rfl, A_2.out.at 4 rfl, B_2.out.at 0 rfl, B_2.out.at 1 rfl, B_2.out.at 2 rfl, B_2.out.at 3 rfl, B_2.out.at 4 rfl⟩) | (with_reducible exact ⟨A_d.out.at 0 rfl, A_d.out.at 1 rfl, A_d.out.at 2 rfl, A_d.out.at 3 rfl, A_d.out.at 4 rfl, B_d.out.at 0 rfl, B_d.out.at 1 rfl, B_d.out.at 2 rfl, B_d.out.at 3 rfl, B_d.out.at 4 rfl⟩) | (with_reducible exact ⟨A_3.out.at 0 rfl, A_3.out.at 1 rfl, A_3.out.at 2 rfl, A_3.out.at 3 rfl, A_3.out.at 4 rfl, B_3.out.at 0 rfl, B_3.out.at 1 rfl, B_3.out.at 2 rfl, B_3.out.at 3 rfl, B_3.out.at 4 rfl⟩) | (with_reducible exact ⟨A_4.out.at 0 rfl, A_4.out.at 1 rfl, A_4.out.at 2 rfl, A_4.out.at 3 rfl, A_4.out.at 4 rfl, B_4.out.at 0 rfl, B_4.out.at 1 rfl, B_4.out.at 2 rfl, B_4.out.at 3 rfl, B_4.out.at 4 rfl⟩) | (with_reducible exact ⟨A_5.out.at 0 rfl, A_5.out.at 1 rfl, A_5.out.at 2 rfl, A_5.out.at 3 rfl, A_5.out.at 4 rfl, B_5.out.at 0 rfl, B_5.out.at 1 rfl, B_5.out.at 2 rfl, B_5.out.at 3 rfl, B_5.out.at 4 rfl⟩))
    (first | (go_at_call 44; (with_reducible refine (toMachine_any te qu ha sa M kc S na K nc T _ (P0.out.below HB_d.out) (G0.out.below HB_d.out) hM1 hK1 HN1.out).mono ?_); rintro e w3 ⟨s3, k3, n3, m3, T3, rfl, p3, g3, q3, hb⟩; have HB3 := Lib.hid (thru0 HB_d.out hb); have A_3 := Lib.hid (A_d.out.below hb); have B_3 := Lib.hid (B_d.out.below hb); have P3 := Lib.hid p3; have G3 := Lib.hid g3; have Q3 := Lib.hid q3; clear hb p3 g3 q3) | (go_at_call 44; (with_reducible refine (toMachine_any te' qu' ha' sb M' kd S' nb K' nd U _ (P0'.out.below HB3.out) (G0'.out.below HB3.out) hM1' hK1' HN1'.out).mono ?_); rintro e w4 ⟨s4, k4, n4, m4, T4, rfl, p4, g4, q4, hb⟩; have HB4 := Lib.hid (thru0 HB3.out hb); have A_4 := Lib.hid (A_3.out.below hb); have B_4 := Lib.hid (B_3.out.below hb); have P34 := Lib.hid (P3.out.below hb); have G34 := Lib.hid (G3.out.below hb); have P4 := Lib.hid p4; have G4 := Lib.hid g4; have Q4 := Lib.hid q4; clear hb p4 g4 q4) | (go_at_call 54; (refine (specSM_any te qu ha s3 M k3 S n3 K m3 T3 te' qu' ha' s4 M' k4 S' n4 K' m4 T4 r _ P34.out G34.out P4.out G4.out hM1 hK1 hM1' hK1' (fun i hi => by have := (Q3.out i hi).2.2.2.2.2.1; have := HN1.out i hi; omega) (fun i hi => by have := (Q4.out i hi).2.2.2.2.2.1; have := HN1'.out i hi; omega) (msame_copies Q3.out Q4.out r HR.out)).mono ?_); rintro e w5 ⟨rfl, hb⟩; have HB5 := Lib.hid (thru0 HB4.out hb); have A_5 := Lib.hid (A_4.out.below hb); have B_5 := Lib.hid (B_4.out.below hb); clear hb))
  clear c0 c1 c2 c3 c4 lA d0 d1 d2 d3 d4 lB
  have c0 := A_5.out.at 0 rfl; have c1 := A_5.out.at 1 rfl; have c2 := A_5.out.at 2 rfl; have c3 := A_5.out.at 3 rfl; have c4 := A_5.out.at 4 rfl; have lA := A_5.out.1
  clear P3 G3 Q3 P34 G34 P4 G4 Q4 HB3 HB4 HB_d HB2 A_2 B_2 A_d B_d A_3 B_3 A_4 B_4
  go_wp2_with fail
  refine (toMachine_any te qu ha sa M kc S na K nc T _ (P0.out.below HB5.out) (G0.out.below HB5.out) hM1 hK1 HN1.out).mono ?_
  rintro e w6 ⟨sx, kx, nx, mx, X, rfl, p6, g6, q6, hb⟩
  have HB6 := Lib.hid (thru0 HB5.out hb)
  have A_6 := Lib.hid (A_5.out.below hb); have B_6 := Lib.hid (B_5.out.below hb)
  have PX6 := Lib.hid p6; have GX6 := Lib.hid g6; have QX := Lib.hid q6
  clear hb c0 c1 c2 c3 c4 lA A_5 B_5 HB5 p6 g6 q6
  have hnX : ∀ i, i < K → (X i).n ≤ 1048576 := fun i hi => by have := (QX.out i hi).2.2.2.2.2.1; have := HN1.out i hi; omega
  have HNX := Lib.hid hnX
  clear hnX
  have d0 := (B_6.out.alloc (.cells #[.int .i64 te, .int .i64 qu, .int .i64 ha, .slice sx M kx, .slice nx K mx] 54)).at 0 rfl; have d1 := (B_6.out.alloc (.cells #[.int .i64 te, .int .i64 qu, .int .i64 ha, .slice sx M kx, .slice nx K mx] 54)).at 1 rfl; have d2 := (B_6.out.alloc (.cells #[.int .i64 te, .int .i64 qu, .int .i64 ha, .slice sx M kx, .slice nx K mx] 54)).at 2 rfl; have d3 := (B_6.out.alloc (.cells #[.int .i64 te, .int .i64 qu, .int .i64 ha, .slice sx M kx, .slice nx K mx] 54)).at 3 rfl; have d4 := (B_6.out.alloc (.cells #[.int .i64 te, .int .i64 qu, .int .i64 ha, .slice sx M kx, .slice nx K mx] 54)).at 4 rfl; have lB := (B_6.out.alloc (.cells #[.int .i64 te, .int .i64 qu, .int .i64 ha, .slice sx M kx, .slice nx K mx] 54)).1
  have lX : w6.heap.size < (w6.alloc (.cells #[.int .i64 te, .int .i64 qu, .int .i64 ha, .slice sx M kx, .slice nx K mx] 54)).heap.size := by simp
  go_wp2_with fail
  have A_7 := Lib.hid (A_6.out.alloc (.cells #[.int .i64 te, .int .i64 qu, .int .i64 ha, .slice sx M kx, .slice nx K mx] 54)); have B_7 := Lib.hid (B_6.out.alloc (.cells #[.int .i64 te, .int .i64 qu, .int .i64 ha, .slice sx M kx, .slice nx K mx] 54))
  have X_7 := Lib.hid (Blk.new_at (w := w6) (cs := #[.int .i64 te, .int .i64 qu, .int .i64 ha, .slice sx M kx, .slice nx K mx]) (t := 54) w6.heap.size rfl)
  have HB7 := Lib.hid (HB6.out.alloc HB6.out.size (.cells #[.int .i64 te, .int .i64 qu, .int .i64 ha, .slice sx M kx, .slice nx K mx] 54))
  have PX7 := Lib.hid (PX6.out.alloc (.cells #[.int .i64 te, .int .i64 qu, .int .i64 ha, .slice sx M kx, .slice nx K mx] 54)); have GX7 := Lib.hid (GX6.out.alloc (.cells #[.int .i64 te, .int .i64 qu, .int .i64 ha, .slice sx M kx, .slice nx K mx] 54))
  clear d0 d1 d2 d3 d4 lB lX A_6 B_6 HB6 PX6 GX6
  generalize w6.alloc (.cells #[.int .i64 te, .int .i64 qu, .int .i64 ha, .slice sx M kx, .slice nx K mx] 54) = w7 at *
  refine (toMachine_any te' qu' ha' sb M' kd S' nb K' nd U _ (P0'.out.below HB7.out) (G0'.out.below HB7.out) hM1' hK1' HN1'.out).mono ?_
  rintro e w8 ⟨sy, ky, ny, my, Y, rfl, p8, g8, q8, hb⟩
  have HB8 := Lib.hid (thru0 HB7.out hb)
  have A_8 := Lib.hid (A_7.out.below hb); have B_8 := Lib.hid (B_7.out.below hb); have X_8 := Lib.hid (X_7.out.below hb)
  have PX8 := Lib.hid (PX7.out.below hb); have GX8 := Lib.hid (GX7.out.below hb)
  have PY8 := Lib.hid p8; have GY8 := Lib.hid g8; have QY := Lib.hid q8
  clear hb A_7 B_7 X_7 HB7 PX7 GX7 p8 g8 q8
  have hnY : ∀ i, i < K' → (Y i).n ≤ 1048576 := fun i hi => by have := (QY.out i hi).2.2.2.2.2.1; have := HN1'.out i hi; omega
  have HNY := Lib.hid hnY
  clear hnY
  generalize w6.heap.size = X0 at *
  have d0 := (X_8.out.alloc (.cells #[.int .i64 te', .int .i64 qu', .int .i64 ha', .slice sy M' ky, .slice ny K' my] 54)).at 0 rfl; have d1 := (X_8.out.alloc (.cells #[.int .i64 te', .int .i64 qu', .int .i64 ha', .slice sy M' ky, .slice ny K' my] 54)).at 1 rfl; have d2 := (X_8.out.alloc (.cells #[.int .i64 te', .int .i64 qu', .int .i64 ha', .slice sy M' ky, .slice ny K' my] 54)).at 2 rfl; have d3 := (X_8.out.alloc (.cells #[.int .i64 te', .int .i64 qu', .int .i64 ha', .slice sy M' ky, .slice ny K' my] 54)).at 3 rfl; have d4 := (X_8.out.alloc (.cells #[.int .i64 te', .int .i64 qu', .int .i64 ha', .slice sy M' ky, .slice ny K' my] 54)).at 4 rfl; have lB := (X_8.out.alloc (.cells #[.int .i64 te', .int .i64 qu', .int .i64 ha', .slice sy M' ky, .slice ny K' my] 54)).1
  go_wp2_with fail
  have A_9 := Lib.hid (A_8.out.alloc (.cells #[.int .i64 te', .int .i64 qu', .int .i64 ha', .slice sy M' ky, .slice ny K' my] 54)); have B_9 := Lib.hid (B_8.out.alloc (.cells #[.int .i64 te', .int .i64 qu', .int .i64 ha', .slice sy M' ky, .slice ny K' my] 54)); have X_9 := Lib.hid (X_8.out.alloc (.cells #[.int .i64 te', .int .i64 qu', .int .i64 ha', .slice sy M' ky, .slice ny K' my] 54))
  have Y_9 := Lib.hid (Blk.new_at (w := w8) (cs := #[.int .i64 te', .int .i64 qu', .int .i64 ha', .slice sy M' ky, .slice ny K' my]) (t := 54) w8.heap.size rfl)
  have HB9 := Lib.hid (HB8.out.alloc HB8.out.size (.cells #[.int .i64 te', .int .i64 qu', .int .i64 ha', .slice sy M' ky, .slice ny K' my] 54))
  have PX_9 := Lib.hid (PX8.out.alloc (.cells #[.int .i64 te', .int .i64 qu', .int .i64 ha', .slice sy M' ky, .slice ny K' my] 54)); have GX_9 := Lib.hid (GX8.out.alloc (.cells #[.int .i64 te', .int .i64 qu', .int .i64 ha', .slice sy M' ky, .slice ny K' my] 54)); have PY_9 := Lib.hid (PY8.out.alloc (.cells #[.int .i64 te', .int .i64 qu', .int .i64 ha', .slice sy M' ky, .slice ny K' my] 54)); have GY_9 := Lib.hid (GY8.out.alloc (.cells #[.int .i64 te', .int .i64 qu', .int .i64 ha', .slice sy M' ky, .slice ny K' my] 54))
  clear d0 d1 d2 d3 d4 lB A_8 B_8 X_8 HB8 PX8 GX8 PY8 GY8
  generalize w8.alloc (.cells #[.int .i64 te', .int .i64 qu', .int .i64 ha', .slice sy M' ky, .slice ny K' my] 54) = w9 at *
  generalize w8.heap.size = Y0 at *
  refine (implSM_any te qu ha sx M kx S nx K mx X te' qu' ha' sy M' ky S' ny K' my Y r _ PX_9.out GX_9.out PY_9.out GY_9.out hM1 hK1 hM1' hK1' HNX.out HNY.out (msame_copies QX.out QY.out r HR.out)).mono ?_
  rintro e w10 ⟨rfl, hb⟩
  have HB10 := Lib.hid (thru0 HB9.out hb)
  have A_10 := Lib.hid (A_9.out.below hb); have B_10 := Lib.hid (B_9.out.below hb); have X_10 := Lib.hid (X_9.out.below hb); have Y_10 := Lib.hid (Y_9.out.below hb); have PX_10 := Lib.hid (PX_9.out.below hb); have GX_10 := Lib.hid (GX_9.out.below hb); have PY_10 := Lib.hid (PY_9.out.below hb); have GY_10 := Lib.hid (GY_9.out.below hb); 
  clear hb A_9 B_9 X_9 Y_9 HB9 PX_9 GX_9 PY_9 GY_9
  have c0 := A_10.out.at 0 rfl; have c1 := A_10.out.at 1 rfl; have c2 := A_10.out.at 2 rfl; have c3 := A_10.out.at 3 rfl; have c4 := A_10.out.at 4 rfl; have lA := A_10.out.1
  have d0 := X_10.out.at 0 rfl; have d1 := X_10.out.at 1 rfl; have d2 := X_10.out.at 2 rfl; have d3 := X_10.out.at 3 rfl; have d4 := X_10.out.at 4 rfl; have lX := X_10.out.1
  go_wp2_with fail
  have A_d := Lib.hid A_10.out.drew; have B_d := Lib.hid B_10.out.drew; have X_d := Lib.hid X_10.out.drew; have Y_d := Lib.hid Y_10.out.drew; have PX_d := Lib.hid PX_10.out.drew; have GX_d := Lib.hid GX_10.out.drew; have PY_d := Lib.hid PY_10.out.drew; have GY_d := Lib.hid GY_10.out.drew; have HB_d := Lib.hid HB10.out.drew
  go_region_held3 (fun w' => w'.cell? ⟨w.heap.size, 0, none⟩ = some (.int .i64 te) ∧ w'.cell? ⟨w.heap.size, 1, none⟩ = some (.int .i64 qu) ∧ w'.cell? ⟨w.heap.size, 2, none⟩ = some (.int .i64 ha) ∧ w'.cell? ⟨w.heap.size, 3, none⟩ = some (.slice sa M kc) ∧ w'.cell? ⟨w.heap.size, 4, none⟩ = some (.slice na K nc) ∧ w'.cell? ⟨X0, 0, none⟩ = some (.int .i64 te) ∧ w'.cell? ⟨X0, 1, none⟩ = some (.int .i64 qu) ∧ w'.cell? ⟨X0, 2, none⟩ = some (.int .i64 ha) ∧ w'.cell? ⟨X0, 3, none⟩ = some (.slice sx M kx) ∧ w'.cell? ⟨X0, 4, none⟩ = some (.slice nx K mx))
    (first | (with_reducible exact cap10 A_10.out X_10.out) | (with_reducible exact cap10 A_d.out X_d.out) | (with_reducible exact cap10 A_11.out X_11.out) | (with_reducible exact cap10 A_12.out X_12.out))
    (first | (go_at_call 44; refine (toMachine_any te qu ha sa M kc S na K nc T _ (P0.out.below HB_d.out) (G0.out.below HB_d.out) hM1 hK1 HN1.out).mono ?_; rintro e w11 ⟨sz, kz, nz, mz, Z, rfl, p7, g7, s7, hb⟩; have HB11 := Lib.hid (thru0 HB_d.out hb); have A_11 := Lib.hid (A_d.out.below hb); have B_11 := Lib.hid (B_d.out.below hb); have X_11 := Lib.hid (X_d.out.below hb); have Y_11 := Lib.hid (Y_d.out.below hb); have PX_11 := Lib.hid (PX_d.out.below hb); have GX_11 := Lib.hid (GX_d.out.below hb); have PY_11 := Lib.hid (PY_d.out.below hb); have GY_11 := Lib.hid (GY_d.out.below hb); have P7' := Lib.hid p7; have G7' := Lib.hid g7; have S7 := Lib.hid (show ∀ i, i < K → GSame (X i) (Z i) from fun i hi => gsame_trans (gsame_symm (QX.out i hi)) (s7 i hi)); clear hb p7 g7 s7) | (go_at_call 46; refine (eqMachine_same te qu ha sx sz M kx kz S nx nz K mx mz X Z _ PX_11.out GX_11.out P7'.out G7'.out S7.out hM1 hK1 HNX.out).mono ?_; rintro e w12 ⟨rfl, hb⟩; have HB12 := Lib.hid (thru0 HB11.out hb); have A_12 := Lib.hid (A_11.out.below hb); have B_12 := Lib.hid (B_11.out.below hb); have X_12 := Lib.hid (X_11.out.below hb); have Y_12 := Lib.hid (Y_11.out.below hb); have PX_12 := Lib.hid (PX_11.out.below hb); have GX_12 := Lib.hid (GX_11.out.below hb); have PY_12 := Lib.hid (PY_11.out.below hb); have GY_12 := Lib.hid (GY_11.out.below hb); clear hb))
  clear c0 c1 c2 c3 c4 lA d0 d1 d2 d3 d4 lX P7' G7' S7 A_10 X_10 A_d X_d A_11 X_11 A_12 X_12 PX_10 GX_10 PX_d GX_d PX_11 GX_11 PX_12 GX_12 HB10 HB_d HB11
  have c0 := B_12.out.at 0 rfl; have c1 := B_12.out.at 1 rfl; have c2 := B_12.out.at 2 rfl; have c3 := B_12.out.at 3 rfl; have c4 := B_12.out.at 4 rfl; have lA := B_12.out.1
  have d0 := Y_12.out.at 0 rfl; have d1 := Y_12.out.at 1 rfl; have d2 := Y_12.out.at 2 rfl; have d3 := Y_12.out.at 3 rfl; have d4 := Y_12.out.at 4 rfl; have lX := Y_12.out.1
  go_wp2_with fail
  have B_e := Lib.hid B_12.out.drew; have Y_e := Lib.hid Y_12.out.drew; have PY_e := Lib.hid PY_12.out.drew; have GY_e := Lib.hid GY_12.out.drew; have HB_e := Lib.hid HB12.out.drew
  go_region_held3 (fun w' => w'.cell? ⟨w.heap.size + 1, 0, none⟩ = some (.int .i64 te') ∧ w'.cell? ⟨w.heap.size + 1, 1, none⟩ = some (.int .i64 qu') ∧ w'.cell? ⟨w.heap.size + 1, 2, none⟩ = some (.int .i64 ha') ∧ w'.cell? ⟨w.heap.size + 1, 3, none⟩ = some (.slice sb M' kd) ∧ w'.cell? ⟨w.heap.size + 1, 4, none⟩ = some (.slice nb K' nd) ∧ w'.cell? ⟨Y0, 0, none⟩ = some (.int .i64 te') ∧ w'.cell? ⟨Y0, 1, none⟩ = some (.int .i64 qu') ∧ w'.cell? ⟨Y0, 2, none⟩ = some (.int .i64 ha') ∧ w'.cell? ⟨Y0, 3, none⟩ = some (.slice sy M' ky) ∧ w'.cell? ⟨Y0, 4, none⟩ = some (.slice ny K' my))
    (first | (with_reducible exact cap10 B_12.out Y_12.out) | (with_reducible exact cap10 B_e.out Y_e.out) | (with_reducible exact cap10 B_13.out Y_13.out) | (with_reducible exact cap10 B_14.out Y_14.out))
    (first | (go_at_call 44; refine (toMachine_any te' qu' ha' sb M' kd S' nb K' nd U _ (P0'.out.below HB_e.out) (G0'.out.below HB_e.out) hM1' hK1' HN1'.out).mono ?_; rintro e w13 ⟨sv, kv, nv, mv, V, rfl, p7, g7, s7, hb⟩; have HB13 := Lib.hid (thru0 HB_e.out hb); have B_13 := Lib.hid (B_e.out.below hb); have Y_13 := Lib.hid (Y_e.out.below hb); have PY_13 := Lib.hid (PY_e.out.below hb); have GY_13 := Lib.hid (GY_e.out.below hb); have P7' := Lib.hid p7; have G7' := Lib.hid g7; have S7 := Lib.hid (show ∀ i, i < K' → GSame (Y i) (V i) from fun i hi => gsame_trans (gsame_symm (QY.out i hi)) (s7 i hi)); clear hb p7 g7 s7) | (go_at_call 46; refine (eqMachine_same te' qu' ha' sy sv M' ky kv S' ny nv K' my mv Y V _ PY_13.out GY_13.out P7'.out G7'.out S7.out hM1' hK1' HNY.out).mono ?_; rintro e w14 ⟨rfl, hb⟩; have HB14 := Lib.hid (thru0 HB13.out hb); have B_14 := Lib.hid (B_13.out.below hb); have Y_14 := Lib.hid (Y_13.out.below hb); have PY_14 := Lib.hid (PY_13.out.below hb); have GY_14 := Lib.hid (GY_13.out.below hb); clear hb))
  go_wp2
  go_ret
  exact ⟨rfl, HB14.out⟩
end Go.Proofs.Ytaenbjilcgpgcaa

