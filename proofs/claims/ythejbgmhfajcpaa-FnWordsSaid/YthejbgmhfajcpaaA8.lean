/- Contracts: withHalves, NewArena. -/
import Derived.Test.YthejbgmhfajcpaaMk
namespace Go.Proofs.Ythejbgmhfajcpaa
open Go.RowKit


/-- What an arena's function hands back, as data. -/
structure AR where
  co : Int
  h : Int
  n : Nat
  f : Nat → Int
  ac : Int
  bu : Int
  at_ : Int
def errAR (k : Int) : AR := ⟨k, 0, 0, fun _ => 0, 0, 0, 0⟩
/-- An arena's result comes back, its words in new memory. -/
def RetRes (W : World) (r : AR) (e : Ending) (w' : World) : Prop :=
  ∃ a c, e = .returned (.agg #[.int .i64 r.co, .int .i64 r.h, .slice a r.n c, .int .i64 r.ac, .int .i64 r.bu, .int .i64 r.at_]) ∧ Own w' W.heap.size a r.n r.f ∧ Below W.heap.size W w'
theorem retRes_of {W w' : World} {r : AR} {a : Option Addr} {c : Nat} (ho : Own w' W.heap.size a r.n r.f) (hb : Below W.heap.size W w') :
    RetRes W r (.returned (.agg #[.int .i64 r.co, .int .i64 r.h, .slice a r.n c, .int .i64 r.ac, .int .i64 r.bu, .int .i64 r.at_])) w' := ⟨a, c, rfl, ho, hb⟩

set_option maxHeartbeats 400000 in
theorem withHalves_any (h ac bu : Int) (a a1 a2 : Option Addr) (n c n1 n2 c1 c2 : Nat) (f g : Nat → Int) (w : World) (s1 : Src w a1 n1 f) (s2 : Src w a2 n2 g) (hp1 : 0 < n1) (hp2 : 0 < n2) (hn1 : n1 ≤ 524288) (hn2 : n2 ≤ 524288) :
    Calls Try.prog 52 #[.agg #[.int .i64 h, .slice a n c, .int .i64 ac, .int .i64 bu], .agg #[.slice a1 n1 c1, .slice a2 n2 c2]] w (RetArena w h (n1 + n2) (cat n1 f g) ac bu) := by
  have S1 := Lib.hid s1
  have S2 := Lib.hid s2
  clear s1 s2
  go_enter Try.func52, Try.ntmps52
  go_wp2_with fail
  have q0 := (Blk.new_at (w := ((w.alloc (.cells #[.int .i64 h, .slice a n c, .int .i64 ac, .int .i64 bu] 26)).alloc (.cells #[.slice a1 n1 c1, .slice a2 n2 c2] 66)).alloc (.cells #[.int .i64 0, .slice none 0 0, .int .i64 0, .int .i64 0] 26)) (cs := #[.slice a1 n1 c1, .slice a2 n2 c2]) (t := 24) (w.heap.size + 1 + 1 + 1) (by simp))
  refine (concat_any _ _ _ _ _ _ _ f g _ (by simp) (q0.at 0 rfl) (q0.at 1 rfl) ((((S1.out.alloc _).alloc _).alloc _).alloc _) ((((S2.out.alloc _).alloc _).alloc _).alloc _) hp1 hp2 hn1 hn2).mono ?_
  rintro e w1 ⟨u, cu, rfl, ho, hb, hcu, hcm, hnu⟩
  have HB1 : Hid (Below w.heap.size w w1) := thru4 (Below.refl _ _) hb
  have A_1 := Lib.hid (((((Blk.new_at (w.heap.size) (by simp)).alloc _).alloc _).alloc _).below hb)
  have R_1 := Lib.hid (((Blk.new_at (w.heap.size + 1 + 1) (by simp)).alloc _).below hb)
  have HO : Hid (Own w1 (w.heap.size + 4) u (n1 + n2) (cat n1 f g)) := ho.mono (by simp)
  have HN := Lib.hid hnu
  clear ho hnu q0
  clear hb
  have cA0 := A_1.out.at 0 rfl
  have cA1 := A_1.out.at 1 rfl
  have cA2 := A_1.out.at 2 rfl
  have cA3 := A_1.out.at 3 rfl
  have cR0 := R_1.out.at 0 rfl
  have cR1 := R_1.out.at 1 rfl
  have cR2 := R_1.out.at 2 rfl
  have cR3 := R_1.out.at 3 rfl
  have fA1 := A_1.out.free 1 rfl
  have fR0 := R_1.out.free 0 rfl
  have fR1 := R_1.out.free 1 rfl
  have fR2 := R_1.out.free 2 rfl
  have fR3 := R_1.out.free 3 rfl
  go_wp2
  have hz := HB1.out.size
  refine bodyPost_ret (v := .agg #[.int .i64 h, .slice u (n1 + n2) cu, .int .i64 ac, .int .i64 bu]) (by simp [results, Try.results52, go_sem, cR0, cR1, cR2, cR3]) rfl ⟨u, cu, rfl, ?_, ?_, hcu, hcm, HN.out⟩
  · refine Own.mono (B := w.heap.size + 4) ?_ (by omega)
    repeat (with_reducible refine Own.setCell ?_ (by (try simp); (try omega)) _)
    exact HO.out
  · repeat (with_reducible refine Below.setCell ?_ (by (try simp); (try omega)) _)
    exact HB1.out


theorem run_mk (m : Nat) (hm : m ≤ 1048576) (w : World) : (Instr.makeSlice 24 (.int .i64 (m : Int)) (.int .i64 (m : Int))).run Try.prog w = .ok (.slice (some ⟨w.heap.size, 0, none⟩) m m) (w.alloc (.cells (madeCells #[.int .i64 0] m) 2)) := by
  obtain ⟨i0, hi, hz0, hz1, hz2⟩ := info_parts Try.info2
  have h := run_make (P := Try.prog) w 24 2 i0 (.int .i64 0) Try.underlying24 hi hz0 .i64 .i64 (m : Int) (m : Int) (by omega) (Int.le_refl _) (by rw [hz2]; omega) (by omega)
  rw [hz1] at h
  simpa [Value.cells] using h
/-- A row of zeros that was just made. -/
theorem own_made (w : World) (m : Nat) (b : Nat) (hb : b = w.heap.size) : Own (w.alloc (.cells (madeCells #[.int .i64 0] m) 2)) w.heap.size (some ⟨b, 0, none⟩) m (fun _ => 0) := by
  subst hb
  refine .inr ⟨w.heap.size, 0, rfl, Nat.le_refl _, by simp, fun i hi => ⟨?_, World.frozen?_alloc_at _ _ _ _ rfl⟩⟩
  rw [World.cell?_alloc_at _ _ _ _ rfl]
  have h := toList_madeCells_one (.int .i64 0) m
  have h2 : (madeCells #[Value.int .i64 0] m)[0 + i]? = (madeCells #[Value.int .i64 0] m).toList[0 + i]? := by simp
  rw [h2, h]; simp [hi]

set_option maxHeartbeats 400000 in
theorem l1New_any (m : Nat) (w : World) (hm : m ≤ 200) : Calls Try.prog 64 #[.int .i64 (m : Int)] w (RetArena w m (2 * m) (fun _ => 0) 0 0) := by
  have hmk := run_mk (2 * m) (by omega)
  simp only [Int.natCast_mul, Int.cast_ofNat_Int] at hmk
  go_enter Try.func64, Try.ntmps64
  go_wp2
  refine bodyPost_ret (v := .agg #[.int .i64 (m : Int), .slice (some ⟨w.heap.size + 1, 0, none⟩) (2 * m) (2 * m), .int .i64 0, .int .i64 0]) (by simp [results, Try.results64, go_sem]) rfl
    ⟨some ⟨w.heap.size + 1, 0, none⟩, 2 * m, rfl, (own_made (w.alloc _) (2 * m) _ (by simp)).mono (by simp), ((Below.refl _ _).alloc (Nat.le_refl _) _).alloc (by simp) _, Nat.le_refl _, by unfold maxLen; omega, fun x => by simp at x⟩

set_option maxHeartbeats 400000 in
theorem specNew_no (v : Int) (w : World) (h : ¬ (8 ≤ v ∧ v ≤ 200)) :
    Calls Try.prog 34 #[.int .i64 v] w (RetRes w (errAR 3)) := by
  have H := Lib.hid h
  clear h
  go_enter Try.func34, Try.ntmps34
  go_wp2_with fail
  refine (l1In_no _ _ _ _ H.out).mono ?_
  rintro e w' ⟨rfl, rfl⟩
  go_wp2
  exact bodyPost_ret (v := .agg #[.int .i64 3, .int .i64 0, .slice none 0 0, .int .i64 0, .int .i64 0, .int .i64 0]) (by simp [results, Try.results34, go_sem]) rfl ⟨none, 0, rfl, .inl rfl, (Below.refl _ _).alloc (Nat.le_refl _) _⟩

set_option maxHeartbeats 400000 in
theorem specNew_ok (m : Nat) (w : World) (h1 : 8 ≤ m) (h2 : m ≤ 200) :
    Calls Try.prog 34 #[.int .i64 (m : Int)] w (RetRes w ⟨0, m, 2 * m, fun _ => 0, 0, 0, 0⟩) := by
  go_enter Try.func34, Try.ntmps34
  go_wp2_with fail
  refine (l1In_yes _ _ _ _ (by omega) (by omega)).mono ?_
  rintro e w' ⟨rfl, rfl⟩
  go_wp2_with fail
  refine (l1New_any m _ h2).mono ?_
  rintro e w1 ⟨u, cu, rfl, ho, hb, hcu, hcm, hnu⟩
  have HB1 : Hid (Below w.heap.size w w1) := thru1 (Below.refl _ _) hb
  have R_1 := Lib.hid ((Blk.new_at (w.heap.size) (by simp)).below hb)
  have HO : Hid (Own w1 (w.heap.size + 1) u (2 * m) (fun _ => 0)) := ho.mono (by simp)
  clear ho hnu
  clear hb
  have cR0 := R_1.out.at 0 rfl
  have cR1 := R_1.out.at 1 rfl
  have cR2 := R_1.out.at 2 rfl
  have cR3 := R_1.out.at 3 rfl
  have cR4 := R_1.out.at 4 rfl
  have cR5 := R_1.out.at 5 rfl
  have fR0 := R_1.out.free 0 rfl
  have fR1 := R_1.out.free 1 rfl
  have fR2 := R_1.out.free 2 rfl
  have fR3 := R_1.out.free 3 rfl
  have fR4 := R_1.out.free 4 rfl
  have fR5 := R_1.out.free 5 rfl
  go_wp2
  have hz := HB1.out.size
  refine bodyPost_ret (v := .agg #[.int .i64 0, .int .i64 (m : Int), .slice u (2 * m) cu, .int .i64 0, .int .i64 0, .int .i64 0]) (by simp [results, Try.results34, go_sem, cR0, cR1, cR2, cR3, cR4, cR5]) rfl ⟨_, _, rfl, ?_, ?_⟩
  · refine Own.mono (B := w.heap.size + 1) ?_ (by omega)
    repeat (with_reducible refine Own.setCell ?_ (by (try simp); (try omega)) _)
    exact HO.out
  · repeat (with_reducible refine Below.setCell ?_ (by (try simp); (try omega)) _)
    exact HB1.out

set_option maxHeartbeats 400000 in
theorem implNew_no (v : Int) (w : World) (h : ¬ (8 ≤ v ∧ v ≤ 200)) :
    Calls Try.prog 31 #[.int .i64 v] w (RetRes w (errAR 3)) := by
  have H := Lib.hid h
  clear h
  go_enter Try.func31, Try.ntmps31
  go_wp2_with fail
  refine (isOut1 _ _ _ _ _ true (by simp) (.inr ⟨rfl, H.out⟩)).mono ?_
  rintro e w1 ⟨rfl, hb⟩
  have HB1 : Hid (Below w.heap.size w w1) := thru2 (Below.refl _ _) hb
  have R_1 := Lib.hid (((Blk.new_at (w.heap.size) (by simp)).alloc _).below hb)
  clear hb
  have cR0 := R_1.out.at 0 rfl
  have cR1 := R_1.out.at 1 rfl
  have cR2 := R_1.out.at 2 rfl
  have cR3 := R_1.out.at 3 rfl
  have cR4 := R_1.out.at 4 rfl
  have cR5 := R_1.out.at 5 rfl
  have fR0 := R_1.out.free 0 rfl
  have fR1 := R_1.out.free 1 rfl
  have fR2 := R_1.out.free 2 rfl
  have fR3 := R_1.out.free 3 rfl
  have fR4 := R_1.out.free 4 rfl
  have fR5 := R_1.out.free 5 rfl
  go_wp2
  have hz := HB1.out.size
  refine bodyPost_ret (v := .agg #[.int .i64 3, .int .i64 0, .slice none 0 0, .int .i64 0, .int .i64 0, .int .i64 0]) (by simp [results, Try.results31, go_sem, cR0, cR1, cR2, cR3, cR4, cR5]) rfl ⟨none, 0, rfl, .inl rfl, ?_⟩
  repeat (with_reducible refine Below.setCell ?_ (by (try simp); (try omega)) _)
  exact HB1.out


theorem retNew_of {w w' : World} {m k : Nat} {u : Option Addr} {cu : Nat} (e : k = 2 * m) (ho : Own w' w.heap.size u k (fun _ => 0)) (hb : Below w.heap.size w w') :
    RetRes w ⟨0, m, 2 * m, fun _ => 0, 0, 0, 0⟩ (.returned (.agg #[.int .i64 0, .int .i64 (m : Int), .slice u k cu, .int .i64 0, .int .i64 0, .int .i64 0])) w' := by
  subst e; exact ⟨u, cu, rfl, ho, hb⟩

set_option maxHeartbeats 800000 in
theorem implNew_ok (m : Nat) (w : World) (h1 : 8 ≤ m) (h2 : m ≤ 200) :
    Calls Try.prog 31 #[.int .i64 (m : Int)] w (RetRes w ⟨0, m, 2 * m, fun _ => 0, 0, 0, 0⟩) := by
  have hmk := run_mk m (by omega)
  go_enter Try.func31, Try.ntmps31
  go_wp2_with fail
  refine (isOut1 _ _ _ _ _ false (by simp) (.inl ⟨rfl, by omega, by omega⟩)).mono ?_
  rintro e w1 ⟨rfl, hb⟩
  have HB1 : Hid (Below w.heap.size w w1) := thru2 (Below.refl _ _) hb
  have R_1 := Lib.hid (((Blk.new_at (w.heap.size) (by simp)).alloc _).below hb)
  clear hb
  have cR0 := R_1.out.at 0 rfl
  have cR1 := R_1.out.at 1 rfl
  have cR2 := R_1.out.at 2 rfl
  have cR3 := R_1.out.at 3 rfl
  have cR4 := R_1.out.at 4 rfl
  have cR5 := R_1.out.at 5 rfl
  have fR0 := R_1.out.free 0 rfl
  have fR1 := R_1.out.free 1 rfl
  have fR2 := R_1.out.free 2 rfl
  have fR3 := R_1.out.free 3 rfl
  have fR4 := R_1.out.free 4 rfl
  have fR5 := R_1.out.free 5 rfl
  go_wp2_with fail
  go_region
  all_goals
    go_wp2_with fail
    refine (withHalves_any _ _ _ _ _ _ _ _ _ _ _ _ (fun _ => 0) (fun _ => 0) _ (by first | ((with_reducible refine (((own_made _ m _ ?_).src.alloc _).alloc _).drew); simp; done) | ((with_reducible refine ((own_made _ m _ ?_).src.alloc _).drew); simp; done) | ((with_reducible refine (own_made _ m _ ?_).src.drew); simp; done)) (by first | ((with_reducible refine (((own_made _ m _ ?_).src.alloc _).alloc _).drew); simp; done) | ((with_reducible refine ((own_made _ m _ ?_).src.alloc _).drew); simp; done) | ((with_reducible refine (own_made _ m _ ?_).src.drew); simp; done)) (by omega) (by omega) (by omega) (by omega)).mono ?_
    rintro e w2 ⟨u, cu, rfl, ho, hb, hcu, hcm, hnu⟩
    have HB2 : Hid (Below w.heap.size w w2) := thru0 (((((HB1.out.alloc HB1.out.size _).alloc (by have := HB1.out.size; simp; omega) _).alloc (by have := HB1.out.size; simp; omega) _)).drew) hb
    have HR2 := Lib.hid (((((R_1.out.alloc _).alloc _).alloc _).drew).below hb)
    have hsz : w.heap.size < w1.heap.size := R_1.out.1
    have HO : Hid (Own w2 w1.heap.size u (m + m) (fun _ => 0)) := (ho.mono (by simp; try omega)).congr (fun i _ => by simp [cat])
    clear hb ho hnu cR0 cR1 cR2 cR3 cR4 cR5 fR0 fR1 fR2 fR3 fR4 fR5
    have cR0 := HR2.out.at 0 rfl; have cR1 := HR2.out.at 1 rfl; have cR2 := HR2.out.at 2 rfl; have cR3 := HR2.out.at 3 rfl; have cR4 := HR2.out.at 4 rfl; have cR5 := HR2.out.at 5 rfl
    have fR0 := HR2.out.free 0 rfl; have fR1 := HR2.out.free 1 rfl; have fR2 := HR2.out.free 2 rfl; have fR3 := HR2.out.free 3 rfl; have fR4 := HR2.out.free 4 rfl; have fR5 := HR2.out.free 5 rfl
    go_wp2
    have e2 : m + m = 2 * m := by omega
    refine bodyPost_ret (v := .agg #[.int .i64 0, .int .i64 (m : Int), .slice u (m + m) cu, .int .i64 0, .int .i64 0, .int .i64 0]) (by simp [results, Try.results31, go_sem, cR0, cR1, cR2, cR3, cR4, cR5]) rfl (retNew_of e2 ?_ ?_)
    · refine Own.mono (B := w1.heap.size) ?_ (by omega)
      repeat (with_reducible refine Own.setCell ?_ (by (try simp); (try omega)) _)
      exact HO.out
    · repeat (with_reducible refine Below.setCell ?_ (by (try simp); (try omega)) _)
      exact HB2.out


/-- What NewArena answers. -/
def IsNew (v : Int) (r : AR) : Prop := (¬ (8 ≤ v ∧ v ≤ 200) ∧ r = errAR 3) ∨ (8 ≤ v ∧ v ≤ 200) ∧ ∃ m : Nat, v = m ∧ r = ⟨0, m, 2 * m, fun _ => 0, 0, 0, 0⟩
theorem isNew_some (v : Int) : ∃ r, IsNew v r := by
  by_cases h : 8 ≤ v ∧ v ≤ 200
  · exact ⟨_, .inr ⟨h, v.toNat, by omega, rfl⟩⟩
  · exact ⟨_, .inl ⟨h, rfl⟩⟩
theorem isNew_small {v : Int} {r : AR} (h : IsNew v r) : r.n ≤ 400 := by
  rcases h with ⟨_, rfl⟩ | ⟨h, m, rfl, rfl⟩
  · exact Nat.zero_le _
  · show 2 * m ≤ 400; omega
theorem specNew_any (v : Int) (r : AR) (w : World) (h : IsNew v r) : Calls Try.prog 34 #[.int .i64 v] w (RetRes w r) := by
  rcases h with ⟨h, rfl⟩ | ⟨h, m, rfl, rfl⟩
  · exact specNew_no v w h
  · exact specNew_ok m w (by omega) (by omega)
theorem implNew_any (v : Int) (r : AR) (w : World) (h : IsNew v r) : Calls Try.prog 31 #[.int .i64 v] w (RetRes w r) := by
  rcases h with ⟨h, rfl⟩ | ⟨h, m, rfl, rfl⟩
  · exact implNew_no v w h
  · exact implNew_ok m w (by omega) (by omega)

end Go.Proofs.Ythejbgmhfajcpaa
