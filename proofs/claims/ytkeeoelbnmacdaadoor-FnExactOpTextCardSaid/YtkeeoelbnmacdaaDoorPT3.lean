/- Texts merged: O5 to OT5. -/
import Derived.Test.YtkeeoelbnmacdaaDoorPT2
import Derived.Lib.Join
namespace Go.Proofs.YtkeeoelbnmacdaaDoor
open Go.RowKit
set_option linter.unusedVariables false

set_option maxRecDepth 100000 in
set_option maxHeartbeats 1600000 in
theorem need_0000 (b : Nat) (te k h t i v : Int) (fo r : Bool) (w : World) (hB : Blk w b [.int .i64 te, .int .i64 k, .int .i64 h, .int .i64 t, .int .i64 i, .int .i64 v, .bool fo]) (hr : r = !(exB false false false false h t i v)) :
    Calls Tryd.prog 65 #[.pointer (some ⟨b, 0, none⟩), .bool false, .bool false, .bool false, .bool false] w fun e w' => e = .returned (.bool r) ∧ w = w' := by
  have c2 := hB.at 2 rfl; have c3 := hB.at 3 rfl; have c4 := hB.at 4 rfl; have c5 := hB.at 5 rfl; have lB := hB.1
  clear hB
  by_cases hh : h = 0
  · subst hh
    by_cases ht : t = 0
    · subst ht
      by_cases hi : i = 0
      · subst hi
        by_cases hv : v = 0
        · subst hv
          obtain rfl : r = true := by rw [hr]; simp [exB]
          clear hr
          go_enter Tryd.func65, Tryd.ntmps65
          go_wp2
          go_ret
          exact ⟨rfl, rfl⟩
        · have hv' : (v != 0) = true := by simpa using hv
          have hv'' : (v == 0) = false := by simpa using hv
          clear hv
          obtain rfl : r = false := by rw [hr]; simp [exB, hv']
          clear hr
          go_enter Tryd.func65, Tryd.ntmps65
          go_wp2
          go_ret
          exact ⟨rfl, rfl⟩
      · have hi' : (i != 0) = true := by simpa using hi
        have hi'' : (i == 0) = false := by simpa using hi
        clear hi
        obtain rfl : r = false := by rw [hr]; simp [exB, hi']
        clear hr
        go_enter Tryd.func65, Tryd.ntmps65
        go_wp2
        go_ret
        exact ⟨rfl, rfl⟩
    · have ht' : (t != 0) = true := by simpa using ht
      have ht'' : (t == 0) = false := by simpa using ht
      clear ht
      obtain rfl : r = false := by rw [hr]; simp [exB, ht']
      clear hr
      go_enter Tryd.func65, Tryd.ntmps65
      go_wp2
      go_ret
      exact ⟨rfl, rfl⟩
  · have hh' : (h != 0) = true := by simpa using hh
    have hh'' : (h == 0) = false := by simpa using hh
    clear hh
    obtain rfl : r = false := by rw [hr]; simp [exB, hh']
    clear hr
    go_enter Tryd.func65, Tryd.ntmps65
    go_wp2
    go_ret
    exact ⟨rfl, rfl⟩

set_option maxRecDepth 100000 in
set_option maxHeartbeats 1600000 in
theorem need_0011 (b : Nat) (te k h t i v : Int) (fo r : Bool) (w : World) (hB : Blk w b [.int .i64 te, .int .i64 k, .int .i64 h, .int .i64 t, .int .i64 i, .int .i64 v, .bool fo]) (hr : r = !(exB false false true true h t i v)) :
    Calls Tryd.prog 65 #[.pointer (some ⟨b, 0, none⟩), .bool false, .bool false, .bool true, .bool true] w fun e w' => e = .returned (.bool r) ∧ w = w' := by
  have c2 := hB.at 2 rfl; have c3 := hB.at 3 rfl; have c4 := hB.at 4 rfl; have c5 := hB.at 5 rfl; have lB := hB.1
  clear hB
  by_cases hh : h = 0
  · subst hh
    by_cases ht : t = 0
    · subst ht
      obtain rfl : r = true := by rw [hr]; simp [exB]
      clear hr
      go_enter Tryd.func65, Tryd.ntmps65
      go_wp2
      go_ret
      exact ⟨rfl, rfl⟩
    · have ht' : (t != 0) = true := by simpa using ht
      have ht'' : (t == 0) = false := by simpa using ht
      clear ht
      obtain rfl : r = false := by rw [hr]; simp [exB, ht']
      clear hr
      go_enter Tryd.func65, Tryd.ntmps65
      go_wp2
      go_ret
      exact ⟨rfl, rfl⟩
  · have hh' : (h != 0) = true := by simpa using hh
    have hh'' : (h == 0) = false := by simpa using hh
    clear hh
    obtain rfl : r = false := by rw [hr]; simp [exB, hh']
    clear hr
    go_enter Tryd.func65, Tryd.ntmps65
    go_wp2
    go_ret
    exact ⟨rfl, rfl⟩

set_option maxRecDepth 100000 in
set_option maxHeartbeats 1600000 in
theorem need_1000 (b : Nat) (te k h t i v : Int) (fo r : Bool) (w : World) (hB : Blk w b [.int .i64 te, .int .i64 k, .int .i64 h, .int .i64 t, .int .i64 i, .int .i64 v, .bool fo]) (hr : r = !(exB true false false false h t i v)) :
    Calls Tryd.prog 65 #[.pointer (some ⟨b, 0, none⟩), .bool true, .bool false, .bool false, .bool false] w fun e w' => e = .returned (.bool r) ∧ w = w' := by
  have c2 := hB.at 2 rfl; have c3 := hB.at 3 rfl; have c4 := hB.at 4 rfl; have c5 := hB.at 5 rfl; have lB := hB.1
  clear hB
  by_cases ht : t = 0
  · subst ht
    by_cases hi : i = 0
    · subst hi
      by_cases hv : v = 0
      · subst hv
        obtain rfl : r = true := by rw [hr]; simp [exB]
        clear hr
        go_enter Tryd.func65, Tryd.ntmps65
        go_wp2
        go_ret
        exact ⟨rfl, rfl⟩
      · have hv' : (v != 0) = true := by simpa using hv
        have hv'' : (v == 0) = false := by simpa using hv
        clear hv
        obtain rfl : r = false := by rw [hr]; simp [exB, hv']
        clear hr
        go_enter Tryd.func65, Tryd.ntmps65
        go_wp2
        go_ret
        exact ⟨rfl, rfl⟩
    · have hi' : (i != 0) = true := by simpa using hi
      have hi'' : (i == 0) = false := by simpa using hi
      clear hi
      obtain rfl : r = false := by rw [hr]; simp [exB, hi']
      clear hr
      go_enter Tryd.func65, Tryd.ntmps65
      go_wp2
      go_ret
      exact ⟨rfl, rfl⟩
  · have ht' : (t != 0) = true := by simpa using ht
    have ht'' : (t == 0) = false := by simpa using ht
    clear ht
    obtain rfl : r = false := by rw [hr]; simp [exB, ht']
    clear hr
    go_enter Tryd.func65, Tryd.ntmps65
    go_wp2
    go_ret
    exact ⟨rfl, rfl⟩

set_option maxRecDepth 100000 in
set_option maxHeartbeats 1600000 in
theorem need_1010 (b : Nat) (te k h t i v : Int) (fo r : Bool) (w : World) (hB : Blk w b [.int .i64 te, .int .i64 k, .int .i64 h, .int .i64 t, .int .i64 i, .int .i64 v, .bool fo]) (hr : r = !(exB true false true false h t i v)) :
    Calls Tryd.prog 65 #[.pointer (some ⟨b, 0, none⟩), .bool true, .bool false, .bool true, .bool false] w fun e w' => e = .returned (.bool r) ∧ w = w' := by
  have c2 := hB.at 2 rfl; have c3 := hB.at 3 rfl; have c4 := hB.at 4 rfl; have c5 := hB.at 5 rfl; have lB := hB.1
  clear hB
  by_cases ht : t = 0
  · subst ht
    by_cases hv : v = 0
    · subst hv
      obtain rfl : r = true := by rw [hr]; simp [exB]
      clear hr
      go_enter Tryd.func65, Tryd.ntmps65
      go_wp2
      go_ret
      exact ⟨rfl, rfl⟩
    · have hv' : (v != 0) = true := by simpa using hv
      have hv'' : (v == 0) = false := by simpa using hv
      clear hv
      obtain rfl : r = false := by rw [hr]; simp [exB, hv']
      clear hr
      go_enter Tryd.func65, Tryd.ntmps65
      go_wp2
      go_ret
      exact ⟨rfl, rfl⟩
  · have ht' : (t != 0) = true := by simpa using ht
    have ht'' : (t == 0) = false := by simpa using ht
    clear ht
    obtain rfl : r = false := by rw [hr]; simp [exB, ht']
    clear hr
    go_enter Tryd.func65, Tryd.ntmps65
    go_wp2
    go_ret
    exact ⟨rfl, rfl⟩

set_option maxRecDepth 100000 in
set_option maxHeartbeats 1600000 in
theorem need_1011 (b : Nat) (te k h t i v : Int) (fo r : Bool) (w : World) (hB : Blk w b [.int .i64 te, .int .i64 k, .int .i64 h, .int .i64 t, .int .i64 i, .int .i64 v, .bool fo]) (hr : r = !(exB true false true true h t i v)) :
    Calls Tryd.prog 65 #[.pointer (some ⟨b, 0, none⟩), .bool true, .bool false, .bool true, .bool true] w fun e w' => e = .returned (.bool r) ∧ w = w' := by
  have c2 := hB.at 2 rfl; have c3 := hB.at 3 rfl; have c4 := hB.at 4 rfl; have c5 := hB.at 5 rfl; have lB := hB.1
  clear hB
  by_cases ht : t = 0
  · subst ht
    obtain rfl : r = true := by rw [hr]; simp [exB]
    clear hr
    go_enter Tryd.func65, Tryd.ntmps65
    go_wp2
    go_ret
    exact ⟨rfl, rfl⟩
  · have ht' : (t != 0) = true := by simpa using ht
    have ht'' : (t == 0) = false := by simpa using ht
    clear ht
    obtain rfl : r = false := by rw [hr]; simp [exB, ht']
    clear hr
    go_enter Tryd.func65, Tryd.ntmps65
    go_wp2
    go_ret
    exact ⟨rfl, rfl⟩

set_option maxRecDepth 100000 in
set_option maxHeartbeats 1600000 in
theorem need_1100 (b : Nat) (te k h t i v : Int) (fo r : Bool) (w : World) (hB : Blk w b [.int .i64 te, .int .i64 k, .int .i64 h, .int .i64 t, .int .i64 i, .int .i64 v, .bool fo]) (hr : r = !(exB true true false false h t i v)) :
    Calls Tryd.prog 65 #[.pointer (some ⟨b, 0, none⟩), .bool true, .bool true, .bool false, .bool false] w fun e w' => e = .returned (.bool r) ∧ w = w' := by
  have c2 := hB.at 2 rfl; have c3 := hB.at 3 rfl; have c4 := hB.at 4 rfl; have c5 := hB.at 5 rfl; have lB := hB.1
  clear hB
  by_cases hi : i = 0
  · subst hi
    by_cases hv : v = 0
    · subst hv
      obtain rfl : r = true := by rw [hr]; simp [exB]
      clear hr
      go_enter Tryd.func65, Tryd.ntmps65
      go_wp2
      go_ret
      exact ⟨rfl, rfl⟩
    · have hv' : (v != 0) = true := by simpa using hv
      have hv'' : (v == 0) = false := by simpa using hv
      clear hv
      obtain rfl : r = false := by rw [hr]; simp [exB, hv']
      clear hr
      go_enter Tryd.func65, Tryd.ntmps65
      go_wp2
      go_ret
      exact ⟨rfl, rfl⟩
  · have hi' : (i != 0) = true := by simpa using hi
    have hi'' : (i == 0) = false := by simpa using hi
    clear hi
    obtain rfl : r = false := by rw [hr]; simp [exB, hi']
    clear hr
    go_enter Tryd.func65, Tryd.ntmps65
    go_wp2
    go_ret
    exact ⟨rfl, rfl⟩

set_option maxRecDepth 100000 in
set_option maxHeartbeats 1600000 in
theorem need_1110 (b : Nat) (te k h t i v : Int) (fo r : Bool) (w : World) (hB : Blk w b [.int .i64 te, .int .i64 k, .int .i64 h, .int .i64 t, .int .i64 i, .int .i64 v, .bool fo]) (hr : r = !(exB true true true false h t i v)) :
    Calls Tryd.prog 65 #[.pointer (some ⟨b, 0, none⟩), .bool true, .bool true, .bool true, .bool false] w fun e w' => e = .returned (.bool r) ∧ w = w' := by
  have c2 := hB.at 2 rfl; have c3 := hB.at 3 rfl; have c4 := hB.at 4 rfl; have c5 := hB.at 5 rfl; have lB := hB.1
  clear hB
  by_cases hv : v = 0
  · subst hv
    obtain rfl : r = true := by rw [hr]; simp [exB]
    clear hr
    go_enter Tryd.func65, Tryd.ntmps65
    go_wp2
    go_ret
    exact ⟨rfl, rfl⟩
  · have hv' : (v != 0) = true := by simpa using hv
    have hv'' : (v == 0) = false := by simpa using hv
    clear hv
    obtain rfl : r = false := by rw [hr]; simp [exB, hv']
    clear hr
    go_enter Tryd.func65, Tryd.ntmps65
    go_wp2
    go_ret
    exact ⟨rfl, rfl⟩

set_option maxRecDepth 100000 in
set_option maxHeartbeats 1600000 in
theorem form_1 (b : Nat) (te h t i v : Int) (fo r : Bool) (w : World) (hB : Blk w b [.int .i64 te, .int .i64 1, .int .i64 h, .int .i64 t, .int .i64 i, .int .i64 v, .bool fo]) (hr : r = !(exK 1 h t i v)) :
    Calls Tryd.prog 48 #[.pointer (some ⟨b, 0, none⟩)] w fun e w' => e = .returned (.bool r) ∧ w = w' := by
  have HB := Lib.hid hB; have HR : Hid (r = !(exB false false true true h t i v)) := Lib.hid hr
  have c1 := hB.at 1 rfl; have lB := hB.1
  clear hB hr
  go_enter Tryd.func48, Tryd.ntmps48
  go_wp2_with fail
  refine (need_0011 b te 1 h t i v fo r _ HB.out HR.out).mono ?_
  rintro e w' ⟨rfl, rfl⟩
  go_wp2
  go_ret
  exact ⟨rfl, rfl⟩

set_option maxRecDepth 100000 in
set_option maxHeartbeats 1600000 in
theorem form_2 (b : Nat) (te h t i v : Int) (fo r : Bool) (w : World) (hB : Blk w b [.int .i64 te, .int .i64 2, .int .i64 h, .int .i64 t, .int .i64 i, .int .i64 v, .bool fo]) (hr : r = !(exK 2 h t i v)) :
    Calls Tryd.prog 48 #[.pointer (some ⟨b, 0, none⟩)] w fun e w' => e = .returned (.bool r) ∧ w = w' := by
  have HB := Lib.hid hB; have HR : Hid (r = !(exB true false false false h t i v)) := Lib.hid hr
  have c1 := hB.at 1 rfl; have lB := hB.1
  clear hB hr
  go_enter Tryd.func48, Tryd.ntmps48
  go_wp2_with fail
  refine (need_1000 b te 2 h t i v fo r _ HB.out HR.out).mono ?_
  rintro e w' ⟨rfl, rfl⟩
  go_wp2
  go_ret
  exact ⟨rfl, rfl⟩

set_option maxRecDepth 100000 in
set_option maxHeartbeats 1600000 in
theorem form_3 (b : Nat) (te h t i v : Int) (fo r : Bool) (w : World) (hB : Blk w b [.int .i64 te, .int .i64 3, .int .i64 h, .int .i64 t, .int .i64 i, .int .i64 v, .bool fo]) (hr : r = !(exK 3 h t i v)) :
    Calls Tryd.prog 48 #[.pointer (some ⟨b, 0, none⟩)] w fun e w' => e = .returned (.bool r) ∧ w = w' := by
  have HB := Lib.hid hB; have HR : Hid (r = !(exB true false false false h t i v)) := Lib.hid hr
  have c1 := hB.at 1 rfl; have lB := hB.1
  clear hB hr
  go_enter Tryd.func48, Tryd.ntmps48
  go_wp2_with fail
  refine (need_1000 b te 3 h t i v fo r _ HB.out HR.out).mono ?_
  rintro e w' ⟨rfl, rfl⟩
  go_wp2
  go_ret
  exact ⟨rfl, rfl⟩

set_option maxRecDepth 100000 in
set_option maxHeartbeats 1600000 in
theorem form_4 (b : Nat) (te h t i v : Int) (fo r : Bool) (w : World) (hB : Blk w b [.int .i64 te, .int .i64 4, .int .i64 h, .int .i64 t, .int .i64 i, .int .i64 v, .bool fo]) (hr : r = !(exK 4 h t i v)) :
    Calls Tryd.prog 48 #[.pointer (some ⟨b, 0, none⟩)] w fun e w' => e = .returned (.bool r) ∧ w = w' := by
  have HB := Lib.hid hB; have HR : Hid (r = !(exB true false true false h t i v)) := Lib.hid hr
  have c1 := hB.at 1 rfl; have lB := hB.1
  clear hB hr
  go_enter Tryd.func48, Tryd.ntmps48
  go_wp2_with fail
  refine (need_1010 b te 4 h t i v fo r _ HB.out HR.out).mono ?_
  rintro e w' ⟨rfl, rfl⟩
  go_wp2
  go_ret
  exact ⟨rfl, rfl⟩

set_option maxRecDepth 100000 in
set_option maxHeartbeats 1600000 in
theorem form_5 (b : Nat) (te h t i v : Int) (fo r : Bool) (w : World) (hB : Blk w b [.int .i64 te, .int .i64 5, .int .i64 h, .int .i64 t, .int .i64 i, .int .i64 v, .bool fo]) (hr : r = !(exK 5 h t i v)) :
    Calls Tryd.prog 48 #[.pointer (some ⟨b, 0, none⟩)] w fun e w' => e = .returned (.bool r) ∧ w = w' := by
  have HB := Lib.hid hB; have HR : Hid (r = !(exB true false true true h t i v)) := Lib.hid hr
  have c1 := hB.at 1 rfl; have lB := hB.1
  clear hB hr
  go_enter Tryd.func48, Tryd.ntmps48
  go_wp2_with fail
  refine (need_1011 b te 5 h t i v fo r _ HB.out HR.out).mono ?_
  rintro e w' ⟨rfl, rfl⟩
  go_wp2
  go_ret
  exact ⟨rfl, rfl⟩

set_option maxRecDepth 100000 in
set_option maxHeartbeats 1600000 in
theorem form_6 (b : Nat) (te h t i v : Int) (fo r : Bool) (w : World) (hB : Blk w b [.int .i64 te, .int .i64 6, .int .i64 h, .int .i64 t, .int .i64 i, .int .i64 v, .bool fo]) (hr : r = !(exK 6 h t i v)) :
    Calls Tryd.prog 48 #[.pointer (some ⟨b, 0, none⟩)] w fun e w' => e = .returned (.bool r) ∧ w = w' := by
  have HB := Lib.hid hB; have HR : Hid (r = !(exB true false true false h t i v)) := Lib.hid hr
  have c1 := hB.at 1 rfl; have lB := hB.1
  clear hB hr
  go_enter Tryd.func48, Tryd.ntmps48
  go_wp2_with fail
  refine (need_1010 b te 6 h t i v fo r _ HB.out HR.out).mono ?_
  rintro e w' ⟨rfl, rfl⟩
  go_wp2
  go_ret
  exact ⟨rfl, rfl⟩

set_option maxRecDepth 100000 in
set_option maxHeartbeats 1600000 in
theorem form_7 (b : Nat) (te h t i v : Int) (fo r : Bool) (w : World) (hB : Blk w b [.int .i64 te, .int .i64 7, .int .i64 h, .int .i64 t, .int .i64 i, .int .i64 v, .bool fo]) (hr : r = !(exK 7 h t i v)) :
    Calls Tryd.prog 48 #[.pointer (some ⟨b, 0, none⟩)] w fun e w' => e = .returned (.bool r) ∧ w = w' := by
  have HB := Lib.hid hB; have HR : Hid (r = !(exB true true true false h t i v)) := Lib.hid hr
  have c1 := hB.at 1 rfl; have lB := hB.1
  clear hB hr
  go_enter Tryd.func48, Tryd.ntmps48
  go_wp2_with fail
  refine (need_1110 b te 7 h t i v fo r _ HB.out HR.out).mono ?_
  rintro e w' ⟨rfl, rfl⟩
  go_wp2
  go_ret
  exact ⟨rfl, rfl⟩

set_option maxRecDepth 100000 in
set_option maxHeartbeats 1600000 in
theorem form_8 (b : Nat) (te h t i v : Int) (fo r : Bool) (w : World) (hB : Blk w b [.int .i64 te, .int .i64 8, .int .i64 h, .int .i64 t, .int .i64 i, .int .i64 v, .bool fo]) (hr : r = !(exK 8 h t i v)) :
    Calls Tryd.prog 48 #[.pointer (some ⟨b, 0, none⟩)] w fun e w' => e = .returned (.bool r) ∧ w = w' := by
  have HB := Lib.hid hB; have HR : Hid (r = !(exB true true false false h t i v)) := Lib.hid hr
  have c1 := hB.at 1 rfl; have lB := hB.1
  clear hB hr
  go_enter Tryd.func48, Tryd.ntmps48
  go_wp2_with fail
  refine (need_1100 b te 8 h t i v fo r _ HB.out HR.out).mono ?_
  rintro e w' ⟨rfl, rfl⟩
  go_wp2
  go_ret
  exact ⟨rfl, rfl⟩

set_option maxRecDepth 100000 in
set_option maxHeartbeats 1600000 in
theorem form_9 (b : Nat) (te h t i v : Int) (fo r : Bool) (w : World) (hB : Blk w b [.int .i64 te, .int .i64 9, .int .i64 h, .int .i64 t, .int .i64 i, .int .i64 v, .bool fo]) (hr : r = !(exK 9 h t i v)) :
    Calls Tryd.prog 48 #[.pointer (some ⟨b, 0, none⟩)] w fun e w' => e = .returned (.bool r) ∧ w = w' := by
  have HB := Lib.hid hB; have HR : Hid (r = !(exB true false false false h t i v)) := Lib.hid hr
  have c1 := hB.at 1 rfl; have lB := hB.1
  clear hB hr
  go_enter Tryd.func48, Tryd.ntmps48
  go_wp2_with fail
  refine (need_1000 b te 9 h t i v fo r _ HB.out HR.out).mono ?_
  rintro e w' ⟨rfl, rfl⟩
  go_wp2
  go_ret
  exact ⟨rfl, rfl⟩

set_option maxRecDepth 100000 in
set_option maxHeartbeats 1600000 in
theorem form_10 (b : Nat) (te h t i v : Int) (fo r : Bool) (w : World) (hB : Blk w b [.int .i64 te, .int .i64 10, .int .i64 h, .int .i64 t, .int .i64 i, .int .i64 v, .bool fo]) (hr : r = !(exK 10 h t i v)) :
    Calls Tryd.prog 48 #[.pointer (some ⟨b, 0, none⟩)] w fun e w' => e = .returned (.bool r) ∧ w = w' := by
  have HB := Lib.hid hB; have HR : Hid (r = !(exB true false false false h t i v)) := Lib.hid hr
  have c1 := hB.at 1 rfl; have lB := hB.1
  clear hB hr
  go_enter Tryd.func48, Tryd.ntmps48
  go_wp2_with fail
  refine (need_1000 b te 10 h t i v fo r _ HB.out HR.out).mono ?_
  rintro e w' ⟨rfl, rfl⟩
  go_wp2
  go_ret
  exact ⟨rfl, rfl⟩

set_option maxRecDepth 100000 in
set_option maxHeartbeats 1600000 in
theorem form_11 (b : Nat) (te h t i v : Int) (fo r : Bool) (w : World) (hB : Blk w b [.int .i64 te, .int .i64 11, .int .i64 h, .int .i64 t, .int .i64 i, .int .i64 v, .bool fo]) (hr : r = !(exK 11 h t i v)) :
    Calls Tryd.prog 48 #[.pointer (some ⟨b, 0, none⟩)] w fun e w' => e = .returned (.bool r) ∧ w = w' := by
  have HB := Lib.hid hB; have HR : Hid (r = !(exB false false false false h t i v)) := Lib.hid hr
  have c1 := hB.at 1 rfl; have lB := hB.1
  clear hB hr
  go_enter Tryd.func48, Tryd.ntmps48
  go_wp2_with fail
  refine (need_0000 b te 11 h t i v fo r _ HB.out HR.out).mono ?_
  rintro e w' ⟨rfl, rfl⟩
  go_wp2
  go_ret
  exact ⟨rfl, rfl⟩

set_option maxRecDepth 100000 in
set_option maxHeartbeats 1600000 in
theorem form_no (b : Nat) (te k h t i v : Int) (fo : Bool) (w : World) (hB : Blk w b [.int .i64 te, .int .i64 k, .int .i64 h, .int .i64 t, .int .i64 i, .int .i64 v, .bool fo]) (hk : ¬ (1 ≤ k ∧ k ≤ 11)) :
    Calls Tryd.prog 48 #[.pointer (some ⟨b, 0, none⟩)] w fun e w' => e = .returned (.bool false) ∧ w = w' := by
  have c1 := hB.at 1 rfl; have lB := hB.1
  have k1 : (k == 1) = false := by simp; omega
  have k2 : (k == 2) = false := by simp; omega
  have k3 : (k == 3) = false := by simp; omega
  have k4 : (k == 4) = false := by simp; omega
  have k5 : (k == 5) = false := by simp; omega
  have k6 : (k == 6) = false := by simp; omega
  have k7 : (k == 7) = false := by simp; omega
  have k8 : (k == 8) = false := by simp; omega
  have k9 : (k == 9) = false := by simp; omega
  have k10 : (k == 10) = false := by simp; omega
  have k11 : (k == 11) = false := by simp; omega
  clear hB hk
  go_enter Tryd.func48, Tryd.ntmps48
  go_wp2
  go_ret
  exact ⟨rfl, rfl⟩

theorem form_any (b : Nat) (te k h t i v : Int) (fo r : Bool) (w : World) (hB : Blk w b [.int .i64 te, .int .i64 k, .int .i64 h, .int .i64 t, .int .i64 i, .int .i64 v, .bool fo]) (hk : 1 ≤ k ∧ k ≤ 11) (hr : r = !(exK k h t i v)) :
    Calls Tryd.prog 48 #[.pointer (some ⟨b, 0, none⟩)] w fun e w' => e = .returned (.bool r) ∧ w = w' := by
  rcases kinds hk with rfl | rfl | rfl | rfl | rfl | rfl | rfl | rfl | rfl | rfl | rfl
  · exact form_1 b te h t i v fo r w hB hr
  · exact form_2 b te h t i v fo r w hB hr
  · exact form_3 b te h t i v fo r w hB hr
  · exact form_4 b te h t i v fo r w hB hr
  · exact form_5 b te h t i v fo r w hB hr
  · exact form_6 b te h t i v fo r w hB hr
  · exact form_7 b te h t i v fo r w hB hr
  · exact form_8 b te h t i v fo r w hB hr
  · exact form_9 b te h t i v fo r w hB hr
  · exact form_10 b te h t i v fo r w hB hr
  · exact form_11 b te h t i v fo r w hB hr
end Go.Proofs.YtkeeoelbnmacdaaDoor

namespace Go.Proofs.YtkeeoelbnmacdaaDoor
open Go.RowKit
set_option linter.unusedVariables false

set_option maxRecDepth 100000 in
set_option maxHeartbeats 1600000 in
theorem specOF_any (te k h t i v : Int) (fo : Bool) (c : Int) (w : World) (hk : IsOF k h t i v c) :
    Calls Tryd.prog 30 #[.agg #[.int .i64 te, .int .i64 k, .int .i64 h, .int .i64 t, .int .i64 i, .int .i64 v, .bool fo]] w (RetInt w c) := by
  have HK := Lib.hid hk
  have HB0 := Lib.hid ((Below.refl w.heap.size w).alloc (Nat.le_refl _) (.cells #[.int .i64 te, .int .i64 k, .int .i64 h, .int .i64 t, .int .i64 i, .int .i64 v, .bool fo] 38))
  have A_0 := Lib.hid (Blk.new_at (w := w) (cs := #[.int .i64 te, .int .i64 k, .int .i64 h, .int .i64 t, .int .i64 i, .int .i64 v, .bool fo]) (t := 38) w.heap.size rfl)
  have HBq : Hid (∀ m, Below w.heap.size w ((w.alloc (.cells #[.int .i64 te, .int .i64 k, .int .i64 h, .int .i64 t, .int .i64 i, .int .i64 v, .bool fo] 38)).drewN m)) := Lib.hid fun m => below_drewN HB0.out m
  clear hk
  by_cases h1 : 1 ≤ k ∧ k ≤ 11
  · have H1 := Lib.hid h1
    obtain ⟨r, hr⟩ : ∃ r, r = !(exK k h t i v) := ⟨_, rfl⟩
    have HR := Lib.hid hr
    clear h1 hr
    cases r with
    | false =>
      obtain rfl : c = 1 := by
        rcases HK.out with h | h
        · exact h.2
        · have h3 := h.1.2; have h2 := HR.out; rw [h3] at h2; cases h2
      go_enter Tryd.func30, Tryd.ntmps30
      go_wp2_with fail
      refine (form_any w.heap.size te k h t i v fo false _ A_0.out H1.out HR.out).mono ?_
      rintro e w' ⟨rfl, rfl⟩
      go_wp2
      go_ret
      exact ⟨rfl, HB0.out⟩
    | true =>
      have hF : FormP k h t i v := ⟨H1.out, by have h2 := HR.out; cases hx : exK k h t i v with | false => rfl | true => rw [hx] at h2; cases h2⟩
      have hrest : (k = 1 ∧ IsHF i v 0 0 c) ∨ (¬ k = 1 ∧ ((((0 ≤ i ∧ i ≤ 11) ∧ Word v) ∧ c = 0) ∨ (¬ ((0 ≤ i ∧ i ≤ 11) ∧ Word v) ∧ c = 3))) := by
        rcases HK.out with h | h
        · exact absurd hF h.1
        · exact h.2
      clear hF HK
      rcases hrest with ⟨rfl, hHF⟩ | ⟨hne, hrest⟩
      · by_cases hi : 0 ≤ i ∧ i ≤ 12
        · obtain ⟨I, rfl⟩ : ∃ I : Nat, i = I := ⟨i.toNat, by omega⟩
          have hI : I ≤ 12 := by omega
          have p1 := P2_pos (I : Int)
          have p2 := P2_le (s := (I : Int)) (by omega)
          have hwr : IntKind.i64.wrap (P2 (I : Int) - 1) = P2 I - 1 := IntWalk.i64_in _ (by omega)
          by_cases hv : 0 ≤ v ∧ v ≤ P2 (I : Int) - 1
          · obtain rfl : c = 0 := by
              rcases hHF with h | h
              · exact h.2
              · exact absurd ⟨hi, hv, ⟨by omega, by omega⟩, ⟨by omega, by omega⟩⟩ h.1
            have HHI := Lib.hid hi; have HHV := Lib.hid hv
            clear hHF hi hv
            go_enter Tryd.func30, Tryd.ntmps30
            go_wp2_with fail
            refine (form_any w.heap.size te 1 h t (I : Int) v fo true _ A_0.out H1.out HR.out).mono ?_
            rintro e w' ⟨rfl, rfl⟩
            go_wp2_with fail
            go_quiet (first | (with_reducible exact Calls.quiet_of_same (Calls.mono (l1In_yes (I : Int) 0 12 _ HHI.out.1 HHI.out.2) fun _ _ hh => ⟨hh.1, hh.2.symm⟩)) | (with_reducible exact Calls.quiet_of_same (Calls.mono (l1In_yes v 0 (P2 (I : Int) - 1) _ HHV.out.1 HHV.out.2) fun _ _ hh => ⟨hh.1, hh.2.symm⟩)) | (with_reducible exact Calls.quiet_of_same (Calls.mono (power_any I _ hI) fun _ _ hh => ⟨hh.1, hh.2.symm⟩)))
            go_wp2
            go_ret
            exact ⟨rfl, HBq.out _⟩
          · obtain rfl : c = 3 := by
              rcases hHF with h | h
              · exact absurd h.1.2.1 hv
              · exact h.2
            have HHI := Lib.hid hi; have HHV := Lib.hid hv
            clear hHF hi hv
            go_enter Tryd.func30, Tryd.ntmps30
            go_wp2_with fail
            refine (form_any w.heap.size te 1 h t (I : Int) v fo true _ A_0.out H1.out HR.out).mono ?_
            rintro e w' ⟨rfl, rfl⟩
            go_wp2_with fail
            go_quiet (first | (with_reducible exact Calls.quiet_of_same (Calls.mono (l1In_yes (I : Int) 0 12 _ HHI.out.1 HHI.out.2) fun _ _ hh => ⟨hh.1, hh.2.symm⟩)) | (with_reducible exact Calls.quiet_of_same (Calls.mono (l1In_no v 0 (P2 (I : Int) - 1) _ HHV.out) fun _ _ hh => ⟨hh.1, hh.2.symm⟩)) | (with_reducible exact Calls.quiet_of_same (Calls.mono (power_any I _ hI) fun _ _ hh => ⟨hh.1, hh.2.symm⟩)))
            go_wp2
            go_ret
            exact ⟨rfl, HBq.out _⟩
        · obtain rfl : c = 3 := by
            rcases hHF with h | h
            · exact absurd h.1.1 hi
            · exact h.2
          have HHI := Lib.hid hi
          clear hHF hi
          go_enter Tryd.func30, Tryd.ntmps30
          go_wp2_with fail
          refine (form_any w.heap.size te 1 h t i v fo true _ A_0.out H1.out HR.out).mono ?_
          rintro e w' ⟨rfl, rfl⟩
          go_wp2_with fail
          go_quiet (with_reducible exact Calls.quiet_of_same (Calls.mono (l1In_no i 0 12 _ HHI.out) fun _ _ hh => ⟨hh.1, hh.2.symm⟩))
          go_wp2
          go_ret
          exact ⟨rfl, HBq.out _⟩
      · have hk1 : (k == 1) = false := by simpa using hne
        by_cases hi : 0 ≤ i ∧ i ≤ 11
        · by_cases hv : Word v
          · obtain rfl : c = 0 := by
              rcases hrest with h | h
              · exact h.2
              · exact absurd ⟨hi, hv⟩ h.1
            have HHI := Lib.hid hi; have HHV := Lib.hid hv
            clear hrest hne hi hv
            go_enter Tryd.func30, Tryd.ntmps30
            go_wp2_with fail
            refine (form_any w.heap.size te k h t i v fo true _ A_0.out H1.out HR.out).mono ?_
            rintro e w' ⟨rfl, rfl⟩
            go_wp2_with fail
            refine (l1In_yes i 0 11 _ HHI.out.1 HHI.out.2).mono ?_
            rintro e w' ⟨rfl, rfl⟩
            go_wp2_with fail
            refine (l1Value_yes v _ HHV.out).mono ?_
            rintro e w' ⟨rfl, rfl⟩
            go_wp2
            go_ret
            exact ⟨rfl, HB0.out⟩
          · obtain rfl : c = 3 := by
              rcases hrest with h | h
              · exact absurd h.1.2 hv
              · exact h.2
            have HHI := Lib.hid hi; have HHV := Lib.hid hv
            clear hrest hne hi hv
            go_enter Tryd.func30, Tryd.ntmps30
            go_wp2_with fail
            refine (form_any w.heap.size te k h t i v fo true _ A_0.out H1.out HR.out).mono ?_
            rintro e w' ⟨rfl, rfl⟩
            go_wp2_with fail
            refine (l1In_yes i 0 11 _ HHI.out.1 HHI.out.2).mono ?_
            rintro e w' ⟨rfl, rfl⟩
            go_wp2_with fail
            refine (l1Value_no v _ HHV.out).mono ?_
            rintro e w' ⟨rfl, rfl⟩
            go_wp2
            go_ret
            exact ⟨rfl, HB0.out⟩
        · obtain rfl : c = 3 := by
            rcases hrest with h | h
            · exact absurd h.1.1 hi
            · exact h.2
          have HHI := Lib.hid hi
          clear hrest hne hi
          go_enter Tryd.func30, Tryd.ntmps30
          go_wp2_with fail
          refine (form_any w.heap.size te k h t i v fo true _ A_0.out H1.out HR.out).mono ?_
          rintro e w' ⟨rfl, rfl⟩
          go_wp2_with fail
          refine (l1In_no i 0 11 _ HHI.out).mono ?_
          rintro e w' ⟨rfl, rfl⟩
          go_wp2
          go_ret
          exact ⟨rfl, HB0.out⟩
  · obtain rfl : c = 1 := by
      rcases HK.out with h | h
      · exact h.2
      · exact absurd h.1.1 h1
    have H1 := Lib.hid h1
    clear h1 HK
    go_enter Tryd.func30, Tryd.ntmps30
    go_wp2_with fail
    refine (form_no w.heap.size te k h t i v fo _ A_0.out H1.out).mono ?_
    rintro e w' ⟨rfl, rfl⟩
    go_wp2
    go_ret
    exact ⟨rfl, HB0.out⟩
end Go.Proofs.YtkeeoelbnmacdaaDoor

namespace Go.Proofs.YtkeeoelbnmacdaaDoor
open Go.RowKit
set_option linter.unusedVariables false

set_option maxRecDepth 100000 in
set_option maxHeartbeats 1600000 in
theorem exc_0000 (te k h t i v : Int) (fo r : Bool) (w : World) (hr : r = exB false false false false h t i v) :
    Calls Tryd.prog 52 #[.agg #[.bool false, .bool false, .bool false, .bool false], .agg #[.int .i64 te, .int .i64 k, .int .i64 h, .int .i64 t, .int .i64 i, .int .i64 v, .bool fo]] w (RetBool w r) := by
  by_cases hh : h = 0
  · subst hh
    by_cases ht : t = 0
    · subst ht
      by_cases hi : i = 0
      · subst hi
        by_cases hv : v = 0
        · subst hv
          obtain rfl : r = false := by rw [hr]; simp [exB]
          clear hr
          go_enter Tryd.func52, Tryd.ntmps52
          go_wp2
          go_ret
          exact ⟨rfl, ((Below.refl _ _).alloc (Nat.le_refl _) _).alloc (by simp) _⟩
        · have hv' : (v != 0) = true := by simpa using hv
          have hv'' : (v == 0) = false := by simpa using hv
          clear hv
          obtain rfl : r = true := by rw [hr]; simp [exB, hv']
          clear hr
          go_enter Tryd.func52, Tryd.ntmps52
          go_wp2
          go_ret
          exact ⟨rfl, ((Below.refl _ _).alloc (Nat.le_refl _) _).alloc (by simp) _⟩
      · have hi' : (i != 0) = true := by simpa using hi
        have hi'' : (i == 0) = false := by simpa using hi
        clear hi
        obtain rfl : r = true := by rw [hr]; simp [exB, hi']
        clear hr
        go_enter Tryd.func52, Tryd.ntmps52
        go_wp2
        go_ret
        exact ⟨rfl, ((Below.refl _ _).alloc (Nat.le_refl _) _).alloc (by simp) _⟩
    · have ht' : (t != 0) = true := by simpa using ht
      have ht'' : (t == 0) = false := by simpa using ht
      clear ht
      obtain rfl : r = true := by rw [hr]; simp [exB, ht']
      clear hr
      go_enter Tryd.func52, Tryd.ntmps52
      go_wp2
      go_ret
      exact ⟨rfl, ((Below.refl _ _).alloc (Nat.le_refl _) _).alloc (by simp) _⟩
  · have hh' : (h != 0) = true := by simpa using hh
    have hh'' : (h == 0) = false := by simpa using hh
    clear hh
    obtain rfl : r = true := by rw [hr]; simp [exB, hh']
    clear hr
    go_enter Tryd.func52, Tryd.ntmps52
    go_wp2
    go_ret
    exact ⟨rfl, ((Below.refl _ _).alloc (Nat.le_refl _) _).alloc (by simp) _⟩

set_option maxRecDepth 100000 in
set_option maxHeartbeats 1600000 in
theorem exc_0011 (te k h t i v : Int) (fo r : Bool) (w : World) (hr : r = exB false false true true h t i v) :
    Calls Tryd.prog 52 #[.agg #[.bool false, .bool false, .bool true, .bool true], .agg #[.int .i64 te, .int .i64 k, .int .i64 h, .int .i64 t, .int .i64 i, .int .i64 v, .bool fo]] w (RetBool w r) := by
  by_cases hh : h = 0
  · subst hh
    by_cases ht : t = 0
    · subst ht
      obtain rfl : r = false := by rw [hr]; simp [exB]
      clear hr
      go_enter Tryd.func52, Tryd.ntmps52
      go_wp2
      go_ret
      exact ⟨rfl, ((Below.refl _ _).alloc (Nat.le_refl _) _).alloc (by simp) _⟩
    · have ht' : (t != 0) = true := by simpa using ht
      have ht'' : (t == 0) = false := by simpa using ht
      clear ht
      obtain rfl : r = true := by rw [hr]; simp [exB, ht']
      clear hr
      go_enter Tryd.func52, Tryd.ntmps52
      go_wp2
      go_ret
      exact ⟨rfl, ((Below.refl _ _).alloc (Nat.le_refl _) _).alloc (by simp) _⟩
  · have hh' : (h != 0) = true := by simpa using hh
    have hh'' : (h == 0) = false := by simpa using hh
    clear hh
    obtain rfl : r = true := by rw [hr]; simp [exB, hh']
    clear hr
    go_enter Tryd.func52, Tryd.ntmps52
    go_wp2
    go_ret
    exact ⟨rfl, ((Below.refl _ _).alloc (Nat.le_refl _) _).alloc (by simp) _⟩

set_option maxRecDepth 100000 in
set_option maxHeartbeats 1600000 in
theorem exc_1000 (te k h t i v : Int) (fo r : Bool) (w : World) (hr : r = exB true false false false h t i v) :
    Calls Tryd.prog 52 #[.agg #[.bool true, .bool false, .bool false, .bool false], .agg #[.int .i64 te, .int .i64 k, .int .i64 h, .int .i64 t, .int .i64 i, .int .i64 v, .bool fo]] w (RetBool w r) := by
  by_cases ht : t = 0
  · subst ht
    by_cases hi : i = 0
    · subst hi
      by_cases hv : v = 0
      · subst hv
        obtain rfl : r = false := by rw [hr]; simp [exB]
        clear hr
        go_enter Tryd.func52, Tryd.ntmps52
        go_wp2
        go_ret
        exact ⟨rfl, ((Below.refl _ _).alloc (Nat.le_refl _) _).alloc (by simp) _⟩
      · have hv' : (v != 0) = true := by simpa using hv
        have hv'' : (v == 0) = false := by simpa using hv
        clear hv
        obtain rfl : r = true := by rw [hr]; simp [exB, hv']
        clear hr
        go_enter Tryd.func52, Tryd.ntmps52
        go_wp2
        go_ret
        exact ⟨rfl, ((Below.refl _ _).alloc (Nat.le_refl _) _).alloc (by simp) _⟩
    · have hi' : (i != 0) = true := by simpa using hi
      have hi'' : (i == 0) = false := by simpa using hi
      clear hi
      obtain rfl : r = true := by rw [hr]; simp [exB, hi']
      clear hr
      go_enter Tryd.func52, Tryd.ntmps52
      go_wp2
      go_ret
      exact ⟨rfl, ((Below.refl _ _).alloc (Nat.le_refl _) _).alloc (by simp) _⟩
  · have ht' : (t != 0) = true := by simpa using ht
    have ht'' : (t == 0) = false := by simpa using ht
    clear ht
    obtain rfl : r = true := by rw [hr]; simp [exB, ht']
    clear hr
    go_enter Tryd.func52, Tryd.ntmps52
    go_wp2
    go_ret
    exact ⟨rfl, ((Below.refl _ _).alloc (Nat.le_refl _) _).alloc (by simp) _⟩

set_option maxRecDepth 100000 in
set_option maxHeartbeats 1600000 in
theorem exc_1010 (te k h t i v : Int) (fo r : Bool) (w : World) (hr : r = exB true false true false h t i v) :
    Calls Tryd.prog 52 #[.agg #[.bool true, .bool false, .bool true, .bool false], .agg #[.int .i64 te, .int .i64 k, .int .i64 h, .int .i64 t, .int .i64 i, .int .i64 v, .bool fo]] w (RetBool w r) := by
  by_cases ht : t = 0
  · subst ht
    by_cases hv : v = 0
    · subst hv
      obtain rfl : r = false := by rw [hr]; simp [exB]
      clear hr
      go_enter Tryd.func52, Tryd.ntmps52
      go_wp2
      go_ret
      exact ⟨rfl, ((Below.refl _ _).alloc (Nat.le_refl _) _).alloc (by simp) _⟩
    · have hv' : (v != 0) = true := by simpa using hv
      have hv'' : (v == 0) = false := by simpa using hv
      clear hv
      obtain rfl : r = true := by rw [hr]; simp [exB, hv']
      clear hr
      go_enter Tryd.func52, Tryd.ntmps52
      go_wp2
      go_ret
      exact ⟨rfl, ((Below.refl _ _).alloc (Nat.le_refl _) _).alloc (by simp) _⟩
  · have ht' : (t != 0) = true := by simpa using ht
    have ht'' : (t == 0) = false := by simpa using ht
    clear ht
    obtain rfl : r = true := by rw [hr]; simp [exB, ht']
    clear hr
    go_enter Tryd.func52, Tryd.ntmps52
    go_wp2
    go_ret
    exact ⟨rfl, ((Below.refl _ _).alloc (Nat.le_refl _) _).alloc (by simp) _⟩

set_option maxRecDepth 100000 in
set_option maxHeartbeats 1600000 in
theorem exc_1011 (te k h t i v : Int) (fo r : Bool) (w : World) (hr : r = exB true false true true h t i v) :
    Calls Tryd.prog 52 #[.agg #[.bool true, .bool false, .bool true, .bool true], .agg #[.int .i64 te, .int .i64 k, .int .i64 h, .int .i64 t, .int .i64 i, .int .i64 v, .bool fo]] w (RetBool w r) := by
  by_cases ht : t = 0
  · subst ht
    obtain rfl : r = false := by rw [hr]; simp [exB]
    clear hr
    go_enter Tryd.func52, Tryd.ntmps52
    go_wp2
    go_ret
    exact ⟨rfl, ((Below.refl _ _).alloc (Nat.le_refl _) _).alloc (by simp) _⟩
  · have ht' : (t != 0) = true := by simpa using ht
    have ht'' : (t == 0) = false := by simpa using ht
    clear ht
    obtain rfl : r = true := by rw [hr]; simp [exB, ht']
    clear hr
    go_enter Tryd.func52, Tryd.ntmps52
    go_wp2
    go_ret
    exact ⟨rfl, ((Below.refl _ _).alloc (Nat.le_refl _) _).alloc (by simp) _⟩

set_option maxRecDepth 100000 in
set_option maxHeartbeats 1600000 in
theorem exc_1100 (te k h t i v : Int) (fo r : Bool) (w : World) (hr : r = exB true true false false h t i v) :
    Calls Tryd.prog 52 #[.agg #[.bool true, .bool true, .bool false, .bool false], .agg #[.int .i64 te, .int .i64 k, .int .i64 h, .int .i64 t, .int .i64 i, .int .i64 v, .bool fo]] w (RetBool w r) := by
  by_cases hi : i = 0
  · subst hi
    by_cases hv : v = 0
    · subst hv
      obtain rfl : r = false := by rw [hr]; simp [exB]
      clear hr
      go_enter Tryd.func52, Tryd.ntmps52
      go_wp2
      go_ret
      exact ⟨rfl, ((Below.refl _ _).alloc (Nat.le_refl _) _).alloc (by simp) _⟩
    · have hv' : (v != 0) = true := by simpa using hv
      have hv'' : (v == 0) = false := by simpa using hv
      clear hv
      obtain rfl : r = true := by rw [hr]; simp [exB, hv']
      clear hr
      go_enter Tryd.func52, Tryd.ntmps52
      go_wp2
      go_ret
      exact ⟨rfl, ((Below.refl _ _).alloc (Nat.le_refl _) _).alloc (by simp) _⟩
  · have hi' : (i != 0) = true := by simpa using hi
    have hi'' : (i == 0) = false := by simpa using hi
    clear hi
    obtain rfl : r = true := by rw [hr]; simp [exB, hi']
    clear hr
    go_enter Tryd.func52, Tryd.ntmps52
    go_wp2
    go_ret
    exact ⟨rfl, ((Below.refl _ _).alloc (Nat.le_refl _) _).alloc (by simp) _⟩

set_option maxRecDepth 100000 in
set_option maxHeartbeats 1600000 in
theorem exc_1110 (te k h t i v : Int) (fo r : Bool) (w : World) (hr : r = exB true true true false h t i v) :
    Calls Tryd.prog 52 #[.agg #[.bool true, .bool true, .bool true, .bool false], .agg #[.int .i64 te, .int .i64 k, .int .i64 h, .int .i64 t, .int .i64 i, .int .i64 v, .bool fo]] w (RetBool w r) := by
  by_cases hv : v = 0
  · subst hv
    obtain rfl : r = false := by rw [hr]; simp [exB]
    clear hr
    go_enter Tryd.func52, Tryd.ntmps52
    go_wp2
    go_ret
    exact ⟨rfl, ((Below.refl _ _).alloc (Nat.le_refl _) _).alloc (by simp) _⟩
  · have hv' : (v != 0) = true := by simpa using hv
    have hv'' : (v == 0) = false := by simpa using hv
    clear hv
    obtain rfl : r = true := by rw [hr]; simp [exB, hv']
    clear hr
    go_enter Tryd.func52, Tryd.ntmps52
    go_wp2
    go_ret
    exact ⟨rfl, ((Below.refl _ _).alloc (Nat.le_refl _) _).alloc (by simp) _⟩

theorem exc_any (te k h t i v : Int) (fo r : Bool) (w : World) (hk : 1 ≤ k ∧ k ≤ 11) (hr : r = exK k h t i v) :
    Calls Tryd.prog 52 #[.agg #[.bool (nH k), .bool (nT k), .bool (nI k), .bool (nV k)], .agg #[.int .i64 te, .int .i64 k, .int .i64 h, .int .i64 t, .int .i64 i, .int .i64 v, .bool fo]] w (RetBool w r) := by
  rcases kinds hk with rfl | rfl | rfl | rfl | rfl | rfl | rfl | rfl | rfl | rfl | rfl
  · exact exc_0011 te 1 h t i v fo r w hr
  · exact exc_1000 te 2 h t i v fo r w hr
  · exact exc_1000 te 3 h t i v fo r w hr
  · exact exc_1010 te 4 h t i v fo r w hr
  · exact exc_1011 te 5 h t i v fo r w hr
  · exact exc_1010 te 6 h t i v fo r w hr
  · exact exc_1110 te 7 h t i v fo r w hr
  · exact exc_1100 te 8 h t i v fo r w hr
  · exact exc_1000 te 9 h t i v fo r w hr
  · exact exc_1000 te 10 h t i v fo r w hr
  · exact exc_0000 te 11 h t i v fo r w hr
end Go.Proofs.YtkeeoelbnmacdaaDoor

namespace Go.Proofs.YtkeeoelbnmacdaaDoor
open Go.RowKit
set_option linter.unusedVariables false

/-- Operations that are run one behind the other. -/
def prun (P : Program) : List Oper → Act → World → Option (Act × World)
  | [], a, w => some (a, w)
  | o :: l, a, w => match o.guard with
    | none => match (execOp a.eval o).run P w with
      | .ok (.value v) w' => prun P l (a.put o.dst v) w'
      | _ => none
    | some _ => none

theorem wpList_prun {P : Program} {ops : Array Oper} {Q : Exit → Act → World → Prop} {rest : List Oper} {a' : Act} {w' : World} : ∀ (l : List Oper) (a : Act) (w : World), prun P l a w = some (a', w') → wpList P ops Q rest a' w' → wpList P ops Q (l ++ rest) a w
  | [], a, w, h, k => by simp only [prun, Option.some.injEq, Prod.mk.injEq] at h; obtain ⟨rfl, rfl⟩ := h; exact k
  | o :: l, a, w, h, k => by
    unfold prun at h
    split at h
    · rename_i hg
      split at h
      · rename_i v w1 hr
        refine wpList_plain hg fun K hK => ?_
        unfold Oper.wp
        rw [hr]
        exact hK _ _ (wpList_prun l _ _ h k)
      · cases h
    · cases h

theorem wpList_take {P : Program} {ops : Array Oper} {Q : Exit → Act → World → Prop} {l : List Oper} {a a' : Act} {w w' : World} (n : Nat) (h : prun P (l.take n) a w = some (a', w')) (k : wpList P ops Q (l.drop n) a' w') : wpList P ops Q l a w := by
  have := wpList_prun (rest := l.drop n) (l.take n) a w h k
  rwa [List.take_append_drop] at this

theorem keeps_cells {w : World} {lo hi g : Nat} (h1 : lo ≤ g) (h2 : g < hi) : ∀ (vs : List Value) (o : Nat) (w' : World), Keeps w w' lo hi → Keeps w (w'.setCells g o vs) lo hi
  | [], _, _, h => h
  | v :: vs, o, w', h => keeps_cells h1 h2 vs (o + 1) _ (h.trans (keeps_setCell (p := ⟨g, o, none⟩) h1 h2 v))

theorem blk_setCells {w : World} {cs : Array Value} {t : TypeId} {b : Nat} (hb : b = w.heap.size) (vs : List Value) (hv : vs.length = cs.size) : Blk ((w.alloc (.cells cs t)).setCells b 0 vs) b vs := by
  have h0 : Blk (w.alloc (.cells cs t)) b cs.toList := Blk.new_at b hb
  have hk : Keeps (w.alloc (.cells cs t)) ((w.alloc (.cells cs t)).setCells b 0 vs) b (b + 1) := keeps_cells (Nat.le_refl _) (Nat.lt_succ_self _) vs 0 _ (Keeps.refl _ _ _)
  refine ⟨Nat.lt_of_lt_of_le h0.1 hk.size, fun i u hu => ?_⟩
  obtain ⟨hi, rfl⟩ := List.getElem?_eq_some_iff.mp hu
  refine ⟨?_, ?_⟩
  · have := World.cell?_setCells_in b vs 0 (w.alloc (.cells cs t)) (fun j hj => ?_) i hi
    · rw [Nat.zero_add] at this; exact this
    · rw [Nat.zero_add, (h0.2 j (cs[j]'(by omega)) (by simp)).1]; rfl
  · rw [World.frozen?_setCells]
    exact (h0.2 i (cs[i]'(by omega)) (by simp)).2

theorem below_cellsK {w : World} {cs : Array Value} {t : TypeId} {b : Nat} (hb : b = w.heap.size) (vs : List Value) : Below w.heap.size w ((w.alloc (.cells cs t)).setCells b 0 vs) :=
  ((Below.refl _ _).alloc (Nat.le_refl _) _).trans ((keeps_cells (Nat.le_refl _) (Nat.lt_succ_self _) vs 0 _ (Keeps.refl _ _ _)).below (Nat.le_of_eq hb.symm) (by simp))

theorem there_new {w : World} {cs : Array Value} {t : TypeId} {b : Nat} (hb : b = w.heap.size) : (w.alloc (.cells cs t)).there b 0 cs.size := fun j hj => by
  have h0 : Blk (w.alloc (.cells cs t)) b cs.toList := Blk.new_at b hb
  rw [Nat.zero_add]
  have := h0.2 j (cs[j]'hj) (by simp)
  exact ⟨by rw [this.1]; rfl, this.2⟩

/-- What a kind does. -/
def kF (k : Int) : Nat := if k = 1 then 66 else if k = 2 then 67 else if k = 3 then 68 else if k = 4 then 69 else if k = 5 then 70 else if k = 6 then 71 else if k = 7 then 72 else if k = 8 then 73 else if k = 9 then 74 else if k = 10 then 75 else if k = 11 then 76 else 0

def kCells (b : Nat) : List Value := [.bool false, .bool false, .bool false, .bool false, .nilFunc, .bool false, .bool false, .bool true, .bool true, .func (.func 66) #[.pointer (some ⟨b, 0, none⟩)] #[], .bool true, .bool false, .bool false, .bool false, .func (.func 67) #[.pointer (some ⟨b, 0, none⟩)] #[], .bool true, .bool false, .bool false, .bool false, .func (.func 68) #[.pointer (some ⟨b, 0, none⟩)] #[], .bool true, .bool false, .bool true, .bool false, .func (.func 69) #[.pointer (some ⟨b, 0, none⟩)] #[], .bool true, .bool false, .bool true, .bool true, .func (.func 70) #[.pointer (some ⟨b, 0, none⟩)] #[], .bool true, .bool false, .bool true, .bool false, .func (.func 71) #[.pointer (some ⟨b, 0, none⟩)] #[], .bool true, .bool true, .bool true, .bool false, .func (.func 72) #[.pointer (some ⟨b, 0, none⟩)] #[], .bool true, .bool true, .bool false, .bool false, .func (.func 73) #[.pointer (some ⟨b, 0, none⟩)] #[], .bool true, .bool false, .bool false, .bool false, .func (.func 74) #[.pointer (some ⟨b, 0, none⟩)] #[], .bool true, .bool false, .bool false, .bool false, .func (.func 75) #[.pointer (some ⟨b, 0, none⟩)] #[], .bool false, .bool false, .bool false, .bool false, .func (.func 76) #[.pointer (some ⟨b, 0, none⟩)] #[]]

def kAct (b W V : Nat) : Act := { tmps := #[.pointer (some ⟨b, 0, none⟩), undef, .pointer (some ⟨W, 0, none⟩), .pointer (some ⟨V, 0, none⟩), .agg #[.bool false, .bool false, .bool true, .bool true], .pointer (some ⟨b, 0, none⟩), .func (.func 66) #[.pointer (some ⟨b, 0, none⟩)] #[], .agg #[.bool false, .bool false, .bool true, .bool true, .func (.func 66) #[.pointer (some ⟨b, 0, none⟩)] #[]], .agg #[.bool true, .bool false, .bool false, .bool false], .pointer (some ⟨b, 0, none⟩), .func (.func 67) #[.pointer (some ⟨b, 0, none⟩)] #[], .agg #[.bool true, .bool false, .bool false, .bool false, .func (.func 67) #[.pointer (some ⟨b, 0, none⟩)] #[]], .agg #[.bool true, .bool false, .bool false, .bool false], .pointer (some ⟨b, 0, none⟩), .func (.func 68) #[.pointer (some ⟨b, 0, none⟩)] #[], .agg #[.bool true, .bool false, .bool false, .bool false, .func (.func 68) #[.pointer (some ⟨b, 0, none⟩)] #[]], .agg #[.bool true, .bool false, .bool true, .bool false], .pointer (some ⟨b, 0, none⟩), .func (.func 69) #[.pointer (some ⟨b, 0, none⟩)] #[], .agg #[.bool true, .bool false, .bool true, .bool false, .func (.func 69) #[.pointer (some ⟨b, 0, none⟩)] #[]], .agg #[.bool true, .bool false, .bool true, .bool true], .pointer (some ⟨b, 0, none⟩), .func (.func 70) #[.pointer (some ⟨b, 0, none⟩)] #[], .agg #[.bool true, .bool false, .bool true, .bool true, .func (.func 70) #[.pointer (some ⟨b, 0, none⟩)] #[]], .agg #[.bool true, .bool false, .bool true, .bool false], .pointer (some ⟨b, 0, none⟩), .func (.func 71) #[.pointer (some ⟨b, 0, none⟩)] #[], .agg #[.bool true, .bool false, .bool true, .bool false, .func (.func 71) #[.pointer (some ⟨b, 0, none⟩)] #[]], .agg #[.bool true, .bool true, .bool true, .bool false], .pointer (some ⟨b, 0, none⟩), .func (.func 72) #[.pointer (some ⟨b, 0, none⟩)] #[], .agg #[.bool true, .bool true, .bool true, .bool false, .func (.func 72) #[.pointer (some ⟨b, 0, none⟩)] #[]], .agg #[.bool true, .bool true, .bool false, .bool false], .pointer (some ⟨b, 0, none⟩), .func (.func 73) #[.pointer (some ⟨b, 0, none⟩)] #[], .agg #[.bool true, .bool true, .bool false, .bool false, .func (.func 73) #[.pointer (some ⟨b, 0, none⟩)] #[]], .agg #[.bool true, .bool false, .bool false, .bool false], .pointer (some ⟨b, 0, none⟩), .func (.func 74) #[.pointer (some ⟨b, 0, none⟩)] #[], .agg #[.bool true, .bool false, .bool false, .bool false, .func (.func 74) #[.pointer (some ⟨b, 0, none⟩)] #[]], .agg #[.bool true, .bool false, .bool false, .bool false], .pointer (some ⟨b, 0, none⟩), .func (.func 75) #[.pointer (some ⟨b, 0, none⟩)] #[], .agg #[.bool true, .bool false, .bool false, .bool false, .func (.func 75) #[.pointer (some ⟨b, 0, none⟩)] #[]], .agg #[.bool false, .bool false, .bool false, .bool false], .pointer (some ⟨b, 0, none⟩), .func (.func 76) #[.pointer (some ⟨b, 0, none⟩)] #[], .agg #[.bool false, .bool false, .bool false, .bool false, .func (.func 76) #[.pointer (some ⟨b, 0, none⟩)] #[]], .agg #[.bool false, .bool false, .bool false, .bool false, .nilFunc, .bool false, .bool false, .bool true, .bool true, .func (.func 66) #[.pointer (some ⟨b, 0, none⟩)] #[], .bool true, .bool false, .bool false, .bool false, .func (.func 67) #[.pointer (some ⟨b, 0, none⟩)] #[], .bool true, .bool false, .bool false, .bool false, .func (.func 68) #[.pointer (some ⟨b, 0, none⟩)] #[], .bool true, .bool false, .bool true, .bool false, .func (.func 69) #[.pointer (some ⟨b, 0, none⟩)] #[], .bool true, .bool false, .bool true, .bool true, .func (.func 70) #[.pointer (some ⟨b, 0, none⟩)] #[], .bool true, .bool false, .bool true, .bool false, .func (.func 71) #[.pointer (some ⟨b, 0, none⟩)] #[], .bool true, .bool true, .bool true, .bool false, .func (.func 72) #[.pointer (some ⟨b, 0, none⟩)] #[], .bool true, .bool true, .bool false, .bool false, .func (.func 73) #[.pointer (some ⟨b, 0, none⟩)] #[], .bool true, .bool false, .bool false, .bool false, .func (.func 74) #[.pointer (some ⟨b, 0, none⟩)] #[], .bool true, .bool false, .bool false, .bool false, .func (.func 75) #[.pointer (some ⟨b, 0, none⟩)] #[], .bool false, .bool false, .bool false, .bool false, .func (.func 76) #[.pointer (some ⟨b, 0, none⟩)] #[]], undef, undef, undef, undef, undef, undef, undef], defers := [] }

def kZero : Array Value := #[.bool false, .bool false, .bool false, .bool false, .nilFunc, .bool false, .bool false, .bool false, .bool false, .nilFunc, .bool false, .bool false, .bool false, .bool false, .nilFunc, .bool false, .bool false, .bool false, .bool false, .nilFunc, .bool false, .bool false, .bool false, .bool false, .nilFunc, .bool false, .bool false, .bool false, .bool false, .nilFunc, .bool false, .bool false, .bool false, .bool false, .nilFunc, .bool false, .bool false, .bool false, .bool false, .nilFunc, .bool false, .bool false, .bool false, .bool false, .nilFunc, .bool false, .bool false, .bool false, .bool false, .nilFunc, .bool false, .bool false, .bool false, .bool false, .nilFunc, .bool false, .bool false, .bool false, .bool false, .nilFunc]

set_option maxRecDepth 100000 in
set_option maxHeartbeats 1600000 in
theorem kind_any (b : Nat) (k : Int) (w : World) (hk : 1 ≤ k ∧ k ≤ 11) (hb : b < w.heap.size) (hc : w.cell? ⟨b, 6, none⟩ = some (.int .i64 k)) :
    Calls Tryd.prog 51 #[.pointer (some ⟨b, 0, none⟩)] w fun e w' => e = .returned (.agg #[.bool (nH k), .bool (nT k), .bool (nI k), .bool (nV k), .func (.func (kF k)) #[.pointer (some ⟨b, 0, none⟩)] #[]]) ∧ Below w.heap.size w w' := by
  have hzs : (w.alloc (.cells #[.bool false, .bool false, .bool false, .bool false, .nilFunc] 97)).heap.size = w.heap.size + 1 := by simp
  have R_0 := Lib.hid (Blk.new_at (w := w) (cs := #[.bool false, .bool false, .bool false, .bool false, .nilFunc]) (t := 97) w.heap.size rfl)
  have HB0 := Lib.hid ((Below.refl w.heap.size w).alloc (Nat.le_refl _) (.cells #[.bool false, .bool false, .bool false, .bool false, .nilFunc] 97))
  have hbs := below_cellsK (w := (w.alloc (.cells #[.bool false, .bool false, .bool false, .bool false, .nilFunc] 97))) (cs := kZero) (t := 129) rfl (kCells b)
  have K_1 := Lib.hid (blk_setCells (w := (w.alloc (.cells #[.bool false, .bool false, .bool false, .bool false, .nilFunc] 97))) (cs := kZero) (t := 129) rfl (kCells b) rfl)
  have TH := Lib.hid (there_new (w := (w.alloc (.cells #[.bool false, .bool false, .bool false, .bool false, .nilFunc] 97))) (cs := kZero) (t := 129) rfl)
  have R_1 := Lib.hid (R_0.out.below hbs)
  have HB1 := Lib.hid (HB0.out.trans (hbs.mono (by simp)))
  have hc1 := (hbs.cell (p := ⟨b, 6, none⟩) (by simp; omega)).trans ((HB0.out.cell (p := ⟨b, 6, none⟩) hb).trans hc)
  have HC := Lib.hid hc1
  have HZS := Lib.hid hzs
  clear hbs hc1 hc hzs
  go_enter Tryd.func51, Tryd.ntmps51
  go_upto_region 1 with (fail)
  refine wp_region_list ?_
  refine wpList_take 46 (a' := kAct b w.heap.size (w.alloc (.cells #[.bool false, .bool false, .bool false, .bool false, .nilFunc] 97)).heap.size) (w' := (w.alloc (.cells #[.bool false, .bool false, .bool false, .bool false, .nilFunc] 97)).alloc (.cells kZero 129)) (by kernel_rfl) ?_
  refine wpList_store_mid rfl 129 (.tmp 3) (.tmp 48) rfl (w.alloc (.cells #[.bool false, .bool false, .bool false, .bool false, .nilFunc] 97)).heap.size 0 (kCells b).toArray (by kernel_rfl) (by kernel_rfl) TH.out (by kernel_rfl) (by kernel_rfl) ?_
  refine wpList_nil ?_
  rw [show (kCells b).toArray.toList = kCells b from rfl]
  have hzw := K_1.out.1
  generalize (w.alloc (.cells #[.bool false, .bool false, .bool false, .bool false, .nilFunc] 97)).heap.size = V at *
  have hV := HZS.out
  generalize ((w.alloc (.cells #[.bool false, .bool false, .bool false, .bool false, .nilFunc] 97)).alloc (.cells kZero 129)).setCells V 0 (kCells b) = w1 at *
  have lR := R_1.out.1; have r0 := R_1.out.at 0 rfl; have r1 := R_1.out.at 1 rfl; have r2 := R_1.out.at 2 rfl; have r3 := R_1.out.at 3 rfl; have r4 := R_1.out.at 4 rfl
  have f0 := R_1.out.free 0 rfl; have f1 := R_1.out.free 1 rfl; have f2 := R_1.out.free 2 rfl; have f3 := R_1.out.free 3 rfl; have f4 := R_1.out.free 4 rfl
  have hlb : b < w1.heap.size := by omega
  have hVW : V ≠ w.heap.size := by omega
  have hc1 := HC.out
  clear hV
  unfold kAct
  rcases kinds hk with rfl | rfl | rfl | rfl | rfl | rfl | rfl | rfl | rfl | rfl | rfl
  · have e0 := K_1.out.at 5 rfl; have e1 := K_1.out.at 6 rfl; have e2 := K_1.out.at 7 rfl; have e3 := K_1.out.at 8 rfl; have e4 := K_1.out.at 9 rfl
    go_wp2
    refine bodyPost_ret (v := .agg #[.bool false, .bool false, .bool true, .bool true, .func (.func 66) #[.pointer (some ⟨b, 0, none⟩)] #[]]) (by simp [results, Tryd.results51, go_sem, r0, r1, r2, r3, r4]) rfl ⟨rfl, ?_⟩
    repeat (first | (with_reducible refine Below.setCell ?_ (by (try simp); (try omega)) _) | (with_reducible refine Below.alloc ?_ (by (try simp); (try omega)) _))
    exact HB1.out
  · have e0 := K_1.out.at 10 rfl; have e1 := K_1.out.at 11 rfl; have e2 := K_1.out.at 12 rfl; have e3 := K_1.out.at 13 rfl; have e4 := K_1.out.at 14 rfl
    go_wp2
    refine bodyPost_ret (v := .agg #[.bool true, .bool false, .bool false, .bool false, .func (.func 67) #[.pointer (some ⟨b, 0, none⟩)] #[]]) (by simp [results, Tryd.results51, go_sem, r0, r1, r2, r3, r4]) rfl ⟨rfl, ?_⟩
    repeat (first | (with_reducible refine Below.setCell ?_ (by (try simp); (try omega)) _) | (with_reducible refine Below.alloc ?_ (by (try simp); (try omega)) _))
    exact HB1.out
  · have e0 := K_1.out.at 15 rfl; have e1 := K_1.out.at 16 rfl; have e2 := K_1.out.at 17 rfl; have e3 := K_1.out.at 18 rfl; have e4 := K_1.out.at 19 rfl
    go_wp2
    refine bodyPost_ret (v := .agg #[.bool true, .bool false, .bool false, .bool false, .func (.func 68) #[.pointer (some ⟨b, 0, none⟩)] #[]]) (by simp [results, Tryd.results51, go_sem, r0, r1, r2, r3, r4]) rfl ⟨rfl, ?_⟩
    repeat (first | (with_reducible refine Below.setCell ?_ (by (try simp); (try omega)) _) | (with_reducible refine Below.alloc ?_ (by (try simp); (try omega)) _))
    exact HB1.out
  · have e0 := K_1.out.at 20 rfl; have e1 := K_1.out.at 21 rfl; have e2 := K_1.out.at 22 rfl; have e3 := K_1.out.at 23 rfl; have e4 := K_1.out.at 24 rfl
    go_wp2
    refine bodyPost_ret (v := .agg #[.bool true, .bool false, .bool true, .bool false, .func (.func 69) #[.pointer (some ⟨b, 0, none⟩)] #[]]) (by simp [results, Tryd.results51, go_sem, r0, r1, r2, r3, r4]) rfl ⟨rfl, ?_⟩
    repeat (first | (with_reducible refine Below.setCell ?_ (by (try simp); (try omega)) _) | (with_reducible refine Below.alloc ?_ (by (try simp); (try omega)) _))
    exact HB1.out
  · have e0 := K_1.out.at 25 rfl; have e1 := K_1.out.at 26 rfl; have e2 := K_1.out.at 27 rfl; have e3 := K_1.out.at 28 rfl; have e4 := K_1.out.at 29 rfl
    go_wp2
    refine bodyPost_ret (v := .agg #[.bool true, .bool false, .bool true, .bool true, .func (.func 70) #[.pointer (some ⟨b, 0, none⟩)] #[]]) (by simp [results, Tryd.results51, go_sem, r0, r1, r2, r3, r4]) rfl ⟨rfl, ?_⟩
    repeat (first | (with_reducible refine Below.setCell ?_ (by (try simp); (try omega)) _) | (with_reducible refine Below.alloc ?_ (by (try simp); (try omega)) _))
    exact HB1.out
  · have e0 := K_1.out.at 30 rfl; have e1 := K_1.out.at 31 rfl; have e2 := K_1.out.at 32 rfl; have e3 := K_1.out.at 33 rfl; have e4 := K_1.out.at 34 rfl
    go_wp2
    refine bodyPost_ret (v := .agg #[.bool true, .bool false, .bool true, .bool false, .func (.func 71) #[.pointer (some ⟨b, 0, none⟩)] #[]]) (by simp [results, Tryd.results51, go_sem, r0, r1, r2, r3, r4]) rfl ⟨rfl, ?_⟩
    repeat (first | (with_reducible refine Below.setCell ?_ (by (try simp); (try omega)) _) | (with_reducible refine Below.alloc ?_ (by (try simp); (try omega)) _))
    exact HB1.out
  · have e0 := K_1.out.at 35 rfl; have e1 := K_1.out.at 36 rfl; have e2 := K_1.out.at 37 rfl; have e3 := K_1.out.at 38 rfl; have e4 := K_1.out.at 39 rfl
    go_wp2
    refine bodyPost_ret (v := .agg #[.bool true, .bool true, .bool true, .bool false, .func (.func 72) #[.pointer (some ⟨b, 0, none⟩)] #[]]) (by simp [results, Tryd.results51, go_sem, r0, r1, r2, r3, r4]) rfl ⟨rfl, ?_⟩
    repeat (first | (with_reducible refine Below.setCell ?_ (by (try simp); (try omega)) _) | (with_reducible refine Below.alloc ?_ (by (try simp); (try omega)) _))
    exact HB1.out
  · have e0 := K_1.out.at 40 rfl; have e1 := K_1.out.at 41 rfl; have e2 := K_1.out.at 42 rfl; have e3 := K_1.out.at 43 rfl; have e4 := K_1.out.at 44 rfl
    go_wp2
    refine bodyPost_ret (v := .agg #[.bool true, .bool true, .bool false, .bool false, .func (.func 73) #[.pointer (some ⟨b, 0, none⟩)] #[]]) (by simp [results, Tryd.results51, go_sem, r0, r1, r2, r3, r4]) rfl ⟨rfl, ?_⟩
    repeat (first | (with_reducible refine Below.setCell ?_ (by (try simp); (try omega)) _) | (with_reducible refine Below.alloc ?_ (by (try simp); (try omega)) _))
    exact HB1.out
  · have e0 := K_1.out.at 45 rfl; have e1 := K_1.out.at 46 rfl; have e2 := K_1.out.at 47 rfl; have e3 := K_1.out.at 48 rfl; have e4 := K_1.out.at 49 rfl
    go_wp2
    refine bodyPost_ret (v := .agg #[.bool true, .bool false, .bool false, .bool false, .func (.func 74) #[.pointer (some ⟨b, 0, none⟩)] #[]]) (by simp [results, Tryd.results51, go_sem, r0, r1, r2, r3, r4]) rfl ⟨rfl, ?_⟩
    repeat (first | (with_reducible refine Below.setCell ?_ (by (try simp); (try omega)) _) | (with_reducible refine Below.alloc ?_ (by (try simp); (try omega)) _))
    exact HB1.out
  · have e0 := K_1.out.at 50 rfl; have e1 := K_1.out.at 51 rfl; have e2 := K_1.out.at 52 rfl; have e3 := K_1.out.at 53 rfl; have e4 := K_1.out.at 54 rfl
    go_wp2
    refine bodyPost_ret (v := .agg #[.bool true, .bool false, .bool false, .bool false, .func (.func 75) #[.pointer (some ⟨b, 0, none⟩)] #[]]) (by simp [results, Tryd.results51, go_sem, r0, r1, r2, r3, r4]) rfl ⟨rfl, ?_⟩
    repeat (first | (with_reducible refine Below.setCell ?_ (by (try simp); (try omega)) _) | (with_reducible refine Below.alloc ?_ (by (try simp); (try omega)) _))
    exact HB1.out
  · have e0 := K_1.out.at 55 rfl; have e1 := K_1.out.at 56 rfl; have e2 := K_1.out.at 57 rfl; have e3 := K_1.out.at 58 rfl; have e4 := K_1.out.at 59 rfl
    go_wp2
    refine bodyPost_ret (v := .agg #[.bool false, .bool false, .bool false, .bool false, .func (.func 76) #[.pointer (some ⟨b, 0, none⟩)] #[]]) (by simp [results, Tryd.results51, go_sem, r0, r1, r2, r3, r4]) rfl ⟨rfl, ?_⟩
    repeat (first | (with_reducible refine Below.setCell ?_ (by (try simp); (try omega)) _) | (with_reducible refine Below.alloc ?_ (by (try simp); (try omega)) _))
    exact HB1.out
end Go.Proofs.YtkeeoelbnmacdaaDoor

namespace Go.Proofs.YtkeeoelbnmacdaaDoor
open Go.RowKit
set_option linter.unusedVariables false

theorem isOut2b (B : Nat) (V : World) (v0 l0 g0 v1 l1 g1 : Int) (r : Bool) (hB : Blk V B [.int .i64 v0, .int .i64 l0, .int .i64 g0, .int .i64 v1, .int .i64 l1, .int .i64 g1])
    (hr : (r = false ∧ (l0 ≤ v0 ∧ v0 ≤ g0) ∧ (l1 ≤ v1 ∧ v1 ≤ g1)) ∨ (r = true ∧ ¬ ((l0 ≤ v0 ∧ v0 ≤ g0) ∧ (l1 ≤ v1 ∧ v1 ≤ g1)))) :
    Calls Tryd.prog 36 #[.slice (some ⟨B, 0, none⟩) 2 2] V (RetBool V r) := by
  have hB3 : ∀ i, i < 2 → B3 V B (i * 3) (pick3 v0 v1 0 i) (pick3 l0 l1 0 i) (pick3 g0 g1 0 i) := by
    intro i hi
    match i, hi with
    | 0, _ => exact b3_blk hB rfl rfl rfl
    | 1, _ => exact b3_blk hB rfl rfl rfl
  rcases hr with ⟨rfl, hr⟩ | ⟨rfl, hr⟩
  · refine isOut_no B 2 _ _ _ _ (by omega) hB.1 hB3 (fun i hi => ?_)
    match i, hi with
    | 0, _ => exact hr.1
    | 1, _ => exact hr.2
  · refine isOut_yes B 2 _ _ _ _ (by omega) hB.1 hB3 ?_
    by_cases h0 : l0 ≤ v0 ∧ v0 ≤ g0
    · exact ⟨1, by omega, fun h1 => hr ⟨h0, h1⟩⟩
    · exact ⟨0, by omega, h0⟩

set_option maxRecDepth 100000 in
set_option maxHeartbeats 400000 in
theorem headOfNew_any (te k h t i v : Int) (fo : Bool) (w : World) :
    Calls Tryd.prog 54 #[.agg #[.int .i64 te, .int .i64 k, .int .i64 h, .int .i64 t, .int .i64 i, .int .i64 v, .bool fo]] w fun e w' => e = .returned (.agg #[.int .i64 i, .int .i64 v, .int .i64 0, .int .i64 0]) ∧ Below w.heap.size w w' := by
  go_enter Tryd.func54, Tryd.ntmps54
  go_wp2
  refine bodyPost_ret (v := .agg #[.int .i64 i, .int .i64 v, .int .i64 0, .int .i64 0]) (by simp [results, Tryd.results54, go_sem]) rfl ⟨rfl, ?_⟩
  repeat (first | (with_reducible refine Below.setCell ?_ (by (try simp); (try omega)) _) | (with_reducible refine Below.alloc ?_ (by (try simp); (try omega)) _))
  exact Below.refl _ _

theorem capO {w : World} {b : Nat} {te k h t i v : Int} {fo : Bool} (hB : Blk w b [.int .i64 te, .int .i64 k, .int .i64 h, .int .i64 t, .int .i64 i, .int .i64 v, .bool fo]) : w.cell? ⟨b, 0, none⟩ = some (.int .i64 te) ∧ w.cell? ⟨b, 1, none⟩ = some (.int .i64 k) ∧ w.cell? ⟨b, 2, none⟩ = some (.int .i64 h) ∧ w.cell? ⟨b, 3, none⟩ = some (.int .i64 t) ∧ w.cell? ⟨b, 4, none⟩ = some (.int .i64 i) ∧ w.cell? ⟨b, 5, none⟩ = some (.int .i64 v) ∧ w.cell? ⟨b, 6, none⟩ = some (.bool fo) :=
  ⟨hB.at 0 rfl, hB.at 1 rfl, hB.at 2 rfl, hB.at 3 rfl, hB.at 4 rfl, hB.at 5 rfl, hB.at 6 rfl⟩

theorem fld_kind (a b c d f : Value) (w : World) : (Instr.field 97 (.agg #[a, b, c, d, f]) 0).run Tryd.prog w = .ok (.agg #[a, b, c, d]) w := by kernel_rfl

set_option maxRecDepth 100000 in
set_option maxHeartbeats 1600000 in
theorem implOF_any (te k h t i v : Int) (fo : Bool) (c : Int) (w : World) (hk : IsOF k h t i v c) :
    Calls Tryd.prog 35 #[.agg #[.int .i64 te, .int .i64 k, .int .i64 h, .int .i64 t, .int .i64 i, .int .i64 v, .bool fo]] w (RetInt w c) := by
  have HK := Lib.hid hk
  have HB0 := Lib.hid ((Below.refl w.heap.size w).alloc (Nat.le_refl _) (.cells #[.int .i64 te, .int .i64 k, .int .i64 h, .int .i64 t, .int .i64 i, .int .i64 v, .bool fo] 38))
  have A_0 := Lib.hid (Blk.new_at (w := w) (cs := #[.int .i64 te, .int .i64 k, .int .i64 h, .int .i64 t, .int .i64 i, .int .i64 v, .bool fo]) (t := 38) w.heap.size rfl)
  clear hk
  by_cases h1 : 1 ≤ k ∧ k ≤ 11
  · have H1 := Lib.hid h1
    obtain ⟨r, hr⟩ : ∃ r, r = exK k h t i v := ⟨_, rfl⟩
    have HR := Lib.hid hr
    clear h1 hr
    go_enter Tryd.func35, Tryd.ntmps35
    go_wp2_with fail
    with_reducible refine (isOut1 _ _ _ _ _ false (by simp) (.inl ⟨rfl, H1.out⟩)).mono ?_
    rintro e w1 ⟨rfl, hb⟩
    have HB1 := Lib.hid (thru1 HB0.out hb)
    have A_1 := Lib.hid ((A_0.out.alloc _).below hb)
    clear hb A_0 HB0
    have c0 := A_1.out.at 0 rfl; have c1 := A_1.out.at 1 rfl; have c2 := A_1.out.at 2 rfl; have c3 := A_1.out.at 3 rfl; have c4 := A_1.out.at 4 rfl; have c5 := A_1.out.at 5 rfl; have c6 := A_1.out.at 6 rfl; have lA := A_1.out.1
    go_upto_region 4 with (fail)
    have A_2 := Lib.hid (A_1.out.alloc (.cells #[.int .i64 0, .int .i64 0, .int .i64 0, .slice none 0 0, .slice none 0 0, .int .i64 te, .int .i64 k, .int .i64 h, .int .i64 t, .int .i64 i, .int .i64 v, .bool fo, .pointer none, .pointer none] 92))
    have T_2 := Lib.hid (Blk.new_at (w := w1) (cs := #[.int .i64 0, .int .i64 0, .int .i64 0, .slice none 0 0, .slice none 0 0, .int .i64 te, .int .i64 k, .int .i64 h, .int .i64 t, .int .i64 i, .int .i64 v, .bool fo, .pointer none, .pointer none]) (t := 92) w1.heap.size rfl)
    have HB2 := Lib.hid (HB1.out.alloc HB1.out.size (.cells #[.int .i64 0, .int .i64 0, .int .i64 0, .slice none 0 0, .slice none 0 0, .int .i64 te, .int .i64 k, .int .i64 h, .int .i64 t, .int .i64 i, .int .i64 v, .bool fo, .pointer none, .pointer none] 92))
    clear c0 c1 c2 c3 c4 c5 c6 lA A_1 HB1
    generalize w1.alloc (.cells #[.int .i64 0, .int .i64 0, .int .i64 0, .slice none 0 0, .slice none 0 0, .int .i64 te, .int .i64 k, .int .i64 h, .int .i64 t, .int .i64 i, .int .i64 v, .bool fo, .pointer none, .pointer none] 92) = w2 at *
    generalize w1.heap.size = B at *
    have A_d := Lib.hid A_2.out.drew; have T_d := Lib.hid T_2.out.drew; have HB_d := Lib.hid HB2.out.drew
    have lA := A_2.out.1
    have hf := fld_kind
    go_region_held3 (fun w' => w'.cell? ⟨w.heap.size, 0, none⟩ = some (.int .i64 te) ∧ w'.cell? ⟨w.heap.size, 1, none⟩ = some (.int .i64 k) ∧ w'.cell? ⟨w.heap.size, 2, none⟩ = some (.int .i64 h) ∧ w'.cell? ⟨w.heap.size, 3, none⟩ = some (.int .i64 t) ∧ w'.cell? ⟨w.heap.size, 4, none⟩ = some (.int .i64 i) ∧ w'.cell? ⟨w.heap.size, 5, none⟩ = some (.int .i64 v) ∧ w'.cell? ⟨w.heap.size, 6, none⟩ = some (.bool fo))
      (first | (with_reducible exact capO A_2.out) | (with_reducible exact capO A_d.out) | (with_reducible exact capO A_3.out) | (with_reducible exact capO A_4.out))
      (first | (go_at_call 51; refine (kind_any B k _ H1.out T_d.out.1 (T_d.out.at 6 rfl)).mono ?_; rintro e w3 ⟨rfl, hb⟩; have HB3 := Lib.hid (thru0 HB_d.out hb); have A_3 := Lib.hid (A_d.out.below hb); clear hb) | (go_at_call 52; refine (exc_any te k h t i v fo r _ H1.out HR.out).mono ?_; rintro e w4 ⟨rfl, hb⟩; have HB4 := Lib.hid (thru0 HB3.out hb); have A_4 := Lib.hid (A_3.out.below hb); clear hb))
    cases r with
    | true =>
      obtain rfl : c = 1 := by
        rcases HK.out with h | h
        · exact h.2
        · have := h.1.2; rw [← HR.out] at this; cases this
      go_wp2
      go_ret
      exact ⟨rfl, HB4.out⟩
    | false =>
      have hF : FormP k h t i v := ⟨H1.out, HR.out.symm⟩
      have hrest : (k = 1 ∧ IsHF i v 0 0 c) ∨ (¬ k = 1 ∧ ((((0 ≤ i ∧ i ≤ 11) ∧ Word v) ∧ c = 0) ∨ (¬ ((0 ≤ i ∧ i ≤ 11) ∧ Word v) ∧ c = 3))) := by
        rcases HK.out with h | h
        · exact absurd hF h.1
        · exact h.2
      clear hF HK HR
      have c0 := A_4.out.at 0 rfl; have c1 := A_4.out.at 1 rfl; have c2 := A_4.out.at 2 rfl; have c3 := A_4.out.at 3 rfl; have c4 := A_4.out.at 4 rfl; have c5 := A_4.out.at 5 rfl; have c6 := A_4.out.at 6 rfl; have lA4 := A_4.out.1
      rcases hrest with ⟨rfl, hHF⟩ | ⟨hne, hrest⟩
      · have HHF := Lib.hid hHF
        clear hHF
        go_wp2_with fail
        refine (headOfNew_any te 1 h t i v fo _).mono ?_
        rintro e w5 ⟨rfl, hb⟩
        have HB5 := Lib.hid (thru0 HB4.out hb)
        clear hb
        go_wp2_with fail
        refine (implHF_any i v 0 0 c _ HHF.out).mono ?_
        rintro e w6 ⟨rfl, hb⟩
        have HB6 := Lib.hid (thru0 HB5.out hb)
        clear hb
        go_wp2
        go_ret
        exact ⟨rfl, HB6.out⟩
      · have hk1 : (k == 1) = false := by simpa using hne
        obtain ⟨q, hq, hc⟩ : ∃ q : Bool, ((q = false ∧ (0 ≤ i ∧ i ≤ 11) ∧ (-1000000000 ≤ v ∧ v ≤ 1000000000)) ∨ (q = true ∧ ¬ ((0 ≤ i ∧ i ≤ 11) ∧ (-1000000000 ≤ v ∧ v ≤ 1000000000)))) ∧ c = if q then 3 else 0 := by
          rcases hrest with ⟨h, rfl⟩ | ⟨h, rfl⟩
          · exact ⟨false, .inl ⟨rfl, h⟩, rfl⟩
          · exact ⟨true, .inr ⟨rfl, h⟩, rfl⟩
        have HQ := Lib.hid hq; have HC := Lib.hid hc
        clear hq hc hrest hne
        have z4 := HB4.out.size
        go_upto_region 8 with (fail)
        clear c0 c1 c2 c3 c4 c5 c6
        have E_d := Lib.hid A_4.out.drew
        go_region_held3 (fun w' => w'.cell? ⟨w.heap.size, 0, none⟩ = some (.int .i64 te) ∧ w'.cell? ⟨w.heap.size, 1, none⟩ = some (.int .i64 k) ∧ w'.cell? ⟨w.heap.size, 2, none⟩ = some (.int .i64 h) ∧ w'.cell? ⟨w.heap.size, 3, none⟩ = some (.int .i64 t) ∧ w'.cell? ⟨w.heap.size, 4, none⟩ = some (.int .i64 i) ∧ w'.cell? ⟨w.heap.size, 5, none⟩ = some (.int .i64 v) ∧ w'.cell? ⟨w.heap.size, 6, none⟩ = some (.bool fo))
          (first | (with_reducible exact capO A_4.out) | (with_reducible exact capO E_d.out) | (with_reducible exact capO A_5.out) | (with_reducible exact capO (A_5.out.alloc _)) | (with_reducible exact capO A_6.out))
          (first | (go_at_call 55; refine (wordBound_any v _).mono ?_; rintro e w5 ⟨rfl, hb⟩; have HB5 := Lib.hid (thru0 HB4.out.drew hb); have A_5 := Lib.hid (E_d.out.below hb); have z5 := HB5.out.size; clear hb) | (go_at_call 36; refine (isOut2b _ _ _ _ _ _ _ _ q (Blk.new_at (w5.heap.size) rfl) HQ.out).mono ?_; rintro e w6 ⟨rfl, hb⟩; have HB6 := Lib.hid (thru1 HB5.out hb); have A_6 := Lib.hid ((A_5.out.alloc _).below hb); clear hb))
        cases q with
        | true =>
          obtain rfl : c = 3 := HC.out
          go_wp2
          go_ret
          exact ⟨rfl, HB6.out⟩
        | false =>
          obtain rfl : c = 0 := HC.out
          go_wp2
          go_ret
          exact ⟨rfl, HB6.out⟩
  · obtain rfl : c = 1 := by
      rcases HK.out with h | h
      · exact h.2
      · exact absurd h.1.1 h1
    have H1 := Lib.hid h1
    clear h1 HK
    go_enter Tryd.func35, Tryd.ntmps35
    go_wp2_with fail
    with_reducible refine (isOut1 _ _ _ _ _ true (by simp) (.inr ⟨rfl, H1.out⟩)).mono ?_
    rintro e w1 ⟨rfl, hb⟩
    have HB1 := Lib.hid (thru1 HB0.out hb)
    clear hb
    go_wp2
    go_ret
    exact ⟨rfl, HB1.out⟩
end Go.Proofs.YtkeeoelbnmacdaaDoor

namespace Go.Proofs.YtkeeoelbnmacdaaDoor
open Go.RowKit
set_option linter.unusedVariables false

theorem ot_ok {k h i v t : Int} (hk : IsOF k h t i v 0) : (1 ≤ k ∧ k ≤ 11) ∧ (0 ≤ i ∧ i ≤ 12) ∧ (-1000000000 ≤ v ∧ v ≤ 1000000000) := by
  rcases hk with ⟨_, h0⟩ | ⟨⟨h1, _⟩, ⟨_, h2 | h2⟩ | ⟨_, ⟨⟨h3, h4⟩, _⟩ | ⟨_, h5⟩⟩⟩
  · omega
  · have h3 := h2.1.1
    have h4 := h2.1.2.1
    have h5 := P2_le h3.2
    exact ⟨h1, h3, by omega, by omega⟩
  · have := h2.2; omega
  · unfold Word at h4
    exact ⟨h1, ⟨h3.1, by omega⟩, h4⟩
  · omega
open Classical in
noncomputable def otC (c te h t : Int) : Int := if c = 0 then (if WideV te ∧ WideV h ∧ WideV t then 0 else 3) else c
noncomputable def otB (te k : Int) : ByteArray := (itoaB te ++ (⟨#[32]⟩ : ByteArray)) ++ nmB k
open Classical in
noncomputable def otS (c te k h t i v : Int) (fo : Bool) : ByteArray := if c = 0 ∧ WideV te ∧ WideV h ∧ WideV t then (if fo then opTx (otB te k) k h i v t 4 ++ (⟨#[32, 110, 111, 119]⟩ : ByteArray) else opTx (otB te k) k h i v t 4) else ⟨#[]⟩

theorem otB_size {te k : Int} (h : WideV te) : (otB te k).size ≤ 40 := by
  have h1 := itoaB_size te h
  have h2 := nmB_size k
  have e : (⟨#[32]⟩ : ByteArray).size = 1 := rfl
  unfold otB
  rw [ByteArray.size_append, ByteArray.size_append, e]; omega

theorem valK_wide {h i v t : Int} (h1 : WideV h) (h2 : 0 ≤ i ∧ i ≤ 12) (h3 : -1000000000 ≤ v ∧ v ≤ 1000000000) (h4 : WideV t) : ∀ j, WideV (valK h i v t j) := by
  intro j
  unfold valK
  repeat' split
  · exact h1
  · unfold WideV; omega
  · unfold WideV; omega
  · exact h4

set_option maxRecDepth 100000 in
set_option maxHeartbeats 3200000 in
theorem specOT_bad (te k h t i v : Int) (fo : Bool) (c : Int) (w : World) (hk : IsOF k h t i v c) (hc : c ≠ 0) : Calls Tryd.prog 15 #[.agg #[.int .i64 te, .int .i64 k, .int .i64 h, .int .i64 t, .int .i64 i, .int .i64 v, .bool fo]] w (RetTR w c ⟨#[]⟩) := by
  have HK := Lib.hid hk
  have HB0 := Lib.hid (((Below.refl _ w).alloc (Nat.le_refl _) (.cells #[.int .i64 te, .int .i64 k, .int .i64 h, .int .i64 t, .int .i64 i, .int .i64 v, .bool fo] 38)).alloc (by simp) (.cells #[.int .i64 0, .string ⟨#[]⟩] 36))
  have R_0 := Lib.hid (Blk.new_at (w := w.alloc (.cells #[.int .i64 te, .int .i64 k, .int .i64 h, .int .i64 t, .int .i64 i, .int .i64 v, .bool fo] 38)) (cs := #[.int .i64 0, .string ⟨#[]⟩]) (t := 36) (w.heap.size + 1) (by simp))
  have hc0 : (c == 0) = false := by simpa using hc
  clear hk hc
  go_enter Tryd.func15, Tryd.ntmps15
  go_wp2_with fail
  refine (specOF_any te k h t i v fo c _ HK.out).mono ?_
  rintro e w1 ⟨rfl, hb⟩
  have HB1 := Lib.hid (HB0.out.trans (hb.mono (by simp; omega)))
  have R_1 := Lib.hid (R_0.out.below hb)
  clear hb
  have r0 := R_1.out.at 0 rfl; have r1 := R_1.out.at 1 rfl; have f0 := R_1.out.free 0 rfl; have f1 := R_1.out.free 1 rfl; have lR := R_1.out.1
  go_wp2
  exact bodyPost_ret (v := .agg #[.int .i64 c, .string ⟨#[]⟩]) (by simp [results, Tryd.results15, go_sem, r0, r1, World.cell?_setCell_other, World.cell?_setCell_same']) rfl ⟨rfl, (HB1.out.setCell (p := ⟨w.heap.size + 1, 0, none⟩) (by simp) _).setCell (p := ⟨w.heap.size + 1, 1, none⟩) (by simp) _⟩
end Go.Proofs.YtkeeoelbnmacdaaDoor

namespace Go.Proofs.YtkeeoelbnmacdaaDoor
open Go.RowKit
set_option linter.unusedVariables false

theorem l10Wide_is (v : Int) (r : Bool) (w : World) (hr : r = true ↔ WideV v) : Calls Tryd.prog 31 #[.int .i64 v] w fun e w' => e = .returned (.bool r) ∧ w = w' := by
  unfold WideV at hr
  cases r with
  | true =>
    obtain ⟨h1, h2⟩ := hr.1 rfl
    clear hr
    go_enter Tryd.func31, Tryd.ntmps31
    go_wp2
    all_goals first | (exfalso; omega) | skip
    go_ret
    exact ⟨by simp <;> omega, rfl⟩
  | false =>
    have h1 : ¬ (-9999999999 ≤ v ∧ v ≤ 9999999999) := fun h => absurd (hr.2 h) (by simp)
    clear hr
    rcases (show v < -9999999999 ∨ (-9999999999 ≤ v ∧ 9999999999 < v) by omega) with h2 | ⟨h2, h3⟩
    · clear h1
      go_enter Tryd.func31, Tryd.ntmps31
      go_wp2
      go_ret
      exact ⟨rfl, rfl⟩
    · clear h1
      have hv9 : decide (v ≤ 9999999999) = false := by simp; omega
      go_enter Tryd.func31, Tryd.ntmps31
      go_wp2
      go_ret
      exact ⟨by simp <;> omega, rfl⟩

theorem l10Wide_yes (v : Int) (w : World) (h : WideV v) : Calls Tryd.prog 31 #[.int .i64 v] w fun e w' => e = .returned (.bool true) ∧ w' = w := (l10Wide_is v true w ⟨fun _ => h, fun _ => rfl⟩).mono fun _ _ ⟨a, b⟩ => ⟨a, b.symm⟩

theorem l10Wide_no (v : Int) (w : World) (h : ¬ WideV v) : Calls Tryd.prog 31 #[.int .i64 v] w fun e w' => e = .returned (.bool false) ∧ w' = w := (l10Wide_is v false w ⟨fun x => absurd x (by simp), fun x => absurd x h⟩).mono fun _ _ ⟨a, b⟩ => ⟨a, b.symm⟩

set_option maxRecDepth 100000 in
set_option maxHeartbeats 3200000 in
theorem specOT_far (te k h t i v : Int) (fo : Bool) (w : World) (hk : IsOF k h t i v 0) (hn : ¬ (WideV te ∧ WideV h ∧ WideV t)) : Calls Tryd.prog 15 #[.agg #[.int .i64 te, .int .i64 k, .int .i64 h, .int .i64 t, .int .i64 i, .int .i64 v, .bool fo]] w (RetTR w 3 ⟨#[]⟩) := by
  have HK := Lib.hid hk
  have HB0 := Lib.hid (((Below.refl _ w).alloc (Nat.le_refl _) (.cells #[.int .i64 te, .int .i64 k, .int .i64 h, .int .i64 t, .int .i64 i, .int .i64 v, .bool fo] 38)).alloc (by simp) (.cells #[.int .i64 0, .string ⟨#[]⟩] 36))
  have R_0 := Lib.hid (Blk.new_at (w := w.alloc (.cells #[.int .i64 te, .int .i64 k, .int .i64 h, .int .i64 t, .int .i64 i, .int .i64 v, .bool fo] 38)) (cs := #[.int .i64 0, .string ⟨#[]⟩]) (t := 36) (w.heap.size + 1) (by simp))
  have A_0 := Lib.hid ((Blk.new_at (w := w) (cs := #[.int .i64 te, .int .i64 k, .int .i64 h, .int .i64 t, .int .i64 i, .int .i64 v, .bool fo]) (t := 38) w.heap.size rfl).alloc (.cells #[.int .i64 0, .string ⟨#[]⟩] 36))
  clear hk
  by_cases g1 : WideV te
  · by_cases g2 : WideV h
    · have g3 : ¬ WideV t := fun x => hn ⟨g1, g2, x⟩
      have HW1 := Lib.hid g1; have HW2 := Lib.hid g2; have HW3 := Lib.hid g3
      clear hn g1 g2 g3
      go_enter Tryd.func15, Tryd.ntmps15
      go_wp2_with fail
      refine (specOF_any te k h t i v fo 0 _ HK.out).mono ?_
      rintro e w1 ⟨rfl, hb⟩
      have HB1 := Lib.hid (HB0.out.trans (hb.mono (by simp; omega)))
      have R_1 := Lib.hid (R_0.out.below hb)
      have A_1 := Lib.hid (A_0.out.below hb)
      clear hb
      have r0 := R_1.out.at 0 rfl; have r1 := R_1.out.at 1 rfl; have f0 := R_1.out.free 0 rfl; have f1 := R_1.out.free 1 rfl; have lR := R_1.out.1
      have c0 := A_1.out.at 0 rfl; have c1 := A_1.out.at 1 rfl; have c2 := A_1.out.at 2 rfl; have c3 := A_1.out.at 3 rfl; have c4 := A_1.out.at 4 rfl; have c5 := A_1.out.at 5 rfl; have c6 := A_1.out.at 6 rfl; have lA := A_1.out.1
      go_wp2_with (first | (go_at_call 31; (with_reducible refine (l10Wide_yes te _ HW1.out).mono ?_); rintro e w2 ⟨rfl, hw2⟩; subst w2) | (go_at_call 31; (with_reducible refine (l10Wide_yes h _ HW2.out).mono ?_); rintro e w2 ⟨rfl, hw2⟩; subst w2) | (go_at_call 31; (with_reducible refine (l10Wide_no t _ HW3.out).mono ?_); rintro e w2 ⟨rfl, hw2⟩; subst w2))
      refine bodyPost_ret (v := .agg #[.int .i64 3, .string ⟨#[]⟩]) (by simp [results, Tryd.results15, go_sem, r0, r1, World.cell?_setCell_other, World.cell?_setCell_same']) rfl ⟨rfl, ?_⟩
      repeat (first | (with_reducible refine Below.setCell ?_ (by (try simp); (try omega)) _) | (with_reducible refine Below.alloc ?_ (by (try simp); (try omega)) _))
      exact HB1.out
    · have HW1 := Lib.hid g1; have HW2 := Lib.hid g2
      clear hn g1 g2
      go_enter Tryd.func15, Tryd.ntmps15
      go_wp2_with fail
      refine (specOF_any te k h t i v fo 0 _ HK.out).mono ?_
      rintro e w1 ⟨rfl, hb⟩
      have HB1 := Lib.hid (HB0.out.trans (hb.mono (by simp; omega)))
      have R_1 := Lib.hid (R_0.out.below hb)
      have A_1 := Lib.hid (A_0.out.below hb)
      clear hb
      have r0 := R_1.out.at 0 rfl; have r1 := R_1.out.at 1 rfl; have f0 := R_1.out.free 0 rfl; have f1 := R_1.out.free 1 rfl; have lR := R_1.out.1
      have c0 := A_1.out.at 0 rfl; have c1 := A_1.out.at 1 rfl; have c2 := A_1.out.at 2 rfl; have c3 := A_1.out.at 3 rfl; have c4 := A_1.out.at 4 rfl; have c5 := A_1.out.at 5 rfl; have c6 := A_1.out.at 6 rfl; have lA := A_1.out.1
      go_wp2_with (first | (go_at_call 31; (with_reducible refine (l10Wide_yes te _ HW1.out).mono ?_); rintro e w2 ⟨rfl, hw2⟩; subst w2) | (go_at_call 31; (with_reducible refine (l10Wide_no h _ HW2.out).mono ?_); rintro e w2 ⟨rfl, hw2⟩; subst w2))
      refine bodyPost_ret (v := .agg #[.int .i64 3, .string ⟨#[]⟩]) (by simp [results, Tryd.results15, go_sem, r0, r1, World.cell?_setCell_other, World.cell?_setCell_same']) rfl ⟨rfl, ?_⟩
      repeat (first | (with_reducible refine Below.setCell ?_ (by (try simp); (try omega)) _) | (with_reducible refine Below.alloc ?_ (by (try simp); (try omega)) _))
      exact HB1.out
  · have HW1 := Lib.hid g1
    clear hn g1
    go_enter Tryd.func15, Tryd.ntmps15
    go_wp2_with fail
    refine (specOF_any te k h t i v fo 0 _ HK.out).mono ?_
    rintro e w1 ⟨rfl, hb⟩
    have HB1 := Lib.hid (HB0.out.trans (hb.mono (by simp; omega)))
    have R_1 := Lib.hid (R_0.out.below hb)
    have A_1 := Lib.hid (A_0.out.below hb)
    clear hb
    have r0 := R_1.out.at 0 rfl; have r1 := R_1.out.at 1 rfl; have f0 := R_1.out.free 0 rfl; have f1 := R_1.out.free 1 rfl; have lR := R_1.out.1
    have c0 := A_1.out.at 0 rfl; have c1 := A_1.out.at 1 rfl; have c2 := A_1.out.at 2 rfl; have c3 := A_1.out.at 3 rfl; have c4 := A_1.out.at 4 rfl; have c5 := A_1.out.at 5 rfl; have c6 := A_1.out.at 6 rfl; have lA := A_1.out.1
    go_wp2_with (first | (go_at_call 31; (with_reducible refine (l10Wide_no te _ HW1.out).mono ?_); rintro e w2 ⟨rfl, hw2⟩; subst w2))
    refine bodyPost_ret (v := .agg #[.int .i64 3, .string ⟨#[]⟩]) (by simp [results, Tryd.results15, go_sem, r0, r1, World.cell?_setCell_other, World.cell?_setCell_same']) rfl ⟨rfl, ?_⟩
    repeat (first | (with_reducible refine Below.setCell ?_ (by (try simp); (try omega)) _) | (with_reducible refine Below.alloc ?_ (by (try simp); (try omega)) _))
    exact HB1.out
end Go.Proofs.YtkeeoelbnmacdaaDoor

namespace Go.Proofs.YtkeeoelbnmacdaaDoor
open Go.RowKit
set_option linter.unusedVariables false

theorem capO2 {w : World} {b : Nat} {te k h i v t : Int} {fo : Bool} (hB : Blk w b [.int .i64 te, .int .i64 k, .int .i64 h, .int .i64 t, .int .i64 i, .int .i64 v, .bool fo]) : w.cell? ⟨b, 0, none⟩ = some (.int .i64 te) ∧ w.cell? ⟨b, 1, none⟩ = some (.int .i64 k) := ⟨hB.at 0 rfl, hB.at 1 rfl⟩

theorem valK_at {w : World} {B : Nat} {h i v t : Int} (hB : Blk w B [.int .i64 h, .int .i64 i, .int .i64 v, .int .i64 t]) : ∀ j, j < 4 → w.cell? ⟨B, j, none⟩ = some (.int .i64 (valK h i v t j)) := by
  intro j hj
  match j, hj with
  | 0, _ => exact hB.at 0 rfl
  | 1, _ => exact hB.at 1 rfl
  | 2, _ => exact hB.at 2 rfl
  | 3, _ => exact hB.at 3 rfl

theorem askK_at {w : World} {B : Nat} {k : Int} (hB : Blk w B [.bool (nH k), .bool (nI k), .bool (nV k), .bool (nT k)]) : ∀ j, j < 4 → w.cell? ⟨B, j, none⟩ = some (.bool (askK k j)) := by
  intro j hj
  match j, hj with
  | 0, _ => exact hB.at 0 rfl
  | 1, _ => exact hB.at 1 rfl
  | 2, _ => exact hB.at 2 rfl
  | 3, _ => exact hB.at 3 rfl

set_option maxRecDepth 100000 in
set_option maxHeartbeats 3200000 in
theorem specOT_ok (te k h t i v : Int) (fo : Bool) (w : World) (hk : IsOF k h t i v 0) (h1 : WideV te) (h2 : WideV h) (h3 : WideV t) : Calls Tryd.prog 15 #[.agg #[.int .i64 te, .int .i64 k, .int .i64 h, .int .i64 t, .int .i64 i, .int .i64 v, .bool fo]] w (RetTR w 0 (otS 0 te k h t i v fo)) := by
  have HK := Lib.hid hk
  obtain ⟨hk1, hi1, hv1⟩ := ot_ok hk
  have HB0 := Lib.hid (((Below.refl _ w).alloc (Nat.le_refl _) (.cells #[.int .i64 te, .int .i64 k, .int .i64 h, .int .i64 t, .int .i64 i, .int .i64 v, .bool fo] 38)).alloc (by simp) (.cells #[.int .i64 0, .string ⟨#[]⟩] 36))
  have R_0 := Lib.hid (Blk.new_at (w := w.alloc (.cells #[.int .i64 te, .int .i64 k, .int .i64 h, .int .i64 t, .int .i64 i, .int .i64 v, .bool fo] 38)) (cs := #[.int .i64 0, .string ⟨#[]⟩]) (t := 36) (w.heap.size + 1) (by simp))
  have A_0 := Lib.hid ((Blk.new_at (w := w) (cs := #[.int .i64 te, .int .i64 k, .int .i64 h, .int .i64 t, .int .i64 i, .int .i64 v, .bool fo]) (t := 38) w.heap.size rfl).alloc (.cells #[.int .i64 0, .string ⟨#[]⟩] 36))
  have HW1 := Lib.hid h1; have HW2 := Lib.hid h2; have HW3 := Lib.hid h3
  have HS : Hid (otS 0 te k h t i v fo = if fo then opTx (otB te k) k h i v t 4 ++ (⟨#[32, 110, 111, 119]⟩ : ByteArray) else opTx (otB te k) k h i v t 4) := Lib.hid (if_pos ⟨rfl, h1, h2, h3⟩)
  have HWV := Lib.hid (valK_wide h2 hi1 hv1 h3)
  have hs1 := itoaB_size te h1
  have hs2 := nmB_size k
  have HSZ := Lib.hid (opTx_size (k := k) (otB_size (k := k) h1) HWV.out)
  have HK1 := Lib.hid hk1
  have HH1 : Hid (-9999999999 ≤ te ∧ te ≤ 9999999999) := Lib.hid h1
  obtain ⟨S, hS⟩ : ∃ S, otS 0 te k h t i v fo = S := ⟨_, rfl⟩
  rw [hS] at HS ⊢
  clear hk hS h1 h2 h3 hi1 hv1 hk1
  go_enter Tryd.func15, Tryd.ntmps15
  go_wp2_with fail
  refine (specOF_any te k h t i v fo 0 _ HK.out).mono ?_
  rintro e w1 ⟨rfl, hb⟩
  have HB1 := Lib.hid (HB0.out.trans (hb.mono (by simp; omega)))
  have R_1 := Lib.hid (R_0.out.below hb)
  have A_1 := Lib.hid (A_0.out.below hb)
  clear hb
  have r0 := R_1.out.at 0 rfl; have r1 := R_1.out.at 1 rfl; have f0 := R_1.out.free 0 rfl; have f1 := R_1.out.free 1 rfl; have lR := R_1.out.1
  have c0 := A_1.out.at 0 rfl; have c1 := A_1.out.at 1 rfl; have c2 := A_1.out.at 2 rfl; have c3 := A_1.out.at 3 rfl; have c4 := A_1.out.at 4 rfl; have c5 := A_1.out.at 5 rfl; have c6 := A_1.out.at 6 rfl; have lA := A_1.out.1
  have z1 := HB1.out.size
  go_upto_region 6 with (first | (go_at_call 31; (with_reducible refine (l10Wide_yes te _ HW1.out).mono ?_); rintro e w2 ⟨rfl, hw2⟩; subst w2) | (go_at_call 31; (with_reducible refine (l10Wide_yes h _ HW2.out).mono ?_); rintro e w2 ⟨rfl, hw2⟩; subst w2) | (go_at_call 31; (with_reducible refine (l10Wide_yes t _ HW3.out).mono ?_); rintro e w2 ⟨rfl, hw2⟩; subst w2))
  clear c0 c1 c2 c3 c4 c5 c6 lA r0 r1 f0 f1 lR
  have hsp : (⟨#[32]⟩ : ByteArray).size = 1 := rfl
  have hn1 : ¬ 9223372036854775807 < (itoaB te).size + 1 := by omega
  have hn2 : ¬ 9223372036854775807 < (itoaB te).size + 1 + (nmB k).size := by omega
  have A_d := Lib.hid A_1.out.drew; have R_d := Lib.hid R_1.out.drew; have HB_d := Lib.hid HB1.out.drew
  go_region_held3 (fun w' => w'.cell? ⟨w.heap.size, 0, none⟩ = some (.int .i64 te) ∧ w'.cell? ⟨w.heap.size, 1, none⟩ = some (.int .i64 k))
    (first | (with_reducible exact capO2 A_1.out) | (with_reducible exact capO2 A_d.out) | (with_reducible exact capO2 A_5.out) | (with_reducible exact capO2 A_6.out))
    (first | (go_at_call 32; (with_reducible refine (l10Signed_any te _ HH1.out).mono ?_); rintro e w5 ⟨rfl, hb⟩; have HB5 := Lib.hid (thru0 HB_d.out hb); have A_5 := Lib.hid (A_d.out.below hb); have R_5 := Lib.hid (R_d.out.below hb); clear hb) | (go_at_call 33; (with_reducible refine (l10Name_any k _ HK1.out).mono ?_); rintro e w6 ⟨rfl, hb⟩; have HB6 := Lib.hid (thru0 HB5.out hb); have A_6 := Lib.hid (A_5.out.below hb); have R_6 := Lib.hid (R_5.out.below hb); clear hb))
  have c0 := A_6.out.at 0 rfl; have c1 := A_6.out.at 1 rfl; have c2 := A_6.out.at 2 rfl; have c3 := A_6.out.at 3 rfl; have c4 := A_6.out.at 4 rfl; have c5 := A_6.out.at 5 rfl; have c6 := A_6.out.at 6 rfl; have lA := A_6.out.1
  have HB7 := Lib.hid (HB6.out.alloc HB6.out.size (.cells #[.int .i64 h, .int .i64 i, .int .i64 v, .int .i64 t] 2))
  have A_7 := Lib.hid (A_6.out.alloc (.cells #[.int .i64 h, .int .i64 i, .int .i64 v, .int .i64 t] 2))
  have R_7 := Lib.hid (R_6.out.alloc (.cells #[.int .i64 h, .int .i64 i, .int .i64 v, .int .i64 t] 2))
  have V_7 := Lib.hid (Blk.new_at (w := w6) (cs := #[.int .i64 h, .int .i64 i, .int .i64 v, .int .i64 t]) (t := 2) w6.heap.size rfl)
  go_wp2_with fail
  refine (l10Asks_any k _ HK1.out).mono ?_
  rintro e w8 ⟨B8, rfl, hB8, hlo8, hb⟩
  have HB8 := Lib.hid (thru0 HB7.out hb)
  have A_8 := Lib.hid (A_7.out.below hb); have R_8 := Lib.hid (R_7.out.below hb); have V_8 := Lib.hid (V_7.out.below hb); have K_8 := Lib.hid hB8
  clear hb hB8 hlo8 c0 c1 c2 c3 c4 c5 c6 lA HB7 A_7 R_7 V_7 A_6 R_6 A_5 R_5 A_d R_d A_1 R_1 HB_d HB6 HB5 HB1 A_0 R_0 HB0
  have HB9 := HB8
  clear hn1 hn2 hs1 hs2
  generalize w6.heap.size = B7 at *
  go_wp2_with fail
  go_loopw [4, 7] (fun u p wr => ∃ j : Nat, j ≤ 4 ∧ p = .int .i64 (j : Int) ∧ u = .string (opTx (otB te k) k h i v t j) ∧ Hid (Below w.heap.size w wr) ∧ Hid (Below w8.heap.size w8 wr)) (fun _ p _ => 4 - (intOf p).toNat)
  case atStart => exact ⟨0, by omega, rfl, rfl, HB8, Below.refl _ _⟩
  case round =>
    obtain ⟨j, hj, rfl, rfl, HBr, HB2⟩ := hrel
    by_cases hlt : j < 4
    · have q0 : (0 : Int) ≤ (j : Int) := by omega
      have q1 : (j : Int) < 4 := by omega
      have x0 := askK_at (K_8.out.below HB2.out) j hlt
      have y0 := valK_at (V_8.out.below HB2.out) j hlt
      have lk := (K_8.out.below HB2.out).1
      have lv := (V_8.out.below HB2.out).1
      have hsz := HSZ.out j
      have hwj := Lib.hid (HWV.out j)
      have HT1 : Hid (opTx (otB te k) k h i v t (j + 1) = if askK k j then (opTx (otB te k) k h i v t j ++ (⟨#[32]⟩ : ByteArray)) ++ itoaB (valK h i v t j) else opTx (otB te k) k h i v t j) := Lib.hid rfl
      have hs2 := itoaB_size _ hwj.out
      have hwx : Hid (-9999999999 ≤ valK h i v t j ∧ valK h i v t j ≤ 9999999999) := hwj
      clear hwj
      generalize opTx (otB te k) k h i v t j = T at *
      generalize valK h i v t j = x at *
      generalize hak : askK k j = ak at *
      cases ak with
      | false =>
        have HT2 : Hid (opTx (otB te k) k h i v t (j + 1) = T) := Lib.hid HT1.out
        clear HT1 hak y0
        go_wp2
        go_roundw
        case rel => first | exact ⟨j + 1, by omega, by go_num, by rw [HT2.out], HBr, HB2⟩ | ((repeat apply Exists.intro); exact ⟨⟨j + 1, by omega, by go_num, by rw [HT2.out], HBr, HB2⟩, rfl⟩)
        case measure => simp [intOf]; omega
      | true =>
        have HT2 : Hid (opTx (otB te k) k h i v t (j + 1) = (T ++ (⟨#[32]⟩ : ByteArray)) ++ itoaB x) := Lib.hid HT1.out
        clear HT1 hak
        go_wp2_with fail
        refine (l10Signed_any x _ hwx.out).mono ?_
        rintro e w9 ⟨rfl, hb⟩
        have HBn := Lib.hid (thru0 HBr.out hb); have HB2n := Lib.hid (thru0 HB2.out hb)
        have e1 : (T ++ (⟨#[32]⟩ : ByteArray)).size = T.size + 1 := by rw [ByteArray.size_append]; rfl
        clear hb x0 y0
        go_wp2
        all_goals first | (exfalso; omega) | skip
        go_roundw
        case rel => first | exact ⟨j + 1, by omega, by go_num, by rw [HT2.out], HBn, HB2n⟩ | ((repeat apply Exists.intro); exact ⟨⟨j + 1, by omega, by go_num, by rw [HT2.out], HBn, HB2n⟩, rfl⟩)
        case measure => simp [intOf]; omega
    · obtain rfl : j = 4 := by omega
      have A_9 := Lib.hid (A_8.out.below HB2.out); have R_9 := Lib.hid (R_8.out.below HB2.out)
      have c6 := A_9.out.at 6 rfl; have lA := A_9.out.1
      have r0 := R_9.out.at 0 rfl; have r1 := R_9.out.at 1 rfl; have f0 := R_9.out.free 0 rfl; have f1 := R_9.out.free 1 rfl; have lR := R_9.out.1
      have hsz := HSZ.out 4
      generalize opTx (otB te k) k h i v t 4 = T at *
      cases fo with
      | false =>
        have HS2 : Hid (S = T) := Lib.hid HS.out
        clear HS
        go_wp2
        refine bodyPost_ret (v := .agg #[.int .i64 0, .string T]) (by simp [results, Tryd.results15, go_sem, r0, r1, World.cell?_setCell_other, World.cell?_setCell_same']) rfl ⟨by rw [HS2.out], ?_⟩
        repeat (first | (with_reducible refine Below.setCell ?_ (by (try simp); (try omega)) _) | (with_reducible refine Below.alloc ?_ (by (try simp); (try omega)) _))
        exact HBr.out
      | true =>
        have HS2 : Hid (S = T ++ (⟨#[32, 110, 111, 119]⟩ : ByteArray)) := Lib.hid HS.out
        clear HS
        go_wp2
        all_goals first | (exfalso; omega) | skip
        refine bodyPost_ret (v := .agg #[.int .i64 0, .string (T ++ (⟨#[32, 110, 111, 119]⟩ : ByteArray))]) (by simp [results, Tryd.results15, go_sem, r0, r1, World.cell?_setCell_other, World.cell?_setCell_same']) rfl ⟨by rw [HS2.out], ?_⟩
        repeat (first | (with_reducible refine Below.setCell ?_ (by (try simp); (try omega)) _) | (with_reducible refine Below.alloc ?_ (by (try simp); (try omega)) _))
        exact HBr.out
end Go.Proofs.YtkeeoelbnmacdaaDoor

namespace Go.Proofs.YtkeeoelbnmacdaaDoor
open Go.RowKit
set_option linter.unusedVariables false

set_option maxHeartbeats 1600000 in
theorem numberBound_any (v : Int) (w : World) : Calls Tryd.prog 37 #[.int .i64 v] w fun e w' => e = .returned (.agg #[.int .i64 v, .int .i64 (-9999999999), .int .i64 9999999999]) ∧ Below w.heap.size w w' := by
  go_enter Tryd.func37, Tryd.ntmps37
  go_wp2
  exact bodyPost_ret (v := .agg #[.int .i64 v, .int .i64 (-9999999999), .int .i64 9999999999]) (by simp [results, Tryd.results37, go_sem]) rfl ⟨rfl, (Below.refl _ _).alloc (Nat.le_refl _) _⟩
end Go.Proofs.YtkeeoelbnmacdaaDoor

namespace Go.Proofs.YtkeeoelbnmacdaaDoor
open Go.RowKit
set_option linter.unusedVariables false

set_option maxRecDepth 100000 in
set_option maxHeartbeats 3200000 in
theorem implOT_bad (te k h t i v : Int) (fo : Bool) (c : Int) (w : World) (hk : IsOF k h t i v c) (hc : c ≠ 0) : Calls Tryd.prog 17 #[.agg #[.int .i64 te, .int .i64 k, .int .i64 h, .int .i64 t, .int .i64 i, .int .i64 v, .bool fo]] w (RetTR w c ⟨#[]⟩) := by
  have HK := Lib.hid hk
  have HB0 := Lib.hid (((Below.refl _ w).alloc (Nat.le_refl _) (.cells #[.int .i64 te, .int .i64 k, .int .i64 h, .int .i64 t, .int .i64 i, .int .i64 v, .bool fo] 38)).alloc (by simp) (.cells #[.int .i64 0, .string ⟨#[]⟩] 36))
  have R_0 := Lib.hid (Blk.new_at (w := w.alloc (.cells #[.int .i64 te, .int .i64 k, .int .i64 h, .int .i64 t, .int .i64 i, .int .i64 v, .bool fo] 38)) (cs := #[.int .i64 0, .string ⟨#[]⟩]) (t := 36) (w.heap.size + 1) (by simp))
  have A_0 := Lib.hid ((Blk.new_at (w := w) (cs := #[.int .i64 te, .int .i64 k, .int .i64 h, .int .i64 t, .int .i64 i, .int .i64 v, .bool fo]) (t := 38) w.heap.size rfl).alloc (.cells #[.int .i64 0, .string ⟨#[]⟩] 36))
  have hc0 : (c == 0) = false := by simpa using hc
  clear hk hc
  go_enter Tryd.func17, Tryd.ntmps17
  go_wp2_with fail
  refine (implOF_any te k h t i v fo c _ HK.out).mono ?_
  rintro e w1 ⟨rfl, hb⟩
  have HB1 := Lib.hid (HB0.out.trans (hb.mono (by simp; omega)))
  have R_1 := Lib.hid (R_0.out.below hb)
  have A_1 := Lib.hid (A_0.out.below hb)
  clear hb
  have r0 := R_1.out.at 0 rfl; have r1 := R_1.out.at 1 rfl; have f0 := R_1.out.free 0 rfl; have f1 := R_1.out.free 1 rfl; have lR := R_1.out.1
  have c0 := A_1.out.at 0 rfl; have c1 := A_1.out.at 1 rfl; have c2 := A_1.out.at 2 rfl; have c3 := A_1.out.at 3 rfl; have c4 := A_1.out.at 4 rfl; have c5 := A_1.out.at 5 rfl; have c6 := A_1.out.at 6 rfl; have lA := A_1.out.1
  go_wp2
  refine bodyPost_ret (v := .agg #[.int .i64 c, .string ⟨#[]⟩]) (by simp [results, Tryd.results17, go_sem, r0, r1, World.cell?_setCell_other, World.cell?_setCell_same']) rfl ⟨rfl, ?_⟩
  repeat (first | (with_reducible refine Below.setCell ?_ (by (try simp); (try omega)) _) | (with_reducible refine Below.alloc ?_ (by (try simp); (try omega)) _))
  exact HB1.out

theorem capO5 {w : World} {b : Nat} {te k h i v t : Int} {fo : Bool} (hB : Blk w b [.int .i64 te, .int .i64 k, .int .i64 h, .int .i64 t, .int .i64 i, .int .i64 v, .bool fo]) : w.cell? ⟨b, 0, none⟩ = some (.int .i64 te) ∧ w.cell? ⟨b, 2, none⟩ = some (.int .i64 h) ∧ w.cell? ⟨b, 3, none⟩ = some (.int .i64 t) := ⟨hB.at 0 rfl, hB.at 2 rfl, hB.at 3 rfl⟩

set_option maxRecDepth 100000 in
set_option maxHeartbeats 6400000 in
theorem implOT_far (te k h t i v : Int) (fo : Bool) (w : World) (hk : IsOF k h t i v 0) (hn : ¬ (WideV te ∧ WideV h ∧ WideV t)) : Calls Tryd.prog 17 #[.agg #[.int .i64 te, .int .i64 k, .int .i64 h, .int .i64 t, .int .i64 i, .int .i64 v, .bool fo]] w (RetTR w 3 ⟨#[]⟩) := by
  have HK := Lib.hid hk
  have HB0 := Lib.hid (((Below.refl _ w).alloc (Nat.le_refl _) (.cells #[.int .i64 te, .int .i64 k, .int .i64 h, .int .i64 t, .int .i64 i, .int .i64 v, .bool fo] 38)).alloc (by simp) (.cells #[.int .i64 0, .string ⟨#[]⟩] 36))
  have R_0 := Lib.hid (Blk.new_at (w := w.alloc (.cells #[.int .i64 te, .int .i64 k, .int .i64 h, .int .i64 t, .int .i64 i, .int .i64 v, .bool fo] 38)) (cs := #[.int .i64 0, .string ⟨#[]⟩]) (t := 36) (w.heap.size + 1) (by simp))
  have A_0 := Lib.hid ((Blk.new_at (w := w) (cs := #[.int .i64 te, .int .i64 k, .int .i64 h, .int .i64 t, .int .i64 i, .int .i64 v, .bool fo]) (t := 38) w.heap.size rfl).alloc (.cells #[.int .i64 0, .string ⟨#[]⟩] 36))
  obtain ⟨q, hq⟩ : ∃ q : Bool, q = true := ⟨_, rfl⟩
  have HQ : Hid ((q = false ∧ (-9999999999 ≤ te ∧ te ≤ 9999999999) ∧ (-9999999999 ≤ h ∧ h ≤ 9999999999) ∧ (-9999999999 ≤ t ∧ t ≤ 9999999999)) ∨ (q = true ∧ ¬ ((-9999999999 ≤ te ∧ te ≤ 9999999999) ∧ (-9999999999 ≤ h ∧ h ≤ 9999999999) ∧ (-9999999999 ≤ t ∧ t ≤ 9999999999)))) := Lib.hid (.inr ⟨hq, hn⟩)
  have HQT := Lib.hid hq
  clear hq
  clear hk hn
  go_enter Tryd.func17, Tryd.ntmps17
  go_wp2_with fail
  refine (implOF_any te k h t i v fo 0 _ HK.out).mono ?_
  rintro e w1 ⟨rfl, hb⟩
  have HB1 := Lib.hid (HB0.out.trans (hb.mono (by simp; omega)))
  have R_1 := Lib.hid (R_0.out.below hb)
  have A_1 := Lib.hid (A_0.out.below hb)
  clear hb
  have r0 := R_1.out.at 0 rfl; have r1 := R_1.out.at 1 rfl; have f0 := R_1.out.free 0 rfl; have f1 := R_1.out.free 1 rfl; have lR := R_1.out.1
  have c0 := A_1.out.at 0 rfl; have c1 := A_1.out.at 1 rfl; have c2 := A_1.out.at 2 rfl; have c3 := A_1.out.at 3 rfl; have c4 := A_1.out.at 4 rfl; have c5 := A_1.out.at 5 rfl; have c6 := A_1.out.at 6 rfl; have lA := A_1.out.1
  go_upto_region 4 with (fail)
  clear c0 c1 c2 c3 c4 c5 c6 lA r0 r1 f0 f1 lR
  have A_d := Lib.hid A_1.out.drew; have R_d := Lib.hid R_1.out.drew; have HB_d := Lib.hid HB1.out.drew
  go_region_held3 (fun w' => w'.cell? ⟨w.heap.size, 0, none⟩ = some (.int .i64 te) ∧ w'.cell? ⟨w.heap.size, 2, none⟩ = some (.int .i64 h) ∧ w'.cell? ⟨w.heap.size, 3, none⟩ = some (.int .i64 t))
    (first | (with_reducible exact capO5 A_1.out) | (with_reducible exact capO5 A_d.out) | (with_reducible exact capO5 A_5.out) | (with_reducible exact capO5 (A_5.out.alloc _)) | (with_reducible exact capO5 A_6.out))
    (first | (go_at_call 37; (with_reducible refine (numberBound_any _ _).mono ?_); rintro e w5 ⟨rfl, hb⟩; have HB_d := Lib.hid (thru0 HB_d.out hb); have A_d := Lib.hid (A_d.out.below hb); have R_d := Lib.hid (R_d.out.below hb); have HB5 := HB_d; have A_5 := A_d; have R_5 := R_d; clear hb) | (go_at_call 36; refine (isOut3b _ _ _ _ _ _ _ _ _ _ _ q (Blk.new_at (w5.heap.size) rfl) HQ.out).mono ?_; rintro e w6 ⟨rfl, hb⟩; have HB6 := Lib.hid (thru1 HB5.out hb); have A_6 := Lib.hid ((A_5.out.alloc _).below hb); have R_6 := Lib.hid ((R_5.out.alloc _).below hb); clear hb))
  have hqt := HQT.out
  subst hqt
  have r0 := R_6.out.at 0 rfl; have r1 := R_6.out.at 1 rfl; have f0 := R_6.out.free 0 rfl; have f1 := R_6.out.free 1 rfl; have lR := R_6.out.1
  go_wp2
  refine bodyPost_ret (v := .agg #[.int .i64 3, .string ⟨#[]⟩]) (by simp [results, Tryd.results17, go_sem, r0, r1, World.cell?_setCell_other, World.cell?_setCell_same']) rfl ⟨rfl, ?_⟩
  repeat (first | (with_reducible refine Below.setCell ?_ (by (try simp); (try omega)) _) | (with_reducible refine Below.alloc ?_ (by (try simp); (try omega)) _))
  exact HB6.out
end Go.Proofs.YtkeeoelbnmacdaaDoor

namespace Go.Proofs.YtkeeoelbnmacdaaDoor
open Go.RowKit
set_option linter.unusedVariables false

def spB : ByteArray := ⟨#[32]⟩

def txW (acc : ByteArray) (l : List ByteArray) : ByteArray := l.foldl (fun a x => (a ++ spB) ++ x) acc

theorem txW_cons (a x : ByteArray) (l : List ByteArray) : txW a (x :: l) = txW ((a ++ spB) ++ x) l := rfl

theorem txW_app (a : ByteArray) (l m : List ByteArray) : txW a (l ++ m) = txW (txW a l) m := by simp [txW]

theorem txW_data : ∀ (l : List ByteArray) (a : ByteArray), (txW a l).data.toList = a.data.toList ++ Lib.joinTail [32] (l.map (·.data.toList))
  | [], a => by simp [txW, Lib.joinTail]
  | x :: l, a => by
    rw [txW_cons, txW_data l]
    simp [Lib.joinTail, spB, ByteArray.data_append]

theorem join_txW (a : ByteArray) (l : List ByteArray) : (⟨(Lib.join ((a :: l).map (·.data.toList)) (⟨#[32]⟩ : ByteArray).data.toList).toArray⟩ : ByteArray) = txW a l := by
  apply ByteArray.ext
  apply Array.toList_inj.1
  rw [txW_data]
  simp [Lib.join_cons]

/-- where the asked numbers stand in an op, in the order of a line -/
def ptrL (k : Int) : List Nat := (if nH k then [2] else []) ++ ((if nI k then [4] else []) ++ ((if nV k then [5] else []) ++ (if nT k then [3] else [])))

def valO (h i v t : Int) (o : Nat) : Int := if o = 2 then h else if o = 4 then i else if o = 5 then v else t

def wordsT (k h i v t : Int) : List ByteArray := (ptrL k).map fun o => itoaB (valO h i v t o)

theorem opTx_words (base : ByteArray) (k h i v t : Int) : opTx base k h i v t 4 = txW base (wordsT k h i v t) := by
  simp only [opTx, askK, valK, wordsT, ptrL]
  cases nH k <;> cases nI k <;> cases nV k <;> cases nT k <;> simp [txW, valO, spB]

theorem ptrL_len (k : Int) : (ptrL k).length ≤ 4 := by
  unfold ptrL
  cases nH k <;> cases nI k <;> cases nV k <;> cases nT k <;> simp

theorem ptrL_mem {k : Int} {o : Nat} (h : o ∈ ptrL k) : o = 2 ∨ o = 3 ∨ o = 4 ∨ o = 5 := by
  unfold ptrL at h
  revert h
  cases nH k <;> cases nI k <;> cases nV k <;> cases nT k <;> simp <;> omega

/-- all words of a line -/
noncomputable def lineW (te k h i v t : Int) (fo : Bool) : List ByteArray := nmB k :: (wordsT k h i v t ++ if fo then [⟨#[110, 111, 119]⟩] else [])
theorem otS_line {te k h t i v : Int} {fo : Bool} (h1 : WideV te) (h2 : WideV h) (h3 : WideV t) : otS 0 te k h t i v fo = txW (itoaB te) (lineW te k h i v t fo) := by
  unfold otS
  rw [if_pos ⟨rfl, h1, h2, h3⟩]
  unfold lineW
  rw [txW_cons, txW_app]
  have e : opTx (otB te k) k h i v t 4 = txW ((itoaB te ++ spB) ++ nmB k) (wordsT k h i v t) := opTx_words _ _ _ _ _ _
  cases fo with
  | false => simp only [Bool.false_eq_true, if_false]; rw [e]; rfl
  | true =>
    simp only [if_true]; rw [e]
    generalize txW ((itoaB te ++ spB) ++ nmB k) (wordsT k h i v t) = T
    show _ = (T ++ spB) ++ (⟨#[110, 111, 119]⟩ : ByteArray)
    rw [ByteArray.append_assoc]
    rfl
end Go.Proofs.YtkeeoelbnmacdaaDoor

