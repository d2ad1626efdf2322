/- Contracts: SameArenas. -/
import Derived.Test.YthejbgmhfajcpaaMk
namespace Go.Proofs.Ythejbgmhfajcpaa
open Go.RowKit
set_option linter.unusedVariables false


theorem slEqual_is (r : Bool) (a1 a2 : Option Addr) (n m c1 c2 : Nat) (f g : Nat → Int) (w : World) (hr : eqB n m f g = r) (s1 : Src w a1 n f) (s2 : Src w a2 m g) (hn : n ≤ 1048576) (hm : m ≤ 1048576) :
    Calls Try.prog 60 #[.slice a1 n c1, .slice a2 m c2] w (RetBool w r) := by
  subst hr
  by_cases h : n = m
  · subst h; exact slEqual_same a1 a2 n c1 c2 f g w s1 s2 hn
  · rw [eqB_no_len h]; exact slEqual_lens a1 a2 n m c1 c2 w h
theorem l1Same_is (r : Bool) (a1 a2 : Option Addr) (n m c1 c2 : Nat) (f g : Nat → Int) (w : World) (hr : eqB n m f g = r) (s1 : Src w a1 n f) (s2 : Src w a2 m g) (hn : n ≤ 1048576) (hm : m ≤ 1048576) :
    Calls Try.prog 61 #[.slice a1 n c1, .slice a2 m c2] w (RetBool w r) := by
  subst hr
  by_cases h : n = m
  · subst h; exact l1Same_same a1 a2 n c1 c2 f g w s1 s2 hn
  · rw [eqB_no_len h]; exact l1Same_lens a1 a2 n m c1 c2 w h

set_option maxHeartbeats 800000 in
theorem implSame_1 (h ac bu h' ac' bu' : Int) (a b : Option Addr) (n c n' c' : Nat) (f g : Nat → Int) (w : World) (s1 : Src w a n f) (s2 : Src w b n' g) (hn : n ≤ 1048576) (hn' : n' ≤ 1048576) (nh : ¬ (h = h')) :
    Calls Try.prog 24 #[.agg #[.int .i64 h, .slice a n c, .int .i64 ac, .int .i64 bu], .agg #[.int .i64 h', .slice b n' c', .int .i64 ac', .int .i64 bu']] w (RetBool w false) := by
  have S1 := Lib.hid s1
  have S2 := Lib.hid s2
  clear s1 s2
  have dnh : (h == h') = false := by simpa using nh
  clear nh
  go_enter Try.func24, Try.ntmps24
  go_wp2
  go_ret
  exact ⟨rfl, ((Below.refl _ _).alloc (Nat.le_refl _) _).alloc (by simp) _⟩

set_option maxHeartbeats 800000 in
theorem implSame_2 (h ac bu h' ac' bu' : Int) (a b : Option Addr) (n c n' c' : Nat) (f g : Nat → Int) (w : World) (s1 : Src w a n f) (s2 : Src w b n' g) (hn : n ≤ 1048576) (hn' : n' ≤ 1048576) (eh : h = h') (na : ¬ (ac = ac')) :
    Calls Try.prog 24 #[.agg #[.int .i64 h, .slice a n c, .int .i64 ac, .int .i64 bu], .agg #[.int .i64 h', .slice b n' c', .int .i64 ac', .int .i64 bu']] w (RetBool w false) := by
  have S1 := Lib.hid s1
  have S2 := Lib.hid s2
  clear s1 s2
  subst eh
  have dna : (ac == ac') = false := by simpa using na
  clear na
  go_enter Try.func24, Try.ntmps24
  go_wp2
  go_ret
  exact ⟨rfl, ((Below.refl _ _).alloc (Nat.le_refl _) _).alloc (by simp) _⟩

set_option maxHeartbeats 800000 in
theorem implSame_3 (h ac bu h' ac' bu' : Int) (a b : Option Addr) (n c n' c' : Nat) (f g : Nat → Int) (w : World) (s1 : Src w a n f) (s2 : Src w b n' g) (hn : n ≤ 1048576) (hn' : n' ≤ 1048576) (eh : h = h') (ea : ac = ac') (nb : ¬ (bu = bu')) :
    Calls Try.prog 24 #[.agg #[.int .i64 h, .slice a n c, .int .i64 ac, .int .i64 bu], .agg #[.int .i64 h', .slice b n' c', .int .i64 ac', .int .i64 bu']] w (RetBool w false) := by
  have S1 := Lib.hid s1
  have S2 := Lib.hid s2
  clear s1 s2
  subst eh
  subst ea
  have dnb : (bu == bu') = false := by simpa using nb
  clear nb
  go_enter Try.func24, Try.ntmps24
  go_wp2
  go_ret
  exact ⟨rfl, ((Below.refl _ _).alloc (Nat.le_refl _) _).alloc (by simp) _⟩

set_option maxHeartbeats 800000 in
theorem implSame_4 (h ac bu h' ac' bu' : Int) (a b : Option Addr) (n c n' c' : Nat) (f g : Nat → Int) (w : World) (s1 : Src w a n f) (s2 : Src w b n' g) (hn : n ≤ 1048576) (hn' : n' ≤ 1048576) (eh : h = h') (ea : ac = ac') (eb : bu = bu') :
    Calls Try.prog 24 #[.agg #[.int .i64 h, .slice a n c, .int .i64 ac, .int .i64 bu], .agg #[.int .i64 h', .slice b n' c', .int .i64 ac', .int .i64 bu']] w (RetBool w (eqB n n' f g)) := by
  have S1 := Lib.hid s1
  have S2 := Lib.hid s2
  clear s1 s2
  subst eh
  subst ea
  subst eb
  go_enter Try.func24, Try.ntmps24
  go_wp2_with (go_at_call 60; (refine (slEqual_is _ _ _ _ _ _ _ f g _ rfl ((S1.out.alloc _).alloc _) ((S2.out.alloc _).alloc _) hn hn').mono ?_); rintro e w1 ⟨rfl, hb⟩; have HB := Lib.hid (thru2 (Below.refl _ _) hb); have hA := Lib.hid (((Blk.new_at (w.heap.size) rfl).alloc _).below hb); have hB := Lib.hid ((Blk.new_at (w.heap.size + 1) (by simp)).below hb); clear hb; have ca0 := hA.out.at 0 rfl; have cb0 := hB.out.at 0 rfl; have ca1 := hA.out.at 1 rfl; have cb1 := hB.out.at 1 rfl; have ca2 := hA.out.at 2 rfl; have cb2 := hB.out.at 2 rfl; have ca3 := hA.out.at 3 rfl; have cb3 := hB.out.at 3 rfl)
  go_ret
  exact ⟨rfl, HB.out⟩

set_option maxHeartbeats 800000 in
theorem specSame_1 (h ac bu h' ac' bu' : Int) (a b : Option Addr) (n c n' c' : Nat) (f g : Nat → Int) (w : World) (s1 : Src w a n f) (s2 : Src w b n' g) (hn : n ≤ 1048576) (hn' : n' ≤ 1048576) (nh : ¬ (h = h')) :
    Calls Try.prog 25 #[.agg #[.int .i64 h, .slice a n c, .int .i64 ac, .int .i64 bu], .agg #[.int .i64 h', .slice b n' c', .int .i64 ac', .int .i64 bu']] w (RetBool w false) := by
  have S1 := Lib.hid s1
  have S2 := Lib.hid s2
  clear s1 s2
  have dnh : (h == h') = false := by simpa using nh
  clear nh
  go_enter Try.func25, Try.ntmps25
  go_wp2
  go_ret
  exact ⟨rfl, ((Below.refl _ _).alloc (Nat.le_refl _) _).alloc (by simp) _⟩

set_option maxHeartbeats 800000 in
theorem specSame_2 (h ac bu h' ac' bu' : Int) (a b : Option Addr) (n c n' c' : Nat) (f g : Nat → Int) (w : World) (s1 : Src w a n f) (s2 : Src w b n' g) (hn : n ≤ 1048576) (hn' : n' ≤ 1048576) (eh : h = h') (eq : eqB n n' f g = false) :
    Calls Try.prog 25 #[.agg #[.int .i64 h, .slice a n c, .int .i64 ac, .int .i64 bu], .agg #[.int .i64 h', .slice b n' c', .int .i64 ac', .int .i64 bu']] w (RetBool w false) := by
  have S1 := Lib.hid s1
  have S2 := Lib.hid s2
  clear s1 s2
  subst eh
  have Heq := Lib.hid eq
  clear eq
  go_enter Try.func25, Try.ntmps25
  go_wp2_with (go_at_call 61; (refine (l1Same_is false _ _ _ _ _ _ f g _ Heq.out ((S1.out.alloc _).alloc _) ((S2.out.alloc _).alloc _) hn hn').mono ?_); rintro e w1 ⟨rfl, hb⟩; have HB := Lib.hid (thru2 (Below.refl _ _) hb); have hA := Lib.hid (((Blk.new_at (w.heap.size) rfl).alloc _).below hb); have hB := Lib.hid ((Blk.new_at (w.heap.size + 1) (by simp)).below hb); clear hb; have ca0 := hA.out.at 0 rfl; have cb0 := hB.out.at 0 rfl; have ca1 := hA.out.at 1 rfl; have cb1 := hB.out.at 1 rfl; have ca2 := hA.out.at 2 rfl; have cb2 := hB.out.at 2 rfl; have ca3 := hA.out.at 3 rfl; have cb3 := hB.out.at 3 rfl)
  go_ret
  exact ⟨rfl, HB.out⟩

set_option maxHeartbeats 800000 in
theorem specSame_3 (h ac bu h' ac' bu' : Int) (a b : Option Addr) (n c n' c' : Nat) (f g : Nat → Int) (w : World) (s1 : Src w a n f) (s2 : Src w b n' g) (hn : n ≤ 1048576) (hn' : n' ≤ 1048576) (eh : h = h') (eq : eqB n n' f g = true) (na : ¬ (ac = ac')) :
    Calls Try.prog 25 #[.agg #[.int .i64 h, .slice a n c, .int .i64 ac, .int .i64 bu], .agg #[.int .i64 h', .slice b n' c', .int .i64 ac', .int .i64 bu']] w (RetBool w false) := by
  have S1 := Lib.hid s1
  have S2 := Lib.hid s2
  clear s1 s2
  subst eh
  have Heq := Lib.hid eq
  clear eq
  have dna : (ac == ac') = false := by simpa using na
  clear na
  go_enter Try.func25, Try.ntmps25
  go_wp2_with (go_at_call 61; (refine (l1Same_is true _ _ _ _ _ _ f g _ Heq.out ((S1.out.alloc _).alloc _) ((S2.out.alloc _).alloc _) hn hn').mono ?_); rintro e w1 ⟨rfl, hb⟩; have HB := Lib.hid (thru2 (Below.refl _ _) hb); have hA := Lib.hid (((Blk.new_at (w.heap.size) rfl).alloc _).below hb); have hB := Lib.hid ((Blk.new_at (w.heap.size + 1) (by simp)).below hb); clear hb; have ca0 := hA.out.at 0 rfl; have cb0 := hB.out.at 0 rfl; have ca1 := hA.out.at 1 rfl; have cb1 := hB.out.at 1 rfl; have ca2 := hA.out.at 2 rfl; have cb2 := hB.out.at 2 rfl; have ca3 := hA.out.at 3 rfl; have cb3 := hB.out.at 3 rfl)
  go_ret
  exact ⟨rfl, HB.out⟩

set_option maxHeartbeats 800000 in
theorem specSame_4 (h ac bu h' ac' bu' : Int) (a b : Option Addr) (n c n' c' : Nat) (f g : Nat → Int) (w : World) (s1 : Src w a n f) (s2 : Src w b n' g) (hn : n ≤ 1048576) (hn' : n' ≤ 1048576) (eh : h = h') (eq : eqB n n' f g = true) (ea : ac = ac') (nb : ¬ (bu = bu')) :
    Calls Try.prog 25 #[.agg #[.int .i64 h, .slice a n c, .int .i64 ac, .int .i64 bu], .agg #[.int .i64 h', .slice b n' c', .int .i64 ac', .int .i64 bu']] w (RetBool w false) := by
  have S1 := Lib.hid s1
  have S2 := Lib.hid s2
  clear s1 s2
  subst eh
  have Heq := Lib.hid eq
  clear eq
  subst ea
  have dnb : (bu == bu') = false := by simpa using nb
  clear nb
  go_enter Try.func25, Try.ntmps25
  go_wp2_with (go_at_call 61; (refine (l1Same_is true _ _ _ _ _ _ f g _ Heq.out ((S1.out.alloc _).alloc _) ((S2.out.alloc _).alloc _) hn hn').mono ?_); rintro e w1 ⟨rfl, hb⟩; have HB := Lib.hid (thru2 (Below.refl _ _) hb); have hA := Lib.hid (((Blk.new_at (w.heap.size) rfl).alloc _).below hb); have hB := Lib.hid ((Blk.new_at (w.heap.size + 1) (by simp)).below hb); clear hb; have ca0 := hA.out.at 0 rfl; have cb0 := hB.out.at 0 rfl; have ca1 := hA.out.at 1 rfl; have cb1 := hB.out.at 1 rfl; have ca2 := hA.out.at 2 rfl; have cb2 := hB.out.at 2 rfl; have ca3 := hA.out.at 3 rfl; have cb3 := hB.out.at 3 rfl)
  go_ret
  exact ⟨rfl, HB.out⟩

set_option maxHeartbeats 800000 in
theorem specSame_5 (h ac bu h' ac' bu' : Int) (a b : Option Addr) (n c n' c' : Nat) (f g : Nat → Int) (w : World) (s1 : Src w a n f) (s2 : Src w b n' g) (hn : n ≤ 1048576) (hn' : n' ≤ 1048576) (eh : h = h') (eq : eqB n n' f g = true) (ea : ac = ac') (eb : bu = bu') :
    Calls Try.prog 25 #[.agg #[.int .i64 h, .slice a n c, .int .i64 ac, .int .i64 bu], .agg #[.int .i64 h', .slice b n' c', .int .i64 ac', .int .i64 bu']] w (RetBool w true) := by
  have S1 := Lib.hid s1
  have S2 := Lib.hid s2
  clear s1 s2
  subst eh
  have Heq := Lib.hid eq
  clear eq
  subst ea
  subst eb
  go_enter Try.func25, Try.ntmps25
  go_wp2_with (go_at_call 61; (refine (l1Same_is true _ _ _ _ _ _ f g _ Heq.out ((S1.out.alloc _).alloc _) ((S2.out.alloc _).alloc _) hn hn').mono ?_); rintro e w1 ⟨rfl, hb⟩; have HB := Lib.hid (thru2 (Below.refl _ _) hb); have hA := Lib.hid (((Blk.new_at (w.heap.size) rfl).alloc _).below hb); have hB := Lib.hid ((Blk.new_at (w.heap.size + 1) (by simp)).below hb); clear hb; have ca0 := hA.out.at 0 rfl; have cb0 := hB.out.at 0 rfl; have ca1 := hA.out.at 1 rfl; have cb1 := hB.out.at 1 rfl; have ca2 := hA.out.at 2 rfl; have cb2 := hB.out.at 2 rfl; have ca3 := hA.out.at 3 rfl; have cb3 := hB.out.at 3 rfl)
  go_ret
  exact ⟨rfl, HB.out⟩


theorem implSame_any (h ac bu h' ac' bu' : Int) (a b : Option Addr) (n c n' c' : Nat) (f g : Nat → Int) (w : World) (s1 : Src w a n f) (s2 : Src w b n' g) (hn : n ≤ 1048576) (hn' : n' ≤ 1048576) : Calls Try.prog 24 #[.agg #[.int .i64 h, .slice a n c, .int .i64 ac, .int .i64 bu], .agg #[.int .i64 h', .slice b n' c', .int .i64 ac', .int .i64 bu']] w (RetBool w (eqA h n f ac bu h' n' g ac' bu')) := by
  by_cases eh : h = h'
  · by_cases ea : ac = ac'
    · by_cases eb : bu = bu'
      · have this := implSame_4 h ac bu h' ac' bu' a b n c n' c' f g w s1 s2 hn hn' eh ea eb
        have e : eqA h n f ac bu h' n' g ac' bu' = eqB n n' f g := by simp [eqA, eh, ea, eb]
        rw [e]; exact this
      · have this := implSame_3 h ac bu h' ac' bu' a b n c n' c' f g w s1 s2 hn hn' eh ea eb
        have e : eqA h n f ac bu h' n' g ac' bu' = false := by simp [eqA, eh, ea, eb]
        rw [e]; exact this
    · have this := implSame_2 h ac bu h' ac' bu' a b n c n' c' f g w s1 s2 hn hn' eh ea
      have e : eqA h n f ac bu h' n' g ac' bu' = false := by simp [eqA, eh, ea]
      rw [e]; exact this
  · have this := implSame_1 h ac bu h' ac' bu' a b n c n' c' f g w s1 s2 hn hn' eh
    have e : eqA h n f ac bu h' n' g ac' bu' = false := by simp [eqA, eh]
    rw [e]; exact this
theorem specSame_any (h ac bu h' ac' bu' : Int) (a b : Option Addr) (n c n' c' : Nat) (f g : Nat → Int) (w : World) (s1 : Src w a n f) (s2 : Src w b n' g) (hn : n ≤ 1048576) (hn' : n' ≤ 1048576) : Calls Try.prog 25 #[.agg #[.int .i64 h, .slice a n c, .int .i64 ac, .int .i64 bu], .agg #[.int .i64 h', .slice b n' c', .int .i64 ac', .int .i64 bu']] w (RetBool w (eqA h n f ac bu h' n' g ac' bu')) := by
  by_cases eh : h = h'
  · cases eq : eqB n n' f g
    · have this := specSame_2 h ac bu h' ac' bu' a b n c n' c' f g w s1 s2 hn hn' eh eq
      have e : eqA h n f ac bu h' n' g ac' bu' = false := by simp [eqA, eh, eq]
      rw [e]; exact this
    · by_cases ea : ac = ac'
      · by_cases eb : bu = bu'
        · have this := specSame_5 h ac bu h' ac' bu' a b n c n' c' f g w s1 s2 hn hn' eh eq ea eb
          have e : eqA h n f ac bu h' n' g ac' bu' = true := by simp [eqA, eh, ea, eb, eq]
          rw [e]; exact this
        · have this := specSame_4 h ac bu h' ac' bu' a b n c n' c' f g w s1 s2 hn hn' eh eq ea eb
          have e : eqA h n f ac bu h' n' g ac' bu' = false := by simp [eqA, eh, ea, eb, eq]
          rw [e]; exact this
      · have this := specSame_3 h ac bu h' ac' bu' a b n c n' c' f g w s1 s2 hn hn' eh eq ea
        have e : eqA h n f ac bu h' n' g ac' bu' = false := by simp [eqA, eh, ea, eq]
        rw [e]; exact this
  · have this := specSame_1 h ac bu h' ac' bu' a b n c n' c' f g w s1 s2 hn hn' eh
    have e : eqA h n f ac bu h' n' g ac' bu' = false := by simp [eqA, eh]
    rw [e]; exact this

end Go.Proofs.Ythejbgmhfajcpaa
