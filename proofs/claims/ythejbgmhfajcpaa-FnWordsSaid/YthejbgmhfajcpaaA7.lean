/- Contracts: ReadAt, of the program and of the model. -/
import Derived.Test.YthejbgmhfajcpaaA6
namespace Go.Proofs.Ythejbgmhfajcpaa
open Go.RowKit


set_option maxHeartbeats 400000 in
theorem placeBound_any (h ac bu at_ : Int) (a : Option Addr) (n c : Nat) (w : World) (h1 : 8 ≤ h) (h2 : h ≤ 200) :
    Calls Try.prog 48 #[.agg #[.int .i64 h, .slice a n c, .int .i64 ac, .int .i64 bu], .int .i64 at_] w fun e w' => e = .returned (.agg #[.int .i64 at_, .int .i64 0, .int .i64 (2 * h - 1)]) ∧ Below w.heap.size w w' := by
  go_enter Try.func48, Try.ntmps48
  go_wp2
  exact bodyPost_ret (v := .agg #[.int .i64 at_, .int .i64 0, .int .i64 (2 * h - 1)]) (by simp [results, Try.results48, go_sem]) rfl ⟨rfl, ((Below.refl _ _).alloc (Nat.le_refl _) _).alloc (by simp) _⟩

def PlaceOk (h at_ : Int) : Prop := 0 ≤ at_ ∧ at_ ≤ 2 * h - 1
theorem isFault_ok {h : Int} {n : Nat} {f : Nat → Int} {ac bu : Int} (hk : IsFault h n f ac bu 0) : HeadOk h ac bu ∧ (n : Int) = 2 * h ∧ ∀ i, i < n → Word (f i) := by
  rcases hk with ⟨_, hk⟩ | ⟨_, _, hk⟩ | ⟨_, _, _, hk⟩ | ⟨h1, h2, h3, _⟩
  · omega
  · omega
  · omega
  · exact ⟨h1, h2, h3⟩

/-- A pair of numbers comes back; nothing that was there is turned. -/
def RetPair (W : World) (c v : Int) (e : Ending) (w' : World) : Prop := e = .returned (.agg #[.int .i64 c, .int .i64 v]) ∧ Below W.heap.size W w'

theorem thru0 {w w1 w2 : World} (h : Below w.heap.size w w1) (hb : Below w1.heap.size w1 w2) : Below w.heap.size w w2 := h.trans (hb.mono h.size)
theorem thru1 {w w1 w2 : World} {o : Obj} (h : Below w.heap.size w w1) (hb : Below (w1.alloc o).heap.size (w1.alloc o) w2) : Below w.heap.size w w2 := thru0 (h.alloc h.size o) hb
theorem thru2 {w w1 w2 : World} {o o' : Obj} (h : Below w.heap.size w w1) (hb : Below ((w1.alloc o).alloc o').heap.size ((w1.alloc o).alloc o') w2) : Below w.heap.size w w2 := thru1 (h.alloc h.size o) hb
theorem thru3 {w w1 w2 : World} {o o' o2 : Obj} (h : Below w.heap.size w w1) (hb : Below (((w1.alloc o).alloc o').alloc o2).heap.size (((w1.alloc o).alloc o').alloc o2) w2) : Below w.heap.size w w2 := thru2 (h.alloc h.size o) hb
theorem thru4 {w w1 w2 : World} {o o' o2 o3 : Obj} (h : Below w.heap.size w w1) (hb : Below ((((w1.alloc o).alloc o').alloc o2).alloc o3).heap.size ((((w1.alloc o).alloc o').alloc o2).alloc o3) w2) : Below w.heap.size w w2 := thru3 (h.alloc h.size o) hb

set_option maxHeartbeats 400000 in
theorem l1Place_yes (b : Nat) (h at_ : Int) (w : World) (hc : w.cell? ⟨b, 0, none⟩ = some (.int .i64 h)) (h1 : 8 ≤ h) (h2 : h ≤ 200) (hp : PlaceOk h at_) :
    Calls Try.prog 55 #[.pointer (some ⟨b, 0, none⟩), .int .i64 at_] w fun e w' => e = .returned (.bool true) ∧ w = w' := by
  have HP := Lib.hid hp
  clear hp
  go_enter Try.func55, Try.ntmps55
  go_wp2_with (go_at_call 58; (with_reducible refine (l1In_yes _ _ _ _ (by have := HP.out; unfold PlaceOk at this; omega) (by have := HP.out; unfold PlaceOk at this; omega)).mono ?_); rintro e w' ⟨rfl, rfl⟩)
  go_ret
  exact ⟨rfl, rfl⟩

set_option maxHeartbeats 400000 in
theorem l1Place_no (b : Nat) (h at_ : Int) (w : World) (hc : w.cell? ⟨b, 0, none⟩ = some (.int .i64 h)) (h1 : 8 ≤ h) (h2 : h ≤ 200) (hp : ¬ PlaceOk h at_) :
    Calls Try.prog 55 #[.pointer (some ⟨b, 0, none⟩), .int .i64 at_] w fun e w' => e = .returned (.bool false) ∧ w = w' := by
  have HP := Lib.hid hp
  clear hp
  go_enter Try.func55, Try.ntmps55
  go_wp2_with (go_at_call 58; (with_reducible refine (l1In_no _ _ _ _ (by have := HP.out; unfold PlaceOk at this; omega)).mono ?_); rintro e w' ⟨rfl, rfl⟩)
  go_ret
  exact ⟨rfl, rfl⟩

set_option maxHeartbeats 400000 in
theorem implRead_fault (h ac bu at_ k : Int) (a : Option Addr) (n c : Nat) (f : Nat → Int) (w : World) (hs : Src w a n f) (hk : IsFault h n f ac bu k) (h0 : ¬ k = 0) :
    Calls Try.prog 20 #[.agg #[.int .i64 h, .slice a n c, .int .i64 ac, .int .i64 bu], .int .i64 at_] w (RetPair w k 0) := by
  have HS := Lib.hid hs
  have HK := Lib.hid hk
  clear hs hk
  have hd : (k != 0) = true := by simpa using h0
  go_enter Try.func20, Try.ntmps20
  go_wp2_with fail
  refine (implFault_any _ _ _ _ _ _ f k _ ((HS.out.alloc _).alloc _) HK.out).mono ?_
  rintro e w1 ⟨rfl, hb⟩
  have HB1 : Hid (Below w.heap.size w w1) := thru2 (Below.refl _ _) hb
  have R_1 := Lib.hid ((Blk.new_at (w.heap.size + 1) (by simp)).below hb)
  clear hb
  have cR0 := R_1.out.at 0 rfl
  have cR1 := R_1.out.at 1 rfl
  have fR0 := R_1.out.free 0 rfl
  have fR1 := R_1.out.free 1 rfl
  go_wp2
  have hz := HB1.out.size
  refine bodyPost_ret (v := .agg #[.int .i64 k, .int .i64 0]) (by simp [results, Try.results20, go_sem, cR0, cR1]) rfl ⟨rfl, ?_⟩
  repeat (with_reducible refine Below.setCell ?_ (by (try simp); (try omega)) _)
  exact HB1.out

set_option maxHeartbeats 400000 in
theorem implRead_range (h ac bu at_ : Int) (a : Option Addr) (n c : Nat) (f : Nat → Int) (w : World) (hs : Src w a n f) (hk : IsFault h n f ac bu 0) (hp : ¬ (0 ≤ at_ ∧ at_ ≤ 2 * h - 1)) :
    Calls Try.prog 20 #[.agg #[.int .i64 h, .slice a n c, .int .i64 ac, .int .i64 bu], .int .i64 at_] w (RetPair w 3 0) := by
  obtain ⟨⟨⟨g1, g2⟩, _, _⟩, gn, _⟩ := isFault_ok hk
  have HS := Lib.hid hs
  have HK := Lib.hid hk
  have HP := Lib.hid hp
  clear hs hk hp
  clear gn
  go_enter Try.func20, Try.ntmps20
  go_wp2_with fail
  refine (implFault_any _ _ _ _ _ _ f 0 _ ((HS.out.alloc _).alloc _) HK.out).mono ?_
  rintro e w1 ⟨rfl, hb⟩
  have HB1 : Hid (Below w.heap.size w w1) := thru2 (Below.refl _ _) hb
  have HS_1 := Lib.hid (((HS.out.alloc _).alloc _).below hb)
  have A_1 := Lib.hid (((Blk.new_at (w.heap.size) (by simp)).alloc _).below hb)
  have R_1 := Lib.hid ((Blk.new_at (w.heap.size + 1) (by simp)).below hb)
  clear hb
  have cA0 := A_1.out.at 0 rfl
  have cA1 := A_1.out.at 1 rfl
  have cA2 := A_1.out.at 2 rfl
  have cA3 := A_1.out.at 3 rfl
  have fR0 := R_1.out.free 0 rfl
  have fR1 := R_1.out.free 1 rfl
  go_wp2_with fail
  refine (placeBound_any _ _ _ _ _ _ _ _ g1 g2).mono ?_
  rintro e w2 ⟨rfl, hb⟩
  have HB2 : Hid (Below w.heap.size w w2) := thru0 HB1.out hb
  have A_2 := Lib.hid (A_1.out.below hb)
  have R_2 := Lib.hid (R_1.out.below hb)
  have HS_2 := Lib.hid (HS_1.out.below hb)
  clear hb cA0 cA1 cA2 cA3 fR0 fR1 HS_1 A_1 R_1 HB1
  go_wp2_with fail
  refine (isOut1 _ _ _ _ _ true rfl (.inr ⟨rfl, HP.out⟩)).mono ?_
  rintro e w3 ⟨rfl, hb⟩
  have HB3 : Hid (Below w.heap.size w w3) := thru1 HB2.out hb
  have A_3 := Lib.hid ((A_2.out.alloc _).below hb)
  have R_3 := Lib.hid ((R_2.out.alloc _).below hb)
  have HS_3 := Lib.hid ((HS_2.out.alloc _).below hb)
  clear hb HS_2 A_2 R_2 HB2
  have cA0 := A_3.out.at 0 rfl
  have cA1 := A_3.out.at 1 rfl
  have cA2 := A_3.out.at 2 rfl
  have cA3 := A_3.out.at 3 rfl
  have cR0 := R_3.out.at 0 rfl
  have cR1 := R_3.out.at 1 rfl
  have fR0 := R_3.out.free 0 rfl
  have fR1 := R_3.out.free 1 rfl
  go_wp2
  have hz := HB3.out.size
  refine bodyPost_ret (v := .agg #[.int .i64 3, .int .i64 0]) (by simp [results, Try.results20, go_sem, cR0, cR1]) rfl ⟨rfl, ?_⟩
  repeat (with_reducible refine Below.setCell ?_ (by (try simp); (try omega)) _)
  exact HB3.out

set_option maxHeartbeats 400000 in
theorem implRead_ok (h ac bu at_ : Int) (a : Option Addr) (n c : Nat) (f : Nat → Int) (w : World) (hs : Src w a n f) (hk : IsFault h n f ac bu 0) (hp : (0 ≤ at_ ∧ at_ ≤ 2 * h - 1)) :
    Calls Try.prog 20 #[.agg #[.int .i64 h, .slice a n c, .int .i64 ac, .int .i64 bu], .int .i64 at_] w (RetPair w 0 (f at_.toNat)) := by
  obtain ⟨⟨⟨g1, g2⟩, _, _⟩, gn, _⟩ := isFault_ok hk
  obtain ⟨m, rfl⟩ : ∃ m : Nat, at_ = m := ⟨at_.toNat, by omega⟩
  have hm : m < n := by omega
  have hn : n ≤ 400 := by omega
  have hm0 : (m : Int) < (n : Int) := by omega
  obtain ⟨ab, ao, rfl, hab, hac⟩ := src_some hs (by omega)
  clear hac
  have HS := Lib.hid hs
  have HK := Lib.hid hk
  have HP := Lib.hid hp
  clear hs hk hp
  clear gn
  go_enter Try.func20, Try.ntmps20
  go_wp2_with fail
  refine (implFault_any _ _ _ _ _ _ f 0 _ ((HS.out.alloc _).alloc _) HK.out).mono ?_
  rintro e w1 ⟨rfl, hb⟩
  have HB1 : Hid (Below w.heap.size w w1) := thru2 (Below.refl _ _) hb
  have HS_1 := Lib.hid (((HS.out.alloc _).alloc _).below hb)
  have A_1 := Lib.hid (((Blk.new_at (w.heap.size) (by simp)).alloc _).below hb)
  have R_1 := Lib.hid ((Blk.new_at (w.heap.size + 1) (by simp)).below hb)
  clear hb
  have cA0 := A_1.out.at 0 rfl
  have cA1 := A_1.out.at 1 rfl
  have cA2 := A_1.out.at 2 rfl
  have cA3 := A_1.out.at 3 rfl
  have fR0 := R_1.out.free 0 rfl
  have fR1 := R_1.out.free 1 rfl
  go_wp2_with fail
  refine (placeBound_any _ _ _ _ _ _ _ _ g1 g2).mono ?_
  rintro e w2 ⟨rfl, hb⟩
  have HB2 : Hid (Below w.heap.size w w2) := thru0 HB1.out hb
  have A_2 := Lib.hid (A_1.out.below hb)
  have R_2 := Lib.hid (R_1.out.below hb)
  have HS_2 := Lib.hid (HS_1.out.below hb)
  clear hb cA0 cA1 cA2 cA3 fR0 fR1 HS_1 A_1 R_1 HB1
  go_wp2_with fail
  refine (isOut1 _ _ _ _ _ false rfl (.inl ⟨rfl, HP.out⟩)).mono ?_
  rintro e w3 ⟨rfl, hb⟩
  have HB3 : Hid (Below w.heap.size w w3) := thru1 HB2.out hb
  have A_3 := Lib.hid ((A_2.out.alloc _).below hb)
  have R_3 := Lib.hid ((R_2.out.alloc _).below hb)
  have HS_3 := Lib.hid ((HS_2.out.alloc _).below hb)
  clear hb HS_2 A_2 R_2 HB2
  have cA0 := A_3.out.at 0 rfl
  have cA1 := A_3.out.at 1 rfl
  have cA2 := A_3.out.at 2 rfl
  have cA3 := A_3.out.at 3 rfl
  have cR0 := R_3.out.at 0 rfl
  have cR1 := R_3.out.at 1 rfl
  have fR0 := R_3.out.free 0 rfl
  have fR1 := R_3.out.free 1 rfl
  have hcell := src_at HS_3.out m hm
  go_wp2
  have hz := HB3.out.size
  refine bodyPost_ret (v := .agg #[.int .i64 0, .int .i64 (f m)]) (by simp [results, Try.results20, go_sem, cR0, cR1]) rfl ⟨rfl, ?_⟩
  repeat (with_reducible refine Below.setCell ?_ (by (try simp); (try omega)) _)
  exact HB3.out

set_option maxHeartbeats 400000 in
theorem specRead_fault (h ac bu at_ k : Int) (a : Option Addr) (n c : Nat) (f : Nat → Int) (w : World) (hs : Src w a n f) (hk : IsFault h n f ac bu k) (h0 : ¬ k = 0) :
    Calls Try.prog 21 #[.agg #[.int .i64 h, .slice a n c, .int .i64 ac, .int .i64 bu], .int .i64 at_] w (RetPair w k 0) := by
  have HS := Lib.hid hs
  have HK := Lib.hid hk
  clear hs hk
  have hd : (k != 0) = true := by simpa using h0
  go_enter Try.func21, Try.ntmps21
  go_wp2_with fail
  refine (specFault_any _ _ _ _ _ _ f k _ ((HS.out.alloc _).alloc _) HK.out).mono ?_
  rintro e w1 ⟨rfl, hb⟩
  have HB1 : Hid (Below w.heap.size w w1) := thru2 (Below.refl _ _) hb
  have R_1 := Lib.hid ((Blk.new_at (w.heap.size + 1) (by simp)).below hb)
  clear hb
  have cR0 := R_1.out.at 0 rfl
  have cR1 := R_1.out.at 1 rfl
  have fR0 := R_1.out.free 0 rfl
  have fR1 := R_1.out.free 1 rfl
  go_wp2
  have hz := HB1.out.size
  refine bodyPost_ret (v := .agg #[.int .i64 k, .int .i64 0]) (by simp [results, Try.results21, go_sem, cR0, cR1]) rfl ⟨rfl, ?_⟩
  repeat (with_reducible refine Below.setCell ?_ (by (try simp); (try omega)) _)
  exact HB1.out

set_option maxHeartbeats 400000 in
theorem specRead_range (h ac bu at_ : Int) (a : Option Addr) (n c : Nat) (f : Nat → Int) (w : World) (hs : Src w a n f) (hk : IsFault h n f ac bu 0) (hp : ¬ (0 ≤ at_ ∧ at_ ≤ 2 * h - 1)) :
    Calls Try.prog 21 #[.agg #[.int .i64 h, .slice a n c, .int .i64 ac, .int .i64 bu], .int .i64 at_] w (RetPair w 3 0) := by
  obtain ⟨⟨⟨g1, g2⟩, _, _⟩, gn, _⟩ := isFault_ok hk
  have HS := Lib.hid hs
  have HK := Lib.hid hk
  have HP := Lib.hid hp
  clear hs hk hp
  clear gn
  go_enter Try.func21, Try.ntmps21
  go_wp2_with fail
  refine (specFault_any _ _ _ _ _ _ f 0 _ ((HS.out.alloc _).alloc _) HK.out).mono ?_
  rintro e w1 ⟨rfl, hb⟩
  have HB1 : Hid (Below w.heap.size w w1) := thru2 (Below.refl _ _) hb
  have HS_1 := Lib.hid (((HS.out.alloc _).alloc _).below hb)
  have A_1 := Lib.hid (((Blk.new_at (w.heap.size) (by simp)).alloc _).below hb)
  have R_1 := Lib.hid ((Blk.new_at (w.heap.size + 1) (by simp)).below hb)
  clear hb
  have cA0 := A_1.out.at 0 rfl
  have cA1 := A_1.out.at 1 rfl
  have cA2 := A_1.out.at 2 rfl
  have cA3 := A_1.out.at 3 rfl
  have fR0 := R_1.out.free 0 rfl
  have fR1 := R_1.out.free 1 rfl
  go_wp2_with fail
  refine (l1Place_no _ _ _ _ cA0 g1 g2 HP.out).mono ?_
  rintro e w' ⟨rfl, rfl⟩
  have cR0 := R_1.out.at 0 rfl
  have cR1 := R_1.out.at 1 rfl
  go_wp2
  have hz := HB1.out.size
  refine bodyPost_ret (v := .agg #[.int .i64 3, .int .i64 0]) (by simp [results, Try.results21, go_sem, cR0, cR1]) rfl ⟨rfl, ?_⟩
  repeat (with_reducible refine Below.setCell ?_ (by (try simp); (try omega)) _)
  exact HB1.out

set_option maxHeartbeats 400000 in
theorem specRead_ok (h ac bu at_ : Int) (a : Option Addr) (n c : Nat) (f : Nat → Int) (w : World) (hs : Src w a n f) (hk : IsFault h n f ac bu 0) (hp : (0 ≤ at_ ∧ at_ ≤ 2 * h - 1)) :
    Calls Try.prog 21 #[.agg #[.int .i64 h, .slice a n c, .int .i64 ac, .int .i64 bu], .int .i64 at_] w (RetPair w 0 (f at_.toNat)) := by
  obtain ⟨⟨⟨g1, g2⟩, _, _⟩, gn, _⟩ := isFault_ok hk
  obtain ⟨m, rfl⟩ : ∃ m : Nat, at_ = m := ⟨at_.toNat, by omega⟩
  have hm : m < n := by omega
  have hn : n ≤ 400 := by omega
  have hm0 : (m : Int) < (n : Int) := by omega
  obtain ⟨ab, ao, rfl, hab, hac⟩ := src_some hs (by omega)
  clear hac
  have HS := Lib.hid hs
  have HK := Lib.hid hk
  have HP := Lib.hid hp
  clear hs hk hp
  clear gn
  go_enter Try.func21, Try.ntmps21
  go_wp2_with fail
  refine (specFault_any _ _ _ _ _ _ f 0 _ ((HS.out.alloc _).alloc _) HK.out).mono ?_
  rintro e w1 ⟨rfl, hb⟩
  have HB1 : Hid (Below w.heap.size w w1) := thru2 (Below.refl _ _) hb
  have HS_1 := Lib.hid (((HS.out.alloc _).alloc _).below hb)
  have A_1 := Lib.hid (((Blk.new_at (w.heap.size) (by simp)).alloc _).below hb)
  have R_1 := Lib.hid ((Blk.new_at (w.heap.size + 1) (by simp)).below hb)
  clear hb
  have cA0 := A_1.out.at 0 rfl
  have cA1 := A_1.out.at 1 rfl
  have cA2 := A_1.out.at 2 rfl
  have cA3 := A_1.out.at 3 rfl
  have fR0 := R_1.out.free 0 rfl
  have fR1 := R_1.out.free 1 rfl
  go_wp2_with fail
  refine (l1Place_yes _ _ _ _ cA0 g1 g2 HP.out).mono ?_
  rintro e w' ⟨rfl, rfl⟩
  have cR0 := R_1.out.at 0 rfl
  have cR1 := R_1.out.at 1 rfl
  have hcell := src_at HS_1.out m hm
  go_wp2
  have hz := HB1.out.size
  refine bodyPost_ret (v := .agg #[.int .i64 0, .int .i64 (f m)]) (by simp [results, Try.results21, go_sem, cR0, cR1]) rfl ⟨rfl, ?_⟩
  repeat (with_reducible refine Below.setCell ?_ (by (try simp); (try omega)) _)
  exact HB1.out

end Go.Proofs.Ythejbgmhfajcpaa
