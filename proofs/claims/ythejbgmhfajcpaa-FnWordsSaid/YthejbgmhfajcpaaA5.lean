/- Contracts: arenas as values (toArena, eqArena, eqIntResult). -/
import Derived.Test.YthejbgmhfajcpaaA4
namespace Go.Proofs.Ythejbgmhfajcpaa
open Go.RowKit

theorem bcell {W w1 : World} (hb : Below W.heap.size W w1) : (∀ b o, b < W.heap.size → w1.cell? ⟨b, o, none⟩ = W.cell? ⟨b, o, none⟩) ∧ (∀ b o, b < W.heap.size → w1.frozen? ⟨b, o, none⟩ = W.frozen? ⟨b, o, none⟩) :=
  ⟨fun b o h => hb.cell (p := ⟨b, o, none⟩) h, fun b o h => hb.frozen (p := ⟨b, o, none⟩) h⟩

/-- A block of the call's own, known cell by cell. -/
def Blk (w : World) (b : Nat) (cs : List Value) : Prop := b < w.heap.size ∧ ∀ i u, cs[i]? = some u → w.cell? ⟨b, i, none⟩ = some u ∧ w.frozen? ⟨b, i, none⟩ = false
theorem Blk.below {w w' : World} {b : Nat} {cs : List Value} (h : Blk w b cs) (hb : Below w.heap.size w w') : Blk w' b cs :=
  ⟨Nat.lt_of_lt_of_le h.1 hb.size, fun i u hu => ⟨(hb.cell (p := ⟨b, i, none⟩) h.1).trans (h.2 i u hu).1, (hb.frozen (p := ⟨b, i, none⟩) h.1).trans (h.2 i u hu).2⟩⟩
theorem Blk.alloc {w : World} {b : Nat} {cs : List Value} (h : Blk w b cs) (o : Obj) : Blk (w.alloc o) b cs := h.below ((Below.refl _ _).alloc (Nat.le_refl _) o)
theorem Blk.drew {w : World} {b : Nat} {cs : List Value} (h : Blk w b cs) : Blk w.drew b cs := h.below (Below.refl _ _).drew
theorem Blk.new (w : World) (cs : Array Value) (t : TypeId) : Blk (w.alloc (.cells cs t)) w.heap.size cs.toList := by
  refine ⟨by simp, fun i u hu => ?_⟩
  constructor
  · rw [World.cell?_alloc_at _ _ _ _ rfl]; simpa using hu
  · exact World.frozen?_alloc_at _ _ _ _ rfl
theorem Blk.new_at {w : World} {cs : Array Value} {t : TypeId} (b : Nat) (hb : b = w.heap.size) : Blk (w.alloc (.cells cs t)) b cs.toList := hb ▸ Blk.new w cs t
theorem Blk.at {w : World} {b : Nat} {cs : List Value} (h : Blk w b cs) (i : Nat) {u : Value} (hu : cs[i]? = some u) : w.cell? ⟨b, i, none⟩ = some u := (h.2 i u hu).1
theorem Blk.free {w : World} {b : Nat} {cs : List Value} (h : Blk w b cs) (i : Nat) {u : Value} (hu : cs[i]? = some u) : w.frozen? ⟨b, i, none⟩ = false := (h.2 i u hu).2

/-- An arena comes back, its words in new memory. -/
def RetArena (W : World) (h : Int) (n : Nat) (f : Nat → Int) (ac bu : Int) (e : Ending) (w' : World) : Prop :=
  ∃ a c, e = .returned (.agg #[.int .i64 h, .slice a n c, .int .i64 ac, .int .i64 bu]) ∧ Own w' W.heap.size a n f ∧ Below W.heap.size W w' ∧ n ≤ c ∧ c ≤ maxLen ∧ (a = none → n = 0 ∧ c = 0)

set_option maxHeartbeats 400000 in
theorem toArena_any (h ac bu : Int) (a : Option Addr) (n c : Nat) (f : Nat → Int) (w : World) (hs : Src w a n f) (hn : n ≤ 1048576) :
    Calls Try.prog 37 #[.agg #[.int .i64 h, .slice a n c, .int .i64 ac, .int .i64 bu]] w (RetArena w h n f ac bu) := by
  have HS := Lib.hid hs
  clear hs
  go_enter Try.func37, Try.ntmps37
  go_wp2_with (go_at_call 66; refine (toInts_any _ _ _ f _ (((HS.out.alloc _).alloc _).alloc _) hn).mono ?_; rintro e w1 ⟨a1, c1, rfl, ho, hb, hc1, hc2, hc3⟩; obtain ⟨hc, hf⟩ := bcell hb; have HO := Lib.hid ho; have HB := Lib.hid hb; have HN := Lib.hid hc3; have hz := hb.size; clear ho hb hc3)
  have hz' : w.heap.size + 2 < w1.heap.size := by simp at hz; omega
  clear hz
  refine bodyPost_ret (v := .agg #[.int .i64 h, .slice a1 n c1, .int .i64 ac, .int .i64 bu]) (by simp [results, Try.results37, go_sem, hc]) rfl ⟨a1, c1, rfl, ?_, ?_, hc1, hc2, HN.out⟩
  · have ho : Own w1 (w.heap.size + 3) a1 n f := HO.out.mono (by simp)
    refine Own.mono (B := w.heap.size + 3) ?_ (by omega)
    repeat (with_reducible refine Own.setCell ?_ (by simp; try omega) _)
    exact ho
  · have hb : Below w.heap.size w w1 := ((((Below.refl _ _).alloc (Nat.le_refl _) _).alloc (by simp) _).alloc (by simp; try omega) _).trans (HB.out.mono (by simp; try omega))
    repeat (with_reducible refine Below.setCell ?_ (by simp; try omega) _)
    exact hb

/-- Are two arenas the same, field by field? -/
def eqA (h : Int) (n : Nat) (f : Nat → Int) (ac bu h' : Int) (n' : Nat) (f' : Nat → Int) (ac' bu' : Int) : Bool := (h == h') && (eqB n n' f f') && (ac == ac') && (bu == bu')

set_option maxHeartbeats 400000 in
theorem eqArena_same (h ac bu : Int) (a a' : Option Addr) (n c c' : Nat) (f g : Nat → Int) (w : World) (s1 : Src w a n f) (s2 : Src w a' n g) (hn : n ≤ 1048576) (he : ∀ i, i < n → f i = g i) :
    Calls Try.prog 38 #[.agg #[.int .i64 h, .slice a n c, .int .i64 ac, .int .i64 bu], .agg #[.int .i64 h, .slice a' n c', .int .i64 ac, .int .i64 bu]] w (RetBool w true) := by
  have S1 := Lib.hid s1
  have S2 := Lib.hid s2
  have HE := Lib.hid he
  clear s1 s2 he
  go_enter Try.func38, Try.ntmps38
  go_wp2_with (go_at_call 67; refine (eqInts_same _ _ _ _ _ f g _ ((S1.out.alloc _).alloc _) ((S2.out.alloc _).alloc _) hn).mono ?_; rw [eqB_yes HE.out]; rintro e w1 ⟨rfl, hb⟩; obtain ⟨hc, hf⟩ := bcell hb; have HB := Lib.hid hb; have hz := hb.size; clear hb)
  go_ret
  exact ⟨rfl, (((Below.refl _ _).alloc (Nat.le_refl _) _).alloc (by simp) _).trans (HB.out.mono (by simp; try omega))⟩

set_option maxHeartbeats 400000 in
theorem eqIntResult_same (c v : Int) (w : World) :
    Calls Try.prog 42 #[.agg #[.int .i64 c, .int .i64 v], .agg #[.int .i64 c, .int .i64 v]] w (RetBool w true) := by
  go_enter Try.func42, Try.ntmps42
  go_wp2
  go_ret
  exact ⟨rfl, ((Below.refl _ _).alloc (Nat.le_refl _) _).alloc (by simp) _⟩

set_option maxHeartbeats 400000 in
theorem eqArenaResult_same (co at_ h ac bu : Int) (a a' : Option Addr) (n c c' : Nat) (f g : Nat → Int) (w : World) (s1 : Src w a n f) (s2 : Src w a' n g) (hn : n ≤ 1048576) (he : ∀ i, i < n → f i = g i) :
    Calls Try.prog 39 #[.agg #[.int .i64 co, .int .i64 h, .slice a n c, .int .i64 ac, .int .i64 bu, .int .i64 at_], .agg #[.int .i64 co, .int .i64 h, .slice a' n c', .int .i64 ac, .int .i64 bu, .int .i64 at_]] w (RetBool w true) := by
  have S1 := Lib.hid s1
  have S2 := Lib.hid s2
  clear s1 s2
  have HE := Lib.hid he
  clear he
  go_enter Try.func39, Try.ntmps39
  go_wp2_with (go_at_call 38; refine (eqArena_same _ _ _ _ _ _ _ _ f g _ ((S1.out.alloc _).alloc _) ((S2.out.alloc _).alloc _) hn HE.out).mono ?_; rintro e w1 ⟨rfl, hb⟩; obtain ⟨hc, hf⟩ := bcell hb; have HB := Lib.hid hb; have hz := hb.size; clear hb)
  go_ret
  exact ⟨rfl, (((Below.refl _ _).alloc (Nat.le_refl _) _).alloc (by simp) _).trans (HB.out.mono (by simp; try omega))⟩
end Go.Proofs.Ythejbgmhfajcpaa
