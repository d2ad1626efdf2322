/- The model: TidyMachine. -/
import Derived.Test.YtaenbjilcgpgcaaPTM3
import Derived.Deep.RegionHeld3
import Derived.StillTailTactics
import Derived.Deep.Cut
namespace Go.Proofs.Ytaenbjilcgpgcaa
open Go.RowKit
set_option linter.unusedVariables false

/-- The load of the slots that are there (a name of its own: the walk looks at it when its turn comes). -/
def opL : Oper := { dst := some 35, op := .load 51 (.tmp 34), type := 51, pos := "l05_graph.go:183", after := #[{ on := 0, ground := .data }], guard := none }
end Go.Proofs.Ytaenbjilcgpgcaa

namespace Go.Proofs.Ytaenbjilcgpgcaa
open Go.RowKit
set_option linter.unusedVariables false
attribute [local go_sem] opL

theorem l1Ints_opt (a : Option Addr) (n cap : Nat) (f : Nat → Int) (w : World) (hs : Src w a n f) (hn : n ≤ 1048576) :
    Calls Try.prog 160 #[.slice a n cap] w (fun e w' => ∃ a' c', e = .returned (.slice a' n c') ∧ Own w' w.heap.size a' n f ∧ Below w.heap.size w w') := by
  cases a with
  | some ad =>
    refine (l1Ints_all ad n cap f w hs hn).mono ?_
    rintro e w' ⟨g, c', rfl, h1, h2, h3, h4, _, _⟩
    refine ⟨_, c', rfl, ?_, h4⟩
    rcases Nat.eq_zero_or_pos n with h0 | h0
    · exact .inl h0
    · exact .inr ⟨g, 0, rfl, h1, h2, fun k hk => by rw [Nat.zero_add]; exact h3 k hk⟩
  | none =>
    have h0 : n = 0 := by
      rcases hs with h | ⟨b, off, h, _⟩
      · exact h
      · cases h
    subst h0
    clear hs
    go_enter Try.func160, Try.ntmps160
    go_wp2
    go_ret
    exact ⟨_, _, rfl, .inl rfl, (Below.refl _ _).alloc (Nat.le_refl _) _⟩

theorem l4Num_is (a : Option Addr) (l : List Int) (c : Nat) (v x : Int) (w : World) (hs : Src w a l.length (lf l)) (hl : l.length ≤ 1048576) (hx : numI l v = x) :
    Calls Try.prog 72 #[.slice a l.length c, .int .i64 v] w fun e w' => e = .returned (.int .i64 x) ∧ w = w' := hx ▸ l4Number_any a l c v w hs hl

/-- A tidy machine in memory of its own. -/
def RetTd (W : World) (te qu ha : Int) (M : Nat) (S : Nat → SL) (N : Nat) (V : Nat → GM) (e : Ending) (w' : World) : Prop :=
  ∃ (sa : Option Addr) (kc : Nat) (na : Option Addr) (nc : Nat) (U : Nat → GM) (l1 h1 l2 h2 : Nat), e = .returned (.agg #[.int .i64 te, .int .i64 qu, .int .i64 ha, .slice sa M kc, .slice na N nc]) ∧ PVO w' l1 h1 sa M S ∧ NVO w' l2 h2 na N U ∧ (∀ i, i < N → TSame (V i) (U i) ∧ (U i).o = 0) ∧
    (W.heap.size ≤ l1 ∧ l1 ≤ h1 ∧ h1 ≤ w'.heap.size) ∧ (W.heap.size ≤ l2 ∧ l2 ≤ h2 ∧ h2 ≤ w'.heap.size) ∧ (h1 ≤ l2 ∨ h2 ≤ l1) ∧ Below W.heap.size W w'

set_option maxRecDepth 100000 in
set_option maxHeartbeats 6400000 in
theorem l5Tidy_any (g o : Nat) (te qu ha : Int) (sa : Option Addr) (M kc : Nat) (S : Nat → SL) (na : Option Addr) (K nc : Nat) (T : Nat → GM) (w : World)
    (hB : MAt w g o te qu ha sa M kc na K nc) (hp : PV w sa M S) (hg : NV w na K T) (hk : IsMF te qu ha M S K T 0) :
    Calls Try.prog 96 #[.pointer (some ⟨g, o, none⟩)] w (RetTd w te qu ha M (tdS (reachM M S K T) S) (reachM M S K T).length (tdT (reachM M S K T) K T)) := by
  have B := Lib.hid hB; have P := Lib.hid hp; have G := Lib.hid hg; have HOK := Lib.hid (isMF_zero hk)
  obtain ⟨sI, sif, hs0, hs1, hs2⟩ := info_parts Try.infoSL
  obtain ⟨j0, hif, hj0, hj1, hj2⟩ := info_parts Try.infoND
  have hM8 : M ≤ 1000 := by have := HOK.out.len.1.2; omega
  have hK8 : K ≤ 1000 := by have := HOK.out.len.2.2; omega
  have HB0 := Lib.hid ((Below.refl w.heap.size w).alloc (Nat.le_refl _) (.cells #[.int .i64 0, .int .i64 0, .int .i64 0, .slice none 0 0, .slice none 0 0] 54))
  have R_0 := Lib.hid (Blk.new_at (w := w) (cs := #[.int .i64 0, .int .i64 0, .int .i64 0, .slice none 0 0, .slice none 0 0]) (t := 54) w.heap.size rfl)
  clear hB hp hg hk
  go_enter Try.func96, Try.ntmps96
  go_wp2_with fail
  refine (l5Reach_any g o te qu ha sa M kc S na K nc T _ (B.out.below HB0.out) (P.out.below HB0.out) (G.out.below HB0.out) hM8 hK8 HOK.out.wk.nd HOK.out.rise HOK.out.lead).mono ?_
  rintro e w1 ⟨ra, rc, rfl, ho, hb, -, -, -⟩
  have HB1 := Lib.hid (thru0 HB0.out hb)
  have HO := Lib.hid ho.src
  have R_1 := Lib.hid (R_0.out.below hb)
  have z1 : w.heap.size + 1 ≤ w1.heap.size := by have := R_1.out.1; omega
  have HHAS : Hid (∀ x ∈ reachM M S K T, Has K T x) := Lib.hid (fun x hx => reachM_has HOK.out.lead hx)
  have HNDP := Lib.hid (reachM_nodup M S K T)
  have HND : Hid (∀ i, i < K → IsNode (T i) 0) := Lib.hid HOK.out.node
  have HRI := Lib.hid HOK.out.rise
  have hrl : (reachM M S K T).length ≤ 150 := by have := reachM_len HOK.out.lead; have := HOK.out.len.2.2; omega
  have hM1 : 0 < M := by have := HOK.out.len.1.1; omega
  clear hb ho HB0 R_0
  generalize reachM M S K T = R at *
  have B1 := Lib.hid (B.out.below HB1.out)
  have b0 := B1.out.c0; have b1 := B1.out.c1; have b2 := B1.out.c2; have lB := B1.out.lt
  go_wp2
  go_region
  go_wp2
  have HBX := Lib.hid (((Below.refl w1.heap.size w1).alloc (Nat.le_refl _) (.cells #[.int .i64 te, .int .i64 qu, .int .i64 ha, .slice none 0 0, .slice none 0 0] 54)).drew)
  have O_2 := Lib.hid (Blk.new_at (w := w1) (cs := #[.int .i64 te, .int .i64 qu, .int .i64 ha, .slice none 0 0, .slice none 0 0]) (t := 54) w1.heap.size rfl).drew
  have z2 : (w1.alloc (.cells #[.int .i64 te, .int .i64 qu, .int .i64 ha, .slice none 0 0, .slice none 0 0] 54)).drew.heap.size = w1.heap.size + 1 := by simp
  clear b0 b1 b2 lB B1
  generalize (w1.alloc (.cells #[.int .i64 te, .int .i64 qu, .int .i64 ha, .slice none 0 0, .slice none 0 0] 54)).drew = w2 at *
  go_loopw [5] (fun p wr => ∃ i : Nat, i ≤ M ∧ p = .int .i64 (i : Int) ∧ Hid (Keeps w2 wr w1.heap.size (w1.heap.size + 1)) ∧ Hid (∃ av kv, Blk wr w1.heap.size [.int .i64 te, .int .i64 qu, .int .i64 ha, .slice av i kv, .slice none 0 0] ∧ wr.ownsRow (w1.heap.size + 1) 131 2 (.slice av i kv) i (slC (tdS R S) i))) (fun p _ => M - (intOf p).toNat)
  case atStart => exact ⟨0, Nat.zero_le _, rfl, Keeps.refl _ _ _, Lib.hid ⟨none, 0, O_2.out, World.ownsRow_nil _ _ _ _⟩⟩
  case round =>
    clear O_2
    obtain ⟨i, hi, rfl, HK, HX⟩ := hrel
    have HBr1 : Hid (Below w1.heap.size w1 wr) := Lib.hid (HBX.out.trans (HK.out.below (Nat.le_refl _) (by omega)))
    have HBr := Lib.hid (thru0 HB1.out HBr1.out)
    have Br := Lib.hid (B.out.below HBr.out)
    have b3 := Br.out.c3; have lB := Br.out.lt
    have hzr := HK.out.size
    obtain ⟨av, kv, hob, how⟩ := HX.out
    have OBr := Lib.hid hob; have OWr := Lib.hid how
    clear hob how HX
    by_cases hlt : i < M
    · have hlt' : (i : Int) < (M : Int) := by omega
      have hi0 : (0 : Int) ≤ (i : Int) := by omega
      obtain ⟨pb, pq, rfl, lp, s0, s1⟩ := pv_get (P.out.below HBr.out) hlt
      obtain ⟨gg, hgg⟩ : ∃ gg, (S i).g = gg := ⟨_, rfl⟩
      obtain ⟨y, hy⟩ : ∃ y, (S i).nd = y := ⟨_, rfl⟩
      rw [hgg] at s0
      rw [hy] at s1
      have hxb := numI_bound R y
      obtain ⟨x, hx⟩ : ∃ x, numI R y = x := ⟨_, rfl⟩
      rw [hx] at hxb
      have HXN := Lib.hid hx
      obtain ⟨hx0, hx1⟩ := hxb
      have hx2 : x + 1 ≤ 1000 := by omega
      have HW : Hid (IntKind.i64.wrap (x + 1) = x + 1) := Lib.hid (IntWalk.i64_in _ (by omega))
      have HSI : Hid (tdS R S i = ⟨gg, x + 1⟩) := Lib.hid (by unfold tdS nmM; rw [hgg, hy, hx])
      have SRd := Lib.hid ((HO.out.below HBr1.out).below (Below.refl _ _).drew)
      have OWd := Lib.hid (ownsRow_below OWr.out (Below.refl _ _).drew)
      have HVO : Hid (∀ k, (Value.slice av i kv).ownBlock = some k → w1.heap.size + 1 ≤ k) := Lib.hid (fun k hk => ownBlock_ge OWr.out hk)
      have lO := OBr.out.1; have d3 := OBr.out.at 3 rfl; have e3 := OBr.out.free 3 rfl
      have HGY := Lib.hid (And.intro hgg hy)
      clear hgg hy hx
      go_wp2_with fail
      have HSK : Hid (∀ w', Below w.heap.size w w' → w'.cell? ⟨g, o + 3, none⟩ = some (.slice (some ⟨pb, pq, none⟩) M kc) ∧ w'.cell? ⟨pb, pq + i * 2, none⟩ = some (.int .i64 gg) ∧ w'.cell? ⟨pb, pq + i * 2 + 1, none⟩ = some (.int .i64 y)) := Lib.hid (fun w' hb => ⟨(B.out.below hb).c3, by
        obtain ⟨b', q', e', l', t0, t1⟩ := pv_get (P.out.below hb) hlt
        simp only [Option.some.injEq, Addr.mk.injEq] at e'
        obtain ⟨rfl, rfl, -⟩ := e'
        rw [HGY.out.1] at t0
        rw [HGY.out.2] at t1
        exact ⟨t0, t1⟩⟩)
      change Code.wp Try.prog (Code.region 6 #[_, opL, _, _, _, _, _, _, _, _, _, _, _, _, _, _, _, _, _, _, _, _, _, _, _, _] true) _ _ _
      go_region_held3 (fun w' => w'.cell? ⟨g, o + 3, none⟩ = some (.slice (some ⟨pb, pq, none⟩) M kc) ∧ w'.cell? ⟨pb, pq + i * 2, none⟩ = some (.int .i64 gg) ∧ w'.cell? ⟨pb, pq + i * 2 + 1, none⟩ = some (.int .i64 y))
        (first | (with_reducible exact HSK.out _ HBr.out) | (refine HSK.out _ ?_; (repeat (first | (with_reducible refine Below.setCell ?_ (by (try simp); (try omega)) _) | (with_reducible refine Below.alloc ?_ (by (try simp); (try omega)) _) | (with_reducible refine Below.drew ?_))); (first | exact HBr.out | exact HBZ.out)))
        (first | (go_at_call 72; refine (l4Num_is ra R rc y x _ SRd.out (by omega) HXN.out).mono ?_; rintro e w' ⟨rfl, rfl⟩) | (refine step_append_lies _ rfl (.tmp 35) (.tmp 56) 51 rfl (w1.heap.size + 1) 131 sI _ 2 16 Try.underlyingRSL sif hs0 hs1 hs2 rfl (by decide) (.slice av i kv) i (slC (tdS R S) i) rfl (OWd.out.alloc _) ⟨wr.drew.heap.size, 0, none⟩ 1 1 [.int .i64 gg, .int .i64 (IntKind.i64.wrap (x + 1))] rfl rfl (news2 wr.drew ⟨gg, IntKind.i64.wrap (x + 1)⟩) (by intro u hu; simp only [List.mem_cons, List.mem_nil_iff, or_false] at hu; rcases hu with rfl | rfl <;> rfl) (by omega) (by unfold maxLen; omega) (by omega) (by simp; omega) (wr.heap.size + 1) (by simp) ?_; intro g9 cap9 w9 hown9 hgrow9 hat9 hlt9; have HBZ : Hid (Below w.heap.size w w9) := Lib.hid ((HBr.out.drew.alloc (by simp; omega) _).grown hgrow9 (by simp; omega) (fun k hk => by have := HVO.out k hk; omega)); have T9 := Lib.hid (blk_grown (OBr.out.drew.alloc _) hgrow9 (fun e => by have := HVO.out _ e; omega)); have l9 := T9.out.1; have d93 := T9.out.at 3 rfl; have e93 := T9.out.free 3 rfl))
      all_goals (
        have HBY : Hid (Below w2.heap.size wr w9) := Lib.hid (((Below.refl w2.heap.size wr).drew.alloc (by simp; omega) _).grown hgrow9 (by simp; omega) (fun k hk => by have := HVO.out k hk; omega))
        have hg9 : w1.heap.size + 1 ≤ g9 := (by rcases hat9 with he | he; exact HVO.out _ he; omega)
        have OW9 : Hid (w9.ownsRow (w1.heap.size + 1) 131 2 (.slice (some ⟨g9, 0, none⟩) (i + 1) cap9) (i + 1) (slC (tdS R S) (i + 1))) := Lib.hid (by
          rw [slC, HSI.out, ← HW.out]; exact hown9)
        have HKF : Hid (Keeps w2 (w9.setCell ⟨w1.heap.size, 3, none⟩ (.slice (some ⟨g9, 0, none⟩) (i + 1) cap9)) w1.heap.size (w1.heap.size + 1)) := Lib.hid ((keeps_under HK.out HBY.out (Nat.le_refl _)).trans (keeps_setCell (p := ⟨w1.heap.size, 3, none⟩) (Nat.le_refl _) (Nat.lt_succ_self _) _))
        have HXF : Hid (∃ av kv, Blk (w9.setCell ⟨w1.heap.size, 3, none⟩ (.slice (some ⟨g9, 0, none⟩) (i + 1) cap9)) w1.heap.size [.int .i64 te, .int .i64 qu, .int .i64 ha, .slice av (i + 1) kv, .slice none 0 0] ∧ (w9.setCell ⟨w1.heap.size, 3, none⟩ (.slice (some ⟨g9, 0, none⟩) (i + 1) cap9)).ownsRow (w1.heap.size + 1) 131 2 (.slice av (i + 1) kv) (i + 1) (slC (tdS R S) (i + 1))) := Lib.hid ⟨_, _, T9.out.set 3 (by simp) _, ownsRow_setCell_other OW9.out (fun e => by have e' : g9 = w1.heap.size := (by simpa [Value.ownBlock] using e); omega) _⟩
        clear HBZ HSK hown9 hgrow9 hat9 T9 l9 d93 e93 OW9 HBY lO d3 e3 s0 s1 b3 lB OWd SRd
        go_wp2
        go_roundw
        (case rel => first | exact ⟨i + 1, by omega, by go_num, HKF, HXF⟩ | ((repeat apply Exists.intro); exact ⟨⟨i + 1, by omega, by go_num, HKF, HXF⟩, rfl⟩))
        (case measure => simp [intOf]; omega))
    · have hlt' : ¬ (i : Int) < (M : Int) := by omega
      obtain rfl : i = M := by omega
      obtain ⟨a', c', e', hpo, -, -⟩ := slC_PVO (S := tdS R S) OWr.out
      simp only [Value.slice.injEq] at e'
      obtain ⟨rfl, -, rfl⟩ := e'
      have HPO := Lib.hid hpo
      have HB31 := Lib.hid HBr1.out
      have z3 : w1.heap.size + 1 ≤ wr.heap.size := by omega
      clear hpo OWr HK HBr Br hzr hi
      go_wp2
      clear b3 lB
      generalize wr = w3 at *
      go_loopw [6] (fun p wr => ∃ (i' : Nat) (L : List GM), i' ≤ R.length ∧ p = .int .i64 (i' : Int) ∧ L.length = i' ∧ Hid (Keeps w3 wr w1.heap.size (w1.heap.size + 1)) ∧ Hid (∃ bv lv, Blk wr w1.heap.size [.int .i64 te, .int .i64 qu, .int .i64 ha, .slice av i kv, .slice bv L.length lv] ∧ wr.ownsRow w3.heap.size 133 5 (.slice bv L.length lv) L.length (rowN L) ∧ FldG wr w3.heap.size (.slice bv L.length lv) L) ∧ Hid (∀ k t, L[k]? = some t → TSame (tdT R K T k) t ∧ t.o = 0)) (fun p _ => R.length - (intOf p).toNat)
      case atStart => exact ⟨0, [], Nat.zero_le _, rfl, rfl, Keeps.refl _ _ _, Lib.hid ⟨none, 0, OBr.out, World.ownsRow_nil _ _ _ _, fun t ht => (by cases ht), List.Pairwise.nil⟩, Lib.hid (fun k t ht => by simp at ht)⟩
      case round =>
        clear OBr
        obtain ⟨k, L, hk, rfl, hLl, HK, HX, SM⟩ := hrel
        have HBr3 : Hid (Below w1.heap.size w3 wr) := Lib.hid (HK.out.below (Nat.le_refl _) (by omega))
        have HBr1 : Hid (Below w1.heap.size w1 wr) := Lib.hid (HB31.out.trans HBr3.out)
        have HBr := Lib.hid (thru0 HB1.out HBr1.out)
        have Br := Lib.hid (B.out.below HBr.out)
        have b4 := Br.out.c4; have lB := Br.out.lt
        have hzr := HK.out.size
        obtain ⟨bv, lv, hob, how, hfl⟩ := HX.out
        have OBr := Lib.hid hob; have OWr := Lib.hid how; have FLr := Lib.hid hfl
        clear hob how hfl HX
        by_cases hlt : k < R.length
        · have hlt' : (k : Int) < (R.length : Int) := by omega
          have hk0 : (0 : Int) ≤ (k : Int) := by omega
          obtain ⟨ob, oo, rfl, hob, hoc⟩ := src_some (HO.out.below HBr1.out) (by omega)
          have o0 := hoc k hlt
          have hhas := HHAS.out _ (lf_mem hlt)
          obtain ⟨y, hy⟩ : ∃ y, lf R k = y := ⟨_, rfl⟩
          have HY := Lib.hid hy
          rw [hy] at o0 hhas
          have hix := ixN_has hhas
          have HAT := Lib.hid (ixN_at hix)
          have HFD := Lib.hid (isFd_ix HRI.out hhas)
          have HNX := Lib.hid (HND.out _ hix)
          have HT : Hid (nodeM K T y = T (ixN T y K)) := Lib.hid rfl
          obtain ⟨x, hx⟩ : ∃ x, ixN T y K = x := ⟨_, rfl⟩
          rw [hx] at hix HFD HNX HT HAT
          have hx' : (x : Int) < (K : Int) := by omega
          have hx0 : (0 : Int) ≤ (x : Int) := by omega
          have G1 := Lib.hid (G.out.below HBr.out)
          obtain ⟨b, q, rfl, lb, ⟨x0, x1, x2, x3, x4⟩, hsrc⟩ := nv_get G1.out hix
          have HSR := Lib.hid hsrc
          have HTX : Hid (∀ t, T x = t → nodeM K T (lf R k) = t) := Lib.hid (fun t ht => by rw [HY.out, HT.out, ht])
          obtain ⟨t, ht⟩ : ∃ t, T x = t := ⟨_, rfl⟩
          have HNM := Lib.hid (HTX.out t ht)
          have HTXX := Lib.hid ht
          rw [ht] at x0 x1 x2 x3 x4 HSR HNX HAT
          clear hoc hy hhas hx ht hsrc HT HTX
          go_wp2_with fail
          have HSK : Hid (∀ w', Below w1.heap.size w1 w' → w'.cell? ⟨g, o + 4, none⟩ = some (.slice (some ⟨b, q, none⟩) K nc) ∧ w'.cell? ⟨ob, oo + k, none⟩ = some (.int .i64 y) ∧ w'.cell? ⟨b, q + x * 5, none⟩ = some (.int .i64 t.at_) ∧ w'.cell? ⟨b, q + x * 5 + 1, none⟩ = some (.int .i64 t.s) ∧ w'.cell? ⟨b, q + x * 5 + 2, none⟩ = some (.int .i64 t.m) ∧ w'.cell? ⟨b, q + x * 5 + 3, none⟩ = some (.int .i64 t.h) ∧ w'.cell? ⟨b, q + x * 5 + 4, none⟩ = some (.slice t.a t.n t.c)) := Lib.hid (fun w' hb => ⟨((B.out.below (thru0 HB1.out hb))).c4, by
            obtain ⟨ob', oo', e', _, hc⟩ := src_some (HO.out.below hb) (by omega)
            simp only [Option.some.injEq, Addr.mk.injEq] at e'
            obtain ⟨rfl, rfl, -⟩ := e'
            have := hc k hlt
            rwa [HY.out] at this, by
            obtain ⟨b', q', e', _, hf, _⟩ := nv_get (G.out.below (thru0 HB1.out hb)) hix
            simp only [Option.some.injEq, Addr.mk.injEq] at e'
            obtain ⟨rfl, rfl, -⟩ := e'
            rw [HTXX.out] at hf
            obtain ⟨q0, q1, q2, q3, q4⟩ := hf
            exact ⟨q0, q1, q2, q3, q4⟩⟩)
          go_region_held3 (fun w' => w'.cell? ⟨g, o + 4, none⟩ = some (.slice (some ⟨b, q, none⟩) K nc) ∧ w'.cell? ⟨ob, oo + k, none⟩ = some (.int .i64 y) ∧ w'.cell? ⟨b, q + x * 5, none⟩ = some (.int .i64 t.at_) ∧ w'.cell? ⟨b, q + x * 5 + 1, none⟩ = some (.int .i64 t.s) ∧ w'.cell? ⟨b, q + x * 5 + 2, none⟩ = some (.int .i64 t.m) ∧ w'.cell? ⟨b, q + x * 5 + 3, none⟩ = some (.int .i64 t.h) ∧ w'.cell? ⟨b, q + x * 5 + 4, none⟩ = some (.slice t.a t.n t.c))
            (first | (with_reducible exact HSK.out _ HBr1.out) | (refine HSK.out _ ?_; (repeat (first | (with_reducible refine Below.setCell ?_ (by (try simp); (try omega)) _) | (with_reducible refine Below.alloc ?_ (by (try simp); (try omega)) _) | (with_reducible refine Below.drew ?_))); exact HBr1.out))
            (first | (go_at_call 158; refine (l5Find_any _ K nc T y (x : Int) _ (G1.out.below (Below.refl _ _).drew) (by omega) HFD.out).mono ?_; rintro e w' ⟨rfl, rfl⟩) | (go_at_call 158; refine (l5Find_any _ K nc T y (x : Int) _ (G1.out.below ((Below.refl _ _).alloc (Nat.le_refl _) _).drew) (by omega) HFD.out).mono ?_; rintro e w' ⟨rfl, rfl⟩))
          all_goals (
            have N_1 := Lib.hid (Blk.new_at (w := wr) (cs := #[.int .i64 t.at_, .int .i64 t.s, .int .i64 t.m, .int .i64 t.h, .slice t.a t.n t.c]) (t := 133) wr.heap.size rfl).drew
            have HBN := Lib.hid ((Below.refl wr.heap.size wr).alloc (Nat.le_refl _) (.cells #[.int .i64 t.at_, .int .i64 t.s, .int .i64 t.m, .int .i64 t.h, .slice t.a t.n t.c] 133)).drew
            have zN : (wr.alloc (.cells #[.int .i64 t.at_, .int .i64 t.s, .int .i64 t.m, .int .i64 t.h, .slice t.a t.n t.c] 133)).drew.heap.size = wr.heap.size + 1 := (by simp)
            generalize (wr.alloc (.cells #[.int .i64 t.at_, .int .i64 t.s, .int .i64 t.m, .int .i64 t.h, .slice t.a t.n t.c] 133)).drew = w4 at *
            have FVN : Hid (FivG w4 wr.heap.size 0 t) := Lib.hid ⟨N_1.out.at 0 rfl, N_1.out.at 1 rfl, N_1.out.at 2 rfl, N_1.out.at 3 rfl, N_1.out.at 4 rfl⟩
            clear x0 x1 x2 x3 x4 o0 b4 lB HSK
            go_wp2_with fail
            refine (l5Head_any wr.heap.size 0 t _ FVN.out N_1.out.1).mono ?_
            rintro e w5 ⟨rfl, hb⟩
            have HB5 : Hid (Below wr.heap.size wr w5) := Lib.hid (HBN.out.trans (hb.mono (by omega)))
            have N_2 := Lib.hid (N_1.out.below hb)
            have z5 : wr.heap.size + 1 ≤ w5.heap.size := (by have := hb.size; omega)
            have S_5 := Lib.hid (HSR.out.below HB5.out)
            have K_1 := Lib.hid (Blk.new_at (w := w5) (cs := #[.int .i64 t.s, .int .i64 t.m, .int .i64 0, .int .i64 t.h]) (t := 93) w5.heap.size rfl)
            have n0 := N_2.out.at 0 rfl; have f0 := N_2.out.free 0 rfl; have n4 := N_2.out.at 4 rfl; have lN := N_2.out.1
            clear hb N_1 HBN FVN
            obtain ⟨⟨hid9, hok9⟩, hsz9, hwd9⟩ := isNode_zero HNX.out
            have hn12 : t.n ≤ 12 := (by have := hok9.1.2; omega)
            have HOK9 := Lib.hid hok9; have HSZ9 := Lib.hid hsz9
            have HM9 : Hid (0 ≤ t.m ∧ t.m ≤ 4095) := Lib.hid (Nd.mask ⟨hok9, hsz9⟩)
            clear hid9 hok9 hsz9 hwd9
            go_wp2_with fail
            clear n0 f0 n4 lN K_1 S_5
            generalize wr = wo at *
            have HB6 : Hid (Below wo.heap.size wo ((w5.setCell ⟨wo.heap.size, 0, none⟩ (.int .i64 ((k : Int) + 1))).alloc (.cells #[.int .i64 t.s, .int .i64 t.m, .int .i64 0, .int .i64 t.h] 93))) := Lib.hid ((HB5.out.setCell (Nat.le_refl _) _).alloc (by simp; omega) _)
            have N_3 : Hid (Blk ((w5.setCell ⟨wo.heap.size, 0, none⟩ (.int .i64 ((k : Int) + 1))).alloc (.cells #[.int .i64 t.s, .int .i64 t.m, .int .i64 0, .int .i64 t.h] 93)) wo.heap.size [.int .i64 ((k : Int) + 1), .int .i64 t.s, .int .i64 t.m, .int .i64 t.h, .slice t.a t.n t.c]) := Lib.hid ((N_2.out.set 0 (by simp) (.int .i64 ((k : Int) + 1))).alloc _)
            have K_3 : Hid (Blk ((w5.setCell ⟨wo.heap.size, 0, none⟩ (.int .i64 ((k : Int) + 1))).alloc (.cells #[.int .i64 t.s, .int .i64 t.m, .int .i64 0, .int .i64 t.h] 93)) w5.heap.size [.int .i64 t.s, .int .i64 t.m, .int .i64 0, .int .i64 t.h]) := Lib.hid (Blk.new_at (w := w5.setCell ⟨wo.heap.size, 0, none⟩ (.int .i64 ((k : Int) + 1))) (cs := #[.int .i64 t.s, .int .i64 t.m, .int .i64 0, .int .i64 t.h]) (t := 93) w5.heap.size (by simp))
            have z6 : ((w5.setCell ⟨wo.heap.size, 0, none⟩ (.int .i64 ((k : Int) + 1))).alloc (.cells #[.int .i64 t.s, .int .i64 t.m, .int .i64 0, .int .i64 t.h] 93)).heap.size = w5.heap.size + 1 := (by simp)
            have S_6 := Lib.hid (HSR.out.below HB6.out)
            generalize ((w5.setCell ⟨wo.heap.size, 0, none⟩ (.int .i64 ((k : Int) + 1))).alloc (.cells #[.int .i64 t.s, .int .i64 t.m, .int .i64 0, .int .i64 t.h] 93)) = w6 at *
            refine (l1Ints_opt t.a t.n t.c t.f _ S_6.out (by omega)).mono ?_
            rintro e w7 ⟨a5, c5, rfl, ho, hb⟩
            have HB7 : Hid (Below wo.heap.size wo w7) := Lib.hid (HB6.out.trans (hb.mono (by omega)))
            have N_7 := Lib.hid (N_3.out.below hb); have K_7 := Lib.hid (K_3.out.below hb)
            have HO7 : Hid (Own w7 (w5.heap.size + 1) a5 t.n t.f) := Lib.hid (ho.mono (by omega))
            have z7 : w5.heap.size + 1 ≤ w7.heap.size := (by have := hb.size; omega)
            have n4 := N_7.out.at 4 rfl; have f4 := N_7.out.free 4 rfl; have lN := N_7.out.1
            clear ho hb N_3 K_3 N_2 HB6 HB5 S_6 z6
            go_wp2
            have HB8 : Hid (Below wo.heap.size wo (w7.setCell ⟨wo.heap.size, 4, none⟩ (.slice a5 t.n c5))) := Lib.hid (HB7.out.setCell (Nat.le_refl _) _)
            have N_8 : Hid (Blk (w7.setCell ⟨wo.heap.size, 4, none⟩ (.slice a5 t.n c5)) wo.heap.size [.int .i64 ((k : Int) + 1), .int .i64 t.s, .int .i64 t.m, .int .i64 t.h, .slice a5 t.n c5]) := Lib.hid (N_7.out.set 4 (by simp) (.slice a5 t.n c5))
            have K_8 : Hid (Blk (w7.setCell ⟨wo.heap.size, 4, none⟩ (.slice a5 t.n c5)) w5.heap.size [.int .i64 t.s, .int .i64 t.m, .int .i64 0, .int .i64 t.h]) := Lib.hid (K_7.out.other (by simp; omega) _)
            have HO8 : Hid (Own (w7.setCell ⟨wo.heap.size, 4, none⟩ (.slice a5 t.n c5)) (w5.heap.size + 1) a5 t.n (rnU R t 0)) := Lib.hid ((HO7.out.setCell (by simp; omega) _).congr (fun j _ => by unfold rnU; rw [if_neg (by omega)]))
            clear n4 f4 lN N_7 K_7 HO7 HB7
            generalize w7.setCell ⟨wo.heap.size, 4, none⟩ (.slice a5 t.n c5) = w8 at *
            go_loopw [9] (fun p wr => ∃ j : Nat, j ≤ t.n ∧ p = .int .i64 (j : Int) ∧ Hid (Below wo.heap.size wo wr) ∧ Hid (Blk wr wo.heap.size [.int .i64 ((k : Int) + 1), .int .i64 t.s, .int .i64 t.m, .int .i64 t.h, .slice a5 t.n c5]) ∧ Hid (Blk wr w5.heap.size [.int .i64 t.s, .int .i64 t.m, .int .i64 0, .int .i64 t.h]) ∧ Hid (Own wr (w5.heap.size + 1) a5 t.n (rnU R t j))) (fun p _ => t.n - (intOf p).toNat)
            case atStart => exact ⟨0, Nat.zero_le _, rfl, HB8, N_8, K_8, HO8⟩
            case round =>
              clear HB8 N_8 K_8 HO8
              obtain ⟨j, hj, rfl, HBi, NBi, KBi, OWi⟩ := hrel
              have n1 := NBi.out.at 1 rfl; have lN := NBi.out.1; have k1 := KBi.out.at 1 rfl; have lK := KBi.out.1
              have hzi := HBi.out.size
              by_cases hjn : j < t.n
              · have hjs : (j : Int) < t.s := by have := HSZ9.out; omega
                have hjn' : (j : Int) < (t.n : Int) := by omega
                have hj0 : (0 : Int) ≤ (j : Int) := by omega
                have HDR := Lib.hid (fun q => below_drewN HBi.out q)
                have NBD := Lib.hid (fun q => NBi.out.below (drewN_below wr q)); have KBD := Lib.hid (fun q => KBi.out.below (drewN_below wr q)); have OWD := Lib.hid (fun q => OWi.out.below (drewN_below wr q))
                have HTD : Hid (tdF R t j = if t.m / P2 (j : Int) % 2 = 1 then nmM R (t.f j) else t.f j) := Lib.hid rfl
                rcases (show t.m / P2 (j : Int) % 2 = 1 ∨ t.m / P2 (j : Int) % 2 = 0 by omega) with hd | hd
                · have HTV : Hid (tdF R t j = nmM R (t.f j)) := Lib.hid (HTD.out.trans (if_pos hd))
                  have HR1 : Hid (true = (t.m / P2 (j : Int) % 2 == 1)) := Lib.hid (by rw [hd]; rfl)
                  clear hd HTD
                  go_wp2_with fail
                  refine (l2Pointer_at w5.heap.size 0 j t.m true _ k1 HM9.out (by omega) HR1.out).mono ?_
                  rintro e w' ⟨rfl, q9, rfl⟩
                  have HB9 := Lib.hid (HDR.out q9); have N9 := Lib.hid (NBD.out q9); have K9 := Lib.hid (KBD.out q9); have O9 := Lib.hid (OWD.out q9)
                  clear n1 lN k1 lK HDR NBD KBD OWD HBi NBi KBi OWi
                  generalize wr.drewN q9 = w9 at *
                  obtain ⟨fg, fo, rfl, hfg, hfs, hfc⟩ : ∃ fg fo, a5 = some ⟨fg, fo, none⟩ ∧ w5.heap.size + 1 ≤ fg ∧ fg < w9.heap.size ∧ ∀ i, i < t.n → w9.cell? ⟨fg, fo + i, none⟩ = some (.int .i64 (rnU R t j i)) ∧ w9.frozen? ⟨fg, fo + i, none⟩ = false := by
                    rcases O9.out with h0 | h0
                    · omega
                    · exact h0
                  have d0 := (hfc j hjn).1; have e0 := (hfc j hjn).2
                  have hrn : rnU R t j j = t.f j := by unfold rnU; rw [if_neg (by omega)]
                  rw [hrn] at d0
                  obtain ⟨y9, hy9⟩ : ∃ y9, t.f j = y9 := ⟨_, rfl⟩
                  rw [hy9] at d0
                  have hxb := numI_bound R y9
                  obtain ⟨z, hz⟩ : ∃ z, numI R y9 = z := ⟨_, rfl⟩
                  rw [hz] at hxb
                  have HZN := Lib.hid hz
                  obtain ⟨hz0, hz1⟩ := hxb
                  have hz2 : z + 1 ≤ 1000 := by omega
                  have HW : Hid (IntKind.i64.wrap (z + 1) = z + 1) := Lib.hid (IntWalk.i64_in _ (by omega))
                  have HTV' : Hid (tdF R t j = z + 1) := Lib.hid (by rw [HTV.out, hy9]; unfold nmM; rw [hz])
                  have HST := Lib.hid (OwnIn.stored O9.out.drew.into j hjn (IntKind.i64.wrap (z + 1)))
                  have SRR := Lib.hid (HO.out.below (HBr1.out.trans (HB9.out.mono (by have := HBr1.out.size; omega))))
                  have n4 := N9.out.at 4 rfl; have lN := N9.out.1
                  clear hrn hy9 hz hfc HTV
                  go_wp2_with fail
                  go_still_tail 12, (by kernel_rfl)
                  still_call (Calls.mono (l4Num_is (some ⟨ob, oo, none⟩) R rc y9 z _ (SRR.out.below (Below.refl _ _).drew) (by omega) HZN.out) fun _ _ h => ⟨h.1, h.2.symm⟩)
                  repeat still_step
                  try refine wpStill_nil ?_
                  change wpList _ _ _ _ _ w9.drew
                  go_wp2_with fail
                  have HSTF := Lib.hid (OwnIn.stored O9.out.into j hjn (z + 1))
                  have HBF := Lib.hid ((HB9.out.setCell (p := ⟨fg, fo + j, none⟩) (show wo.heap.size ≤ fg by omega) (.int .i64 (z + 1))).drew)
                  have NF := Lib.hid ((N9.out.other (p := ⟨fg, fo + j, none⟩) (show fg ≠ wo.heap.size by omega) (.int .i64 (z + 1))).drew)
                  have KF := Lib.hid ((K9.out.other (p := ⟨fg, fo + j, none⟩) (show fg ≠ w5.heap.size by omega) (.int .i64 (z + 1))).drew)
                  have OF := Lib.hid (((ownIn_own HSTF.out.1).congr fun k _ => rnU_step HTV'.out k).drew)
                  exact ⟨⟨j + 1, by omega, by go_num, HBF, NF, KF, OF⟩, by simp [intOf]; omega⟩
                · have HTV : Hid (tdF R t j = t.f j) := Lib.hid (HTD.out.trans (if_neg (by omega)))
                  have HR1 : Hid (false = (t.m / P2 (j : Int) % 2 == 1)) := Lib.hid (by rw [hd]; rfl)
                  clear hd HTD
                  go_wp2_with fail
                  refine (l2Pointer_at w5.heap.size 0 j t.m false _ k1 HM9.out (by omega) HR1.out).mono ?_
                  rintro e w' ⟨rfl, q9, rfl⟩
                  have HB9 := Lib.hid (HDR.out q9); have N9 := Lib.hid (NBD.out q9); have K9 := Lib.hid (KBD.out q9)
                  have O9 := Lib.hid ((OWD.out q9).congr fun k _ => rnU_skip HTV.out k)
                  clear n1 lN k1 lK HDR NBD KBD OWD HBi NBi KBi OWi
                  generalize wr.drewN q9 = w9 at *
                  go_wp2
                  first
                  | exact ⟨⟨j + 1, by omega, by go_num, HB9, N9, K9, O9⟩, by simp [intOf]; omega⟩
                  | (go_roundw
                     (case rel => first | exact ⟨j + 1, by omega, by go_num, HB9, N9, K9, O9⟩ | ((repeat apply Exists.intro); exact ⟨⟨j + 1, by omega, by go_num, HB9, N9, K9, O9⟩, rfl⟩))
                     (case measure => simp [intOf]; omega))
              · have hjs : ¬ (j : Int) < t.s := by have := HSZ9.out; omega
                obtain rfl : j = t.n := by omega
                have OWF := Lib.hid (OWi.out.congr (g := tdF R t) fun k hk => by unfold rnU; rw [if_pos hk])
                have OBi := Lib.hid (OBr.out.below HBi.out)
                have OWR := Lib.hid (ownsRow_below OWr.out HBi.out)
                have HVO : Hid (∀ k, (Value.slice bv L.length lv).ownBlock = some k → w3.heap.size ≤ k) := Lib.hid (fun k hk => ownBlock_ge OWr.out hk)
                have HVL : Hid (∀ k, (Value.slice bv L.length lv).ownBlock = some k → k < wo.heap.size) := Lib.hid (fun k hk => (OWr.out.lt k hk).2)
                have hL4 : L.length ≤ 150 := by omega
                have HLL := Lib.hid hLl
                have HXN : Hid (TSame (tdT R K T L.length) ⟨(k : Int) + 1, t.s, t.m, 0, t.h, a5, t.n, c5, tdF R t⟩) := Lib.hid (nd_tdT (by rw [hLl]; exact HNM.out) (by rw [hLl]))
                have n0 := NBi.out.at 0 rfl; have n2 := NBi.out.at 2 rfl; have n3 := NBi.out.at 3 rfl; have n4 := NBi.out.at 4 rfl
                have o4 := OBi.out.at 4 rfl; have lO := OBi.out.1
                clear hLl
                go_wp2_with (at_builtin; go_loud (refine wpList_append_lies _ rfl _ _ 52 rfl w3.heap.size 133 j0 _ 5 56 Try.underlyingRN hif hj0 hj1 hj2 rfl (by decide) (.slice bv L.length lv) L.length (rowN L) rfl (OWR.out.alloc _) ⟨wr.heap.size, 0, none⟩ 1 1 (ncells ⟨(k : Int) + 1, t.s, t.m, 0, t.h, a5, t.n, c5, tdF R t⟩) rfl rfl (cells_new5 wr ⟨(k : Int) + 1, t.s, t.m, 0, t.h, a5, t.n, c5, tdF R t⟩) (node_one _) (by omega) (by unfold maxLen; omega) (by omega) (by simp; omega) (wr.heap.size + 1) (by simp) ?_); intro g9 cap9 w9 hown9 hgrow9 hat9 hlt9; have T9 := Lib.hid (blk_grown (OBi.out.alloc (.cells #[.int .i64 ((k : Int) + 1), .int .i64 t.s, .int .i64 t.m, .int .i64 t.h, .slice a5 t.n c5] 133)) hgrow9 (fun e => (by have := HVO.out _ e; omega))); have l9 := T9.out.1; have d94 := T9.out.at 4 rfl; have e94 := T9.out.free 4 rfl)
                have HBA := Lib.hid (HBi.out.alloc hzi (.cells #[.int .i64 ((k : Int) + 1), .int .i64 t.s, .int .i64 t.m, .int .i64 t.h, .slice a5 t.n c5] 133))
                have HBY : Hid (Below w3.heap.size wo w9) := Lib.hid ((HBA.out.mono hzr).grown hgrow9 (by simp; omega) (fun k hk => HVO.out k hk))
                have hg9 : w3.heap.size ≤ g9 := by
                  rcases hat9 with he | he
                  · exact HVO.out _ he
                  · omega
                obtain ⟨X, hX⟩ : ∃ X : GM, X = ⟨(k : Int) + 1, t.s, t.m, 0, t.h, a5, t.n, c5, tdF R t⟩ := ⟨_, rfl⟩
                have FL9 : Hid (FldG w9 w3.heap.size (.slice (some ⟨g9, 0, none⟩) (L.length + 1) cap9) (L ++ [X])) := Lib.hid (FldG.snoc2 X FLr.out (by simp; omega) (fun b o hb _ => (HBA.out.block b (Array.getElem?_eq_some_iff.1 hb).1).trans hb) hgrow9 (by
                  rcases hat9 with he | he
                  · exact .inl he.symm
                  · exact .inr ⟨g9, rfl, by simp; omega⟩) hzr (fun k hk => HVL.out k hk) (by rw [hX]; exact (OWF.out.alloc _).mono (by omega)))
                have SM9 : Hid (∀ k t, (L ++ [X])[k]? = some t → TSame (tdT R K T k) t ∧ t.o = 0) := Lib.hid (fun k u hu => by
                  rcases Nat.lt_or_ge k L.length with hk | hk
                  · rw [List.getElem?_append_left hk] at hu
                    exact SM.out k u hu
                  · have hk' : k = L.length := (by have := (List.getElem?_eq_some_iff.mp hu).1; simp at this; omega)
                    subst hk'
                    rw [List.getElem?_append_right (Nat.le_refl _), Nat.sub_self] at hu
                    have : X = u := (by simpa using hu)
                    subst this
                    rw [hX]
                    exact ⟨HXN.out, rfl⟩)
                have OW9 : Hid (w9.ownsRow w3.heap.size 133 5 (.slice (some ⟨g9, 0, none⟩) (L.length + 1) cap9) (L ++ [X]).length (rowN (L ++ [X]))) := Lib.hid (by
                  rw [rowN_snoc, List.length_append, hX]; exact hown9)
                have HKF : Hid (Keeps w3 (w9.setCell ⟨w1.heap.size, 4, none⟩ (.slice (some ⟨g9, 0, none⟩) (L.length + 1) cap9)) w1.heap.size (w1.heap.size + 1)) := Lib.hid ((keeps_under HK.out HBY.out (Nat.le_refl _)).trans (keeps_setCell (p := ⟨w1.heap.size, 4, none⟩) (Nat.le_refl _) (Nat.lt_succ_self _) _))
                have HXF : Hid (∃ bv lv, Blk (w9.setCell ⟨w1.heap.size, 4, none⟩ (.slice (some ⟨g9, 0, none⟩) (L.length + 1) cap9)) w1.heap.size [.int .i64 te, .int .i64 qu, .int .i64 ha, .slice av i kv, .slice bv (L ++ [X]).length lv] ∧ (w9.setCell ⟨w1.heap.size, 4, none⟩ (.slice (some ⟨g9, 0, none⟩) (L.length + 1) cap9)).ownsRow w3.heap.size 133 5 (.slice bv (L ++ [X]).length lv) (L ++ [X]).length (rowN (L ++ [X])) ∧ FldG (w9.setCell ⟨w1.heap.size, 4, none⟩ (.slice (some ⟨g9, 0, none⟩) (L.length + 1) cap9)) w3.heap.size (.slice bv (L ++ [X]).length lv) (L ++ [X])) := Lib.hid ⟨some ⟨g9, 0, none⟩, cap9, by
                    have := T9.out.set 4 (by simp) (.slice (some ⟨g9, 0, none⟩) (L.length + 1) cap9)
                    rw [List.length_append]; exact this, by
                    have := ownsRow_setCell_other OW9.out (a := ⟨w1.heap.size, 4, none⟩) (fun e => by have e' : g9 = w1.heap.size := (by simpa [Value.ownBlock] using e); omega) (.slice (some ⟨g9, 0, none⟩) (L.length + 1) cap9)
                    rw [List.length_append] at this ⊢; exact this, by
                    have := FL9.out.block (w' := (w9.setCell ⟨w1.heap.size, 4, none⟩ (.slice (some ⟨g9, 0, none⟩) (L.length + 1) cap9))) (by simp) (fun b h1 h2 h3 => Below.heap_setCell w9 _ _ b (by simp; omega))
                    rw [List.length_append]; exact this⟩
                clear hown9 hgrow9 hat9 hX HXN HBY HBA FL9 OW9 T9 OWR OBi OWF n0 n1 n2 n3 n4 o4 lO
                try go_wp2
                first
                | exact ⟨⟨k + 1, L ++ [X], by omega, by go_num, by rw [List.length_append, HLL.out]; rfl, HKF, HXF, SM9⟩, by simp [intOf]; omega⟩
                | (go_roundw
                   (case rel => first | exact ⟨k + 1, L ++ [X], by omega, by go_num, by rw [List.length_append, HLL.out]; rfl, HKF, HXF, SM9⟩ | ((repeat apply Exists.intro); exact ⟨⟨k + 1, L ++ [X], by omega, by go_num, by rw [List.length_append, HLL.out]; rfl, HKF, HXF, SM9⟩, rfl⟩))
                   (case measure => simp [intOf]; omega)))
        · have hlt' : ¬ (k : Int) < (R.length : Int) := by omega
          obtain rfl : k = R.length := by omega
          obtain ⟨na', nc', e', hnvo⟩ := rowN_NVO OWr.out FLr.out (Nat.le_refl _)
          simp only [Value.slice.injEq] at e'
          obtain ⟨rfl, -, rfl⟩ := e'
          have HNVO := Lib.hid hnvo
          have SMF : Hid (∀ k, k < R.length → TSame (tdT R K T k) (gT L k) ∧ (gT L k).o = 0) := Lib.hid (fun k hk => by
            have hk' : k < L.length := by omega
            rw [gT_at (List.getElem?_eq_getElem hk')]
            exact SM.out k _ (List.getElem?_eq_getElem hk'))
          have HPF := Lib.hid (HPO.out.keeps HK.out (.inr (Nat.le_refl _)))
          have R_r := Lib.hid (R_1.out.below HBr1.out)
          have o0 := OBr.out.at 0 rfl; have o1 := OBr.out.at 1 rfl; have o2 := OBr.out.at 2 rfl; have o3 := OBr.out.at 3 rfl; have o4 := OBr.out.at 4 rfl; have lO := OBr.out.1
          have r0 := R_r.out.at 0 rfl; have f0 := R_r.out.free 0 rfl; have r1 := R_r.out.at 1 rfl; have f1 := R_r.out.free 1 rfl; have r2 := R_r.out.at 2 rfl; have f2 := R_r.out.free 2 rfl; have r3 := R_r.out.at 3 rfl; have f3 := R_r.out.free 3 rfl; have r4 := R_r.out.at 4 rfl; have f4 := R_r.out.free 4 rfl; have lR := R_r.out.1
          rw [hLl] at HNVO o4
          clear hnvo OWr FLr SM
          go_wp2
          refine bodyPost_ret (v := .agg #[.int .i64 te, .int .i64 qu, .int .i64 ha, .slice av i kv, .slice bv R.length lv]) (by simp [results, Try.results96, go_sem, r0, r1, r2, r3, r4]) rfl ?_
          refine ⟨av, kv, bv, lv, gT L, w1.heap.size + 1, w3.heap.size, w3.heap.size, wr.heap.size, rfl, ?_, ?_, fun k hk => SMF.out k hk, ⟨by omega, by omega, by simp; omega⟩, ⟨by omega, by omega, by simp⟩, .inl (Nat.le_refl _), ?_⟩
          · refine PVO.keeps (lo' := w.heap.size) (hi' := w.heap.size + 1) HPF.out ?_ (.inr (by omega))
            repeat (refine Keeps.trans ?_ (keeps_setCell (by (try simp); (try omega)) (by (try simp); (try omega)) _))
            exact Keeps.refl _ _ _
          · refine NVO.keeps (lo' := w.heap.size) (hi' := w.heap.size + 1) HNVO.out ?_ (.inr (by omega))
            repeat (refine Keeps.trans ?_ (keeps_setCell (by (try simp); (try omega)) (by (try simp); (try omega)) _))
            exact Keeps.refl _ _ _
          · repeat (first | (with_reducible refine Below.setCell ?_ (by (try simp); (try omega)) _) | (with_reducible refine Below.alloc ?_ (by (try simp); (try omega)) _) | (with_reducible refine Below.drew ?_))
            exact HBr.out
end Go.Proofs.Ytaenbjilcgpgcaa

namespace Go.Proofs.Ytaenbjilcgpgcaa
open Go.RowKit
set_option linter.unusedVariables false

set_option maxRecDepth 100000 in
set_option maxHeartbeats 1600000 in
theorem specTM_any (te qu ha : Int) (sa : Option Addr) (M kc : Nat) (S : Nat → SL) (na : Option Addr) (K nc : Nat) (T : Nat → GM) (c te' qu' ha' : Int) (M' : Nat) (S' : Nat → SL) (N' : Nat) (V : Nat → GM) (w : World)
    (hp : PV w sa M S) (hg : NV w na K T) (hM : M ≤ 1048576) (hK : K ≤ 1048576) (hn : ∀ i, i < K → (T i).n ≤ 1048576) (hk : IsTM te qu ha M S K T c te' qu' ha' M' S' N' V) :
    Calls Try.prog 36 #[.agg #[.int .i64 te, .int .i64 qu, .int .i64 ha, .slice sa M kc, .slice na K nc]] w (RetTMR w c te' qu' ha' M' S' N' V) := by
  obtain ⟨hmf, htm⟩ := hk
  have P0 := Lib.hid hp; have G0 := Lib.hid hg; have HN := Lib.hid hn; have HK := Lib.hid hmf; have HTM := Lib.hid htm
  have HB0 := Lib.hid (((Below.refl w.heap.size w).alloc (Nat.le_refl _) (.cells #[.int .i64 te, .int .i64 qu, .int .i64 ha, .slice sa M kc, .slice na K nc] 54)).alloc (by simp) (.cells #[.int .i64 0, .int .i64 0, .int .i64 0, .int .i64 0, .slice none 0 0, .slice none 0 0] 56))
  have A_0 := Lib.hid ((Blk.new_at (w := w) (cs := #[.int .i64 te, .int .i64 qu, .int .i64 ha, .slice sa M kc, .slice na K nc]) (t := 54) w.heap.size rfl).alloc (.cells #[.int .i64 0, .int .i64 0, .int .i64 0, .int .i64 0, .slice none 0 0, .slice none 0 0] 56))
  have R_0 := Lib.hid (Blk.new_at (w := w.alloc (.cells #[.int .i64 te, .int .i64 qu, .int .i64 ha, .slice sa M kc, .slice na K nc] 54)) (cs := #[.int .i64 0, .int .i64 0, .int .i64 0, .int .i64 0, .slice none 0 0, .slice none 0 0]) (t := 56) (w.heap.size + 1) (by simp))
  clear hp hg hn hmf htm
  go_enter Try.func36, Try.ntmps36
  go_wp2_with fail
  refine (specMF_any te qu ha sa M kc S na K nc T c _ (P0.out.below HB0.out) (G0.out.below HB0.out) hM hK HN.out HK.out).mono ?_
  rintro e w1 ⟨rfl, hb⟩
  have HB1 := Lib.hid (thru0 HB0.out hb)
  have A_1 := Lib.hid (A_0.out.below hb); have R_1 := Lib.hid (R_0.out.below hb)
  have z1 : w.heap.size + 2 ≤ w1.heap.size := by have := R_1.out.1; omega
  clear hb A_0 R_0 HB0
  by_cases h0 : c = 0
  · subst h0
    have htm : te' = te ∧ qu' = qu ∧ ha' = ha ∧ M' = M ∧ S' = tdS (reachM M S K T) S ∧ N' = (reachM M S K T).length ∧ ∀ i, i < N' → TSame (tdT (reachM M S K T) K T i) (V i) := by
      rcases HTM.out with ⟨_, h⟩ | ⟨h, _⟩
      · exact h
      · exact absurd rfl h
    obtain ⟨e1, e2, e3, e4, e5, e6, e7⟩ := htm
    have E1 := Lib.hid e1; have E2 := Lib.hid e2; have E3 := Lib.hid e3; have E4 := Lib.hid e4; have E5 := Lib.hid e5; have E6 := Lib.hid e6; have E7 := Lib.hid e7
    clear e1 e2 e3 e4 e5 e6 e7 HTM
    go_wp2_with fail
    refine (l5Tidy_any w.heap.size 0 te qu ha sa M kc S na K nc T _ (mat_blk A_1.out) (P0.out.below HB1.out) (G0.out.below HB1.out) HK.out).mono ?_
    rintro e w2 ⟨la, lc, nb, nc2, U, l1, h1, l2, h2, rfl, hpo, hno, hsm, ⟨g1, g2, g3⟩, ⟨g4, g5, g6⟩, hd, hb⟩
    have HB2 := Lib.hid (thru0 HB1.out hb)
    have R_2 := Lib.hid (R_1.out.below hb)
    have PO := Lib.hid hpo; have NO := Lib.hid hno; have SM := Lib.hid hsm; have HD := Lib.hid hd
    have z2 : w1.heap.size ≤ w2.heap.size := hb.size
    clear hb A_1 R_1 HB1 hpo hno hsm hd
    have r0 := R_2.out.at 0 rfl; have f0 := R_2.out.free 0 rfl; have r1 := R_2.out.at 1 rfl; have f1 := R_2.out.free 1 rfl; have r2 := R_2.out.at 2 rfl; have f2 := R_2.out.free 2 rfl; have r3 := R_2.out.at 3 rfl; have f3 := R_2.out.free 3 rfl; have r4 := R_2.out.at 4 rfl; have f4 := R_2.out.free 4 rfl; have r5 := R_2.out.at 5 rfl; have f5 := R_2.out.free 5 rfl; have lR := R_2.out.1
    generalize reachM M S K T = R at *
    go_wp2
    refine bodyPost_ret (v := .agg #[.int .i64 0, .int .i64 te, .int .i64 qu, .int .i64 ha, .slice la M lc, .slice nb R.length nc2]) (by simp [results, Try.results36, go_sem, r0, r1, r2, r3, r4, r5]) rfl ?_
    rw [E1.out, E2.out, E3.out, E4.out, E5.out, E6.out]
    refine ⟨la, lc, nb, nc2, U, l1, h1, l2, h2, rfl, ?_, ?_, fun k hk => ⟨tsame_trans (tsame_symm (E7.out k (by rw [E6.out]; exact hk))) (SM.out k hk).1, (SM.out k hk).2⟩, ⟨by omega, g2, by simp; omega⟩, ⟨by omega, g5, by simp; omega⟩, HD.out, ?_⟩
    · refine PVO.keeps (lo' := w.heap.size) (hi' := w.heap.size + 2) PO.out ?_ (.inr (by omega))
      repeat (refine Keeps.trans ?_ (keeps_setCell (by (try simp); (try omega)) (by (try simp); (try omega)) _))
      exact Keeps.refl _ _ _
    · refine NVO.keeps (lo' := w.heap.size) (hi' := w.heap.size + 2) NO.out ?_ (.inr (by omega))
      repeat (refine Keeps.trans ?_ (keeps_setCell (by (try simp); (try omega)) (by (try simp); (try omega)) _))
      exact Keeps.refl _ _ _
    · repeat (first | (with_reducible refine Below.setCell ?_ (by (try simp); (try omega)) _) | (with_reducible refine Below.alloc ?_ (by (try simp); (try omega)) _) | (with_reducible refine Below.drew ?_))
      exact HB2.out
  · have h0' : (c != 0) = true := by simpa using h0
    have htm : te' = 0 ∧ qu' = 0 ∧ ha' = 0 ∧ M' = 0 ∧ N' = 0 := by
      rcases HTM.out with ⟨h, _⟩ | ⟨_, h⟩
      · exact absurd h h0
      · exact h
    obtain ⟨e1, e2, e3, e4, e5⟩ := htm
    have E1 := Lib.hid e1; have E2 := Lib.hid e2; have E3 := Lib.hid e3; have E4 := Lib.hid e4; have E5 := Lib.hid e5
    clear h0 e1 e2 e3 e4 e5
    have r0 := R_1.out.at 0 rfl; have f0 := R_1.out.free 0 rfl; have r1 := R_1.out.at 1 rfl; have f1 := R_1.out.free 1 rfl; have r2 := R_1.out.at 2 rfl; have f2 := R_1.out.free 2 rfl; have r3 := R_1.out.at 3 rfl; have f3 := R_1.out.free 3 rfl; have r4 := R_1.out.at 4 rfl; have f4 := R_1.out.free 4 rfl; have r5 := R_1.out.at 5 rfl; have f5 := R_1.out.free 5 rfl; have lR := R_1.out.1
    go_wp2
    refine bodyPost_ret (v := .agg #[.int .i64 c, .int .i64 0, .int .i64 0, .int .i64 0, .slice none 0 0, .slice none 0 0]) (by simp [results, Try.results36, go_sem, r0, r1, r2, r3, r4, r5]) rfl ?_
    rw [E1.out, E2.out, E3.out, E4.out, E5.out]
    refine ⟨none, 0, none, 0, V, w.heap.size, w.heap.size, w.heap.size, w.heap.size, rfl, .inl rfl, .inl rfl, fun k hk => absurd hk (Nat.not_lt_zero _), ⟨Nat.le_refl _, Nat.le_refl _, by simp; omega⟩, ⟨Nat.le_refl _, Nat.le_refl _, by simp; omega⟩, .inl (Nat.le_refl _), ?_⟩
    repeat (first | (with_reducible refine Below.setCell ?_ (by (try simp); (try omega)) _) | (with_reducible refine Below.alloc ?_ (by (try simp); (try omega)) _) | (with_reducible refine Below.drew ?_))
    exact HB1.out
end Go.Proofs.Ytaenbjilcgpgcaa


