/- Texts merged: Y7 to Y8. -/
import Derived.Test.YtihbenbfnpiikaaAL5
namespace Go.Proofs.Ytihbenbfnpiikaa
open Go.RowKit Go.Maps
set_option linter.unusedVariables false

/-- What is carried through the draw of alike: the source, the bytes, the two answers' blocks, the arena, its words, the roots. -/
structure DA (W w : World) (ca : Option Addr) (k kc : Nat) (B : Nat → Int) (t P : Nat) (h ac bu : Int) (a : Option Addr) (n c : Nat) (f : Nat → Int) (ra : Option Addr) (l : List Int) : Prop where
  bel : Below W.heap.size W w
  src : Blk w (W.heap.size + 2) [.slice ca k kc, .int .i64 (t : Int)]
  byt : SrcB w (W.heap.size + 2) ca k B
  r0 : Blk w W.heap.size [.int .i64 0, .slice none 0 0, .int .i64 0, .int .i64 0]
  r1 : Blk w (W.heap.size + 1) [.int .i64 0, .slice none 0 0, .int .i64 0, .int .i64 0]
  arn : Blk w P [.int .i64 h, .slice a n c, .int .i64 ac, .int .i64 bu]
  wrd : OwnIn w (W.heap.size + 3) P a n f
  rts : OwnIn w (W.heap.size + 3) P ra l.length (lf l)
  hP : W.heap.size + 3 ≤ P

theorem DA.below {W w w' : World} {ca : Option Addr} {k kc t P : Nat} {B : Nat → Int} {h ac bu : Int} {a : Option Addr} {n c : Nat} {f : Nat → Int} {ra : Option Addr} {l : List Int} (d : DA W w ca k kc B t P h ac bu a n c f ra l) (hb : Below w.heap.size w w') : DA W w' ca k kc B t P h ac bu a n c f ra l :=
  ⟨d.bel.trans (hb.mono d.bel.size), d.src.below hb, d.byt.below hb, d.r0.below hb, d.r1.below hb, d.arn.below hb, d.wrd.below hb, d.rts.below hb, d.hP⟩

theorem DA.next {W w w' : World} {ca : Option Addr} {k kc t t' P : Nat} {B : Nat → Int} {h ac bu : Int} {a : Option Addr} {n c : Nat} {f : Nat → Int} {ra : Option Addr} {l : List Int} (d : DA W w ca k kc B t P h ac bu a n c f ra l) (hk : Keeps w w' (W.heap.size + 2) (W.heap.size + 2 + 1)) (hs : Blk w' (W.heap.size + 2) [.slice ca k kc, .int .i64 (t' : Int)]) : DA W w' ca k kc B t' P h ac bu a n c f ra l := by
  have hP := d.hP
  exact ⟨d.bel.trans (hk.below (by omega) d.bel.size), hs, d.byt.keeps hk (Nat.le_refl _), d.r0.keeps hk (by omega), d.r1.keeps hk (by omega), d.arn.keeps hk (by omega), d.wrd.keeps hk (by omega), d.rts.keeps hk (by omega), d.hP⟩

/-- .. and the second arena and list. -/
structure DB (W w : World) (ca : Option Addr) (k kc : Nat) (B : Nat → Int) (t P : Nat) (h ac bu : Int) (a : Option Addr) (n c : Nat) (f : Nat → Int) (ra : Option Addr) (l : List Int) (Q : Nat) (h' ac' bu' : Int) (a' : Option Addr) (n' c' : Nat) (f' : Nat → Int) (rb : Option Addr) (rd md : Nat) (l' : List Int) : Prop where
  da : DA W w ca k kc B t P h ac bu a n c f ra l
  bb : Blk w Q [.int .i64 h', .slice a' n' c', .int .i64 ac', .int .i64 bu']
  wb : OwnIn w (P + 1) md a' n' f'
  row : w.ownsRow md 2 1 (.slice rb l'.length rd) l'.length (nums l'.length (lf l'))
  hmd : P + 1 ≤ md
  hQ : P + 1 ≤ Q

theorem DB.below {W w w' : World} {ca : Option Addr} {k kc t P : Nat} {B : Nat → Int} {h ac bu : Int} {a : Option Addr} {n c : Nat} {f : Nat → Int} {ra : Option Addr} {l : List Int} {Q : Nat} {h' ac' bu' : Int} {a' : Option Addr} {n' c' : Nat} {f' : Nat → Int} {rb : Option Addr} {rd md : Nat} {l' : List Int} (d : DB W w ca k kc B t P h ac bu a n c f ra l Q h' ac' bu' a' n' c' f' rb rd md l') (hb : Below w.heap.size w w') : DB W w' ca k kc B t P h ac bu a n c f ra l Q h' ac' bu' a' n' c' f' rb rd md l' :=
  ⟨d.da.below hb, d.bb.below hb, d.wb.below hb, ownsRow_below d.row hb, d.hmd, d.hQ⟩

theorem DB.next {W w w' : World} {ca : Option Addr} {k kc t t' P : Nat} {B : Nat → Int} {h ac bu : Int} {a : Option Addr} {n c : Nat} {f : Nat → Int} {ra : Option Addr} {l : List Int} {Q : Nat} {h' ac' bu' : Int} {a' : Option Addr} {n' c' : Nat} {f' : Nat → Int} {rb : Option Addr} {rd md : Nat} {l' : List Int} (d : DB W w ca k kc B t P h ac bu a n c f ra l Q h' ac' bu' a' n' c' f' rb rd md l') (hk : Keeps w w' (W.heap.size + 2) (W.heap.size + 2 + 1)) (hs : Blk w' (W.heap.size + 2) [.slice ca k kc, .int .i64 (t' : Int)]) : DB W w' ca k kc B t' P h ac bu a n c f ra l Q h' ac' bu' a' n' c' f' rb rd md l' := by
  have hP := d.da.hP
  have hQ := d.hQ
  have hM := d.hmd
  exact ⟨d.da.next hk hs, d.bb.keeps hk (by omega), d.wb.keeps hk (by omega), row_keeps d.row hk (by omega), d.hmd, d.hQ⟩

theorem own_row {w : World} {B e n c : Nat} {a : Option Addr} {l : List Int} (h : w.ownsRow B e 1 (.slice a n c) l.length (nums l.length (lf l))) : n = l.length ∧ Own w B a l.length (lf l) := by
  obtain ⟨a', c', he, ho⟩ := own_of_row' h
  simp only [Value.slice.injEq] at he
  obtain ⟨rfl, rfl, rfl⟩ := he
  exact ⟨rfl, ho⟩

theorem DB.own {W w : World} {ca : Option Addr} {k kc t P : Nat} {B : Nat → Int} {h ac bu : Int} {a : Option Addr} {n c : Nat} {f : Nat → Int} {ra : Option Addr} {l : List Int} {Q : Nat} {h' ac' bu' : Int} {a' : Option Addr} {n' c' : Nat} {f' : Nat → Int} {rb : Option Addr} {rd md : Nat} {l' : List Int} (d : DB W w ca k kc B t P h ac bu a n c f ra l Q h' ac' bu' a' n' c' f' rb rd md l') : Own w (P + 1) rb l'.length (lf l') := (own_row d.row).2.mono d.hmd

theorem DA.keeps {W w w' : World} {ca : Option Addr} {k kc t P : Nat} {B : Nat → Int} {h ac bu : Int} {a : Option Addr} {n c : Nat} {f : Nat → Int} {ra : Option Addr} {l : List Int} {lo hi : Nat} (d : DA W w ca k kc B t P h ac bu a n c f ra l) (hk : Keeps w w' lo hi) (hl : P + 1 ≤ lo) : DA W w' ca k kc B t P h ac bu a n c f ra l := by
  have hP := d.hP
  have hPw := d.arn.1
  exact ⟨d.bel.trans (hk.below (by omega) d.bel.size), d.src.keeps hk (.inl (by omega)), d.byt.keeps hk (by omega), d.r0.keeps hk (.inl (by omega)), d.r1.keeps hk (.inl (by omega)), d.arn.keeps hk (.inl (by omega)), d.wrd.keeps hk (.inl (by omega)), d.rts.keeps hk (.inl (by omega)), d.hP⟩

theorem DB.stored {W w : World} {ca : Option Addr} {k kc t P : Nat} {B : Nat → Int} {h ac bu : Int} {a : Option Addr} {n c : Nat} {f : Nat → Int} {ra : Option Addr} {l : List Int} {Q : Nat} {h' ac' bu' : Int} {gb qb : Nat} {n' c' : Nat} {f' : Nat → Int} {rb : Option Addr} {rd md : Nat} {l' : List Int} (d : DB W w ca k kc B t P h ac bu a n c f ra l Q h' ac' bu' (some ⟨gb, qb, none⟩) n' c' f' rb rd md l') {i : Nat} (hi : i < n') (hm : md ≤ Q) (v : Int) : DB W (w.setCell ⟨gb, qb + i, none⟩ (.int .i64 v)) ca k kc B t P h ac bu a n c f ra l Q h' ac' bu' (some ⟨gb, qb, none⟩) n' c' (fun j => if j = i then v else f' j) rb rd md l' := by
  have hM := d.hmd
  have hst := d.wb.stored i hi v
  rcases d.wb with h0 | ⟨b', o', he, hb', hl', _⟩
  · omega
  simp only [Option.some.injEq, Addr.mk.injEq, and_true] at he
  obtain ⟨rfl, rfl⟩ := he
  have hk : Keeps w (w.setCell ⟨gb, qb + i, none⟩ (.int .i64 v)) gb (gb + 1) := keeps_setCell (p := ⟨gb, qb + i, none⟩) (Nat.le_refl gb) (Nat.lt_succ_self gb) _
  exact ⟨d.da.keeps hk (by omega), d.bb.keeps hk (.inr (by omega)), hst.1, row_keeps d.row hk (by omega), d.hmd, d.hQ⟩

theorem DB.two {W w : World} {ca : Option Addr} {k kc t P : Nat} {B : Nat → Int} {h ac bu : Int} {a : Option Addr} {n c : Nat} {f : Nat → Int} {ra : Option Addr} {l : List Int} {Q : Nat} {h' ac' bu' : Int} {a' : Option Addr} {n' c' : Nat} {f' : Nat → Int} {rb : Option Addr} {rd md : Nat} {l' : List Int} (d : DB W w ca k kc B t P h ac bu a n c f ra l Q h' ac' bu' a' n' c' f' rb rd md l') : w.cell? ⟨Q, 1, none⟩ = some (.slice a' n' c') ∧ w.cell? ⟨Q, 3, none⟩ = some (.int .i64 bu') := ⟨d.bb.at 1 rfl, d.bb.at 3 rfl⟩

theorem src510 {w : World} {q : Nat} (h : Blk w q [.int .i64 5, .int .i64 0, .int .i64 1]) : Src w (some ⟨q, 0, none⟩) 3 (fun i => ([5, 0, 1] : List Int).getD i 0) :=
  .inr ⟨q, 0, rfl, h.1, fun i hi => by
    rw [Nat.zero_add]
    match i, hi with
    | 0, _ => exact h.at 0 rfl
    | 1, _ => exact h.at 1 rfl
    | 2, _ => exact h.at 2 rfl⟩

theorem DB.append {W w w' : World} {ca : Option Addr} {k kc t P : Nat} {B : Nat → Int} {h ac bu : Int} {a : Option Addr} {n c : Nat} {f : Nat → Int} {ra : Option Addr} {l : List Int} {Q : Nat} {h' ac' bu' : Int} {a' : Option Addr} {n' c' : Nat} {f' : Nat → Int} {rb rb' : Option Addr} {rd rd' md : Nat} {l' l'' : List Int} (d : DB W w ca k kc B t P h ac bu a n c f ra l Q h' ac' bu' a' n' c' f' rb rd md l') (hg : w.grownBy w' (Value.slice rb l'.length rd).ownBlock) (hpb : ∀ k, (Value.slice rb l'.length rd).ownBlock = some k → k < Q) (hr : w'.ownsRow md 2 1 (.slice rb' l''.length rd') l''.length (nums l''.length (lf l''))) : DB W w' ca k kc B t P h ac bu a n c f ra l Q h' ac' bu' a' n' c' f' rb' rd' md l'' := by
  have hP := d.da.hP
  have hM := d.hmd
  have hPw := d.da.arn.1
  have hz : w.heap.size ≤ w'.heap.size := hg.size
  have hk : Keeps w w' md w'.heap.size := ⟨hg.os, hg.tape, hg.output, hz, fun q hq hd => by
    rcases hd with hd | hd
    · exact hg.block q hq (fun e => by have := (d.row.lt q e.symm).1; omega)
    · omega⟩
  have eQ := hg.block Q d.bb.1 (fun e => by have := hpb Q e.symm; omega)
  exact ⟨⟨d.da.bel.trans (hk.below (by omega) d.da.bel.size), d.da.src.keeps hk (.inl (by omega)), d.da.byt.keeps hk (by omega), d.da.r0.keeps hk (.inl (by omega)), d.da.r1.keeps hk (.inl (by omega)), d.da.arn.keeps hk (.inl (by omega)), d.da.wrd.keeps hk (.inl (by omega)), d.da.rts.keeps hk (.inl (by omega)), d.da.hP⟩, ⟨Nat.lt_of_lt_of_le d.bb.1 hz, fun i u hu => ⟨(World.cell?_of_block (w := w) (a := ⟨Q, i, none⟩) eQ).trans (d.bb.2 i u hu).1, (World.frozen?_of_block (w := w) (a := ⟨Q, i, none⟩) eQ).trans (d.bb.2 i u hu).2⟩⟩, d.wb.keeps hk (.inl (by omega)), hr, d.hmd, d.hQ⟩

set_option maxRecDepth 100000 in
set_option maxHeartbeats 6400000 in
theorem drawIA_any : DrawIA := by
  intro ca k kc B w hs hk
  have SB := Lib.hid hs
  clear hs
  go_enter Try.func26, Try.ntmps26
  go_wp2_with fail
  refine (later_any ca k kc _).mono ?_
  rintro e w1 ⟨rfl, rfl⟩
  go_wp2_with fail
  refine (drawRF_any' ca k kc B _ ((((SB.out.alloc _).alloc _).alloc _).mono (by simp; omega)) hk).mono ?_
  rintro e w2 ⟨h, ac, bu, n, c, a, f, l, ra, rc, rfl, ho, hq, hb, hn, hnc, hcm, hl⟩
  have z2 : w.heap.size + 3 ≤ w2.heap.size := by have := hb.size; simp at this; omega
  have HB2 : Hid (Below w.heap.size w w2) := Lib.hid (((((Below.refl w.heap.size w).alloc (Nat.le_refl _) _).alloc (by simp) _).alloc (by simp; omega) _).trans (hb.mono (by simp; omega)))
  have D2 : Hid (DA w (w2.alloc (.cells #[.int .i64 h, .slice a n c, .int .i64 ac, .int .i64 bu] 26)) ca k kc B 19 w2.heap.size h ac bu a n c f ra l) := Lib.hid
    ⟨HB2.out.alloc HB2.out.size _, ((Blk.new_at (w.heap.size + 2) (by simp)).below hb).alloc _, (((((SB.out.alloc _).alloc _).alloc _).mono (by omega)).below hb).alloc _, ((((Blk.new_at w.heap.size rfl).alloc _).alloc _).below hb).alloc _, (((Blk.new_at (w.heap.size + 1) (by simp)).alloc _).below hb).alloc _, Blk.new_at (w := w2) w2.heap.size rfl, ((ho.mono (by simp)).into).alloc _, ((hq.mono (by simp)).into).alloc _, z2⟩
  clear ho hq hb SB HB2
  obtain ⟨co, L, hask⟩ := isAsk_some h n f ac bu l
  have HASK := Lib.hid hask
  clear hask
  go_wp2_with fail
  refine ((l4Ask_any w2.heap.size h ac bu a n c f ra l rc co L _ D2.out.arn D2.out.wrd.src hnc hcm D2.out.rts.src HASK.out).mono fun e w' hh => askU hh).mono ?_
  rintro e w3 ⟨hb, v, aa, N, cc, rfl, hz_⟩
  have D3 := Lib.hid (D2.out.below hb)
  clear hb D2
  generalize w2.heap.size = P at *
  by_cases h0 : co = 0
  · subst h0
    obtain ⟨h1, h2, h3, h4⟩ := isAsk_zero HASK.out
    obtain ⟨⟨⟨g1, g2⟩, ⟨g3, g4⟩, g5, g6⟩, gn, gw⟩ := isFault_ok (isOI_zero h2).1
    obtain ⟨m, rfl⟩ : ∃ m : Nat, h = (m : Int) := ⟨h.toNat, by omega⟩
    obtain rfl : n = 2 * m := by omega
    have htf := tot_fits h1 h2 h4
    have htn : 0 ≤ (totO (objsO L (reachO f L l)) : Int) := by omega
    clear hz_ gw
    go_wp2_with fail
    refine (l4CollectR_any P m ac bu a c f ra l rc L _ D3.out.arn D3.out.wrd.src hnc hcm D3.out.rts.src h1 h2 h3 h4).mono ?_
    rintro e w4 ⟨b, cb, rb, rd, mid, g, rfl, _, ho, ho2, hm1, hm2, hb, hnb, hcb⟩
    obtain ⟨l2, hl2, hl2e⟩ : ∃ l2 : List Int, l2.length = l.length ∧ l2 = l.map (goes (reachO f L l) (newPlaces (baseI (1 - ac) (m : Int)).toNat (objsO L (reachO f L l)))) := ⟨_, by simp, rfl⟩
    rw [← hl2e, ← hl2] at ho2
    clear hl2e
    have hPw := D3.out.arn.1
    obtain ⟨tt, htt⟩ : ∃ tt : Nat, totO (objsO L (reachO f L l)) = tt := ⟨_, rfl⟩
    rw [htt] at htf htn
    rw [htt]
    have D4 : Hid (DB w (w4.alloc (.cells #[.int .i64 (m : Int), .slice b (2 * m) cb, .int .i64 (1 - ac), .int .i64 (tt : Int)] 26)) ca k kc B 19 P (m : Int) ac bu a (2 * m) c f ra l w4.heap.size (m : Int) (1 - ac) (tt : Int) b (2 * m) cb g rb rd mid l2) := Lib.hid
      ⟨(D3.out.below hb).below ((Below.refl _ _).alloc (Nat.le_refl _) _), Blk.new_at (w := w4) w4.heap.size rfl, (ho.widen (by omega) (Nat.le_refl _)).alloc _, ho2.alloc _, by omega, by have := hb.size; omega⟩
    have HPB : Hid (∀ k, (Value.slice rb l2.length rd).ownBlock = some k → k < w4.heap.size) := Lib.hid fun k hk => (ho2.lt k hk).2
    clear ho ho2 hb D3 htt h1 h2 h3 h4 HASK
    have z4 : P + 1 ≤ w4.heap.size := D4.out.hQ
    go_wp2_with fail
    refine (next_is 5 (w.heap.size + 2) (w.heap.size + 2) ca k kc 19 5 B _ rfl D4.out.da.src D4.out.da.byt (Nat.le_refl _) hk (by omega) (by omega) (by omega)).mono ?_
    rintro e w5 ⟨v5, rfl, hv5, hB5, hk5⟩
    have D5 : Hid (DB w w5 ca k kc B 20 P (m : Int) ac bu a (2 * m) c f ra l w4.heap.size (m : Int) (1 - ac) (tt : Int) b (2 * m) cb g rb rd mid l2) := Lib.hid (D4.out.next hk5 (by have := hB5; simpa using this))
    clear hB5 hk5 D4
    generalize w4.heap.size = Q at *
    by_cases hv0 : v5 = 0
    · subst hv0
      by_cases hbu : 0 < tt
      · have hbu' : (0 : Int) < (tt : Int) := by omega
        rcases D5.out.wb with h9 | ⟨gb, qb, rfl, hgb, hgl, _⟩
        · omega
        have hac : ac = 0 ∨ ac = 1 := by omega
        obtain ⟨bb, hE, hbb⟩ : ∃ bb : Nat, baseI (1 - ac) (m : Int) = (bb : Int) ∧ bb ≤ m := by
          rcases hac with rfl | rfl
          · exact ⟨m, by unfold baseI; rw [if_neg (by omega)], Nat.le_refl _⟩
          · exact ⟨0, by unfold baseI; rw [if_pos (by omega)]; rfl, Nat.zero_le _⟩
        have HE := Lib.hid hE
        clear hE
        have hmb : tt ≤ m := by omega
        have hmQ : mid ≤ Q := hm1
        have hgQ : gb ≠ Q := by omega
        have z5 : w.heap.size + 2 + 1 ≤ w5.heap.size := by have := D5.out.da.arn.1; omega
        have D5d := Lib.hid (D5.out.below (Below.refl _ _).drew)
        have D5a := Lib.hid (D5.out.below ((Below.refl _ _).alloc (Nat.le_refl _) (.cells #[.int .i64 5, .int .i64 0, .int .i64 1] 2)))
        have D5ad := Lib.hid (D5a.out.below (Below.refl _ _).drew)
        have QL5 := Lib.hid ((Blk.new_at (w := w5) (cs := #[.int .i64 5, .int .i64 0, .int .i64 1]) (t := 2) w5.heap.size rfl).drew)
        have cQ0 := D5.out.bb.at 0 rfl; have cQ1 := D5.out.bb.at 1 rfl; have cQ2 := D5.out.bb.at 2 rfl; have cQ3 := D5.out.bb.at 3 rfl
        go_wp2_with fail
        go_region_held3 (fun w' => w'.cell? ⟨Q, 1, none⟩ = some (.slice (some ⟨gb, qb, none⟩) (2 * m) cb) ∧ w'.cell? ⟨Q, 3, none⟩ = some (.int .i64 (tt : Int)))
          (first | (with_reducible exact D5.out.two) | (with_reducible exact D5d.out.two) | (with_reducible exact D5a.out.two) | (with_reducible exact D5ad.out.two) | (with_reducible exact D6.out.two) | (with_reducible exact D6a.out.two) | (with_reducible exact D7.out.two) | (with_reducible exact D7a.out.two) | (with_reducible exact D8.out.two) | (with_reducible exact (D8.out.stored hv9 hmQ _).two))
          (first | (go_at_call 89; (with_reducible refine (l1Base_is Q (m : Int) (1 - ac) (tt : Int) (bb : Int) (some ⟨gb, qb, none⟩) (2 * m) cb _ HE.out D5d.out.bb g1 g2 (by omega) (by omega)).mono ?_); rintro e w6 ⟨rfl, hb⟩; have z6 : w.heap.size + 2 + 1 ≤ w6.heap.size := (by have := hb.size; simp at this; omega); have D6 := Lib.hid (D5d.out.below hb); have D6a := Lib.hid (D6.out.below ((Below.refl _ _).alloc (Nat.le_refl _) (.cells #[.int .i64 5, .int .i64 0, .int .i64 1] 2))); clear hb) | (go_at_call 89; (with_reducible refine (l1Base_is Q (m : Int) (1 - ac) (tt : Int) (bb : Int) (some ⟨gb, qb, none⟩) (2 * m) cb _ HE.out D5ad.out.bb g1 g2 (by omega) (by omega)).mono ?_); rintro e w6 ⟨rfl, hb⟩; have z6 : w.heap.size + 2 + 1 ≤ w6.heap.size := (by have := hb.size; simp at this; omega); have D6 := Lib.hid (D5ad.out.below hb); have QL6 := Lib.hid (QL5.out.below hb); clear hb) | (go_at_call 87; (with_reducible refine (next_is (tt : Int) (w.heap.size + 2) (w.heap.size + 2) ca k kc 20 tt B _ rfl D6.out.da.src D6.out.da.byt (Nat.le_refl _) hk (by omega) (by omega) (by omega)).mono ?_); rintro e w7 ⟨v7, rfl, hv7, hB7, hk7⟩; have D7 : Hid (DB w w7 ca k kc B 21 P (m : Int) ac bu a (2 * m) c f ra l Q (m : Int) (1 - ac) (tt : Int) (some ⟨gb, qb, none⟩) (2 * m) cb g rb rd mid l2) := Lib.hid (D6.out.next hk7 (by have := hB7; simpa using this)); (try (have QLC := Lib.hid (QL6.out.keeps hk7 (.inr (by omega))))); have D7a := Lib.hid (D7.out.below ((Below.refl _ _).alloc (Nat.le_refl _) (.cells #[.int .i64 5, .int .i64 0, .int .i64 1] 2))); have hv9 : bb + v7 < 2 * m := (by omega); have hix : IntKind.i64.wrap ((bb : Int) + (v7 : Int)) = (bb : Int) + (v7 : Int) := (IntWalk.i64_in _ (by omega)); have hi0 : (0 : Int) ≤ (bb : Int) + (v7 : Int) := (by omega); have hi1 : (bb : Int) + (v7 : Int) < 2 * (m : Int) := (by omega); have hi2 : ((bb : Int) + (v7 : Int)).toNat = bb + v7 := (by omega); clear hB7 hk7) | (go_at_call 87; (with_reducible refine (next_is (tt : Int) (w.heap.size + 2) (w.heap.size + 2) ca k kc 20 tt B _ rfl D6a.out.da.src D6a.out.da.byt (Nat.le_refl _) hk (by omega) (by omega) (by omega)).mono ?_); rintro e w7 ⟨v7, rfl, hv7, hB7, hk7⟩; have D7 : Hid (DB w w7 ca k kc B 21 P (m : Int) ac bu a (2 * m) c f ra l Q (m : Int) (1 - ac) (tt : Int) (some ⟨gb, qb, none⟩) (2 * m) cb g rb rd mid l2) := Lib.hid (D6a.out.next hk7 (by have := hB7; simpa using this)); have QLB := Lib.hid ((Blk.new_at (w := w6) (cs := #[.int .i64 5, .int .i64 0, .int .i64 1]) (t := 2) w6.heap.size rfl).keeps hk7 (.inr (by omega))); have hv9 : bb + v7 < 2 * m := (by omega); have hix : IntKind.i64.wrap ((bb : Int) + (v7 : Int)) = (bb : Int) + (v7 : Int) := (IntWalk.i64_in _ (by omega)); have hi0 : (0 : Int) ≤ (bb : Int) + (v7 : Int) := (by omega); have hi1 : (bb : Int) + (v7 : Int) < 2 * (m : Int) := (by omega); have hi2 : ((bb : Int) + (v7 : Int)).toNat = bb + v7 := (by omega); clear hB7 hk7) | (go_at_call 88; refine (of_any [5, 0, 1] (w.heap.size + 2) (w.heap.size + 2) _ ca k kc 21 3 B _ w7 D7.out.da.src D7.out.da.byt (Nat.le_refl _) hk (by omega) rfl (by simp) (by simp) rfl (by simp)).mono ?_; rintro e w8 ⟨v8, rfl, _, hB8, hk8⟩; have D8 : Hid (DB w w8 ca k kc B 22 P (m : Int) ac bu a (2 * m) c f ra l Q (m : Int) (1 - ac) (tt : Int) (some ⟨gb, qb, none⟩) (2 * m) cb g rb rd mid l2) := Lib.hid (D7a.out.next hk8 (by have := hB8; simpa using this)); clear hB8 hk8; obtain ⟨cU, fU⟩ := (ownIn_cell D8.out.wb (bb + v7) hv9)) | (go_at_call 88; refine (of_blk [5, 0, 1] (w.heap.size + 2) (w.heap.size + 2) w6.heap.size ca k kc 21 3 B _ D7.out.da.src D7.out.da.byt (Nat.le_refl _) hk (by omega) rfl (by simp) (by simp) (src510 QLB.out) (by omega)).mono ?_; rintro e w8 ⟨v8, rfl, _, hB8, hk8⟩; have D8 : Hid (DB w w8 ca k kc B 22 P (m : Int) ac bu a (2 * m) c f ra l Q (m : Int) (1 - ac) (tt : Int) (some ⟨gb, qb, none⟩) (2 * m) cb g rb rd mid l2) := Lib.hid (D7.out.next hk8 (by have := hB8; simpa using this)); clear hB8 hk8; obtain ⟨cU, fU⟩ := (ownIn_cell D8.out.wb (bb + v7) hv9)) | (go_at_call 88; refine (of_blk [5, 0, 1] (w.heap.size + 2) (w.heap.size + 2) w5.heap.size ca k kc 21 3 B _ D7.out.da.src D7.out.da.byt (Nat.le_refl _) hk (by omega) rfl (by simp) (by simp) (src510 QLC.out) (by omega)).mono ?_; rintro e w8 ⟨v8, rfl, _, hB8, hk8⟩; have D8 : Hid (DB w w8 ca k kc B 22 P (m : Int) ac bu a (2 * m) c f ra l Q (m : Int) (1 - ac) (tt : Int) (some ⟨gb, qb, none⟩) (2 * m) cb g rb rd mid l2) := Lib.hid (D7.out.next hk8 (by have := hB8; simpa using this)); clear hB8 hk8; obtain ⟨cU, fU⟩ := (ownIn_cell D8.out.wb (bb + v7) hv9)))
        all_goals (
          have D9 := Lib.hid (D8.out.stored hv9 hmQ v8)
          clear D8 D7 D6 D5 D5d D5a D5ad QL5 cU fU cQ0 cQ1 cQ2 cQ3
          generalize w8.setCell ⟨gb, qb + (bb + v7), none⟩ (.int .i64 v8) = w9 at *
          have cA0 := D9.out.da.arn.at 0 rfl; have cA1 := D9.out.da.arn.at 1 rfl; have cA2 := D9.out.da.arn.at 2 rfl; have cA3 := D9.out.da.arn.at 3 rfl; have lA := D9.out.da.arn.1
          have cR0 := D9.out.da.r0.at 0 rfl; have fR0 := D9.out.da.r0.free 0 rfl; have cR1 := D9.out.da.r0.at 1 rfl; have fR1 := D9.out.da.r0.free 1 rfl; have cR2 := D9.out.da.r0.at 2 rfl; have fR2 := D9.out.da.r0.free 2 rfl; have cR3 := D9.out.da.r0.at 3 rfl; have fR3 := D9.out.da.r0.free 3 rfl; have lR := D9.out.da.r0.1
          have cS0 := D9.out.da.r1.at 0 rfl; have fS0 := D9.out.da.r1.free 0 rfl; have cS1 := D9.out.da.r1.at 1 rfl; have fS1 := D9.out.da.r1.free 1 rfl; have cS2 := D9.out.da.r1.at 2 rfl; have fS2 := D9.out.da.r1.free 2 rfl; have cS3 := D9.out.da.r1.at 3 rfl; have fS3 := D9.out.da.r1.free 3 rfl; have lS := D9.out.da.r1.1
          have cQ0 := D9.out.bb.at 0 rfl; have cQ1 := D9.out.bb.at 1 rfl; have cQ2 := D9.out.bb.at 2 rfl; have cQ3 := D9.out.bb.at 3 rfl; have lQ := D9.out.bb.1
          have hz := D9.out.da.bel.size
          have hP := D9.out.da.hP
          have hP0 : w.heap.size ≠ P := by omega
          have hP1 : w.heap.size + 1 ≠ P := by omega
          have hQ0 : w.heap.size ≠ Q := by omega
          have hQ1 : w.heap.size + 1 ≠ Q := by omega
          go_wp2
          go_region
          go_wp2
          refine bodyPost_ret (v := .tuple #[.agg #[.int .i64 (m : Int), .slice a (2 * m) c, .int .i64 ac, .int .i64 bu], .slice ra l.length rc, .agg #[.int .i64 (m : Int), .slice (some ⟨gb, qb, none⟩) (2 * m) cb, .int .i64 (1 - ac), .int .i64 (tt : Int)], .slice rb l.length rd]) (by simp [results, Try.results26, go_sem, cR0, cR1, cR2, cR3, cS0, cS1, cS2, cS3]) rfl ⟨(m : Int), ac, bu, a, 2 * m, c, f, ra, l, rc, (m : Int), (1 - ac), (tt : Int), (some ⟨gb, qb, none⟩), (2 * m), cb, (fun j => if j = bb + v7 then v8 else g j), rb, l2, rd, (by rw [hl2]), ?_, hnc, hcm, ?_, ?_, hnb, hcb, ?_, ?_⟩
          · refine Own.src (B := w.heap.size + 3) ?_
            repeat (first | (with_reducible refine Own.setCell ?_ (by (try simp); (try omega)) _) | (with_reducible refine Own.alloc ?_ _) | (with_reducible refine Own.drew ?_))
            exact D9.out.da.wrd.out
          · refine Own.src (B := w.heap.size + 3) ?_
            repeat (first | (with_reducible refine Own.setCell ?_ (by (try simp); (try omega)) _) | (with_reducible refine Own.alloc ?_ _) | (with_reducible refine Own.drew ?_))
            exact D9.out.da.rts.out
          · refine Own.src (B := w.heap.size + 3) ?_
            repeat (first | (with_reducible refine Own.setCell ?_ (by (try simp); (try omega)) _) | (with_reducible refine Own.alloc ?_ _) | (with_reducible refine Own.drew ?_))
            exact (D9.out.wb.widen (by omega) (Nat.le_refl _)).out
          · refine Own.src (B := w.heap.size + 3) ?_
            repeat (first | (with_reducible refine Own.setCell ?_ (by (try simp); (try omega)) _) | (with_reducible refine Own.alloc ?_ _) | (with_reducible refine Own.drew ?_))
            exact (D9.out.own.mono (by omega))
          · repeat (first | (with_reducible refine Below.setCell ?_ (by (try simp); (try omega)) _) | (with_reducible refine Below.alloc ?_ (by (try simp); (try omega)) _) | (with_reducible refine Below.drew ?_))
            exact D9.out.da.bel
          )
      · obtain rfl : tt = 0 := by omega
        have cA0 := D5.out.da.arn.at 0 rfl; have cA1 := D5.out.da.arn.at 1 rfl; have cA2 := D5.out.da.arn.at 2 rfl; have cA3 := D5.out.da.arn.at 3 rfl; have lA := D5.out.da.arn.1
        have cR0 := D5.out.da.r0.at 0 rfl; have fR0 := D5.out.da.r0.free 0 rfl; have cR1 := D5.out.da.r0.at 1 rfl; have fR1 := D5.out.da.r0.free 1 rfl; have cR2 := D5.out.da.r0.at 2 rfl; have fR2 := D5.out.da.r0.free 2 rfl; have cR3 := D5.out.da.r0.at 3 rfl; have fR3 := D5.out.da.r0.free 3 rfl; have lR := D5.out.da.r0.1
        have cS0 := D5.out.da.r1.at 0 rfl; have fS0 := D5.out.da.r1.free 0 rfl; have cS1 := D5.out.da.r1.at 1 rfl; have fS1 := D5.out.da.r1.free 1 rfl; have cS2 := D5.out.da.r1.at 2 rfl; have fS2 := D5.out.da.r1.free 2 rfl; have cS3 := D5.out.da.r1.at 3 rfl; have fS3 := D5.out.da.r1.free 3 rfl; have lS := D5.out.da.r1.1
        have cQ0 := D5.out.bb.at 0 rfl; have cQ1 := D5.out.bb.at 1 rfl; have cQ2 := D5.out.bb.at 2 rfl; have cQ3 := D5.out.bb.at 3 rfl; have lQ := D5.out.bb.1
        have hz := D5.out.da.bel.size
        have hP := D5.out.da.hP
        have hP0 : w.heap.size ≠ P := by omega
        have hP1 : w.heap.size + 1 ≠ P := by omega
        have hQ0 : w.heap.size ≠ Q := by omega
        have hQ1 : w.heap.size + 1 ≠ Q := by omega
        go_wp2
        go_region
        go_wp2
        refine bodyPost_ret (v := .tuple #[.agg #[.int .i64 (m : Int), .slice a (2 * m) c, .int .i64 ac, .int .i64 bu], .slice ra l.length rc, .agg #[.int .i64 (m : Int), .slice b (2 * m) cb, .int .i64 (1 - ac), .int .i64 ((0 : Nat) : Int)], .slice rb l.length rd]) (by simp [results, Try.results26, go_sem, cR0, cR1, cR2, cR3, cS0, cS1, cS2, cS3]) rfl ⟨(m : Int), ac, bu, a, 2 * m, c, f, ra, l, rc, (m : Int), (1 - ac), ((0 : Nat) : Int), b, (2 * m), cb, g, rb, l2, rd, (by rw [hl2]), ?_, hnc, hcm, ?_, ?_, hnb, hcb, ?_, ?_⟩
        · refine Own.src (B := w.heap.size + 3) ?_
          repeat (first | (with_reducible refine Own.setCell ?_ (by (try simp); (try omega)) _) | (with_reducible refine Own.alloc ?_ _) | (with_reducible refine Own.drew ?_))
          exact D5.out.da.wrd.out
        · refine Own.src (B := w.heap.size + 3) ?_
          repeat (first | (with_reducible refine Own.setCell ?_ (by (try simp); (try omega)) _) | (with_reducible refine Own.alloc ?_ _) | (with_reducible refine Own.drew ?_))
          exact D5.out.da.rts.out
        · refine Own.src (B := w.heap.size + 3) ?_
          repeat (first | (with_reducible refine Own.setCell ?_ (by (try simp); (try omega)) _) | (with_reducible refine Own.alloc ?_ _) | (with_reducible refine Own.drew ?_))
          exact (D5.out.wb.widen (by omega) (Nat.le_refl _)).out
        · refine Own.src (B := w.heap.size + 3) ?_
          repeat (first | (with_reducible refine Own.setCell ?_ (by (try simp); (try omega)) _) | (with_reducible refine Own.alloc ?_ _) | (with_reducible refine Own.drew ?_))
          exact (D5.out.own.mono (by omega))
        · repeat (first | (with_reducible refine Below.setCell ?_ (by (try simp); (try omega)) _) | (with_reducible refine Below.alloc ?_ (by (try simp); (try omega)) _) | (with_reducible refine Below.drew ?_))
          exact D5.out.da.bel
    · have hv0' : ((v5 : Int) == 0) = false := by simp; omega
      by_cases hv1 : v5 = 1
      · subst hv1
        obtain ⟨i0, hif, hz0, hz1, hz2⟩ := info_parts Try.info2
        by_cases hl0 : l.length = 0
        · obtain rfl : l = [] := List.length_eq_zero_iff.mp hl0
          obtain rfl : l2 = [] := List.length_eq_zero_iff.mp (by simpa using hl2)
          rcases rb with _ | ⟨pb, po, px⟩
          · have cA0 := D5.out.da.arn.at 0 rfl; have cA1 := D5.out.da.arn.at 1 rfl; have cA2 := D5.out.da.arn.at 2 rfl; have cA3 := D5.out.da.arn.at 3 rfl; have lA := D5.out.da.arn.1
            have cR0 := D5.out.da.r0.at 0 rfl; have fR0 := D5.out.da.r0.free 0 rfl; have cR1 := D5.out.da.r0.at 1 rfl; have fR1 := D5.out.da.r0.free 1 rfl; have cR2 := D5.out.da.r0.at 2 rfl; have fR2 := D5.out.da.r0.free 2 rfl; have cR3 := D5.out.da.r0.at 3 rfl; have fR3 := D5.out.da.r0.free 3 rfl; have lR := D5.out.da.r0.1
            have cS0 := D5.out.da.r1.at 0 rfl; have fS0 := D5.out.da.r1.free 0 rfl; have cS1 := D5.out.da.r1.at 1 rfl; have fS1 := D5.out.da.r1.free 1 rfl; have cS2 := D5.out.da.r1.at 2 rfl; have fS2 := D5.out.da.r1.free 2 rfl; have cS3 := D5.out.da.r1.at 3 rfl; have fS3 := D5.out.da.r1.free 3 rfl; have lS := D5.out.da.r1.1
            have cQ0 := D5.out.bb.at 0 rfl; have cQ1 := D5.out.bb.at 1 rfl; have cQ2 := D5.out.bb.at 2 rfl; have cQ3 := D5.out.bb.at 3 rfl; have lQ := D5.out.bb.1
            have hz := D5.out.da.bel.size
            have hP := D5.out.da.hP
            have hP0 : w.heap.size ≠ P := by omega
            have hP1 : w.heap.size + 1 ≠ P := by omega
            have hQ0 : w.heap.size ≠ Q := by omega
            have hQ1 : w.heap.size + 1 ≠ Q := by omega
            go_wp2
            go_region
            go_wp2
            refine bodyPost_ret (v := .tuple #[.agg #[.int .i64 (m : Int), .slice a (2 * m) c, .int .i64 ac, .int .i64 bu], .slice ra ([] : List Int).length rc, .agg #[.int .i64 (m : Int), .slice b (2 * m) cb, .int .i64 (1 - ac), .int .i64 (tt : Int)], .slice none 0 rd]) (by simp [results, Try.results26, go_sem, cR0, cR1, cR2, cR3, cS0, cS1, cS2, cS3]) rfl ⟨(m : Int), ac, bu, a, 2 * m, c, f, ra, ([] : List Int), rc, (m : Int), (1 - ac), (tt : Int), b, (2 * m), cb, g, none, [], rd, rfl, ?_, hnc, hcm, ?_, ?_, hnb, hcb, ?_, ?_⟩
            · refine Own.src (B := w.heap.size + 3) ?_
              repeat (first | (with_reducible refine Own.setCell ?_ (by (try simp); (try omega)) _) | (with_reducible refine Own.alloc ?_ _) | (with_reducible refine Own.drew ?_))
              exact D5.out.da.wrd.out
            · refine Own.src (B := w.heap.size + 3) ?_
              repeat (first | (with_reducible refine Own.setCell ?_ (by (try simp); (try omega)) _) | (with_reducible refine Own.alloc ?_ _) | (with_reducible refine Own.drew ?_))
              exact D5.out.da.rts.out
            · refine Own.src (B := w.heap.size + 3) ?_
              repeat (first | (with_reducible refine Own.setCell ?_ (by (try simp); (try omega)) _) | (with_reducible refine Own.alloc ?_ _) | (with_reducible refine Own.drew ?_))
              exact (D5.out.wb.widen (by omega) (Nat.le_refl _)).out
            · refine Own.src (B := w.heap.size + 3) ?_
              repeat (first | (with_reducible refine Own.setCell ?_ (by (try simp); (try omega)) _) | (with_reducible refine Own.alloc ?_ _) | (with_reducible refine Own.drew ?_))
              exact (D5.out.own.mono (by omega))
            · repeat (first | (with_reducible refine Below.setCell ?_ (by (try simp); (try omega)) _) | (with_reducible refine Below.alloc ?_ (by (try simp); (try omega)) _) | (with_reducible refine Below.drew ?_))
              exact D5.out.da.bel
          · have cA0 := D5.out.da.arn.at 0 rfl; have cA1 := D5.out.da.arn.at 1 rfl; have cA2 := D5.out.da.arn.at 2 rfl; have cA3 := D5.out.da.arn.at 3 rfl; have lA := D5.out.da.arn.1
            have cR0 := D5.out.da.r0.at 0 rfl; have fR0 := D5.out.da.r0.free 0 rfl; have cR1 := D5.out.da.r0.at 1 rfl; have fR1 := D5.out.da.r0.free 1 rfl; have cR2 := D5.out.da.r0.at 2 rfl; have fR2 := D5.out.da.r0.free 2 rfl; have cR3 := D5.out.da.r0.at 3 rfl; have fR3 := D5.out.da.r0.free 3 rfl; have lR := D5.out.da.r0.1
            have cS0 := D5.out.da.r1.at 0 rfl; have fS0 := D5.out.da.r1.free 0 rfl; have cS1 := D5.out.da.r1.at 1 rfl; have fS1 := D5.out.da.r1.free 1 rfl; have cS2 := D5.out.da.r1.at 2 rfl; have fS2 := D5.out.da.r1.free 2 rfl; have cS3 := D5.out.da.r1.at 3 rfl; have fS3 := D5.out.da.r1.free 3 rfl; have lS := D5.out.da.r1.1
            have cQ0 := D5.out.bb.at 0 rfl; have cQ1 := D5.out.bb.at 1 rfl; have cQ2 := D5.out.bb.at 2 rfl; have cQ3 := D5.out.bb.at 3 rfl; have lQ := D5.out.bb.1
            have hz := D5.out.da.bel.size
            have hP := D5.out.da.hP
            have hP0 : w.heap.size ≠ P := by omega
            have hP1 : w.heap.size + 1 ≠ P := by omega
            have hQ0 : w.heap.size ≠ Q := by omega
            have hQ1 : w.heap.size + 1 ≠ Q := by omega
            go_wp2
            go_region
            go_wp2
            refine bodyPost_ret (v := .tuple #[.agg #[.int .i64 (m : Int), .slice a (2 * m) c, .int .i64 ac, .int .i64 bu], .slice ra ([] : List Int).length rc, .agg #[.int .i64 (m : Int), .slice b (2 * m) cb, .int .i64 (1 - ac), .int .i64 (tt : Int)], .slice (some ⟨pb, po, px⟩) 0 rd]) (by simp [results, Try.results26, go_sem, cR0, cR1, cR2, cR3, cS0, cS1, cS2, cS3]) rfl ⟨(m : Int), ac, bu, a, 2 * m, c, f, ra, ([] : List Int), rc, (m : Int), (1 - ac), (tt : Int), b, (2 * m), cb, g, (some ⟨pb, po, px⟩), [], rd, rfl, ?_, hnc, hcm, ?_, ?_, hnb, hcb, ?_, ?_⟩
            · refine Own.src (B := w.heap.size + 3) ?_
              repeat (first | (with_reducible refine Own.setCell ?_ (by (try simp); (try omega)) _) | (with_reducible refine Own.alloc ?_ _) | (with_reducible refine Own.drew ?_))
              exact D5.out.da.wrd.out
            · refine Own.src (B := w.heap.size + 3) ?_
              repeat (first | (with_reducible refine Own.setCell ?_ (by (try simp); (try omega)) _) | (with_reducible refine Own.alloc ?_ _) | (with_reducible refine Own.drew ?_))
              exact D5.out.da.rts.out
            · refine Own.src (B := w.heap.size + 3) ?_
              repeat (first | (with_reducible refine Own.setCell ?_ (by (try simp); (try omega)) _) | (with_reducible refine Own.alloc ?_ _) | (with_reducible refine Own.drew ?_))
              exact (D5.out.wb.widen (by omega) (Nat.le_refl _)).out
            · refine Own.src (B := w.heap.size + 3) ?_
              repeat (first | (with_reducible refine Own.setCell ?_ (by (try simp); (try omega)) _) | (with_reducible refine Own.alloc ?_ _) | (with_reducible refine Own.drew ?_))
              exact (D5.out.own.mono (by omega))
            · repeat (first | (with_reducible refine Below.setCell ?_ (by (try simp); (try omega)) _) | (with_reducible refine Below.alloc ?_ (by (try simp); (try omega)) _) | (with_reducible refine Below.drew ?_))
              exact D5.out.da.bel
        · have ROW : w5.ownsRow mid 2 1 (.slice rb l.length rd) l.length (nums l2.length (lf l2)) := hl2 ▸ D5.out.row
          have hOW := D5.out.own
          rcases hOW with h9 | ⟨pb, po, rfl, ho9, hl9, hc9⟩
          · omega
          have HCC : Hid (∀ j u, (nums l2.length (lf l2))[j]? = some u → w5.cell? ((⟨pb, po, none⟩ : Addr).add j) = some u) := Lib.hid (fun j u hu => by
            have hj : j < l2.length := by
              rcases Nat.lt_or_ge j l2.length with h | h
              · exact h
              · rw [List.getElem?_eq_none (by rw [nums_length]; exact h)] at hu; cases hu
            rw [nums_get _ _ _ hj] at hu
            injection hu with hu
            subst hu
            have := (hc9 j hj).1
            simp only [Addr.add]
            split
            · rename_i h0; subst h0; simpa using this
            · exact this)
          clear hc9
          have HROW := Lib.hid ROW
          have z5 : w.heap.size + 3 ≤ w5.heap.size := D5.out.da.bel.size |> fun h => by have := D5.out.da.arn.1; omega
          have hm5 : mid ≤ w5.heap.size := by have := D5.out.bb.1; omega
          clear ROW
          go_wp2_with (at_builtin; go_loud (refine wpList_append_lies _ rfl _ _ 24 rfl mid 2 i0 (.int .i64 0) 1 8 Try.underlying24 hif hz0 hz1 hz2 rfl (by decide) (.slice (some ⟨pb, po, none⟩) l.length rd) l.length (nums l2.length (lf l2)) rfl HROW.out ⟨pb, po, none⟩ l.length rd (nums l2.length (lf l2)) rfl (by rw [nums_length, hl2]; omega) HCC.out (nums_one _ _) (by omega) (by unfold maxLen; omega) (by omega) hm5 w5.heap.size rfl ?_); intro g9 cap9 w9 hown9 hgrow9 hat9 hlt9)
          have hll : (l2 ++ l2).length = l.length + l.length := by rw [List.length_append, hl2]
          have hnn : nums l2.length (lf l2) ++ nums l2.length (lf l2) = nums (l2 ++ l2).length (lf (l2 ++ l2)) := by rw [nums_lf, nums_lf, List.map_append]
          have D6 := Lib.hid (D5.out.append (w' := w9) (rb' := some ⟨g9, 0, none⟩) (rd' := cap9) (l'' := l2 ++ l2) hgrow9 HPB.out (by rw [← hnn, hll]; exact hown9))
          clear D5 hown9 hgrow9 hat9 hlt9 HROW HCC
          have cA0 := D6.out.da.arn.at 0 rfl; have cA1 := D6.out.da.arn.at 1 rfl; have cA2 := D6.out.da.arn.at 2 rfl; have cA3 := D6.out.da.arn.at 3 rfl; have lA := D6.out.da.arn.1
          have cR0 := D6.out.da.r0.at 0 rfl; have fR0 := D6.out.da.r0.free 0 rfl; have cR1 := D6.out.da.r0.at 1 rfl; have fR1 := D6.out.da.r0.free 1 rfl; have cR2 := D6.out.da.r0.at 2 rfl; have fR2 := D6.out.da.r0.free 2 rfl; have cR3 := D6.out.da.r0.at 3 rfl; have fR3 := D6.out.da.r0.free 3 rfl; have lR := D6.out.da.r0.1
          have cS0 := D6.out.da.r1.at 0 rfl; have fS0 := D6.out.da.r1.free 0 rfl; have cS1 := D6.out.da.r1.at 1 rfl; have fS1 := D6.out.da.r1.free 1 rfl; have cS2 := D6.out.da.r1.at 2 rfl; have fS2 := D6.out.da.r1.free 2 rfl; have cS3 := D6.out.da.r1.at 3 rfl; have fS3 := D6.out.da.r1.free 3 rfl; have lS := D6.out.da.r1.1
          have cQ0 := D6.out.bb.at 0 rfl; have cQ1 := D6.out.bb.at 1 rfl; have cQ2 := D6.out.bb.at 2 rfl; have cQ3 := D6.out.bb.at 3 rfl; have lQ := D6.out.bb.1
          have hz := D6.out.da.bel.size
          have hP := D6.out.da.hP
          have hP0 : w.heap.size ≠ P := by omega
          have hP1 : w.heap.size + 1 ≠ P := by omega
          have hQ0 : w.heap.size ≠ Q := by omega
          have hQ1 : w.heap.size + 1 ≠ Q := by omega
          go_wp2
          go_region
          go_wp2
          refine bodyPost_ret (v := .tuple #[.agg #[.int .i64 (m : Int), .slice a (2 * m) c, .int .i64 ac, .int .i64 bu], .slice ra l.length rc, .agg #[.int .i64 (m : Int), .slice b (2 * m) cb, .int .i64 (1 - ac), .int .i64 (tt : Int)], .slice (some ⟨g9, 0, none⟩) (l.length + l.length) cap9]) (by simp [results, Try.results26, go_sem, cR0, cR1, cR2, cR3, cS0, cS1, cS2, cS3]) rfl ⟨(m : Int), ac, bu, a, 2 * m, c, f, ra, l, rc, (m : Int), (1 - ac), (tt : Int), b, (2 * m), cb, g, (some ⟨g9, 0, none⟩), (l2 ++ l2), cap9, (by rw [hll]), ?_, hnc, hcm, ?_, ?_, hnb, hcb, ?_, ?_⟩
          · refine Own.src (B := w.heap.size + 3) ?_
            repeat (first | (with_reducible refine Own.setCell ?_ (by (try simp); (try omega)) _) | (with_reducible refine Own.alloc ?_ _) | (with_reducible refine Own.drew ?_))
            exact D6.out.da.wrd.out
          · refine Own.src (B := w.heap.size + 3) ?_
            repeat (first | (with_reducible refine Own.setCell ?_ (by (try simp); (try omega)) _) | (with_reducible refine Own.alloc ?_ _) | (with_reducible refine Own.drew ?_))
            exact D6.out.da.rts.out
          · refine Own.src (B := w.heap.size + 3) ?_
            repeat (first | (with_reducible refine Own.setCell ?_ (by (try simp); (try omega)) _) | (with_reducible refine Own.alloc ?_ _) | (with_reducible refine Own.drew ?_))
            exact (D6.out.wb.widen (by omega) (Nat.le_refl _)).out
          · refine Own.src (B := w.heap.size + 3) ?_
            repeat (first | (with_reducible refine Own.setCell ?_ (by (try simp); (try omega)) _) | (with_reducible refine Own.alloc ?_ _) | (with_reducible refine Own.drew ?_))
            exact (D6.out.own.mono (by omega))
          · repeat (first | (with_reducible refine Below.setCell ?_ (by (try simp); (try omega)) _) | (with_reducible refine Below.alloc ?_ (by (try simp); (try omega)) _) | (with_reducible refine Below.drew ?_))
            exact D6.out.da.bel
      · have hv1' : ((v5 : Int) == 1) = false := by simp; omega
        have cA0 := D5.out.da.arn.at 0 rfl; have cA1 := D5.out.da.arn.at 1 rfl; have cA2 := D5.out.da.arn.at 2 rfl; have cA3 := D5.out.da.arn.at 3 rfl; have lA := D5.out.da.arn.1
        have cR0 := D5.out.da.r0.at 0 rfl; have fR0 := D5.out.da.r0.free 0 rfl; have cR1 := D5.out.da.r0.at 1 rfl; have fR1 := D5.out.da.r0.free 1 rfl; have cR2 := D5.out.da.r0.at 2 rfl; have fR2 := D5.out.da.r0.free 2 rfl; have cR3 := D5.out.da.r0.at 3 rfl; have fR3 := D5.out.da.r0.free 3 rfl; have lR := D5.out.da.r0.1
        have cS0 := D5.out.da.r1.at 0 rfl; have fS0 := D5.out.da.r1.free 0 rfl; have cS1 := D5.out.da.r1.at 1 rfl; have fS1 := D5.out.da.r1.free 1 rfl; have cS2 := D5.out.da.r1.at 2 rfl; have fS2 := D5.out.da.r1.free 2 rfl; have cS3 := D5.out.da.r1.at 3 rfl; have fS3 := D5.out.da.r1.free 3 rfl; have lS := D5.out.da.r1.1
        have cQ0 := D5.out.bb.at 0 rfl; have cQ1 := D5.out.bb.at 1 rfl; have cQ2 := D5.out.bb.at 2 rfl; have cQ3 := D5.out.bb.at 3 rfl; have lQ := D5.out.bb.1
        have hz := D5.out.da.bel.size
        have hP := D5.out.da.hP
        have hP0 : w.heap.size ≠ P := by omega
        have hP1 : w.heap.size + 1 ≠ P := by omega
        have hQ0 : w.heap.size ≠ Q := by omega
        have hQ1 : w.heap.size + 1 ≠ Q := by omega
        go_wp2
        go_region
        go_wp2
        refine bodyPost_ret (v := .tuple #[.agg #[.int .i64 (m : Int), .slice a (2 * m) c, .int .i64 ac, .int .i64 bu], .slice ra l.length rc, .agg #[.int .i64 (m : Int), .slice b (2 * m) cb, .int .i64 (1 - ac), .int .i64 (tt : Int)], .slice rb l.length rd]) (by simp [results, Try.results26, go_sem, cR0, cR1, cR2, cR3, cS0, cS1, cS2, cS3]) rfl ⟨(m : Int), ac, bu, a, 2 * m, c, f, ra, l, rc, (m : Int), (1 - ac), (tt : Int), b, (2 * m), cb, g, rb, l2, rd, (by rw [hl2]), ?_, hnc, hcm, ?_, ?_, hnb, hcb, ?_, ?_⟩
        · refine Own.src (B := w.heap.size + 3) ?_
          repeat (first | (with_reducible refine Own.setCell ?_ (by (try simp); (try omega)) _) | (with_reducible refine Own.alloc ?_ _) | (with_reducible refine Own.drew ?_))
          exact D5.out.da.wrd.out
        · refine Own.src (B := w.heap.size + 3) ?_
          repeat (first | (with_reducible refine Own.setCell ?_ (by (try simp); (try omega)) _) | (with_reducible refine Own.alloc ?_ _) | (with_reducible refine Own.drew ?_))
          exact D5.out.da.rts.out
        · refine Own.src (B := w.heap.size + 3) ?_
          repeat (first | (with_reducible refine Own.setCell ?_ (by (try simp); (try omega)) _) | (with_reducible refine Own.alloc ?_ _) | (with_reducible refine Own.drew ?_))
          exact (D5.out.wb.widen (by omega) (Nat.le_refl _)).out
        · refine Own.src (B := w.heap.size + 3) ?_
          repeat (first | (with_reducible refine Own.setCell ?_ (by (try simp); (try omega)) _) | (with_reducible refine Own.alloc ?_ _) | (with_reducible refine Own.drew ?_))
          exact (D5.out.own.mono (by omega))
        · repeat (first | (with_reducible refine Below.setCell ?_ (by (try simp); (try omega)) _) | (with_reducible refine Below.alloc ?_ (by (try simp); (try omega)) _) | (with_reducible refine Below.drew ?_))
          exact D5.out.da.bel
  · have hd0 : (co != 0) = true := by simpa using h0
    have cA0 := D3.out.arn.at 0 rfl; have cA1 := D3.out.arn.at 1 rfl; have cA2 := D3.out.arn.at 2 rfl; have cA3 := D3.out.arn.at 3 rfl; have lA := D3.out.arn.1
    have cR0 := D3.out.r0.at 0 rfl; have fR0 := D3.out.r0.free 0 rfl; have cR1 := D3.out.r0.at 1 rfl; have fR1 := D3.out.r0.free 1 rfl; have cR2 := D3.out.r0.at 2 rfl; have fR2 := D3.out.r0.free 2 rfl; have cR3 := D3.out.r0.at 3 rfl; have fR3 := D3.out.r0.free 3 rfl; have lR := D3.out.r0.1
    have cS0 := D3.out.r1.at 0 rfl; have fS0 := D3.out.r1.free 0 rfl; have cS1 := D3.out.r1.at 1 rfl; have fS1 := D3.out.r1.free 1 rfl; have cS2 := D3.out.r1.at 2 rfl; have fS2 := D3.out.r1.free 2 rfl; have cS3 := D3.out.r1.at 3 rfl; have fS3 := D3.out.r1.free 3 rfl; have lS := D3.out.r1.1
    have hz := D3.out.bel.size
    have hP0 : w.heap.size ≠ P := by omega
    have hP1 : w.heap.size + 1 ≠ P := by omega
    clear h0 hz_
    go_wp2
    go_region
    go_wp2
    refine bodyPost_ret (v := .tuple #[.agg #[.int .i64 h, .slice a n c, .int .i64 ac, .int .i64 bu], .slice ra l.length rc, .agg #[.int .i64 h, .slice a n c, .int .i64 ac, .int .i64 bu], .slice ra l.length rc]) (by simp [results, Try.results26, go_sem, cR0, cR1, cR2, cR3, cS0, cS1, cS2, cS3]) rfl ⟨h, ac, bu, a, n, c, f, ra, l, rc, h, ac, bu, a, n, c, f, ra, l, rc, rfl, ?_, hnc, hcm, ?_, ?_, hnc, hcm, ?_, ?_⟩
    · refine Own.src (B := w.heap.size + 3) ?_
      repeat (first | (with_reducible refine Own.setCell ?_ (by (try simp); (try omega)) _) | (with_reducible refine Own.alloc ?_ _) | (with_reducible refine Own.drew ?_))
      exact D3.out.wrd.out
    · refine Own.src (B := w.heap.size + 3) ?_
      repeat (first | (with_reducible refine Own.setCell ?_ (by (try simp); (try omega)) _) | (with_reducible refine Own.alloc ?_ _) | (with_reducible refine Own.drew ?_))
      exact D3.out.rts.out
    · refine Own.src (B := w.heap.size + 3) ?_
      repeat (first | (with_reducible refine Own.setCell ?_ (by (try simp); (try omega)) _) | (with_reducible refine Own.alloc ?_ _) | (with_reducible refine Own.drew ?_))
      exact D3.out.wrd.out
    · refine Own.src (B := w.heap.size + 3) ?_
      repeat (first | (with_reducible refine Own.setCell ?_ (by (try simp); (try omega)) _) | (with_reducible refine Own.alloc ?_ _) | (with_reducible refine Own.drew ?_))
      exact D3.out.rts.out
    · repeat (first | (with_reducible refine Below.setCell ?_ (by (try simp); (try omega)) _) | (with_reducible refine Below.alloc ?_ (by (try simp); (try omega)) _) | (with_reducible refine Below.drew ?_))
      exact D3.out.bel
end Go.Proofs.Ytihbenbfnpiikaa

namespace Go.Proofs.Ytihbenbfnpiikaa
open Go.RowKit
set_option linter.unusedVariables false

theorem e4_any (ca : Option Addr) (k kc : Nat) (B : Nat → Int) (w : World) (hs : SrcB w w.heap.size ca k B) (hk : k ≤ maxLen) : Calls Try.prog 4 #[.slice ca k kc] w (RetBool w true) := by
  by_cases h : k ≤ 1048576
  · exact e4_near drawIA_any ca k kc B w hs h
  · exact e4_far ca k kc w hk (by omega)
end Go.Proofs.Ytihbenbfnpiikaa

