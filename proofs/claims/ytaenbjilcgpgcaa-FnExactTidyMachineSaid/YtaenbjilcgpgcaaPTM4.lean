/- Texts merged: Z18 to Z19. -/
import Derived.Test.YtaenbjilcgpgcaaPTMa
import Derived.Test.YtaenbjilcgpgcaaPTMb
namespace Go.Proofs.Ytaenbjilcgpgcaa
open Go.RowKit
set_option linter.unusedVariables false

theorem gsame_two {N : Nat} {V U X : Nat → GM} (h : ∀ i, i < N → TSame (V i) (U i) ∧ (U i).o = 0) (h' : ∀ i, i < N → TSame (V i) (X i) ∧ (X i).o = 0) : ∀ i, i < N → GSame (U i) (X i) := fun i hi => by
  obtain ⟨a, b⟩ := h i hi
  obtain ⟨a', b'⟩ := h' i hi
  obtain ⟨c1, c2, c3, c4, c5, c6⟩ := tsame_trans (tsame_symm a) a'
  exact ⟨c1, c2, c3, b.trans b'.symm, c4, c5, c6⟩

theorem noff_le12 {T : Nat → GM} : ∀ K, (∀ i, i < K → (T i).n ≤ 12) → noff T K ≤ K * 16
  | 0, _ => Nat.zero_le _
  | K + 1, h => by
    have h1 := noff_le12 K fun i hi => h i (by omega)
    have h2 := h K (Nat.lt_succ_self K)
    simp only [noff]
    omega

theorem isTM_small {te qu ha : Int} {M : Nat} {S : Nat → SL} {K : Nat} {T : Nat → GM} {c te' qu' ha' : Int} {M' : Nat} {S' : Nat → SL} {N' : Nat} {V : Nat → GM} (h : IsTM te qu ha M S K T c te' qu' ha' M' S' N' V) : M' ≤ 1000 ∧ N' ≤ 1000 ∧ ∀ i, i < N' → (V i).n ≤ 12 := by
  obtain ⟨h1, ⟨h2, h3, h4, h5, h6, h7, h8, h9⟩ | ⟨_, _, _, _, h6, h8⟩⟩ := h
  · subst h2
    have HOK := isMF_zero h1
    have hl := reachM_len HOK.lead
    have := HOK.len.1.2
    have := HOK.len.2.2
    refine ⟨by omega, by omega, fun i hi => ?_⟩
    have e := (h9 i hi).2.2.2.2.1
    rw [← e]
    have hi' : i < (reachM M S K T).length := by omega
    have hh := reachM_has HOK.lead (lf_mem hi')
    obtain ⟨⟨_, hok⟩, hsz, _⟩ := isNode_zero (HOK.node _ (ixN_has hh))
    have := hok.1.2
    show (T (ixN T (lf (reachM M S K T) i) K)).n ≤ 12
    omega
  · exact ⟨by omega, by omega, fun i hi => by omega⟩

/-- A machine is marked, its rows anywhere in a range. -/
def RetMkG (W : World) (l1 h1 l2 h2 lo hi : Nat) (sa : Option Addr) (M : Nat) (na : Option Addr) (K : Nat) (T : Nat → GM) (k : Int) (e : Ending) (w' : World) : Prop :=
  e = .returned (.int .i64 (k + 2 * (M : Int) + (noff T K : Int))) ∧ PVO w' l1 h1 sa M (smkd k) ∧ NVO w' l2 h2 na K (nmkd T (k + 2 * (M : Int))) ∧ Keeps W w' lo hi

set_option maxRecDepth 100000 in
set_option maxHeartbeats 800000 in
theorem markMachG_any (te qu ha : Int) (sa : Option Addr) (M kc : Nat) (S : Nat → SL) (na : Option Addr) (K nc : Nat) (T : Nat → GM) (l1 h1 l2 h2 lo hi : Nat) (k : Int) (w : World) (hp : PVO w l1 h1 sa M S) (hg : NVO w l2 h2 na K T) (q1 : lo ≤ l1) (q2 : h1 ≤ hi) (q3 : lo ≤ l2) (q4 : h2 ≤ hi) (hd : h1 ≤ l2 ∨ h2 ≤ l1) (h3 : hi ≤ w.heap.size) (hk0 : 0 ≤ k) (hk1 : k + 2 * (M : Int) + (noff T K : Int) ≤ 1048576) :
    Calls Try.prog 47 #[.agg #[.int .i64 te, .int .i64 qu, .int .i64 ha, .slice sa M kc, .slice na K nc], .int .i64 k] w (RetMkG w l1 h1 l2 h2 lo hi sa M na K T k) := by
  have P0 := Lib.hid hp; have G0 := Lib.hid hg; have HD := Lib.hid hd
  have hn0 : (0 : Int) ≤ (noff T K : Int) := by omega
  clear hp hg hd
  go_enter Try.func47, Try.ntmps47
  have A_0 := Lib.hid (Blk.new_at (w := w) (cs := #[.int .i64 te, .int .i64 qu, .int .i64 ha, .slice sa M kc, .slice na K nc]) (t := 54) w.heap.size rfl)
  have HB0 := Lib.hid ((Below.refl w.heap.size w).alloc (Nat.le_refl _) (.cells #[.int .i64 te, .int .i64 qu, .int .i64 ha, .slice sa M kc, .slice na K nc] 54))
  have P1 := Lib.hid (P0.out.below HB0.out); have G1 := Lib.hid (G0.out.below HB0.out)
  have HK0 := Lib.hid (keeps_of_below HB0.out lo hi)
  go_wp2_with fail
  refine (markSlotS_any sa l1 h1 M kc S k _ P1.out hk0 (by omega)).mono ?_
  rintro e w1 ⟨rfl, hp, hk⟩
  have P2 := Lib.hid hp; have HK1 := Lib.hid (HK0.out.trans (hk.widen q1 q2))
  have A_1 := Lib.hid (A_0.out.keeps hk (.inr (by omega)))
  have G2 := Lib.hid (G1.out.keeps hk (by rcases HD.out with h | h; exact .inr h; exact .inl h))
  clear hp hk P0 P1 G0 G1 A_0 HK0
  have c4 := A_1.out.at 4 rfl; have lA := A_1.out.1
  go_wp2_with fail
  refine (markNV_any l2 h2 K nc na T (k + 2 * (M : Int)) _ G2.out (by omega) hk1).mono ?_
  rintro e w2 ⟨rfl, hg, hk⟩
  have G3 := Lib.hid hg; have P3 := Lib.hid (P2.out.keeps hk (by rcases HD.out with h | h; exact .inl h; exact .inr h)); have HK2 := Lib.hid (HK1.out.trans (hk.widen q3 q4))
  clear hg hk G2 P2 HK1 c4 lA A_1
  go_wp2
  go_ret
  exact ⟨rfl, P3.out, G3.out, HK2.out⟩

set_option maxRecDepth 100000 in
set_option maxHeartbeats 400000 in
theorem markMRG_any (c : Int) (te qu ha : Int) (sa : Option Addr) (M kc : Nat) (S : Nat → SL) (na : Option Addr) (K nc : Nat) (T : Nat → GM) (l1 h1 l2 h2 lo hi : Nat) (k : Int) (w : World) (hp : PVO w l1 h1 sa M S) (hg : NVO w l2 h2 na K T) (q1 : lo ≤ l1) (q2 : h1 ≤ hi) (q3 : lo ≤ l2) (q4 : h2 ≤ hi) (hd : h1 ≤ l2 ∨ h2 ≤ l1) (h3 : hi ≤ w.heap.size) (hk0 : 0 ≤ k) (hk1 : k + 2 * (M : Int) + (noff T K : Int) ≤ 1048576) :
    Calls Try.prog 52 #[.agg #[.int .i64 c, .int .i64 te, .int .i64 qu, .int .i64 ha, .slice sa M kc, .slice na K nc], .int .i64 k] w (RetMkG w l1 h1 l2 h2 lo hi sa M na K T k) := by
  have P0 := Lib.hid hp; have G0 := Lib.hid hg; have HD := Lib.hid hd
  clear hp hg hd
  have HB0 := Lib.hid ((Below.refl w.heap.size w).alloc (Nat.le_refl _) (.cells #[.int .i64 c, .int .i64 te, .int .i64 qu, .int .i64 ha, .slice sa M kc, .slice na K nc] 56))
  have hsz := HB0.out.size
  go_enter Try.func52, Try.ntmps52
  go_wp2_with fail
  refine (markMachG_any te qu ha sa M kc S na K nc T l1 h1 l2 h2 lo hi k _ (P0.out.below HB0.out) (G0.out.below HB0.out) q1 q2 q3 q4 HD.out (by omega) hk0 hk1).mono ?_
  rintro e w1 ⟨rfl, hp, hg, hk⟩
  have P1 := Lib.hid hp; have G1 := Lib.hid hg; have HK1 := Lib.hid ((keeps_of_below HB0.out lo hi).trans hk)
  clear hp hg hk
  go_wp2
  go_ret
  exact ⟨rfl, P1.out, G1.out, HK1.out⟩
end Go.Proofs.Ytaenbjilcgpgcaa

namespace Go.Proofs.Ytaenbjilcgpgcaa
open Go.RowKit
set_option linter.unusedVariables false

set_option maxRecDepth 100000 in
set_option maxHeartbeats 6400000 in
theorem e8_any (te qu ha : Int) (sa : Option Addr) (M kc : Nat) (S : Nat → SL) (na : Option Addr) (K nc : Nat) (T : Nat → GM) (w : World) (hp : PV w sa M S) (hg : NV w na K T) (hM : M ≤ maxLen) (hK : K ≤ maxLen) (hn : ∀ i, i < K → (T i).n ≤ maxLen) :
    Calls Try.prog 8 #[.agg #[.int .i64 te, .int .i64 qu, .int .i64 ha, .slice sa M kc, .slice na K nc]] w (RetBool w true) := by
  obtain ⟨c, te', qu', ha', M', S', N', VV, hk⟩ := isTM_some te qu ha M S K T
  obtain ⟨hM9, hN9, hV9⟩ := isTM_small hk
  have HV9 := Lib.hid hV9
  clear hV9
  have HK := Lib.hid hk; have P0 := Lib.hid hp; have G0 := Lib.hid hg; have HN := Lib.hid hn
  have A_0 := Lib.hid (Blk.new_at (w := w) (cs := #[.int .i64 te, .int .i64 qu, .int .i64 ha, .slice sa M kc, .slice na K nc]) (t := 70) w.heap.size rfl)
  have HB0 := Lib.hid ((Below.refl w.heap.size w).alloc (Nat.le_refl _) (.cells #[.int .i64 te, .int .i64 qu, .int .i64 ha, .slice sa M kc, .slice na K nc] 70))
  have c0 := A_0.out.at 0 rfl; have c1 := A_0.out.at 1 rfl; have c2 := A_0.out.at 2 rfl; have c3 := A_0.out.at 3 rfl; have c4 := A_0.out.at 4 rfl; have lA := A_0.out.1
  clear hk hp hg hn
  go_enter Try.func8, Try.ntmps8
  go_wp2_with fail
  refine (szMachine_any te qu ha sa M kc S na K nc T 1048576 _ (P0.out.below HB0.out) (G0.out.below HB0.out) hM hK HN.out (by omega) (by omega)).mono ?_
  rintro e w1 ⟨hb, r, rfl, hr1, hr2⟩
  have HB1 := Lib.hid (thru0 HB0.out hb)
  have A_1 := Lib.hid (A_0.out.below hb)
  clear hb c0 c1 c2 c3 c4 lA A_0 HB0
  rcases hr2 with rfl | ⟨h0, h1, h2, h3⟩
  · go_wp2
    go_ret
    exact ⟨rfl, HB1.out⟩
  have h9 : ¬ r < 0 := by omega
  have hM1 : M ≤ 1048576 := by omega
  have hK1 : K ≤ 1048576 := by omega
  have HN1 : Hid (∀ i, i < K → (T i).n ≤ 1048576) := Lib.hid fun i hi => by have := h3 i hi; omega
  clear h1 h2 h3 HN hM hK
  have c0 := A_1.out.at 0 rfl; have c1 := A_1.out.at 1 rfl; have c2 := A_1.out.at 2 rfl; have c3 := A_1.out.at 3 rfl; have c4 := A_1.out.at 4 rfl; have lA := A_1.out.1
  go_wp2_with fail
  refine (toMachine_any te qu ha sa M kc S na K nc T _ (P0.out.below HB1.out) (G0.out.below HB1.out) hM1 hK1 HN1.out).mono ?_
  rintro e w2 ⟨sb, kb, nb, mb, U, rfl, p2, g2, s2, hb⟩
  have HB2 := Lib.hid (thru0 HB1.out hb)
  have A_2 := Lib.hid (A_1.out.below hb)
  have P2 := Lib.hid p2; have G2 := Lib.hid g2; have S2 := Lib.hid s2
  clear hb c0 c1 c2 c3 c4 lA A_1 HB1 p2 g2 s2
  go_wp2_with fail
  refine (specTM_any te qu ha sb M kb S nb K mb U c te' qu' ha' M' S' N' VV _ P2.out G2.out hM1 hK1 (fun i hi => by have := (S2.out i hi).2.2.2.2.2.1; have := HN1.out i hi; omega) (isTM_same S2.out HK.out)).mono ?_
  rintro e w3 ⟨wpa, wpc, wna, wnc, wU, wl1, wh1, wl2, wh2, rfl, hpo, hno, hsm, ⟨wr1, wr2, wr3⟩, ⟨wr4, wr5, wr6⟩, wd, hb⟩
  have HB3 := Lib.hid (thru0 HB2.out hb)
  have A_3 := Lib.hid (A_2.out.below hb)
  have z3 : w2.heap.size ≤ w3.heap.size := hb.size
  have Rw_3 : Hid (PVO w3 wl1 wh1 wpa M' S') := Lib.hid hpo; have Nw_3 : Hid (NVO w3 wl2 wh2 wna N' wU) := Lib.hid hno; have Vw := Lib.hid hsm; have Dw := Lib.hid wd
  clear hb A_2 HB2 P2 G2 S2 hpo hno hsm
  have HB4 := Lib.hid (HB3.out.alloc HB3.out.size (.cells #[.int .i64 c, .int .i64 te', .int .i64 qu', .int .i64 ha', .slice wpa M' wpc, .slice wna N' wnc] 56))
  have A_4 := Lib.hid (A_3.out.alloc (.cells #[.int .i64 c, .int .i64 te', .int .i64 qu', .int .i64 ha', .slice wpa M' wpc, .slice wna N' wnc] 56))
  have W_4 := Lib.hid (Blk.new_at (w := w3) (cs := #[.int .i64 c, .int .i64 te', .int .i64 qu', .int .i64 ha', .slice wpa M' wpc, .slice wna N' wnc]) (t := 56) w3.heap.size rfl)
  have Rw_4 := Lib.hid (Rw_3.out.alloc (.cells #[.int .i64 c, .int .i64 te', .int .i64 qu', .int .i64 ha', .slice wpa M' wpc, .slice wna N' wnc] 56)); have Nw_4 := Lib.hid (Nw_3.out.alloc (.cells #[.int .i64 c, .int .i64 te', .int .i64 qu', .int .i64 ha', .slice wpa M' wpc, .slice wna N' wnc] 56))
  have z4 : w3.heap.size + 1 ≤ (w3.alloc (.cells #[.int .i64 c, .int .i64 te', .int .i64 qu', .int .i64 ha', .slice wpa M' wpc, .slice wna N' wnc] 56)).heap.size := by simp
  have c0 := A_4.out.at 0 rfl; have c1 := A_4.out.at 1 rfl; have c2 := A_4.out.at 2 rfl; have c3 := A_4.out.at 3 rfl; have c4 := A_4.out.at 4 rfl; have lA := A_4.out.1
  clear A_3 HB3
  go_wp2_with fail
  generalize w3.alloc (.cells #[.int .i64 c, .int .i64 te', .int .i64 qu', .int .i64 ha', .slice wpa M' wpc, .slice wna N' wnc] 56) = w4 at *
  have zA4 := A_4.out.1
  refine (toMachineO_any te qu ha sa M kc S na K nc T _ (P0.out.below HB4.out) (G0.out.below HB4.out) hM1 hK1 HN1.out).mono ?_
  rintro e w5 ⟨sx, kx, nx, mx, X, xm, xh, rfl, p4, g4, xz1, xz2, xz3, s4, hb⟩
  have HB5 := Lib.hid (thru0 HB4.out hb)
  have A_5 := Lib.hid (A_4.out.below hb); have W_5 := Lib.hid (W_4.out.below hb)
  have Rw_5 := Lib.hid (Rw_4.out.below hb); have Nw_5 := Lib.hid (Nw_4.out.below hb)
  have P5 := Lib.hid p4; have G5 := Lib.hid g4; have S4 := Lib.hid s4
  clear hb c0 c1 c2 c3 c4 lA A_4 W_4 HB4 p4 g4 s4
  have hnX : ∀ i, i < K → (X i).n ≤ 1048576 := fun i hi => by have := (S4.out i hi).2.2.2.2.2.1; have := HN1.out i hi; omega
  have HNX := Lib.hid hnX
  have hnoff : noff X K ≤ 1099516968960 := by have := noff_le K hnX; have : K * 1048580 ≤ 1048576 * 1048580 := Nat.mul_le_mul_right _ hK1; omega
  have HNO := Lib.hid hnoff
  clear hnX hnoff
  have z5 : w4.heap.size ≤ w5.heap.size := by omega
  generalize w3.heap.size = W0 at *
  go_wp2_with fail
  have A_6 := Lib.hid (A_5.out.alloc (.cells #[.int .i64 te, .int .i64 qu, .int .i64 ha, .slice sx M kx, .slice nx K mx] 54)); have W_6 := Lib.hid (W_5.out.alloc (.cells #[.int .i64 te, .int .i64 qu, .int .i64 ha, .slice sx M kx, .slice nx K mx] 54))
  have X_6 := Lib.hid (Blk.new_at (w := w5) (cs := #[.int .i64 te, .int .i64 qu, .int .i64 ha, .slice sx M kx, .slice nx K mx]) (t := 54) w5.heap.size rfl)
  have HB6 := Lib.hid (HB5.out.alloc HB5.out.size (.cells #[.int .i64 te, .int .i64 qu, .int .i64 ha, .slice sx M kx, .slice nx K mx] 54))
  have P6 := Lib.hid (P5.out.alloc (.cells #[.int .i64 te, .int .i64 qu, .int .i64 ha, .slice sx M kx, .slice nx K mx] 54))
  have G6 := Lib.hid (G5.out.alloc (.cells #[.int .i64 te, .int .i64 qu, .int .i64 ha, .slice sx M kx, .slice nx K mx] 54))
  have Rw_6 := Lib.hid (Rw_5.out.alloc (.cells #[.int .i64 te, .int .i64 qu, .int .i64 ha, .slice sx M kx, .slice nx K mx] 54)); have Nw_6 := Lib.hid (Nw_5.out.alloc (.cells #[.int .i64 te, .int .i64 qu, .int .i64 ha, .slice sx M kx, .slice nx K mx] 54))
  have z6 : w5.heap.size + 1 ≤ (w5.alloc (.cells #[.int .i64 te, .int .i64 qu, .int .i64 ha, .slice sx M kx, .slice nx K mx] 54)).heap.size := by simp
  clear A_5 W_5 HB5 P5 G5
  generalize w5.alloc (.cells #[.int .i64 te, .int .i64 qu, .int .i64 ha, .slice sx M kx, .slice nx K mx] 54) = w6 at *
  generalize w5.heap.size = X0 at *
  refine (implTM_any te qu ha sx M kx S nx K mx X c te' qu' ha' M' S' N' VV _ P6.out.src G6.out.src hM1 hK1 HNX.out (isTM_same S4.out HK.out)).mono ?_
  rintro e w7 ⟨gpa, gpc, gna, gnc, gU, gl1, gh1, gl2, gh2, rfl, hpo, hno, hsm, ⟨gr1, gr2, gr3⟩, ⟨gr4, gr5, gr6⟩, gd, hb⟩
  have HB7 := Lib.hid (thru0 HB6.out hb)
  have A_7 := Lib.hid (A_6.out.below hb); have W_7 := Lib.hid (W_6.out.below hb); have X_7 := Lib.hid (X_6.out.below hb); have P7 := Lib.hid (P6.out.below hb); have G7 := Lib.hid (G6.out.below hb)
  have z7 : w6.heap.size ≤ w7.heap.size := hb.size
  have Rw_7 := Lib.hid (Rw_6.out.below hb); have Nw_7 := Lib.hid (Nw_6.out.below hb)
  have Rg_7 : Hid (PVO w7 gl1 gh1 gpa M' S') := Lib.hid hpo; have Ng_7 : Hid (NVO w7 gl2 gh2 gna N' gU) := Lib.hid hno; have Vg := Lib.hid hsm; have Dg := Lib.hid gd
  clear hb A_6 W_6 X_6 HB6 P6 G6 hpo hno hsm
  have d0 := W_7.out.at 0 rfl; have d1 := W_7.out.at 1 rfl; have d2 := W_7.out.at 2 rfl; have d3 := W_7.out.at 3 rfl; have d4 := W_7.out.at 4 rfl; have d5 := W_7.out.at 5 rfl; have lW := W_7.out.1
  have A_8 := Lib.hid (A_7.out.alloc (.cells #[.int .i64 c, .int .i64 te', .int .i64 qu', .int .i64 ha', .slice gpa M' gpc, .slice gna N' gnc] 56)); have W_8 := Lib.hid (W_7.out.alloc (.cells #[.int .i64 c, .int .i64 te', .int .i64 qu', .int .i64 ha', .slice gpa M' gpc, .slice gna N' gnc] 56)); have X_8 := Lib.hid (X_7.out.alloc (.cells #[.int .i64 c, .int .i64 te', .int .i64 qu', .int .i64 ha', .slice gpa M' gpc, .slice gna N' gnc] 56)); have P8 := Lib.hid (P7.out.alloc (.cells #[.int .i64 c, .int .i64 te', .int .i64 qu', .int .i64 ha', .slice gpa M' gpc, .slice gna N' gnc] 56)); have G8 := Lib.hid (G7.out.alloc (.cells #[.int .i64 c, .int .i64 te', .int .i64 qu', .int .i64 ha', .slice gpa M' gpc, .slice gna N' gnc] 56))
  have Y_8 := Lib.hid (Blk.new_at (w := w7) (cs := #[.int .i64 c, .int .i64 te', .int .i64 qu', .int .i64 ha', .slice gpa M' gpc, .slice gna N' gnc]) (t := 56) w7.heap.size rfl)
  have HB8 := Lib.hid (HB7.out.alloc HB7.out.size (.cells #[.int .i64 c, .int .i64 te', .int .i64 qu', .int .i64 ha', .slice gpa M' gpc, .slice gna N' gnc] 56))
  have Rw_8 := Lib.hid (Rw_7.out.alloc (.cells #[.int .i64 c, .int .i64 te', .int .i64 qu', .int .i64 ha', .slice gpa M' gpc, .slice gna N' gnc] 56)); have Nw_8 := Lib.hid (Nw_7.out.alloc (.cells #[.int .i64 c, .int .i64 te', .int .i64 qu', .int .i64 ha', .slice gpa M' gpc, .slice gna N' gnc] 56))
  have Rg_8 := Lib.hid (Rg_7.out.alloc (.cells #[.int .i64 c, .int .i64 te', .int .i64 qu', .int .i64 ha', .slice gpa M' gpc, .slice gna N' gnc] 56)); have Ng_8 := Lib.hid (Ng_7.out.alloc (.cells #[.int .i64 c, .int .i64 te', .int .i64 qu', .int .i64 ha', .slice gpa M' gpc, .slice gna N' gnc] 56))
  have z8 : w7.heap.size + 1 ≤ (w7.alloc (.cells #[.int .i64 c, .int .i64 te', .int .i64 qu', .int .i64 ha', .slice gpa M' gpc, .slice gna N' gnc] 56)).heap.size := by simp
  go_wp2_with fail
  clear d0 d1 d2 d3 d4 d5 lW A_7 W_7 X_7 P7 G7 HB7
  generalize w7.alloc (.cells #[.int .i64 c, .int .i64 te', .int .i64 qu', .int .i64 ha', .slice gpa M' gpc, .slice gna N' gnc] 56) = w8 at *
  generalize w7.heap.size = Y0 at *
  refine (eqMR_same c te' qu' ha' gpa wpa M' gpc wpc S' gna wna N' gnc wnc gU wU _ Rg_8.out.src Ng_8.out.src Rw_8.out.src Nw_8.out.src (gsame_two Vg.out Vw.out) (by omega) (by omega) (fun i hi => by have := HV9.out i hi; have := (Vg.out i hi).1.2.2.2.2.1; omega)).mono ?_
  rintro e w9 ⟨rfl, hb⟩
  have HB9 := Lib.hid (thru0 HB8.out hb)
  have A_9 := Lib.hid (A_8.out.below hb); have W_9 := Lib.hid (W_8.out.below hb); have X_9 := Lib.hid (X_8.out.below hb); have P9 := Lib.hid (P8.out.below hb); have G9 := Lib.hid (G8.out.below hb); have Y_9 := Lib.hid (Y_8.out.below hb)
  have Rw_9 := Lib.hid (Rw_8.out.below hb); have Nw_9 := Lib.hid (Nw_8.out.below hb)
  have Rg_9 := Lib.hid (Rg_8.out.below hb); have Ng_9 := Lib.hid (Ng_8.out.below hb)
  have z9 : w8.heap.size ≤ w9.heap.size := hb.size
  clear hb A_8 W_8 X_8 P8 G8 Y_8 HB8
  have c0 := A_9.out.at 0 rfl; have c1 := A_9.out.at 1 rfl; have c2 := A_9.out.at 2 rfl; have c3 := A_9.out.at 3 rfl; have c4 := A_9.out.at 4 rfl; have lA := A_9.out.1
  have d0 := X_9.out.at 0 rfl; have d1 := X_9.out.at 1 rfl; have d2 := X_9.out.at 2 rfl; have d3 := X_9.out.at 3 rfl; have d4 := X_9.out.at 4 rfl; have lX := X_9.out.1
  go_wp2_with fail
  have A_d := Lib.hid A_9.out.drew; have X_d := Lib.hid X_9.out.drew; have HB_d := Lib.hid HB9.out.drew
  go_region_held3 (fun w' => w'.cell? ⟨w.heap.size, 0, none⟩ = some (.int .i64 te) ∧ w'.cell? ⟨w.heap.size, 1, none⟩ = some (.int .i64 qu) ∧ w'.cell? ⟨w.heap.size, 2, none⟩ = some (.int .i64 ha) ∧ w'.cell? ⟨w.heap.size, 3, none⟩ = some (.slice sa M kc) ∧ w'.cell? ⟨w.heap.size, 4, none⟩ = some (.slice na K nc) ∧ w'.cell? ⟨X0, 0, none⟩ = some (.int .i64 te) ∧ w'.cell? ⟨X0, 1, none⟩ = some (.int .i64 qu) ∧ w'.cell? ⟨X0, 2, none⟩ = some (.int .i64 ha) ∧ w'.cell? ⟨X0, 3, none⟩ = some (.slice sx M kx) ∧ w'.cell? ⟨X0, 4, none⟩ = some (.slice nx K mx))
    (first | (with_reducible exact cap10 A_9.out X_9.out) | (with_reducible exact cap10 A_d.out X_d.out) | (with_reducible exact cap10 A_10.out X_10.out) | (with_reducible exact cap10 A_11.out X_11.out))
    (first | (go_at_call 44; refine (toMachine_any te qu ha sa M kc S na K nc T _ (P0.out.below HB_d.out) (G0.out.below HB_d.out) hM1 hK1 HN1.out).mono ?_; rintro e w10 ⟨sy, ky, ny, my, Y, rfl, p7, g7, s7, hb⟩; have HB10 := Lib.hid (thru0 HB_d.out hb); have hb10 : Below w9.heap.size w9 w10 := (Below.refl _ _).drew.trans (hb.mono (by simp)); have BT10 := Lib.hid hb10; have A_10 := Lib.hid (A_9.out.below hb10); have X_10 := Lib.hid (X_9.out.below hb10); have P10 := Lib.hid (P9.out.below hb10); have G10 := Lib.hid (G9.out.below hb10); have P10' := Lib.hid p7; have G10' := Lib.hid g7; have S7 := Lib.hid (show ∀ i, i < K → GSame (X i) (Y i) from fun i hi => gsame_trans (gsame_symm (S4.out i hi)) (s7 i hi)); clear hb hb10 p7 g7 s7) | (go_at_call 46; refine (eqMachine_same te qu ha sx sy M kx ky S nx ny K mx my X Y _ P10.out.src G10.out.src P10'.out G10'.out S7.out hM1 hK1 HNX.out).mono ?_; rintro e w11 ⟨rfl, hb⟩; have HB11 := Lib.hid (thru0 HB10.out hb); have BT11 := Lib.hid (thru0 BT10.out hb); have A_11 := Lib.hid (A_10.out.below hb); have X_11 := Lib.hid (X_10.out.below hb); clear hb))
  have W_11 := Lib.hid (W_9.out.below BT11.out); have P11 := Lib.hid (P9.out.below BT11.out); have G11 := Lib.hid (G9.out.below BT11.out); have Y_11 := Lib.hid (Y_9.out.below BT11.out)
  have Rw_11 := Lib.hid (Rw_9.out.below BT11.out); have Nw_11 := Lib.hid (Nw_9.out.below BT11.out)
  have Rg_11 := Lib.hid (Rg_9.out.below BT11.out); have Ng_11 := Lib.hid (Ng_9.out.below BT11.out)
  have z11 : w9.heap.size ≤ w11.heap.size := BT11.out.size
  clear c0 c1 c2 c3 c4 lA d0 d1 d2 d3 d4 lX A_9 X_9 A_d X_d HB_d HB9 W_9 P9 G9 Y_9 A_10 X_10 P10 G10 P10' G10' S7 BT10 BT11 HB10
  have d0 := X_11.out.at 0 rfl; have d1 := X_11.out.at 1 rfl; have d2 := X_11.out.at 2 rfl; have d3 := X_11.out.at 3 rfl; have d4 := X_11.out.at 4 rfl; have lX := X_11.out.1
  go_wp2_with fail
  refine (markMach_big te qu ha sx M kx S nx K mx X w4.heap.size xm xh 1 _ P11.out G11.out xz1 xz2 (by omega) (by omega) (by have := HNO.out; omega) hK1 HNX.out).mono ?_
  rintro e w12 ⟨rfl, -, -, hkp⟩
  have HB12 := Lib.hid (HB11.out.trans (hkp.below (by omega) HB11.out.size))
  have A_12 := Lib.hid (A_11.out.keeps hkp (.inl (by omega))); have W_12 := Lib.hid (W_11.out.keeps hkp (.inl (by omega))); have Y_12 := Lib.hid (Y_11.out.keeps hkp (.inr (by omega)))
  have Rw_12 := Lib.hid (Rw_11.out.keeps hkp (.inl (by omega))); have Nw_12 := Lib.hid (Nw_11.out.keeps hkp (.inl (by omega)))
  have Rg_12 := Lib.hid (Rg_11.out.keeps hkp (.inr (by omega))); have Ng_12 := Lib.hid (Ng_11.out.keeps hkp (.inr (by omega)))
  have z12 : w11.heap.size ≤ w12.heap.size := hkp.size
  obtain ⟨kk, hkk⟩ : ∃ kk, kk = 1 + 2 * (M : Int) + (noff X K : Int) := ⟨_, rfl⟩
  rw [← hkk]
  have hkk0 : ¬ kk < 0 := by omega
  clear hkk hkp d0 d1 d2 d3 d4 lX A_11 X_11 W_11 P11 G11 Y_11 HB11
  have d0 := W_12.out.at 0 rfl; have d1 := W_12.out.at 1 rfl; have d2 := W_12.out.at 2 rfl; have d3 := W_12.out.at 3 rfl; have d4 := W_12.out.at 4 rfl; have d5 := W_12.out.at 5 rfl; have lW := W_12.out.1
  have e0 := Y_12.out.at 0 rfl; have e1 := Y_12.out.at 1 rfl; have e2 := Y_12.out.at 2 rfl; have e3 := Y_12.out.at 3 rfl; have e4 := Y_12.out.at 4 rfl; have e5 := Y_12.out.at 5 rfl; have lY := Y_12.out.1
  go_wp2_with fail
  refine (eqMR_same c te' qu' ha' gpa wpa M' gpc wpc S' gna wna N' gnc wnc gU wU _ Rg_12.out.src Ng_12.out.src Rw_12.out.src Nw_12.out.src (gsame_two Vg.out Vw.out) (by omega) (by omega) (fun i hi => by have := HV9.out i hi; have := (Vg.out i hi).1.2.2.2.2.1; omega)).mono ?_
  rintro e w13 ⟨rfl, hb⟩
  have HB13 := Lib.hid (thru0 HB12.out hb)
  have A_13 := Lib.hid (A_12.out.below hb); have W_13 := Lib.hid (W_12.out.below hb); have Y_13 := Lib.hid (Y_12.out.below hb)
  have Rw_13 := Lib.hid (Rw_12.out.below hb); have Nw_13 := Lib.hid (Nw_12.out.below hb)
  have Rg_13 := Lib.hid (Rg_12.out.below hb); have Ng_13 := Lib.hid (Ng_12.out.below hb)
  have z13 : w12.heap.size ≤ w13.heap.size := hb.size
  clear hb d0 e0 d1 e1 d2 e2 d3 e3 d4 e4 d5 e5 lW lY A_12 W_12 Y_12 HB12
  have e0 := Y_13.out.at 0 rfl; have e1 := Y_13.out.at 1 rfl; have e2 := Y_13.out.at 2 rfl; have e3 := Y_13.out.at 3 rfl; have e4 := Y_13.out.at 4 rfl; have e5 := Y_13.out.at 5 rfl; have lY := Y_13.out.1
  have hno9 : noff gU N' ≤ N' * 16 := noff_le12 N' (fun i hi => by have := HV9.out i hi; have := (Vg.out i hi).1.2.2.2.2.1; omega)
  obtain ⟨mm, hmm⟩ : ∃ mm, mm = 1 + 2 * (M' : Int) + (noff gU N' : Int) := ⟨_, rfl⟩
  have hmm0 : ¬ mm < 0 := by omega
  have HMM := Lib.hid hmm
  have HK9 : Hid (1 + 2 * (M' : Int) + (noff gU N' : Int) ≤ 1048576) := Lib.hid (by omega)
  clear hmm hno9
  go_wp2_with fail
  refine (markMRG_any c te' qu' ha' gpa M' gpc S' gna N' gnc gU gl1 gh1 gl2 gh2 w6.heap.size Y0 1 _ Rg_13.out Ng_13.out gr1 gr3 gr4 gr6 Dg.out (by omega) (by omega) HK9.out).mono ?_
  rintro e w14 ⟨rfl, hp14, hg14, hkp⟩
  rw [← HMM.out]
  have HB14 := Lib.hid (HB13.out.trans (hkp.below (by omega) HB13.out.size))
  have A_14 := Lib.hid (A_13.out.keeps hkp (.inl (by omega))); have W_14 := Lib.hid (W_13.out.keeps hkp (.inl (by omega))); have Y_14 := Lib.hid (Y_13.out.keeps hkp (.inr (by omega)))
  have Rw_14 := Lib.hid (Rw_13.out.keeps hkp (.inl (by omega))); have Nw_14 := Lib.hid (Nw_13.out.keeps hkp (.inl (by omega)))
  have Rm_14 := Lib.hid hp14; have Nm_14 := Lib.hid hg14
  have z14 : w13.heap.size ≤ w14.heap.size := hkp.size
  clear hkp e0 e1 e2 e3 e4 e5 lY A_13 W_13 Y_13 HB13 hp14 hg14
  have e0 := Y_14.out.at 0 rfl; have e1 := Y_14.out.at 1 rfl; have e2 := Y_14.out.at 2 rfl; have e3 := Y_14.out.at 3 rfl; have e4 := Y_14.out.at 4 rfl; have e5 := Y_14.out.at 5 rfl; have lY := Y_14.out.1
  go_wp2_with fail
  refine (heldMR_any c te' qu' ha' gpa M' gpc S' gna N' gnc gU 1 _ Rm_14.out.src Nm_14.out.src (by omega) HK9.out).mono ?_
  rintro e w15 ⟨rfl, hb⟩
  rw [← HMM.out]
  have HB15 := Lib.hid (thru0 HB14.out hb)
  have A_15 := Lib.hid (A_14.out.below hb); have W_15 := Lib.hid (W_14.out.below hb); have Y_15 := Lib.hid (Y_14.out.below hb)
  have Rw_15 := Lib.hid (Rw_14.out.below hb); have Nw_15 := Lib.hid (Nw_14.out.below hb)
  have Rm_15 := Lib.hid (Rm_14.out.below hb); have Nm_15 := Lib.hid (Nm_14.out.below hb)
  have z15 : w14.heap.size ≤ w15.heap.size := hb.size
  clear hb e0 e1 e2 e3 e4 e5 lY A_14 W_14 Y_14 HB14
  have c0 := A_15.out.at 0 rfl; have c1 := A_15.out.at 1 rfl; have c2 := A_15.out.at 2 rfl; have c3 := A_15.out.at 3 rfl; have c4 := A_15.out.at 4 rfl; have lA := A_15.out.1
  go_wp2_with fail
  refine (toMachine_any te qu ha sa M kc S na K nc T _ (P0.out.below HB15.out) (G0.out.below HB15.out) hM1 hK1 HN1.out).mono ?_
  rintro e w16 ⟨sv, kv, nv, mv, V, rfl, p7, g7, s7, hb⟩
  have HB16 := Lib.hid (thru0 HB15.out hb)
  have W_16 := Lib.hid (W_15.out.below hb); have Y_16 := Lib.hid (Y_15.out.below hb); have P16 := Lib.hid p7; have G16 := Lib.hid g7; have S7 := Lib.hid s7
  have Rw_16 := Lib.hid (Rw_15.out.below hb); have Nw_16 := Lib.hid (Nw_15.out.below hb)
  have Rm_16 := Lib.hid (Rm_15.out.below hb); have Nm_16 := Lib.hid (Nm_15.out.below hb)
  have z16 : w15.heap.size ≤ w16.heap.size := hb.size
  clear hb c0 c1 c2 c3 c4 lA A_15 W_15 Y_15 HB15 p7 g7 s7
  have hnV : ∀ i, i < K → (V i).n ≤ 1048576 := fun i hi => by have := (S7.out i hi).2.2.2.2.2.1; have := HN1.out i hi; omega
  have HNV := Lib.hid hnV
  clear hnV
  go_wp2_with fail
  refine (implTM_any te qu ha sv M kv S nv K mv V c te' qu' ha' M' S' N' VV _ P16.out G16.out hM1 hK1 HNV.out (isTM_same S7.out HK.out)).mono ?_
  rintro e w17 ⟨hpa, hpc, hna, hnc, hU, hl1, hh1, hl2, hh2, rfl, hpo, hno, hsm, ⟨hr1, hr2, hr3⟩, ⟨hr4, hr5, hr6⟩, hd, hb⟩
  have HB17 := Lib.hid (thru0 HB16.out hb)
  have W_17 := Lib.hid (W_16.out.below hb); have Y_17 := Lib.hid (Y_16.out.below hb)
  have Rw_17 := Lib.hid (Rw_16.out.below hb); have Nw_17 := Lib.hid (Nw_16.out.below hb)
  have Rm_17 := Lib.hid (Rm_16.out.below hb); have Nm_17 := Lib.hid (Nm_16.out.below hb)
  have z17 : w16.heap.size ≤ w17.heap.size := hb.size
  have Rh_17 : Hid (PVO w17 hl1 hh1 hpa M' S') := Lib.hid hpo; have Nh_17 : Hid (NVO w17 hl2 hh2 hna N' hU) := Lib.hid hno; have Vh := Lib.hid hsm; have Dh := Lib.hid hd
  clear hb W_16 Y_16 HB16 P16 G16 S7 HNV hpo hno hsm
  have d0 := W_17.out.at 0 rfl; have d1 := W_17.out.at 1 rfl; have d2 := W_17.out.at 2 rfl; have d3 := W_17.out.at 3 rfl; have d4 := W_17.out.at 4 rfl; have d5 := W_17.out.at 5 rfl; have lW := W_17.out.1
  have W_18 := Lib.hid (W_17.out.alloc (.cells #[.int .i64 c, .int .i64 te', .int .i64 qu', .int .i64 ha', .slice hpa M' hpc, .slice hna N' hnc] 56)); have Y_18 := Lib.hid (Y_17.out.alloc (.cells #[.int .i64 c, .int .i64 te', .int .i64 qu', .int .i64 ha', .slice hpa M' hpc, .slice hna N' hnc] 56))
  have HB18 := Lib.hid (HB17.out.alloc HB17.out.size (.cells #[.int .i64 c, .int .i64 te', .int .i64 qu', .int .i64 ha', .slice hpa M' hpc, .slice hna N' hnc] 56))
  have Rw_18 := Lib.hid (Rw_17.out.alloc (.cells #[.int .i64 c, .int .i64 te', .int .i64 qu', .int .i64 ha', .slice hpa M' hpc, .slice hna N' hnc] 56)); have Nw_18 := Lib.hid (Nw_17.out.alloc (.cells #[.int .i64 c, .int .i64 te', .int .i64 qu', .int .i64 ha', .slice hpa M' hpc, .slice hna N' hnc] 56))
  have Rm_18 := Lib.hid (Rm_17.out.alloc (.cells #[.int .i64 c, .int .i64 te', .int .i64 qu', .int .i64 ha', .slice hpa M' hpc, .slice hna N' hnc] 56)); have Nm_18 := Lib.hid (Nm_17.out.alloc (.cells #[.int .i64 c, .int .i64 te', .int .i64 qu', .int .i64 ha', .slice hpa M' hpc, .slice hna N' hnc] 56))
  have Rh_18 := Lib.hid (Rh_17.out.alloc (.cells #[.int .i64 c, .int .i64 te', .int .i64 qu', .int .i64 ha', .slice hpa M' hpc, .slice hna N' hnc] 56)); have Nh_18 := Lib.hid (Nh_17.out.alloc (.cells #[.int .i64 c, .int .i64 te', .int .i64 qu', .int .i64 ha', .slice hpa M' hpc, .slice hna N' hnc] 56))
  go_wp2_with fail
  clear d0 d1 d2 d3 d4 d5 lW W_17 Y_17 HB17
  generalize w17.alloc (.cells #[.int .i64 c, .int .i64 te', .int .i64 qu', .int .i64 ha', .slice hpa M' hpc, .slice hna N' hnc] 56) = w18 at *
  refine (eqMR_same c te' qu' ha' hpa wpa M' hpc wpc S' hna wna N' hnc wnc hU wU _ Rh_18.out.src Nh_18.out.src Rw_18.out.src Nw_18.out.src (gsame_two Vh.out Vw.out) (by omega) (by omega) (fun i hi => by have := HV9.out i hi; have := (Vh.out i hi).1.2.2.2.2.1; omega)).mono ?_
  rintro e w19 ⟨rfl, hb⟩
  have HB19 := Lib.hid (thru0 HB18.out hb)
  have Y_19 := Lib.hid (Y_18.out.below hb)
  have Rm_19 := Lib.hid (Rm_18.out.below hb); have Nm_19 := Lib.hid (Nm_18.out.below hb)
  clear hb W_18 Y_18 HB18
  have e0 := Y_19.out.at 0 rfl; have e1 := Y_19.out.at 1 rfl; have e2 := Y_19.out.at 2 rfl; have e3 := Y_19.out.at 3 rfl; have e4 := Y_19.out.at 4 rfl; have e5 := Y_19.out.at 5 rfl; have lY := Y_19.out.1
  go_wp2_with fail
  refine (heldMR_any c te' qu' ha' gpa M' gpc S' gna N' gnc gU 1 _ Rm_19.out.src Nm_19.out.src (by omega) HK9.out).mono ?_
  rintro e w20 ⟨rfl, hb⟩
  rw [← HMM.out]
  have HB20 := Lib.hid (thru0 HB19.out hb)
  clear hb e0 e1 e2 e3 e4 e5 lY
  go_wp2
  go_ret
  exact ⟨rfl, HB20.out⟩
end Go.Proofs.Ytaenbjilcgpgcaa

