/- The walk of FnExactNewArena. -/
import Derived.Test.YthejbgmhfajcpaaA8
namespace Go.Proofs.Ythejbgmhfajcpaa
open Go.RowKit

set_option maxHeartbeats 1600000 in
theorem e6_any (v : Int) (w : World) :
    Calls Try.prog 6 #[.int .i64 v] w (RetBool w true) := by
  obtain ⟨⟨co, h1, n1, f1, ac1, bu1, at1⟩, hr⟩ := isNew_some v
  have hn1 : n1 ≤ 1048576 := Nat.le_trans (isNew_small hr) (by omega)
  have HR := Lib.hid hr
  clear hr
  go_enter Try.func6, Try.ntmps6
  go_wp2_with fail
  refine (specNew_any v _ _ HR.out).mono ?_
  rintro e w1 ⟨u1, c1, rfl, ho, hb⟩
  have HB1 : Hid (Below w.heap.size w w1) := thru0 (Below.refl _ _) hb
  have z1 : w.heap.size ≤ w1.heap.size := hb.size
  have RW_1 : Hid (OwnIn w1 w.heap.size w1.heap.size u1 n1 f1) := ho.into
  clear hb ho
  go_wp2_with fail
  refine (implNew_any v _ _ HR.out).mono ?_
  rintro e w2 ⟨u2, c2, rfl, ho, hb⟩
  have HB2 : Hid (Below w.heap.size w w2) := thru1 HB1.out hb
  have z2 : w1.heap.size + 1 ≤ w2.heap.size := by have := hb.size; simp at this; omega
  have RW_2 := Lib.hid ((RW_1.out.alloc _).below hb)
  have W_2 := Lib.hid ((Blk.new_at (w1.heap.size) (by simp)).below hb)
  have RG_2 : Hid (OwnIn w2 (w1.heap.size + 1) w2.heap.size u2 n1 f1) := (ho.mono (by simp)).into
  clear hb RW_1 HB1 ho
  have lW := W_2.out.1
  have cW0 := W_2.out.at 0 rfl
  have cW1 := W_2.out.at 1 rfl
  have cW2 := W_2.out.at 2 rfl
  have cW3 := W_2.out.at 3 rfl
  have cW4 := W_2.out.at 4 rfl
  have cW5 := W_2.out.at 5 rfl
  go_wp2_with fail
  refine (eqArenaResult_same _ _ _ _ _ _ _ _ _ _ f1 f1 _ (RG_2.out.alloc _).src (RW_2.out.alloc _).src hn1 (fun _ _ => rfl)).mono ?_
  rintro e w3 ⟨rfl, hb⟩
  have HB3 : Hid (Below w.heap.size w w3) := thru1 HB2.out hb
  have z3 : w2.heap.size + 1 ≤ w3.heap.size := by have := hb.size; simp at this; omega
  have RW_3 := Lib.hid ((RW_2.out.alloc _).below hb)
  have W_3 := Lib.hid ((W_2.out.alloc _).below hb)
  have RG_3 := Lib.hid ((RG_2.out.alloc _).below hb)
  have G_3 := Lib.hid ((Blk.new_at (w2.heap.size) (by simp)).below hb)
  clear hb lW cW0 cW1 cW2 cW3 cW4 cW5 RW_2 W_2 RG_2 HB2
  have lG := G_3.out.1
  have cG0 := G_3.out.at 0 rfl
  have cG1 := G_3.out.at 1 rfl
  have cG2 := G_3.out.at 2 rfl
  have cG3 := G_3.out.at 3 rfl
  have cG4 := G_3.out.at 4 rfl
  have cG5 := G_3.out.at 5 rfl
  go_wp2_with fail
  refine (markResult_any _ _ _ _ _ _ _ _ _ _ _ _ _ RG_3.out hn1 (by omega) (by omega)).mono ?_
  rintro e w4 ⟨rfl, ho, hk⟩
  have HB4 : Hid (Below w.heap.size w w4) := HB3.out.trans (hk.below (by omega) HB3.out.size)
  have z4 : w3.heap.size ≤ w4.heap.size := hk.size
  have RW_4 := Lib.hid (RW_3.out.keeps hk (by omega))
  have W_4 := Lib.hid (W_3.out.keeps hk (by omega))
  have G_4 := Lib.hid (G_3.out.keeps hk (by omega))
  have RG_4 : Hid (OwnIn w4 (w1.heap.size + 1) w2.heap.size u2 n1 (fun i => 1 + i)) := ho
  clear hk lG cG0 cG1 cG2 cG3 cG4 cG5 RW_3 W_3 RG_3 G_3 HB3 ho
  have lG := G_4.out.1
  have cG0 := G_4.out.at 0 rfl
  have cG1 := G_4.out.at 1 rfl
  have cG2 := G_4.out.at 2 rfl
  have cG3 := G_4.out.at 3 rfl
  have cG4 := G_4.out.at 4 rfl
  have cG5 := G_4.out.at 5 rfl
  go_wp2_with fail
  refine (heldResult_any _ _ _ _ _ _ _ _ 1 _ RG_4.out.src hn1 (by omega) (by omega)).mono ?_
  rintro e w5 ⟨rfl, hb⟩
  have HB5 : Hid (Below w.heap.size w w5) := thru0 HB4.out hb
  have z5 : w4.heap.size ≤ w5.heap.size := hb.size
  have RW_5 := Lib.hid (RW_4.out.below hb)
  have W_5 := Lib.hid (W_4.out.below hb)
  have G_5 := Lib.hid (G_4.out.below hb)
  have RG_5 := Lib.hid (RG_4.out.below hb)
  clear hb lG cG0 cG1 cG2 cG3 cG4 cG5 RW_4 W_4 G_4 RG_4 HB4
  go_wp2_with fail
  refine (implNew_any v _ _ HR.out).mono ?_
  rintro e w6 ⟨u6, c6, rfl, ho, hb⟩
  have HB6 : Hid (Below w.heap.size w w6) := thru0 HB5.out hb
  have z6 : w5.heap.size ≤ w6.heap.size := hb.size
  have RW_6 := Lib.hid (RW_5.out.below hb)
  have W_6 := Lib.hid (W_5.out.below hb)
  have G_6 := Lib.hid (G_5.out.below hb)
  have RG_6 := Lib.hid (RG_5.out.below hb)
  have RH_6 : Hid (OwnIn w6 w5.heap.size w6.heap.size u6 n1 f1) := ho.into
  clear hb RW_5 W_5 G_5 RG_5 HB5 ho
  have lW := W_6.out.1
  have cW0 := W_6.out.at 0 rfl
  have cW1 := W_6.out.at 1 rfl
  have cW2 := W_6.out.at 2 rfl
  have cW3 := W_6.out.at 3 rfl
  have cW4 := W_6.out.at 4 rfl
  have cW5 := W_6.out.at 5 rfl
  have lG := G_6.out.1
  have cG0 := G_6.out.at 0 rfl
  have cG1 := G_6.out.at 1 rfl
  have cG2 := G_6.out.at 2 rfl
  have cG3 := G_6.out.at 3 rfl
  have cG4 := G_6.out.at 4 rfl
  have cG5 := G_6.out.at 5 rfl
  go_wp2_with fail
  refine (eqArenaResult_same _ _ _ _ _ _ _ _ _ _ f1 f1 _ (RH_6.out.alloc _).src (RW_6.out.alloc _).src hn1 (fun _ _ => rfl)).mono ?_
  rintro e w7 ⟨rfl, hb⟩
  have HB7 : Hid (Below w.heap.size w w7) := thru1 HB6.out hb
  have z7 : w6.heap.size + 1 ≤ w7.heap.size := by have := hb.size; simp at this; omega
  have RW_7 := Lib.hid ((RW_6.out.alloc _).below hb)
  have W_7 := Lib.hid ((W_6.out.alloc _).below hb)
  have G_7 := Lib.hid ((G_6.out.alloc _).below hb)
  have RG_7 := Lib.hid ((RG_6.out.alloc _).below hb)
  have RH_7 := Lib.hid ((RH_6.out.alloc _).below hb)
  clear hb lW cW0 cW1 cW2 cW3 cW4 cW5 lG cG0 cG1 cG2 cG3 cG4 cG5 RW_6 W_6 G_6 RG_6 RH_6 HB6
  have lG := G_7.out.1
  have cG0 := G_7.out.at 0 rfl
  have cG1 := G_7.out.at 1 rfl
  have cG2 := G_7.out.at 2 rfl
  have cG3 := G_7.out.at 3 rfl
  have cG4 := G_7.out.at 4 rfl
  have cG5 := G_7.out.at 5 rfl
  go_wp2_with fail
  refine (heldResult_any _ _ _ _ _ _ _ _ 1 _ RG_7.out.src hn1 (by omega) (by omega)).mono ?_
  rintro e w8 ⟨rfl, hb⟩
  have HB8 : Hid (Below w.heap.size w w8) := thru0 HB7.out hb
  have z8 : w7.heap.size ≤ w8.heap.size := hb.size
  have RW_8 := Lib.hid (RW_7.out.below hb)
  have W_8 := Lib.hid (W_7.out.below hb)
  have G_8 := Lib.hid (G_7.out.below hb)
  have RG_8 := Lib.hid (RG_7.out.below hb)
  have RH_8 := Lib.hid (RH_7.out.below hb)
  clear hb lG cG0 cG1 cG2 cG3 cG4 cG5 RW_7 W_7 G_7 RG_7 RH_7 HB7
  go_wp2
  go_ret
  exact ⟨rfl, HB8.out⟩

end Go.Proofs.Ythejbgmhfajcpaa
