/- Texts merged: OT6 to ST2. -/
import Derived.Test.YtkeeoelbnmacdaaDoorPT3
import Derived.Laws.AppendOwn
import Derived.Shelf.Strings.Builder1
import Derived.Shelf.Strings.Builder2
import Derived.Shelf.Strings.OnBuilder
import Derived.Laws.RangeAny
namespace Go.Proofs.YtkeeoelbnmacdaaDoor
open Go.RowKit
set_option linter.unusedVariables false

theorem Tryd.infoPI : (Tryd.prog.info? 73).map (fun i => (i.zero, i.size, i.bytes)) = some (some (.pointer none), 1, 8) := by kernel_rfl

theorem Tryd.underlyingRPI : Tryd.prog.underlying 70 = some (.slice 73) := by kernel_rfl

def pointRow (b : Nat) (l : List Nat) : List Value := l.map fun o => .pointer (some ⟨b, o, none⟩)

theorem pointRow_snoc (b : Nat) (l : List Nat) (x : Nat) : pointRow b (l ++ [x]) = pointRow b l ++ [.pointer (some ⟨b, x, none⟩)] := by simp [pointRow]

theorem info_pi : ∃ i, Tryd.prog.info? 73 = some i ∧ i.zero = some (.pointer none) ∧ i.size = 1 ∧ i.bytes = 8 := by
  have h := Tryd.infoPI
  cases hi : Tryd.prog.info? 73 with
  | none => rw [hi] at h; cases h
  | some i =>
    rw [hi] at h
    simp only [Option.map_some, Option.some.injEq, Prod.mk.injEq] at h
    exact ⟨i, rfl, h.1, h.2.1, h.2.2⟩

theorem append_ptr {w : World} {ops : Array Oper} {rest : List Oper} {o : Oper} {a : Act} {Q : Exit → Act → World → Prop} (hgd : o.guard = none) (s x : Operand)
    (ho : o.op = .call { callee := .builtin .append, args := #[s, x], argTypes := #[70, 70] })
    (base ob : Nat) (v : Value) (l : List Nat) (hs : a.eval s = v) (hown : w.ownsRow base 73 1 v l.length (pointRow ob l)) (b t : Nat) (hx : a.eval x = .slice (some ⟨b, 0, none⟩) 1 1) (hc : w.cell? ⟨b, 0, none⟩ = some (.pointer (some ⟨ob, t, none⟩)))
    (h63 : l.length + 1 ≤ 2000000) (hbase : base ≤ w.heap.size)
    (h : ∀ v' w', w'.ownsRow base 73 1 v' (l ++ [t]).length (pointRow ob (l ++ [t])) → w.grownBy w' v.ownBlock → wpList Tryd.prog ops Q rest (a.put o.dst v') w') : wpList Tryd.prog ops Q (o :: rest) a w := by
  obtain ⟨i0, hif, hz0, hz1, hz2⟩ := info_pi
  have hcc : ∀ (j : Nat) (u : Value), ([Value.pointer (some ⟨ob, t, none⟩)] : List Value)[j]? = some u → w.cell? ((⟨b, 0, none⟩ : Addr).add j) = some u := by
    intro j u hu
    rcases j with _ | j
    · simp at hu; subst hu; simpa [Addr.add] using hc
    · simp at hu
  exact wpList_append_own w hgd s x 70 ho base 73 i0 (.pointer none) 1 8 Tryd.underlyingRPI hif hz0 hz1 hz2 rfl (by decide) v l.length (pointRow ob l) hs hown ⟨b, 0, none⟩ 1 1 [.pointer (some ⟨ob, t, none⟩)] hx rfl hcc (fun u hu => by simp at hu; subst hu; rfl) (by unfold maxLen; omega) (by omega) hbase fun v' w' h1 h2 _ => h v' w' (by rw [pointRow_snoc, List.length_append]; exact h1) h2

theorem new_cell1 (W : World) (x : Value) (T : TypeId) : (W.alloc (.cells #[x] T)).cell? ⟨W.heap.size, 0, none⟩ = some x := by simp

theorem fld_kind4 (a b c d f : Value) (w : World) : (Instr.field 97 (.agg #[a, b, c, d, f]) 0).run Tryd.prog w = .ok (.agg #[a, b, c, d]) w := by kernel_rfl

theorem nb_grown {w w' : World} {b : Nat} {cs : List Value} {row : Option Nat} (h : Blk w b cs) (hg : w.grownBy w' row) (hr : ∀ j, row = some j → b < j) : Blk w' b cs := by
  have e : w'.heap[b]? = w.heap[b]? := hg.block b h.1 fun e => by have := hr b e.symm; omega
  exact ⟨Nat.lt_of_lt_of_le h.1 hg.size, fun i u hu => ⟨(World.cell?_of_block (w := w) (a := ⟨b, i, none⟩) e).trans (h.2 i u hu).1, (World.frozen?_of_block (w := w) (a := ⟨b, i, none⟩) e).trans (h.2 i u hu).2⟩⟩

def RetPtr (w : World) (ob : Nat) (l : List Nat) (e : Ending) (w' : World) : Prop := ∃ v, e = .returned v ∧ w'.ownsRow w.heap.size 73 1 v l.length (pointRow ob l) ∧ Below w.heap.size w w'

set_option maxRecDepth 100000 in
set_option maxHeartbeats 6400000 in
theorem numbersOf_any (ob : Nat) (te k h t i v : Int) (fo : Bool) (w : World) (hB : Blk w ob [.int .i64 te, .int .i64 k, .int .i64 h, .int .i64 t, .int .i64 i, .int .i64 v, .bool fo]) (hk : 1 ≤ k ∧ k ≤ 11) :
    Calls Tryd.prog 40 #[.pointer (some ⟨ob, 0, none⟩)] w (RetPtr w ob (ptrL k)) := by
  have BB := Lib.hid hB; have HK := Lib.hid hk
  have c0 := hB.at 0 rfl; have c1 := hB.at 1 rfl; have c2 := hB.at 2 rfl; have c3 := hB.at 3 rfl; have c4 := hB.at 4 rfl; have c5 := hB.at 5 rfl; have c6 := hB.at 6 rfl; have lB := hB.1
  have T_1 := Lib.hid (Blk.new_at (w := w) (cs := #[.int .i64 0, .int .i64 0, .int .i64 0, .slice none 0 0, .slice none 0 0, .int .i64 te, .int .i64 k, .int .i64 h, .int .i64 t, .int .i64 i, .int .i64 v, .bool fo, .pointer none, .pointer none]) (t := 92) w.heap.size rfl)
  have HB1 := Lib.hid ((Below.refl w.heap.size w).alloc (Nat.le_refl _) (.cells #[.int .i64 0, .int .i64 0, .int .i64 0, .slice none 0 0, .slice none 0 0, .int .i64 te, .int .i64 k, .int .i64 h, .int .i64 t, .int .i64 i, .int .i64 v, .bool fo, .pointer none, .pointer none] 92))
  clear hB hk
  go_enter Tryd.func40, Tryd.ntmps40
  go_wp2_with fail
  clear c0 c1 c2 c3 c4 c5 c6
  refine (kind_any _ k _ HK.out T_1.out.1 (T_1.out.at 6 rfl)).mono ?_
  rintro e w2 ⟨rfl, hb⟩
  have HB2 := Lib.hid (thru0 HB1.out hb)
  clear hb T_1 HB1
  have hfl := fld_kind4 (.bool (nH k)) (.bool (nT k)) (.bool (nI k)) (.bool (nV k)) (.func (.func (kF k)) #[.pointer (some ⟨w.heap.size, 0, none⟩)] #[])
  have N_3 := Lib.hid (Blk.new_at (w := w2) (cs := #[.bool (nH k), .bool (nT k), .bool (nI k), .bool (nV k)]) (t := 94) w2.heap.size rfl)
  have HB3 := Lib.hid (HB2.out.alloc HB2.out.size (.cells #[.bool (nH k), .bool (nT k), .bool (nI k), .bool (nV k)] 94))
  have HL : Hid (ptrL k = (if nH k then [2] else []) ++ ((if nI k then [4] else []) ++ ((if nV k then [5] else []) ++ (if nT k then [3] else [])))) := Lib.hid rfl
  obtain ⟨L, hL⟩ : ∃ L, ptrL k = L := ⟨_, rfl⟩
  have HLP := Lib.hid hL
  rw [hL] at HL
  clear hL
  go_upto_region 4 with (fail)
  have hz0 := HB2.out.size
  clear hfl HB2
  have OW : Hid ((w2.alloc (.cells #[.bool (nH k), .bool (nT k), .bool (nI k), .bool (nV k)] 94)).ownsRow (w2.heap.size + 1) 73 1 (.slice none 0 0) ([] : List Nat).length (pointRow ob [])) := Lib.hid (World.ownsRow_nil _ _ _ _)
  have hz3 : w2.heap.size + 1 ≤ (w2.alloc (.cells #[.bool (nH k), .bool (nT k), .bool (nI k), .bool (nV k)] 94)).heap.size := by simp
  generalize w2.alloc (.cells #[.bool (nH k), .bool (nT k), .bool (nI k), .bool (nV k)] 94) = w3 at *
  generalize w2.heap.size = nb at *
  generalize nH k = b1 at *
  generalize nI k = b2 at *
  generalize nV k = b3 at *
  generalize nT k = b4 at *
  cases b1 <;> cases b2 <;> cases b3 <;> cases b4
  all_goals
    have c0 := N_3.out.at 0 rfl; have c1 := N_3.out.at 1 rfl; have c2 := N_3.out.at 2 rfl; have c3 := N_3.out.at 3 rfl; have lN := N_3.out.1
    have HL2 : L = _ := HL.out
    simp at HL2
    have HL3 := Lib.hid HL2
    clear HL2
    go_wp2_with (at_builtin; (refine append_ptr rfl _ _ rfl (nb + 1) ob _ _ rfl (OW.out.alloc _) _ _ rfl (new_cell1 _ _ _) (by simp) (Nat.le_trans hz3 (by simp)) ?_); intro v9 w9 hown9 hgrow9; have HGE := (fun j hj => (OW.out.lt j hj).1 : ∀ j, _ = some j → nb + 1 ≤ j); have HB3 := Lib.hid ((HB3.out.alloc HB3.out.size _).grown hgrow9 (Nat.le_trans HB3.out.size (by simp)) (fun j hj => Nat.le_trans hz0 (Nat.le_of_succ_le (HGE j hj)))); have hz3 := Nat.le_trans hz3 (Nat.le_trans (Nat.le_succ _) (by have := hgrow9.size; simpa using this)); have N_3 := Lib.hid (nb_grown (N_3.out.alloc _) hgrow9 (fun j hj => HGE j hj)); have OW := Lib.hid hown9; clear HGE hown9 hgrow9; clear c0 c1 c2 c3 lN; have c0 := N_3.out.at 0 rfl; have c1 := N_3.out.at 1 rfl; have c2 := N_3.out.at 2 rfl; have c3 := N_3.out.at 3 rfl; have lN := N_3.out.1)
    go_ret
    refine ⟨_, rfl, ?_, HB3.out⟩
    rw [HLP.out, HL3.out]
    exact Go.Joins.ownsRow_le OW.out (by omega)
end Go.Proofs.YtkeeoelbnmacdaaDoor

namespace Go.Proofs.YtkeeoelbnmacdaaDoor
open Go.RowKit
set_option linter.unusedVariables false

def nmCells : Array Value := #[.string ⟨#[]⟩, .string ⟨#[110, 101, 119]⟩, .string ⟨#[100, 117, 112]⟩, .string ⟨#[100, 114, 111, 112]⟩, .string ⟨#[103, 101, 116]⟩, .string ⟨#[112, 117, 116]⟩, .string ⟨#[108, 111, 97, 100]⟩, .string ⟨#[108, 105, 110, 107]⟩, .string ⟨#[115, 97, 109, 101]⟩, .string ⟨#[104, 97, 115, 104]⟩, .string ⟨#[115, 105, 122, 101]⟩, .string ⟨#[117, 115, 101, 100]⟩]

theorem nmCells_at {n : Nat} (h : 1 ≤ n ∧ n ≤ 11) : nmCells[n]? = some (.string (nmB (n : Int))) := by
  obtain ⟨h1, h2⟩ := h
  match n, h1, h2 with
  | 1, _, _ => rfl
  | 2, _, _ => rfl
  | 3, _, _ => rfl
  | 4, _, _ => rfl
  | 5, _, _ => rfl
  | 6, _, _ => rfl
  | 7, _, _ => rfl
  | 8, _, _ => rfl
  | 9, _, _ => rfl
  | 10, _, _ => rfl
  | 11, _, _ => rfl

set_option maxRecDepth 100000 in
set_option maxHeartbeats 1600000 in
theorem kindNames_any (w : World) : Calls Tryd.prog 39 #[] w fun e w' => e = .returned (.slice (some ⟨w.heap.size, 0, none⟩) 12 12) ∧ w' = w.alloc (.cells nmCells 9) := by
  go_enter Tryd.func39, Tryd.ntmps39
  go_wp2
  go_ret
  exact ⟨rfl, rfl⟩

theorem txvo_row_at {w : World} {base : Nat} {v : Value} {ob : Nat} {L : List Nat} (h : w.ownsRow base 73 1 v L.length (pointRow ob L)) : ∃ a c, v = .slice a L.length c ∧ (L.length = 0 ∨ ∃ g, a = some ⟨g, 0, none⟩ ∧ base ≤ g ∧ g < w.heap.size ∧ ∀ j (hj : j < L.length), w.cell? ⟨g, j, none⟩ = some (.pointer (some ⟨ob, L[j], none⟩))) := by
  have h0 := h
  rcases h.2 with ⟨h1, h2⟩ | ⟨g, cap', cur, h1, hB, hg, hnc, hcm, hcs, _⟩
  · exact ⟨none, 0, by rw [h1, h2], .inl h2⟩
  · refine ⟨_, cap', h1, .inr ⟨g, rfl, hB, (Array.getElem?_eq_some_iff.mp hg).1, fun j hj => ?_⟩⟩
    subst h1
    have := h0.cellAt j (by omega)
    rw [show (pointRow ob L)[j]? = some (.pointer (some ⟨ob, L[j], none⟩)) by simp [pointRow, hj]] at this
    exact this
end Go.Proofs.YtkeeoelbnmacdaaDoor

namespace Go.Proofs.YtkeeoelbnmacdaaDoor
open Go.Shelf Go.RowKit
set_option linter.unusedVariables false

def Tryd.lays156_ren : Go.Shelf.Ren := ⟨fun | 156 => 41 | 165 => 57 | 166 => 58 | 169 => 59 | 240 => 78 | 241 => 79 | 276 => 95 | 277 => 96 | n => n, fun | 31 => 22 | 9 => 9 | 3 => 3 | 4 => 4 | 0 => 0 | 20 => 20 | 72 => 109 | 76 => 111 | 70 => 106 | 37 => 107 | 75 => 49 | 127 => 130 | 164 => 114 | 5 => 5 | 80 => 113 | n => n, fun | n => n⟩

theorem Tryd.lays156 : Go.Proofs.Lays.n156 Tryd.prog Tryd.lays156_ren := {
  mixed := by kernel_rfl
  f156 := Tryd.func41.trans (congrArg some (by kernel_rfl))
  f165 := Tryd.func57.trans (congrArg some (by kernel_rfl))
  f166 := Tryd.func58.trans (congrArg some (by kernel_rfl))
  f169 := Tryd.func59.trans (congrArg some (by kernel_rfl))
  f240 := Tryd.func78.trans (congrArg some (by kernel_rfl))
  f241 := Tryd.func79.trans (congrArg some (by kernel_rfl))
  f276 := Tryd.func95.trans (congrArg some (by kernel_rfl))
  f277 := Tryd.func96.trans (congrArg some (by kernel_rfl))
  t0 := Tryd.underlying0
  a0 := Tryd.isAgg0
  z0 := Tryd.sizeOf0
  v0 := Tryd.zeroValue0
  t3 := Tryd.underlying3
  a3 := Tryd.isAgg3
  z3 := Tryd.sizeOf3
  v3 := Tryd.zeroValue3
  t4 := Tryd.underlying4
  a4 := Tryd.isAgg4
  z4 := Tryd.sizeOf4
  v4 := Tryd.zeroValue4
  t9 := Tryd.underlying9
  a9 := Tryd.isAgg9
  z9 := Tryd.sizeOf9
  v9 := Tryd.zeroValue9
  t20 := Tryd.underlying20
  a20 := Tryd.isAgg20
  z20 := Tryd.sizeOf20
  v20 := Tryd.zeroValue20
  t31 := Tryd.underlying22
  a31 := Tryd.isAgg22
  z31 := Tryd.sizeOf22
  v31 := Tryd.zeroValue22
  t37 := Tryd.underlying107
  a37 := Tryd.isAgg107
  z37 := Tryd.sizeOf107
  v37 := Tryd.zeroValue107
  t70 := Tryd.underlying106
  a70 := Tryd.isAgg106
  z70 := Tryd.sizeOf106
  v70 := Tryd.zeroValue106
  t72 := Tryd.underlying109
  a72 := Tryd.isAgg109
  z72 := Tryd.sizeOf109
  v72 := Tryd.zeroValue109
  t75 := Tryd.underlying49
  a75 := Tryd.isAgg49
  z75 := Tryd.sizeOf49
  v75 := Tryd.zeroValue49
  t76 := Tryd.underlying111
  a76 := Tryd.isAgg111
  z76 := Tryd.sizeOf111
  v76 := Tryd.zeroValue111
  t127 := Tryd.underlying130
  a127 := Tryd.isAgg130
  z127 := Tryd.sizeOf130
  v127 := Tryd.zeroValue130
  t164 := Tryd.underlying114
  a164 := Tryd.isAgg114
  z164 := Tryd.sizeOf114
  v164 := Tryd.zeroValue114 }

theorem Tryd.Builder_Extra_156 : Builder.Extra Tryd.prog Tryd.lays156_ren := {
  sizeBuilder := by kernel_rfl
  liesBuilder := by kernel_rfl
  t5 := Tryd.underlying5
  a5 := Tryd.isAgg5
  z5 := Tryd.sizeOf5
  v5 := Tryd.zeroValue5
  infoByte := by kernel_rfl
  cellsByte := by kernel_rfl
  sizeByte := by kernel_rfl
  neB5 := by decide }
open Go.RowKit in

theorem Tryd.strings_Join (bk o c : Nat) (xs : List ByteArray) (sep : ByteArray) (w : World) (hcells : ∀ (j : Nat) x, xs[j]? = some x → w.cell? ⟨bk, o + j, none⟩ = some (.string x)) (hbk : bk < w.heap.size) (hN : xs.length ≤ 140737488355328) (hcap : xs.length ≤ c) (hlen : (Lib.join (xs.map (·.data.toList)) sep.data.toList).length ≤ 140737488355328) :
    Calls Tryd.prog 41 #[.slice (some ⟨bk, o, none⟩) xs.length c, .string sep] w fun e w' => e = .returned (.string ⟨(Lib.join (xs.map (·.data.toList)) sep.data.toList).toArray⟩) ∧ Below w.heap.size w w' := Any.strings_Join Tryd.lays156 Tryd.Builder_Extra_156 bk o c xs sep w hcells hbk hN hcap hlen
end Go.Proofs.YtkeeoelbnmacdaaDoor

namespace Go.Proofs.YtkeeoelbnmacdaaDoor
open Go.RowKit
set_option linter.unusedVariables false

theorem Tryd.infoStr : (Tryd.prog.info? 9).map (fun i => (i.zero, i.size, i.bytes)) = some (some (.string ByteArray.empty), 1, 16) := by kernel_rfl

theorem Tryd.underlyingRStr : Tryd.prog.underlying 22 = some (.slice 9) := by kernel_rfl

def strs (l : List ByteArray) : List Value := l.map Value.string

theorem strs_snoc (l : List ByteArray) (x : ByteArray) : strs (l ++ [x]) = strs l ++ [.string x] := by simp [strs]

theorem info_str : ∃ i, Tryd.prog.info? 9 = some i ∧ i.zero = some (.string ByteArray.empty) ∧ i.size = 1 ∧ i.bytes = 16 := by
  have h := Tryd.infoStr
  cases hi : Tryd.prog.info? 9 with
  | none => rw [hi] at h; cases h
  | some i =>
    rw [hi] at h
    simp only [Option.map_some, Option.some.injEq, Prod.mk.injEq] at h
    exact ⟨i, rfl, h.1, h.2.1, h.2.2⟩

theorem append_str {w : World} {ops : Array Oper} {rest : List Oper} {o : Oper} {a : Act} {Q : Exit → Act → World → Prop} (hgd : o.guard = none) (s x : Operand)
    (ho : o.op = .call { callee := .builtin .append, args := #[s, x], argTypes := #[22, 22] })
    (base : Nat) (v : Value) (l : List ByteArray) (hs : a.eval s = v) (hown : w.ownsRow base 9 1 v l.length (strs l)) (b : Nat) (t : ByteArray) (hx : a.eval x = .slice (some ⟨b, 0, none⟩) 1 1) (hc : w.cell? ⟨b, 0, none⟩ = some (.string t))
    (h63 : l.length + 1 ≤ 2000000) (hbase : base ≤ w.heap.size)
    (h : ∀ v' w', w'.ownsRow base 9 1 v' (l ++ [t]).length (strs (l ++ [t])) → w.grownBy w' v.ownBlock → wpList Tryd.prog ops Q rest (a.put o.dst v') w') : wpList Tryd.prog ops Q (o :: rest) a w := by
  obtain ⟨i0, hif, hz0, hz1, hz2⟩ := info_str
  have hcc : ∀ (j : Nat) (u : Value), ([Value.string t] : List Value)[j]? = some u → w.cell? ((⟨b, 0, none⟩ : Addr).add j) = some u := by
    intro j u hu
    rcases j with _ | j
    · simp at hu; subst hu; simpa [Addr.add] using hc
    · simp at hu
  exact wpList_append_own w hgd s x 22 ho base 9 i0 (.string ByteArray.empty) 1 16 Tryd.underlyingRStr hif hz0 hz1 hz2 rfl (by decide) v l.length (strs l) hs hown ⟨b, 0, none⟩ 1 1 [.string t] hx rfl hcc (fun u hu => by simp at hu; subst hu; rfl) (by unfold maxLen; omega) (by omega) hbase fun v' w' h1 h2 _ => h v' w' (by rw [strs_snoc, List.length_append]; exact h1) h2

theorem append_str_lies {w : World} {ops : Array Oper} {rest : List Oper} {o : Oper} {a : Act} {Q : Exit → Act → World → Prop} (hgd : o.guard = none) (s x : Operand)
    (ho : o.op = .call { callee := .builtin .append, args := #[s, x], argTypes := #[22, 22] })
    (base : Nat) (v : Value) (l : List ByteArray) (hs : a.eval s = v) (hown : w.ownsRow base 9 1 v l.length (strs l)) (b : Nat) (t : ByteArray) (hx : a.eval x = .slice (some ⟨b, 0, none⟩) 1 1) (hc : w.cell? ⟨b, 0, none⟩ = some (.string t))
    (h63 : l.length + 1 ≤ 2000000) (hbase : base ≤ w.heap.size)
    (h : ∀ g cap w', w'.ownsRow base 9 1 (.slice (some ⟨g, 0, none⟩) (l.length + 1) cap) (l ++ [t]).length (strs (l ++ [t])) → w.grownBy w' v.ownBlock → (v.ownBlock = some g ∨ g = w.heap.size) → wpList Tryd.prog ops Q rest (a.put o.dst (.slice (some ⟨g, 0, none⟩) (l.length + 1) cap)) w') : wpList Tryd.prog ops Q (o :: rest) a w := by
  obtain ⟨i0, hif, hz0, hz1, hz2⟩ := info_str
  have hcc : ∀ (j : Nat) (u : Value), ([Value.string t] : List Value)[j]? = some u → w.cell? ((⟨b, 0, none⟩ : Addr).add j) = some u := by
    intro j u hu
    rcases j with _ | j
    · simp at hu; subst hu; simpa [Addr.add] using hc
    · simp at hu
  exact wpList_append_lies w hgd s x 22 ho base 9 i0 (.string ByteArray.empty) 1 16 Tryd.underlyingRStr hif hz0 hz1 hz2 rfl (by decide) v l.length (strs l) hs hown ⟨b, 0, none⟩ 1 1 [.string t] hx rfl hcc (fun u hu => by simp at hu; subst hu; rfl) (by decide) (by unfold maxLen; omega) (by omega) hbase w.heap.size rfl fun g cap w' h1 h2 h3 _ => h g cap w' (by rw [strs_snoc, List.length_append]; exact h1) h2 h3

theorem TxVO.grown {w w' : World} {lo hi N : Nat} {a : Option Addr} {T : Nat → ByteArray} {row : Option Nat} (h : TxVO w lo hi a N T) (hg : w.grownBy w' row) (hr : ∀ k, row = some k → k < lo ∨ hi ≤ k) : TxVO w' lo hi a N T := by
  rcases h with h0 | ⟨b, q, ha, h⟩
  · exact .inl h0
  · have h1 := h.glo; have h2 := h.ghi
    have e : w'.heap[b]? = w.heap[b]? := hg.block b h.lt fun e => by
      have := hr b e.symm; omega
    exact .inr ⟨b, q, ha, h1, h2, Nat.lt_of_lt_of_le h.lt hg.size, fun i hi => (h.one i hi).block e, fun i hi => (h.free i hi).block e⟩
end Go.Proofs.YtkeeoelbnmacdaaDoor

