/- LAYER 12 (peers): lists of ints that a call made and owns: append, equality; the reference's List, Count, Quorum. -/
import Derived.Test.YtebpfjidfohjoaaPeX
import Derived.Test.YtebpfjidfohjoaaOwn
import Derived.Test.YtebpfjidfohjoaaTail
set_option linter.unusedSimpArgs false
set_option linter.unusedVariables false
namespace Go.Proofs.Ytebpfjidfohjoaa.W
open Go Go.ChangeShapes Go.WideShapes Go.ChangeAt Go.RowKit
open Go.Proofs.Ytebpfjidfohjoaa.B (hasV elV bitsV mem mem_and mem_ref cntM cnt T bits_127 cntM_le lsN lsN_len lsN_lt mlN)

/-- A slice of ints that the call made, and owns from block number base on. -/
def OwI (w : World) (base : Nat) (v : Value) (L : List Int) : Prop := w.ownsRow base 3 1 v L.length (L.map (Value.int .i64))
theorem OwI.nil (w : World) (base : Nat) : OwI w base (.slice none 0 0) [] := World.ownsRow_nil _ _ _ _
theorem OwI.kept {w w' : World} {base : Nat} {v : Value} {L : List Int} (h : OwI w base v L) (hb : Below w.heap.size w w') : OwI w' base v L := by
  have hlt := World.ownsRow.lt h
  obtain ⟨h1, h2⟩ := h
  refine ⟨h1, ?_⟩
  rcases h2 with h2 | ⟨g, cap, cur, rfl, hg, hh, r⟩
  · exact .inl h2
  · exact .inr ⟨g, cap, cur, rfl, hg, by rw [hb.block g (hlt g rfl).2]; exact hh, r⟩
theorem OwI.base {w : World} {base base' : Nat} {v : Value} {L : List Int} (h : OwI w base v L) (hb : base' ≤ base) : OwI w base' v L := by
  obtain ⟨h1, h2⟩ := h
  refine ⟨h1, ?_⟩
  rcases h2 with h2 | ⟨g, cap, cur, rfl, hg, r⟩
  · exact .inl h2
  · exact .inr ⟨g, cap, cur, rfl, Nat.le_trans hb hg, r⟩
/-- what it is, and that it reads as its list -/
theorem OwI.form {w : World} {base : Nat} {v : Value} {L : List Int} (h : OwI w base v L) (hw : ∀ x ∈ L, (Lit.int .i64 x).wf = true) :
    ∃ a cap, v = .slice a L.length cap ∧ L.length ≤ cap ∧ cap ≤ maxLen ∧ Sl .i64 w a L.length L := Sl.of_own h hw
/-- without the words on sizes: where it lies -/
theorem OwI.at {w : World} {base : Nat} {v : Value} {L : List Int} (h : OwI w base v L) :
    ∃ a cap, v = .slice a L.length cap ∧ L.length ≤ cap ∧ cap ≤ maxLen ∧ (L.length = 0 ∨ ∃ g, a = some ⟨g, 0, none⟩ ∧ base ≤ g ∧ g < w.heap.size ∧ ∀ i, i < L.length → w.cell? ⟨g, i, none⟩ = some (.int .i64 (L.getD i 0))) := by
  have hc := fun g hg => World.ownsRow.cells h (g := g) hg
  have hlt := World.ownsRow.lt h
  obtain ⟨h1, h2⟩ := h
  rcases h2 with ⟨rfl, h0⟩ | ⟨g, cap, cur, rfl, hg, hh, hn, hm, r⟩
  · rw [h0]; exact ⟨none, 0, rfl, Nat.le_refl _, Nat.zero_le _, .inl rfl⟩
  · refine ⟨_, cap, rfl, hn, hm, .inr ⟨g, rfl, hg, (hlt g rfl).2, fun i hi => ?_⟩⟩
    have h3 := hc g rfl i (.int .i64 (L.getD i 0)) (by simp [hi])
    rw [Go.WideShapes.add_plain, Nat.zero_add] at h3; exact h3
theorem infoInt : (Try.prog.info? 3).map (fun i => (i.zero, i.size, i.bytes)) = some (some (.int .i64 0), 1, 8) := by kernel_rfl
theorem OwI.append {w w' : World} {base : Nat} {v' : Value} {L : List Int} {n : Int} (h : w'.ownsRow base 3 1 v' (L.length + 1) (L.map (Value.int .i64) ++ [.int .i64 n])) : OwI w' base v' (L ++ [n]) := by
  unfold OwI; rw [List.length_append, List.map_append]; exact h
/-- APPEND of one int to what the call owns. -/
theorem append_int {w : World} {ops : Array Oper} {rest : List Oper} {o : Oper} {a : Act} {Q : Exit → Act → World → Prop} (hgd : o.guard = none) (s x : Operand)
    (ho : o.op = .call { callee := .builtin .append, args := #[s, x], argTypes := #[33, 33] })
    (base : Nat) (v : Value) (L : List Int) (hs : a.eval s = v) (hown : OwI w base v L) (g c : Nat) (hx : a.eval x = .slice (some ⟨g, 0, none⟩) 1 c)
    (n : Int) (hcell : w.cell? ⟨g, 0, none⟩ = some (.int .i64 n)) (hmax : L.length ≤ 1000000) (hbase : base ≤ w.heap.size)
    (h : ∀ v' w', OwI w' base v' (L ++ [n]) → Below base w w' → wpList Try.prog ops Q rest (a.put o.dst v') w') : wpList Try.prog ops Q (o :: rest) a w := by
  obtain ⟨i0, hi, hz0, hz1, hz2⟩ := info_parts infoInt
  have hlt := World.ownsRow.lt hown
  refine append_at hgd s x 33 3 ho base i0 _ 1 8 Try.underlying33 hi hz0 hz1 hz2 rfl (by decide) v L.length (L.map (Value.int .i64)) hs hown ⟨g, 0, none⟩ 1 c [.int .i64 n] hx rfl ?_ ?_ (by unfold maxLen; omega) (by omega) hbase ?_
  · intro j u hj
    obtain ⟨rfl, rfl⟩ : j = 0 ∧ .int .i64 n = u := by
      rcases j with _ | j
      · exact ⟨rfl, by simpa using hj⟩
      · simp at hj
    rw [Go.WideShapes.add_plain]; exact hcell
  · intro u hu
    rw [List.mem_singleton.1 hu]; rfl
  · intro v' w' hown' hg hblk
    exact h _ w' (OwI.append (w := w) hown') ((Below.refl _ _).grown hg hbase (fun k hk => (hlt k hk).1))

/-- the members below k, as numbers -/
def LI (f : Nat → Bool) (k : Nat) : List Int := (lsN f k).map Int.ofNat
theorem LI_len (f : Nat → Bool) (k : Nat) : (LI f k).length = cnt f k := by unfold LI; rw [List.length_map, lsN_len]
theorem LI_succ (f : Nat → Bool) (k : Nat) : LI f (k + 1) = LI f k ++ if f k then [(k : Int)] else [] := by
  unfold LI; simp only [lsN]; rw [List.map_append]; split <;> rfl
theorem LI_wf (f : Nat → Bool) (k : Nat) (hk : k ≤ 7) : ∀ x ∈ LI f k, (Lit.int .i64 x).wf = true := by
  intro x hx
  obtain ⟨j, hj, rfl⟩ := List.mem_map.1 hx
  have := (lsN_lt f k j hj).1
  show (Lit.int .i64 (j : Int)).wf = true
  simp [Lit.wf, IntKind.min, IntKind.max, IntKind.bits, IntKind.signed]; omega
/-- the members -/
def mlI (c : Int) : List Int := LI (fun k => mem c (k : Int)) 7

set_option maxRecDepth 100000 in
set_option maxHeartbeats 4000000 in
theorem ulist (c : Int) (w : World) : Calls Try.prog 24 #[.int .i64 c] w fun e w' => ∃ v, e = .returned v ∧ OwI w' w.heap.size v (mlI c) ∧ Below w.heap.size w w' := by
  obtain ⟨f, hf⟩ : ∃ f : Nat → Bool, (fun k : Nat => mem c (k : Int)) = f := ⟨_, rfl⟩
  have HF := Lib.hid (fun k : Nat => (congrFun hf k : mem c (k : Int) = f k))
  have hm : mlI c = LI f 7 := by unfold mlI; rw [hf]
  rw [hm]
  clear hm hf
  go_enter Try.func24, Try.ntmps24
  go_wp2
  go_loopw [3, 4] (fun l i wr => ∃ (lv : Value) (k : Nat), lv = l ∧ k ≤ 7 ∧ i = .int .i64 k ∧ Hid (OwI wr w.heap.size lv (LI f k)) ∧ Hid (Below w.heap.size w wr)) (fun _ i _ => 7 - (intOf i).toNat)
  case atStart => exact ⟨_, 0, rfl, Nat.zero_le _, rfl, Lib.hid (show OwI w w.heap.size (.slice none 0 0) [] from OwI.nil _ _), Lib.hid (Below.refl _ _)⟩
  case round =>
    obtain ⟨lv, k, rfl, hk, rfl, HO, HB⟩ := hrel
    have hc := B.cnt_le f k
    by_cases hlt : k < 7
    · obtain ⟨b, hb⟩ : ∃ b, f k = b := ⟨_, rfl⟩
      have hs := LI_succ f k
      rw [hb] at hs
      have HS := Lib.hid hs
      have HK := Lib.hid ((HF.out k).trans hb)
      have HL := Lib.hid (LI_len f k)
      clear hs hb
      cases b
      · go_wp2_with (go_at_call 28; refine (uhas c k _).mono ?_; rw [HK.out]; rintro e w' ⟨rfl, rfl⟩)
        go_roundw
        case rel => exact ⟨_, k + 1, rfl, by omega, by go_num, by rw [HS.out]; simpa using HO, HB⟩
        case measure => simp [intOf]; omega
      · go_wp2_with (first
          | (go_at_call 28; refine (uhas c k _).mono ?_; rw [HK.out]; rintro e w' ⟨rfl, rfl⟩)
          | (at_builtin; ((refine append_int rfl _ _ rfl w.heap.size lv (LI f k) ?_ (HO.out.kept ((Below.refl _ wr).alloc (Nat.le_refl _) _)) wr.heap.size 1 ?_ (k : Int) ?_ ?_ ?_ ?_); (focus (first | rfl | go_simp)); (focus (first | rfl | go_simp)); (focus (exact cell_of_row _ wr.heap.size 0 _ 3 _ (heap_alloc_new wr _))); (focus (rw [HL.out]; omega)); (focus (have := HB.out.size; simp; omega)); intro v' w5 ho5 hb5; have O5 := Lib.hid ho5; have B5 := Lib.hid ((HB.out.alloc HB.out.size _).trans hb5); clear ho5 hb5)))
        go_roundw
        case rel => exact ⟨_, k + 1, rfl, by omega, by go_num, by rw [HS.out]; exact O5, B5⟩
        case measure => simp [intOf]; omega
    · obtain rfl : k = 7 := by omega
      go_wp2
      go_ret
      exact ⟨_, rfl, HO.out, HB.out⟩
end Go.Proofs.Ytebpfjidfohjoaa.W
