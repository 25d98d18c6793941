/- CONTRACTS of layer 9 (disk): the reference's New. -/
import Derived.Test.YtlohfalpcppcjaaTwo
import Derived.Test.YtlohfalpcppcjaaDkR
set_option linter.unusedSimpArgs false
set_option linter.unusedVariables false
namespace Go.Proofs.Ytlohfalpcppcjaa.W
open Go Go.ChangeShapes Go.WideShapes Go.ChangeAt Go.RowKit

/-- New of slots and room that may not be -/
theorem xnew_bad (z room : Int) (w : World) (hz : -9223372036854775808 ≤ z ∧ z ≤ 9223372036854775807) (hroom : -9223372036854775808 ≤ room ∧ room ≤ 9223372036854775807) (h : z < 1 ∨ 16 < z ∨ room < 0 ∨ 524288 < room) :
    Calls Try.prog 9 #[.int .i64 z, .int .i64 room] w fun e w' => e = .returned (.tuple #[.pointer none, .int .i64 1]) ∧ w' = w := by
  go_enter Try.func9, Try.ntmps9
  go_wp2_with fail
  all_goals (go_ret2; exact ⟨rfl, rfl⟩)

/-- what a New disk is -/
def DNew (w w' : World) (n room : Nat) (p gb gs : Nat) : Prop :=
  DX w' p gb gs (List.replicate n (none, 0, 0)) (fun k => w.heap.size ≤ k ∧ k < w'.heap.size) (List.replicate n []) (List.replicate n 0) (room : Int) ∧ Below w.heap.size w w'
theorem getD_rep {α : Type} (n i : Nat) (d : α) : (List.replicate n d).getD i d = d := by
  simp only [List.getD_eq_getElem?_getD, List.getElem?_replicate]
  split <;> rfl
theorem DNew.mk {w w2 w3 : World} {n room gb gs : Nat} (hn : n ≤ 16) (hroom : room ≤ 524288)
    (rb : Row w2 gb 30 (List.replicate n (.slice none 0 0))) (rs : Row w2 gs 3 (List.replicate n (.int .i64 0))) (hg : w.heap.size ≤ gb) (hg2 : w.heap.size ≤ gs) (hne : gb ≠ gs) (hb : Below w.heap.size w w2)
    (rp : Row w3 w2.heap.size 59 [.slice (some ⟨gb, 0, none⟩) n n, .slice (some ⟨gs, 0, none⟩) n n, .int .i64 (room : Int)]) (hb3 : Below w2.heap.size w2 w3) (hz3 : w3.heap.size = w2.heap.size + 1) : DNew w w3 n room w2.heap.size gb gs := by
  have hs2 := hb.size
  have lb := rb.lt
  have ls := rs.lt
  refine ⟨{ rp := (by simpa using rp), rb := (by simpa [Sv.val] using rb.below hb3 lb), rs := (by simpa using rs.below hb3 ls), lv := (by simp), ls := (by simp), rd := fun i hi => ?_, pb := (by omega), ps := (by omega), bs := hne, p0 := trivial, sp := ⟨hs2, by omega⟩, sb := ⟨hg, by omega⟩, ss := ⟨hg2, by omega⟩, sv := fun i hi b off e => ?_, lt := fun k hk => hk.2, n16 := by simpa using hn, len := fun i => ?_, most0 := by omega }, hb.trans (hb3.mono hs2)⟩
  · rw [getD_rep]
    have hd : (List.replicate n ((none, 0, 0) : Sv)).getD i default = (none, 0, 0) := getD_rep n i _
    rw [hd]
    exact Rd_nil _
  · have hd : (List.replicate n ((none, 0, 0) : Sv)).getD i default = (none, 0, 0) := getD_rep n i _
    rw [hd] at e
    cases e
  · rw [getD_rep]; simp

set_option maxRecDepth 100000 in
set_option maxHeartbeats 4000000 in
theorem xnew_ok (n room : Nat) (w : World) (hn : 1 ≤ n ∧ n ≤ 16) (hroom : room ≤ 524288) :
    Calls Try.prog 9 #[.int .i64 (n : Int), .int .i64 (room : Int)] w fun e w' => ∃ p gb gs, e = .returned (.tuple #[.pointer (some ⟨p, 0, none⟩), .int .i64 0]) ∧ DNew w w' n room p gb gs := by
  obtain ⟨hn1, hn2⟩ := hn
  go_enter Try.func9, Try.ntmps9
  go_wp2_with fail
  refine region_h (fun _ => True) (by kernel_rfl) (by kernel_rfl) trivial ?_
  have D0 : Hid (Below w.heap.size w w.drew) := Lib.hid (Below.refl _ _).drew
  have Z0 : Hid (w.drew.heap.size = w.heap.size) := Lib.hid rfl
  obtain ⟨wd, hwd⟩ : ∃ wd, w.drew = wd := ⟨_, rfl⟩
  rw [hwd] at D0 Z0 ⊢
  clear hwd
  (refine h_read 0 rfl (by kernel_rfl) (by kernel_rfl) (h_free rfl) ?_ ?_ ?_; rotate_left; (focus (intro v hv; go_simp; rfl)); go_simp)
  (refine h_read 2 rfl (by kernel_rfl) (by kernel_rfl) (h_free rfl) ?_ ?_ ?_; rotate_left; (focus (intro v hv; go_simp; rfl)); go_simp)
  (refine h_read 4 rfl (by kernel_rfl) (by kernel_rfl) (h_free rfl) ?_ ?_ ?_; rotate_left; (focus (intro v hv; go_simp; rfl)); go_simp)
  refine h_two 1 3 rfl rfl (by kernel_rfl) ?_ ?_
  · intro K hK
    refine make_one rfl _ _ _ rfl 30 (.slice none 0 0) 24 (by kernel_rfl) (by kernel_rfl) rfl (n : Int) n (by go_simp) (by go_simp) rfl (by omega) (by omega) ?_
    intro w1 r1 b1 z1
    have R1 := Lib.hid r1; have B1 := Lib.hid b1; have Z1 := Lib.hid z1
    clear r1 b1 z1
    go_wp2_with fail
    refine hK _ _ trivial ?_
    clear hK K
    (refine h_list 3 rfl (by kernel_rfl) ?_; intro K hK)
    refine make_one rfl _ _ _ rfl 3 (.int .i64 0) 8 (by kernel_rfl) (by kernel_rfl) rfl (n : Int) n (by go_simp) (by go_simp) rfl (by omega) (by omega) ?_
    intro w2 r2 b2 z2
    have R2 := Lib.hid r2; have B2 := Lib.hid b2; have Z2 := Lib.hid z2
    clear r2 b2 z2
    go_wp2_with fail
    refine hK _ _ trivial ?_
    clear hK K
    (refine h_read 5 rfl (by kernel_rfl) (by kernel_rfl) (h_free rfl) ?_ ?_ ?_; rotate_left; (focus (intro v hv; go_simp; rfl)); go_simp)
    (refine h_list 6 rfl (by kernel_rfl) ?_; intro K hK)
    refine box_row (o := ⟨some 26, _, _, _, _, _⟩) rfl _ _ rfl [.slice (some ⟨wd.heap.size, 0, none⟩) n n, .slice (some ⟨w1.heap.size, 0, none⟩) n n, .int .i64 (room : Int)] (by go_simp) ?_
    intro w3 r3 b3 z3
    have R3 := Lib.hid r3; have B3 := Lib.hid b3; have Z3 := Lib.hid z3
    clear r3 b3 z3
    go_wp2_with fail
    refine hK _ _ trivial ?_
    clear hK K
    (refine h_read 7 rfl (by kernel_rfl) (by kernel_rfl) (h_free rfl) ?_ ?_ ?_; rotate_left; (focus (intro v hv; go_simp; rfl)); go_simp)
    (refine h_read 8 rfl (by kernel_rfl) (by kernel_rfl) (h_free rfl) ?_ ?_ ?_; rotate_left; (focus (intro v hv; go_simp; rfl)); go_simp)
    refine h_done (by kernel_rfl) ?_
    go_wp2_with fail
    go_ret2
    refine ⟨w2.heap.size, wd.heap.size, w1.heap.size, rfl, DNew.mk hn2 hroom (R1.out.below B2.out R1.out.lt) (R2.out) (by have := Z0.out; omega) (by have := Z0.out; have := Z1.out; omega) (by have := Z1.out; omega) ?_ R3.out B3.out Z3.out⟩
    exact D0.out.trans ((B1.out.mono (Nat.le_of_eq Z0.out.symm)).trans (B2.out.mono (by have := Z0.out; have := Z1.out; omega)))
  · intro K hK
    refine make_one rfl _ _ _ rfl 3 (.int .i64 0) 8 (by kernel_rfl) (by kernel_rfl) rfl (n : Int) n (by go_simp) (by go_simp) rfl (by omega) (by omega) ?_
    intro w1 r1 b1 z1
    have R1 := Lib.hid r1; have B1 := Lib.hid b1; have Z1 := Lib.hid z1
    clear r1 b1 z1
    go_wp2_with fail
    refine hK _ _ trivial ?_
    clear hK K
    (refine h_list 1 rfl (by kernel_rfl) ?_; intro K hK)
    refine make_one rfl _ _ _ rfl 30 (.slice none 0 0) 24 (by kernel_rfl) (by kernel_rfl) rfl (n : Int) n (by go_simp) (by go_simp) rfl (by omega) (by omega) ?_
    intro w2 r2 b2 z2
    have R2 := Lib.hid r2; have B2 := Lib.hid b2; have Z2 := Lib.hid z2
    clear r2 b2 z2
    go_wp2_with fail
    refine hK _ _ trivial ?_
    clear hK K
    (refine h_read 5 rfl (by kernel_rfl) (by kernel_rfl) (h_free rfl) ?_ ?_ ?_; rotate_left; (focus (intro v hv; go_simp; rfl)); go_simp)
    (refine h_list 6 rfl (by kernel_rfl) ?_; intro K hK)
    refine box_row (o := ⟨some 26, _, _, _, _, _⟩) rfl _ _ rfl [.slice (some ⟨w1.heap.size, 0, none⟩) n n, .slice (some ⟨wd.heap.size, 0, none⟩) n n, .int .i64 (room : Int)] (by go_simp) ?_
    intro w3 r3 b3 z3
    have R3 := Lib.hid r3; have B3 := Lib.hid b3; have Z3 := Lib.hid z3
    clear r3 b3 z3
    go_wp2_with fail
    refine hK _ _ trivial ?_
    clear hK K
    (refine h_read 7 rfl (by kernel_rfl) (by kernel_rfl) (h_free rfl) ?_ ?_ ?_; rotate_left; (focus (intro v hv; go_simp; rfl)); go_simp)
    (refine h_read 8 rfl (by kernel_rfl) (by kernel_rfl) (h_free rfl) ?_ ?_ ?_; rotate_left; (focus (intro v hv; go_simp; rfl)); go_simp)
    refine h_done (by kernel_rfl) ?_
    go_wp2_with fail
    go_ret2
    refine ⟨w2.heap.size, w1.heap.size, wd.heap.size, rfl, DNew.mk hn2 hroom (R2.out) (R1.out.below B2.out R1.out.lt) (by have := Z0.out; have := Z1.out; omega) (by have := Z0.out; omega) (by have := Z1.out; omega) ?_ R3.out B3.out Z3.out⟩
    exact D0.out.trans ((B1.out.mono (Nat.le_of_eq Z0.out.symm)).trans (B2.out.mono (by have := Z0.out; have := Z1.out; omega)))
end Go.Proofs.Ytlohfalpcppcjaa.W
