/- CONTRACTS of layer 6 (caveat): the same lists, one that begins with another. THE LAWS of layer 6 (caveat): CaveatSame. -/
import Derived.Test.YtmacjpgeamlmhaaCavA
import Derived.DeepKeys
set_option linter.unusedSimpArgs false
set_option linter.unusedVariables false
namespace Go.Proofs.Ytmacjpgeamlmhaa.W
open Go.ChangeShapes Go.WideShapes Go.ChangeAt Go.RowKit

def cvEq (c d : Cv) : Bool := decide (c.kind = d.kind) && (decide (c.num = d.num) && decide (c.name.data.toList = d.name.data.toList))
theorem cvEq_refl (c : Cv) : cvEq c c = true := by simp [cvEq]
theorem i64_wf {x : Int} (h : -9223372036854775808 ≤ x ∧ x ≤ 9223372036854775807) : (Lit.int .i64 x).wf = true := by
  simp [Lit.wf, IntKind.min, IntKind.max, IntKind.bits, IntKind.signed]; omega
set_option maxRecDepth 100000 in
theorem eqCv (c d : Cv) (hc : c.fit) (hd : d.fit) (w : World) :
    (Op.equalIn 10000 51 (.agg #[.int .i64 c.kind, .int .i64 c.num, .string c.name]) (.agg #[.int .i64 d.kind, .int .i64 d.num, .string d.name])).run Try.prog w = .ok (cvEq c d) w := by
  have hk : ∀ c : Cv, c.fit → Try.prog.keyLits 3 51 (Value.agg #[.int .i64 c.kind, .int .i64 c.num, .string c.name]).cells.toList = some [Lit.int .i64 c.kind, Lit.int .i64 c.num, Lit.string c.name.data.toList] := by
    intro c hf
    have e1 := i64_wf hf.1
    have e2 := i64_wf hf.2.1
    have c3 : Try.prog.cellsOf 51 = 3 := by kernel_rfl
    have c1 : Try.prog.cellsOf 3 = 1 := by kernel_rfl
    have c2 : Try.prog.cellsOf 9 = 1 := by kernel_rfl
    have hs := hf.2.2
    simp [Program.keyLits, Value.cells, Try.underlying51, Try.underlying3, Try.underlying9, c3, c1, c2, e1, e2]
    rw [if_pos hs]
    rfl
  obtain ⟨r, hr, hiff⟩ := run_equalIn_deep (P := Try.prog) 9998 2 51 (by kernel_rfl) w 3 3 (.agg _) (.agg _) _ _ rfl rfl (hk c hc) (hk d hd)
  rw [hr]
  congr 1
  rw [Bool.eq_iff_iff, hiff]
  simp [cvEq]

def pairV (L M : List Cv) (i : Nat) : Bool := cvEq (L.getD i default) (M.getD i default)
def sameV (L M : List Cv) : Bool := decide (L.length = M.length) && (List.range L.length).all (pairV L M)
theorem range_step {p : Nat → Bool} (k : Nat) : (List.range (k + 1)).all p = ((List.range k).all p && p k) := by
  rw [List.range_succ, List.all_append]; simp
theorem range_bad {p : Nat → Bool} {n k : Nat} (hk : k < n) (h : p k = false) : (List.range n).all p = false := by
  rw [List.all_eq_false]
  exact ⟨k, List.mem_range.2 hk, by rw [h]; decide⟩
theorem same_refl (L : List Cv) : sameV L L = true := by
  unfold sameV
  rw [decide_eq_true rfl, Bool.true_and, List.all_eq_true]
  intro i _
  exact cvEq_refl _

set_option maxRecDepth 100000 in
set_option maxHeartbeats 4000000 in
theorem seq_cv (a a' : Option Addr) (n n' cap cap' : Nat) (L M : List Cv) (w : World) (h : Cvs w a n cap L) (h' : Cvs w a' n' cap' M) :
    Calls Try.prog 84 #[.slice a n cap, .slice a' n' cap'] w fun e w' => e = .returned (.bool (sameV L M)) ∧ Below w.heap.size w w' := by
  obtain ⟨r, hr⟩ : ∃ r, sameV L M = r := ⟨_, rfl⟩
  rw [hr]
  have HR := Lib.hid hr
  have HL := Lib.hid h.hlen
  have HM := Lib.hid h'.hlen
  have hm := h.hmax
  have hle := h.hle
  have hm' := h'.hmax
  have hle' := h'.hle
  have H := Lib.hid h
  have H' := Lib.hid h'
  clear hr
  by_cases hne : n = n'
  · subst hne
    by_cases h0 : n = 0
    · subst h0
      clear h h'
      go_enter Try.func84, Try.ntmps84
      go_wp2_with fail
      go_loop [13] (fun i => i = .int .i64 0) (fun _ => 0)
      case atStart => rfl
      case round =>
        subst hrel
        go_wp2_with fail
        go_ret
        exact ⟨by rw [← HR.out, List.eq_nil_of_length_eq_zero HL.out, List.eq_nil_of_length_eq_zero HM.out]; rfl, Below.refl _ _⟩
    · obtain ⟨b, off, rfl, hblt, hcell⟩ := h.at h0
      obtain ⟨b', off', rfl, hblt', hcell'⟩ := h'.at h0
      have HC := Lib.hid hcell
      have HC' := Lib.hid hcell'
      clear h h' hcell hcell'
      go_enter Try.func84, Try.ntmps84
      go_wp2_with fail
      go_loopw [13] (fun i wr => ∃ (k : Nat), k ≤ n ∧ i = .int .i64 k ∧ Hid ((List.range k).all (pairV L M) = true) ∧ Below w.heap.size w wr) (fun i _ => n - (intOf i).toNat)
      case atStart => exact ⟨0, Nat.zero_le _, rfl, Lib.hid rfl, Below.refl _ _⟩
      case round =>
        obtain ⟨k, hk, rfl, HA, hbr⟩ := hrel
        have HBR := Lib.hid hbr
        by_cases hlt : k < n
        · obtain ⟨x0, x1, x2⟩ := HC.out k hlt
          obtain ⟨z0, z1, z2⟩ := HC'.out k hlt
          have hf := H.out.fitAt hlt
          have hf' := H'.out.fitAt hlt
          have hst := range_step (p := pairV L M) k
          have hpv : pairV L M k = cvEq (L.getD k default) (M.getD k default) := rfl
          rcases hce : L.getD k default with ⟨kind, num, name⟩
          rcases hce' : M.getD k default with ⟨kind', num', name'⟩
          rw [hce] at x0 x1 x2 hf
          rw [hce'] at z0 z1 z2 hf'
          rw [hce, hce'] at hpv
          simp only at x0 x1 x2 z0 z1 z2
          rw [← hbr.cell (p := ⟨b, off + k * 3, none⟩) hblt] at x0
          rw [← hbr.cell (p := ⟨b, off + k * 3 + 1, none⟩) hblt] at x1
          rw [← hbr.cell (p := ⟨b, off + k * 3 + 2, none⟩) hblt] at x2
          rw [← hbr.cell (p := ⟨b', off' + k * 3, none⟩) hblt'] at z0
          rw [← hbr.cell (p := ⟨b', off' + k * 3 + 1, none⟩) hblt'] at z1
          rw [← hbr.cell (p := ⟨b', off' + k * 3 + 2, none⟩) hblt'] at z2
          have HBL := Lib.hid (Nat.lt_of_lt_of_le hblt hbr.size)
          have HBL' := Lib.hid (Nat.lt_of_lt_of_le hblt' hbr.size)
          have X0 := Lib.hid x0
          have X1 := Lib.hid x1
          have X2 := Lib.hid x2
          have Z0 := Lib.hid z0
          have Z1 := Lib.hid z1
          have Z2 := Lib.hid z2
          have qe := eqCv ⟨kind, num, name⟩ ⟨kind', num', name'⟩ hf hf'
          simp only at qe
          clear hbr x0 x1 x2 z0 z1 z2 hce hce' hf hf'
          rcases hb : cvEq ⟨kind, num, name⟩ ⟨kind', num', name'⟩ with _ | _
          · rw [hb] at qe hpv
            have QE := Lib.hid qe
            have HF := Lib.hid (show r = false from by rw [← HR.out]; unfold sameV; rw [range_bad (by rw [HL.out]; exact hlt) hpv, Bool.and_false])
            clear qe hpv hst hb
            go_wp2_with fail
            refine region_w (C := fun v => Below wr.heap.size wr v) (by kernel_rfl) (by kernel_rfl) (Below.refl _ _).drew ?_
            repeat (first
              | (refine w_read (wanted_free rfl) ?_ ?_ ?_; rotate_left; (focus (intro v hv; have y0 := (hv.cell (p := ⟨b, off + k * 3, none⟩) HBL.out).trans X0.out; have y1 := (hv.cell (p := ⟨b, off + k * 3 + 1, none⟩) HBL.out).trans X1.out; have y2 := (hv.cell (p := ⟨b, off + k * 3 + 2, none⟩) HBL.out).trans X2.out; have z0 := (hv.cell (p := ⟨b', off' + k * 3, none⟩) HBL'.out).trans Z0.out; have z1 := (hv.cell (p := ⟨b', off' + k * 3 + 1, none⟩) HBL'.out).trans Z1.out; have z2 := (hv.cell (p := ⟨b', off' + k * 3 + 2, none⟩) HBL'.out).trans Z2.out; have qe := QE.out; go_simp; rfl)); go_simp)
              | (refine w_skip ?_ ?_; (focus (go_simp; first | done | (intro h; cases h) | simp)); go_simp)
              | (refine w_read ?_ ?_ ?_ ?_; (focus (go_simp; done)); rotate_left; (focus (intro v hv; have y0 := (hv.cell (p := ⟨b, off + k * 3, none⟩) HBL.out).trans X0.out; have y1 := (hv.cell (p := ⟨b, off + k * 3 + 1, none⟩) HBL.out).trans X1.out; have y2 := (hv.cell (p := ⟨b, off + k * 3 + 2, none⟩) HBL.out).trans X2.out; have z0 := (hv.cell (p := ⟨b', off' + k * 3, none⟩) HBL'.out).trans Z0.out; have z1 := (hv.cell (p := ⟨b', off' + k * 3 + 1, none⟩) HBL'.out).trans Z1.out; have z2 := (hv.cell (p := ⟨b', off' + k * 3 + 2, none⟩) HBL'.out).trans Z2.out; have qe := QE.out; go_simp; rfl)); go_simp))
            refine w_nil ?_
            intro w3 hb3
            have HB3 := Lib.hid (HBR.out.trans (hb3.mono HBR.out.size))
            clear hb3
            go_wp2_with fail
            go_ret
            exact ⟨by rw [HF.out]; rfl, HB3.out⟩
          · rw [hb] at qe hpv
            have QE := Lib.hid qe
            rw [HA.out, hpv] at hst
            have HA' := Lib.hid hst
            clear qe hpv hst hb HA
            go_wp2_with fail
            refine region_w (C := fun v => Below wr.heap.size wr v) (by kernel_rfl) (by kernel_rfl) (Below.refl _ _).drew ?_
            repeat (first
              | (refine w_read (wanted_free rfl) ?_ ?_ ?_; rotate_left; (focus (intro v hv; have y0 := (hv.cell (p := ⟨b, off + k * 3, none⟩) HBL.out).trans X0.out; have y1 := (hv.cell (p := ⟨b, off + k * 3 + 1, none⟩) HBL.out).trans X1.out; have y2 := (hv.cell (p := ⟨b, off + k * 3 + 2, none⟩) HBL.out).trans X2.out; have z0 := (hv.cell (p := ⟨b', off' + k * 3, none⟩) HBL'.out).trans Z0.out; have z1 := (hv.cell (p := ⟨b', off' + k * 3 + 1, none⟩) HBL'.out).trans Z1.out; have z2 := (hv.cell (p := ⟨b', off' + k * 3 + 2, none⟩) HBL'.out).trans Z2.out; have qe := QE.out; go_simp; rfl)); go_simp)
              | (refine w_skip ?_ ?_; (focus (go_simp; first | done | (intro h; cases h) | simp)); go_simp)
              | (refine w_read ?_ ?_ ?_ ?_; (focus (go_simp; done)); rotate_left; (focus (intro v hv; have y0 := (hv.cell (p := ⟨b, off + k * 3, none⟩) HBL.out).trans X0.out; have y1 := (hv.cell (p := ⟨b, off + k * 3 + 1, none⟩) HBL.out).trans X1.out; have y2 := (hv.cell (p := ⟨b, off + k * 3 + 2, none⟩) HBL.out).trans X2.out; have z0 := (hv.cell (p := ⟨b', off' + k * 3, none⟩) HBL'.out).trans Z0.out; have z1 := (hv.cell (p := ⟨b', off' + k * 3 + 1, none⟩) HBL'.out).trans Z1.out; have z2 := (hv.cell (p := ⟨b', off' + k * 3 + 2, none⟩) HBL'.out).trans Z2.out; have qe := QE.out; go_simp; rfl)); go_simp))
            refine w_nil ?_
            intro w3 hb3
            have HB3 := Lib.hid (HBR.out.trans (hb3.mono HBR.out.size))
            clear hb3
            go_wp2_with fail
            go_roundw
            case rel => exact ⟨k + 1, by omega, by go_num, HA', HB3.out⟩
            case measure => simp [intOf]; omega
        · have HF := Lib.hid (show r = true from by
            rw [← HR.out]; unfold sameV
            rw [decide_eq_true (by rw [HL.out, HM.out]), Bool.true_and, HL.out]
            have := HA.out; rwa [show k = n by omega] at this)
          clear hbr
          go_wp2_with fail
          go_ret
          exact ⟨by rw [HF.out]; rfl, HBR.out⟩
  · have HF := Lib.hid (show r = false from by rw [← HR.out]; unfold sameV; rw [decide_eq_false (by rw [HL.out, HM.out]; exact hne), Bool.false_and])
    have n1 : ((n : Int) == (n' : Int)) = false := by simp; omega
    have n2 : ((n : Int) != (n' : Int)) = true := by simp; omega
    clear h h'
    go_enter Try.func84, Try.ntmps84
    go_wp2_with fail
    go_ret
    exact ⟨by rw [HF.out]; rfl, Below.refl _ _⟩

set_option maxRecDepth 100000 in
set_option maxHeartbeats 4000000 in
theorem usame_any (a a' : Option Addr) (n n' cap cap' : Nat) (L M : List Cv) (w : World) (h : Cvs w a n cap L) (h' : Cvs w a' n' cap' M) :
    Calls Try.prog 28 #[.slice a n cap, .slice a' n' cap'] w fun e w' => e = .returned (.bool (sameV L M)) ∧ Below w.heap.size w w' := by
  obtain ⟨r, hr⟩ : ∃ r, sameV L M = r := ⟨_, rfl⟩
  rw [hr]
  have HR := Lib.hid hr
  have HL := Lib.hid h.hlen
  have HM := Lib.hid h'.hlen
  have hm := h.hmax
  have hle := h.hle
  have hm' := h'.hmax
  have hle' := h'.hle
  have H := Lib.hid h
  have H' := Lib.hid h'
  clear hr
  by_cases hne : n = n'
  · subst hne
    by_cases h0 : n = 0
    · subst h0
      clear h h'
      go_enter Try.func28, Try.ntmps28
      go_wp2_with fail
      go_loop [5] (fun i => i = .int .i64 0) (fun _ => 0)
      case atStart => rfl
      case round =>
        subst hrel
        go_wp2_with fail
        go_ret
        exact ⟨by rw [← HR.out, List.eq_nil_of_length_eq_zero HL.out, List.eq_nil_of_length_eq_zero HM.out]; rfl, Below.refl _ _⟩
    · obtain ⟨b, off, rfl, hblt, hcell⟩ := h.at h0
      obtain ⟨b', off', rfl, hblt', hcell'⟩ := h'.at h0
      have HC := Lib.hid hcell
      have HC' := Lib.hid hcell'
      clear h h' hcell hcell'
      go_enter Try.func28, Try.ntmps28
      go_wp2_with fail
      go_loopw [5] (fun i wr => ∃ (k : Nat), k ≤ n ∧ i = .int .i64 k ∧ Hid ((List.range k).all (pairV L M) = true) ∧ Below w.heap.size w wr) (fun i _ => n - (intOf i).toNat)
      case atStart => exact ⟨0, Nat.zero_le _, rfl, Lib.hid rfl, Below.refl _ _⟩
      case round =>
        obtain ⟨k, hk, rfl, HA, hbr⟩ := hrel
        have HBR := Lib.hid hbr
        by_cases hlt : k < n
        · obtain ⟨x0, x1, x2⟩ := HC.out k hlt
          obtain ⟨z0, z1, z2⟩ := HC'.out k hlt
          have hf := H.out.fitAt hlt
          have hf' := H'.out.fitAt hlt
          have hst := range_step (p := pairV L M) k
          have hpv : pairV L M k = cvEq (L.getD k default) (M.getD k default) := rfl
          rcases hce : L.getD k default with ⟨kind, num, name⟩
          rcases hce' : M.getD k default with ⟨kind', num', name'⟩
          rw [hce] at x0 x1 x2 hf
          rw [hce'] at z0 z1 z2 hf'
          rw [hce, hce'] at hpv
          simp only at x0 x1 x2 z0 z1 z2
          rw [← hbr.cell (p := ⟨b, off + k * 3, none⟩) hblt] at x0
          rw [← hbr.cell (p := ⟨b, off + k * 3 + 1, none⟩) hblt] at x1
          rw [← hbr.cell (p := ⟨b, off + k * 3 + 2, none⟩) hblt] at x2
          rw [← hbr.cell (p := ⟨b', off' + k * 3, none⟩) hblt'] at z0
          rw [← hbr.cell (p := ⟨b', off' + k * 3 + 1, none⟩) hblt'] at z1
          rw [← hbr.cell (p := ⟨b', off' + k * 3 + 2, none⟩) hblt'] at z2
          have HBL := Lib.hid (Nat.lt_of_lt_of_le hblt hbr.size)
          have HBL' := Lib.hid (Nat.lt_of_lt_of_le hblt' hbr.size)
          have X0 := Lib.hid x0
          have X1 := Lib.hid x1
          have X2 := Lib.hid x2
          have Z0 := Lib.hid z0
          have Z1 := Lib.hid z1
          have Z2 := Lib.hid z2
          have qe := eqCv ⟨kind, num, name⟩ ⟨kind', num', name'⟩ hf hf'
          simp only at qe
          clear hbr x0 x1 x2 z0 z1 z2 hce hce' hf hf'
          rcases hb : cvEq ⟨kind, num, name⟩ ⟨kind', num', name'⟩ with _ | _
          · rw [hb] at qe hpv
            have QE := Lib.hid qe
            have HF := Lib.hid (show r = false from by rw [← HR.out]; unfold sameV; rw [range_bad (by rw [HL.out]; exact hlt) hpv, Bool.and_false])
            clear qe hpv hst hb
            go_wp2_with fail
            refine region_w (C := fun v => Below wr.heap.size wr v) (by kernel_rfl) (by kernel_rfl) (Below.refl _ _).drew ?_
            repeat (first
              | (refine w_read (wanted_free rfl) ?_ ?_ ?_; rotate_left; (focus (intro v hv; have y0 := (hv.cell (p := ⟨b, off + k * 3, none⟩) HBL.out).trans X0.out; have y1 := (hv.cell (p := ⟨b, off + k * 3 + 1, none⟩) HBL.out).trans X1.out; have y2 := (hv.cell (p := ⟨b, off + k * 3 + 2, none⟩) HBL.out).trans X2.out; have z0 := (hv.cell (p := ⟨b', off' + k * 3, none⟩) HBL'.out).trans Z0.out; have z1 := (hv.cell (p := ⟨b', off' + k * 3 + 1, none⟩) HBL'.out).trans Z1.out; have z2 := (hv.cell (p := ⟨b', off' + k * 3 + 2, none⟩) HBL'.out).trans Z2.out; have qe := QE.out; go_simp; rfl)); go_simp)
              | (refine w_skip ?_ ?_; (focus (go_simp; first | done | (intro h; cases h) | simp)); go_simp)
              | (refine w_read ?_ ?_ ?_ ?_; (focus (go_simp; done)); rotate_left; (focus (intro v hv; have y0 := (hv.cell (p := ⟨b, off + k * 3, none⟩) HBL.out).trans X0.out; have y1 := (hv.cell (p := ⟨b, off + k * 3 + 1, none⟩) HBL.out).trans X1.out; have y2 := (hv.cell (p := ⟨b, off + k * 3 + 2, none⟩) HBL.out).trans X2.out; have z0 := (hv.cell (p := ⟨b', off' + k * 3, none⟩) HBL'.out).trans Z0.out; have z1 := (hv.cell (p := ⟨b', off' + k * 3 + 1, none⟩) HBL'.out).trans Z1.out; have z2 := (hv.cell (p := ⟨b', off' + k * 3 + 2, none⟩) HBL'.out).trans Z2.out; have qe := QE.out; go_simp; rfl)); go_simp))
            refine w_nil ?_
            intro w3 hb3
            have HB3 := Lib.hid (HBR.out.trans (hb3.mono HBR.out.size))
            clear hb3
            go_wp2_with fail
            go_ret
            exact ⟨by rw [HF.out]; rfl, HB3.out⟩
          · rw [hb] at qe hpv
            have QE := Lib.hid qe
            rw [HA.out, hpv] at hst
            have HA' := Lib.hid hst
            clear qe hpv hst hb HA
            go_wp2_with fail
            refine region_w (C := fun v => Below wr.heap.size wr v) (by kernel_rfl) (by kernel_rfl) (Below.refl _ _).drew ?_
            repeat (first
              | (refine w_read (wanted_free rfl) ?_ ?_ ?_; rotate_left; (focus (intro v hv; have y0 := (hv.cell (p := ⟨b, off + k * 3, none⟩) HBL.out).trans X0.out; have y1 := (hv.cell (p := ⟨b, off + k * 3 + 1, none⟩) HBL.out).trans X1.out; have y2 := (hv.cell (p := ⟨b, off + k * 3 + 2, none⟩) HBL.out).trans X2.out; have z0 := (hv.cell (p := ⟨b', off' + k * 3, none⟩) HBL'.out).trans Z0.out; have z1 := (hv.cell (p := ⟨b', off' + k * 3 + 1, none⟩) HBL'.out).trans Z1.out; have z2 := (hv.cell (p := ⟨b', off' + k * 3 + 2, none⟩) HBL'.out).trans Z2.out; have qe := QE.out; go_simp; rfl)); go_simp)
              | (refine w_skip ?_ ?_; (focus (go_simp; first | done | (intro h; cases h) | simp)); go_simp)
              | (refine w_read ?_ ?_ ?_ ?_; (focus (go_simp; done)); rotate_left; (focus (intro v hv; have y0 := (hv.cell (p := ⟨b, off + k * 3, none⟩) HBL.out).trans X0.out; have y1 := (hv.cell (p := ⟨b, off + k * 3 + 1, none⟩) HBL.out).trans X1.out; have y2 := (hv.cell (p := ⟨b, off + k * 3 + 2, none⟩) HBL.out).trans X2.out; have z0 := (hv.cell (p := ⟨b', off' + k * 3, none⟩) HBL'.out).trans Z0.out; have z1 := (hv.cell (p := ⟨b', off' + k * 3 + 1, none⟩) HBL'.out).trans Z1.out; have z2 := (hv.cell (p := ⟨b', off' + k * 3 + 2, none⟩) HBL'.out).trans Z2.out; have qe := QE.out; go_simp; rfl)); go_simp))
            refine w_nil ?_
            intro w3 hb3
            have HB3 := Lib.hid (HBR.out.trans (hb3.mono HBR.out.size))
            clear hb3
            go_wp2_with fail
            go_roundw
            case rel => exact ⟨k + 1, by omega, by go_num, HA', HB3.out⟩
            case measure => simp [intOf]; omega
        · have HF := Lib.hid (show r = true from by
            rw [← HR.out]; unfold sameV
            rw [decide_eq_true (by rw [HL.out, HM.out]), Bool.true_and, HL.out]
            have := HA.out; rwa [show k = n by omega] at this)
          clear hbr
          go_wp2_with fail
          go_ret
          exact ⟨by rw [HF.out]; rfl, HBR.out⟩
  · have HF := Lib.hid (show r = false from by rw [← HR.out]; unfold sameV; rw [decide_eq_false (by rw [HL.out, HM.out]; exact hne), Bool.false_and])
    have n1 : ((n : Int) == (n' : Int)) = false := by simp; omega
    have n2 : ((n : Int) != (n' : Int)) = true := by simp; omega
    clear h h'
    go_enter Try.func28, Try.ntmps28
    go_wp2_with fail
    go_ret
    exact ⟨by rw [HF.out]; rfl, Below.refl _ _⟩

theorem csame_any (a a' : Option Addr) (n n' cap cap' : Nat) (L M : List Cv) (w : World) (h : Cvs w a n cap L) (h' : Cvs w a' n' cap' M) :
    Calls Try.prog 48 #[.slice a n cap, .slice a' n' cap'] w fun e w' => e = .returned (.bool (sameV L M)) ∧ Below w.heap.size w w' := by
  have H := Lib.hid h
  have H' := Lib.hid h'
  clear h h'
  go_enter Try.func48, Try.ntmps48
  go_wp2_with (go_at_call 84; refine (seq_cv a a' n n' cap cap' L M _ H.out H'.out).mono ?_; rintro e w1 ⟨rfl, hb1⟩)
  go_ret
  exact ⟨rfl, hb1⟩

end Go.Proofs.Ytmacjpgeamlmhaa.W

namespace Go.Proofs.Ytmacjpgeamlmhaa.W
open Go.ChangeShapes Go.WideShapes Go.ChangeAt Go.RowKit

def extV (L M : List Cv) : Bool := decide (M.length ≤ L.length) && sameV (L.take M.length) M
theorem Cvs.take {w : World} {a : Option Addr} {len cap : Nat} {L : List Cv} (h : Cvs w a len cap L) (n : Nat) (hn : n ≤ len) : Cvs w a n cap (L.take n) := by
  refine ⟨by rw [List.length_take, h.hlen]; omega, Nat.le_trans hn h.hle, h.hmax, fun c hc => h.hfit c (List.mem_of_mem_take hc), h.hnil, ?_⟩
  by_cases h0 : n = 0
  · exact .inl h0
  · obtain ⟨b, off, rfl, hlt, hc⟩ := h.hcells.resolve_left (by omega)
    refine .inr ⟨b, off, rfl, hlt, fun i hi j v hj => hc i (by omega) j v ?_⟩
    rw [← hj]; congr 2; simp [hi]




end Go.Proofs.Ytmacjpgeamlmhaa.W
