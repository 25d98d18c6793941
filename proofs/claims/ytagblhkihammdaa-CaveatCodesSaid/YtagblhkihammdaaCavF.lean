/- CONTRACTS of layer 6 (caveat): lists: few, All. -/
import Derived.Test.YtagblhkihammdaaCavA
namespace Go.Proofs.Ytagblhkihammdaa.W
open Go.ChangeShapes Go.WideShapes Go.ChangeAt Go.RowKit

def fewV (L : List Cv) : Bool := decide (L.length ≤ 30) && L.all fun c => decide (c.name.size ≤ 200)
def allV (L : List Cv) (d : Dd) : Bool := L.all fun c => holdsV c d
theorem Cvs.at {w : World} {a : Option Addr} {len cap : Nat} {L : List Cv} (h : Cvs w a len cap L) (h0 : len ≠ 0) : ∃ b off, a = some ⟨b, off, none⟩ ∧ b < w.heap.size ∧ ∀ i, i < len →
    w.cell? ⟨b, off + i * 3, none⟩ = some (.int .i64 (L.getD i default).kind) ∧ w.cell? ⟨b, off + i * 3 + 1, none⟩ = some (.int .i64 (L.getD i default).num) ∧ w.cell? ⟨b, off + i * 3 + 2, none⟩ = some (.string (L.getD i default).name) := by
  obtain ⟨b, off, rfl, hlt, hc⟩ := h.hcells.resolve_left h0
  exact ⟨b, off, rfl, hlt, fun i hi => ⟨hc i hi 0 _ rfl, hc i hi 1 _ rfl, hc i hi 2 _ rfl⟩⟩
theorem all_step {L : List Cv} {p : Cv → Bool} {k : Nat} (hk : k < L.length) : (L.take (k + 1)).all p = ((L.take k).all p && p (L.getD k default)) := by
  rw [List.take_succ_eq_append_getElem hk, List.all_append]
  simp [hk]
theorem all_bad {L : List Cv} {p : Cv → Bool} {k : Nat} (hk : k < L.length) (h : p (L.getD k default) = false) : L.all p = false := by
  rw [List.all_eq_false]
  refine ⟨L[k], List.getElem_mem _, ?_⟩
  have e : L.getD k default = L[k] := by simp [hk]
  rw [← e, h]; decide
theorem all_end {L : List Cv} {p : Cv → Bool} {n : Nat} (hn : L.length = n) (h : (L.take n).all p = true) : L.all p = true := by
  rwa [List.take_of_length_le (by omega)] at h
theorem Cvs.fitAt {w : World} {a : Option Addr} {len cap : Nat} {L : List Cv} (h : Cvs w a len cap L) {k : Nat} (hk : k < len) : (L.getD k default).fit := by
  have hk' : k < L.length := by rw [h.hlen]; exact hk
  have e : L.getD k default = L[k] := by simp [hk']
  rw [e]; exact h.hfit _ (List.getElem_mem _)

set_option maxHeartbeats 4000000 in
theorem few_any (a : Option Addr) (len cap : Nat) (L : List Cv) (w : World) (h : Cvs w a len cap L) :
    Calls Try.prog 5 #[.slice a len cap] w fun e w' => e = .returned (.bool (fewV L)) ∧ Below w.heap.size w w' := by
  obtain ⟨r, hr⟩ : ∃ r, fewV L = r := ⟨_, rfl⟩
  rw [hr]
  have HR := Lib.hid hr
  have HL := Lib.hid h.hlen
  have hm := h.hmax
  have hle := h.hle
  have H := Lib.hid h
  clear hr
  by_cases h0 : len = 0
  · subst h0
    clear h
    go_enter Try.func5, Try.ntmps5
    go_wp2_with fail
    go_loop [7] (fun i => i = .int .i64 0) (fun _ => 0)
    case atStart => rfl
    case round =>
      subst hrel
      go_wp2_with fail
      go_ret
      exact ⟨by rw [← HR.out, List.eq_nil_of_length_eq_zero HL.out]; rfl, Below.refl _ _⟩
  · obtain ⟨b, off, rfl, hblt, hcell⟩ := h.at h0
    have HC := Lib.hid hcell
    clear h hcell
    go_enter Try.func5, Try.ntmps5
    go_wp2_with fail
    go_loopw [7] (fun i wr => ∃ (k : Nat), k ≤ len ∧ i = .int .i64 k ∧ k ≤ 30 ∧ Hid ((L.take k).all (fun c => decide (c.name.size ≤ 200)) = true) ∧ Below w.heap.size w wr) (fun i _ => len - (intOf i).toNat)
    case atStart => exact ⟨0, Nat.zero_le _, rfl, by omega, Lib.hid rfl, Below.refl _ _⟩
    case round =>
      obtain ⟨k, hk, rfl, hk30, HA, hbr⟩ := hrel
      have HBR := Lib.hid hbr
      by_cases hlt : k < len
      · obtain ⟨x0, x1, x2⟩ := HC.out k hlt
        have hn := ((H.out.fitAt hlt).2.2)
        have hst := all_step (p := fun c => decide (c.name.size ≤ 200)) (show k < L.length by rw [HL.out]; exact hlt)
        rcases hce : L.getD k default with ⟨kind, num, name⟩
        rw [hce] at x0 x1 x2 hn hst
        simp only at x0 x1 x2 hn hst
        rw [← hbr.cell (p := ⟨b, off + k * 3, none⟩) hblt] at x0
        rw [← hbr.cell (p := ⟨b, off + k * 3 + 1, none⟩) hblt] at x1
        rw [← hbr.cell (p := ⟨b, off + k * 3 + 2, none⟩) hblt] at x2
        unfold maxLen at hn
        clear hbr
        by_cases hk3 : 30 ≤ k
        · have HF := Lib.hid (show r = false from by rw [← HR.out]; unfold fewV; rw [decide_eq_false (by rw [HL.out]; omega), Bool.false_and])
          clear hce hst
          go_wp2_with fail
          go_ret
          exact ⟨by rw [HF.out]; rfl, HBR.out.alloc HBR.out.size _⟩
        · by_cases hn2 : 200 < name.size
          · have hbad : L.all (fun c => decide (c.name.size ≤ 200)) = false := all_bad (show k < L.length by rw [HL.out]; exact hlt) (by rw [hce]; simp; omega)
            have HF := Lib.hid (show r = false from by rw [← HR.out]; unfold fewV; rw [hbad, Bool.and_false])
            clear hbad hce hst
            go_wp2_with fail
            go_ret
            exact ⟨by rw [HF.out]; rfl, HBR.out.alloc HBR.out.size _⟩
          · rw [HA.out, decide_eq_true (by omega)] at hst
            have HA' := Lib.hid hst
            clear hst hce HA
            go_wp2_with fail
            go_roundw
            case rel => exact ⟨k + 1, by omega, by go_num, by omega, HA', HBR.out.alloc HBR.out.size _⟩
            case measure => simp [intOf]; omega
      · have HF := Lib.hid (show r = true from by
          rw [← HR.out]; unfold fewV
          rw [decide_eq_true (by rw [HL.out]; omega), all_end HL.out (by have := HA.out; rwa [show k = len by omega] at this)]; rfl)
        clear hbr
        go_wp2_with fail
        go_ret
        exact ⟨by rw [HF.out]; rfl, HBR.out⟩


end Go.Proofs.Ytagblhkihammdaa.W
