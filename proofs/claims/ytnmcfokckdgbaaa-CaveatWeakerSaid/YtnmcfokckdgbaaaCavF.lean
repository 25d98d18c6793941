/- CONTRACTS of layer 6 (caveat): lists: few, All. -/
import Derived.Test.YtnmcfokckdgbaaaCavA
namespace Go.Proofs.Ytnmcfokckdgbaaa.W
open Go.ChangeShapes Go.WideShapes Go.ChangeAt Go.RowKit

def fewV (L : List Cv) : Bool := decide (L.length ≤ 30) && L.all fun c => decide (c.name.size ≤ 200)
def allV (L : List Cv) (d : Dd) : Bool := L.all fun c => holdsV c d
theorem Cvs.at {w : World} {a : Option Addr} {len cap : Nat} {L : List Cv} (h : Cvs w a len cap L) (h0 : len ≠ 0) : ∃ b off, a = some ⟨b, off, none⟩ ∧ b < w.heap.size ∧ ∀ i, i < len →
    w.cell? ⟨b, off + i * 3, none⟩ = some (.int .i64 (L.getD i default).kind) ∧ w.cell? ⟨b, off + i * 3 + 1, none⟩ = some (.int .i64 (L.getD i default).num) ∧ w.cell? ⟨b, off + i * 3 + 2, none⟩ = some (.string (L.getD i default).name) := by
  obtain ⟨b, off, rfl, hlt, hc⟩ := h.hcells.resolve_left h0
  exact ⟨b, off, rfl, hlt, fun i hi => ⟨hc i hi 0 _ rfl, hc i hi 1 _ rfl, hc i hi 2 _ rfl⟩⟩
theorem all_step {L : List Cv} {p : Cv → Bool} {k : Nat} (hk : k < L.length) : (L.take (k + 1)).all p = ((L.take k).all p && p (L.getD k default)) := by
  rw [List.take_succ_eq_append_getElem hk, List.all_append]
  simp [hk]
theorem all_bad {L : List Cv} {p : Cv → Bool} {k : Nat} (hk : k < L.length) (h : p (L.getD k default) = false) : L.all p = false := by
  rw [List.all_eq_false]
  refine ⟨L[k], List.getElem_mem _, ?_⟩
  have e : L.getD k default = L[k] := by simp [hk]
  rw [← e, h]; decide
theorem all_end {L : List Cv} {p : Cv → Bool} {n : Nat} (hn : L.length = n) (h : (L.take n).all p = true) : L.all p = true := by
  rwa [List.take_of_length_le (by omega)] at h
theorem Cvs.fitAt {w : World} {a : Option Addr} {len cap : Nat} {L : List Cv} (h : Cvs w a len cap L) {k : Nat} (hk : k < len) : (L.getD k default).fit := by
  have hk' : k < L.length := by rw [h.hlen]; exact hk
  have e : L.getD k default = L[k] := by simp [hk']
  rw [e]; exact h.hfit _ (List.getElem_mem _)

set_option maxHeartbeats 4000000 in
theorem few_any (a : Option Addr) (len cap : Nat) (L : List Cv) (w : World) (h : Cvs w a len cap L) :
    Calls Try.prog 27 #[.slice a len cap] w fun e w' => e = .returned (.bool (fewV L)) ∧ Below w.heap.size w w' := by
  obtain ⟨r, hr⟩ : ∃ r, fewV L = r := ⟨_, rfl⟩
  rw [hr]
  have HR := Lib.hid hr
  have HL := Lib.hid h.hlen
  have hm := h.hmax
  have hle := h.hle
  have H := Lib.hid h
  clear hr
  by_cases h0 : len = 0
  · subst h0
    clear h
    go_enter Try.func27, Try.ntmps27
    go_wp2_with fail
    go_loop [7] (fun i => i = .int .i64 0) (fun _ => 0)
    case atStart => rfl
    case round =>
      subst hrel
      go_wp2_with fail
      go_ret
      exact ⟨by rw [← HR.out, List.eq_nil_of_length_eq_zero HL.out]; rfl, Below.refl _ _⟩
  · obtain ⟨b, off, rfl, hblt, hcell⟩ := h.at h0
    have HC := Lib.hid hcell
    clear h hcell
    go_enter Try.func27, Try.ntmps27
    go_wp2_with fail
    go_loopw [7] (fun i wr => ∃ (k : Nat), k ≤ len ∧ i = .int .i64 k ∧ k ≤ 30 ∧ Hid ((L.take k).all (fun c => decide (c.name.size ≤ 200)) = true) ∧ Below w.heap.size w wr) (fun i _ => len - (intOf i).toNat)
    case atStart => exact ⟨0, Nat.zero_le _, rfl, by omega, Lib.hid rfl, Below.refl _ _⟩
    case round =>
      obtain ⟨k, hk, rfl, hk30, HA, hbr⟩ := hrel
      have HBR := Lib.hid hbr
      by_cases hlt : k < len
      · obtain ⟨x0, x1, x2⟩ := HC.out k hlt
        have hn := ((H.out.fitAt hlt).2.2)
        have hst := all_step (p := fun c => decide (c.name.size ≤ 200)) (show k < L.length by rw [HL.out]; exact hlt)
        rcases hce : L.getD k default with ⟨kind, num, name⟩
        rw [hce] at x0 x1 x2 hn hst
        simp only at x0 x1 x2 hn hst
        rw [← hbr.cell (p := ⟨b, off + k * 3, none⟩) hblt] at x0
        rw [← hbr.cell (p := ⟨b, off + k * 3 + 1, none⟩) hblt] at x1
        rw [← hbr.cell (p := ⟨b, off + k * 3 + 2, none⟩) hblt] at x2
        unfold maxLen at hn
        clear hbr
        by_cases hk3 : 30 ≤ k
        · have HF := Lib.hid (show r = false from by rw [← HR.out]; unfold fewV; rw [decide_eq_false (by rw [HL.out]; omega), Bool.false_and])
          clear hce hst
          go_wp2_with fail
          go_ret
          exact ⟨by rw [HF.out]; rfl, HBR.out.alloc HBR.out.size _⟩
        · by_cases hn2 : 200 < name.size
          · have hbad : L.all (fun c => decide (c.name.size ≤ 200)) = false := all_bad (show k < L.length by rw [HL.out]; exact hlt) (by rw [hce]; simp; omega)
            have HF := Lib.hid (show r = false from by rw [← HR.out]; unfold fewV; rw [hbad, Bool.and_false])
            clear hbad hce hst
            go_wp2_with fail
            go_ret
            exact ⟨by rw [HF.out]; rfl, HBR.out.alloc HBR.out.size _⟩
          · rw [HA.out, decide_eq_true (by omega)] at hst
            have HA' := Lib.hid hst
            clear hst hce HA
            go_wp2_with fail
            go_roundw
            case rel => exact ⟨k + 1, by omega, by go_num, by omega, HA', HBR.out.alloc HBR.out.size _⟩
            case measure => simp [intOf]; omega
      · have HF := Lib.hid (show r = true from by
          rw [← HR.out]; unfold fewV
          rw [decide_eq_true (by rw [HL.out]; omega), all_end HL.out (by have := HA.out; rwa [show k = len by omega] at this)]; rfl)
        clear hbr
        go_wp2_with fail
        go_ret
        exact ⟨by rw [HF.out]; rfl, HBR.out⟩

set_option maxRecDepth 100000 in
set_option maxHeartbeats 4000000 in
theorem call_any (a : Option Addr) (len cap : Nat) (L : List Cv) (d : Dd) (w : World) (h : Cvs w a len cap L) (hd : d.fit) :
    Calls Try.prog 30 #[.slice a len cap, d.val] w fun e w' => e = .returned (.bool (allV L d)) ∧ Below w.heap.size w w' := by
  obtain ⟨r, hr⟩ : ∃ r, allV L d = r := ⟨_, rfl⟩
  rw [hr]
  have HR := Lib.hid hr
  have HL := Lib.hid h.hlen
  have hm := h.hmax
  have hle := h.hle
  have H := Lib.hid h
  have HD := Lib.hid hd
  obtain ⟨act, time, client, bytes, space, snap⟩ := d
  clear hr hd
  by_cases h0 : len = 0
  · subst h0
    clear h
    go_enter Try.func30, Try.ntmps30
    go_wp2_with (with_reducible refine box_row (o := ⟨some 3, _, _, _, _, _⟩) rfl _ _ rfl [.int .i64 act, .int .i64 time, .int .i64 client, .int .i64 bytes, .string space, .string snap] rfl ?_; intro w1 hr1 hb1 hz1; have HR1 := Lib.hid hr1; clear hr1 hz1; have HB1 := Lib.hid hb1; clear hb1)
    go_loop [9] (fun i => i = .int .i64 0) (fun _ => 0)
    case atStart => rfl
    case round =>
      subst hrel
      go_wp2_with fail
      go_ret
      exact ⟨by rw [← HR.out, List.eq_nil_of_length_eq_zero HL.out]; rfl, HB1.out⟩
  · obtain ⟨b, off, rfl, hblt, hcell⟩ := h.at h0
    have HC := Lib.hid hcell
    clear h hcell
    go_enter Try.func30, Try.ntmps30
    go_wp2_with (with_reducible refine box_row (o := ⟨some 3, _, _, _, _, _⟩) rfl _ _ rfl [.int .i64 act, .int .i64 time, .int .i64 client, .int .i64 bytes, .string space, .string snap] rfl ?_; intro w1 hr1 hb1 hz1; have HR1 := Lib.hid hr1; clear hr1 hz1; have HB1 := Lib.hid hb1; clear hb1)
    go_loopw [9] (fun i wr => ∃ (k : Nat), k ≤ len ∧ i = .int .i64 k ∧ Hid ((L.take k).all (fun c => holdsV c ⟨act, time, client, bytes, space, snap⟩) = true) ∧ Below w1.heap.size w1 wr) (fun i _ => len - (intOf i).toNat)
    case atStart => exact ⟨0, Nat.zero_le _, rfl, Lib.hid rfl, Below.refl _ _⟩
    case round =>
      obtain ⟨k, hk, rfl, HA, hbr⟩ := hrel
      have hbw := HB1.out.trans (hbr.mono HB1.out.size)
      have HBR := Lib.hid hbr
      by_cases hlt : k < len
      · obtain ⟨x0, x1, x2⟩ := HC.out k hlt
        have hf := H.out.fitAt hlt
        have hst := all_step (p := fun c => holdsV c ⟨act, time, client, bytes, space, snap⟩) (show k < L.length by rw [HL.out]; exact hlt)
        rcases hce : L.getD k default with ⟨kind, num, name⟩
        rw [hce] at x0 x1 x2 hf hst
        simp only at x0 x1 x2
        have HF := Lib.hid hf
        rw [← hbw.cell (p := ⟨b, off + k * 3, none⟩) hblt] at x0
        rw [← hbw.cell (p := ⟨b, off + k * 3 + 1, none⟩) hblt] at x1
        rw [← hbw.cell (p := ⟨b, off + k * 3 + 2, none⟩) hblt] at x2
        have HRD := Lib.hid (HR1.out.below hbr HR1.out.lt)
        have d0 := (HRD.out.alloc (.cells #[.int .i64 kind, .int .i64 num, .string name] 34)).c0
        have d1 := (HRD.out.alloc (.cells #[.int .i64 kind, .int .i64 num, .string name] 34)).c1
        have d2 := (HRD.out.alloc (.cells #[.int .i64 kind, .int .i64 num, .string name] 34)).c2
        have d3 := (HRD.out.alloc (.cells #[.int .i64 kind, .int .i64 num, .string name] 34)).c3
        have d4 := (HRD.out.alloc (.cells #[.int .i64 kind, .int .i64 num, .string name] 34)).c4
        have d5 := (HRD.out.alloc (.cells #[.int .i64 kind, .int .i64 num, .string name] 34)).c5
        clear hbr hbw hf
        rcases hb : holdsV ⟨kind, num, name⟩ ⟨act, time, client, bytes, space, snap⟩ with _ | _
        · have hbad : L.all (fun c => holdsV c ⟨act, time, client, bytes, space, snap⟩) = false := all_bad (show k < L.length by rw [HL.out]; exact hlt) (by rw [hce]; exact hb)
          have HF' := Lib.hid (show r = false from by rw [← HR.out]; exact hbad)
          have HB := Lib.hid hb
          clear hbad hce hst hb
          go_wp2_with fail
          refine (cholds ⟨kind, num, name⟩ ⟨act, time, client, bytes, space, snap⟩ _ HF.out HD.out).mono ?_
          rw [HB.out]
          rintro e w3 ⟨rfl, hb3⟩
          have HB3 := Lib.hid ((HBR.out.alloc HBR.out.size _).trans (hb3.mono (by have := HBR.out.size; simp; omega)))
          clear hb3 x0 x1 x2 d0 d1 d2 d3 d4 d5
          go_wp2_with fail
          go_ret
          exact ⟨by rw [HF'.out]; rfl, HB1.out.trans (HB3.out.mono HB1.out.size)⟩
        · rw [HA.out, hb] at hst
          have HA' := Lib.hid hst
          have HB := Lib.hid hb
          clear hce hst hb HA
          go_wp2_with fail
          refine (cholds ⟨kind, num, name⟩ ⟨act, time, client, bytes, space, snap⟩ _ HF.out HD.out).mono ?_
          rw [HB.out]
          rintro e w3 ⟨rfl, hb3⟩
          have HB3 := Lib.hid ((HBR.out.alloc HBR.out.size _).trans (hb3.mono (by have := HBR.out.size; simp; omega)))
          clear hb3 x0 x1 x2 d0 d1 d2 d3 d4 d5
          go_wp2_with fail
          go_roundw
          case rel => exact ⟨k + 1, by omega, by go_num, HA', HB3.out⟩
          case measure => simp [intOf]; omega
      · have HF := Lib.hid (show r = true from by
          rw [← HR.out]
          exact all_end HL.out (by have := HA.out; rwa [show k = len by omega] at this))
        clear hbr hbw
        go_wp2_with fail
        go_ret
        exact ⟨by rw [HF.out]; rfl, HB1.out.trans (HBR.out.mono HB1.out.size)⟩

end Go.Proofs.Ytnmcfokckdgbaaa.W
