/- LAYER 20 (manifest): the reference's Piece, Bytes. -/
import Derived.Test.YtjolmjbhpokgmaaGreatMfA
import Derived.Test.YtjolmjbhpokgmaaGreatLg
import Derived.Test.YtjolmjbhpokgmaaGreatRun
set_option linter.unusedSimpArgs false
set_option linter.unusedVariables false
namespace Go.Proofs.YtjolmjbhpokgmaaGreat.W
open Go Go.ChangeShapes Go.WideShapes Go.ChangeAt Go.RowKit
open Go.Proofs.YtjolmjbhpokgmaaGreat.P (enc dec)
open Go.Proofs.YtjolmjbhpokgmaaGreat.S

set_option maxRecDepth 100000 in
set_option maxHeartbeats 4000000 in
theorem upiece (p : Pc) (w : World) (h : p.fit) : Calls Tryz.prog 41 #[.agg p.cells.toArray] w fun x w' => x = .returned (.bool (pokM p)) ∧ Below w.heap.size w w' := by
  have hs := h.sum
  obtain ⟨sm, sz⟩ := p
  dsimp only at hs
  obtain ⟨b0, h0⟩ : ∃ b, decide (sm.size = 32) = b := ⟨_, rfl⟩
  have HX := Lib.hid (show pokM ⟨sm, sz⟩ = (b0 && (decide (1 ≤ sz) && decide (sz ≤ 256))) by unfold pokM; rw [h0]; congr 1; try rw [Bool.eq_iff_iff, in64_iff]; (try simp))
  have gb : (((sm.size : Nat) : Int) == 32) = b0 := by rw [← h0, Bool.eq_iff_iff]; simp; omega
  clear h h0
  rw [show (Pc.cells ⟨sm, sz⟩) = [.string sm, .int .i64 sz] from rfl]
  cases b0
  case false =>
    go_enter Tryz.func41, Tryz.ntmps41
    go_wp2_with (first
      | (with_reducible refine box_row (o := ⟨some 1, _, _, _, _, _⟩) rfl _ _ rfl [.string sm, .int .i64 sz] rfl ?_; intro w1 hr1 hb1 hz1; obtain ⟨c0, c1⟩ := hr1.l2; have B1 := Lib.hid hb1; clear hr1 hb1 hz1))
    go_ret
    exact ⟨one (vbool (by rw [HX.out]; simp)), B1.out⟩
  case true =>
    by_cases k1 : 1 ≤ sz
    all_goals
      go_enter Tryz.func41, Tryz.ntmps41
      go_wp2_with (first
        | (with_reducible refine box_row (o := ⟨some 1, _, _, _, _, _⟩) rfl _ _ rfl [.string sm, .int .i64 sz] rfl ?_; intro w1 hr1 hb1 hz1; obtain ⟨c0, c1⟩ := hr1.l2; have B1 := Lib.hid hb1; clear hr1 hb1 hz1))
      go_ret
      exact ⟨one (vbool (by rw [HX.out]; first | (simp [k1]; done) | (simp; omega))), B1.out⟩
set_option maxRecDepth 100000 in
set_option maxHeartbeats 16000000 in
theorem ubytes (a : Option Addr) (n c : Nat) (P : List Pc) (w : World) (h : Ls pcE w a n c P) :
    Calls Tryz.prog 84 #[.slice a n c] w fun x w' => x = .returned (.tuple #[.int .i64 (bytesM P).1, .int .i64 (bytesM P).2]) ∧ Below w.heap.size w w' := by
  have H := Lib.hid h
  have HL := Lib.hid h.hlen
  have hm := h.hmax
  have hle := h.hle
  have SZ := Lib.hid pc_size
  obtain ⟨v, hv⟩ : ∃ v, bytesM P = v := ⟨_, rfl⟩
  have HV := Lib.hid (show (if n ≤ 8 ∧ P.all pokM = true then (sumM P, (0 : Int)) else (0, 1)) = v by rw [← hv, ← h.hlen]; rfl)
  rw [hv]
  clear h hv
  go_enter Tryz.func84, Tryz.ntmps84
  go_wp2_with fail
  go_loopw [4, 5] (fun s i wr => ∃ k : Nat, i = .int .i64 (k : Int) ∧ k ≤ n ∧ k ≤ 8 ∧ s = .int .i64 (sumM (P.take k)) ∧ Hid ((P.take k).all pokM = true) ∧ Hid (Below w.heap.size w wr)) (fun _ i _ => n - (intOf i).toNat)
  case atStart => exact ⟨0, rfl, Nat.zero_le _, Nat.zero_le _, rfl, Lib.hid rfl, Lib.hid (Below.refl _ _)⟩
  case round =>
    obtain ⟨k, rfl, hk, hk8, rfl, A, B⟩ := hrel
    have hsm := sumM_lim _ A.out
    have htl : (P.take k).length ≤ 8 := by rw [List.length_take, HL.out]; omega
    obtain ⟨sm0, hs⟩ : ∃ s, sumM (P.take k) = s := ⟨_, rfl⟩
    rw [hs] at hsm ⊢
    have hsb : 0 ≤ sm0 ∧ sm0 ≤ 2048 := ⟨hsm.1, by have := hsm.2; have : ((P.take k).length : Int) ≤ 8 := (by omega); omega⟩
    have HSM := Lib.hid hs
    clear hs hsm htl
    by_cases hlt : k < n
    · by_cases h8 : 8 ≤ k
      · have HF := Lib.hid (show v = (0, 1) by rw [← HV.out, if_neg]; rintro ⟨e, -⟩; omega)
        have g1 : (8 : Int) ≤ (k : Int) := by omega
        have g2 : (k : Int) < (n : Int) := by omega
        clear HV
        go_wp2_with fail
        go_ret2
        exact ⟨by rw [HF.out]; first | done | rfl, B.out⟩
      · obtain ⟨b, off, x, rfl, hx, hcell, hfx⟩ := H.out.at pcOk B.out k hlt
        have HONE := Lib.hid (fun w => upiece x w hfx)
        have hnx := allM_next P k x hx
        rw [A.out, Bool.true_and] at hnx
        have hsz : pokM x = true → 1 ≤ x.size ∧ x.size ≤ 256 := fun e => by unfold pokM at e; simp only [Bool.and_eq_true, in64_iff] at e; exact e.2
        have HS := Lib.hid (show sumM (P.take (k + 1)) = sm0 + x.size by rw [sumM_next P k x hx, HSM.out])
        have hbad : (P.take (k + 1)).all pokM = false → v = (0, 1) := fun h => by
          rw [← HV.out, if_neg]
          rintro ⟨-, e⟩
          rw [allM_take P (k + 1) e] at h; cases h
        obtain ⟨ok, hok⟩ : ∃ b, pokM x = b := ⟨_, rfl⟩
        rw [hok] at hnx hsz
        have HOK := Lib.hid hok
        obtain ⟨sm, sz⟩ := x
        dsimp only at hsz HS
        have XC := Lib.hid hcell
        have c1 := hcell 1 (.int .i64 sz) rfl
        have C1 := Lib.hid c1
        have g1 : (0 : Int) ≤ (k : Int) := by omega
        have g2 : (k : Int) < (n : Int) := by omega
        have g3 : ¬ (8 : Int) ≤ (k : Int) := by omega
        clear hx hcell hfx hok c1
        rcases ok with _ | _
        · have HF := Lib.hid (hbad hnx)
          clear hnx hbad hsz
          go_wp2_with (first
            | ((with_reducible refine lg_val (o := ⟨some 18, _, _, _, _, _⟩) 2 false 14 rfl ?_ ?_ (.agg ([.string sm, .int .i64 sz] : List Value).toArray) ?_ ?_); (focus rfl); (focus (first | (go_simp; done) | (go_simp; rfl))); (focus (refine run_cells 47 (.tmp 17) rfl b (off + k * 2) ?_ [.string sm, .int .i64 sz] _ XC.out Tryz.underlying47 rfl SZ.out; go_simp)))
            | (go_at_call 41; (with_reducible refine (HONE.out wr).mono ?_); rw [HOK.out]; rintro x w7 ⟨rfl, hb⟩; have B7 := Lib.hid (B.out.trans (hb.mono B.out.size)); clear hb))
          go_ret2
          exact ⟨by rw [HF.out]; first | done | rfl, B7.out⟩
        · have HN := Lib.hid hnx
          have hib := hsz rfl
          clear hnx hbad hsz
          go_wp2_with (first
            | ((with_reducible refine lg_val (o := ⟨some 18, _, _, _, _, _⟩) 2 false 14 rfl ?_ ?_ (.agg ([.string sm, .int .i64 sz] : List Value).toArray) ?_ ?_); (focus rfl); (focus (first | (go_simp; done) | (go_simp; rfl))); (focus (refine run_cells 47 (.tmp 17) rfl b (off + k * 2) ?_ [.string sm, .int .i64 sz] _ XC.out Tryz.underlying47 rfl SZ.out; go_simp)))
            | (go_at_call 41; (with_reducible refine (HONE.out wr).mono ?_); rw [HOK.out]; rintro x w7 ⟨rfl, hb⟩; have d1 := (hb.cell (p := ⟨b, off + k * 2 + 1, none⟩) (World.block_lt_of_cell? wr _ C1.out)).trans C1.out; have B7 := Lib.hid (B.out.trans (hb.mono B.out.size)); clear hb))
          go_roundw
          case rel => exact ⟨k + 1, vint (by omega), by omega, by omega, by rw [HS.out], HN, B7⟩
          case measure => simp [intOf]; omega
    · obtain rfl : n = k := by omega
      have ht : P.take n = P := List.take_of_length_le (by rw [HL.out]; exact Nat.le_refl _)
      have HX := Lib.hid (show v = (sm0, 0) by rw [← HV.out, ← HSM.out]; rw [ht] at A ⊢; rw [if_pos ⟨hk8, A.out⟩])
      clear ht
      go_wp2_with fail
      go_ret2
      exact ⟨by rw [HX.out]; first | done | rfl, B.out⟩
end Go.Proofs.YtjolmjbhpokgmaaGreat.W
