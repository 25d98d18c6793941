/- LAYER 20 (manifest): the reference's Piece, Bytes, at, copied, Find, Names. LAYER 20 (manifest): the reference's Find, Names, Bytes. -/
import Derived.Test.YtdinfpjckmgihaaMfL
import Derived.Test.YtdinfpjckmgihaaLg
import Derived.Test.YtdinfpjckmgihaaRun
set_option linter.unusedSimpArgs false
set_option linter.unusedVariables false
namespace Go.Proofs.Ytdinfpjckmgihaa.W
open Go Go.ChangeShapes Go.WideShapes Go.ChangeAt Go.RowKit
open Go.Proofs.Ytdinfpjckmgihaa.P (enc dec)
open Go.Proofs.Ytdinfpjckmgihaa.S

set_option maxRecDepth 100000 in
set_option maxHeartbeats 4000000 in
theorem upiece (p : Pc) (w : World) (h : p.fit) : Calls Try.prog 84 #[.agg p.cells.toArray] w fun x w' => x = .returned (.bool (pokM p)) ∧ Below w.heap.size w w' := by
  have hs := h.sum
  obtain ⟨sm, sz⟩ := p
  dsimp only at hs
  obtain ⟨b0, h0⟩ : ∃ b, decide (sm.size = 32) = b := ⟨_, rfl⟩
  have HX := Lib.hid (show pokM ⟨sm, sz⟩ = (b0 && (decide (1 ≤ sz) && decide (sz ≤ 256))) by unfold pokM; rw [h0]; congr 1; try rw [Bool.eq_iff_iff, in64_iff]; (try simp))
  have gb : (((sm.size : Nat) : Int) == 32) = b0 := by rw [← h0, Bool.eq_iff_iff]; simp; omega
  clear h h0
  rw [show (Pc.cells ⟨sm, sz⟩) = [.string sm, .int .i64 sz] from rfl]
  cases b0
  case false =>
    go_enter Try.func84, Try.ntmps84
    go_wp2_with (first
      | (with_reducible refine box_row (o := ⟨some 1, _, _, _, _, _⟩) rfl _ _ rfl [.string sm, .int .i64 sz] rfl ?_; intro w1 hr1 hb1 hz1; obtain ⟨c0, c1⟩ := hr1.l2; have B1 := Lib.hid hb1; clear hr1 hb1 hz1))
    go_ret
    exact ⟨one (vbool (by rw [HX.out]; simp)), B1.out⟩
  case true =>
    by_cases k1 : 1 ≤ sz
    all_goals
      go_enter Try.func84, Try.ntmps84
      go_wp2_with (first
        | (with_reducible refine box_row (o := ⟨some 1, _, _, _, _, _⟩) rfl _ _ rfl [.string sm, .int .i64 sz] rfl ?_; intro w1 hr1 hb1 hz1; obtain ⟨c0, c1⟩ := hr1.l2; have B1 := Lib.hid hb1; clear hr1 hb1 hz1))
      go_ret
      exact ⟨one (vbool (by rw [HX.out]; first | (simp [k1]; done) | (simp; omega))), B1.out⟩
set_option maxRecDepth 100000 in
set_option maxHeartbeats 16000000 in
theorem uat (sp nm : ByteArray) (a : Option Addr) (n c : Nat) (L : List Sn) (w : World) (h : SnL w a n c L) :
    Calls Try.prog 38 #[.slice a n c, .string sp, .string nm] w fun x w' => x = .returned (.int .i64 (ixM sp nm L)) ∧ Below w.heap.size w w' := by
  obtain ⟨X, hX, e⟩ := h
  have H := Lib.hid hX
  have HE := Lib.hid e
  have HLN := Lib.hid (show L.length = n by rw [← e, List.length_map, hX.hlen])
  have HI := Lib.hid (fun z (hz : IxM (callM sp nm) L z) => hz.uniq (ixM_is sp nm L))
  have hm := hX.hmax
  have hle := hX.hle
  clear hX e
  generalize ixM sp nm L = V at HI ⊢
  go_enter Try.func38, Try.ntmps38
  go_wp2_with fail
  go_loopw [7] (fun i wr => ∃ k : Nat, i = .int .i64 (k : Int) ∧ k ≤ n ∧ Hid (∀ i, i < k → ∀ x, L[i]? = some x → callM sp nm x = false) ∧ w = wr) (fun i _ => n - (intOf i).toNat)
  case atStart => exact ⟨0, rfl, Nat.zero_le _, Lib.hid (fun i h => absurd h (by omega)), rfl⟩
  case round =>
    obtain ⟨k, rfl, hk, HP, rfl⟩ := hrel
    by_cases hlt : k < n
    · obtain ⟨b, off, x, rfl, hx, hcell, -⟩ := H.out.at snOk (Below.refl _ _) k hlt
      have HX := Lib.hid (map_at HE.out hx)
      obtain ⟨⟨xs, xn, xb, xt, xk, P⟩, xa, xm, xc⟩ := x
      obtain ⟨b0, e0⟩ : ∃ b, (xs.toList == sp.toList) = b := ⟨_, rfl⟩
      obtain ⟨b1, e1⟩ : ∃ b, (xn.toList == nm.toList) = b := ⟨_, rfl⟩
      have HC := Lib.hid (show callM sp nm ⟨xs, xn, xb, xt, xk, P⟩ = (b0 && b1) by rw [← e0, ← e1]; rfl)
      have c0 := hcell 0 (.string xs) rfl
      have c1 := hcell 1 (.string xn) rfl
      rw [Nat.add_zero] at c0
      have g1 : (0 : Int) ≤ (k : Int) := by omega
      have g2 : (k : Int) < (n : Int) := by omega
      dsimp only at HX
      clear hx hcell
      have go : (b0 && b1) = false → ∀ i, i < k + 1 → ∀ x, L[i]? = some x → callM sp nm x = false := fun hb i hi x hx => by
        by_cases h : i < k
        · exact HP.out i h x hx
        · obtain rfl : i = k := by omega
          rw [HX.out] at hx; injection hx with hx; subst hx; rw [HC.out, hb]
      have GO := Lib.hid go
      clear go
      cases b0
      · go_wp2_with fail
        go_roundw
        case rel => exact ⟨k + 1, vint (by omega), by omega, Lib.hid (GO.out rfl), trivial⟩
        case measure => simp [intOf]; omega
      · cases b1
        · go_wp2_with fail
          go_roundw
          case rel => exact ⟨k + 1, vint (by omega), by omega, Lib.hid (GO.out rfl), trivial⟩
          case measure => simp [intOf]; omega
        · go_wp2_with fail
          go_ret
          exact ⟨by rw [← HI.out (k : Int) (.inr ⟨k, _, rfl, HX.out, by rw [HC.out]; rfl, HP.out⟩)]; first | done | rfl, Below.refl _ _⟩
    · obtain rfl : n = k := by omega
      go_wp2_with fail
      go_ret
      exact ⟨by rw [← HI.out (-1) (.inl ⟨rfl, fun i x hx => HP.out i (by have := (List.getElem?_eq_some_iff.1 hx).1; rw [HLN.out] at this; exact this) x hx⟩)]; first | done | rfl, Below.refl _ _⟩
set_option maxRecDepth 100000 in
set_option maxHeartbeats 4000000 in
theorem ucopied (sp nm : ByteArray) (bt ti ke : Int) (pa : Option Addr) (pm pc : Nat) (P : List Pc) (w : World) (h : Ls pcE w pa pm pc P) (hm : pm ≤ 1000) :
    Calls Try.prog 40 #[.agg (snC sp nm bt ti ke pa pm pc).toArray] w fun x w' => ∃ a2 c2, x = .returned (.agg (snC sp nm bt ti ke a2 pm c2).toArray) ∧ LsO pcE w' w.heap.size (.slice a2 pm c2) P ∧ Below w.heap.size w w' := by
  have SZ := Lib.hid sn_size
  have LZ := Lib.hid sn_zero
  have H := Lib.hid h
  have HL := Lib.hid h.hlen
  have HM := Lib.hid hm
  clear h hm
  go_enter Try.func40, Try.ntmps40
  go_wp2_with (first
    | ((with_reducible refine box_row (o := ⟨some 1, _, _, _, _, _⟩) rfl _ _ rfl (snC sp nm bt ti ke pa pm pc) rfl ?_); intro w1 hr hb hz; have R1 := Lib.hid hr; have B1 := Lib.hid hb; have B1S := Lib.hid (show w.heap.size < w1.heap.size by omega); clear hr hb hz)
    | ((with_reducible refine alloc_row (o := ⟨some 2, _, _, _, _, _⟩) rfl _ rfl _ LZ.out ?_); intro w2 hr hb hz; have R22 := Lib.hid hr; have R12 := Lib.hid (R1.out.below hb R1.out.lt); obtain ⟨c0, c1, c2, c3, c4, c5⟩ := R12.out.h6s; have B2 := Lib.hid (B1.out.trans (hb.mono B1.out.size)); clear hr hb hz c0 c1 c2 c3 c4)
    | ((with_reducible refine append_ls pcOk (o := ⟨some 5, _, _, _, _, _⟩) rfl _ _ rfl w2.heap.size (.slice none 0 0) [] ?_ (LsO.nil _ _) pa pm pc P ?_ (H.out.mono pcOk B2.out) ?_ (Nat.le_refl _) ?_); (focus (first | (go_simp; done) | (go_simp; rfl))); (focus (first | (go_simp; done) | (go_simp; rfl))); (focus (have := HM.out; simp; omega)); intro v3 w3 hN hb2 hg2 hv2; obtain ⟨a3, c3', rfl, -⟩ := lso_form (n := pm) hN HL.out; have O3 := Lib.hid (show LsO pcE w3 w2.heap.size (.slice a3 pm c3') P from hN); have R13 := Lib.hid (R12.out.below hb2 R12.out.lt); have R23 := Lib.hid (R22.out.below hb2 R22.out.lt); have B3 := Lib.hid (B2.out.trans (hb2.mono B2.out.size)); clear hN hb2 hg2 hv2 c5)
    | ((with_reducible refine store_cell (o := ⟨none, _, _, _, _, _⟩) rfl _ (.tmp 6) _ rfl w.heap.size 5 (.slice a3 pm c3') ?_ ?_ rfl rfl 25 _ R13.out ?_ ?_ ?_); (focus go_simp); (focus (first | (go_simp; done) | (go_simp; rfl))); (focus (kernel_rfl)); (focus (show 5 < 6; decide)); intro w4 hr hu; have R14 := Lib.hid (show Row w4 w.heap.size 25 (snC sp nm bt ti ke a3 pm c3') from hr); have R24 := Lib.hid (R23.out.upd hu (Nat.ne_of_gt B1S.out)); have O4 := Lib.hid (lso_upd_lt O3.out hu R12.out.lt); have B4 := Lib.hid (B3.out.trans (hu.below (Nat.le_refl _))); clear hr hu)
    | ((with_reducible refine load_row (o := ⟨some 7, _, _, _, _, _⟩) rfl _ _ rfl w.heap.size ?_ _ (snC sp nm bt ti ke a3 pm c3') _ R14.out Try.underlying25 rfl ?_ ?_); (focus go_simp); (focus (exact SZ.out)))
    | ((with_reducible refine store_row (o := ⟨none, _, _, _, _, _⟩) rfl _ (.tmp 2) _ rfl w1.heap.size (snC sp nm bt ti ke a3 pm c3') ?_ ?_ 25 _ R24.out ?_ ?_ ?_ ?_); (focus go_simp); (focus (first | (go_simp; done) | (go_simp; rfl))); (focus (exact SZ.out)); (focus rfl); (focus (exact sn_one _ _ _ _ _ _ _ _)); intro w5 hr5 hu5; have R25 := Lib.hid hr5; have O5 := Lib.hid (lso_upd_lt O4.out hu5 R22.out.lt); have B5 := Lib.hid (B4.out.trans (hu5.below B1.out.size)); clear hr5 hu5))
  exact bodyPost_ret (results_cell_row rfl _ _ w1.heap.size 25 _ _ _ (by go_simp) R25.out Try.underlying25 rfl SZ.out) rfl ⟨_, _, rfl, O5.out.base B2.out.size, B5.out⟩
end Go.Proofs.Ytdinfpjckmgihaa.W

namespace Go.Proofs.Ytdinfpjckmgihaa.W
open Go Go.ChangeShapes Go.WideShapes Go.ChangeAt Go.RowKit
open Go.Proofs.Ytdinfpjckmgihaa.P (enc dec)
open Go.Proofs.Ytdinfpjckmgihaa.S

set_option maxRecDepth 100000 in
set_option maxHeartbeats 16000000 in
theorem ubytes (a : Option Addr) (n c : Nat) (P : List Pc) (w : World) (h : Ls pcE w a n c P) :
    Calls Try.prog 67 #[.slice a n c] w fun x w' => x = .returned (.tuple #[.int .i64 (bytesM P).1, .int .i64 (bytesM P).2]) ∧ Below w.heap.size w w' := by
  have H := Lib.hid h
  have HL := Lib.hid h.hlen
  have hm := h.hmax
  have hle := h.hle
  have SZ := Lib.hid pc_size
  obtain ⟨v, hv⟩ : ∃ v, bytesM P = v := ⟨_, rfl⟩
  have HV := Lib.hid (show (if n ≤ 8 ∧ P.all pokM = true then (sumM P, (0 : Int)) else (0, 1)) = v by rw [← hv, ← h.hlen]; rfl)
  rw [hv]
  clear h hv
  go_enter Try.func67, Try.ntmps67
  go_wp2_with fail
  go_loopw [4, 5] (fun s i wr => ∃ k : Nat, i = .int .i64 (k : Int) ∧ k ≤ n ∧ k ≤ 8 ∧ s = .int .i64 (sumM (P.take k)) ∧ Hid ((P.take k).all pokM = true) ∧ Hid (Below w.heap.size w wr)) (fun _ i _ => n - (intOf i).toNat)
  case atStart => exact ⟨0, rfl, Nat.zero_le _, Nat.zero_le _, rfl, Lib.hid rfl, Lib.hid (Below.refl _ _)⟩
  case round =>
    obtain ⟨k, rfl, hk, hk8, rfl, A, B⟩ := hrel
    have hsm := sumM_lim _ A.out
    have htl : (P.take k).length ≤ 8 := by rw [List.length_take, HL.out]; omega
    obtain ⟨sm0, hs⟩ : ∃ s, sumM (P.take k) = s := ⟨_, rfl⟩
    rw [hs] at hsm ⊢
    have hsb : 0 ≤ sm0 ∧ sm0 ≤ 2048 := ⟨hsm.1, by have := hsm.2; have : ((P.take k).length : Int) ≤ 8 := (by omega); omega⟩
    have HSM := Lib.hid hs
    clear hs hsm htl
    by_cases hlt : k < n
    · by_cases h8 : 8 ≤ k
      · have HF := Lib.hid (show v = (0, 1) by rw [← HV.out, if_neg]; rintro ⟨e, -⟩; omega)
        have g1 : (8 : Int) ≤ (k : Int) := by omega
        have g2 : (k : Int) < (n : Int) := by omega
        clear HV
        go_wp2_with fail
        go_ret2
        exact ⟨by rw [HF.out]; first | done | rfl, B.out⟩
      · obtain ⟨b, off, x, rfl, hx, hcell, hfx⟩ := H.out.at pcOk B.out k hlt
        have HONE := Lib.hid (fun w => upiece x w hfx)
        have hnx := allM_next P k x hx
        rw [A.out, Bool.true_and] at hnx
        have hsz : pokM x = true → 1 ≤ x.size ∧ x.size ≤ 256 := fun e => by unfold pokM at e; simp only [Bool.and_eq_true, in64_iff] at e; exact e.2
        have HS := Lib.hid (show sumM (P.take (k + 1)) = sm0 + x.size by rw [sumM_next P k x hx, HSM.out])
        have hbad : (P.take (k + 1)).all pokM = false → v = (0, 1) := fun h => by
          rw [← HV.out, if_neg]
          rintro ⟨-, e⟩
          rw [allM_take P (k + 1) e] at h; cases h
        obtain ⟨ok, hok⟩ : ∃ b, pokM x = b := ⟨_, rfl⟩
        rw [hok] at hnx hsz
        have HOK := Lib.hid hok
        obtain ⟨sm, sz⟩ := x
        dsimp only at hsz HS
        have XC := Lib.hid hcell
        have c1 := hcell 1 (.int .i64 sz) rfl
        have C1 := Lib.hid c1
        have g1 : (0 : Int) ≤ (k : Int) := by omega
        have g2 : (k : Int) < (n : Int) := by omega
        have g3 : ¬ (8 : Int) ≤ (k : Int) := by omega
        clear hx hcell hfx hok c1
        rcases ok with _ | _
        · have HF := Lib.hid (hbad hnx)
          clear hnx hbad hsz
          go_wp2_with (first
            | ((with_reducible refine lg_val (o := ⟨some 18, _, _, _, _, _⟩) 2 false 14 rfl ?_ ?_ (.agg ([.string sm, .int .i64 sz] : List Value).toArray) ?_ ?_); (focus rfl); (focus (first | (go_simp; done) | (go_simp; rfl))); (focus (refine run_cells 37 (.tmp 17) rfl b (off + k * 2) ?_ [.string sm, .int .i64 sz] _ XC.out Try.underlying37 rfl SZ.out; go_simp)))
            | (go_at_call 84; (with_reducible refine (HONE.out wr).mono ?_); rw [HOK.out]; rintro x w7 ⟨rfl, hb⟩; have B7 := Lib.hid (B.out.trans (hb.mono B.out.size)); clear hb))
          go_ret2
          exact ⟨by rw [HF.out]; first | done | rfl, B7.out⟩
        · have HN := Lib.hid hnx
          have hib := hsz rfl
          clear hnx hbad hsz
          go_wp2_with (first
            | ((with_reducible refine lg_val (o := ⟨some 18, _, _, _, _, _⟩) 2 false 14 rfl ?_ ?_ (.agg ([.string sm, .int .i64 sz] : List Value).toArray) ?_ ?_); (focus rfl); (focus (first | (go_simp; done) | (go_simp; rfl))); (focus (refine run_cells 37 (.tmp 17) rfl b (off + k * 2) ?_ [.string sm, .int .i64 sz] _ XC.out Try.underlying37 rfl SZ.out; go_simp)))
            | (go_at_call 84; (with_reducible refine (HONE.out wr).mono ?_); rw [HOK.out]; rintro x w7 ⟨rfl, hb⟩; have d1 := (hb.cell (p := ⟨b, off + k * 2 + 1, none⟩) (World.block_lt_of_cell? wr _ C1.out)).trans C1.out; have B7 := Lib.hid (B.out.trans (hb.mono B.out.size)); clear hb))
          go_roundw
          case rel => exact ⟨k + 1, vint (by omega), by omega, by omega, by rw [HS.out], HN, B7⟩
          case measure => simp [intOf]; omega
    · obtain rfl : n = k := by omega
      have ht : P.take n = P := List.take_of_length_le (by rw [HL.out]; exact Nat.le_refl _)
      have HX := Lib.hid (show v = (sm0, 0) by rw [← HV.out, ← HSM.out]; rw [ht] at A ⊢; rw [if_pos ⟨hk8, A.out⟩])
      clear ht
      go_wp2_with fail
      go_ret2
      exact ⟨by rw [HX.out]; first | done | rfl, B.out⟩
end Go.Proofs.Ytdinfpjckmgihaa.W
