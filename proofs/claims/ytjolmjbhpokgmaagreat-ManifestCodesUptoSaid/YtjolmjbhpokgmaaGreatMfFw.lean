/- LAYER 20 (manifest): few of the law. -/
import Derived.Test.YtjolmjbhpokgmaaGreatMfG
set_option linter.unusedSimpArgs false
set_option linter.unusedVariables false
namespace Go.Proofs.YtjolmjbhpokgmaaGreat.W
open Go Go.ChangeShapes Go.WideShapes Go.ChangeAt Go.RowKit
open Go.Proofs.YtjolmjbhpokgmaaGreat.P (enc dec)
open Go.Proofs.YtjolmjbhpokgmaaGreat.S

/-- snapshots of which none has many pieces, and that are not many -/
def fewM (L : List Sn) : Bool := decide (L.length ≤ 30) && L.all (fun s => decide (s.P.length ≤ 20))
theorem fewM_false {L : List Sn} {k : Nat} {s : Sn} (h : L[k]? = some s) (hs : ¬ (s.P.length ≤ 20)) : fewM L = false := by
  unfold fewM
  cases hc : L.all (fun s => decide (s.P.length ≤ 20)) with
  | false => simp
  | true => exact absurd (by simpa using List.all_eq_true.1 hc s (List.mem_of_getElem? h)) hs
theorem fewM_few {L : List Sn} (h : fewM L = true) : L.length ≤ 30 ∧ FewP L := by
  unfold fewM at h
  simp only [Bool.and_eq_true, decide_eq_true_eq, List.all_eq_true] at h
  exact ⟨h.1, fun s hs => by have := h.2 s hs; omega⟩
set_option maxRecDepth 100000 in
set_option maxHeartbeats 16000000 in
theorem few20 (a : Option Addr) (n c : Nat) (L : List Sn) (w : World) (h : SnL w a n c L) :
    Calls Tryz.prog 4 #[.slice a n c] w fun x w' => x = .returned (.bool (fewM L)) ∧ Below w.heap.size w w' := by
  obtain ⟨X, hX, hXL⟩ := h
  have H := Lib.hid hX
  have HLN := Lib.hid (show L.length = n by rw [← hXL, List.length_map, hX.hlen])
  have HXL := Lib.hid hXL
  have hm := hX.hmax
  have hle := hX.hle
  have SZ := Lib.hid sn_size
  have MZ := Lib.hid sn_zero
  obtain ⟨V, hV⟩ : ∃ V, fewM L = V := ⟨_, rfl⟩
  rw [hV]
  have HV := Lib.hid hV
  clear hX hXL hV
  go_enter Tryz.func4, Tryz.ntmps4
  go_wp2_with fail
  go_loopw [7] (fun i wr => ∃ k : Nat, i = .int .i64 (k : Int) ∧ k ≤ n ∧ k ≤ 30 ∧ Hid (∀ i s, i < k → L[i]? = some s → s.P.length ≤ 20) ∧ Hid (Below w.heap.size w wr)) (fun i _ => n - (intOf i).toNat)
  case atStart => exact ⟨0, rfl, Nat.zero_le _, Nat.zero_le _, Lib.hid (fun i s hi => absurd hi (by omega)), Lib.hid (Below.refl _ _)⟩
  case round =>
    obtain ⟨k, rfl, hk, hk30, A, B⟩ := hrel
    by_cases hlt : k < n
    · obtain ⟨b, off, x, rfl, hx, hcell, hfx⟩ := H.out.at snOk B.out k hlt
      have HX := Lib.hid (map_at HXL.out hx)
      have hpl : x.s.P.length = x.m := hfx.P.hlen
      have pm1 := hfx.P.hmax
      have pm2 := hfx.P.hle
      obtain ⟨⟨xs, xn, xb, xt, xk, P⟩, xa, xm, xc⟩ := x
      dsimp only at hpl pm1 pm2 HX
      have XC := Lib.hid hcell
      have HP := Lib.hid hpl
      have g1 : (0 : Int) ≤ (k : Int) := by omega
      have g2 : (k : Int) < (n : Int) := by omega
      clear hx hcell hfx hpl
      by_cases h30 : 30 ≤ k
      · have HF := Lib.hid (show V = false by rw [← HV.out]; unfold fewM; rw [decide_eq_false (by rw [HLN.out]; omega)]; rfl)
        have g3 : (30 : Int) ≤ (k : Int) := by omega
        go_wp2_with (first
          | ((with_reducible refine load_cells (o := ⟨some 11, _, _, _, _, _⟩) rfl _ _ rfl b (off + k * 6) ?_ (snC xs xn xb xt xk xa xm xc) _ XC.out Tryz.underlying45 rfl ?_ ?_); (focus go_simp); (focus (exact SZ.out)))
          | ((with_reducible refine alloc_row (o := ⟨some 4, _, _, _, _, _⟩) rfl _ rfl _ MZ.out ?_); intro w5 hr hb hz; have R5 := Lib.hid hr; have B5 := Lib.hid (B.out.trans (hb.mono B.out.size)); clear hr hb hz)
          | ((with_reducible refine store_row (o := ⟨none, _, _, _, _, _⟩) rfl _ (.tmp 4) _ rfl wr.heap.size (snC xs xn xb xt xk xa xm xc) ?_ ?_ 45 _ R5.out ?_ ?_ ?_ ?_); (focus go_simp); (focus (first | (go_simp; done) | (go_simp; rfl))); (focus (exact SZ.out)); (focus rfl); (focus (exact sn_one _ _ _ _ _ _ _ _)); intro w6 hr hu; obtain ⟨d0, d1, d2, d3, d4, d5⟩ := hr.h6s; have B6 := Lib.hid (B5.out.trans (hu.below B.out.size)); clear hr hu d0 d1 d2 d3 d4))
        go_ret
        exact ⟨one (vbool (by rw [HF.out])), B6.out⟩
      · have g3 : ¬ (30 : Int) ≤ (k : Int) := by omega
        by_cases h20 : xm ≤ 20
        · have g4 : ¬ (20 : Int) < (xm : Int) := by omega
          go_wp2_with (first
          | ((with_reducible refine load_cells (o := ⟨some 11, _, _, _, _, _⟩) rfl _ _ rfl b (off + k * 6) ?_ (snC xs xn xb xt xk xa xm xc) _ XC.out Tryz.underlying45 rfl ?_ ?_); (focus go_simp); (focus (exact SZ.out)))
          | ((with_reducible refine alloc_row (o := ⟨some 4, _, _, _, _, _⟩) rfl _ rfl _ MZ.out ?_); intro w5 hr hb hz; have R5 := Lib.hid hr; have B5 := Lib.hid (B.out.trans (hb.mono B.out.size)); clear hr hb hz)
          | ((with_reducible refine store_row (o := ⟨none, _, _, _, _, _⟩) rfl _ (.tmp 4) _ rfl wr.heap.size (snC xs xn xb xt xk xa xm xc) ?_ ?_ 45 _ R5.out ?_ ?_ ?_ ?_); (focus go_simp); (focus (first | (go_simp; done) | (go_simp; rfl))); (focus (exact SZ.out)); (focus rfl); (focus (exact sn_one _ _ _ _ _ _ _ _)); intro w6 hr hu; obtain ⟨d0, d1, d2, d3, d4, d5⟩ := hr.h6s; have B6 := Lib.hid (B5.out.trans (hu.below B.out.size)); clear hr hu d0 d1 d2 d3 d4))
          go_roundw
          case rel =>
            refine ⟨k + 1, vint (by omega), by omega, by omega, Lib.hid (fun i s hi hs => ?_), B6⟩
            by_cases hik : i < k
            · exact A.out i s hik hs
            · obtain rfl : i = k := by omega
              rw [HX.out] at hs; injection hs with hs; subst hs
              have := HP.out
              show P.length ≤ 20
              omega
          case measure => simp [intOf]; omega
        · have HF := Lib.hid (show V = false by rw [← HV.out]; exact fewM_false HX.out (by show ¬ P.length ≤ 20; rw [HP.out]; exact h20))
          have g4 : (20 : Int) < (xm : Int) := by omega
          go_wp2_with (first
          | ((with_reducible refine load_cells (o := ⟨some 11, _, _, _, _, _⟩) rfl _ _ rfl b (off + k * 6) ?_ (snC xs xn xb xt xk xa xm xc) _ XC.out Tryz.underlying45 rfl ?_ ?_); (focus go_simp); (focus (exact SZ.out)))
          | ((with_reducible refine alloc_row (o := ⟨some 4, _, _, _, _, _⟩) rfl _ rfl _ MZ.out ?_); intro w5 hr hb hz; have R5 := Lib.hid hr; have B5 := Lib.hid (B.out.trans (hb.mono B.out.size)); clear hr hb hz)
          | ((with_reducible refine store_row (o := ⟨none, _, _, _, _, _⟩) rfl _ (.tmp 4) _ rfl wr.heap.size (snC xs xn xb xt xk xa xm xc) ?_ ?_ 45 _ R5.out ?_ ?_ ?_ ?_); (focus go_simp); (focus (first | (go_simp; done) | (go_simp; rfl))); (focus (exact SZ.out)); (focus rfl); (focus (exact sn_one _ _ _ _ _ _ _ _)); intro w6 hr hu; obtain ⟨d0, d1, d2, d3, d4, d5⟩ := hr.h6s; have B6 := Lib.hid (B5.out.trans (hu.below B.out.size)); clear hr hu d0 d1 d2 d3 d4))
          go_ret
          exact ⟨one (vbool (by rw [HF.out])), B6.out⟩
    · obtain rfl : n = k := by omega
      have HT := Lib.hid (show V = true by
        rw [← HV.out]
        unfold fewM
        rw [decide_eq_true (by rw [HLN.out]; exact hk30), Bool.true_and, List.all_eq_true]
        intro s hs
        obtain ⟨i, hi, e⟩ := List.getElem_of_mem hs
        simpa using A.out i s (by rw [HLN.out] at hi; exact hi) (by rw [List.getElem?_eq_getElem hi, e]))
      go_wp2_with fail
      go_ret
      exact ⟨one (vbool (by rw [HT.out])), B.out⟩
end Go.Proofs.YtjolmjbhpokgmaaGreat.W
