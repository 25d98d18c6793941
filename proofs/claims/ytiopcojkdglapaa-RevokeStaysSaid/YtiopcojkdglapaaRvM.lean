/- LAYER 21 (revoke): the law RevokeMints. -/
import Derived.Test.YtiopcojkdglapaaRvL
set_option linter.unusedSimpArgs false
set_option linter.unusedVariables false
namespace Go.Proofs.Ytiopcojkdglapaa.W
open Go Go.ChangeShapes Go.WideShapes Go.ChangeAt Go.RowKit
open Go.Proofs.Ytiopcojkdglapaa.S

theorem rise_lt {nx : Int} : ∀ (L : List Int) (m : Int), riseI nx m L = true → ∀ x ∈ L, x < nx
  | [], _, _, x, hx => by cases hx
  | y :: t, m, h, x, hx => by
    simp only [riseI, Bool.and_eq_true, decide_eq_true_eq] at h
    rcases List.mem_cons.1 hx with rfl | hx
    · exact h.2.1
    · exact rise_lt t _ h.2.2 x hx
theorem on_nx (d : Do21) (r : Rv) : (d.on r).nx ≤ r.nx + 1 := by
  unfold Do21.on
  split
  · unfold Rv.mint; split <;> dsimp only <;> omega
  · split
    · unfold Rv.revoke; split
      · dsimp only; omega
      · split
        · dsimp only; omega
        · split <;> dsimp only <;> omega
    · unfold Rv.bump; split <;> dsimp only <;> omega
theorem play_nx : ∀ (D : List Do21) (r : Rv), (playR r D).nx ≤ r.nx + D.length
  | [], r => by show r.nx ≤ r.nx + 0; omega
  | d :: D, r => by
    have h1 := play_nx D (d.on r)
    have h2 := on_nx d r
    show (playR (d.on r) D).nx ≤ r.nx + ((D.length + 1 : Nat) : Int)
    omega
theorem valid_si (v : Value) (r : Rv) (id ep : Int) (w : World) (h : RvV w v r) (hid : SI64 id) (q : Bool) (hq : r.valid id ep = q) : Calls Try.prog 67 #[v, .int .i64 id, .int .i64 ep] w fun x w' => x = .returned (.bool q) ∧ Below w.heap.size w w' := by
  rw [← hq]; exact prvalid v r id ep w h hid
set_option maxRecDepth 100000 in
set_option maxHeartbeats 16000000 in
theorem law_RevokeMints (a : Option Addr) (n c : Nat) (D : List Do21) (w : World) (h : Ls do2E w a n c D) :
    Calls Try.prog 13 #[.slice a n c] w fun e w' => e = .returned (.bool true) ∧ Below w.heap.size w w' := by
  have H := Lib.hid h
  have LZS := Lib.hid rv_size
  have LZ := Lib.hid rv_zero
  have S0 := Lib.hid (show SI64 0 ∧ SI64 2 from ⟨⟨by decide, by decide⟩, ⟨by decide, by decide⟩⟩)
  have P0 := Lib.hid (show ∀ w', RvP (fun _ => True) w' (.agg (rvC 0 2 none 0 0).toArray) ⟨0, 2, []⟩ from fun w' => ⟨none, 0, 0, rfl, Ls.nil _, S0.out.1, S0.out.2, fun _ _ _ _ => trivial⟩)
  have hok := play_ok (D.take 40) sok
  have hnx := play_nx (D.take 40) ⟨0, 2, []⟩
  have hlen : (D.take 40).length ≤ 40 := by rw [List.length_take]; omega
  obtain ⟨⟨ep, nx, I⟩, hr⟩ : ∃ r, playR ⟨0, 2, []⟩ (D.take 40) = r := ⟨_, rfl⟩
  have HP : ∀ (v : Value) (w' : World), RvP (fun _ => True) w' v ⟨0, 2, []⟩ → Below w.heap.size w w' → Calls Try.prog 64 #[v, .slice a n c] w' fun e w'' => ∃ v', e = .returned v' ∧ RvP (fun _ => True) w'' v' ⟨ep, nx, I⟩ ∧ Below w'.heap.size w' w'' := fun v w' hv hb => by
    rw [← hr]; exact play21 _ v _ a n c D w' hv sok (fun _ _ => trivial) (h.mono do2Ok hb)
  have HP := Lib.hid HP
  rw [hr] at hok hnx
  dsimp only at hnx
  have OK := Lib.hid hok
  have hk := Rv.ok_iff.1 hok
  obtain ⟨⟨e1, e2⟩, ⟨n1, n2⟩, hl16, hrise⟩ := hk
  dsimp only at e1 e2 n1 n2 hl16 hrise
  have hlt := rise_lt I 1 hrise
  have IE := Lib.hid (show SI64 ep from si_small ⟨e1, e2⟩)
  have IX := Lib.hid (show SI64 nx from ⟨by omega, by omega⟩)
  have IX1 := Lib.hid (show SI64 (nx + 1) from ⟨by omega, by omega⟩)
  have IX2 := Lib.hid (show SI64 (nx + 1 + 1) from ⟨by omega, by omega⟩)
  have HLEN := Lib.hid (show I.length ≤ 100 by omega)
  have HM1 : ∀ (v : Value) (w : World), RvV w v ⟨ep, nx, I⟩ → Calls Try.prog 69 #[v] w fun x w' => ∃ v', x = .returned (.tuple #[v', .int .i64 nx, .int .i64 0]) ∧ RvF w' w.heap.size v' ⟨ep, nx + 1, I⟩ ∧ Below w.heap.size w w' := fun v w h => by
    have q := prmint v ⟨ep, nx, I⟩ w h HLEN.out
    rw [show Rv.mint ⟨ep, nx, I⟩ = (⟨ep, nx + 1, I⟩, nx, 0) from if_neg (by dsimp only; omega)] at q
    exact q
  have HM2 : ∀ (v : Value) (w : World), RvV w v ⟨ep, nx + 1, I⟩ → Calls Try.prog 69 #[v] w fun x w' => ∃ v', x = .returned (.tuple #[v', .int .i64 (nx + 1), .int .i64 0]) ∧ RvF w' w.heap.size v' ⟨ep, nx + 1 + 1, I⟩ ∧ Below w.heap.size w w' := fun v w h => by
    have q := prmint v ⟨ep, nx + 1, I⟩ w h HLEN.out
    rw [show Rv.mint ⟨ep, nx + 1, I⟩ = (⟨ep, nx + 1 + 1, I⟩, nx + 1, 0) from if_neg (by dsimp only; omega)] at q
    exact q
  have HM1 := Lib.hid HM1
  have HM2 := Lib.hid HM2
  have V1 := Lib.hid (show Rv.valid ⟨ep, nx + 1 + 1, I⟩ nx ep = true by unfold Rv.valid giveI; rw [decide_eq_true rfl, decide_eq_true (show 1 ≤ nx by omega), decide_eq_true (show nx < nx + 1 + 1 by omega), decide_eq_false (show ¬ nx ∈ I from fun q => by have := hlt _ q; omega)]; rfl)
  have V2 := Lib.hid (show Rv.valid ⟨ep, nx + 1 + 1, I⟩ (nx + 1) ep = true by unfold Rv.valid giveI; rw [decide_eq_true rfl, decide_eq_true (show 1 ≤ nx + 1 by omega), decide_eq_true (show nx + 1 < nx + 1 + 1 by omega), decide_eq_false (show ¬ nx + 1 ∈ I from fun q => by have := hlt _ q; omega)]; rfl)
  have V3 := Lib.hid (show Rv.valid ⟨ep, nx, I⟩ nx ep = false by unfold Rv.valid giveI; rw [decide_eq_false (show ¬ nx < nx by omega)]; simp)
  have hw : IntKind.i64.wrap (nx + 1) = nx + 1 := by rw [IntKind.wrap_i64]; omega
  clear h hr hok hnx hlen hrise hlt hl16
  go_enter Try.func13, Try.ntmps13
  go_wp2_with (first
    | (go_at_call 65; (with_reducible refine (prstart _).mono ?_); rintro x w1 ⟨rfl, hb⟩; have B1 := Lib.hid hb; clear hb)
    | (go_at_call 64; (with_reducible refine (HP.out _ w1 (P0.out w1) B1.out).mono ?_); rintro x w2 ⟨v2, rfl, ⟨a2, n2', c2, rfl, hl, -, -, -⟩, hb⟩; have L2 := Lib.hid (show Ls intE w2 a2 n2' c2 I from hl); have B2 := Lib.hid (B1.out.trans (hb.mono B1.out.size)); clear hl hb)
    | ((with_reducible refine alloc_row (o := ⟨some 3, _, _, _, _, _⟩) rfl _ rfl _ LZ.out ?_); intro w3 hr hb hz; have R3 := Lib.hid hr; have L3 := Lib.hid (L2.out.mono intOk hb); have B3 := Lib.hid (B2.out.trans (hb.mono B2.out.size)); clear hr hb hz)
    | ((with_reducible refine store_row (o := ⟨none, _, _, _, _, _⟩) rfl _ (.tmp 3) _ rfl w2.heap.size (rvC ep nx a2 n2' c2) ?_ ?_ 78 _ R3.out ?_ ?_ ?_ ?_); (focus go_simp); (focus (first | (go_simp; done) | (go_simp; rfl))); (focus (exact LZS.out)); (focus rfl); (focus (exact rv_one _ _ _ _ _)); intro w4 hr hu; have R4 := Lib.hid hr; have L4 := Lib.hid (L3.out.young (fun h b off e => Nat.ne_of_lt (L2.out.older h b off e)) hu (fun x hx => L3.out.hfit x hx)); have B4 := Lib.hid (B3.out.trans (hu.below B2.out.size)); have V4 := Lib.hid (show RvV w4 (.agg (rvC ep nx a2 n2' c2).toArray) ⟨ep, nx, I⟩ from ⟨a2, n2', c2, rfl, L4.out, IE.out, IX.out⟩); clear hr hu)
    | ((with_reducible refine load_row (o := ⟨some 14, _, _, _, _, _⟩) rfl _ _ rfl w2.heap.size ?_ _ (rvC ep nx a2 n2' c2) _ R4.out Try.underlying78 rfl ?_ ?_); (focus go_simp); (focus (exact LZS.out)))
    | (go_at_call 69; (with_reducible refine (HM1.out _ w4 V4.out).mono ?_); rintro x w5 ⟨v5, rfl, ⟨a5, n5, c5, rfl, hl, -, -, -⟩, hb⟩; have K5 := Lib.hid (show Ls intE w5 a5 n5 c5 I from hl); have L5 := Lib.hid (L4.out.mono intOk hb); have R5 := Lib.hid (R4.out.below hb R4.out.lt); have B5 := Lib.hid (B4.out.trans (hb.mono B4.out.size)); clear hl hb)
    | ((with_reducible refine alloc_row (o := ⟨some 4, _, _, _, _, _⟩) rfl _ rfl _ LZ.out ?_); intro w6 hr hb hz; have RA6 := Lib.hid hr; have R6 := Lib.hid (R5.out.below hb R5.out.lt); have L6 := Lib.hid (L5.out.mono intOk hb); have K6 := Lib.hid (K5.out.mono intOk hb); have B6 := Lib.hid (B5.out.trans (hb.mono B5.out.size)); clear hr hb hz)
    | ((with_reducible refine store_row (o := ⟨none, _, _, _, _, _⟩) rfl _ (.tmp 4) _ rfl w5.heap.size (rvC ep (nx + 1) a5 n5 c5) ?_ ?_ 78 _ RA6.out ?_ ?_ ?_ ?_); (focus go_simp); (focus (first | (go_simp; done) | (go_simp; rfl))); (focus (exact LZS.out)); (focus rfl); (focus (exact rv_one _ _ _ _ _)); intro w7 hr hu; have RA7 := Lib.hid hr; have R7 := Lib.hid (R6.out.upd hu (Nat.ne_of_lt R5.out.lt)); have L7 := Lib.hid (L6.out.young (fun h b off e => Nat.ne_of_lt (L5.out.older h b off e)) hu (fun x hx => L6.out.hfit x hx)); have K7 := Lib.hid (K6.out.young (fun h b off e => Nat.ne_of_lt (K5.out.older h b off e)) hu (fun x hx => K6.out.hfit x hx)); have B7 := Lib.hid (B6.out.trans (hu.below B5.out.size)); have V7 := Lib.hid (show RvV w7 (.agg (rvC ep (nx + 1) a5 n5 c5).toArray) ⟨ep, nx + 1, I⟩ from ⟨a5, n5, c5, rfl, K7.out, IE.out, IX1.out⟩); clear hr hu)
    | ((with_reducible refine load_row (o := ⟨some 20, _, _, _, _, _⟩) rfl _ _ rfl w5.heap.size ?_ _ (rvC ep (nx + 1) a5 n5 c5) _ RA7.out Try.underlying78 rfl ?_ ?_); (focus go_simp); (focus (exact LZS.out)))
    | (go_at_call 69; (with_reducible refine (HM2.out _ w7 V7.out).mono ?_); rintro x w8 ⟨v8, rfl, ⟨a8, n8, c8, rfl, hl, -, -, -⟩, hb⟩; have M8 := Lib.hid (show Ls intE w8 a8 n8 c8 I from hl); have L8 := Lib.hid (L7.out.mono intOk hb); have R8 := Lib.hid (R7.out.below hb R7.out.lt); have B8 := Lib.hid (B7.out.trans (hb.mono B7.out.size)); clear hl hb)
    | ((with_reducible refine alloc_row (o := ⟨some 7, _, _, _, _, _⟩) rfl _ rfl _ LZ.out ?_); intro w9 hr hb hz; have RB9 := Lib.hid hr; have R9 := Lib.hid (R8.out.below hb R8.out.lt); have L9 := Lib.hid (L8.out.mono intOk hb); have M9 := Lib.hid (M8.out.mono intOk hb); have B9 := Lib.hid (B8.out.trans (hb.mono B8.out.size)); clear hr hb hz)
    | ((with_reducible refine store_row (o := ⟨none, _, _, _, _, _⟩) rfl _ (.tmp 7) _ rfl w8.heap.size (rvC ep (nx + 1 + 1) a8 n8 c8) ?_ ?_ 78 _ RB9.out ?_ ?_ ?_ ?_); (focus go_simp); (focus (first | (go_simp; done) | (go_simp; rfl))); (focus (exact LZS.out)); (focus rfl); (focus (exact rv_one _ _ _ _ _)); intro w10 hr hu; have RB10 := Lib.hid hr; have R10 := Lib.hid (R9.out.upd hu (Nat.ne_of_lt R8.out.lt)); have L10 := Lib.hid (L9.out.young (fun h b off e => Nat.ne_of_lt (L8.out.older h b off e)) hu (fun x hx => L9.out.hfit x hx)); have M10 := Lib.hid (M9.out.young (fun h b off e => Nat.ne_of_lt (M8.out.older h b off e)) hu (fun x hx => M9.out.hfit x hx)); have B10 := Lib.hid (B9.out.trans (hu.below B8.out.size)); have V10 := Lib.hid (show RvV w10 (.agg (rvC ep (nx + 1 + 1) a8 n8 c8).toArray) ⟨ep, nx + 1 + 1, I⟩ from ⟨a8, n8, c8, rfl, M10.out, IE.out, IX2.out⟩); have U10 := Lib.hid (show RvV w10 (.agg (rvC ep nx a2 n2' c2).toArray) ⟨ep, nx, I⟩ from ⟨a2, n2', c2, rfl, L10.out, IE.out, IX.out⟩); obtain ⟨d0, d1, d2⟩ := hr.r3; clear hr hu)
    | ((with_reducible refine load_rowg (o := ⟨some 38, _, _, _, _, _⟩) 12 true 37 rfl _ _ rfl w8.heap.size _ (rvC ep (nx + 1 + 1) a8 n8 c8) _ RB10.out Try.underlying78 rfl ?_ ?_ ?_ ?_ ?_); (focus rfl); (focus go_simp); (focus go_simp); (focus (exact LZS.out)))
    | (go_at_call 67; (with_reducible refine (valid_si _ ⟨ep, nx + 1 + 1, I⟩ nx ep w10 V10.out IX.out true V1.out).mono ?_); rintro x w11 ⟨rfl, hb⟩; have RB11 := Lib.hid (RB10.out.below hb RB10.out.lt); have R11 := Lib.hid (R10.out.below hb R10.out.lt); have V11 := Lib.hid (V10.out.mono hb); have U11 := Lib.hid (U10.out.mono hb); have B11 := Lib.hid (B10.out.trans (hb.mono B10.out.size)); obtain ⟨f0, f1, f2⟩ := RB11.out.r3; clear hb)
    | ((with_reducible refine load_rowg (o := ⟨some 45, _, _, _, _, _⟩) 19 true 44 rfl _ _ rfl w8.heap.size _ (rvC ep (nx + 1 + 1) a8 n8 c8) _ RB11.out Try.underlying78 rfl ?_ ?_ ?_ ?_ ?_); (focus rfl); (focus go_simp); (focus go_simp); (focus (exact LZS.out)))
    | (go_at_call 67; (with_reducible refine (valid_si _ ⟨ep, nx + 1 + 1, I⟩ (nx + 1) ep w11 V11.out IX1.out true V2.out).mono ?_); rintro x w12 ⟨rfl, hb⟩; have R12 := Lib.hid (R11.out.below hb R11.out.lt); have U12 := Lib.hid (U11.out.mono hb); have B12 := Lib.hid (B11.out.trans (hb.mono B11.out.size)); obtain ⟨g0, g1, g2⟩ := R12.out.r3; clear hb)
    | ((with_reducible refine load_rowg (o := ⟨some 52, _, _, _, _, _⟩) 26 true 51 rfl _ _ rfl w2.heap.size _ (rvC ep nx a2 n2' c2) _ R12.out Try.underlying78 rfl ?_ ?_ ?_ ?_ ?_); (focus rfl); (focus go_simp); (focus go_simp); (focus (exact LZS.out)))
    | (go_at_call 67; (with_reducible refine (valid_si _ ⟨ep, nx, I⟩ nx ep w12 U12.out IX.out false V3.out).mono ?_); rintro x w13 ⟨rfl, hb⟩; have B13 := Lib.hid (B12.out.trans (hb.mono B12.out.size)); clear hb)
    | (go_at_call 57; (with_reducible refine (awake21 _).mono ?_); rintro x w14 ⟨rfl, hb⟩; have B14 := Lib.hid (B13.out.trans (hb.mono B13.out.size)); clear hb))
  go_ret
  exact ⟨by first | rfl | exact one (vbool (by simp)), B14.out⟩
end Go.Proofs.Ytiopcojkdglapaa.W
