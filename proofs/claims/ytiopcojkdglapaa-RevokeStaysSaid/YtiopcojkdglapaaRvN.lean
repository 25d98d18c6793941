/- LAYER 21 (revoke): the law RevokeStays. -/
import Derived.Test.YtiopcojkdglapaaRvM
import Derived.Test.YtiopcojkdglapaaSt
set_option linter.unusedSimpArgs false
set_option linter.unusedVariables false
namespace Go.Proofs.Ytiopcojkdglapaa.W
open Go Go.ChangeShapes Go.WideShapes Go.ChangeAt Go.RowKit
open Go.Proofs.Ytiopcojkdglapaa.S

theorem stay21 {x : Rv} {ep id : Int} (d : Do21) (h1 : ep ≤ x.ep) (h2 : x.ep = ep → id ∈ x.ids) : ep ≤ (d.on x).ep ∧ ((d.on x).ep = ep → id ∈ (d.on x).ids) := by
  unfold Do21.on
  split
  · unfold Rv.mint; split
    · exact ⟨h1, h2⟩
    · exact ⟨h1, h2⟩
  · split
    · unfold Rv.revoke; split
      · exact ⟨h1, h2⟩
      · split
        · exact ⟨h1, h2⟩
        · split
          · exact ⟨h1, h2⟩
          · exact ⟨h1, fun e => (mem_insI _ _ _).2 (.inr (h2 e))⟩
    · unfold Rv.bump; split
      · exact ⟨h1, h2⟩
      · exact ⟨by dsimp only; omega, fun e => by dsimp only at e; omega⟩
theorem stay_not {x : Rv} {ep id : Int} (h2 : x.ep = ep → id ∈ x.ids) : x.valid id ep = false := by
  unfold Rv.valid
  by_cases e : ep = x.ep
  · rw [decide_eq_true (h2 e.symm)]; simp
  · rw [decide_eq_false e]; simp
theorem revoke_or (r : Rv) (id : Int) : ((r.revoke id).2 = 1 ∨ (r.revoke id).2 = 7) ∨ ((r.revoke id).2 = 0 ∧ (r.revoke id).1.ep = r.ep ∧ id ∈ (r.revoke id).1.ids) := by
  unfold Rv.revoke
  split
  · exact .inl (.inl rfl)
  · split
    · exact .inr ⟨rfl, rfl, by assumption⟩
    · split
      · exact .inl (.inr rfl)
      · exact .inr ⟨rfl, rfl, (mem_insI _ _ _).2 (.inl rfl)⟩
/-- a part of one -/
theorem Ls.slice1 {α : Type} {E : El α} {w : World} {b off n c k : Nat} {L : List α} {x : α} (h : Ls E w (some ⟨b, off, none⟩) n c L) (hk : k < n) (hx : L[k]? = some x) : Ls E w (some ⟨b, off + k * E.k, none⟩) 1 (c - k) [x] := by
  have h1 := h.hle
  have h2 := h.hmax
  rcases h.hcells with h0 | ⟨b', off', e, hlt, hc⟩
  · omega
  · injection e with e
    injection e with e1 e2
    subst e1 e2
    refine ⟨rfl, by omega, by omega, fun y hy => by simp at hy; subst hy; exact h.hfit _ (List.mem_of_getElem? hx), (fun h => by cases h), .inr ⟨b, off + k * E.k, rfl, hlt, fun i y hi j v hj => ?_⟩⟩
    have hil := (List.getElem?_eq_some_iff.1 hi).1
    simp only [List.length_cons, List.length_nil] at hil
    obtain rfl : i = 0 := by omega
    simp at hi
    subst hi
    rw [Nat.zero_mul, Nat.add_zero]
    exact hc k x hx j v hj
set_option maxRecDepth 100000 in
set_option maxHeartbeats 16000000 in
theorem law_RevokeStays (a : Option Addr) (n c : Nat) (D : List Do21) (id : Int) (ma : Option Addr) (m mc : Nat) (E : List Do21) (w : World) (h : Ls do2E w a n c D) (hid' : (Lit.int .i64 id).wf = true) (hm : Ls do2E w ma m mc E) :
    Calls Try.prog 12 #[.slice a n c, .int .i64 id, .slice ma m mc] w fun e w' => e = .returned (.bool true) ∧ Below w.heap.size w w' := by
  have hid := bd hid'
  have H := Lib.hid h
  have HE := Lib.hid hm
  have hmm := hm.hmax
  have hml := hm.hle
  have LZS := Lib.hid rv_size
  have LZ := Lib.hid rv_zero
  have S0 := Lib.hid (show SI64 0 ∧ SI64 2 from ⟨⟨by decide, by decide⟩, ⟨by decide, by decide⟩⟩)
  have P0 := Lib.hid (show ∀ w', RvP (fun _ => True) w' (.agg (rvC 0 2 none 0 0).toArray) ⟨0, 2, []⟩ from fun w' => ⟨none, 0, 0, rfl, Ls.nil _, S0.out.1, S0.out.2, fun _ _ _ _ => trivial⟩)
  have hok := play_ok (D.take 40) sok
  obtain ⟨⟨ep, nx, I⟩, hr⟩ : ∃ r, playR ⟨0, 2, []⟩ (D.take 40) = r := ⟨_, rfl⟩
  have HP : ∀ (v : Value) (w' : World), RvP (fun _ => True) w' v ⟨0, 2, []⟩ → Below w.heap.size w w' → Calls Try.prog 64 #[v, .slice a n c] w' fun e w'' => ∃ v', e = .returned v' ∧ RvP (fun _ => True) w'' v' ⟨ep, nx, I⟩ ∧ Below w'.heap.size w' w'' := fun v w' hv hb => by
    rw [← hr]; exact play21 _ v _ a n c D w' hv sok (fun _ _ => trivial) (h.mono do2Ok hb)
  have HP := Lib.hid HP
  rw [hr] at hok
  have hsi := rv_si hok
  have IE := Lib.hid (show SI64 ep from hsi.1)
  have IX := Lib.hid (show SI64 nx from hsi.2)
  have I0 := Lib.hid (show SI64 id from hid)
  have hlen := rv_len hok
  have hok2 := revoke_ok hok id
  have hor := revoke_or ⟨ep, nx, I⟩ id
  obtain ⟨⟨r2, er⟩, hre⟩ : ∃ q, Rv.revoke ⟨ep, nx, I⟩ id = q := ⟨_, rfl⟩
  have HRV : ∀ (v : Value) (w : World), RvV w v ⟨ep, nx, I⟩ → Calls Try.prog 66 #[v, .int .i64 id] w fun x w' => ∃ v', x = .returned (.tuple #[v', .int .i64 er]) ∧ RvF w' w.heap.size v' r2 ∧ Below w.heap.size w w' := fun v w h => by
    have q := prrevoke v ⟨ep, nx, I⟩ id w h I0.out hlen
    rw [hre] at q
    exact q
  have HRV := Lib.hid HRV
  rw [hre] at hor hok2
  have OK2 := Lib.hid (show r2.ok = true from hok2)
  dsimp only at hor
  clear h hm hr hok hsi hlen hre hok2 hid hid'
  rcases hor with (rfl | rfl) | ⟨rfl, he, hin⟩
  · go_enter Try.func12, Try.ntmps12
    go_wp2_with (first
      | (go_at_call 65; (with_reducible refine (prstart _).mono ?_); rintro x w1 ⟨rfl, hb⟩; have B1 := Lib.hid hb; clear hb)
      | (go_at_call 64; (with_reducible refine (HP.out _ w1 (P0.out w1) B1.out).mono ?_); rintro x w2 ⟨v2, rfl, ⟨a2, n2', c2, rfl, hl, -, -, -⟩, hb⟩; have L2 := Lib.hid (show Ls intE w2 a2 n2' c2 I from hl); have B2 := Lib.hid (B1.out.trans (hb.mono B1.out.size)); clear hl hb)
      | ((with_reducible refine alloc_row (o := ⟨some 7, _, _, _, _, _⟩) rfl _ rfl _ LZ.out ?_); intro w3 hr hb hz; have R3 := Lib.hid hr; have L3 := Lib.hid (L2.out.mono intOk hb); have B3 := Lib.hid (B2.out.trans (hb.mono B2.out.size)); clear hr hb hz)
      | ((with_reducible refine store_row (o := ⟨none, _, _, _, _, _⟩) rfl _ (.tmp 7) _ rfl w2.heap.size (rvC ep nx a2 n2' c2) ?_ ?_ 78 _ R3.out ?_ ?_ ?_ ?_); (focus go_simp); (focus (first | (go_simp; done) | (go_simp; rfl))); (focus (exact LZS.out)); (focus rfl); (focus (exact rv_one _ _ _ _ _)); intro w4 hr hu; have R4 := Lib.hid hr; obtain ⟨d0, d1, d2⟩ := hr.r3; have L4 := Lib.hid (L3.out.young (fun h b off e => Nat.ne_of_lt (L2.out.older h b off e)) hu (fun x hx => L3.out.hfit x hx)); have B4 := Lib.hid (B3.out.trans (hu.below B2.out.size)); have V4 := Lib.hid (show RvV w4 (.agg (rvC ep nx a2 n2' c2).toArray) ⟨ep, nx, I⟩ from ⟨a2, n2', c2, rfl, L4.out, IE.out, IX.out⟩); clear hr hu)
      | ((with_reducible refine load_row (o := ⟨some 18, _, _, _, _, _⟩) rfl _ _ rfl w2.heap.size ?_ _ (rvC ep nx a2 n2' c2) _ R4.out Try.underlying78 rfl ?_ ?_); (focus go_simp); (focus (exact LZS.out)))
      | (go_at_call 66; (with_reducible refine (HRV.out _ w4 V4.out).mono ?_); rintro x w5 ⟨v5, rfl, ⟨a5, n5, c5, rfl, hl, -, -, -⟩, hb⟩; have L5 := Lib.hid hl; have B5 := Lib.hid (B4.out.trans (hb.mono B4.out.size)); clear hl hb d0 d1 d2)
      | ((with_reducible refine alloc_row (o := ⟨some 9, _, _, _, _, _⟩) rfl _ rfl _ LZ.out ?_); intro w6 hr hb hz; have R6 := Lib.hid hr; have L6 := Lib.hid (L5.out.mono intOk hb); have B6 := Lib.hid (B5.out.trans (hb.mono B5.out.size)); clear hr hb hz)
      | ((with_reducible refine store_row (o := ⟨none, _, _, _, _, _⟩) rfl _ (.tmp 9) _ rfl w5.heap.size (rvC r2.ep r2.nx a5 n5 c5) ?_ ?_ 78 _ R6.out ?_ ?_ ?_ ?_); (focus go_simp); (focus (first | (go_simp; done) | (go_simp; rfl))); (focus (exact LZS.out)); (focus rfl); (focus (exact rv_one _ _ _ _ _)); intro w7 hr hu; have R7 := Lib.hid hr; have L7 := Lib.hid (L6.out.young (fun h b off e => Nat.ne_of_lt (L5.out.older h b off e)) hu (fun x hx => L6.out.hfit x hx)); have B7 := Lib.hid (B6.out.trans (hu.below B5.out.size)); clear hr hu)
      | (go_at_call 57; (with_reducible refine (awake21 _).mono ?_); rintro x w14 ⟨rfl, hb⟩; have B14 := Lib.hid (B7.out.trans (hb.mono B7.out.size)); clear hb))
    go_ret
    exact ⟨by first | rfl | exact one (vbool (by simp)), B14.out⟩
  · go_enter Try.func12, Try.ntmps12
    go_wp2_with (first
      | (go_at_call 65; (with_reducible refine (prstart _).mono ?_); rintro x w1 ⟨rfl, hb⟩; have B1 := Lib.hid hb; clear hb)
      | (go_at_call 64; (with_reducible refine (HP.out _ w1 (P0.out w1) B1.out).mono ?_); rintro x w2 ⟨v2, rfl, ⟨a2, n2', c2, rfl, hl, -, -, -⟩, hb⟩; have L2 := Lib.hid (show Ls intE w2 a2 n2' c2 I from hl); have B2 := Lib.hid (B1.out.trans (hb.mono B1.out.size)); clear hl hb)
      | ((with_reducible refine alloc_row (o := ⟨some 7, _, _, _, _, _⟩) rfl _ rfl _ LZ.out ?_); intro w3 hr hb hz; have R3 := Lib.hid hr; have L3 := Lib.hid (L2.out.mono intOk hb); have B3 := Lib.hid (B2.out.trans (hb.mono B2.out.size)); clear hr hb hz)
      | ((with_reducible refine store_row (o := ⟨none, _, _, _, _, _⟩) rfl _ (.tmp 7) _ rfl w2.heap.size (rvC ep nx a2 n2' c2) ?_ ?_ 78 _ R3.out ?_ ?_ ?_ ?_); (focus go_simp); (focus (first | (go_simp; done) | (go_simp; rfl))); (focus (exact LZS.out)); (focus rfl); (focus (exact rv_one _ _ _ _ _)); intro w4 hr hu; have R4 := Lib.hid hr; obtain ⟨d0, d1, d2⟩ := hr.r3; have L4 := Lib.hid (L3.out.young (fun h b off e => Nat.ne_of_lt (L2.out.older h b off e)) hu (fun x hx => L3.out.hfit x hx)); have B4 := Lib.hid (B3.out.trans (hu.below B2.out.size)); have V4 := Lib.hid (show RvV w4 (.agg (rvC ep nx a2 n2' c2).toArray) ⟨ep, nx, I⟩ from ⟨a2, n2', c2, rfl, L4.out, IE.out, IX.out⟩); clear hr hu)
      | ((with_reducible refine load_row (o := ⟨some 18, _, _, _, _, _⟩) rfl _ _ rfl w2.heap.size ?_ _ (rvC ep nx a2 n2' c2) _ R4.out Try.underlying78 rfl ?_ ?_); (focus go_simp); (focus (exact LZS.out)))
      | (go_at_call 66; (with_reducible refine (HRV.out _ w4 V4.out).mono ?_); rintro x w5 ⟨v5, rfl, ⟨a5, n5, c5, rfl, hl, -, -, -⟩, hb⟩; have L5 := Lib.hid hl; have B5 := Lib.hid (B4.out.trans (hb.mono B4.out.size)); clear hl hb d0 d1 d2)
      | ((with_reducible refine alloc_row (o := ⟨some 9, _, _, _, _, _⟩) rfl _ rfl _ LZ.out ?_); intro w6 hr hb hz; have R6 := Lib.hid hr; have L6 := Lib.hid (L5.out.mono intOk hb); have B6 := Lib.hid (B5.out.trans (hb.mono B5.out.size)); clear hr hb hz)
      | ((with_reducible refine store_row (o := ⟨none, _, _, _, _, _⟩) rfl _ (.tmp 9) _ rfl w5.heap.size (rvC r2.ep r2.nx a5 n5 c5) ?_ ?_ 78 _ R6.out ?_ ?_ ?_ ?_); (focus go_simp); (focus (first | (go_simp; done) | (go_simp; rfl))); (focus (exact LZS.out)); (focus rfl); (focus (exact rv_one _ _ _ _ _)); intro w7 hr hu; have R7 := Lib.hid hr; have L7 := Lib.hid (L6.out.young (fun h b off e => Nat.ne_of_lt (L5.out.older h b off e)) hu (fun x hx => L6.out.hfit x hx)); have B7 := Lib.hid (B6.out.trans (hu.below B5.out.size)); clear hr hu)
      | (go_at_call 57; (with_reducible refine (awake21 _).mono ?_); rintro x w14 ⟨rfl, hb⟩; have B14 := Lib.hid (B7.out.trans (hb.mono B7.out.size)); clear hb))
    go_ret
    exact ⟨by first | rfl | exact one (vbool (by simp)), B14.out⟩
  · have HEP := Lib.hid he
    have HIN := Lib.hid hin
    clear he hin
    go_enter Try.func12, Try.ntmps12
    go_wp2_with (first
      | (go_at_call 65; (with_reducible refine (prstart _).mono ?_); rintro x w1 ⟨rfl, hb⟩; have B1 := Lib.hid hb; clear hb)
      | (go_at_call 64; (with_reducible refine (HP.out _ w1 (P0.out w1) B1.out).mono ?_); rintro x w2 ⟨v2, rfl, ⟨a2, n2', c2, rfl, hl, -, -, -⟩, hb⟩; have L2 := Lib.hid (show Ls intE w2 a2 n2' c2 I from hl); have B2 := Lib.hid (B1.out.trans (hb.mono B1.out.size)); clear hl hb)
      | ((with_reducible refine alloc_row (o := ⟨some 7, _, _, _, _, _⟩) rfl _ rfl _ LZ.out ?_); intro w3 hr hb hz; have R3 := Lib.hid hr; have L3 := Lib.hid (L2.out.mono intOk hb); have B3 := Lib.hid (B2.out.trans (hb.mono B2.out.size)); clear hr hb hz)
      | ((with_reducible refine store_row (o := ⟨none, _, _, _, _, _⟩) rfl _ (.tmp 7) _ rfl w2.heap.size (rvC ep nx a2 n2' c2) ?_ ?_ 78 _ R3.out ?_ ?_ ?_ ?_); (focus go_simp); (focus (first | (go_simp; done) | (go_simp; rfl))); (focus (exact LZS.out)); (focus rfl); (focus (exact rv_one _ _ _ _ _)); intro w4 hr hu; have R4 := Lib.hid hr; obtain ⟨d0, d1, d2⟩ := hr.r3; have L4 := Lib.hid (L3.out.young (fun h b off e => Nat.ne_of_lt (L2.out.older h b off e)) hu (fun x hx => L3.out.hfit x hx)); have B4 := Lib.hid (B3.out.trans (hu.below B2.out.size)); have V4 := Lib.hid (show RvV w4 (.agg (rvC ep nx a2 n2' c2).toArray) ⟨ep, nx, I⟩ from ⟨a2, n2', c2, rfl, L4.out, IE.out, IX.out⟩); clear hr hu)
      | ((with_reducible refine load_row (o := ⟨some 18, _, _, _, _, _⟩) rfl _ _ rfl w2.heap.size ?_ _ (rvC ep nx a2 n2' c2) _ R4.out Try.underlying78 rfl ?_ ?_); (focus go_simp); (focus (exact LZS.out)))
      | (go_at_call 66; (with_reducible refine (HRV.out _ w4 V4.out).mono ?_); rintro x w5 ⟨v5, rfl, ⟨a5, n5, c5, rfl, hl, -, -, -⟩, hb⟩; have L5 := Lib.hid hl; have B5 := Lib.hid (B4.out.trans (hb.mono B4.out.size)); clear hl hb d0 d1 d2)
      | ((with_reducible refine alloc_row (o := ⟨some 9, _, _, _, _, _⟩) rfl _ rfl _ LZ.out ?_); intro w6 hr hb hz; have R6 := Lib.hid hr; have L6 := Lib.hid (L5.out.mono intOk hb); have B6 := Lib.hid (B5.out.trans (hb.mono B5.out.size)); clear hr hb hz)
      | ((with_reducible refine store_row (o := ⟨none, _, _, _, _, _⟩) rfl _ (.tmp 9) _ rfl w5.heap.size (rvC r2.ep r2.nx a5 n5 c5) ?_ ?_ 78 _ R6.out ?_ ?_ ?_ ?_); (focus go_simp); (focus (first | (go_simp; done) | (go_simp; rfl))); (focus (exact LZS.out)); (focus rfl); (focus (exact rv_one _ _ _ _ _)); intro w7 hr hu; have R7 := Lib.hid hr; have L7 := Lib.hid (L6.out.young (fun h b off e => Nat.ne_of_lt (L5.out.older h b off e)) hu (fun x hx => L6.out.hfit x hx)); have B7 := Lib.hid (B6.out.trans (hu.below B5.out.size)); clear hr hu))
    go_loopw [36] (fun i wr => ∃ (k : Nat) (x : Rv) (a' : Option Addr) (n' c' : Nat), i = .int .i64 (k : Int) ∧ k ≤ m ∧ Hid (x.ok = true) ∧ Hid (ep ≤ x.ep ∧ (x.ep = ep → id ∈ x.ids)) ∧ Hid (Row wr w5.heap.size 78 (rvC x.ep x.nx a' n' c')) ∧ Hid (Ls intE wr a' n' c' x.ids) ∧ Hid (0 < n' → ∀ b off, a' = some ⟨b, off, none⟩ → b ≠ w5.heap.size) ∧ Hid (Below w.heap.size w wr)) (fun i _ => m - (intOf i).toNat)
    case atStart => exact ⟨0, r2, a5, n5, c5, rfl, Nat.zero_le _, OK2, Lib.hid ⟨by rw [HEP.out]; exact Int.le_refl _, fun _ => HIN.out⟩, R7, L7, Lib.hid (fun h b off e => Nat.ne_of_lt (L5.out.older h b off e)), B7⟩
    case round =>
      obtain ⟨k, x, a', n', c', rfl, hk, OK, ST, R, LL, HNE, B⟩ := hrel
      by_cases hlt : k < m
      · obtain ⟨b, off, d, rfl, hx, -, -⟩ := HE.out.at do2Ok B.out k hlt
        have HX := Lib.hid hx
        have g1 : (0 : Int) ≤ (k : Int) := by omega
        have g2 : (k : Int) < (m : Int) := by omega
        clear hx
        by_cases h40 : (40 : Int) ≤ (k : Int)
        · go_wp2_with (first
      | (go_at_call 57; (with_reducible refine (awake21 _).mono ?_); rintro x w14 ⟨rfl, hb⟩; have B14 := Lib.hid (B.out.trans (hb.mono B.out.size)); clear hb))
          go_ret
          exact ⟨by first | rfl | exact one (vbool (by simp)), B14.out⟩
        · have SI := Lib.hid (rv_si OK.out)
          have g3 : (k : Int) ≤ (k : Int) + 1 := by omega
          have g4 : (k : Int) + 1 ≤ (mc : Int) := by omega
          have g5 : ¬ (mc = k) := by omega
          have g6 : ((k : Int) + 1).toNat = k + 1 := by omega
          have g7 : IntKind.i64.wrap ((k : Int) + 1) = (k : Int) + 1 := by rw [IntKind.wrap_i64]; omega
          have g8 : (0 : Int) ≤ (k : Int) + 1 := by omega
          have g9 : k + 1 - k = 1 := by omega
          obtain ⟨x2, hx2⟩ : ∃ x2, d.on x = x2 := ⟨_, rfl⟩
          have ST2 := Lib.hid (show ep ≤ x2.ep ∧ (x2.ep = ep → id ∈ x2.ids) by rw [← hx2]; exact stay21 d ST.out.1 ST.out.2)
          have OK2' := Lib.hid (show x2.ok = true by rw [← hx2]; exact on_ok21 OK.out d)
          have HPL : ∀ (v : Value) (w' : World), RvP (fun b => b ≠ w5.heap.size) w' v x → w5.heap.size < w'.heap.size → Below w.heap.size w w' → Calls Try.prog 64 #[v, .slice (some ⟨b, off + k * 2, none⟩) 1 (mc - k)] w' fun e w'' => ∃ v', e = .returned v' ∧ RvP (fun b => b ≠ w5.heap.size) w'' v' x2 ∧ Below w'.heap.size w' w'' := fun v w' hv hg hb => by
            have q := play21 _ v x _ _ _ [d] w' hv OK.out (fun b hb => Nat.ne_of_gt (Nat.lt_of_lt_of_le hg hb)) ((HE.out.mono do2Ok hb).slice1 hlt HX.out)
            rw [show playR x ([d].take 40) = x2 from hx2] at q
            exact q
          have HPL := Lib.hid HPL
          clear hx2
          go_wp2_with fail
          refine region_t (fun v => Below wr.heap.size wr v) 7 (by kernel_rfl) (by kernel_rfl) (by kernel_rfl) (Below.refl _ _).drew ?_
          obtain ⟨wd, hwd⟩ : ∃ wd, wr.drew = wd := ⟨_, rfl⟩
          have D0 : Hid (Below wr.heap.size wr wd) := Lib.hid (by rw [← hwd]; exact (Below.refl _ _).drew)
          rw [hwd]
          clear hwd
          have RD := Lib.hid (R.out.below D0.out R.out.lt)
          have VD := Lib.hid (show RvP (fun b => b ≠ w5.heap.size) wd (.agg (rvC x.ep x.nx a' n' c').toArray) x from ⟨a', n', c', rfl, LL.out.mono intOk D0.out, SI.out.1, SI.out.2, HNE.out⟩)
          have BD := Lib.hid (B.out.trans (D0.out.mono B.out.size))
          (refine t_read 0 rfl (by kernel_rfl) (by kernel_rfl) (by kernel_rfl) (t_free rfl) ?_ ?_ ?_; rotate_left; (focus (intro v hv; refine run_cells 78 (.tmp 9) ?_ w5.heap.size 0 ?_ (rvC x.ep x.nx a' n' c') _ (fun j' u' hj => by rw [hv.cell (p := ⟨w5.heap.size, 0 + j', none⟩) R.out.lt, Nat.zero_add, R.out.cellV]; exact hj) Try.underlying78 rfl rv_size; (focus rfl); go_simp)); go_simp)
          (refine t_read 1 rfl (by kernel_rfl) (by kernel_rfl) (by kernel_rfl) (t_free rfl) ?_ ?_ ?_; rotate_left; (focus (intro v hv; go_simp; rfl)); go_simp)
          (refine t_read 2 rfl (by kernel_rfl) (by kernel_rfl) (by kernel_rfl) (t_free rfl) ?_ ?_ ?_; rotate_left; (focus (intro v hv; go_simp; rfl)); go_simp)
          (refine t_read 3 rfl (by kernel_rfl) (by kernel_rfl) (by kernel_rfl) (t_free rfl) ?_ ?_ ?_; rotate_left; (focus (intro v hv; go_simp; rfl)); go_simp)
          (refine t_read 4 rfl (by kernel_rfl) (by kernel_rfl) (by kernel_rfl) (t_free rfl) ?_ ?_ ?_; rotate_left; (focus (intro v hv; go_simp; rfl)); go_simp)
          (refine t_read 5 rfl (by kernel_rfl) (by kernel_rfl) (by kernel_rfl) (t_free rfl) ?_ ?_ ?_; rotate_left; (focus (intro v hv; go_simp; rfl)); go_simp)
          (refine t_call 6 rfl (by kernel_rfl) rfl (t_free rfl) 64 ?_ ?_ ?_; rotate_left; (focus (go_simp; rfl)))
          refine (HPL.out _ wd VD.out RD.out.lt BD.out).mono ?_
          rintro e w8 ⟨v8, rfl, ⟨a8, n8, c8, rfl, hl8, hs8, hs9, hp8⟩, hb8⟩
          have R8 := Lib.hid (RD.out.below hb8 RD.out.lt)
          have L8 := Lib.hid hl8
          have HP8 := Lib.hid hp8
          have B8 := Lib.hid (BD.out.trans (hb8.mono BD.out.size))
          have D8 := Lib.hid (D0.out.trans (hb8.mono D0.out.size))
          clear hl8 hs8 hs9 hp8 hb8
          refine ⟨_, rfl, D8.out, ?_⟩
          go_simp
          (refine t_last 7 rfl (by kernel_rfl) rfl (by kernel_rfl) (by kernel_rfl) ?_; intro K hK)
          refine store_row rfl _ _ _ rfl w5.heap.size (rvC x2.ep x2.nx a8 n8 c8) (by go_simp) (by go_simp) 78 _ R8.out LZS.out rfl (rv_one _ _ _ _ _) ?_
          intro w9 hr9 hu9
          have R9 := Lib.hid hr9
          have L9 := Lib.hid (L8.out.young (fun h b off e => HP8.out h b off e) hu9 (fun x hx => L8.out.hfit x hx))
          have B9 := Lib.hid (B8.out.trans (hu9.below B5.out.size))
          have SI2 := Lib.hid (rv_si OK2'.out)
          have V9 := Lib.hid (show RvV w9 (.agg (rvC x2.ep x2.nx a8 n8 c8).toArray) x2 from ⟨a8, n8, c8, rfl, L9.out, SI2.out.1, SI2.out.2⟩)
          clear hr9 hu9
          refine hK _ _ ?_
          go_simp
          have HVN := Lib.hid (stay_not ST2.out.2)
          have HCK : ∀ (w' : World), RvV w' (.agg (rvC x2.ep x2.nx a8 n8 c8).toArray) x2 → Calls Try.prog 68 #[.agg (rvC x2.ep x2.nx a8 n8 c8).toArray] w' fun e w'' => e = .returned (.bool true) ∧ Below w'.heap.size w' w'' := fun w' h => by
            have q := prcheck _ x2 w' h
            rw [OK2'.out] at q
            exact q
          have HCK := Lib.hid HCK
          have gep := ST2.out.1
          go_wp2_with (first
            | ((with_reducible refine load_row (o := ⟨some 48, _, _, _, _, _⟩) rfl _ _ rfl w5.heap.size ?_ _ (rvC x2.ep x2.nx a8 n8 c8) _ R9.out Try.underlying78 rfl ?_ ?_); (focus go_simp); (focus (exact LZS.out)))
            | (go_at_call 67; (with_reducible refine (valid_si _ x2 id ep w9 V9.out I0.out false HVN.out).mono ?_); rintro e w10 ⟨rfl, hb⟩; have R10 := Lib.hid (R9.out.below hb R9.out.lt); have L10 := Lib.hid (L9.out.mono intOk hb); have V10 := Lib.hid (V9.out.mono hb); have B10 := Lib.hid (B9.out.trans (hb.mono B9.out.size)); clear hb)
            | ((with_reducible refine load_rowg (o := ⟨some 53, _, _, _, _, _⟩) 4 false 52 rfl _ _ rfl w5.heap.size _ (rvC x2.ep x2.nx a8 n8 c8) _ R10.out Try.underlying78 rfl ?_ ?_ ?_ ?_ ?_); (focus rfl); (focus go_simp); (focus go_simp); (focus (exact LZS.out)))
            | (go_at_call 68; (with_reducible refine (HCK.out w10 V10.out).mono ?_); rintro e w11 ⟨rfl, hb⟩; have R11 := Lib.hid (R10.out.below hb R10.out.lt); have L11 := Lib.hid (L10.out.mono intOk hb); have B11 := Lib.hid (B10.out.trans (hb.mono B10.out.size)); obtain ⟨f0, f1, f2⟩ := R11.out.r3; clear hb))
          go_roundw
          case rel => exact ⟨k + 1, x2, a8, n8, c8, vint (by omega), by omega, OK2', ST2, R11, L11, HP8, B11⟩
          case measure => simp [intOf]; omega
      · obtain rfl : m = k := by omega
        go_wp2_with (first
      | (go_at_call 57; (with_reducible refine (awake21 _).mono ?_); rintro x w14 ⟨rfl, hb⟩; have B14 := Lib.hid (B.out.trans (hb.mono B.out.size)); clear hb))
        go_ret
        exact ⟨by first | rfl | exact one (vbool (by simp)), B14.out⟩
end Go.Proofs.Ytiopcojkdglapaa.W
