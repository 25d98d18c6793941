/- LAYER 20 (manifest): Piece, Bytes, fits, order of the program; cmp.Compare of strings, cmp.Or. LAYER 20 (manifest): lists.Rise, Check of the program; copies: slices.Clone of pieces and of snapshots, own. -/
import Derived.Test.YtjolmjbhpokgmaaGreatMfO
import Derived.Test.YtjolmjbhpokgmaaGreatRf
import Derived.Test.YtjolmjbhpokgmaaGreatRun
import Derived.Test.YtjolmjbhpokgmaaGreatSt
import Derived.Test.YtjolmjbhpokgmaaGreatCavW4
set_option linter.unusedSimpArgs false
set_option linter.unusedVariables false
namespace Go.Proofs.YtjolmjbhpokgmaaGreat.W
open Go Go.ChangeShapes Go.WideShapes Go.ChangeAt Go.RowKit
open Go.Proofs.YtjolmjbhpokgmaaGreat.P (enc dec)
open Go.Proofs.YtjolmjbhpokgmaaGreat.S

set_option maxRecDepth 100000 in
set_option maxHeartbeats 4000000 in
theorem ppiece (p : Pc) (w : World) (h : p.fit) : Calls Tryz.prog 66 #[.agg p.cells.toArray] w fun x w' => x = .returned (.bool (pokM p)) ∧ Below w.heap.size w w' := by
  have hs := h.sum
  obtain ⟨sm, sz⟩ := p
  dsimp only at hs
  obtain ⟨b0, h0⟩ : ∃ b, decide (sm.size = 32) = b := ⟨_, rfl⟩
  obtain ⟨b1, h1⟩ : ∃ b, in64 sz 1 256 = b := ⟨_, rfl⟩
  have HX := Lib.hid (show pokM ⟨sm, sz⟩ = (b0 && b1) by unfold pokM; rw [h0, h1])
  have gb : (((sm.size : Nat) : Int) == 32) = b0 := by rw [← h0, Bool.eq_iff_iff]; simp; omega
  have H1 := Lib.hid h1
  clear h h0 h1
  rw [show (Pc.cells ⟨sm, sz⟩) = [.string sm, .int .i64 sz] from rfl]
  cases b0
  all_goals
    go_enter Tryz.func66, Tryz.ntmps66
    go_wp2_with (first
      | (with_reducible refine box_row (o := ⟨some 1, _, _, _, _, _⟩) rfl _ _ rfl [.string sm, .int .i64 sz] rfl ?_; intro w1 hr1 hb1 hz1; obtain ⟨c0, c1⟩ := hr1.l2; have B1 := Lib.hid hb1; clear hr1 hb1 hz1)
      | (go_at_call 87; with_reducible refine (pin sz 1 256 _ H1.out _).mono ?_; rintro x w' ⟨rfl, rfl⟩))
    go_ret
    exact ⟨one (vbool (by rw [HX.out]; simp)), B1.out⟩
theorem sumM_next (P : List Pc) (k : Nat) (p : Pc) (h : P[k]? = some p) : sumM (P.take (k + 1)) = sumM (P.take k) + p.size := by
  obtain ⟨h1, h2⟩ := List.getElem?_eq_some_iff.1 h
  rw [List.take_succ_eq_append_getElem h1, h2]
  simp [sumM]
theorem allM_next (P : List Pc) (k : Nat) (p : Pc) (h : P[k]? = some p) : (P.take (k + 1)).all pokM = ((P.take k).all pokM && pokM p) := by
  obtain ⟨h1, h2⟩ := List.getElem?_eq_some_iff.1 h
  rw [List.take_succ_eq_append_getElem h1, h2]
  simp
theorem allM_take (P : List Pc) (k : Nat) (h : P.all pokM = true) : (P.take k).all pokM = true := by
  rw [List.all_eq_true] at h ⊢
  exact fun s hs => h s (List.mem_of_mem_take hs)
theorem sumM_lim (P : List Pc) (h : P.all pokM = true) : 0 ≤ sumM P ∧ sumM P ≤ (P.length : Int) * 256 := by
  rw [List.all_eq_true] at h
  induction P with
  | nil => simp [sumM]
  | cons p P ih =>
    have h1 := h p (by simp)
    unfold pokM at h1
    simp only [Bool.and_eq_true, in64_iff] at h1
    have h2 := ih (fun x hx => h x (by simp [hx]))
    simp only [sumM, List.map_cons, List.sum_cons, List.length_cons] at h2 ⊢
    omega
set_option maxRecDepth 100000 in
set_option maxHeartbeats 8000000 in
theorem pbytes (a : Option Addr) (n c : Nat) (P : List Pc) (w : World) (h : Ls pcE w a n c P) :
    Calls Tryz.prog 72 #[.slice a n c] w fun x w' => x = .returned (.tuple #[.int .i64 (bytesM P).1, .int .i64 (bytesM P).2]) ∧ Below w.heap.size w w' := by
  have H := Lib.hid h
  have HL := Lib.hid h.hlen
  have hm := h.hmax
  have hle := h.hle
  have SZ := Lib.hid pc_size
  have MZ := Lib.hid pc_zero
  obtain ⟨v, hv⟩ : ∃ v, bytesM P = v := ⟨_, rfl⟩
  have HV := Lib.hid (show (if n ≤ 8 ∧ P.all pokM = true then (sumM P, (0 : Int)) else (0, 1)) = v by rw [← hv, ← h.hlen]; rfl)
  rw [hv]
  clear h hv
  by_cases h8 : n ≤ 8
  case neg =>
    have HF := Lib.hid (show v = (0, 1) by rw [← HV.out, if_neg (fun e => h8 e.1)])
    have g8 : (8 : Int) < (n : Int) := by omega
    clear HV
    rw [HF.out]
    go_enter Tryz.func72, Tryz.ntmps72
    go_wp2_with fail
    go_ret2
    exact ⟨rfl, Below.refl _ _⟩
  have g8 : ¬ (8 : Int) < (n : Int) := by omega
  go_enter Tryz.func72, Tryz.ntmps72
  go_wp2_with fail
  go_loopw [4, 12] (fun s i wr => ∃ k : Nat, i = .int .i64 (k : Int) ∧ k ≤ n ∧ s = .int .i64 (sumM (P.take k)) ∧ Hid ((P.take k).all pokM = true) ∧ Hid (Below w.heap.size w wr)) (fun _ i _ => n - (intOf i).toNat)
  case atStart => exact ⟨0, rfl, Nat.zero_le _, rfl, Lib.hid rfl, Lib.hid (Below.refl _ _)⟩
  case round =>
    obtain ⟨k, rfl, hk, rfl, A, B⟩ := hrel
    have hsm := sumM_lim _ A.out
    have htl : (P.take k).length ≤ 8 := by rw [List.length_take, HL.out]; omega
    obtain ⟨sm0, hs⟩ : ∃ s, sumM (P.take k) = s := ⟨_, rfl⟩
    rw [hs] at hsm ⊢
    have hsb : 0 ≤ sm0 ∧ sm0 ≤ 2048 := ⟨hsm.1, by have := hsm.2; have : ((P.take k).length : Int) ≤ 8 := (by omega); omega⟩
    have HSM := Lib.hid hs
    clear hs hsm htl
    by_cases hlt : k < n
    · obtain ⟨b, off, x, rfl, hx, hcell, hfx⟩ := H.out.at pcOk B.out k hlt
      have HONE := Lib.hid (fun w => ppiece x w hfx)
      have hnx := allM_next P k x hx
      rw [A.out, Bool.true_and] at hnx
      have hsz : pokM x = true → 1 ≤ x.size ∧ x.size ≤ 256 := fun e => by unfold pokM at e; simp only [Bool.and_eq_true, in64_iff] at e; exact e.2
      have HS := Lib.hid (show sumM (P.take (k + 1)) = sm0 + x.size by rw [sumM_next P k x hx, HSM.out])
      have hbad : (P.take (k + 1)).all pokM = false → v = (0, 1) := fun h => by
        rw [← HV.out, if_neg]
        rintro ⟨-, e⟩
        rw [allM_take P (k + 1) e] at h; cases h
      obtain ⟨ok, hok⟩ : ∃ b, pokM x = b := ⟨_, rfl⟩
      rw [hok] at hnx hsz
      have HOK := Lib.hid hok
      obtain ⟨sm, sz⟩ := x
      dsimp only at hsz HS
      have XC := Lib.hid hcell
      have g1 : (0 : Int) ≤ (k : Int) := by omega
      have g2 : (k : Int) < (n : Int) := by omega
      clear hx hcell hfx hok
      rcases ok with _ | _
      · have HF := Lib.hid (hbad hnx)
        clear hnx hbad hsz
        go_wp2_with (first
          | ((with_reducible refine load_cells (o := ⟨some 15, _, _, _, _, _⟩) rfl _ _ rfl b (off + k * 2) ?_ [.string sm, .int .i64 sz] _ XC.out Tryz.underlying47 rfl ?_ ?_); (focus go_simp); (focus (exact SZ.out)))
          | ((with_reducible refine alloc_row (o := ⟨some 6, _, _, _, _, _⟩) rfl _ rfl _ MZ.out ?_); intro w5 hr hb hz; have R5 := Lib.hid hr; have B5 := Lib.hid (B.out.trans (hb.mono B.out.size)); clear hr hb hz)
          | ((with_reducible refine store_row (o := ⟨none, _, _, _, _, _⟩) rfl _ (.tmp 6) _ rfl wr.heap.size [.string sm, .int .i64 sz] ?_ ?_ 47 _ R5.out ?_ ?_ ?_ ?_); (focus go_simp); (focus (first | (go_simp; done) | (go_simp; rfl))); (focus (exact SZ.out)); (focus rfl); (focus (exact pc_one ⟨sm, sz⟩)); intro w6 hr2 hu2; have R6 := Lib.hid hr2; have B6 := Lib.hid (B5.out.trans (hu2.below B.out.size)); clear hr2 hu2)
          | ((with_reducible refine load_row (o := ⟨some 16, _, _, _, _, _⟩) rfl _ _ rfl wr.heap.size ?_ _ [.string sm, .int .i64 sz] _ R6.out Tryz.underlying47 rfl ?_ ?_); (focus go_simp); (focus (exact SZ.out)))
          | (go_at_call 66; (with_reducible refine (HONE.out w6).mono ?_); rw [HOK.out]; rintro x w7 ⟨rfl, hb⟩; have R7 := Lib.hid (R6.out.below hb R6.out.lt); have B7 := Lib.hid (B6.out.trans (hb.mono B6.out.size)); obtain ⟨d0, d1⟩ := R7.out.l2; clear hb))
        go_ret2
        exact ⟨by rw [HF.out]; first | done | rfl, B7.out⟩
      · have HN := Lib.hid hnx
        have hib := hsz rfl
        clear hnx hbad hsz
        go_wp2_with (first
          | ((with_reducible refine load_cells (o := ⟨some 15, _, _, _, _, _⟩) rfl _ _ rfl b (off + k * 2) ?_ [.string sm, .int .i64 sz] _ XC.out Tryz.underlying47 rfl ?_ ?_); (focus go_simp); (focus (exact SZ.out)))
          | ((with_reducible refine alloc_row (o := ⟨some 6, _, _, _, _, _⟩) rfl _ rfl _ MZ.out ?_); intro w5 hr hb hz; have R5 := Lib.hid hr; have B5 := Lib.hid (B.out.trans (hb.mono B.out.size)); clear hr hb hz)
          | ((with_reducible refine store_row (o := ⟨none, _, _, _, _, _⟩) rfl _ (.tmp 6) _ rfl wr.heap.size [.string sm, .int .i64 sz] ?_ ?_ 47 _ R5.out ?_ ?_ ?_ ?_); (focus go_simp); (focus (first | (go_simp; done) | (go_simp; rfl))); (focus (exact SZ.out)); (focus rfl); (focus (exact pc_one ⟨sm, sz⟩)); intro w6 hr2 hu2; have R6 := Lib.hid hr2; have B6 := Lib.hid (B5.out.trans (hu2.below B.out.size)); clear hr2 hu2)
          | ((with_reducible refine load_row (o := ⟨some 16, _, _, _, _, _⟩) rfl _ _ rfl wr.heap.size ?_ _ [.string sm, .int .i64 sz] _ R6.out Tryz.underlying47 rfl ?_ ?_); (focus go_simp); (focus (exact SZ.out)))
          | (go_at_call 66; (with_reducible refine (HONE.out w6).mono ?_); rw [HOK.out]; rintro x w7 ⟨rfl, hb⟩; have R7 := Lib.hid (R6.out.below hb R6.out.lt); have B7 := Lib.hid (B6.out.trans (hb.mono B6.out.size)); obtain ⟨d0, d1⟩ := R7.out.l2; clear hb))
        go_roundw
        case rel => exact ⟨k + 1, vint (by omega), by omega, by rw [HS.out], HN, B7⟩
        case measure => simp [intOf]; omega
    · obtain rfl : n = k := by omega
      have ht : P.take n = P := List.take_of_length_le (by rw [HL.out]; exact Nat.le_refl _)
      have HX := Lib.hid (show v = (sm0, 0) by rw [← HV.out, ← HSM.out]; rw [ht] at A ⊢; rw [if_pos ⟨h8, A.out⟩])
      clear ht
      go_wp2_with fail
      go_ret2
      exact ⟨by rw [HX.out]; first | done | rfl, B.out⟩
theorem bytesM_e (P : List Pc) : (bytesM P).2 = 0 ∨ (bytesM P).2 = 1 := by unfold bytesM; split <;> simp
theorem bs5m : ∀ b0 b1 b2 b3 b4 : Bool, ((b0 = false) ∨ (b0 = true ∧ b1 = false) ∨ (b0 = true ∧ b1 = true ∧ b2 = false) ∨ (b0 = true ∧ b1 = true ∧ b2 = true ∧ b3 = false)) ∨ (b0 = true ∧ b1 = true ∧ b2 = true ∧ b3 = true) := by
  intro b0 b1 b2 b3 b4
  cases b0 <;> cases b1 <;> cases b2 <;> cases b3 <;> simp
theorem allIn2 (m x y : Int) : allIn m [x, y] = (in64 x 0 m && in64 y 0 m) := by simp [allIn]
set_option maxRecDepth 100000 in
set_option maxHeartbeats 16000000 in
theorem pfits (x : SnX) (w : World) (h : x.fit w) : Calls Tryz.prog 53 #[.agg x.cells.toArray] w fun e w' => e = .returned (.bool (okM x.s)) ∧ Below w.heap.size w w' := by
  obtain ⟨⟨sp, nm, bt, ti, ke, P⟩, pa, pm, pc⟩ := x
  have HN1 := Lib.hid (fun w => cname sp w h.sp)
  have HN2 := Lib.hid (fun w => cname nm w h.nm)
  have HBY := Lib.hid (fun w' (hb : Below w.heap.size w w') => pbytes pa pm pc P w' (h.P.mono pcOk hb))
  have F4 := Lib.hid (show SI64 ti from h.ti)
  have F5 := Lib.hid (show SI64 ke from h.ke)
  obtain ⟨b0, h0⟩ : ∃ b, nameV sp = b := ⟨_, rfl⟩
  obtain ⟨b1, h1⟩ : ∃ b, nameV nm = b := ⟨_, rfl⟩
  obtain ⟨N, e, hN⟩ : ∃ x y, bytesM P = (x, y) := ⟨_, _, rfl⟩
  obtain ⟨b2, h2⟩ : ∃ b, decide (e = 0) = b := ⟨_, rfl⟩
  obtain ⟨b3, h3⟩ : ∃ b, decide (N = bt) = b := ⟨_, rfl⟩
  obtain ⟨b4, h4⟩ : ∃ b, (in64 ti 0 1099511627776 && in64 ke 0 1099511627776) = b := ⟨_, rfl⟩
  have HX := Lib.hid (show okM ⟨sp, nm, bt, ti, ke, P⟩ = (b2 && (b3 && (b0 && (b1 && b4)))) by unfold okM; dsimp only; rw [hN]; dsimp only; rw [h0, h1, h2, h3, ← h4])
  have gb2 : (e == 0) = b2 := by rw [← h2, Bool.eq_iff_iff]; simp
  have gb3 : (N == bt) = b3 := by rw [← h3, Bool.eq_iff_iff]; simp
  rw [hN] at HBY
  rw [h0] at HN1
  rw [h1] at HN2
  have H4 := Lib.hid (show allIn 1099511627776 [ti, ke] = b4 by rw [allIn2]; exact h4)
  clear h h0 h1 h2 h3 h4 hN
  rcases bs5m b0 b1 b2 b3 b4 with (rfl | ⟨rfl, rfl⟩ | ⟨rfl, rfl, rfl⟩ | ⟨rfl, rfl, rfl, rfl⟩) | ⟨rfl, rfl, rfl, rfl⟩
  all_goals
    go_enter Tryz.func53, Tryz.ntmps53
    go_wp2_with (first
      | ((with_reducible refine box_row (o := ⟨some 1, _, _, _, _, _⟩) rfl _ _ rfl (snC sp nm bt ti ke pa pm pc) rfl ?_); intro w1 hr1 hb1 hz1; have R1 := Lib.hid hr1; obtain ⟨c0, c1, c2, c3, c4, c5⟩ := hr1.h6s; have B1 := Lib.hid hb1; clear hr1 hb1 hz1)
      | (go_at_call 72; (with_reducible refine (HBY.out w1 B1.out).mono ?_); rintro x w2 ⟨rfl, hb⟩; have RZ := Lib.hid (R1.out.below hb R1.out.lt); have BZ := Lib.hid (B1.out.trans (hb.mono B1.out.size)); clear c0 c1 c2 c3 c4 c5; obtain ⟨c0, c1, c2, c3, c4, c5⟩ := RZ.out.h6s; clear hb)
      | (go_at_call 73; with_reducible refine (HN1.out _).mono ?_; rintro x w' ⟨rfl, rfl⟩)
      | (go_at_call 73; with_reducible refine (HN2.out _).mono ?_; rintro x w' ⟨rfl, rfl⟩)
      | ((with_reducible refine bg2 (o := ⟨some 34, _, _, _, _, _⟩) 18 true 29 rfl _ _ rfl ?_ ?_ ti ke ?_ ?_ F4.out F5.out ?_); (focus rfl); (focus (first | (go_simp; done) | (go_simp; rfl))); (focus (first | (go_simp; done) | (go_simp; rfl))); (focus (first | (go_simp; done) | (go_simp; rfl))); intro wb hs hb hz; have SB := Lib.hid hs; have BY := BZ; clear BZ; have BZ := Lib.hid (BY.out.trans (hb.mono BY.out.size)); clear BY c0 c1 c2 c3 c4 c5 hs hb hz)
      | (go_at_call 74; with_reducible refine (lwithin 1099511627776 _ 2 2 [ti, ke] _ SB.out).mono ?_; rw [H4.out]; rintro x w' ⟨rfl, rfl⟩))
    go_ret
    exact ⟨one (vbool (by rw [HX.out]; simp)), BZ.out⟩
-- ---- order
theorem pnans (x : ByteArray) (w : World) : Calls Tryz.prog 92 #[.string x] w fun e w' => e = .returned (.bool false) ∧ w = w' := by
  go_enter Tryz.func92, Tryz.ntmps92
  go_wp2
  all_goals (go_ret; exact ⟨one (vbool (by simp)), rfl⟩)
def cmpM (x y : ByteArray) : Int := if ltM x y then -1 else if eqM x y then 0 else 1
set_option maxHeartbeats 2000000 in
theorem pcmps (x y : ByteArray) (w : World) : Calls Tryz.prog 79 #[.string x, .string y] w fun e w' => e = .returned (.int .i64 (cmpM x y)) ∧ w = w' := by
  obtain ⟨b0, h0⟩ : ∃ b, Op.bytesLess x.toList y.toList = b := ⟨_, rfl⟩
  obtain ⟨b1, h1⟩ : ∃ b, (x.toList == y.toList) = b := ⟨_, rfl⟩
  have HX := Lib.hid (show cmpM x y = if b0 then -1 else if b1 then 0 else 1 by rw [← h0, ← h1]; rfl)
  cases b0
  · cases b1
    all_goals
      go_enter Tryz.func79, Tryz.ntmps79
      go_wp2_with (first
        | (go_at_call 92; (with_reducible refine (pnans x _).mono ?_); rintro e w' ⟨rfl, rfl⟩)
        | (go_at_call 92; (with_reducible refine (pnans y _).mono ?_); rintro e w' ⟨rfl, rfl⟩))
      go_ret
      exact ⟨by rw [HX.out]; rfl, rfl⟩
  · go_enter Tryz.func79, Tryz.ntmps79
    go_wp2_with (first
      | (go_at_call 92; (with_reducible refine (pnans x _).mono ?_); rintro e w' ⟨rfl, rfl⟩)
      | (go_at_call 92; (with_reducible refine (pnans y _).mono ?_); rintro e w' ⟨rfl, rfl⟩))
    go_ret
    exact ⟨by rw [HX.out]; rfl, rfl⟩
def orI : List Int → Int
  | [] => 0
  | x :: l => if x = 0 then orI l else x
set_option maxHeartbeats 2000000 in
theorem porint (a : Option Addr) (len cap : Nat) (l : List Int) (w : World) (hrow : Sl .i64 w a len l) (h0 : 0 < len) :
    Calls Tryz.prog 78 #[.slice a len cap] w fun e w' => e = .returned (.int .i64 (orI l)) ∧ w = w' := by
  obtain ⟨hl, hmax, hb, hc⟩ := hrow
  obtain ⟨b, off, rfl, hlt0, hcell⟩ := hc.resolve_left (by omega)
  clear hlt0
  have HC := Lib.hid hcell
  have HL := Lib.hid hl
  clear hcell hb hc hl
  go_enter Tryz.func78, Tryz.ntmps78
  go_wp2
  go_loop [8] (fun i => ∃ (k : Nat), k ≤ len ∧ i = .int .i64 k ∧ Hid (orI l = orI (l.drop k))) (fun i => len - (intOf i).toNat)
  case atStart => exact ⟨0, Nat.zero_le _, rfl, Lib.hid rfl⟩
  case round =>
    obtain ⟨k, hk, rfl, HS⟩ := hrel
    by_cases hlt : k < len
    · have hcell := HC.out k hlt
      have hd := drop_getD l k (by rw [HL.out]; exact hlt)
      have hs := HS.out
      rw [hd] at hs
      clear hd
      obtain ⟨n, hn⟩ : ∃ n, l.getD k 0 = n := ⟨_, rfl⟩
      rw [hn] at hs hcell
      clear hn
      simp only [orI] at hs
      by_cases hz : n = 0
      · rw [if_pos hz] at hs
        subst hz
        have HS' := Lib.hid hs
        clear hs
        go_wp2
        go_round
        case rel => exact ⟨k + 1, by omega, by go_num, HS'⟩
        case measure => simp [intOf]; omega
      · rw [if_neg hz] at hs
        have gb : (n == 0) = false := beq_eq_false_iff_ne.2 hz
        have HS' := Lib.hid hs
        clear hs
        go_wp2
        go_ret
        exact ⟨by rw [HS'.out]; first | done | rfl, rfl⟩
    · obtain rfl : k = len := by omega
      have e : l.drop k = [] := List.drop_eq_nil_of_le (by rw [HL.out]; omega)
      have hs := HS.out
      rw [e] at hs
      have HS' := Lib.hid hs
      clear hs e
      go_wp2
      go_ret
      exact ⟨by rw [HS'.out]; rfl, rfl⟩
def ordM (a b : Sn) : Int := orI [cmpM a.sp b.sp, cmpM a.nm b.nm]
theorem cmpM_self (a : ByteArray) : cmpM a a = 0 := by unfold cmpM; rw [ltM_self, (eqM_iff a a).2 rfl]; simp
theorem cmpM_cases (a b : ByteArray) : (cmpM a b = -1 ∧ ltM a b = true ∧ eqM a b = false ∧ ltM b a = false) ∨ (cmpM a b = 0 ∧ a = b) ∨ (cmpM a b = 1 ∧ ltM a b = false ∧ eqM a b = false ∧ ltM b a = true) := by
  unfold cmpM
  cases h1 : ltM a b with
  | true =>
    refine .inl ⟨by simp, rfl, eqM_ne.2 (fun e => ?_), ltM_asym h1⟩
    subst e
    rw [ltM_self] at h1; cases h1
  | false =>
    cases h2 : eqM a b with
    | true => exact .inr (.inl ⟨by simp, (eqM_iff a b).1 h2⟩)
    | false => exact .inr (.inr ⟨by simp, rfl, rfl, ltM_total h1 (eqM_ne.1 h2)⟩)
theorem ordM_cases (a b : Sn) : (ordM a b = -1 ∧ belowM a b = true ∧ belowM b a = false) ∨ (ordM a b = 0 ∧ belowM a b = false ∧ belowM b a = false) ∨ (ordM a b = 1 ∧ belowM a b = false ∧ belowM b a = true) := by
  unfold ordM belowM orI orI orI
  rcases cmpM_cases a.sp b.sp with ⟨h1, h2, h3, h4⟩ | ⟨h1, h2⟩ | ⟨h1, h2, h3, h4⟩
  · refine .inl ⟨by rw [h1]; simp, by rw [h2]; simp, ?_⟩
    rw [h4]
    have : eqM b.sp a.sp = false := eqM_ne.2 (fun e => eqM_ne.1 h3 e.symm)
    rw [this]; rfl
  · rw [h1, h2, ltM_self, (eqM_iff b.sp b.sp).2 rfl]
    rcases cmpM_cases a.nm b.nm with ⟨k1, k2, k3, k4⟩ | ⟨k1, k2⟩ | ⟨k1, k2, k3, k4⟩
    · exact .inl ⟨by rw [k1]; simp, by rw [k2]; simp, by rw [k4]; simp⟩
    · exact .inr (.inl ⟨by rw [k1]; simp, by rw [k2, ltM_self]; simp, by rw [k2, ltM_self]; simp⟩)
    · exact .inr (.inr ⟨by rw [k1]; simp, by rw [k2]; simp, by rw [k4]; simp⟩)
  · refine .inr (.inr ⟨by rw [h1]; simp, by rw [h2, h3]; simp, by rw [h4]; simp⟩)
theorem cmpM_si (a b : ByteArray) : SI64 (cmpM a b) := by unfold cmpM; repeat' split
                                                          all_goals exact ⟨by decide, by decide⟩
set_option maxRecDepth 100000 in
set_option maxHeartbeats 8000000 in
theorem porder (x y : SnX) (w : World) : Calls Tryz.prog 58 #[.agg x.cells.toArray, .agg y.cells.toArray] w fun e w' => e = .returned (.int .i64 (ordM x.s y.s)) ∧ Below w.heap.size w w' := by
  obtain ⟨⟨s1, n1, b1, t1, k1, P1⟩, a1, m1, c1⟩ := x
  obtain ⟨⟨s2, n2, b2, t2, k2, P2⟩, a2, m2, c2⟩ := y
  go_enter Tryz.func58, Tryz.ntmps58
  go_wp2_with (first
    | ((with_reducible refine box_row (o := ⟨some 2, _, _, _, _, _⟩) rfl _ _ rfl (snC s1 n1 b1 t1 k1 a1 m1 c1) rfl ?_); intro w1 hr hb hz; have R0 := Lib.hid hr; have B1 := Lib.hid hb; clear hr hb hz)
    | ((with_reducible refine box_row (o := ⟨some 3, _, _, _, _, _⟩) rfl _ _ rfl (snC s2 n2 b2 t2 k2 a2 m2 c2) rfl ?_); intro w2 hr hb hz; have R1 := Lib.hid (R0.out.below hb R0.out.lt); have R2 := Lib.hid hr; obtain ⟨c0', c1', c2', c3', c4', c5'⟩ := R1.out.h6s; obtain ⟨d0', d1', d2', d3', d4', d5'⟩ := hr.h6s; have C0 := Lib.hid c0'; have C1 := Lib.hid c1'; have D0 := Lib.hid d0'; have D1 := Lib.hid d1'; have B2 := Lib.hid (B1.out.trans (hb.mono B1.out.size)); clear hr hb hz c0' c1' c2' c3' c4' c5' d0' d1' d2' d3' d4' d5'))
  refine region_h (fun v => Below w2.heap.size w2 v) (by kernel_rfl) (by kernel_rfl) (Below.refl _ _).drew ?_
  obtain ⟨d0, hd0⟩ : ∃ wd, w2.drew = wd := ⟨_, rfl⟩
  have J0 : Hid (Below w2.heap.size w2 d0) := Lib.hid (by rw [← hd0]; exact (Below.refl _ _).drew)
  rw [hd0]
  clear hd0
  (refine h_read 0 rfl (by kernel_rfl) (by kernel_rfl) (h_free rfl) ?_ ?_ ?_; rotate_left; (focus (intro v hv; go_simp; rfl)); go_simp)
  (refine h_read 1 rfl (by kernel_rfl) (by kernel_rfl) (h_free rfl) ?_ ?_ ?_; rotate_left; (focus (intro v hv; have x0 := (hv.cell (p := ⟨w.heap.size, 0, none⟩) R1.out.lt).trans C0.out; have y0 := (hv.cell (p := ⟨w1.heap.size, 0, none⟩) R2.out.lt).trans D0.out; have x1 := (hv.cell (p := ⟨w.heap.size, 1, none⟩) R1.out.lt).trans C1.out; have y1 := (hv.cell (p := ⟨w1.heap.size, 1, none⟩) R2.out.lt).trans D1.out; go_simp; rfl)); go_simp)
  (refine h_read 2 rfl (by kernel_rfl) (by kernel_rfl) (h_free rfl) ?_ ?_ ?_; rotate_left; (focus (intro v hv; go_simp; rfl)); go_simp)
  (refine h_read 3 rfl (by kernel_rfl) (by kernel_rfl) (h_free rfl) ?_ ?_ ?_; rotate_left; (focus (intro v hv; have x0 := (hv.cell (p := ⟨w.heap.size, 0, none⟩) R1.out.lt).trans C0.out; have y0 := (hv.cell (p := ⟨w1.heap.size, 0, none⟩) R2.out.lt).trans D0.out; have x1 := (hv.cell (p := ⟨w.heap.size, 1, none⟩) R1.out.lt).trans C1.out; have y1 := (hv.cell (p := ⟨w1.heap.size, 1, none⟩) R2.out.lt).trans D1.out; go_simp; rfl)); go_simp)
  (refine h_read 5 rfl (by kernel_rfl) (by kernel_rfl) (h_free rfl) ?_ ?_ ?_; rotate_left; (focus (intro v hv; go_simp; rfl)); go_simp)
  (refine h_read 6 rfl (by kernel_rfl) (by kernel_rfl) (h_free rfl) ?_ ?_ ?_; rotate_left; (focus (intro v hv; have x0 := (hv.cell (p := ⟨w.heap.size, 0, none⟩) R1.out.lt).trans C0.out; have y0 := (hv.cell (p := ⟨w1.heap.size, 0, none⟩) R2.out.lt).trans D0.out; have x1 := (hv.cell (p := ⟨w.heap.size, 1, none⟩) R1.out.lt).trans C1.out; have y1 := (hv.cell (p := ⟨w1.heap.size, 1, none⟩) R2.out.lt).trans D1.out; go_simp; rfl)); go_simp)
  (refine h_read 7 rfl (by kernel_rfl) (by kernel_rfl) (h_free rfl) ?_ ?_ ?_; rotate_left; (focus (intro v hv; go_simp; rfl)); go_simp)
  (refine h_read 8 rfl (by kernel_rfl) (by kernel_rfl) (h_free rfl) ?_ ?_ ?_; rotate_left; (focus (intro v hv; have x0 := (hv.cell (p := ⟨w.heap.size, 0, none⟩) R1.out.lt).trans C0.out; have y0 := (hv.cell (p := ⟨w1.heap.size, 0, none⟩) R2.out.lt).trans D0.out; have x1 := (hv.cell (p := ⟨w.heap.size, 1, none⟩) R1.out.lt).trans C1.out; have y1 := (hv.cell (p := ⟨w1.heap.size, 1, none⟩) R2.out.lt).trans D1.out; go_simp; rfl)); go_simp)
  (refine h_call 4 rfl (by kernel_rfl) (h_free rfl) 79 ?_ ?_ ?_; rotate_left; (focus (go_simp; rfl)))
  refine (pcmps s1 s2 d0).mono ?_
  rintro z wz ⟨rfl, rfl⟩
  refine ⟨_, rfl, J0.out, ?_⟩
  go_simp
  (refine h_call 9 rfl (by kernel_rfl) (h_free rfl) 79 ?_ ?_ ?_; rotate_left; (focus (go_simp; rfl)))
  refine (pcmps n1 n2 d0).mono ?_
  rintro z wz ⟨rfl, rfl⟩
  refine ⟨_, rfl, J0.out, ?_⟩
  go_simp
  (refine h_list 10 rfl (by kernel_rfl) ?_; intro K hK)
  refine bi2 rfl _ _ rfl (cmpM s1 s2) (cmpM n1 n2) (by go_simp; first | done | rfl) (by go_simp; first | done | rfl) (cmpM_si _ _) (cmpM_si _ _) ?_
  intro d1 hsl hb hz
  have SL := Lib.hid hsl
  have J1 := Lib.hid (J0.out.trans (hb.mono J0.out.size))
  clear hsl hb hz
  refine hK _ _ J1.out ?_
  go_simp
  (refine h_call 11 rfl (by kernel_rfl) (h_free rfl) 78 ?_ ?_ ?_; rotate_left; (focus (go_simp; rfl)))
  refine (porint _ 2 2 [cmpM s1 s2, cmpM n1 n2] d1 SL.out (by decide)).mono ?_
  rintro z wz ⟨rfl, rfl⟩
  refine ⟨_, rfl, J1.out, ?_⟩
  go_simp
  (refine h_read 12 rfl (by kernel_rfl) (by kernel_rfl) (h_free rfl) ?_ ?_ ?_; rotate_left; (focus (intro v hv; go_simp; rfl)); go_simp)
  refine h_done (by kernel_rfl) ?_
  go_wp2_with fail
  go_ret
  exact ⟨rfl, B2.out.trans (J1.out.mono B2.out.size)⟩
end Go.Proofs.YtjolmjbhpokgmaaGreat.W

namespace Go.Proofs.YtjolmjbhpokgmaaGreat.W
open Go Go.ChangeShapes Go.WideShapes Go.ChangeAt Go.RowKit
open Go.Proofs.YtjolmjbhpokgmaaGreat.P (enc dec)
open Go.Proofs.YtjolmjbhpokgmaaGreat.S

/-- a slice of snapshots reads as the list L -/
def SnL (w : World) (a : Option Addr) (n c : Nat) (L : List Sn) : Prop := ∃ X : List SnX, Ls snE w a n c X ∧ X.map (·.s) = L
theorem SnL.mono {w w' : World} {a : Option Addr} {n c : Nat} {L : List Sn} (h : SnL w a n c L) (hb : Below w.heap.size w w') : SnL w' a n c L := by
  obtain ⟨X, hX, e⟩ := h
  exact ⟨X, hX.mono snOk hb, e⟩
-- ---- Rise
def riseM : Option Sn → List Sn → Bool
  | _, [] => true
  | p, s :: L => behM p s && riseM (some s) L
theorem chkM_split : ∀ (L : List Sn) (p : Option Sn), chkM p L = (riseM p L && L.all okM)
  | [], _ => rfl
  | s :: L, p => by
    simp only [chkM, riseM, List.all_cons]
    rw [chkM_split L (some s)]
    cases okM s <;> cases behM p s <;> cases riseM (some s) L <;> simp
theorem riseM_snoc : ∀ (L : List Sn) (p : Option Sn) (s : Sn), riseM p (L ++ [s]) = (riseM p L && behM (L.getLast?.or p) s)
  | [], p, s => by simp [riseM]
  | x :: L, p, s => by
    rw [List.cons_append]
    simp only [riseM]
    rw [riseM_snoc L (some x) s]
    have : (x :: L).getLast?.or p = L.getLast?.or (some x) := by
      cases L with
      | nil => simp
      | cons y L => simp [List.getLast?_cons]
    rw [this]
    simp only [Bool.and_assoc]
theorem riseM_next (L : List Sn) (k : Nat) (x y : Sn) (hx : L[k]? = some x) (hy : L[k + 1]? = some y) : riseM none (L.take (k + 1 + 1)) = (riseM none (L.take (k + 1)) && belowM x y) := by
  have hk : k + 1 < L.length := (List.getElem?_eq_some_iff.1 hy).1
  have h1 : L.take (k + 1 + 1) = L.take (k + 1) ++ [y] := by
    rw [List.take_succ_eq_append_getElem hk]
    rw [List.getElem?_eq_getElem hk] at hy
    rw [Option.some.inj hy]
  rw [h1, riseM_snoc]
  have : (L.take (k + 1)).getLast? = L[k]? := by
    rw [List.getLast?_eq_getElem?, List.length_take, Nat.min_eq_left (by omega)]
    simp
  rw [this, hx]
  rfl
theorem riseM_take : ∀ (L : List Sn) (p : Option Sn) (k : Nat), riseM p L = true → riseM p (L.take k) = true
  | [], _, _, _ => by simp [riseM]
  | s :: L, p, 0, _ => by simp [riseM]
  | s :: L, p, k + 1, h => by
    simp only [riseM, Bool.and_eq_true, List.take_succ_cons] at h ⊢
    exact ⟨h.1, riseM_take L _ k h.2⟩
theorem map_at {X : List SnX} {L : List Sn} (e : X.map (·.s) = L) {k : Nat} {x : SnX} (h : X[k]? = some x) : L[k]? = some x.s := by
  rw [← e, List.getElem?_map, h]; rfl
set_option maxRecDepth 100000 in
set_option maxHeartbeats 8000000 in
theorem mrise (a : Option Addr) (n c : Nat) (L : List Sn) (w : World) (h : SnL w a n c L) :
    Calls Tryz.prog 63 #[.slice a n c, .func (.func 58) #[] #[]] w fun x w' => x = .returned (.bool (riseM none L)) ∧ Below w.heap.size w w' := by
  obtain ⟨X, h, hXL⟩ := h
  have H := Lib.hid h
  have HL := Lib.hid (show L.length = n by rw [← hXL, List.length_map, h.hlen])
  have HXL := Lib.hid hXL
  have hm := h.hmax
  have hle := h.hle
  obtain ⟨V, hV⟩ : ∃ V, riseM none L = V := ⟨_, rfl⟩
  rw [hV]
  have HV := Lib.hid hV
  clear h hV hXL
  go_enter Tryz.func63, Tryz.ntmps63
  go_wp2_with fail
  go_loopw [5] (fun i wr => ∃ k : Nat, i = .int .i64 ((k : Int) + 1) ∧ (k + 1 ≤ n ∨ n = 0 ∧ k = 0) ∧ Hid (riseM none (L.take (k + 1)) = true) ∧ Hid (Below w.heap.size w wr)) (fun i _ => n - (intOf i).toNat)
  case atStart =>
    refine ⟨0, rfl, by omega, Lib.hid ?_, Lib.hid (Below.refl _ _)⟩
    cases L with
    | nil => rfl
    | cons s L => simp [riseM, behM]
  case round =>
    obtain ⟨k, rfl, hk, P, B⟩ := hrel
    by_cases hlt : k + 1 < n
    · obtain ⟨b, off, y, rfl, hy, hcy, -⟩ := H.out.at snOk B.out (k + 1) hlt
      obtain ⟨b2, o2, x, hab, hx, hcx, -⟩ := H.out.at snOk B.out k (by omega)
      obtain ⟨rfl, rfl⟩ : b = b2 ∧ off = o2 := by injection hab with hab; injection hab with e1 e2; exact ⟨e1, e2⟩
      have hnx := riseM_next L k x.s y.s (map_at HXL.out hx) (map_at HXL.out hy)
      rw [P.out, Bool.true_and] at hnx
      have HK := Lib.hid (fun w => porder x y w)
      have hoc := ordM_cases x.s y.s
      obtain ⟨ov, hov⟩ : ∃ z, ordM x.s y.s = z := ⟨_, rfl⟩
      rw [hov] at HK hoc
      obtain ⟨⟨xs, xn, xb, xt, xk, xp⟩, xa, xm, xc⟩ := x
      obtain ⟨⟨ys, yn, yb, yt, yk, yp⟩, ya, ym, yc⟩ := y
      have XC := Lib.hid hcx
      have YC := Lib.hid hcy
      have g1 : (0 : Int) ≤ (k : Int) := by omega
      have g2 : (k : Int) < (n : Int) := by omega
      have g3 : (0 : Int) ≤ (k : Int) + 1 := by omega
      have g4 : (k : Int) + 1 < (n : Int) := by omega
      have hwr : IntKind.i64.wrap (k : Int) = (k : Int) := by rw [IntKind.wrap_i64]; omega
      have hnt : (((k : Nat) : Int) + 1).toNat = k + 1 := by omega
      clear hcx hcy hx hy hab hk hov
      by_cases hlt2 : ov = -1
      · have HN := Lib.hid (show riseM none (L.take (k + 1 + 1)) = true by rw [hnx]; rcases hoc with ⟨-, h, -⟩ | ⟨h, -⟩ | ⟨h, -⟩; exact h; omega; omega)
        subst hlt2
        clear hnx hoc
        go_wp2_with fail
        refine region_h (fun v => Below wr.heap.size wr v) (by kernel_rfl) (by kernel_rfl) (Below.refl _ _).drew ?_
        obtain ⟨wd, hwd⟩ : ∃ wd, wr.drew = wd := ⟨_, rfl⟩
        have D0 : Hid (Below wr.heap.size wr wd) := Lib.hid (by rw [← hwd]; exact (Below.refl _ _).drew)
        rw [hwd]
        clear hwd
        (refine h_read 0 rfl (by kernel_rfl) (by kernel_rfl) (h_free rfl) ?_ ?_ ?_; rotate_left; (focus (intro v hv; go_simp; rfl)); go_simp)
        (refine h_read 1 rfl (by kernel_rfl) (by kernel_rfl) (h_free rfl) ?_ ?_ ?_; rotate_left; (focus (intro v hv; go_simp; rfl)); go_simp)
        (refine h_read 2 rfl (by kernel_rfl) (by kernel_rfl) (h_free rfl) ?_ ?_ ?_; rotate_left; (focus (intro v hv; go_simp; rfl)); go_simp)
        (refine h_read 3 rfl (by kernel_rfl) (by kernel_rfl) (h_free rfl) ?_ ?_ ?_; rotate_left; (focus (intro v hv; go_simp; rfl)); go_simp)
        (refine h_read 4 rfl (by kernel_rfl) (by kernel_rfl) (h_free rfl) ?_ ?_ ?_; rotate_left; (focus (intro v hv; go_simp; rfl)); go_simp)
        (refine h_read 5 rfl (by kernel_rfl) (by kernel_rfl) (h_free rfl) ?_ ?_ ?_; rotate_left; (focus (intro v hv; refine run_cells 45 (.tmp 16) ?_ b (off + k * 6) ?_ (snC xs xn xb xt xk xa xm xc) _ (fun j' u hj => by rw [hv.cell (p := ⟨b, off + k * 6 + j', none⟩) (World.block_lt_of_cell? wr _ (XC.out j' u hj))]; exact XC.out j' u hj) Tryz.underlying45 rfl sn_size; (focus rfl); go_simp)); go_simp)
        (refine h_read 6 rfl (by kernel_rfl) (by kernel_rfl) (h_free rfl) ?_ ?_ ?_; rotate_left; (focus (intro v hv; go_simp; rfl)); go_simp)
        (refine h_read 7 rfl (by kernel_rfl) (by kernel_rfl) (h_free rfl) ?_ ?_ ?_; rotate_left; (focus (intro v hv; go_simp; rfl)); go_simp)
        (refine h_read 8 rfl (by kernel_rfl) (by kernel_rfl) (h_free rfl) ?_ ?_ ?_; rotate_left; (focus (intro v hv; go_simp; rfl)); go_simp)
        (refine h_read 9 rfl (by kernel_rfl) (by kernel_rfl) (h_free rfl) ?_ ?_ ?_; rotate_left; (focus (intro v hv; refine run_cells 45 (.tmp 20) ?_ b (off + (k + 1) * 6) ?_ (snC ys yn yb yt yk ya ym yc) _ (fun j' u hj => by rw [hv.cell (p := ⟨b, off + (k + 1) * 6 + j', none⟩) (World.block_lt_of_cell? wr _ (YC.out j' u hj))]; exact YC.out j' u hj) Tryz.underlying45 rfl sn_size; (focus rfl); go_simp)); go_simp)
        (refine h_call 10 rfl (by kernel_rfl) (h_free rfl) 58 ?_ ?_ ?_; rotate_left; (focus (go_simp; rfl)))
        refine (HK.out wd).mono ?_
        rintro x w5 ⟨rfl, hb5⟩
        have J5 := Lib.hid (D0.out.trans (hb5.mono D0.out.size))
        clear hb5
        refine ⟨_, rfl, J5.out, ?_⟩
        go_simp
        (refine h_read 11 rfl (by kernel_rfl) (by kernel_rfl) (h_free rfl) ?_ ?_ ?_; rotate_left; (focus (intro v hv; go_simp; rfl)); go_simp)
        refine h_done (by kernel_rfl) ?_
        go_wp2_with fail
        go_roundw
        case rel => exact ⟨k + 1, vint (by omega), by omega, HN, Lib.hid (B.out.trans (J5.out.mono B.out.size))⟩
        case measure => simp [intOf]; omega
      · have HF := Lib.hid (show V = false by
          rw [← HV.out]
          cases hc : riseM none L with
          | false => rfl
          | true =>
            have h1 := riseM_take L none (k + 1 + 1) hc
            rw [hnx] at h1
            rcases hoc with ⟨h, -⟩ | ⟨-, h, -⟩ | ⟨-, h, -⟩
            · exact absurd h hlt2
            · rw [h] at h1; cases h1
            · rw [h] at h1; cases h1)
        have hcp : (0 : Int) ≤ ov := by rcases hoc with ⟨h, -⟩ | ⟨h, -⟩ | ⟨h, -⟩ <;> omega
        clear hnx hoc hlt2
        go_wp2_with fail
        refine region_h (fun v => Below wr.heap.size wr v) (by kernel_rfl) (by kernel_rfl) (Below.refl _ _).drew ?_
        obtain ⟨wd, hwd⟩ : ∃ wd, wr.drew = wd := ⟨_, rfl⟩
        have D0 : Hid (Below wr.heap.size wr wd) := Lib.hid (by rw [← hwd]; exact (Below.refl _ _).drew)
        rw [hwd]
        clear hwd
        (refine h_read 0 rfl (by kernel_rfl) (by kernel_rfl) (h_free rfl) ?_ ?_ ?_; rotate_left; (focus (intro v hv; go_simp; rfl)); go_simp)
        (refine h_read 1 rfl (by kernel_rfl) (by kernel_rfl) (h_free rfl) ?_ ?_ ?_; rotate_left; (focus (intro v hv; go_simp; rfl)); go_simp)
        (refine h_read 2 rfl (by kernel_rfl) (by kernel_rfl) (h_free rfl) ?_ ?_ ?_; rotate_left; (focus (intro v hv; go_simp; rfl)); go_simp)
        (refine h_read 3 rfl (by kernel_rfl) (by kernel_rfl) (h_free rfl) ?_ ?_ ?_; rotate_left; (focus (intro v hv; go_simp; rfl)); go_simp)
        (refine h_read 4 rfl (by kernel_rfl) (by kernel_rfl) (h_free rfl) ?_ ?_ ?_; rotate_left; (focus (intro v hv; go_simp; rfl)); go_simp)
        (refine h_read 5 rfl (by kernel_rfl) (by kernel_rfl) (h_free rfl) ?_ ?_ ?_; rotate_left; (focus (intro v hv; refine run_cells 45 (.tmp 16) ?_ b (off + k * 6) ?_ (snC xs xn xb xt xk xa xm xc) _ (fun j' u hj => by rw [hv.cell (p := ⟨b, off + k * 6 + j', none⟩) (World.block_lt_of_cell? wr _ (XC.out j' u hj))]; exact XC.out j' u hj) Tryz.underlying45 rfl sn_size; (focus rfl); go_simp)); go_simp)
        (refine h_read 6 rfl (by kernel_rfl) (by kernel_rfl) (h_free rfl) ?_ ?_ ?_; rotate_left; (focus (intro v hv; go_simp; rfl)); go_simp)
        (refine h_read 7 rfl (by kernel_rfl) (by kernel_rfl) (h_free rfl) ?_ ?_ ?_; rotate_left; (focus (intro v hv; go_simp; rfl)); go_simp)
        (refine h_read 8 rfl (by kernel_rfl) (by kernel_rfl) (h_free rfl) ?_ ?_ ?_; rotate_left; (focus (intro v hv; go_simp; rfl)); go_simp)
        (refine h_read 9 rfl (by kernel_rfl) (by kernel_rfl) (h_free rfl) ?_ ?_ ?_; rotate_left; (focus (intro v hv; refine run_cells 45 (.tmp 20) ?_ b (off + (k + 1) * 6) ?_ (snC ys yn yb yt yk ya ym yc) _ (fun j' u hj => by rw [hv.cell (p := ⟨b, off + (k + 1) * 6 + j', none⟩) (World.block_lt_of_cell? wr _ (YC.out j' u hj))]; exact YC.out j' u hj) Tryz.underlying45 rfl sn_size; (focus rfl); go_simp)); go_simp)
        (refine h_call 10 rfl (by kernel_rfl) (h_free rfl) 58 ?_ ?_ ?_; rotate_left; (focus (go_simp; rfl)))
        refine (HK.out wd).mono ?_
        rintro x w5 ⟨rfl, hb5⟩
        have J5 := Lib.hid (D0.out.trans (hb5.mono D0.out.size))
        clear hb5
        refine ⟨_, rfl, J5.out, ?_⟩
        go_simp
        (refine h_read 11 rfl (by kernel_rfl) (by kernel_rfl) (h_free rfl) ?_ ?_ ?_; rotate_left; (focus (intro v hv; go_simp; rfl)); go_simp)
        refine h_done (by kernel_rfl) ?_
        go_wp2_with fail
        go_ret
        exact ⟨one (vbool (by rw [HF.out])), B.out.trans (J5.out.mono B.out.size)⟩
    · have HT := Lib.hid (show V = true by
        rw [← HV.out, ← P.out, List.take_of_length_le (by rw [HL.out]; omega)])
      have g5 : ¬ ((k : Int) + 1 < (n : Int)) := by omega
      go_wp2_with fail
      go_ret
      exact ⟨one (vbool (by rw [HT.out])), B.out⟩
theorem allMs_next (L : List Sn) (k : Nat) (s : Sn) (h : L[k]? = some s) : (L.take (k + 1)).all okM = ((L.take k).all okM && okM s) := by
  obtain ⟨h1, h2⟩ := List.getElem?_eq_some_iff.1 h
  rw [List.take_succ_eq_append_getElem h1, h2]
  simp
theorem allMs_take (L : List Sn) (k : Nat) (h : L.all okM = true) : (L.take k).all okM = true := by
  rw [List.all_eq_true] at h ⊢
  exact fun s hs => h s (List.mem_of_mem_take hs)
set_option maxRecDepth 100000 in
set_option maxHeartbeats 16000000 in
theorem mcheck (a : Option Addr) (n c : Nat) (L : List Sn) (w : World) (h : SnL w a n c L) :
    Calls Tryz.prog 33 #[.slice a n c] w fun x w' => x = .returned (.bool (checkM L)) ∧ Below w.heap.size w w' := by
  have HRI := Lib.hid (mrise a n c L w h)
  obtain ⟨X, h, hXL⟩ := h
  have H := Lib.hid h
  have HL := Lib.hid (show L.length = n by rw [← hXL, List.length_map, h.hlen])
  have HXL := Lib.hid hXL
  have hm := h.hmax
  have hle := h.hle
  have SZ := Lib.hid sn_size
  have MZ := Lib.hid sn_zero
  obtain ⟨V, hV⟩ : ∃ V, checkM L = V := ⟨_, rfl⟩
  rw [hV]
  have HV := Lib.hid (show (decide (n ≤ 12) && (riseM none L && L.all okM)) = V by rw [← hV, ← HL.out]; unfold checkM; rw [chkM_split])
  clear h hV hXL
  by_cases h12 : n ≤ 12
  case neg =>
    have HF := Lib.hid (show V = false by rw [← HV.out]; simp [h12])
    have g12 : (12 : Int) < (n : Int) := by omega
    clear HV HRI
    go_enter Tryz.func33, Tryz.ntmps33
    go_wp2_with fail
    go_ret
    exact ⟨one (vbool (by rw [HF.out])), Below.refl _ _⟩
  have g12 : ¬ (12 : Int) < (n : Int) := by omega
  have HV := Lib.hid (show (riseM none L && L.all okM) = V by rw [← HV.out]; simp [h12])
  obtain ⟨rv, hrv⟩ : ∃ v, riseM none L = v := ⟨_, rfl⟩
  have HV := Lib.hid (show (rv && L.all okM) = V by rw [← hrv]; exact HV.out)
  rw [hrv] at HRI
  clear hrv
  cases rv
  · have HF := Lib.hid (show V = false by rw [← HV.out]; rfl)
    go_enter Tryz.func33, Tryz.ntmps33
    go_wp2_with (first
      | (go_at_call 63; (with_reducible refine HRI.out.mono ?_); rintro x w1 ⟨rfl, hb⟩; have B1 := Lib.hid hb; clear hb))
    go_ret
    exact ⟨one (vbool (by rw [HF.out])), B1.out⟩
  have HV := Lib.hid (show L.all okM = V by rw [← HV.out]; rfl)
  go_enter Tryz.func33, Tryz.ntmps33
  go_wp2_with (first
    | (go_at_call 63; (with_reducible refine HRI.out.mono ?_); rintro x w1 ⟨rfl, hb⟩; have B1 := Lib.hid hb; clear hb))
  go_loopw [15] (fun i wr => ∃ k : Nat, i = .int .i64 (k : Int) ∧ k ≤ n ∧ Hid ((L.take k).all okM = true) ∧ Hid (Below w.heap.size w wr)) (fun i _ => n - (intOf i).toNat)
  case atStart => exact ⟨0, rfl, Nat.zero_le _, Lib.hid rfl, B1⟩
  case round =>
    obtain ⟨k, rfl, hk, P, B⟩ := hrel
    by_cases hlt : k < n
    · obtain ⟨b, off, x, rfl, hx, hcell, hfx⟩ := H.out.at snOk B.out k hlt
      have hnx := allMs_next L k x.s (map_at HXL.out hx)
      rw [P.out, Bool.true_and] at hnx
      have hbad : (L.take (k + 1)).all okM = false → V = false := fun h => by
        rw [← HV.out]
        cases hc : L.all okM
        · rfl
        · rw [allMs_take L (k + 1) hc] at h; cases h
      obtain ⟨ok, hok⟩ : ∃ b, okM x.s = b := ⟨_, rfl⟩
      rw [hok] at hnx
      have HONE := Lib.hid (fun w' (hb : Below wr.heap.size wr w') => pfits x w' (snOk.mono x _ _ hfx hb))
      rw [hok] at HONE
      obtain ⟨⟨xs, xn, xb, xt, xk, xp⟩, xa, xm, xc⟩ := x
      have XC := Lib.hid hcell
      have g1 : (0 : Int) ≤ (k : Int) := by omega
      have g2 : (k : Int) < (n : Int) := by omega
      clear hx hcell hfx hok
      cases ok
      · have HF := Lib.hid (hbad hnx)
        clear hnx hbad
        go_wp2_with (first
          | ((with_reducible refine load_cells (o := ⟨some 18, _, _, _, _, _⟩) rfl _ _ rfl b (off + k * 6) ?_ (snC xs xn xb xt xk xa xm xc) _ XC.out Tryz.underlying45 rfl ?_ ?_); (focus go_simp); (focus (exact SZ.out)))
          | ((with_reducible refine alloc_row (o := ⟨some 4, _, _, _, _, _⟩) rfl _ rfl _ MZ.out ?_); intro w5 hr hb hz; have R5 := Lib.hid hr; have N5 := Lib.hid hb; have B5 := Lib.hid (B.out.trans (hb.mono B.out.size)); clear hr hb hz)
          | ((with_reducible refine store_row (o := ⟨none, _, _, _, _, _⟩) rfl _ (.tmp 4) _ rfl wr.heap.size (snC xs xn xb xt xk xa xm xc) ?_ ?_ 45 _ R5.out ?_ ?_ ?_ ?_); (focus go_simp); (focus (first | (go_simp; done) | (go_simp; rfl))); (focus (exact SZ.out)); (focus rfl); (focus (exact sn_one _ _ _ _ _ _ _ _)); intro w6 hr2 hu2; have R6 := Lib.hid hr2; have N6 := Lib.hid (N5.out.trans (hu2.below (Nat.le_refl _))); have B6 := Lib.hid (B5.out.trans (hu2.below B.out.size)); clear hr2 hu2)
          | ((with_reducible refine load_row (o := ⟨some 19, _, _, _, _, _⟩) rfl _ _ rfl wr.heap.size ?_ _ (snC xs xn xb xt xk xa xm xc) _ R6.out Tryz.underlying45 rfl ?_ ?_); (focus go_simp); (focus (exact SZ.out)))
          | (go_at_call 53; (with_reducible refine (HONE.out w6 N6.out).mono ?_); rintro x w7 ⟨rfl, hb⟩; have B7 := Lib.hid (B6.out.trans (hb.mono B6.out.size)); clear hb))
        go_ret
        exact ⟨one (vbool (by rw [HF.out])), B7.out⟩
      · have HN := Lib.hid hnx
        clear hnx hbad
        go_wp2_with (first
          | ((with_reducible refine load_cells (o := ⟨some 18, _, _, _, _, _⟩) rfl _ _ rfl b (off + k * 6) ?_ (snC xs xn xb xt xk xa xm xc) _ XC.out Tryz.underlying45 rfl ?_ ?_); (focus go_simp); (focus (exact SZ.out)))
          | ((with_reducible refine alloc_row (o := ⟨some 4, _, _, _, _, _⟩) rfl _ rfl _ MZ.out ?_); intro w5 hr hb hz; have R5 := Lib.hid hr; have N5 := Lib.hid hb; have B5 := Lib.hid (B.out.trans (hb.mono B.out.size)); clear hr hb hz)
          | ((with_reducible refine store_row (o := ⟨none, _, _, _, _, _⟩) rfl _ (.tmp 4) _ rfl wr.heap.size (snC xs xn xb xt xk xa xm xc) ?_ ?_ 45 _ R5.out ?_ ?_ ?_ ?_); (focus go_simp); (focus (first | (go_simp; done) | (go_simp; rfl))); (focus (exact SZ.out)); (focus rfl); (focus (exact sn_one _ _ _ _ _ _ _ _)); intro w6 hr2 hu2; have R6 := Lib.hid hr2; have N6 := Lib.hid (N5.out.trans (hu2.below (Nat.le_refl _))); have B6 := Lib.hid (B5.out.trans (hu2.below B.out.size)); clear hr2 hu2)
          | ((with_reducible refine load_row (o := ⟨some 19, _, _, _, _, _⟩) rfl _ _ rfl wr.heap.size ?_ _ (snC xs xn xb xt xk xa xm xc) _ R6.out Tryz.underlying45 rfl ?_ ?_); (focus go_simp); (focus (exact SZ.out)))
          | (go_at_call 53; (with_reducible refine (HONE.out w6 N6.out).mono ?_); rintro x w7 ⟨rfl, hb⟩; have B7 := Lib.hid (B6.out.trans (hb.mono B6.out.size)); clear hb))
        go_roundw
        case rel => exact ⟨k + 1, vint (by omega), by omega, HN, B7⟩
        case measure => simp [intOf]; omega
    · obtain rfl : n = k := by omega
      have HT := Lib.hid (show V = true by
        rw [← HV.out, ← P.out, List.take_of_length_le (by rw [HL.out]; exact Nat.le_refl _)])
      go_wp2_with fail
      go_ret
      exact ⟨one (vbool (by rw [HT.out])), B.out⟩
end Go.Proofs.YtjolmjbhpokgmaaGreat.W
