/- LAYER 21 (revoke): Check, Start, Valid, own, Mint, Bump, IndexFunc, Revoke of the program. -/
import Derived.Test.YtiopcojkdglapaaRvO
set_option linter.unusedSimpArgs false
set_option linter.unusedVariables false
namespace Go.Proofs.Ytiopcojkdglapaa.W
open Go Go.ChangeShapes Go.WideShapes Go.ChangeAt Go.RowKit
open Go.Proofs.Ytiopcojkdglapaa.S
set_option maxRecDepth 100000 in
set_option maxHeartbeats 4000000 in
theorem prcheck (v : Value) (r : Rv) (w : World) (h : RvV w v r) : Calls Try.prog 68 #[v] w fun x w' => x = .returned (.bool r.ok) ∧ Below w.heap.size w w' := by
  obtain ⟨a, n, c, rfl, hL, he, hx⟩ := h
  obtain ⟨ep, nx, L⟩ := r
  dsimp only at hL he hx ⊢
  obtain ⟨b0, h0⟩ : ∃ q, in64 ep 0 2147483648 = q := ⟨_, rfl⟩
  obtain ⟨b1, h1⟩ : ∃ q, in64 nx 2 2147483648 = q := ⟨_, rfl⟩
  obtain ⟨b3, h3⟩ : ∃ q, riseI nx 1 L = q := ⟨_, rfl⟩
  have HO := Lib.hid (show Rv.ok ⟨ep, nx, L⟩ = (b0 && (b1 && (decide (n ≤ 16) && b3))) by rw [← h0, ← h1, ← h3, ← hL.hlen]; rfl)
  have HB0 := Lib.hid h0
  have HB1 := Lib.hid h1
  have HG := Lib.hid (fun w' (hb : Below w.heap.size w w') => pgiven nx a n c L w' (hL.mono intOk hb).sl hx b3 h3)
  have hm := hL.hmax
  have hle := hL.hle
  clear h0 h1 h3 hL he hx
  cases b0
  · go_enter Try.func68, Try.ntmps68
    go_wp2_with (first
      | ((with_reducible refine box_row (o := ⟨some 1, _, _, _, _, _⟩) rfl _ _ rfl (rvC ep nx a n c) rfl ?_); intro w1 hr hb hz; have R1 := Lib.hid hr; obtain ⟨c0, c1, c2⟩ := hr.r3; have B1 := Lib.hid hb; have S1 := Lib.hid (show w.heap.size < w1.heap.size by omega); clear hr hb hz)
      | (go_at_call 91; (first | (with_reducible refine (pin ep 0 2147483648 _ HB0.out _).mono ?_) | (with_reducible refine (pin nx 2 2147483648 _ HB1.out _).mono ?_)); rintro x w' ⟨rfl, rfl⟩)
      | (go_at_call 124; (with_reducible refine (HG.out w1 B1.out).mono ?_); rintro x w' ⟨rfl, rfl⟩))
    go_ret
    exact ⟨one (vbool (by rw [HO.out]; first | done | rfl | (simp; done) | (rw [decide_eq_true (show n ≤ 16 by omega)]; simp) | (rw [decide_eq_false (show ¬ n ≤ 16 by omega)]; simp))), B1.out⟩
  · cases b1
    · go_enter Try.func68, Try.ntmps68
      go_wp2_with (first
        | ((with_reducible refine box_row (o := ⟨some 1, _, _, _, _, _⟩) rfl _ _ rfl (rvC ep nx a n c) rfl ?_); intro w1 hr hb hz; have R1 := Lib.hid hr; obtain ⟨c0, c1, c2⟩ := hr.r3; have B1 := Lib.hid hb; have S1 := Lib.hid (show w.heap.size < w1.heap.size by omega); clear hr hb hz)
        | (go_at_call 91; (first | (with_reducible refine (pin ep 0 2147483648 _ HB0.out _).mono ?_) | (with_reducible refine (pin nx 2 2147483648 _ HB1.out _).mono ?_)); rintro x w' ⟨rfl, rfl⟩)
        | (go_at_call 124; (with_reducible refine (HG.out w1 B1.out).mono ?_); rintro x w' ⟨rfl, rfl⟩))
      go_ret
      exact ⟨one (vbool (by rw [HO.out]; first | done | rfl | (simp; done) | (rw [decide_eq_true (show n ≤ 16 by omega)]; simp) | (rw [decide_eq_false (show ¬ n ≤ 16 by omega)]; simp))), B1.out⟩
    · by_cases hl : n ≤ 16
      · go_enter Try.func68, Try.ntmps68
        go_wp2_with (first
          | ((with_reducible refine box_row (o := ⟨some 1, _, _, _, _, _⟩) rfl _ _ rfl (rvC ep nx a n c) rfl ?_); intro w1 hr hb hz; have R1 := Lib.hid hr; obtain ⟨c0, c1, c2⟩ := hr.r3; have B1 := Lib.hid hb; have S1 := Lib.hid (show w.heap.size < w1.heap.size by omega); clear hr hb hz)
          | (go_at_call 91; (first | (with_reducible refine (pin ep 0 2147483648 _ HB0.out _).mono ?_) | (with_reducible refine (pin nx 2 2147483648 _ HB1.out _).mono ?_)); rintro x w' ⟨rfl, rfl⟩)
          | (go_at_call 124; (with_reducible refine (HG.out w1 B1.out).mono ?_); rintro x w' ⟨rfl, rfl⟩))
        go_ret
        exact ⟨one (vbool (by rw [HO.out]; first | done | rfl | (simp; done) | (rw [decide_eq_true (show n ≤ 16 by omega)]; simp) | (rw [decide_eq_false (show ¬ n ≤ 16 by omega)]; simp))), B1.out⟩
      · go_enter Try.func68, Try.ntmps68
        go_wp2_with (first
          | ((with_reducible refine box_row (o := ⟨some 1, _, _, _, _, _⟩) rfl _ _ rfl (rvC ep nx a n c) rfl ?_); intro w1 hr hb hz; have R1 := Lib.hid hr; obtain ⟨c0, c1, c2⟩ := hr.r3; have B1 := Lib.hid hb; have S1 := Lib.hid (show w.heap.size < w1.heap.size by omega); clear hr hb hz)
          | (go_at_call 91; (first | (with_reducible refine (pin ep 0 2147483648 _ HB0.out _).mono ?_) | (with_reducible refine (pin nx 2 2147483648 _ HB1.out _).mono ?_)); rintro x w' ⟨rfl, rfl⟩)
          | (go_at_call 124; (with_reducible refine (HG.out w1 B1.out).mono ?_); rintro x w' ⟨rfl, rfl⟩))
        go_ret
        exact ⟨one (vbool (by rw [HO.out]; first | done | rfl | (simp; done) | (rw [decide_eq_true (show n ≤ 16 by omega)]; simp) | (rw [decide_eq_false (show ¬ n ≤ 16 by omega)]; simp))), B1.out⟩
set_option maxRecDepth 100000 in
set_option maxHeartbeats 4000000 in
theorem prstart (w : World) : Calls Try.prog 65 #[] w fun x w' => x = .returned (.agg (rvC 0 2 none 0 0).toArray) ∧ Below w.heap.size w w' := by
  have LZ := Lib.hid rv_zero
  have LZS := Lib.hid rv_size
  go_enter Try.func65, Try.ntmps65
  go_wp2_with (first
    | ((with_reducible refine alloc_row (o := ⟨some 0, _, _, _, _, _⟩) rfl _ rfl _ LZ.out ?_); intro w1 hr hb hz; have R1 := Lib.hid hr; have B1 := Lib.hid hb; clear hr hb hz)
    | ((with_reducible refine build_row (o := ⟨some 1, _, _, _, _, _⟩) rfl _ _ rfl (rvC 0 2 none 0 0) ?_ ?_); (focus (go_simp; exact rv_built1 2)))
    | ((with_reducible refine store_row (o := ⟨none, _, _, _, _, _⟩) rfl _ (.tmp 0) _ rfl w.heap.size (rvC 0 2 none 0 0) ?_ ?_ 78 _ R1.out ?_ ?_ ?_ ?_); (focus go_simp); (focus (first | (go_simp; done) | (go_simp; rfl))); (focus (exact LZS.out)); (focus rfl); (focus (exact rv_one _ _ _ _ _)); intro w2 hr hu; have R2 := Lib.hid hr; have B2 := Lib.hid (B1.out.trans (hu.below (Nat.le_refl _))); clear hr hu))
  exact bodyPost_ret (results_cell_row rfl _ _ w.heap.size 78 _ _ _ (by go_simp) R2.out Try.underlying78 rfl LZS.out) rfl ⟨rfl, B2.out⟩
set_option maxRecDepth 100000 in
set_option maxHeartbeats 4000000 in
theorem prvalid (v : Value) (r : Rv) (id ep' : Int) (w : World) (h : RvV w v r) (hid : SI64 id) : Calls Try.prog 67 #[v, .int .i64 id, .int .i64 ep'] w fun x w' => x = .returned (.bool (r.valid id ep')) ∧ Below w.heap.size w w' := by
  obtain ⟨a, n, c, rfl, hL, he, hx⟩ := h
  obtain ⟨ep, nx, L⟩ := r
  dsimp only at hL he hx ⊢
  obtain ⟨b1, h1⟩ : ∃ q, giveI nx id = q := ⟨_, rfl⟩
  obtain ⟨b2, h2⟩ : ∃ q, decide (id ∈ L) = q := ⟨_, rfl⟩
  obtain ⟨b0, h0⟩ : ∃ q, decide (ep' = ep) = q := ⟨_, rfl⟩
  have HO := Lib.hid (show Rv.valid ⟨ep, nx, L⟩ id ep' = (b0 && (b1 && !b2)) by rw [← h0, ← h1, ← h2]; rfl)
  have I0 := Lib.hid hid
  have IX := Lib.hid hx
  have HG := Lib.hid (show riseI nx 1 [id] = b1 by rw [rise1, h1])
  have HC := Lib.hid (fun w' (hb : Below w.heap.size w w') => (by have q := icontains id a n c L w' (hL.mono intOk hb).sl; rw [h2] at q; exact q : Calls Try.prog 125 #[.slice a n c, .int .i64 id] w' fun x w'' => x = .returned (.bool b2) ∧ w' = w''))
  clear h1 h2 hL he hx hid
  cases b0
  · have e0 : (ep' == ep) = false := by simpa using h0
    clear h0
    go_enter Try.func67, Try.ntmps67
    go_wp2_with (first
      | ((with_reducible refine box_row (o := ⟨some 3, _, _, _, _, _⟩) rfl _ _ rfl (rvC ep nx a n c) rfl ?_); intro w1 hr hb hz; have R1 := Lib.hid hr; obtain ⟨c0, c1, c2⟩ := hr.r3; have B1 := Lib.hid hb; have S1 := Lib.hid (show w.heap.size < w1.heap.size by omega); clear hr hb hz)
      | ((with_reducible refine bg1 (o := ⟨some 15, _, _, _, _, _⟩) 4 true 11 rfl _ rfl ?_ ?_ id ?_ I0.out ?_); (focus rfl); (focus (first | (go_simp; done) | (go_simp; rfl))); (focus (first | (go_simp; done) | (go_simp; rfl))); intro w2 hs hb hz; have X2 := Lib.hid hs; have Y2 := Lib.hid hb; have B2 := Lib.hid (B1.out.trans (hb.mono B1.out.size)); clear hs hb hz)
      | (go_at_call 124; (with_reducible refine (pgiven nx _ 1 1 [id] w2 X2.out IX.out _ HG.out).mono ?_); rintro x w' ⟨rfl, rfl⟩; obtain ⟨d0, d1, d2⟩ := (R1.out.below Y2.out R1.out.lt).r3)
      | (go_at_call 125; (with_reducible refine (HC.out _ B2.out).mono ?_); rintro x w' ⟨rfl, rfl⟩))
    go_ret
    exact ⟨one (vbool (by rw [HO.out]; first | done | rfl | simp)), B1.out⟩
  · have e0 : (ep' == ep) = true := by simpa using h0
    clear h0
    cases b1
    · go_enter Try.func67, Try.ntmps67
      go_wp2_with (first
        | ((with_reducible refine box_row (o := ⟨some 3, _, _, _, _, _⟩) rfl _ _ rfl (rvC ep nx a n c) rfl ?_); intro w1 hr hb hz; have R1 := Lib.hid hr; obtain ⟨c0, c1, c2⟩ := hr.r3; have B1 := Lib.hid hb; have S1 := Lib.hid (show w.heap.size < w1.heap.size by omega); clear hr hb hz)
        | ((with_reducible refine bg1 (o := ⟨some 15, _, _, _, _, _⟩) 4 true 11 rfl _ rfl ?_ ?_ id ?_ I0.out ?_); (focus rfl); (focus (first | (go_simp; done) | (go_simp; rfl))); (focus (first | (go_simp; done) | (go_simp; rfl))); intro w2 hs hb hz; have X2 := Lib.hid hs; have Y2 := Lib.hid hb; have B2 := Lib.hid (B1.out.trans (hb.mono B1.out.size)); clear hs hb hz)
        | (go_at_call 124; (with_reducible refine (pgiven nx _ 1 1 [id] w2 X2.out IX.out _ HG.out).mono ?_); rintro x w' ⟨rfl, rfl⟩; obtain ⟨d0, d1, d2⟩ := (R1.out.below Y2.out R1.out.lt).r3)
        | (go_at_call 125; (with_reducible refine (HC.out _ B2.out).mono ?_); rintro x w' ⟨rfl, rfl⟩))
      go_ret
      exact ⟨one (vbool (by rw [HO.out]; first | done | rfl | simp)), B2.out⟩
    · go_enter Try.func67, Try.ntmps67
      go_wp2_with (first
        | ((with_reducible refine box_row (o := ⟨some 3, _, _, _, _, _⟩) rfl _ _ rfl (rvC ep nx a n c) rfl ?_); intro w1 hr hb hz; have R1 := Lib.hid hr; obtain ⟨c0, c1, c2⟩ := hr.r3; have B1 := Lib.hid hb; have S1 := Lib.hid (show w.heap.size < w1.heap.size by omega); clear hr hb hz)
        | ((with_reducible refine bg1 (o := ⟨some 15, _, _, _, _, _⟩) 4 true 11 rfl _ rfl ?_ ?_ id ?_ I0.out ?_); (focus rfl); (focus (first | (go_simp; done) | (go_simp; rfl))); (focus (first | (go_simp; done) | (go_simp; rfl))); intro w2 hs hb hz; have X2 := Lib.hid hs; have Y2 := Lib.hid hb; have B2 := Lib.hid (B1.out.trans (hb.mono B1.out.size)); clear hs hb hz)
        | (go_at_call 124; (with_reducible refine (pgiven nx _ 1 1 [id] w2 X2.out IX.out _ HG.out).mono ?_); rintro x w' ⟨rfl, rfl⟩; obtain ⟨d0, d1, d2⟩ := (R1.out.below Y2.out R1.out.lt).r3)
        | (go_at_call 125; (with_reducible refine (HC.out _ B2.out).mono ?_); rintro x w' ⟨rfl, rfl⟩))
      go_ret
      exact ⟨one (vbool (by rw [HO.out]; first | done | rfl | simp)), B2.out⟩
set_option maxRecDepth 100000 in
set_option maxHeartbeats 4000000 in
theorem prown (ep nx : Int) (a : Option Addr) (n c : Nat) (L : List Int) (w : World) (h : Ls intE w a n c L) (hn : n ≤ 100) :
    Calls Try.prog 123 #[.agg (rvC ep nx a n c).toArray] w fun x w' => ∃ a2 c2, x = .returned (.agg (rvC ep nx a2 n c2).toArray) ∧ LsO intE w' w.heap.size (.slice a2 n c2) L ∧ Below w.heap.size w w' := by
  have LZS := Lib.hid rv_size
  have LZ := Lib.hid rv_zero
  have HC := Lib.hid (fun w' (hb : Below w.heap.size w w') => iclone a n c L w' (h.mono intOk hb) (by omega))
  clear h
  go_enter Try.func123, Try.ntmps123
  go_wp2_with (first
    | ((with_reducible refine box_row (o := ⟨some 1, _, _, _, _, _⟩) rfl _ _ rfl (rvC ep nx a n c) rfl ?_); intro w1 hr hb hz; have R1 := Lib.hid hr; have B1 := Lib.hid hb; have B1S := Lib.hid (show w.heap.size < w1.heap.size by omega); clear hr hb hz)
    | ((with_reducible refine alloc_row (o := ⟨some 2, _, _, _, _, _⟩) rfl _ rfl _ LZ.out ?_); intro w2 hr hb hz; have R22 := Lib.hid hr; have R12 := Lib.hid (R1.out.below hb R1.out.lt); obtain ⟨c0, c1, c2⟩ := R12.out.r3; have B2 := Lib.hid (B1.out.trans (hb.mono B1.out.size)); clear hr hb hz c0 c1)
    | (go_at_call 149; (with_reducible refine (HC.out w2 B2.out).mono ?_); rintro x w3 ⟨a3, c3, rfl, hown, hb⟩; have O3 := Lib.hid hown; have R13 := Lib.hid (R12.out.below hb R12.out.lt); have R23 := Lib.hid (R22.out.below hb R22.out.lt); have B3 := Lib.hid (B2.out.trans (hb.mono B2.out.size)); clear hown hb c2)
    | ((with_reducible refine store_cell (o := ⟨none, _, _, _, _, _⟩) rfl _ (.tmp 6) _ rfl w.heap.size 2 (.slice a3 n c3) ?_ ?_ rfl rfl 78 _ R13.out ?_ ?_ ?_); (focus go_simp); (focus go_simp); (focus (kernel_rfl)); (focus (show 2 < 3; decide)); intro w4 hr hu; have R14 := Lib.hid (show Row w4 w.heap.size 78 (rvC ep nx a3 n c3) from hr); have R24 := Lib.hid (R23.out.upd hu (Nat.ne_of_gt B1S.out)); have O4 := Lib.hid (O3.out.upd hu (fun e => absurd (World.ownsRow.lt O3.out _ e).1 (Nat.not_le_of_lt R12.out.lt))); have B4 := Lib.hid (B3.out.trans (hu.below (Nat.le_refl _))); clear hr hu)
    | ((with_reducible refine load_row (o := ⟨some 7, _, _, _, _, _⟩) rfl _ _ rfl w.heap.size ?_ _ (rvC ep nx a3 n c3) _ R14.out Try.underlying78 rfl ?_ ?_); (focus go_simp); (focus (exact LZS.out)))
    | ((with_reducible refine store_row (o := ⟨none, _, _, _, _, _⟩) rfl _ (.tmp 2) _ rfl w1.heap.size (rvC ep nx a3 n c3) ?_ ?_ 78 _ R24.out ?_ ?_ ?_ ?_); (focus go_simp); (focus (first | (go_simp; done) | (go_simp; rfl))); (focus (exact LZS.out)); (focus rfl); (focus (exact rv_one _ _ _ _ _)); intro w5 hr hu; have R25 := Lib.hid hr; have O5 := Lib.hid (O4.out.upd hu (fun e => absurd (World.ownsRow.lt O4.out _ e).1 (Nat.not_le_of_lt R22.out.lt))); have B5 := Lib.hid (B4.out.trans (hu.below B1.out.size)); clear hr hu))
  exact bodyPost_ret (results_cell_row rfl _ _ w1.heap.size 78 _ _ _ (by go_simp) R25.out Try.underlying78 rfl LZS.out) rfl ⟨_, _, rfl, O5.out.base B2.out.size, B5.out⟩
theorem results_rv2 {P : Program} {fn : Func} {p a b : Tmp} {ty : TypeId} (h : fn.results = #[.cell p ty, .tmp a, .tmp b]) (tmps : Array Value) (w : World) (g : Nat) (t : TypeId) (cs : Array Value) (fr : Nat × Nat) (d : TypeDesc)
    (hp : tmps.getD p undef = .pointer (some ⟨g, 0, none⟩)) (hg : w.heap[g]? = some (.cells cs t fr))
    (hu : P.underlying ty = some d) (hd : (match d with | .struct _ | .array _ _ => true | _ => false) = true) (hi : (P.info? ty).map (·.size) = some cs.size) :
    (results fn tmps).run P w = .ok (.tuple #[.agg cs, tmps.getD a undef, tmps.getD b undef]) w := by
  have hp' : tmps[p]?.getD undef = .pointer (some ⟨g, 0, none⟩) := by simpa using hp
  simp [results, h, hp', asAddr, run_loadVar_row w g t ty cs fr d hg hu hd hi]
theorem fin_rv {w' : World} {base b0 : Nat} {a : Option Addr} {n c : Nat} {ep nx : Int} {L : List Int} (h : LsO intE w' base (.slice a n c) L) (hb : b0 ≤ base) (hl : L.length = n) (hf : ∀ x ∈ L, SI64 x) (he : SI64 ep) (hx : SI64 nx) : RvF w' b0 (.agg (rvC ep nx a n c).toArray) ⟨ep, nx, L⟩ := by
  obtain ⟨h1, h2⟩ := int_out h hl hf
  exact ⟨a, n, c, rfl, h1, he, hx, fun b off e => Nat.le_trans hb (h2 b off e)⟩
set_option maxRecDepth 100000 in
set_option maxHeartbeats 4000000 in
theorem prmint (v : Value) (r : Rv) (w : World) (h : RvV w v r) (hn : r.ids.length ≤ 100) : Calls Try.prog 69 #[v] w fun x w' => ∃ v', x = .returned (.tuple #[v', .int .i64 r.mint.2.1, .int .i64 r.mint.2.2]) ∧ RvF w' w.heap.size v' r.mint.1 ∧ Below w.heap.size w w' := by
  obtain ⟨a, n, c, rfl, hL, he, hx⟩ := h
  obtain ⟨ep, nx, L⟩ := r
  dsimp only at hL he hx hn ⊢
  have hle : n ≤ 100 := by rw [← hL.hlen]; exact hn
  have LZS := Lib.hid rv_size
  have LZ := Lib.hid rv_zero
  have HL := Lib.hid hL.hlen
  have HF := Lib.hid (show ∀ x ∈ L, SI64 x from hL.hfit)
  have IE := Lib.hid he
  have IX := Lib.hid hx
  have HW := Lib.hid (fun w' (hb : Below w.heap.size w w') => prown ep nx a n c L w' (hL.mono intOk hb) hle)
  have hx1 := hx.1
  have hx2 := hx.2
  have he1 := he.1
  have he2 := he.2
  clear hL he hx hn
  by_cases hb : 2147483648 ≤ nx
  · rw [show Rv.mint ⟨ep, nx, L⟩ = (⟨ep, nx, L⟩, 0, 7) from if_pos hb]
    go_enter Try.func69, Try.ntmps69
    go_wp2_with (first
      | ((with_reducible refine box_row (o := ⟨some 1, _, _, _, _, _⟩) rfl _ _ rfl (rvC ep nx a n c) rfl ?_); intro w1 hr hb hz; have R1 := Lib.hid hr; obtain ⟨c0, c1, c2⟩ := hr.r3; have B1 := Lib.hid hb; have S1 := Lib.hid (show w.heap.size < w1.heap.size by omega); clear hr hb hz)
      | ((with_reducible refine alloc_row (o := ⟨some 2, _, _, _, _, _⟩) rfl _ rfl _ LZ.out ?_); intro w2 hr hb hz; have R22 := Lib.hid hr; have R12 := Lib.hid (R1.out.below hb R1.out.lt); have B2 := Lib.hid (B1.out.trans (hb.mono B1.out.size)); clear hr hb hz)
      | ((with_reducible refine load_row (o := ⟨some 6, _, _, _, _, _⟩) rfl _ _ rfl w.heap.size ?_ _ (rvC ep nx a n c) _ R12.out Try.underlying78 rfl ?_ ?_); (focus go_simp); (focus (exact LZS.out)))
      | (go_at_call 123; (with_reducible refine (HW.out w2 B2.out).mono ?_); rintro x w3 ⟨a3, c3, rfl, hown, hb⟩; have O3 := Lib.hid hown; have R13 := Lib.hid (R12.out.below hb R12.out.lt); have R23 := Lib.hid (R22.out.below hb R22.out.lt); have B3 := Lib.hid (B2.out.trans (hb.mono B2.out.size)); clear hown hb)
      | ((with_reducible refine store_row (o := ⟨none, _, _, _, _, _⟩) rfl _ (.tmp 1) _ rfl w.heap.size (rvC ep nx a3 n c3) ?_ ?_ 78 _ R13.out ?_ ?_ ?_ ?_); (focus go_simp); (focus (first | (go_simp; done) | (go_simp; rfl))); (focus (exact LZS.out)); (focus rfl); (focus (exact rv_one _ _ _ _ _)); intro w4 hr hu; have R14 := Lib.hid hr; have R24 := Lib.hid (R23.out.upd hu (Nat.ne_of_gt S1.out)); have O4 := Lib.hid (O3.out.upd hu (fun e => absurd (World.ownsRow.lt O3.out _ e).1 (Nat.not_le_of_lt R12.out.lt))); obtain ⟨d0, d1, d2⟩ := hr.r3; have B4 := Lib.hid (B3.out.trans (hu.below (Nat.le_refl _))); clear hr hu)
      | ((with_reducible refine load_row (o := ⟨some 11, _, _, _, _, _⟩) rfl _ _ rfl w.heap.size ?_ _ (rvC ep nx a3 n c3) _ R14.out Try.underlying78 rfl ?_ ?_); (focus go_simp); (focus (exact LZS.out)))
      | ((with_reducible refine store_row (o := ⟨none, _, _, _, _, _⟩) rfl _ (.tmp 2) _ rfl w1.heap.size (rvC ep nx a3 n c3) ?_ ?_ 78 _ R24.out ?_ ?_ ?_ ?_); (focus go_simp); (focus (first | (go_simp; done) | (go_simp; rfl))); (focus (exact LZS.out)); (focus rfl); (focus (exact rv_one _ _ _ _ _)); intro w6 hr hu; have R26 := Lib.hid hr; have O6 := Lib.hid (O4.out.upd hu (fun e => absurd (World.ownsRow.lt O4.out _ e).1 (Nat.not_le_of_lt R22.out.lt))); have B6 := Lib.hid (B4.out.trans (hu.below B1.out.size)); clear hr hu))
    exact bodyPost_ret (results_rv2 rfl _ _ w1.heap.size 78 _ _ _ (by go_simp) R26.out Try.underlying78 rfl LZS.out) rfl ⟨_, rfl, fin_rv O6.out B2.out.size HL.out HF.out IE.out IX.out, B6.out⟩
  · rw [show Rv.mint ⟨ep, nx, L⟩ = (⟨ep, nx + 1, L⟩, nx, 0) from if_neg hb]
    go_enter Try.func69, Try.ntmps69
    go_wp2_with (first
      | ((with_reducible refine box_row (o := ⟨some 1, _, _, _, _, _⟩) rfl _ _ rfl (rvC ep nx a n c) rfl ?_); intro w1 hr hb hz; have R1 := Lib.hid hr; obtain ⟨c0, c1, c2⟩ := hr.r3; have B1 := Lib.hid hb; have S1 := Lib.hid (show w.heap.size < w1.heap.size by omega); clear hr hb hz)
      | ((with_reducible refine alloc_row (o := ⟨some 2, _, _, _, _, _⟩) rfl _ rfl _ LZ.out ?_); intro w2 hr hb hz; have R22 := Lib.hid hr; have R12 := Lib.hid (R1.out.below hb R1.out.lt); have B2 := Lib.hid (B1.out.trans (hb.mono B1.out.size)); clear hr hb hz)
      | ((with_reducible refine load_row (o := ⟨some 6, _, _, _, _, _⟩) rfl _ _ rfl w.heap.size ?_ _ (rvC ep nx a n c) _ R12.out Try.underlying78 rfl ?_ ?_); (focus go_simp); (focus (exact LZS.out)))
      | (go_at_call 123; (with_reducible refine (HW.out w2 B2.out).mono ?_); rintro x w3 ⟨a3, c3, rfl, hown, hb⟩; have O3 := Lib.hid hown; have R13 := Lib.hid (R12.out.below hb R12.out.lt); have R23 := Lib.hid (R22.out.below hb R22.out.lt); have B3 := Lib.hid (B2.out.trans (hb.mono B2.out.size)); clear hown hb)
      | ((with_reducible refine store_row (o := ⟨none, _, _, _, _, _⟩) rfl _ (.tmp 1) _ rfl w.heap.size (rvC ep nx a3 n c3) ?_ ?_ 78 _ R13.out ?_ ?_ ?_ ?_); (focus go_simp); (focus (first | (go_simp; done) | (go_simp; rfl))); (focus (exact LZS.out)); (focus rfl); (focus (exact rv_one _ _ _ _ _)); intro w4 hr hu; have R14 := Lib.hid hr; have R24 := Lib.hid (R23.out.upd hu (Nat.ne_of_gt S1.out)); have O4 := Lib.hid (O3.out.upd hu (fun e => absurd (World.ownsRow.lt O3.out _ e).1 (Nat.not_le_of_lt R12.out.lt))); obtain ⟨d0, d1, d2⟩ := hr.r3; have B4 := Lib.hid (B3.out.trans (hu.below (Nat.le_refl _))); clear hr hu)
      | ((with_reducible refine store_cell (o := ⟨none, _, _, _, _, _⟩) rfl _ (.tmp 17) _ rfl w.heap.size 1 (.int .i64 (nx + 1)) ?_ ?_ rfl rfl 78 _ R14.out ?_ ?_ ?_); (focus go_simp); (focus (go_simp; first | done | rfl | exact vint (by omega))); (focus (kernel_rfl)); (focus (show 1 < 3; decide)); intro w5 hr hu; have R15 := Lib.hid (show Row w5 w.heap.size 78 (rvC ep (nx + 1) a3 n c3) from hr); have R25 := Lib.hid (R24.out.upd hu (Nat.ne_of_gt S1.out)); have O5 := Lib.hid (O4.out.upd hu (fun e => absurd (World.ownsRow.lt O4.out _ e).1 (Nat.not_le_of_lt R12.out.lt))); have B5 := Lib.hid (B4.out.trans (hu.below (Nat.le_refl _))); clear hr hu d0 d1 d2)
      | ((with_reducible refine load_row (o := ⟨some 18, _, _, _, _, _⟩) rfl _ _ rfl w.heap.size ?_ _ (rvC ep (nx + 1) a3 n c3) _ R15.out Try.underlying78 rfl ?_ ?_); (focus go_simp); (focus (exact LZS.out)))
      | ((with_reducible refine store_row (o := ⟨none, _, _, _, _, _⟩) rfl _ (.tmp 2) _ rfl w1.heap.size (rvC ep (nx + 1) a3 n c3) ?_ ?_ 78 _ R25.out ?_ ?_ ?_ ?_); (focus go_simp); (focus (first | (go_simp; done) | (go_simp; rfl))); (focus (exact LZS.out)); (focus rfl); (focus (exact rv_one _ _ _ _ _)); intro w6 hr hu; have R26 := Lib.hid hr; have O6 := Lib.hid (O5.out.upd hu (fun e => absurd (World.ownsRow.lt O5.out _ e).1 (Nat.not_le_of_lt R22.out.lt))); have B6 := Lib.hid (B5.out.trans (hu.below B1.out.size)); clear hr hu))
    exact bodyPost_ret (results_rv2 rfl _ _ w1.heap.size 78 _ _ _ (by go_simp) R26.out Try.underlying78 rfl LZS.out) rfl ⟨_, rfl, fin_rv O6.out B2.out.size HL.out HF.out IE.out ⟨by omega, by omega⟩, B6.out⟩
set_option maxRecDepth 100000 in
set_option maxHeartbeats 4000000 in
theorem prbump (v : Value) (r : Rv) (w : World) (h : RvV w v r) (hn : r.ids.length ≤ 100) : Calls Try.prog 122 #[v] w fun x w' => ∃ v', x = .returned (.tuple #[v', .int .i64 r.bump.2]) ∧ RvF w' w.heap.size v' r.bump.1 ∧ Below w.heap.size w w' := by
  obtain ⟨a, n, c, rfl, hL, he, hx⟩ := h
  obtain ⟨ep, nx, L⟩ := r
  dsimp only at hL he hx hn ⊢
  have hle : n ≤ 100 := by rw [← hL.hlen]; exact hn
  have LZS := Lib.hid rv_size
  have LZ := Lib.hid rv_zero
  have HL := Lib.hid hL.hlen
  have HF := Lib.hid (show ∀ x ∈ L, SI64 x from hL.hfit)
  have IE := Lib.hid he
  have IX := Lib.hid hx
  have HW := Lib.hid (fun w' (hb : Below w.heap.size w w') => prown ep nx a n c L w' (hL.mono intOk hb) hle)
  have hx1 := hx.1
  have hx2 := hx.2
  have he1 := he.1
  have he2 := he.2
  clear hL he hx hn
  by_cases hb : 2147483648 ≤ ep
  · rw [show Rv.bump ⟨ep, nx, L⟩ = (⟨ep, nx, L⟩, 7) from if_pos hb]
    go_enter Try.func122, Try.ntmps122
    go_wp2_with (first
      | ((with_reducible refine box_row (o := ⟨some 1, _, _, _, _, _⟩) rfl _ _ rfl (rvC ep nx a n c) rfl ?_); intro w1 hr hb hz; have R1 := Lib.hid hr; obtain ⟨c0, c1, c2⟩ := hr.r3; have B1 := Lib.hid hb; have S1 := Lib.hid (show w.heap.size < w1.heap.size by omega); clear hr hb hz)
      | ((with_reducible refine alloc_row (o := ⟨some 2, _, _, _, _, _⟩) rfl _ rfl _ LZ.out ?_); intro w2 hr hb hz; have R22 := Lib.hid hr; have R12 := Lib.hid (R1.out.below hb R1.out.lt); have B2 := Lib.hid (B1.out.trans (hb.mono B1.out.size)); obtain ⟨d0, d1, d2⟩ := R12.out.r3; clear hr hb hz)
      | ((with_reducible refine load_row (o := ⟨some 7, _, _, _, _, _⟩) rfl _ _ rfl w.heap.size ?_ _ (rvC ep nx a n c) _ R12.out Try.underlying78 rfl ?_ ?_); (focus go_simp); (focus (exact LZS.out)))
      | (go_at_call 123; (with_reducible refine (HW.out w2 B2.out).mono ?_); rintro x w3 ⟨a3, c3, rfl, hown, hb⟩; have O3 := Lib.hid hown; have R13 := Lib.hid (R12.out.below hb R12.out.lt); have R23 := Lib.hid (R22.out.below hb R22.out.lt); have B3 := Lib.hid (B2.out.trans (hb.mono B2.out.size)); clear hown hb)
      | ((with_reducible refine store_row (o := ⟨none, _, _, _, _, _⟩) rfl _ (.tmp 2) _ rfl w1.heap.size (rvC ep nx a3 n c3) ?_ ?_ 78 _ R23.out ?_ ?_ ?_ ?_); (focus go_simp); (focus (first | (go_simp; done) | (go_simp; rfl))); (focus (exact LZS.out)); (focus rfl); (focus (exact rv_one _ _ _ _ _)); intro w6 hr hu; have R26 := Lib.hid hr; have O6 := Lib.hid (O3.out.upd hu (fun e => absurd (World.ownsRow.lt O3.out _ e).1 (Nat.not_le_of_lt R22.out.lt))); have B6 := Lib.hid (B3.out.trans (hu.below B1.out.size)); clear hr hu))
    exact bodyPost_ret (results_row_tmp rfl _ _ w1.heap.size 78 _ _ _ (by go_simp) R26.out Try.underlying78 rfl LZS.out) rfl ⟨_, rfl, fin_rv O6.out B2.out.size HL.out HF.out IE.out IX.out, B6.out⟩
  · rw [show Rv.bump ⟨ep, nx, L⟩ = (⟨ep + 1, nx, []⟩, 0) from if_neg hb]
    go_enter Try.func122, Try.ntmps122
    go_wp2_with (first
      | ((with_reducible refine box_row (o := ⟨some 1, _, _, _, _, _⟩) rfl _ _ rfl (rvC ep nx a n c) rfl ?_); intro w1 hr hb hz; have R1 := Lib.hid hr; obtain ⟨c0, c1, c2⟩ := hr.r3; have B1 := Lib.hid hb; have S1 := Lib.hid (show w.heap.size < w1.heap.size by omega); clear hr hb hz)
      | ((with_reducible refine alloc_row (o := ⟨some 2, _, _, _, _, _⟩) rfl _ rfl _ LZ.out ?_); intro w2 hr hb hz; have R22 := Lib.hid hr; have R12 := Lib.hid (R1.out.below hb R1.out.lt); have B2 := Lib.hid (B1.out.trans (hb.mono B1.out.size)); obtain ⟨d0, d1, d2⟩ := R12.out.r3; clear hr hb hz)
      | ((with_reducible refine build_row (o := ⟨some 14, _, _, _, _, _⟩) rfl _ _ rfl (rvC (ep + 1) nx none 0 0) ?_ ?_); (focus (go_simp; first | exact rv_built _ _ | (rw [show IntKind.i64.wrap (ep + 1) = ep + 1 by rw [IntKind.wrap_i64]; omega]; exact rv_built _ _) | (rw [show wrap64 (ep + 1) = ep + 1 by unfold wrap64; omega]; exact rv_built _ _))))
      | ((with_reducible refine store_row (o := ⟨none, _, _, _, _, _⟩) rfl _ (.tmp 2) _ rfl w1.heap.size (rvC (ep + 1) nx none 0 0) ?_ ?_ 78 _ R22.out ?_ ?_ ?_ ?_); (focus go_simp); (focus (first | (go_simp; done) | (go_simp; rfl))); (focus (exact LZS.out)); (focus rfl); (focus (exact rv_one _ _ _ _ _)); intro w6 hr hu; have R26 := Lib.hid hr; have B6 := Lib.hid (B2.out.trans (hu.below B1.out.size)); clear hr hu))
    exact bodyPost_ret (results_row_tmp rfl _ _ w1.heap.size 78 _ _ _ (by go_simp) R26.out Try.underlying78 rfl LZS.out) rfl ⟨_, rfl, fin_rv (LsO.nil _ _) (Nat.le_refl _) rfl (by simp) ⟨by omega, by omega⟩ IX.out, B6.out⟩
set_option maxRecDepth 100000 in
set_option maxHeartbeats 4000000 in
theorem prabove (id x : Int) (g : Nat) (w : World) (h : Row w g 3 [.int .i64 id]) (q : Bool) (hq : decide (id < x) = q) : Calls Try.prog 127 #[.int .i64 x, .pointer (some ⟨g, 0, none⟩)] w fun e w' => e = .returned (.bool q) ∧ w = w' := by
  have HX := Lib.hid hq
  have c0 := h.k0
  clear h hq
  go_enter Try.func127, Try.ntmps127
  go_wp2_with fail
  go_ret
  exact ⟨one (vbool (by rw [← HX.out]; first | done | rfl | simp)), rfl⟩
set_option maxRecDepth 100000 in
set_option maxHeartbeats 8000000 in
theorem iidx (id : Int) (g : Nat) (a : Option Addr) (n c : Nat) (L : List Int) (w : World) (h : Sl .i64 w a n L) (hg : Row w g 3 [.int .i64 id]) (k : Nat) (hk : k ≤ n) (h1 : ∀ i, i < k → ∀ x, L[i]? = some x → x ≤ id) (h2 : ∀ x, L[k]? = some x → id < x) (z : Int) (hz : z = if k = n then -1 else (k : Int)) :
    Calls Try.prog 151 #[.slice a n c, .func (.func 127) #[] #[.pointer (some ⟨g, 0, none⟩)]] w fun x w' => x = .returned (.int .i64 z) ∧ w = w' := by
  have H := Lib.hid h
  have HG := Lib.hid hg
  have H1 := Lib.hid h1
  have H2 := Lib.hid h2
  have HZ := Lib.hid hz
  have hm := h.2.1
  clear h hg h1 h2 hz
  go_enter Try.func151, Try.ntmps151
  go_wp2_with fail
  go_loop [8] (fun i => ∃ j : Nat, i = .int .i64 (j : Int) ∧ j ≤ k) (fun i => n - (intOf i).toNat)
  case atStart => exact ⟨0, rfl, Nat.zero_le _⟩
  case round =>
    obtain ⟨j, rfl, hj⟩ := hrel
    by_cases hlt : j < n
    · obtain ⟨b, off, x, rfl, hx, hcell, -⟩ := H.out.at (Below.refl _ _) j hlt
      have g1 : (0 : Int) ≤ (j : Int) := by omega
      have g2 : (j : Int) < (n : Int) := by omega
      by_cases hjk : j < k
      · have hle := H1.out j hjk x hx
        have HC := Lib.hid (prabove id x g w HG.out false (by simpa using hle))
        clear hx hle
        go_wp2_with (go_at_call 127; (with_reducible refine HC.out.mono ?_); rintro e w' ⟨rfl, rfl⟩)
        go_round
        case rel => exact ⟨j + 1, by go_num, by omega⟩
        case measure => simp [intOf]; omega
      · obtain rfl : j = k := by omega
        have hle := H2.out x hx
        have HC := Lib.hid (prabove id x g w HG.out true (by simpa using hle))
        have HZ2 := Lib.hid (show z = (j : Int) by rw [HZ.out, if_neg (by omega)])
        clear hx hle
        go_wp2_with (go_at_call 127; (with_reducible refine HC.out.mono ?_); rintro e w' ⟨rfl, rfl⟩)
        go_ret
        exact ⟨one (vint (by rw [HZ2.out])), rfl⟩
    · obtain rfl : n = j := by omega
      have HZ2 := Lib.hid (show z = -1 by rw [HZ.out, if_pos (by omega)])
      go_wp2_with fail
      go_ret
      exact ⟨one (vint (by rw [HZ2.out])), rfl⟩
end Go.Proofs.Ytiopcojkdglapaa.W
