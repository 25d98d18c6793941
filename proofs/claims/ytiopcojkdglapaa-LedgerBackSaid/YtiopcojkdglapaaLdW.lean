/- LAYER 19 (ledger): with, copied, Free of the reference. -/
import Derived.Test.YtiopcojkdglapaaLdU
import Derived.Test.YtiopcojkdglapaaSt
set_option linter.unusedSimpArgs false
set_option linter.unusedVariables false
namespace Go.Proofs.Ytiopcojkdglapaa.W
open Go Go.ChangeShapes Go.WideShapes Go.ChangeAt Go.RowKit
open Go.Proofs.Ytiopcojkdglapaa.P (enc dec)

theorem LsO.upd_lt {α : Type} {E : El α} {w w' : World} {base g : Nat} {v : Value} {L : List α} (h : LsO E w base v L) (hu : Upd w w' g) (hg : g < base) : LsO E w' base v L :=
  h.upd hu (fun e => by have := (World.ownsRow.lt h g e).1; omega)
/-- a ledger, as a value -/
def LdV (w : World) (v : Value) (l : Ld) : Prop := ∃ a n c, v = .agg (ldC l.q l.u l.h l.n a n c).toArray ∧ Ls hdE w a n c l.L
theorem LdV.mono {w w' : World} {v : Value} {l : Ld} (h : LdV w v l) (hb : Below w.heap.size w w') : LdV w' v l := by
  obtain ⟨a, n, c, hv, hl⟩ := h
  exact ⟨a, n, c, hv, hl.mono hdOk hb⟩
set_option maxRecDepth 100000 in
set_option maxHeartbeats 4000000 in
theorem ywith (q u h' nx : Int) (a : Option Addr) (n c : Nat) (a2 : Option Addr) (n2 c2 : Nat) (w : World) :
    Calls Try.prog 147 #[.agg (ldC q u h' nx a n c).toArray, .slice a2 n2 c2] w fun x w' => x = .returned (.agg (ldC q u h' nx a2 n2 c2).toArray) ∧ Below w.heap.size w w' := by
  have SZ := Lib.hid ld_size
  have LZ := Lib.hid ld_zero
  go_enter Try.func147, Try.ntmps147
  go_wp2_with (first
    | ((with_reducible refine box_row (o := ⟨some 2, _, _, _, _, _⟩) rfl _ _ rfl (ldC q u h' nx a n c) rfl ?_); intro w1 hr hb hz; have R1 := Lib.hid hr; have B1 := Lib.hid hb; have HZ1 := Lib.hid hz; clear hr hb hz)
    | ((with_reducible refine alloc_row (o := ⟨some 4, _, _, _, _, _⟩) rfl _ rfl _ LZ.out ?_); intro w2 hr hb hz; have R2 := Lib.hid hr; have R1 := Lib.hid (R1.out.below hb R1.out.lt); have B2 := Lib.hid (B1.out.trans (hb.mono B1.out.size)); clear hr hb hz)
    | ((with_reducible refine store_cell (o := ⟨none, _, _, _, _, _⟩) rfl _ (.tmp 6) _ rfl w.heap.size 4 (.slice a2 n2 c2) ?_ ?_ rfl rfl 50 _ R1.out ?_ ?_ ?_); (focus go_simp); (focus go_simp); (focus (kernel_rfl)); (focus (show 4 < 5; decide)); intro w3 hr hu; have R3 := Lib.hid (show Row w3 w.heap.size 50 (ldC q u h' nx a2 n2 c2) from hr); have R2 := Lib.hid (R2.out.upd hu (by have := HZ1.out; omega)); have B3 := Lib.hid (B2.out.trans (hu.below (Nat.le_refl _))); clear hr hu)
    | ((with_reducible refine load_row (o := ⟨some 7, _, _, _, _, _⟩) rfl _ _ rfl w.heap.size ?_ _ (ldC q u h' nx a2 n2 c2) _ R3.out Try.underlying50 rfl ?_ ?_); (focus go_simp); (focus (exact SZ.out)))
    | ((with_reducible refine store_row (o := ⟨none, _, _, _, _, _⟩) rfl _ (.tmp 4) _ rfl w1.heap.size (ldC q u h' nx a2 n2 c2) ?_ ?_ 50 _ R2.out ?_ ?_ ?_ ?_); (focus go_simp); (focus (first | (go_simp; done) | (go_simp; rfl))); (focus (exact SZ.out)); (focus rfl); (focus (exact ld_one _ _ _ _ _ _ _)); intro w4 hr4 hu4; have R4 := Lib.hid hr4; have B4 := Lib.hid (B3.out.trans (hu4.below B1.out.size)); clear hr4 hu4))
  exact bodyPost_ret (results_cell_row rfl _ _ w1.heap.size 50 _ _ _ (by go_simp) R4.out Try.underlying50 rfl SZ.out) rfl ⟨rfl, B4.out⟩
set_option maxRecDepth 100000 in
set_option maxHeartbeats 4000000 in
theorem ycopied (q u h' nx : Int) (a : Option Addr) (n c : Nat) (L : List Hd) (w : World) (h : Ls hdE w a n c L) (hn8 : n ≤ 100) :
    Calls Try.prog 145 #[.agg (ldC q u h' nx a n c).toArray] w fun x w' => ∃ a2 c2, x = .returned (.agg (ldC q u h' nx a2 n c2).toArray) ∧ LsO hdE w' w.heap.size (.slice a2 n c2) L ∧ Below w.heap.size w w' := by
  have SZ := Lib.hid ld_size
  have LZ := Lib.hid ld_zero
  have H := Lib.hid h
  have HL := Lib.hid h.hlen
  clear h
  go_enter Try.func145, Try.ntmps145
  go_wp2_with (first
    | ((with_reducible refine box_row (o := ⟨some 1, _, _, _, _, _⟩) rfl _ _ rfl (ldC q u h' nx a n c) rfl ?_); intro w1 hr hb hz; have R1 := Lib.hid hr; have B1 := Lib.hid hb; have HZ1 := Lib.hid hz; clear hr hb hz)
    | ((with_reducible refine alloc_row (o := ⟨some 2, _, _, _, _, _⟩) rfl _ rfl _ LZ.out ?_); intro w2 hr hb hz; have R2 := Lib.hid hr; have R1 := Lib.hid (R1.out.below hb R1.out.lt); have B2 := Lib.hid (B1.out.trans (hb.mono B1.out.size)); have HZ2 := Lib.hid hz; clear hr hb hz))
  obtain ⟨c0, c1, c2, c3, c4⟩ := R1.out.l5
  have c4 := Lib.hid c4
  clear c0 c1 c2 c3
  refine region_t (fun v => Below w2.heap.size w2 v) 5 (by kernel_rfl) (by kernel_rfl) (by kernel_rfl) (Below.refl _ _).drew ?_
  have HZ := Lib.hid (show w2.heap.size = w2.drew.heap.size from rfl)
  obtain ⟨wd, hwd⟩ : ∃ wd, w2.drew = wd := ⟨_, rfl⟩
  have D0 : Hid (Below w2.heap.size w2 wd) := Lib.hid (by rw [← hwd]; exact (Below.refl _ _).drew)
  rw [hwd] at HZ ⊢
  clear hwd
  have BD := Lib.hid (B2.out.trans (D0.out.mono B2.out.size))
  have RD := Lib.hid (R2.out.below D0.out R2.out.lt)
  have HD := Lib.hid (H.out.mono hdOk BD.out)
  (refine t_read 0 rfl (by kernel_rfl) (by kernel_rfl) (by kernel_rfl) (t_free rfl) ?_ ?_ ?_; rotate_left; (focus (intro v hv; refine run_cells 50 (.tmp 1) ?_ w.heap.size 0 ?_ (ldC q u h' nx a n c) _ (fun j' u' hj => by rw [hv.cell (p := ⟨w.heap.size, 0 + j', none⟩) R1.out.lt, Nat.zero_add, R1.out.cellV]; exact hj) Try.underlying50 rfl ld_size; (focus rfl); go_simp)); go_simp)
  (refine t_read 1 rfl (by kernel_rfl) (by kernel_rfl) (by kernel_rfl) (t_free rfl) ?_ ?_ ?_; rotate_left; (focus (intro v hv; go_simp; rfl)); go_simp)
  (refine t_read 2 rfl (by kernel_rfl) (by kernel_rfl) (by kernel_rfl) (t_free rfl) ?_ ?_ ?_; rotate_left; (focus (intro v hv; have q0 := (hv.cell (p := ⟨w.heap.size, 4, none⟩) R1.out.lt).trans c4.out; go_simp; rfl)); go_simp)
  (refine t_list 3 rfl (by kernel_rfl) rfl ?_; intro K hK)
  refine append_ls hdOk rfl _ _ rfl w2.heap.size (.slice none 0 0) [] (by go_simp) (LsO.nil _ _) a n c L (by go_simp) HD.out (by simp; omega) (by rw [← HZ.out]; exact Nat.le_refl _) ?_
  intro v3 w3 hown hb3 hg3 hv3
  have hb3 : Below wd.heap.size wd w3 := ⟨hg3.os, hg3.tape, hg3.output, hg3.size, fun k hk => hg3.block k hk (by simp [Value.ownBlock])⟩
  rw [List.nil_append] at hown
  obtain ⟨a3, c3, rfl, hl3, -⟩ := hown.ls hdOk (fun x hx => hdOk.mono x _ _ (HD.out.hfit x hx) hb3)
  rw [HL.out] at hown hl3
  have O3 := Lib.hid hown
  have R23 := Lib.hid (RD.out.below hb3 RD.out.lt)
  have B3 := Lib.hid (BD.out.trans (hb3.mono BD.out.size))
  have D3 := Lib.hid (D0.out.trans (hb3.mono D0.out.size))
  clear hown hb3 hg3 hv3 hl3
  refine hK _ _ D3.out ?_
  go_simp
  rw [HL.out]
  (refine t_call 4 rfl (by kernel_rfl) rfl (t_free rfl) 147 ?_ ?_ ?_; rotate_left; (focus (go_simp; rfl)))
  refine (ywith q u h' nx a n c a3 n c3 w3).mono ?_
  rintro x w4 ⟨rfl, hb4⟩
  have R4 := Lib.hid (R23.out.below hb4 R23.out.lt)
  have O4 := Lib.hid (O3.out.kept hb4)
  have B4 := Lib.hid (B3.out.trans (hb4.mono B3.out.size))
  have D4 := Lib.hid (D3.out.trans (hb4.mono D3.out.size))
  clear hb4
  refine ⟨_, rfl, D4.out, ?_⟩
  go_simp
  (refine t_last 5 rfl (by kernel_rfl) rfl (by kernel_rfl) (by kernel_rfl) ?_; intro K hK)
  refine store_row rfl _ _ _ rfl w1.heap.size (ldC q u h' nx a3 n c3) (by go_simp) (by go_simp) 50 _ R4.out SZ.out rfl (ld_one _ _ _ _ _ _ _) ?_
  intro w5 hr5 hu5
  have R5 := Lib.hid hr5
  have O5 := Lib.hid ((O4.out.upd_lt hu5 (by rw [HZ2.out]; exact Nat.lt_succ_self _)).base (Nat.le_trans B1.out.size (by rw [HZ2.out]; exact Nat.le_succ _)))
  have B5 := Lib.hid (B4.out.trans (hu5.below B1.out.size))
  clear hr5 hu5
  refine hK _ _ ?_
  go_simp
  go_wp2_with fail
  exact bodyPost_ret (results_cell_row rfl _ _ w1.heap.size 50 _ _ _ (by go_simp) R5.out Try.underlying50 rfl SZ.out) rfl ⟨_, _, rfl, O5.out, B5.out⟩
theorem hd_out {w' : World} {base : Nat} {a : Option Addr} {n c : Nat} {L : List Hd} (h : LsO hdE w' base (.slice a n c) L) (hl : L.length = n) (hf : ∀ x ∈ L, x.fit) : Ls hdE w' a n c L := by
  obtain ⟨a', c', e, hl', -⟩ := h.ls hdOk hf
  rw [hl] at e hl'
  injection e with e1 e2 e3
  subst e1 e3
  exact hl'
set_option maxRecDepth 100000 in
set_option maxHeartbeats 8000000 in
theorem yfree (v : Value) (l : Ld) (b : Int) (w : World) (h : LdV w v l) (hok : OkL l) :
    Calls Try.prog 101 #[v, .int .i64 b] w fun x w' => ∃ v', x = .returned (.tuple #[v', .int .i64 (l.free b).2]) ∧ LdV w' v' (l.free b).1 ∧ Below w.heap.size w w' := by
  obtain ⟨a, n, c, rfl, h⟩ := h
  have hn8 : n ≤ 8 := by rw [← h.hlen]; exact hok.len
  have hu := hok.u
  obtain ⟨q, u, h', nx, L⟩ := l
  dsimp only at h hok hu ⊢
  have LZS := Lib.hid ld_size
  have LZ := Lib.hid ld_zero
  have H := Lib.hid h
  have HL := Lib.hid h.hlen
  have HF := Lib.hid (h.hfit)
  have HC := Lib.hid (fun w' h => ycopied q u h' nx a n c L w' h (by omega))
  clear h hok
  obtain ⟨bv, hbv⟩ : ∃ v, in64 b 0 u = v := ⟨_, rfl⟩
  have HB := Lib.hid hbv
  have HA := Lib.hid (show Ld.free ⟨q, u, h', nx, L⟩ b = if bv = false then (⟨q, u, h', nx, L⟩, 1) else (⟨q, u - b, h', nx, L⟩, 0) by rw [← hbv]; rfl)
  rcases bv with _ | _
  · clear hbv
    rw [HA.out]
    simp only [if_true]
    go_enter Try.func101, Try.ntmps101
    go_wp2_with (first
      | ((with_reducible refine box_row (o := ⟨some 2, _, _, _, _, _⟩) rfl _ _ rfl (ldC q u h' nx a n c) rfl ?_); intro w1 hr hb hz; have R1 := Lib.hid hr; have B1 := Lib.hid hb; have HZ1 := Lib.hid hz; have B1S := Lib.hid (show w.heap.size < w1.heap.size by omega); clear hr hb hz)
      | ((with_reducible refine alloc_row (o := ⟨some 4, _, _, _, _, _⟩) rfl _ rfl _ LZ.out ?_); intro w2 hr hb hz; have R2 := Lib.hid hr; have R1 := Lib.hid (R1.out.below hb R1.out.lt); have B2 := Lib.hid (B1.out.trans (hb.mono B1.out.size)); have HZ2 := Lib.hid hz; clear hr hb hz)
      | ((with_reducible refine load_row (o := ⟨some 6, _, _, _, _, _⟩) rfl _ _ rfl w.heap.size ?_ _ (ldC q u h' nx a n c) _ R1.out Try.underlying50 rfl ?_ ?_); (focus go_simp); (focus (exact LZS.out)))
      | (go_at_call 145; (with_reducible refine (HC.out w2 (H.out.mono hdOk B2.out)).mono ?_); rintro x w3 ⟨a3, c3, rfl, hown, hb⟩; have O3 := Lib.hid (hown.base B2.out.size); have O3s := Lib.hid hown; have R13 := Lib.hid (R1.out.below hb R1.out.lt); have R23 := Lib.hid (R2.out.below hb R2.out.lt); have B3 := Lib.hid (B2.out.trans (hb.mono B2.out.size)); clear hown hb)
      | ((with_reducible refine store_row (o := ⟨none, _, _, _, _, _⟩) rfl _ (.tmp 2) _ rfl w.heap.size (ldC q u h' nx a3 n c3) ?_ ?_ 50 _ R13.out ?_ ?_ ?_ ?_); (focus go_simp); (focus (first | (go_simp; done) | (go_simp; rfl))); (focus (exact LZS.out)); (focus rfl); (focus (exact ld_one _ _ _ _ _ _ _)); intro w4 hr4 hu4; have R14 := Lib.hid hr4; obtain ⟨c0, c1, c2, c3', c4⟩ := hr4.l5; have R24 := Lib.hid (R23.out.upd hu4 (Nat.ne_of_gt B1S.out)); have O4 := Lib.hid (O3s.out.upd_lt hu4 (Nat.lt_of_lt_of_le R1.out.lt (Nat.le_refl _))); have B4 := Lib.hid (B3.out.trans (hu4.below (Nat.le_refl _))); clear hr4 hu4)
      | (go_at_call 94; with_reducible refine (yin b 0 u _).mono ?_; rw [HB.out]; rintro x w' ⟨rfl, rfl⟩)
      | ((with_reducible refine load_row (o := ⟨some 13, _, _, _, _, _⟩) rfl _ _ rfl w.heap.size ?_ _ (ldC q u h' nx a3 n c3) _ R14.out Try.underlying50 rfl ?_ ?_); (focus go_simp); (focus (exact LZS.out)))
      | ((with_reducible refine store_row (o := ⟨none, _, _, _, _, _⟩) rfl _ (.tmp 4) _ rfl w1.heap.size (ldC q u h' nx a3 n c3) ?_ ?_ 50 _ R24.out ?_ ?_ ?_ ?_); (focus go_simp); (focus (first | (go_simp; done) | (go_simp; rfl))); (focus (exact LZS.out)); (focus rfl); (focus (exact ld_one _ _ _ _ _ _ _)); intro w5 hr5 hu5; have R25 := Lib.hid hr5; have O5 := Lib.hid (O4.out.upd_lt hu5 R2.out.lt); have B5 := Lib.hid (B4.out.trans (hu5.below B1.out.size)); clear hr5 hu5))
    exact bodyPost_ret (results_row_tmp rfl _ _ w1.heap.size 50 _ _ _ (by go_simp) R25.out Try.underlying50 rfl LZS.out) rfl ⟨_, rfl, ⟨_, _, _, rfl, (hd_out O5.out HL.out HF.out)⟩, B5.out⟩
  · have hb := in64_iff.1 hbv
    clear hbv
    rw [HA.out]
    simp only [Bool.true_eq_false, if_false]
    go_enter Try.func101, Try.ntmps101
    go_wp2_with (first
      | ((with_reducible refine box_row (o := ⟨some 2, _, _, _, _, _⟩) rfl _ _ rfl (ldC q u h' nx a n c) rfl ?_); intro w1 hr hb hz; have R1 := Lib.hid hr; have B1 := Lib.hid hb; have HZ1 := Lib.hid hz; have B1S := Lib.hid (show w.heap.size < w1.heap.size by omega); clear hr hb hz)
      | ((with_reducible refine alloc_row (o := ⟨some 4, _, _, _, _, _⟩) rfl _ rfl _ LZ.out ?_); intro w2 hr hb hz; have R2 := Lib.hid hr; have R1 := Lib.hid (R1.out.below hb R1.out.lt); have B2 := Lib.hid (B1.out.trans (hb.mono B1.out.size)); have HZ2 := Lib.hid hz; clear hr hb hz)
      | ((with_reducible refine load_row (o := ⟨some 6, _, _, _, _, _⟩) rfl _ _ rfl w.heap.size ?_ _ (ldC q u h' nx a n c) _ R1.out Try.underlying50 rfl ?_ ?_); (focus go_simp); (focus (exact LZS.out)))
      | (go_at_call 145; (with_reducible refine (HC.out w2 (H.out.mono hdOk B2.out)).mono ?_); rintro x w3 ⟨a3, c3, rfl, hown, hb⟩; have O3 := Lib.hid (hown.base B2.out.size); have O3s := Lib.hid hown; have R13 := Lib.hid (R1.out.below hb R1.out.lt); have R23 := Lib.hid (R2.out.below hb R2.out.lt); have B3 := Lib.hid (B2.out.trans (hb.mono B2.out.size)); clear hown hb)
      | ((with_reducible refine store_row (o := ⟨none, _, _, _, _, _⟩) rfl _ (.tmp 2) _ rfl w.heap.size (ldC q u h' nx a3 n c3) ?_ ?_ 50 _ R13.out ?_ ?_ ?_ ?_); (focus go_simp); (focus (first | (go_simp; done) | (go_simp; rfl))); (focus (exact LZS.out)); (focus rfl); (focus (exact ld_one _ _ _ _ _ _ _)); intro w4 hr4 hu4; have R14 := Lib.hid hr4; obtain ⟨c0, c1, c2, c3', c4⟩ := hr4.l5; have R24 := Lib.hid (R23.out.upd hu4 (Nat.ne_of_gt B1S.out)); have O4 := Lib.hid (O3s.out.upd_lt hu4 (Nat.lt_of_lt_of_le R1.out.lt (Nat.le_refl _))); have B4 := Lib.hid (B3.out.trans (hu4.below (Nat.le_refl _))); clear hr4 hu4)
      | (go_at_call 94; with_reducible refine (yin b 0 u _).mono ?_; rw [HB.out]; rintro x w' ⟨rfl, rfl⟩)
      | ((with_reducible refine store_cell (o := ⟨none, _, _, _, _, _⟩) rfl _ (.tmp 18) _ rfl w.heap.size 1 (.int .i64 (u - b)) ?_ ?_ rfl rfl 50 _ R14.out ?_ ?_ ?_); (focus go_simp); (focus (go_simp; first | done | rfl | exact vint (by omega))); (focus (kernel_rfl)); (focus (show 1 < 5; decide)); intro w5 hr hu; have R15 := Lib.hid (show Row w5 w.heap.size 50 (ldC q (u - b) h' nx a3 n c3) from hr); have R25 := Lib.hid (R24.out.upd hu (Nat.ne_of_gt B1S.out)); have O5 := Lib.hid (O4.out.upd_lt hu R1.out.lt); have B5 := Lib.hid (B4.out.trans (hu.below (Nat.le_refl _))); clear hr hu)
      | ((with_reducible refine load_row (o := ⟨some 19, _, _, _, _, _⟩) rfl _ _ rfl w.heap.size ?_ _ (ldC q (u - b) h' nx a3 n c3) _ R15.out Try.underlying50 rfl ?_ ?_); (focus go_simp); (focus (exact LZS.out)))
      | ((with_reducible refine store_row (o := ⟨none, _, _, _, _, _⟩) rfl _ (.tmp 4) _ rfl w1.heap.size (ldC q (u - b) h' nx a3 n c3) ?_ ?_ 50 _ R25.out ?_ ?_ ?_ ?_); (focus go_simp); (focus (first | (go_simp; done) | (go_simp; rfl))); (focus (exact LZS.out)); (focus rfl); (focus (exact ld_one _ _ _ _ _ _ _)); intro w6 hr6 hu6; have R26 := Lib.hid hr6; have O6 := Lib.hid (O5.out.upd_lt hu6 R2.out.lt); have B6 := Lib.hid (B5.out.trans (hu6.below B1.out.size)); clear hr6 hu6))
    exact bodyPost_ret (results_row_tmp rfl _ _ w1.heap.size 50 _ _ _ (by go_simp) R26.out Try.underlying50 rfl LZS.out) rfl ⟨_, rfl, ⟨_, _, _, rfl, (hd_out O6.out HL.out HF.out)⟩, B6.out⟩
end Go.Proofs.Ytiopcojkdglapaa.W
