/- LAYER 20 (manifest): slices.Delete of one snapshot, Remove of the program. -/
import Derived.Test.YtpcpgodnhamdiaaMfG
import Derived.Test.YtpcpgodnhamdiaaDel
set_option linter.unusedSimpArgs false
set_option linter.unusedVariables false
namespace Go.Proofs.Ytpcpgodnhamdiaa.W
open Go Go.ChangeShapes Go.WideShapes Go.ChangeAt Go.RowKit
open Go.Proofs.Ytpcpgodnhamdiaa.P (enc dec)
open Go.Proofs.Ytpcpgodnhamdiaa.S

theorem snz_zero : (Try.prog.info? 25).map (·.zero) = some (some (.agg (SnX.cells snXZ).toArray)) := by kernel_rfl
theorem sn_z1 : (madeCells (SnX.cells snXZ).toArray ((0 + 1) * (SnX.cells snXZ).toArray.size)).toList = SnX.cells snXZ := by kernel_rfl
set_option maxRecDepth 100000 in
set_option maxHeartbeats 16000000 in
theorem sndelete (base g n c k : Nat) (L : List SnX) (w : World) (h : LsO snE w base (.slice (some ⟨g, 0, none⟩) n c) L) (hn : L.length = n) (hk : k < n) (hn8 : n ≤ 1000) :
    Calls Try.prog 50 #[.slice (some ⟨g, 0, none⟩) n c, .int .i64 (k : Int), .int .i64 ((k : Int) + 1)] w fun x w' => x = .returned (.slice (some ⟨g, 0, none⟩) (n - 1) c) ∧ LsO snE w' base (.slice (some ⟨g, 0, none⟩) (n - 1) c) (L.take k ++ L.drop (k + 1)) ∧ Upd w w' g := by
  obtain ⟨hfl, h2⟩ := h
  rcases h2 with ⟨e, -⟩ | ⟨g', cap, cur, e, hg, hh, hnc, hm, hsz, ht⟩
  · cases e
  injection e with e1 e2 e3
  injection e1 with e1
  injection e1 with e1
  subst e1 e3
  rw [hn] at hnc ht
  obtain ⟨R, hR⟩ : ∃ R, cur.toList = R := ⟨_, rfl⟩
  have RW := Lib.hid (show Row w g 25 R by unfold Row; rw [← hR]; exact hh)
  have HRL := Lib.hid (show R.length = c * 6 by rw [← hR]; simpa using hsz)
  have HT := Lib.hid (show R.take (n * snE.k) = flatE snE L by rw [← hR]; exact ht)
  have HL := Lib.hid hn
  have HM := Lib.hid hm
  have HG := Lib.hid hg
  have hmm : c ≤ 9223372036854775807 := by unfold maxLen at hm; omega
  clear hfl hg hh hm hsz ht hR hn e2
  have q1 : (0 : Int) ≤ (k : Int) := by omega
  have q2 : (k : Int) < (n : Int) := by omega
  have q3 : (n : Int) ≤ (c : Int) := by omega
  have q4 : ((k : Int) == (k : Int) + 1) = false := beq_eq_false_iff_ne.2 (by omega)
  have q5 : (k : Int) + 1 ≤ (n : Int) := by omega
  have q6 : k ≤ c := by omega
  have q7 : k + 1 ≤ n := hk
  have q8 : k + 1 ≤ c := by omega
  have wk : IntKind.i64.wrap ((k : Int) + 1) = (k : Int) + 1 := by rw [IntKind.wrap_i64]; omega
  have tk : ((k : Int) + 1).toNat = k + 1 := by omega
  go_enter Try.func50, Try.ntmps50
  go_wp2_with fail
  obtain ⟨o5, ho5, hs5⟩ : ∃ o5, (if c = k + 1 then some (⟨g, 0, none⟩ : Addr) else some ⟨g, (k + 1) * 6, none⟩) = some ⟨g, o5, none⟩ ∧ ∀ j u, (flatE snE (L.drop (k + 1)))[j]? = some u → R[o5 + j]? = some u := by
    by_cases hc : c = k + 1
    · refine ⟨0, if_pos hc, fun j u h => ?_⟩
      rw [List.drop_of_length_le (by rw [HL.out]; omega)] at h
      simp [flatE] at h
    · refine ⟨(k + 1) * 6, if_neg hc, fun j u h => ?_⟩
      rw [← flatE_drop snOk L (k + 1) (by rw [HL.out]; omega), ← HT.out, List.getElem?_drop, List.getElem?_take] at h
      split at h
      · exact h
      · cases h
  have H5 := Lib.hid ho5
  have HS5 := Lib.hid hs5
  clear ho5 hs5
  refine region_h (fun v => True) (by kernel_rfl) (by kernel_rfl) trivial ?_
  have UD : Hid (Upd w w.drew g) := Lib.hid ⟨rfl, rfl, rfl, rfl, fun _ _ => rfl⟩
  obtain ⟨wd, hwd⟩ : ∃ wd, w.drew = wd := ⟨_, rfl⟩
  have RD := Lib.hid (show Row wd g 25 R by rw [← hwd]; exact RW.out.drewN 1)
  rw [hwd] at UD ⊢
  clear hwd
  (refine h_read 0 rfl (by kernel_rfl) (by kernel_rfl) (h_free rfl) ?_ ?_ ?_; rotate_left; (focus (intro v hv; go_simp; rfl)); go_simp)
  (refine h_read 1 rfl (by kernel_rfl) (by kernel_rfl) (h_free rfl) ?_ ?_ ?_; rotate_left; (focus (intro v hv; go_simp; rfl)); go_simp)
  (refine h_read 2 rfl (by kernel_rfl) (by kernel_rfl) (h_free rfl) ?_ ?_ ?_; rotate_left; (focus (intro v hv; go_simp; rfl)); go_simp)
  (refine h_read 3 rfl (by kernel_rfl) (by kernel_rfl) (h_free rfl) ?_ ?_ ?_; rotate_left; (focus (intro v hv; go_simp; rfl)); go_simp)
  (refine h_read 4 rfl (by kernel_rfl) (by kernel_rfl) (h_free rfl) ?_ ?_ ?_; rotate_left; (focus (intro v hv; go_simp; rfl)); go_simp)
  (refine h_read 5 rfl (by kernel_rfl) (by kernel_rfl) (h_free rfl) ?_ ?_ ?_; rotate_left; (focus (intro v hv; go_simp; rfl)); go_simp)
  (refine h_list 6 rfl (by kernel_rfl) ?_; intro K hK)
  refine append_in snOk rfl _ _ rfl g k c R (by go_simp) RD.out HRL.out ⟨g, o5, none⟩ (n - (k + 1)) (c - (k + 1)) (flatE snE (L.drop (k + 1))) (by go_simp; first | done | exact H5.out | (rw [H5.out]) | (simp [H5.out])) (by rw [flatE_len snOk, List.length_drop, HL.out]) (fun j u hj => by rw [Go.WideShapes.add_plain, RD.out.cellV]; exact HS5.out j u hj) (flatE_one snOk _) (by omega) ?_
  intro w5 hr5 hu5
  obtain ⟨n1, hn1⟩ : ∃ m, k + (n - (k + 1)) = m := ⟨_, rfl⟩
  rw [hn1]
  have hn2 : n1 + 1 = n := by omega
  have R5 := Lib.hid hr5
  have U5 := Lib.hid (UD.out.trans hu5)
  clear hr5 hu5 hn1
  refine hK _ _ trivial ?_
  go_simp
  (refine h_read 7 rfl (by kernel_rfl) (by kernel_rfl) (h_free rfl) ?_ ?_ ?_; rotate_left; (focus (intro v hv; go_simp; rfl)); go_simp)
  refine h_done (by kernel_rfl) ?_
  have f1 : (0 : Int) ≤ (n1 : Int) := by omega
  have f2 : (n1 : Int) ≤ (n : Int) := by omega
  have f3 : n1 ≤ n := by omega
  have f4 : ¬ c = n1 := by omega
  have HN1 := Lib.hid hn2
  have hnn : n - n1 = 0 + 1 := by omega
  clear hn2 q1 q2 q4 q5 q6 q7 q8 wk tk
  (try rw [H5.out])
  obtain ⟨R2, hR2⟩ : ∃ R2, splice R (k * 6) (flatE snE (L.drop (k + 1))) = R2 := ⟨_, rfl⟩
  have hdr := del_row snOk R L n c k (SnX.cells snXZ) HL.out hk hnc HRL.out HT.out rfl
  rw [show k * snE.k = k * 6 from rfl, hR2, show n - 1 = n1 by omega] at hdr
  have HDR := Lib.hid hdr
  have HR2L := Lib.hid (show R2.length = c * 6 by rw [← hR2, dl_len _ _ _ (by rw [flatE_len snOk, List.length_drop, HL.out, HRL.out, show snE.k = 6 from rfl]; omega)]; exact HRL.out)
  rw [hR2] at R5
  clear hdr hR2
  go_wp2_with ((with_reducible refine clear_in (o := ⟨none, _, _, _, _, _⟩) rfl _ 22 rfl 25 (SnX.cells snXZ).toArray g (n1 * 6) 0 (c - n1) 25 R2 ?_ Try.underlying22 snz_zero R5.out ?_ ?_ ?_); (focus (first | (go_simp; done) | rfl)); (focus (rw [HR2L.out, show (SnX.cells snXZ).toArray.size = 6 from rfl]; omega)); (focus (rw [sn_z1]; exact snOk.one snXZ)); intro w6 hr hu; rw [sn_z1] at hr; have R6 := Lib.hid hr; have U6 := Lib.hid (U5.out.trans hu); clear hr hu)
  go_ret
  refine ⟨by rw [show n - 1 = n1 by omega]; rfl, ?_, U6.out⟩
  rw [show n - 1 = n1 by omega]
  have hll : (L.take k ++ L.drop (k + 1)).length = n1 := by rw [List.length_append, List.length_take, List.length_drop, HL.out]; omega
  refine ⟨by rw [flatE_len snOk], .inr ⟨g, c, (splice R2 (n1 * 6) (SnX.cells snXZ)).toArray, by rw [hll], HG.out, R6.out, by rw [hll]; omega, HM.out, ?_, ?_⟩⟩
  · rw [List.size_toArray]; exact HDR.out.2
  · rw [hll]; exact HDR.out.1
theorem lso_pos {α : Type} {E : El α} {w : World} {base n : Nat} {v : Value} {L : List α} (h : LsO E w base v L) (hn : L.length = n) (h0 : 0 < n) : ∃ g c, v = .slice (some ⟨g, 0, none⟩) n c ∧ base ≤ g := by
  obtain ⟨-, h2⟩ := h
  rcases h2 with ⟨rfl, h0'⟩ | ⟨g, c, cur, rfl, hg, -⟩
  · omega
  · exact ⟨g, c, by rw [hn], hg⟩
/-- Delete of one snapshot at snapshots of one's own -/
theorem sno_delete (a : Option Addr) (base n c k : Nat) (L : List Sn) (w : World) (hv : SnO w base (.slice a n c) L) (hn : L.length = n) (hk : k < n) (hm : n ≤ 1000) (hbw : base ≤ w.heap.size) :
    Calls Try.prog 50 #[.slice a n c, .int .i64 (k : Int), .int .i64 ((k : Int) + 1)] w fun x w' => x = .returned (.slice a (n - 1) c) ∧ SnO w' base (.slice a (n - 1) c) (L.take k ++ L.drop (k + 1)) ∧ Below base w w' := by
  obtain ⟨X, h1, h2, h3⟩ := hv
  have hXn : X.length = n := by rw [← hn, ← h2, List.length_map]
  obtain ⟨g, c', e, hg⟩ := lso_pos h1 hXn (by omega)
  injection e with e1 e2 e3
  subst e1 e3
  obtain ⟨C, hr⟩ := lso_row h1 rfl
  refine (sndelete base g n c k X w h1 hXn hk hm).mono ?_
  rintro x w' ⟨rfl, hl, hu⟩
  refine ⟨rfl, ⟨_, hl, by rw [List.map_append, List.map_take, List.map_drop, h2], fun y hy => ?_⟩, hu.below hg⟩
  rcases List.mem_append.1 hy with hy | hy
  · exact (h3 y (List.mem_of_mem_take hy)).upd hr hu
  · exact (h3 y (List.mem_of_mem_drop hy)).upd hr hu
set_option maxRecDepth 100000 in
set_option maxHeartbeats 16000000 in
theorem pmremove (sp nm : ByteArray) (now : Int) (a : Option Addr) (n c : Nat) (L : List Sn) (w : World) (h : SnL w a n c L) (hf : FewP L) (hn : n ≤ 1000) :
    Calls Try.prog 11 #[.slice a n c, .string sp, .string nm, .int .i64 now] w fun x w' => ∃ v, x = .returned (.tuple #[v, .int .i64 (removeM L sp nm now).2.1, .int .i64 (removeM L sp nm now).2.2]) ∧ SnO w' w.heap.size v (removeM L sp nm now).1 ∧ Below w.heap.size w w' := by
  have H := Lib.hid h
  have HF := Lib.hid hf
  have HN := Lib.hid hn
  have HLN := Lib.hid (show L.length = n by obtain ⟨X, hX, e⟩ := h; rw [← e, List.length_map, hX.hlen])
  have HI := Lib.hid (fun g1 g2 (w' : World) (hb : Below w.heap.size w w') (h1 : Row w' g1 9 [.string sp]) (h2 : Row w' g2 9 [.string nm]) => idxcall sp nm g1 g2 a n c L w' (h.mono hb) h1 h2)
  rcases at_has sp nm L with ⟨h1, -, -⟩ | ⟨y, h1, h2, h3, h4⟩
  · have HE := Lib.hid (show removeM L sp nm now = (L, 0, 6) by unfold removeM; rw [if_pos h1])
    rw [show ixM sp nm L = -1 by unfold ixM; rw [h1]; rfl] at HI
    clear h hf hn h1
    go_enter Try.func11, Try.ntmps11
    go_wp2_with (first
      | (go_at_call 36; (with_reducible refine (mcopy _ n c L w H.out HN.out HF.out).mono ?_); rintro x w1 ⟨a1, c1, rfl, hs, hb⟩; have S1 := Lib.hid hs; have B1 := Lib.hid hb; clear hs hb)
      | (go_at_call 40; (with_reducible refine (pcalled sp nm w1).mono ?_); rintro x w2 ⟨g1, g2, rfl, hr1, hr2, hb⟩; have G1 := Lib.hid hr1; have G2 := Lib.hid hr2; have S2 := Lib.hid (S1.out.kept hb); have B2 := Lib.hid (B1.out.trans (hb.mono B1.out.size)); clear hr1 hr2 hb)
      | (go_at_call 49; (with_reducible refine (HI.out g1 g2 w2 B2.out G1.out G2.out).mono ?_); rintro x w3 ⟨rfl, hb⟩; have S3 := Lib.hid (S2.out.kept hb); have B3 := Lib.hid (B2.out.trans (hb.mono B2.out.size)); clear hb))
    go_ret3
    rw [HE.out]
    exact ⟨_, rfl, S3.out, B3.out⟩
  · obtain ⟨k, hk⟩ : ∃ k, atM sp nm L = k := ⟨_, rfl⟩
    rw [show ixM sp nm L = (k : Int) by unfold ixM; rw [h1, hk]; rfl] at HI
    have HR := Lib.hid (show removeM L sp nm now = if now < y.ke then (L, 0, 22) else (L.take k ++ L.drop (k + 1), y.by', 0) by
      unfold removeM keepM bytM
      rw [if_neg (by rw [h1]; decide), List.getD_eq_getElem?_getD, h2, hk]
      rfl)
    rw [hk] at h2
    obtain ⟨X, hX, e⟩ := h
    obtain ⟨x, hx, rfl⟩ := map_atr e h2
    have hkn : k < n := by rw [← hX.hlen]; exact (List.getElem?_eq_some_iff.1 hx).1
    obtain ⟨b, off, x', rfl, hx', hcell, hfx⟩ := hX.at snOk (Below.refl _ _) k hkn
    obtain rfl : x = x' := by rw [hx] at hx'; exact Option.some.inj hx'
    have m1 := hX.hmax
    have m2 := hX.hle
    obtain ⟨⟨xs, xn, xb, xt, xk, P⟩, xa, xm, xc⟩ := x
    dsimp only at HR
    have C2 := Lib.hid (hcell 2 (.int .i64 xb) rfl)
    have C4 := Lib.hid (hcell 4 (.int .i64 xk) rfl)
    have g1' : (0 : Int) ≤ (k : Int) := by omega
    have g2' : (k : Int) < (n : Int) := by omega
    have g3' : ¬ ((k : Int) < 0) := by omega
    have wk : IntKind.i64.wrap ((k : Int) + 1) = (k : Int) + 1 := by rw [IntKind.wrap_i64]; omega
    clear hf hn h1 h2 h3 h4 hk e hX hx hx' hcell hfx
    by_cases hkp : now < xk
    · have HE := Lib.hid (show removeM L sp nm now = (L, 0, 22) by rw [HR.out, if_pos hkp])
      clear HR
      go_enter Try.func11, Try.ntmps11
      go_wp2_with (first
        | (go_at_call 36; (with_reducible refine (mcopy _ n c L w H.out HN.out HF.out).mono ?_); rintro x w1 ⟨a1, c1, rfl, hs, hb⟩; have S1 := Lib.hid hs; have B1 := Lib.hid hb; clear hs hb)
        | (go_at_call 40; (with_reducible refine (pcalled sp nm w1).mono ?_); rintro x w2 ⟨g1, g2, rfl, hr1, hr2, hb⟩; have G1 := Lib.hid hr1; have G2 := Lib.hid hr2; have S2 := Lib.hid (S1.out.kept hb); have B2 := Lib.hid (B1.out.trans (hb.mono B1.out.size)); clear hr1 hr2 hb)
        | (go_at_call 49; (with_reducible refine (HI.out g1 g2 w2 B2.out G1.out G2.out).mono ?_); rintro x w3 ⟨rfl, hb⟩; have S3 := Lib.hid (S2.out.kept hb); have B3 := Lib.hid (B2.out.trans (hb.mono B2.out.size)); have c4 := (B3.out.cell (p := ⟨b, off + k * 6 + 4, none⟩) (World.block_lt_of_cell? w _ C4.out)).trans C4.out; clear hb))
      go_ret3
      rw [HE.out]
      exact ⟨_, rfl, S3.out, B3.out⟩
    · have HE := Lib.hid (show removeM L sp nm now = (L.take k ++ L.drop (k + 1), xb, 0) by rw [HR.out, if_neg hkp])
      clear HR
      go_enter Try.func11, Try.ntmps11
      go_wp2_with (first
        | (go_at_call 36; (with_reducible refine (mcopy _ n c L w H.out HN.out HF.out).mono ?_); rintro x w1 ⟨a1, c1, rfl, hs, hb⟩; have S1 := Lib.hid hs; have B1 := Lib.hid hb; clear hs hb)
        | (go_at_call 40; (with_reducible refine (pcalled sp nm w1).mono ?_); rintro x w2 ⟨g1, g2, rfl, hr1, hr2, hb⟩; have G1 := Lib.hid hr1; have G2 := Lib.hid hr2; have S2 := Lib.hid (S1.out.kept hb); have B2 := Lib.hid (B1.out.trans (hb.mono B1.out.size)); clear hr1 hr2 hb)
        | (go_at_call 49; (with_reducible refine (HI.out g1 g2 w2 B2.out G1.out G2.out).mono ?_); rintro x w3 ⟨rfl, hb⟩; have S3 := Lib.hid (S2.out.kept hb); have B3 := Lib.hid (B2.out.trans (hb.mono B2.out.size)); have c4 := (B3.out.cell (p := ⟨b, off + k * 6 + 4, none⟩) (World.block_lt_of_cell? w _ C4.out)).trans C4.out; clear hb))
      clear c4
      have HD := Lib.hid (fun (w' : World) (q : SnO w' w.heap.size (.slice a1 n c1) L ∧ w.heap.size ≤ w'.heap.size) => sno_delete a1 w.heap.size n c1 k L w' q.1 HLN.out hkn HN.out q.2)
      refine region_h (fun v => Below w.heap.size w v) (by kernel_rfl) (by kernel_rfl) (B3.out.trans ((Below.refl _ _).drew.mono B3.out.size)) ?_
      obtain ⟨wd, hwd⟩ : ∃ wd, w3.drew = wd := ⟨_, rfl⟩
      have D0 : Hid (Below w.heap.size w wd) := Lib.hid (by rw [← hwd]; exact B3.out.trans ((Below.refl _ _).drew.mono B3.out.size))
      have S3D := Lib.hid (show SnO wd w.heap.size (.slice a1 n c1) L ∧ w.heap.size ≤ wd.heap.size from ⟨by rw [← hwd]; exact S3.out.kept (Below.refl _ _).drew, D0.out.size⟩)
      rw [hwd]
      clear hwd
      (refine h_read 0 rfl (by kernel_rfl) (by kernel_rfl) (h_free rfl) ?_ ?_ ?_; rotate_left; (focus (intro v hv; go_simp; rfl)); go_simp)
      (refine h_read 1 rfl (by kernel_rfl) (by kernel_rfl) (h_free rfl) ?_ ?_ ?_; rotate_left; (focus (intro v hv; go_simp; rfl)); go_simp)
      (refine h_read 2 rfl (by kernel_rfl) (by kernel_rfl) (h_free rfl) ?_ ?_ ?_; rotate_left; (focus (intro v hv; go_simp; rfl)); go_simp)
      (refine h_read 3 rfl (by kernel_rfl) (by kernel_rfl) (h_free rfl) ?_ ?_ ?_; rotate_left; (focus (intro v hv; go_simp; rfl)); go_simp)
      (refine h_read 5 rfl (by kernel_rfl) (by kernel_rfl) (h_free rfl) ?_ ?_ ?_; rotate_left; (focus (intro v hv; go_simp; rfl)); go_simp)
      (refine h_read 6 rfl (by kernel_rfl) (by kernel_rfl) (h_free rfl) ?_ ?_ ?_; rotate_left; (focus (intro v hv; go_simp; rfl)); go_simp)
      (refine h_read 7 rfl (by kernel_rfl) (by kernel_rfl) (h_free rfl) ?_ ?_ ?_; rotate_left; (focus (intro v hv; go_simp; rfl)); go_simp)
      (refine h_read 8 rfl (by kernel_rfl) (by kernel_rfl) (h_free rfl) ?_ ?_ ?_; rotate_left; (focus (intro v hv; go_simp; rfl)); go_simp)
      (refine h_read 9 rfl (by kernel_rfl) (by kernel_rfl) (h_free rfl) ?_ ?_ ?_; rotate_left; (focus (intro v hv; have q0 := (hv.cell (p := ⟨b, off + k * 6 + 2, none⟩) (World.block_lt_of_cell? w _ C2.out)).trans C2.out; go_simp; rfl)); go_simp)
      (refine h_call 4 rfl (by kernel_rfl) (h_free rfl) 50 ?_ ?_ ?_; rotate_left; (focus (go_simp; rfl)))
      refine (HD.out wd S3D.out).mono ?_
      rintro x w5 ⟨rfl, hl, hb⟩
      have N5 := Lib.hid hl
      have B5 := Lib.hid (D0.out.trans hb)
      clear hl hb
      refine ⟨_, rfl, B5.out, ?_⟩
      go_simp
      (refine h_read 10 rfl (by kernel_rfl) (by kernel_rfl) (h_free rfl) ?_ ?_ ?_; rotate_left; (focus (intro v hv; go_simp; rfl)); go_simp)
      (refine h_read 11 rfl (by kernel_rfl) (by kernel_rfl) (h_free rfl) ?_ ?_ ?_; rotate_left; (focus (intro v hv; go_simp; rfl)); go_simp)
      (refine h_read 12 rfl (by kernel_rfl) (by kernel_rfl) (h_free rfl) ?_ ?_ ?_; rotate_left; (focus (intro v hv; go_simp; rfl)); go_simp)
      refine h_done (by kernel_rfl) ?_
      go_wp2_with fail
      go_ret3
      rw [HE.out]
      exact ⟨_, rfl, N5.out, B5.out⟩
end Go.Proofs.Ytpcpgodnhamdiaa.W
