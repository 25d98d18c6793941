/- THE LAW TokenHolds: what was minted, and made weaker by any caveats, opens with its key, and its tag is the chain of these caveats. -/
import Derived.Test.YtlclkikbocbenaaDoorTokL
set_option linter.unusedSimpArgs false
set_option linter.unusedVariables false
namespace Go.Proofs.YtlclkikbocbenaaDoor.W
open Go Go.ChangeShapes Go.WideShapes Go.ChangeAt Go.RowKit
open Go.Proofs.YtlclkikbocbenaaDoor.P (enc)

/-- a world between two rounds -/
structure HI (w wr : World) (g : Nat) (id : Int) (S : ByteArray) (v : Value) (a : Option Addr) (n c : Nat) (T : ByteArray) (K : List Cv) : Prop where
  bel : Below w.heap.size w wr
  row : Row wr g 25 (tokC 1 id 0 (.slice a n c) T)
  cvs : Cvs wr a n c K
  frc : FrC wr (g + 1) v K
  ok : tokOk 1 id 0 K T = true
  tag : str (chainL S.data.toList K) = T
theorem chainL_snoc (t : List UInt8) (L : List Cv) (c : Cv) : chainL t (L ++ [c]) = nextL (chainL t L) c := by unfold chainL; rw [List.foldl_append]; rfl
theorem headV_1 (id : Int) (h1 : 1 ≤ id) (h2 : id ≤ 2147483648) : headV 1 id 0 = true := by
  unfold headV; rw [decide_eq_true h1, decide_eq_true h2]; rfl
theorem headV_2 (id : Int) (h : id < 1 ∨ 2147483648 < id) : headV 1 id 0 = false := by
  unfold headV
  rcases h with h | h
  · rw [decide_eq_false (by omega : ¬ 1 ≤ id)]; rfl
  · rw [decide_eq_false (by omega : ¬ id ≤ 2147483648)]
    rcases decide (1 ≤ id) <;> rfl
theorem tokOk_snoc {id : Int} {K : List Cv} {T T2 : ByteArray} {c : Cv} (h : tokOk 1 id 0 K T = true) (hc : c.ok = true) (h8 : K.length < 8) (ht : T2.size = 32) : tokOk 1 id 0 (K ++ [c]) T2 = true := by
  unfold tokOk at *
  simp only [Bool.and_eq_true, decide_eq_true_eq] at h ⊢
  refine ⟨h.1, ht, by rw [List.length_append]; simp; omega, ?_⟩
  rw [List.all_append, h.2.2.2]; simp [hc]
theorem HI.grow {w wr w' : World} {g : Nat} {id : Int} {S : ByteArray} {v : Value} {a : Option Addr} {n c : Nat} {T : ByteArray} {K : List Cv} (h : HI w wr g id S v a n c T K) (hb : Below wr.heap.size wr w') : HI w w' g id S v a n c T K :=
  ⟨h.bel.trans (hb.mono h.bel.size), h.row.below hb h.row.lt, h.cvs.mono hb, h.frc.kept hb, h.ok, h.tag⟩
theorem HI.alloc {w wr : World} {g : Nat} {id : Int} {S : ByteArray} {v : Value} {a : Option Addr} {n c : Nat} {T : ByteArray} {K : List Cv} (h : HI w wr g id S v a n c T K) (o : Obj) : HI w (wr.alloc o) g id S v a n c T K :=
  h.grow ((Below.refl _ _).alloc (Nat.le_refl _) o)
theorem Cvs.far {w w' : World} {g n c : Nat} {L : List Cv} {row : Option Nat} (h : Cvs w (some ⟨g, 0, none⟩) n c L) (hg : w.grownBy w' row) (hne : some g ≠ row) : Cvs w' (some ⟨g, 0, none⟩) n c L := by
  refine ⟨h.hlen, h.hle, h.hmax, h.hfit, h.hnil, ?_⟩
  rcases h.hcells with h0 | ⟨b, off, e, hlt, hc⟩
  · exact .inl h0
  · obtain ⟨rfl, rfl⟩ : g = b ∧ 0 = off := by simpa using e
    refine .inr ⟨g, 0, rfl, Nat.lt_of_lt_of_le hlt hg.size, fun i hi j v hj => ?_⟩
    rw [World.cell?_of_block (hg.block g hlt hne)]
    exact hc i hi j v hj
theorem Cvs.upd {w w' : World} {g n c G : Nat} {L : List Cv} (h : Cvs w (some ⟨g, 0, none⟩) n c L) (hu : Upd w w' G) (hne : g ≠ G) : Cvs w' (some ⟨g, 0, none⟩) n c L := by
  refine ⟨h.hlen, h.hle, h.hmax, h.hfit, h.hnil, ?_⟩
  rcases h.hcells with h0 | ⟨b, off, e, hlt, hc⟩
  · exact .inl h0
  · obtain ⟨rfl, rfl⟩ : g = b ∧ 0 = off := by simpa using e
    refine .inr ⟨g, 0, rfl, by rw [hu.size]; exact hlt, fun i hi j v hj => ?_⟩
    rw [World.cell?_of_block (hu.block g hne)]
    exact hc i hi j v hj
theorem Row.far {w w' : World} {g : Nat} {t : TypeId} {L : List Value} {row : Option Nat} (h : Row w g t L) (hg : w.grownBy w' row) (hne : some g ≠ row) : Row w' g t L := (hg.block g h.lt hne).trans h
theorem FrC.upd {w w' : World} {base G : Nat} {v : Value} {L : List Cv} (h : FrC w base v L) (hu : Upd w w' G) (hG : G < base) : FrC w' base v L := by
  have hlt := World.ownsRow.lt h
  obtain ⟨h1, h2⟩ := h
  refine ⟨h1, ?_⟩
  rcases h2 with h2 | ⟨g, cap, cur, rfl, hg, hh, r⟩
  · exact .inl h2
  · exact .inr ⟨g, cap, cur, rfl, hg, by rw [hu.block g (by omega)]; exact hh, r⟩
theorem FrC.block {w : World} {base : Nat} {v : Value} {L : List Cv} (h : FrC w base v L) (g : Nat) (hg : g < base ∨ w.heap.size ≤ g) : some g ≠ v.ownBlock := by
  intro e
  have := World.ownsRow.lt h g e.symm
  omega
theorem hold_open {s : ByteArray} {id : Int} {S T T2 : ByteArray} {K : List Cv} {c : Cv} (hok : tokOk 1 id 0 K T = true) (htag : str (chainL S.data.toList K) = T) (hS : S.data.toList = firstL s.data.toList 1 id 0) (hT : str (nextL T.data.toList c) = T2) (hc : c.ok = true) (h8 : K.length < 8) :
    tokOk 1 id 0 (K ++ [c]) T2 = true ∧ openV s 1 id 0 (K ++ [c]) T2 = true ∧ str (chainL S.data.toList (K ++ [c])) = T2 := by
  have h1 : tokOk 1 id 0 (K ++ [c]) T2 = true := tokOk_snoc hok hc h8 (by rw [← hT, str_size]; exact tagL_len _ _)
  have h3 : str (chainL S.data.toList (K ++ [c])) = T2 := by rw [chainL_snoc, ← hT, ← htag, str_data]
  refine ⟨h1, ?_, h3⟩
  unfold openV
  rw [h1, Bool.true_and, ← hS]
  exact decide_eq_true (by rw [← h3, str_data])

set_option maxRecDepth 100000 in
set_option maxHeartbeats 4000000 in
theorem law_TokenHolds (s : ByteArray) (id : Int) (la : Option Addr) (len cap : Nat) (L : List Cv) (w : World) (hK : Ks w) (hs : s.size ≤ 140737488351232) (hid : (Lit.int .i64 id).wf = true) (h : Cvs w la len cap L) :
    Calls Tryd.prog 6 #[.string s, .int .i64 id, .slice la len cap] w fun e w' => e = .returned (.bool true) ∧ Below w.heap.size w w' := by
  have HK := Lib.hid hK
  have TZ := Lib.hid tok_zero
  have TS := Lib.hid tok_size
  have H := Lib.hid h
  have HL := Lib.hid h.hlen
  have HF := Lib.hid (three_fit 1 id 0 (by decide) (bd hid).2 (by decide))
  obtain ⟨l, i, e, t, r, hV⟩ := mintV_form s.data.toList 1 id 0
  clear hK hid h
  by_cases h500 : 500 < s.size
  · have HV := Lib.hid hV
    clear hV
    go_enter Tryd.func6, Tryd.ntmps6
    go_wp2_with (first
      | (go_at_call 9; refine (mint_big s 1 id 0 w HK.out hs HF.out).mono ?_; rw [HV.out]; rintro x w1 ⟨rfl, hb1⟩; have B1 := Lib.hid hb1; clear hb1)
      | ((with_reducible refine alloc_row (o := ⟨some 7, _, _, _, _, _⟩) rfl _ rfl _ TZ.out ?_); intro w2 hr2 hb2 hz2; have A2 := Lib.hid hr2; have B2 := Lib.hid (B1.out.trans (hb2.mono B1.out.size)); clear hr2 hb2 hz2)
      | ((with_reducible refine store_row (o := ⟨none, _, _, _, _, _⟩) rfl _ (.tmp 7) _ rfl w1.heap.size (tokC l i e (.slice none 0 0) t) ?_ ?_ 25 _ A2.out ?_ ?_ ?_ ?_); (focus go_simp); (focus go_simp); (focus (exact TS.out)); (focus rfl); (focus (exact tok_one _ _ _ _ _ _ _)); intro w3 hr3 hu3; have A3 := Lib.hid hr3; have B3 := Lib.hid (B2.out.trans (hu3.below B1.out.size)); clear hr3 hu3)
      | (go_at_call 8; refine (awake8 w3 (HK.out.below B3.out HK.out.pos)).mono ?_; rintro x w9 ⟨rfl, hb9⟩; have B9 := Lib.hid (B3.out.trans (hb9.mono B3.out.size)); clear hb9))
    go_ret
    exact ⟨rfl, B9.out⟩
  by_cases hr : id < 1 ∨ 2147483648 < id
  · have hV2 : mintV s.data.toList 1 id 0 = .tuple #[.agg (tokC 0 0 0 (.slice none 0 0) ⟨#[]⟩).toArray, .int .i64 1] := by unfold mintV; rw [headV_2 id hr]; rfl
    have HV := Lib.hid hV2
    clear hV hV2
    by_cases hr1 : id < 1
    · go_enter Tryd.func6, Tryd.ntmps6
      go_wp2_with (first
        | (go_at_call 9; refine (mint_big s 1 id 0 w HK.out hs HF.out).mono ?_; rw [HV.out]; rintro x w1 ⟨rfl, hb1⟩; have B1 := Lib.hid hb1; clear hb1)
        | ((with_reducible refine alloc_row (o := ⟨some 7, _, _, _, _, _⟩) rfl _ rfl _ TZ.out ?_); intro w2 hr2 hb2 hz2; have A2 := Lib.hid hr2; have B2 := Lib.hid (B1.out.trans (hb2.mono B1.out.size)); clear hr2 hb2 hz2)
        | ((with_reducible refine store_row (o := ⟨none, _, _, _, _, _⟩) rfl _ (.tmp 7) _ rfl w1.heap.size (tokC 0 0 0 (.slice none 0 0) ⟨#[]⟩) ?_ ?_ 25 _ A2.out ?_ ?_ ?_ ?_); (focus go_simp); (focus go_simp); (focus (exact TS.out)); (focus rfl); (focus (exact tok_one _ _ _ _ _ _ _)); intro w3 hr3 hu3; have A3 := Lib.hid hr3; have B3 := Lib.hid (B2.out.trans (hu3.below B1.out.size)); clear hr3 hu3)
        | (go_at_call 8; refine (awake8 w3 (HK.out.below B3.out HK.out.pos)).mono ?_; rintro x w9 ⟨rfl, hb9⟩; have B9 := Lib.hid (B3.out.trans (hb9.mono B3.out.size)); clear hb9))
      go_ret
      exact ⟨rfl, B9.out⟩
    · have hr2 : 2147483648 < id := by omega
      go_enter Tryd.func6, Tryd.ntmps6
      go_wp2_with (first
        | (go_at_call 9; refine (mint_big s 1 id 0 w HK.out hs HF.out).mono ?_; rw [HV.out]; rintro x w1 ⟨rfl, hb1⟩; have B1 := Lib.hid hb1; clear hb1)
        | ((with_reducible refine alloc_row (o := ⟨some 7, _, _, _, _, _⟩) rfl _ rfl _ TZ.out ?_); intro w2 hr2 hb2 hz2; have A2 := Lib.hid hr2; have B2 := Lib.hid (B1.out.trans (hb2.mono B1.out.size)); clear hr2 hb2 hz2)
        | ((with_reducible refine store_row (o := ⟨none, _, _, _, _, _⟩) rfl _ (.tmp 7) _ rfl w1.heap.size (tokC 0 0 0 (.slice none 0 0) ⟨#[]⟩) ?_ ?_ 25 _ A2.out ?_ ?_ ?_ ?_); (focus go_simp); (focus go_simp); (focus (exact TS.out)); (focus rfl); (focus (exact tok_one _ _ _ _ _ _ _)); intro w3 hr3 hu3; have A3 := Lib.hid hr3; have B3 := Lib.hid (B2.out.trans (hu3.below B1.out.size)); clear hr3 hu3)
        | (go_at_call 8; refine (awake8 w3 (HK.out.below B3.out HK.out.pos)).mono ?_; rintro x w9 ⟨rfl, hb9⟩; have B9 := Lib.hid (B3.out.trans (hb9.mono B3.out.size)); clear hb9))
      go_ret
      exact ⟨rfl, B9.out⟩
  have hh := headV_1 id (by omega) (by omega)
  obtain ⟨S, hS⟩ : ∃ S, str (firstL s.data.toList 1 id 0) = S := ⟨_, rfl⟩
  have hSs : S.size = 32 := by rw [← hS, str_size]; exact tagL_len _ _
  have HV := Lib.hid (show mintV s.data.toList 1 id 0 = .tuple #[.agg (tokC 1 id 0 (.slice none 0 0) S).toArray, .int .i64 0] by unfold mintV; rw [if_pos hh, hS])
  have HO0 := Lib.hid (show tokOk 1 id 0 [] S = true by unfold tokOk; rw [hh, decide_eq_true hSs]; rfl)
  have HS := Lib.hid hS
  have HSS := Lib.hid hSs
  have HSD := Lib.hid (show S.data.toList = firstL s.data.toList 1 id 0 by rw [← hS, str_data])
  have H5 := Lib.hid (show s.size ≤ 50000000000000 by omega)
  clear hV hS hSs hh hr
  go_enter Tryd.func6, Tryd.ntmps6
  go_wp2_with (first
    | (go_at_call 9; refine (mint_big s 1 id 0 w HK.out hs HF.out).mono ?_; rw [HV.out]; rintro x w1 ⟨rfl, hb1⟩; have B1 := Lib.hid hb1; clear hb1)
    | ((with_reducible refine alloc_row (o := ⟨some 7, _, _, _, _, _⟩) rfl _ rfl _ TZ.out ?_); intro w2 hr2 hb2 hz2; have A2 := Lib.hid hr2; have B2 := Lib.hid (B1.out.trans (hb2.mono B1.out.size)); clear hr2 hb2 hz2)
    | ((with_reducible refine store_row (o := ⟨none, _, _, _, _, _⟩) rfl _ (.tmp 7) _ rfl w1.heap.size (tokC 1 id 0 (.slice none 0 0) S) ?_ ?_ 25 _ A2.out ?_ ?_ ?_ ?_); (focus go_simp); (focus go_simp); (focus (exact TS.out)); (focus rfl); (focus (exact tok_one _ _ _ _ _ _ _)); intro w3 hr3 hu3; have A3 := Lib.hid hr3; have B3 := Lib.hid (B2.out.trans (hu3.below B1.out.size)); clear hr3 hu3; obtain ⟨g0, g1, g2, g3, g4⟩ := A3.out.t5))
  clear g0 g1 g2 g3 g4
  have GLT := Lib.hid (show w1.heap.size < w3.heap.size from A3.out.lt)
  have GB := Lib.hid B1.out.size
  obtain ⟨G, hG⟩ : ∃ G, w1.heap.size = G := ⟨_, rfl⟩
  rw [hG] at A3 GLT GB
  rw [hG]
  have H0 : Hid (HI w w3 G id S (.slice none 0 0) none 0 0 S []) := Lib.hid ⟨B3.out, A3.out, Cvs_nil _, FrC.nil _ _, HO0.out, rfl⟩
  clear A2 A3 B1 B2 B3 hG
  go_loopw [10, 46] (fun v i wr => ∃ (k n c : Nat) (a : Option Addr) (T : ByteArray) (K : List Cv), i = .int .i64 (k : Int) ∧ k ≤ len ∧ Hid (HI w wr G id S v a n c T K)) (fun _ i _ => len - (intOf i).toNat)
  case atStart => exact ⟨0, 0, 0, none, S, [], rfl, Nat.zero_le _, H0⟩
  case round =>
    obtain ⟨k, n, c, a, T, K, rfl, hk, HH⟩ := hrel
    have HN := Lib.hid HH.out.cvs.hlen
    have h8 := (tokOk_facts HH.out.ok).2.2
    rw [HN.out] at h8
    obtain ⟨va, vc, hv, hkc⟩ := HH.out.frc.cvs HH.out.cvs.hfit
    rw [HN.out] at hv hkc
    subst hv
    have HKC := Lib.hid hkc
    have N6 := Lib.hid (show n ≤ 1000000 by omega)
    clear hkc
    by_cases hlt : k < len
    · obtain ⟨b, off, rfl, hblt, hcell⟩ := H.out.at (by omega)
      obtain ⟨x0, x1, x2⟩ := hcell k hlt
      have hfit := H.out.fitAt hlt
      rcases hce : L.getD k default with ⟨kind, num, name⟩
      rw [hce] at x0 x1 x2 hfit
      simp only at x0 x1 x2
      rw [← HH.out.bel.cell (p := ⟨b, off + k * 3, none⟩) hblt] at x0
      rw [← HH.out.bel.cell (p := ⟨b, off + k * 3 + 1, none⟩) hblt] at x1
      rw [← HH.out.bel.cell (p := ⟨b, off + k * 3 + 2, none⟩) hblt] at x2
      have HFI := Lib.hid hfit
      have XA := Lib.hid (HH.out.alloc (.cells #[.int .i64 kind, .int .i64 num, .string name] 49))
      have CA := Lib.hid (Row.new wr 49 [.int .i64 kind, .int .i64 num, .string name])
      clear hcell hfit hce
      by_cases hk10 : 10 ≤ k
      · go_wp2_with fail
        obtain ⟨wE, hwE⟩ : ∃ wE, wr.alloc (.cells #[.int .i64 kind, .int .i64 num, .string name] 49) = wE := ⟨_, rfl⟩
        have XE := XA
        rw [hwE] at XE ⊢
        have KE := Lib.hid (show Cvs wE va n vc K by rw [← hwE]; exact HKC.out.mono ((Below.refl _ _).alloc (Nat.le_refl _) _))
        clear hwE
        refine region_w (C := fun v => Below wE.heap.size wE v) (by kernel_rfl) (by kernel_rfl) (Below.refl _ _).drew ?_
        repeat (first
          | (refine w_read (wanted_free rfl) ?_ ?_ ?_; rotate_left; (focus (intro v hv; obtain ⟨g0, g1, g2, g3, g4⟩ := (XE.out.row.below hv XE.out.row.lt).t5; go_simp; rfl)); go_simp)
          | (refine w_read ?_ ?_ ?_ ?_; (focus (go_simp; done)); rotate_left; (focus (intro v hv; go_simp; rfl)); go_simp)
          | (refine w_call ?_ 18 ?_ ?_ ?_ ?_ ?_; (focus (go_simp; done)); rotate_left; (focus (intro v; go_simp; rfl)); rotate_left; (focus (intro v hv; exact q_grow (chain_any S va n vc K v (HK.out.below (XE.out.bel.trans (hv.mono XE.out.bel.size)) HK.out.pos) (by rw [HSS.out]; decide) (KE.out.mono hv) N6.out) (by rw [XE.out.tag]) hv)); go_simp)
          | (refine w_call ?_ 8 ?_ ?_ ?_ ?_ ?_; (focus (go_simp; done)); rotate_left; (focus (intro v; go_simp; rfl)); rotate_left; (focus (intro v hv; exact q_grow (awake8 v (HK.out.below (XE.out.bel.trans (hv.mono XE.out.bel.size)) HK.out.pos)) (by rfl) hv)); go_simp))
        refine w_nil ?_
        intro w9 hb9
        go_wp2_with fail
        go_ret
        exact ⟨rfl, XE.out.bel.trans (hb9.mono XE.out.bel.size)⟩
      by_cases hn200 : 200 < name.size
      · go_wp2_with fail
        obtain ⟨wE, hwE⟩ : ∃ wE, wr.alloc (.cells #[.int .i64 kind, .int .i64 num, .string name] 49) = wE := ⟨_, rfl⟩
        have XE := XA
        rw [hwE] at XE ⊢
        have KE := Lib.hid (show Cvs wE va n vc K by rw [← hwE]; exact HKC.out.mono ((Below.refl _ _).alloc (Nat.le_refl _) _))
        clear hwE
        refine region_w (C := fun v => Below wE.heap.size wE v) (by kernel_rfl) (by kernel_rfl) (Below.refl _ _).drew ?_
        repeat (first
          | (refine w_read (wanted_free rfl) ?_ ?_ ?_; rotate_left; (focus (intro v hv; obtain ⟨g0, g1, g2, g3, g4⟩ := (XE.out.row.below hv XE.out.row.lt).t5; go_simp; rfl)); go_simp)
          | (refine w_read ?_ ?_ ?_ ?_; (focus (go_simp; done)); rotate_left; (focus (intro v hv; go_simp; rfl)); go_simp)
          | (refine w_call ?_ 18 ?_ ?_ ?_ ?_ ?_; (focus (go_simp; done)); rotate_left; (focus (intro v; go_simp; rfl)); rotate_left; (focus (intro v hv; exact q_grow (chain_any S va n vc K v (HK.out.below (XE.out.bel.trans (hv.mono XE.out.bel.size)) HK.out.pos) (by rw [HSS.out]; decide) (KE.out.mono hv) N6.out) (by rw [XE.out.tag]) hv)); go_simp)
          | (refine w_call ?_ 8 ?_ ?_ ?_ ?_ ?_; (focus (go_simp; done)); rotate_left; (focus (intro v; go_simp; rfl)); rotate_left; (focus (intro v hv; exact q_grow (awake8 v (HK.out.below (XE.out.bel.trans (hv.mono XE.out.bel.size)) HK.out.pos)) (by rfl) hv)); go_simp))
        refine w_nil ?_
        intro w9 hb9
        go_wp2_with fail
        go_ret
        exact ⟨rfl, XE.out.bel.trans (hb9.mono XE.out.bel.size)⟩
      obtain ⟨g0, g1, g2, g3, g4⟩ := XA.out.row.t5
      rcases hok : Cv.ok ⟨kind, num, name⟩ with _ | _
      · have HOK := Lib.hid hok
        have HCE := Lib.hid (show Cv.err ⟨kind, num, name⟩ = 1 by unfold Cv.err; rw [hok]; rfl)
        clear hok
        go_wp2_with (first
          | (go_at_call 31; refine (weaker_bad 1 id 0 a n c K T kind num name _ XA.out.cvs HFI.out XA.out.ok HOK.out).mono ?_; rintro e w2 ⟨rfl, hb2⟩; have X2 := Lib.hid (XA.out.grow hb2); have C2 := Lib.hid (CA.out.below hb2 CA.out.lt); clear hb2 g0 g1 g2 g3 g4)
          | ((with_reducible refine alloc_row (o := ⟨some 13, _, _, _, _, _⟩) rfl _ rfl _ TZ.out ?_); intro w3 hr3 hb3 hz3; have U3 := Lib.hid hr3; have D3 := Lib.hid hb3; clear hr3 hb3 hz3)
          | ((with_reducible refine store_row (o := ⟨none, _, _, _, _, _⟩) rfl _ (.tmp 13) _ rfl w2.heap.size (tokC 0 0 0 (.slice none 0 0) ⟨#[]⟩) ?_ ?_ 25 _ U3.out ?_ ?_ ?_ ?_); (focus go_simp); (focus go_simp); (focus (exact TS.out)); (focus rfl); (focus (exact tok_one _ _ _ _ _ _ _)); intro w4 hr4 hu4; have U4 := Lib.hid hr4; have D4 := Lib.hid (D3.out.trans (hu4.below (Nat.le_refl _))); have X4 := Lib.hid (X2.out.grow D4.out); have C4 := Lib.hid (C2.out.below D4.out C2.out.lt); clear hr4 hu4; obtain ⟨g0, g1, g2, g3, g4⟩ := X4.out.row.t5; have f0 := C4.out.c0; have f1 := C4.out.c1; have f2 := C4.out.c2)
          | (go_at_call 32; refine (ucheck ⟨kind, num, name⟩ w4 HFI.out).mono ?_; rw [HCE.out]; rintro e w5 ⟨rfl, hb5⟩; have X5 := Lib.hid (X4.out.grow hb5); clear hb5 g0 g1 g2 g3 g4 f0 f1 f2))
        go_roundw
        case rel => exact ⟨k + 1, n, c, a, T, K, vint (by omega), by omega, X5⟩
        case measure => simp [intOf]; omega
      have HOK := Lib.hid hok
      clear hok
      by_cases h8n : n = 8
      · subst h8n
        go_wp2_with (first
          | (go_at_call 31; refine (weaker_full 1 id 0 a 8 c K T kind num name _ XA.out.cvs HFI.out XA.out.ok HOK.out rfl).mono ?_; rintro e w2 ⟨rfl, hb2⟩; have X2 := Lib.hid (XA.out.grow hb2); have C2 := Lib.hid (CA.out.below hb2 CA.out.lt); clear hb2 g0 g1 g2 g3 g4)
          | ((with_reducible refine alloc_row (o := ⟨some 13, _, _, _, _, _⟩) rfl _ rfl _ TZ.out ?_); intro w3 hr3 hb3 hz3; have U3 := Lib.hid hr3; have D3 := Lib.hid hb3; clear hr3 hb3 hz3)
          | ((with_reducible refine store_row (o := ⟨none, _, _, _, _, _⟩) rfl _ (.tmp 13) _ rfl w2.heap.size (tokC 0 0 0 (.slice none 0 0) ⟨#[]⟩) ?_ ?_ 25 _ U3.out ?_ ?_ ?_ ?_); (focus go_simp); (focus go_simp); (focus (exact TS.out)); (focus rfl); (focus (exact tok_one _ _ _ _ _ _ _)); intro w4 hr4 hu4; have U4 := Lib.hid hr4; have D4 := Lib.hid (D3.out.trans (hu4.below (Nat.le_refl _))); have X4 := Lib.hid (X2.out.grow D4.out); have C4 := Lib.hid (C2.out.below D4.out C2.out.lt); clear hr4 hu4; obtain ⟨g0, g1, g2, g3, g4⟩ := X4.out.row.t5; have f0 := C4.out.c0; have f1 := C4.out.c1; have f2 := C4.out.c2))
        go_roundw
        case rel => exact ⟨k + 1, 8, c, a, T, K, vint (by omega), by omega, X4⟩
        case measure => simp [intOf]; omega
      have h8n : n < 8 := by omega
      obtain ⟨T2, hT2⟩ : ∃ T2, str (nextL T.data.toList ⟨kind, num, name⟩) = T2 := ⟨_, rfl⟩
      obtain ⟨hk1, hk2, hk3⟩ := hold_open (s := s) HH.out.ok HH.out.tag HSD.out hT2 HOK.out (by rw [HN.out]; exact h8n)
      have HT2 := Lib.hid hT2
      have HK1 := Lib.hid hk1
      have HK2 := Lib.hid hk2
      have HK3 := Lib.hid hk3
      have HN1 := Lib.hid (show (K ++ [(⟨kind, num, name⟩ : Cv)]).length = n + 1 by rw [List.length_append, HN.out]; rfl)
      have HFK := Lib.hid (show ∀ c ∈ K ++ [(⟨kind, num, name⟩ : Cv)], c.fit from fun c hc => by
        rcases List.mem_append.1 hc with h1 | h1
        · exact HH.out.cvs.hfit c h1
        · rw [List.mem_singleton.1 h1]; exact HFI.out)
      clear hT2 hk1 hk2 hk3
      go_wp2_with (first
        | (go_at_call 31; refine (weaker_ok 1 id 0 a n c K T kind num name _ (HK.out.below XA.out.bel HK.out.pos) XA.out.cvs HFI.out XA.out.ok HOK.out h8n).mono ?_; rw [HT2.out]; rintro e w2 ⟨g, rfl, hgl, hcv, hb2⟩; have X2 := Lib.hid (XA.out.grow hb2); have C2 := Lib.hid (CA.out.below hb2 CA.out.lt); have V2 := Lib.hid hcv; have GG := Lib.hid (show G ≠ g from Nat.ne_of_lt (Nat.lt_of_lt_of_le XA.out.row.lt hgl)); have KG := Lib.hid (XA.out.frc.block g (.inr hgl)); have K2 := Lib.hid (XA.out.frc.block w2.heap.size (.inr hb2.size)); have KGG := Lib.hid (XA.out.frc.block G (.inl (Nat.lt_succ_self G))); clear hb2 hgl hcv g0 g1 g2 g3 g4)
        | ((with_reducible refine alloc_row (o := ⟨some 13, _, _, _, _, _⟩) rfl _ rfl _ TZ.out ?_); intro w3 hr3 hb3 hz3; have U3 := Lib.hid hr3; have D3 := Lib.hid hb3; clear hr3 hb3 hz3)
        | ((with_reducible refine store_row (o := ⟨none, _, _, _, _, _⟩) rfl _ (.tmp 13) _ rfl w2.heap.size (tokC 1 id 0 (.slice (some ⟨g, 0, none⟩) (n + 1) (n + 1)) T2) ?_ ?_ 25 _ U3.out ?_ ?_ ?_ ?_); (focus go_simp); (focus go_simp); (focus (exact TS.out)); (focus rfl); (focus (exact tok_one _ _ _ _ _ _ _)); intro w4 hr4 hu4; have U4 := Lib.hid hr4; have D4 := Lib.hid (D3.out.trans (hu4.below (Nat.le_refl _))); have X4 := Lib.hid (X2.out.grow D4.out); have C4 := Lib.hid (C2.out.below D4.out C2.out.lt); have V4 := Lib.hid (V2.out.mono D4.out); have NX := Lib.hid (X4.out.alloc (.cells #[.int .i64 kind, .int .i64 num, .string name] 49)); have NU := Lib.hid (hr4.alloc (.cells #[.int .i64 kind, .int .i64 num, .string name] 49)); have NV := Lib.hid (V4.out.mono ((Below.refl _ _).alloc (Nat.le_refl _) (.cells #[.int .i64 kind, .int .i64 num, .string name] 49))); clear hr4 hu4; obtain ⟨g0, g1, g2, g3, g4⟩ := X4.out.row.t5; have f0 := C4.out.c0; have f1 := C4.out.c1; have f2 := C4.out.c2)
        | (at_builtin; refine append_cvs rfl _ _ rfl (G + 1) (.slice va n vc) K (by go_simp) NX.out.frc (some ⟨w4.heap.size, 0, none⟩) 1 1 [⟨kind, num, name⟩] (by go_simp) (cvs_new w4 ⟨kind, num, name⟩ HFI.out) (by rw [HN.out]; omega) (Nat.succ_le_of_lt NX.out.row.lt) ?_; intro v6 w6 hf6 hb6 hg6; obtain ⟨vb, vd, hv6, hk6⟩ := hf6.cvs HFK.out; rw [HN1.out] at hv6 hk6; subst hv6; have F6 := Lib.hid hf6; have U6 := Lib.hid (NU.out.far hg6 K2.out); have A6 := Lib.hid (NX.out.row.far hg6 KGG.out); have V6 := Lib.hid (NV.out.far hg6 KG.out); have B6 := Lib.hid (NX.out.bel.trans (hb6.mono (Nat.le_trans GB.out (Nat.le_succ G)))); clear hf6 hb6 hg6 hk6 g0 g1 g2 g3 g4 f0 f1 f2; obtain ⟨g0, g1, g2, g3, g4⟩ := U6.out.t5)
        | ((with_reducible refine store_row (o := ⟨none, _, _, _, _, _⟩) rfl _ (.tmp 7) _ rfl G (tokC 1 id 0 (.slice (some ⟨g, 0, none⟩) (n + 1) (n + 1)) T2) ?_ ?_ 25 _ A6.out ?_ ?_ ?_ ?_); (focus go_simp); (focus (go_simp; rfl)); (focus (exact TS.out)); (focus rfl); (focus (exact tok_one _ _ _ _ _ _ _)); intro w7 hr7 hu7; have X7 : Hid (HI w w7 G id S (.slice vb (n + 1) vd) (some ⟨g, 0, none⟩) (n + 1) (n + 1) T2 (K ++ [⟨kind, num, name⟩])) := Lib.hid ⟨B6.out.trans (hu7.below GB.out), hr7, V6.out.upd hu7 GG.out.symm, F6.out.upd hu7 (Nat.lt_succ_self G), HK1.out, HK3.out⟩; clear hr7 hu7 g0 g1 g2 g3 g4; obtain ⟨g0, g1, g2, g3, g4⟩ := X7.out.row.t5)
        | (go_at_call 16; refine (tkopen_any s 1 id 0 (some ⟨g, 0, none⟩) (n + 1) (n + 1) (K ++ [⟨kind, num, name⟩]) T2 w7 (HK.out.below X7.out.bel HK.out.pos) H5.out X7.out.cvs).mono ?_; rw [HK2.out]; rintro e w8 ⟨rfl, hb8⟩; have X8 := Lib.hid (X7.out.grow hb8); clear hb8 g0 g1 g2 g3 g4; obtain ⟨g0, g1, g2, g3, g4⟩ := X8.out.row.t5; obtain ⟨vb2, vd2, hv8, hk8⟩ := X8.out.frc.cvs HFK.out; rw [HN1.out] at hv8 hk8; obtain ⟨rfl, rfl⟩ : vb = vb2 ∧ vd = vd2 := (by simpa using hv8); have K8 := Lib.hid hk8; clear hk8 hv8)
        | (go_at_call 33; refine (usame_any (some ⟨g, 0, none⟩) vb (n + 1) (n + 1) (n + 1) vd (K ++ [⟨kind, num, name⟩]) (K ++ [⟨kind, num, name⟩]) w8 X8.out.cvs K8.out).mono ?_; rw [same_refl]; rintro e w9 ⟨rfl, hb9⟩; have X9 := Lib.hid (X8.out.grow hb9); clear hb9 g0 g1 g2 g3 g4))
      go_roundw
      case rel => exact ⟨k + 1, n + 1, n + 1, some ⟨g, 0, none⟩, T2, K ++ [⟨kind, num, name⟩], vint (by omega), by omega, X9⟩
      case measure => simp [intOf]; omega
    · obtain rfl : len = k := by omega
      go_wp2_with fail
      obtain ⟨wE, hwE⟩ : ∃ wE, wr = wE := ⟨_, rfl⟩
      have XE := HH
      rw [hwE] at XE ⊢
      have KE := Lib.hid (show Cvs wE va n vc K by rw [← hwE]; exact HKC.out)
      clear hwE
      refine region_w (C := fun v => Below wE.heap.size wE v) (by kernel_rfl) (by kernel_rfl) (Below.refl _ _).drew ?_
      repeat (first
        | (refine w_read (wanted_free rfl) ?_ ?_ ?_; rotate_left; (focus (intro v hv; obtain ⟨g0, g1, g2, g3, g4⟩ := (XE.out.row.below hv XE.out.row.lt).t5; go_simp; rfl)); go_simp)
        | (refine w_read ?_ ?_ ?_ ?_; (focus (go_simp; done)); rotate_left; (focus (intro v hv; go_simp; rfl)); go_simp)
        | (refine w_call ?_ 18 ?_ ?_ ?_ ?_ ?_; (focus (go_simp; done)); rotate_left; (focus (intro v; go_simp; rfl)); rotate_left; (focus (intro v hv; exact q_grow (chain_any S va n vc K v (HK.out.below (XE.out.bel.trans (hv.mono XE.out.bel.size)) HK.out.pos) (by rw [HSS.out]; decide) (KE.out.mono hv) N6.out) (by rw [XE.out.tag]) hv)); go_simp)
        | (refine w_call ?_ 8 ?_ ?_ ?_ ?_ ?_; (focus (go_simp; done)); rotate_left; (focus (intro v; go_simp; rfl)); rotate_left; (focus (intro v hv; exact q_grow (awake8 v (HK.out.below (XE.out.bel.trans (hv.mono XE.out.bel.size)) HK.out.pos)) (by rfl) hv)); go_simp))
      refine w_nil ?_
      intro w9 hb9
      go_wp2_with fail
      go_ret
      exact ⟨rfl, XE.out.bel.trans (hb9.mono XE.out.bel.size)⟩

end Go.Proofs.YtlclkikbocbenaaDoor.W
