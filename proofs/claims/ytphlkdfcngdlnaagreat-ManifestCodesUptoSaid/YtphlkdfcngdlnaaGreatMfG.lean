/- LAYER 20 (manifest): Add of the program. -/
import Derived.Test.YtphlkdfcngdlnaaGreatMfE
set_option linter.unusedSimpArgs false
set_option linter.unusedVariables false
namespace Go.Proofs.YtphlkdfcngdlnaaGreat.W
open Go Go.ChangeShapes Go.WideShapes Go.ChangeAt Go.RowKit
open Go.Proofs.YtphlkdfcngdlnaaGreat.P (enc dec)
open Go.Proofs.YtphlkdfcngdlnaaGreat.S

theorem build_rowM {α : Type} {E : El α} (hE : E.Ok Tryz.prog) {y : α} (hf : Instr.fill (fun i => some (i * E.k, E.k)) ((Array.range (1 * E.k)).map (E.z.cells[· % E.z.cells.size]!)) [(0, .agg (E.cells y).toArray)] = some (E.cells y).toArray)
    {w : World} {ops : Array Oper} {rest : List Oper} {o : Oper} {a : Act} {Q : Exit → Act → World → Prop} (hgd : o.guard = none) (x : Operand)
    (ho : o.op = .buildSlice E.sT 1 #[(0, x)]) (hk24 : E.k ≤ 1000) (hx : a.eval x = .agg (E.cells y).toArray)
    (h : ∀ w', Row w' w.heap.size E.eT (E.cells y) → Below w.heap.size w w' → w'.heap.size = w.heap.size + 1 → wpList Tryz.prog ops Q rest (a.put o.dst (.slice (some ⟨w.heap.size, 0, none⟩) 1 1)) w') : wpList Tryz.prog ops Q (o :: rest) a w := by
  obtain ⟨i0, hi, hz0, hz1, hz2⟩ := info_parts hE.info
  have hp := hE.pos
  refine wpList_buildSlice hgd E.sT E.eT 1 _ ho (E.cells y).toArray i0 _ hE.und hi hz0 (by rw [hz1]; omega) (by rw [hz1]; omega) (by rw [hz1]; simp only [List.map_toArray, List.map_cons, List.map_nil, hx]; exact hf) ?_
  exact h _ (Row.new _ _ _) ((Below.refl _ _).alloc (Nat.le_refl _) _) (by simp)
theorem sn_fill (y : SnX) : Instr.fill (fun i => some (i * snE.k, snE.k)) ((Array.range (1 * snE.k)).map (snE.z.cells[· % snE.z.cells.size]!)) [(0, .agg (snE.cells y).toArray)] = some (snE.cells y).toArray := by
  obtain ⟨⟨ys, yn, yb, yt, yk, Q⟩, ya, ym, yc⟩ := y
  kernel_rfl
theorem sno_lt {w : World} {base : Nat} {v : Value} {L : List Sn} (h : SnO w base v L) (e : v.ownBlock = some w.heap.size) : False := by
  obtain ⟨X, h1, -, -⟩ := h
  have := (World.ownsRow.lt h1 _ e).2
  omega
theorem lso_row {α : Type} {E : El α} {w : World} {base g : Nat} {v : Value} {L : List α} (h : LsO E w base v L) (e : v.ownBlock = some g) : ∃ C, Row w g E.eT C := by
  obtain ⟨-, h2⟩ := h
  rcases h2 with ⟨rfl, -⟩ | ⟨b, cap, cur, rfl, -, hh, -⟩
  · simp [Value.ownBlock] at e
  · have : b = g := by simpa [Value.ownBlock] using e
    subst this
    exact ⟨cur.toList, by unfold Row; exact hh⟩
theorem OwnX.keepI {w w' : World} {base : Nat} {x : SnX} {v : Value} {X : List SnX} (h : OwnX w base x) (hX : LsO snE w base v X) (hk : Kp v w w') : OwnX w' base x :=
  ⟨h.sp, h.nm, h.by', h.ti, h.ke, h.len, h.pf, h.own.keep (fun g hg => hk g (World.ownsRow.lt h.own g hg).2 (fun e => by
    obtain ⟨C, hr⟩ := lso_row hX e
    exact lso_ne h.own hr (by decide) hg))⟩
/-- Insert of a snapshot of one's own at snapshots of one's own -/
theorem sno_insert (v : Value) (base n i bx : Nat) (L : List Sn) (z : SnX) (w : World) (hv : SnO w base v L) (hz : OwnX w base z) (hn : L.length = n) (hi : i ≤ n) (hm : n ≤ 1000) (hx : Row w bx 45 z.cells) (hbx : v.ownBlock ≠ some bx) (hbw : base ≤ w.heap.size) :
    Calls Tryz.prog 59 #[v, .int .i64 (i : Int), .slice (some ⟨bx, 0, none⟩) 1 1] w fun x w' => ∃ v', x = .returned v' ∧ SnO w' base v' (L.take i ++ [z.s] ++ L.drop i) ∧ Below base w w' := by
  obtain ⟨X, h1, h2, h3⟩ := hv
  have hXn : X.length = n := by rw [← hn, ← h2, List.length_map]
  refine (sninsert v base n i bx X z w h1 (fun x hx => (h3 x hx).fit) hz.fit hXn hi hm hx hbx hbw).mono ?_
  rintro x w' ⟨v', rfl, hl, hb, hk⟩
  refine ⟨v', rfl, ⟨_, hl, ?_, ?_⟩, hb⟩
  · rw [List.map_append, List.map_append, List.map_take, List.map_drop, h2]; rfl
  · intro y hy
    rcases List.mem_append.1 hy with hy | hy
    · rcases List.mem_append.1 hy with hy | hy
      · exact (h3 y (List.mem_of_mem_take hy)).keepI h1 hk
      · rw [List.mem_singleton.1 hy]; exact hz.keepI h1 hk
    · exact (h3 y (List.mem_of_mem_drop hy)).keepI h1 hk
set_option maxRecDepth 100000 in
set_option maxHeartbeats 32000000 in
theorem pmadd (y : SnX) (a : Option Addr) (n c : Nat) (L : List Sn) (w : World) (h : SnL w a n c L) (hf : FewP L) (hn : n ≤ 1000) (hy : y.fit w) (hyP : y.s.P.length ≤ 1000) :
    Calls Tryz.prog 25 #[.slice a n c, .agg y.cells.toArray] w fun x w' => ∃ v, x = .returned (.tuple #[v, .int .i64 (addM L y.s).2]) ∧ SnO w' w.heap.size v (addM L y.s).1 ∧ Below w.heap.size w w' := by
  have SZ := Lib.hid sn_size
  have H := Lib.hid h
  have HF := Lib.hid hf
  have HN := Lib.hid hn
  have HLN := Lib.hid (show L.length = n by obtain ⟨X, hX, e⟩ := h; rw [← e, List.length_map, hX.hlen])
  have FY := Lib.hid hy
  have HO := Lib.hid (fun w' (hb : Below w.heap.size w w') => pfits y w' (snOk.mono y _ _ hy hb))
  have HC := Lib.hid (fun g1 g2 w' (hb : Below w.heap.size w w') h1 h2 => pcont y.s.sp y.s.nm g1 g2 a n c L w' (h.mono hb) h1 h2)
  have HA := Lib.hid (fun w' (hb : Below w.heap.size w w') h1 => idxabove y w.heap.size a n c L w' (h.mono hb) h1)
  have hym : y.m ≤ 1000 := by rw [← hy.P.hlen]; exact hyP
  have HAO := Lib.hid (show (axM y.s L = -1 ∧ aheadM y.s L = n) ∨ ∃ k : Nat, axM y.s L = (k : Int) ∧ aheadM y.s L = k ∧ k < n by
    unfold axM
    have := ahead_le y.s L
    rw [HLN.out] at this ⊢
    by_cases hlt : aheadM y.s L < n
    · rw [if_pos hlt]; exact .inr ⟨_, rfl, rfl, hlt⟩
    · rw [if_neg hlt]; exact .inl ⟨rfl, by omega⟩)
  obtain ⟨⟨ys, yn, yb, yt, yk, Q⟩, ya, ym, yc⟩ := y
  have HOW := Lib.hid (fun w' (hb : Below w.heap.size w w') => mown ys yn yb yt yk ya ym yc Q w' (hy.P.mono pcOk hb) hym)
  dsimp only at HC HA HAO ⊢
  obtain ⟨b0, h0⟩ : ∃ b, okM ⟨ys, yn, yb, yt, yk, Q⟩ = b := ⟨_, rfl⟩
  obtain ⟨b1, h1⟩ : ∃ b, hasM ys yn L = b := ⟨_, rfl⟩
  dsimp only at HO
  rw [h0] at HO
  rw [h1] at HC
  have H0 := Lib.hid h0
  have H1 := Lib.hid h1
  clear h hf hn hy hyP hym h0 h1
  cases b0
  · have HE := Lib.hid (show addM L ⟨ys, yn, yb, yt, yk, Q⟩ = (L, 1) by unfold addM; rw [if_pos H0.out])
    go_enter Tryz.func25, Tryz.ntmps25
    go_wp2_with (first
      | ((with_reducible refine box_row (o := ⟨some 3, _, _, _, _, _⟩) rfl _ _ rfl (snC ys yn yb yt yk ya ym yc) rfl ?_); intro w1 hr hb hz; have R1 := Lib.hid hr; have B1 := Lib.hid hb; clear hr hb hz)
      | (go_at_call 51; (with_reducible refine (mcopy a n c L w1 (H.out.mono B1.out) HN.out HF.out).mono ?_); rintro x w2 ⟨a2, c2, rfl, hs, hb⟩; have S2 := Lib.hid (hs.base B1.out.size); have R2 := Lib.hid (R1.out.below hb R1.out.lt); have B2 := Lib.hid (B1.out.trans (hb.mono B1.out.size)); clear hs hb)
      | ((with_reducible refine load_row (o := ⟨some 11, _, _, _, _, _⟩) rfl _ _ rfl w.heap.size ?_ _ (snC ys yn yb yt yk ya ym yc) _ R2.out Tryz.underlying45 rfl ?_ ?_); (focus go_simp); (focus (exact SZ.out)))
      | (go_at_call 53; (with_reducible refine (HO.out w2 B2.out).mono ?_); rintro x w3 ⟨rfl, hb⟩; have S3 := Lib.hid (S2.out.kept hb); have R3 := Lib.hid (R2.out.below hb R2.out.lt); have B3 := Lib.hid (B2.out.trans (hb.mono B2.out.size)); obtain ⟨e0, e1, e2, e3, e4, e5⟩ := R3.out.h6s; clear hb e2 e3 e4 e5))
    go_ret2
    rw [HE.out]
    exact ⟨_, rfl, S3.out, B3.out⟩
  · cases b1
    case true =>
      have HE := Lib.hid (show addM L ⟨ys, yn, yb, yt, yk, Q⟩ = (L, 15) by unfold addM; rw [if_neg (by rw [H0.out]; decide), if_pos H1.out])
      go_enter Tryz.func25, Tryz.ntmps25
      go_wp2_with (first
        | ((with_reducible refine box_row (o := ⟨some 3, _, _, _, _, _⟩) rfl _ _ rfl (snC ys yn yb yt yk ya ym yc) rfl ?_); intro w1 hr hb hz; have R1 := Lib.hid hr; have B1 := Lib.hid hb; clear hr hb hz)
        | (go_at_call 51; (with_reducible refine (mcopy a n c L w1 (H.out.mono B1.out) HN.out HF.out).mono ?_); rintro x w2 ⟨a2, c2, rfl, hs, hb⟩; have S2 := Lib.hid (hs.base B1.out.size); have R2 := Lib.hid (R1.out.below hb R1.out.lt); have B2 := Lib.hid (B1.out.trans (hb.mono B1.out.size)); clear hs hb)
        | ((with_reducible refine load_row (o := ⟨some 11, _, _, _, _, _⟩) rfl _ _ rfl w.heap.size ?_ _ (snC ys yn yb yt yk ya ym yc) _ R2.out Tryz.underlying45 rfl ?_ ?_); (focus go_simp); (focus (exact SZ.out)))
        | (go_at_call 53; (with_reducible refine (HO.out w2 B2.out).mono ?_); rintro x w3 ⟨rfl, hb⟩; have S3 := Lib.hid (S2.out.kept hb); have R3 := Lib.hid (R2.out.below hb R2.out.lt); have B3 := Lib.hid (B2.out.trans (hb.mono B2.out.size)); obtain ⟨e0, e1, e2, e3, e4, e5⟩ := R3.out.h6s; clear hb e2 e3 e4 e5)
        | (go_at_call 55; (with_reducible refine (pcalled ys yn w3).mono ?_); rintro x w4 ⟨g1, g2, rfl, hr1, hr2, hb⟩; have G1 := Lib.hid hr1; have G2 := Lib.hid hr2; have S4 := Lib.hid (S3.out.kept hb); have R4 := Lib.hid (R3.out.below hb R3.out.lt); have B4 := Lib.hid (B3.out.trans (hb.mono B3.out.size)); clear hr1 hr2 hb e0 e1)
        | (go_at_call 54; (with_reducible refine (HC.out g1 g2 w4 B4.out G1.out G2.out).mono ?_); rintro x w5 ⟨rfl, hb⟩; have S5 := Lib.hid (S4.out.kept hb); have R5 := Lib.hid (R4.out.below hb R4.out.lt); have B5 := Lib.hid (B4.out.trans (hb.mono B4.out.size)); clear hb))
      go_ret2
      rw [HE.out]
      exact ⟨_, rfl, S5.out, B5.out⟩
    case false =>
      by_cases h12 : 12 ≤ n
      · have HE := Lib.hid (show addM L ⟨ys, yn, yb, yt, yk, Q⟩ = (L, 7) by unfold addM; rw [if_neg (by rw [H0.out]; decide), if_neg (by dsimp only; rw [H1.out]; decide), if_pos (by rw [HLN.out]; exact h12)])
        have g12 : (12 : Int) ≤ (n : Int) := by omega
        go_enter Tryz.func25, Tryz.ntmps25
        go_wp2_with (first
          | ((with_reducible refine box_row (o := ⟨some 3, _, _, _, _, _⟩) rfl _ _ rfl (snC ys yn yb yt yk ya ym yc) rfl ?_); intro w1 hr hb hz; have R1 := Lib.hid hr; have B1 := Lib.hid hb; clear hr hb hz)
          | (go_at_call 51; (with_reducible refine (mcopy a n c L w1 (H.out.mono B1.out) HN.out HF.out).mono ?_); rintro x w2 ⟨a2, c2, rfl, hs, hb⟩; have S2 := Lib.hid (hs.base B1.out.size); have R2 := Lib.hid (R1.out.below hb R1.out.lt); have B2 := Lib.hid (B1.out.trans (hb.mono B1.out.size)); clear hs hb)
          | ((with_reducible refine load_row (o := ⟨some 11, _, _, _, _, _⟩) rfl _ _ rfl w.heap.size ?_ _ (snC ys yn yb yt yk ya ym yc) _ R2.out Tryz.underlying45 rfl ?_ ?_); (focus go_simp); (focus (exact SZ.out)))
          | (go_at_call 53; (with_reducible refine (HO.out w2 B2.out).mono ?_); rintro x w3 ⟨rfl, hb⟩; have S3 := Lib.hid (S2.out.kept hb); have R3 := Lib.hid (R2.out.below hb R2.out.lt); have B3 := Lib.hid (B2.out.trans (hb.mono B2.out.size)); obtain ⟨e0, e1, e2, e3, e4, e5⟩ := R3.out.h6s; clear hb e2 e3 e4 e5)
          | (go_at_call 55; (with_reducible refine (pcalled ys yn w3).mono ?_); rintro x w4 ⟨g1, g2, rfl, hr1, hr2, hb⟩; have G1 := Lib.hid hr1; have G2 := Lib.hid hr2; have S4 := Lib.hid (S3.out.kept hb); have R4 := Lib.hid (R3.out.below hb R3.out.lt); have B4 := Lib.hid (B3.out.trans (hb.mono B3.out.size)); clear hr1 hr2 hb e0 e1)
          | (go_at_call 54; (with_reducible refine (HC.out g1 g2 w4 B4.out G1.out G2.out).mono ?_); rintro x w5 ⟨rfl, hb⟩; have S5 := Lib.hid (S4.out.kept hb); have R5 := Lib.hid (R4.out.below hb R4.out.lt); have B5 := Lib.hid (B4.out.trans (hb.mono B4.out.size)); clear hb))
        go_ret2
        rw [HE.out]
        exact ⟨_, rfl, S5.out, B5.out⟩
      · have hE := (show addM L ⟨ys, yn, yb, yt, yk, Q⟩ = (L.take (aheadM ⟨ys, yn, yb, yt, yk, Q⟩ L) ++ [⟨ys, yn, yb, yt, yk, Q⟩] ++ L.drop (aheadM ⟨ys, yn, yb, yt, yk, Q⟩ L), 0) by unfold addM; rw [if_neg (by rw [H0.out]; decide), if_neg (by dsimp only; rw [H1.out]; decide), if_neg (by rw [HLN.out]; exact h12)])
        have g12 : ¬ (12 : Int) ≤ (n : Int) := by omega
        rcases HAO.out with ⟨hax, hah⟩ | ⟨k, hax, hah, hkn⟩
        · rw [hah] at hE
          rw [hax] at HA
          have HE := Lib.hid hE
          have HPOS := Lib.hid (Nat.le_refl n)
          clear hE hax hah HAO
          go_enter Tryz.func25, Tryz.ntmps25
          go_wp2_with (first
            | ((with_reducible refine box_row (o := ⟨some 3, _, _, _, _, _⟩) rfl _ _ rfl (snC ys yn yb yt yk ya ym yc) rfl ?_); intro w1 hr hb hz; have R1 := Lib.hid hr; have B1 := Lib.hid hb; clear hr hb hz)
            | (go_at_call 51; (with_reducible refine (mcopy a n c L w1 (H.out.mono B1.out) HN.out HF.out).mono ?_); rintro x w2 ⟨a2, c2, rfl, hs, hb⟩; have S2 := Lib.hid (hs.base B1.out.size); have R2 := Lib.hid (R1.out.below hb R1.out.lt); have B2 := Lib.hid (B1.out.trans (hb.mono B1.out.size)); clear hs hb)
            | ((with_reducible refine load_row (o := ⟨some 11, _, _, _, _, _⟩) rfl _ _ rfl w.heap.size ?_ _ (snC ys yn yb yt yk ya ym yc) _ R2.out Tryz.underlying45 rfl ?_ ?_); (focus go_simp); (focus (exact SZ.out)))
            | (go_at_call 53; (with_reducible refine (HO.out w2 B2.out).mono ?_); rintro x w3 ⟨rfl, hb⟩; have S3 := Lib.hid (S2.out.kept hb); have R3 := Lib.hid (R2.out.below hb R2.out.lt); have B3 := Lib.hid (B2.out.trans (hb.mono B2.out.size)); obtain ⟨e0, e1, e2, e3, e4, e5⟩ := R3.out.h6s; clear hb e2 e3 e4 e5)
            | (go_at_call 55; (with_reducible refine (pcalled ys yn w3).mono ?_); rintro x w4 ⟨g1, g2, rfl, hr1, hr2, hb⟩; have G1 := Lib.hid hr1; have G2 := Lib.hid hr2; have S4 := Lib.hid (S3.out.kept hb); have R4 := Lib.hid (R3.out.below hb R3.out.lt); have B4 := Lib.hid (B3.out.trans (hb.mono B3.out.size)); clear hr1 hr2 hb e0 e1)
            | (go_at_call 54; (with_reducible refine (HC.out g1 g2 w4 B4.out G1.out G2.out).mono ?_); rintro x w5 ⟨rfl, hb⟩; have S5 := Lib.hid (S4.out.kept hb); have R5 := Lib.hid (R4.out.below hb R4.out.lt); have B5 := Lib.hid (B4.out.trans (hb.mono B4.out.size)); clear hb)
            | (go_at_call 56; (with_reducible refine (HA.out w5 B5.out R5.out).mono ?_); rintro x w6 ⟨rfl, hb⟩; have S6 := Lib.hid (S5.out.kept hb); have R6 := Lib.hid (R5.out.below hb R5.out.lt); have B6 := Lib.hid (B5.out.trans (hb.mono B5.out.size)); clear hb)
            | ((with_reducible refine load_row (o := ⟨some 38, _, _, _, _, _⟩) rfl _ _ rfl w.heap.size ?_ _ (snC ys yn yb yt yk ya ym yc) _ R6.out Tryz.underlying45 rfl ?_ ?_); (focus go_simp); (focus (exact SZ.out)))
            | (go_at_call 52; (with_reducible refine (HOW.out w6 B6.out).mono ?_); rintro x w7 ⟨a7, c7, rfl, hown, hb⟩; have O7 := Lib.hid (hown.base B6.out.size); have S7 := Lib.hid (S6.out.kept hb); have B7 := Lib.hid (B6.out.trans (hb.mono B6.out.size)); clear hown hb)
            | ((with_reducible refine build_rowM snOk (sn_fill ⟨⟨ys, yn, yb, yt, yk, Q⟩, a7, ym, c7⟩) (o := ⟨some 40, _, _, _, _, _⟩) rfl _ rfl (by decide) ?_ ?_); (focus (first | (go_simp; done) | (go_simp; rfl))); intro w8 hl hb hz; have X8 := Lib.hid hl; have S8 := Lib.hid (S7.out.kept hb); have Z8 := Lib.hid (show OwnX w8 w.heap.size ⟨⟨ys, yn, yb, yt, yk, Q⟩, a7, ym, c7⟩ from ⟨FY.out.sp, FY.out.nm, FY.out.by', FY.out.ti, FY.out.ke, FY.out.P.hlen, (fun p hp => FY.out.P.hfit p hp), O7.out.kept hb⟩); have B8 := Lib.hid (B7.out.trans (hb.mono B7.out.size)); have OB := Lib.hid (show (Value.slice a2 n c2).ownBlock ≠ some w7.heap.size from fun e => sno_lt S7.out e); clear hl hb hz)
            | (go_at_call 59; (with_reducible refine (sno_insert (.slice a2 n c2) w.heap.size n n w7.heap.size L ⟨⟨ys, yn, yb, yt, yk, Q⟩, a7, ym, c7⟩ w8 S8.out Z8.out HLN.out HPOS.out HN.out X8.out OB.out B8.out.size).mono ?_); rintro x w9 ⟨v9, rfl, hl, hb⟩; have S9 := Lib.hid hl; have B9 := Lib.hid (B8.out.trans hb); clear hl hb))
          go_ret2
          rw [HE.out]
          exact ⟨_, rfl, S9.out, B9.out⟩
        · rw [hah] at hE
          rw [hax] at HA
          have HE := Lib.hid hE
          have HPOS := Lib.hid (Nat.le_of_lt hkn)
          have k0 : ¬ ((k : Int) < 0) := by omega
          clear hE hax hah HAO
          go_enter Tryz.func25, Tryz.ntmps25
          go_wp2_with (first
            | ((with_reducible refine box_row (o := ⟨some 3, _, _, _, _, _⟩) rfl _ _ rfl (snC ys yn yb yt yk ya ym yc) rfl ?_); intro w1 hr hb hz; have R1 := Lib.hid hr; have B1 := Lib.hid hb; clear hr hb hz)
            | (go_at_call 51; (with_reducible refine (mcopy a n c L w1 (H.out.mono B1.out) HN.out HF.out).mono ?_); rintro x w2 ⟨a2, c2, rfl, hs, hb⟩; have S2 := Lib.hid (hs.base B1.out.size); have R2 := Lib.hid (R1.out.below hb R1.out.lt); have B2 := Lib.hid (B1.out.trans (hb.mono B1.out.size)); clear hs hb)
            | ((with_reducible refine load_row (o := ⟨some 11, _, _, _, _, _⟩) rfl _ _ rfl w.heap.size ?_ _ (snC ys yn yb yt yk ya ym yc) _ R2.out Tryz.underlying45 rfl ?_ ?_); (focus go_simp); (focus (exact SZ.out)))
            | (go_at_call 53; (with_reducible refine (HO.out w2 B2.out).mono ?_); rintro x w3 ⟨rfl, hb⟩; have S3 := Lib.hid (S2.out.kept hb); have R3 := Lib.hid (R2.out.below hb R2.out.lt); have B3 := Lib.hid (B2.out.trans (hb.mono B2.out.size)); obtain ⟨e0, e1, e2, e3, e4, e5⟩ := R3.out.h6s; clear hb e2 e3 e4 e5)
            | (go_at_call 55; (with_reducible refine (pcalled ys yn w3).mono ?_); rintro x w4 ⟨g1, g2, rfl, hr1, hr2, hb⟩; have G1 := Lib.hid hr1; have G2 := Lib.hid hr2; have S4 := Lib.hid (S3.out.kept hb); have R4 := Lib.hid (R3.out.below hb R3.out.lt); have B4 := Lib.hid (B3.out.trans (hb.mono B3.out.size)); clear hr1 hr2 hb e0 e1)
            | (go_at_call 54; (with_reducible refine (HC.out g1 g2 w4 B4.out G1.out G2.out).mono ?_); rintro x w5 ⟨rfl, hb⟩; have S5 := Lib.hid (S4.out.kept hb); have R5 := Lib.hid (R4.out.below hb R4.out.lt); have B5 := Lib.hid (B4.out.trans (hb.mono B4.out.size)); clear hb)
            | (go_at_call 56; (with_reducible refine (HA.out w5 B5.out R5.out).mono ?_); rintro x w6 ⟨rfl, hb⟩; have S6 := Lib.hid (S5.out.kept hb); have R6 := Lib.hid (R5.out.below hb R5.out.lt); have B6 := Lib.hid (B5.out.trans (hb.mono B5.out.size)); clear hb)
            | ((with_reducible refine load_row (o := ⟨some 38, _, _, _, _, _⟩) rfl _ _ rfl w.heap.size ?_ _ (snC ys yn yb yt yk ya ym yc) _ R6.out Tryz.underlying45 rfl ?_ ?_); (focus go_simp); (focus (exact SZ.out)))
            | (go_at_call 52; (with_reducible refine (HOW.out w6 B6.out).mono ?_); rintro x w7 ⟨a7, c7, rfl, hown, hb⟩; have O7 := Lib.hid (hown.base B6.out.size); have S7 := Lib.hid (S6.out.kept hb); have B7 := Lib.hid (B6.out.trans (hb.mono B6.out.size)); clear hown hb)
            | ((with_reducible refine build_rowM snOk (sn_fill ⟨⟨ys, yn, yb, yt, yk, Q⟩, a7, ym, c7⟩) (o := ⟨some 40, _, _, _, _, _⟩) rfl _ rfl (by decide) ?_ ?_); (focus (first | (go_simp; done) | (go_simp; rfl))); intro w8 hl hb hz; have X8 := Lib.hid hl; have S8 := Lib.hid (S7.out.kept hb); have Z8 := Lib.hid (show OwnX w8 w.heap.size ⟨⟨ys, yn, yb, yt, yk, Q⟩, a7, ym, c7⟩ from ⟨FY.out.sp, FY.out.nm, FY.out.by', FY.out.ti, FY.out.ke, FY.out.P.hlen, (fun p hp => FY.out.P.hfit p hp), O7.out.kept hb⟩); have B8 := Lib.hid (B7.out.trans (hb.mono B7.out.size)); have OB := Lib.hid (show (Value.slice a2 n c2).ownBlock ≠ some w7.heap.size from fun e => sno_lt S7.out e); clear hl hb hz)
            | (go_at_call 59; (with_reducible refine (sno_insert (.slice a2 n c2) w.heap.size n k w7.heap.size L ⟨⟨ys, yn, yb, yt, yk, Q⟩, a7, ym, c7⟩ w8 S8.out Z8.out HLN.out HPOS.out HN.out X8.out OB.out B8.out.size).mono ?_); rintro x w9 ⟨v9, rfl, hl, hb⟩; have S9 := Lib.hid hl; have B9 := Lib.hid (B8.out.trans hb); clear hl hb))
          go_ret2
          rw [HE.out]
          exact ⟨_, rfl, S9.out, B9.out⟩
end Go.Proofs.YtphlkdfcngdlnaaGreat.W
